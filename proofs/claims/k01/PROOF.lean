import PyProof.Rows.All
import Wide.All
import OpenK.AllK
import Wide.FinOn
import HandS.ForMost
import HandS.Flow
import HandS.IsInst
import HandS.Wide
import HandS.WideBits
import HandS.TupAny
import HandS.Exc
import HandS.TryOnly
import HandS.ExcOwn
import HandS.WordsExc
import HandS.ExcIs
import KE.KUnpackStar
import PySem.Challenge.RW_spiraldue_k01_covers
set_option Elab.async false
set_option maxRecDepth 100000
set_option maxHeartbeats 4000000
/-! ### P1. heaps -/
namespace Sd
open PySem PySem.Spec PyProof.Rows L2
set_option linter.all false
theorem same_new {H : Hp} {p : Addr} {o : HO} (h : H p = none) : Same H (upd H p o) := fun b u q => by
  rw [upd_ne (ne_of_none q h)]
  exact q
theorem same_put {H H' : Hp} {p : Addr} {o : HO} (s : Same H H') (h : H p = none) : Same H (upd H' p o) := fun b u q => by
  rw [upd_ne (ne_of_none q h)]
  exact s b u q
theorem same_add {H H' : Hp} {p : Addr} {o : HO} (s : Same H H') (h : H' p = none) : Same H (upd H' p o) := s.trans (same_new h)
theorem same_sqt {K : PySem.W.Frag} {H H' : Hp} {a : Addr} {xs : List V} (e : Same H H') (h : SqT K H a xs) : SqT K H' a xs := by
  rcases h with (h | ⟨o, h⟩) | h
  · exact .inl (.inl (e _ _ h))
  · exact .inl (.inr ⟨o, e _ _ h⟩)
  · exact .inr h
/-- a list or a tuple of xs -/
def Sq (K : PySem.W.Frag) (H : Hp) (a : Addr) (xs : List V) : Prop := SqL K H a xs ∨ SqT K H a xs
theorem same_sq {K : PySem.W.Frag} {H H' : Hp} {a : Addr} {xs : List V} (e : Same H H') (h : Sq K H a xs) : Sq K H' a xs := by
  rcases h with h | h
  · exact .inl (e.seq h)
  · exact .inr (same_sqt e h)
/-- all but p stands as it stood -/
def Bar (p : Addr) (H H' : Hp) : Prop := ∀ b o, b ≠ p → H b = some o → H' b = some o
theorem Bar.refl {p : Addr} (H : Hp) : Bar p H H := fun _ _ _ h => h
theorem Bar.trans {p : Addr} {H H1 H2 : Hp} (a : Bar p H H1) (b : Bar p H1 H2) : Bar p H H2 := fun c o n h => b c o n (a c o n h)
theorem Bar.of {p : Addr} {H H' : Hp} (s : Same H H') : Bar p H H' := fun b o _ h => s b o h
theorem Bar.put {p : Addr} {H H' : Hp} {o : HO} (s : Bar p H H') : Bar p H (upd H' p o) := fun b u n q => by
  rw [upd_ne n]
  exact s b u n q
theorem Bar.add {p q : Addr} {H H' : Hp} {o : HO} (s : Bar p H H') (h : H' q = none) : Bar p H (upd H' q o) := s.trans (Bar.of (same_new h))
theorem Bar.keep {p : Addr} {H0 H : Hp} (h : H0 p = none) (s : Bar p H0 H) : Same H0 H := fun b o q => s b o (ne_of_none q h) q
theorem Bar.free {p q : Addr} {H H' : Hp} (s : Bar p H H') (n : q ≠ p) (h : H' q = none) : H q = none := by
  cases e : H q with
  | none => rfl
  | some o =>
    rw [s q o n e] at h
    cases h
theorem Bar.new {p q : Addr} {H : Hp} {o : HO} (hp : H p = some o) (h : H q = none) : q ≠ p := (ne_of_none hp h).symm

theorem free2 {H : Hp} {p o : Addr} {u : HO} (np : H p = none) (no : upd H p u o = none) : H o = none := (same_new np).free no

/-! ### P2. rules -/
/-- sum(xs) of a list or a tuple of ints -/
def rSumS (K : PySem.W.Frag) : List V → Hp → VK → Prop := fun vs H Q => ∃ (a : Addr) (ns : List Int), vs = [V.ref a] ∧ Sq K H a (ns.map V.int) ∧ Q (.int ns.sum) H
theorem cr_sumS {X : Cx} (hc : X.calm = true) : CallR X (.builtin "sum") (rSumS X.K) := by
  intro pins s σ H vs us Q I r h
  obtain ⟨a, ns, rfl, hs | hs, q⟩ := h
  · exact cr_sum hc pins s σ H _ us Q I r ⟨a, ns, rfl, hs, q⟩
  · obtain ⟨its, rv, ⟨ob, ho, hcl, n, hd⟩, _⟩ := I.tuple hs
    rw [Vals.ref1 r]
    have hi := rv.ints
    have ht : s.heap.IsTuple a its.toArray := ⟨ob, ho, hcl, n, hd⟩
    obtain ⟨xs, e⟩ := hi.allInts.items
    have hn : numsOf (intItems xs).toList = ns := by rw [← e]; exact hi.numsOf
    rw [nums_intItems] at hn
    rw [e] at ht
    refine PySem.W.ktm_sumG (I.ok.hd hc) ht fun h' tk t' hk => ?_
    rw [preSum_eq, List.take_of_length_le (by simp), hn]
    exact ⟨.int _, H, I.kept hk, ⟨_, rfl⟩, q⟩
/-- what isinstance asks -/
theorem tyx_lst {K : PySem.W.Frag} {H : Hp} {a : Addr} {xs : List V} (h : SqL K H a xs) : TyX K H (.ref a) (.type "list") := by
  rcases h with (h | ⟨o, h⟩) | ⟨o, its, n, hk, hc, _⟩
  · exact .base (.lst h)
  · exact .base (.frz h)
  · exact .kList hk hc
theorem tyx_tup {K : PySem.W.Frag} {H : Hp} {a : Addr} {xs : List V} (h : SqT K H a xs) : TyX K H (.ref a) (.type "tuple") := by
  rcases h with (h | ⟨o, h⟩) | ⟨o, its, n, hk, hc, _⟩
  · exact .base (.tup h)
  · exact .fTuple h
  · exact .kTuple hk hc
/-- tuple + tuple, whichever is empty -/
theorem cat_any {K : PySem.W.Frag} {H : Hp} {a b : Addr} {xs ys : List V} {Q : VK} (ha : SqT K H a xs) (hb : SqT K H b ys) (hz : xs.length + ys.length ≤ sizeLine) (q : ∀ p H', Same H H' → SqT K H' p (xs ++ ys) → Q (.ref p) H') : rCatA K (.ref a) (.ref b) H Q := by
  refine ⟨a, b, xs, ys, rfl, rfl, ha, hb, hz, fun e => ?_, fun _ e => ?_, fun _ _ p np => q p _ (same_new np) (SqT.of upd_same)⟩
  · subst e
    exact q b H (Same.refl H) hb
  · subst e
    rw [List.append_nil] at q
    exact q a H (Same.refl H) ha
theorem pe_gi {X : Cx} {x : Str} {n : Int} {pos : Pos} (hg : Gl X x) (h : ∃ t, X.mg x = some (Value.int n t)) (hd : (x == ("__debug__" : Str)) = false := by decide) : PE X (.Name x pos) (tC (.int n)) :=
  let ⟨t, e⟩ := h
  pe_glob (v := .int n) hg e ⟨t, rfl⟩ hd
theorem pe_gs {X : Cx} {x : Str} {n : Str} {pos : Pos} (hg : Gl X x) (h : ∃ t, X.mg x = some (Value.str n t)) (hd : (x == ("__debug__" : Str)) = false := by decide) : PE X (.Name x pos) (tC (.str n)) :=
  let ⟨t, e⟩ := h
  pe_glob (v := .str n) hg e ⟨t, rfl⟩ hd
/-- an own error: a class over ValueError without a making of its own -/
structure ExF (K : PySem.W.Frag) (mg : Str → Option Value) (x : Str) (C : Addr) : Prop where
  g : mg x = some (.ref C)
  x : PySem.W.excIn K C [.type "ValueError", .type "Exception", .type "BaseException", .type "object"] "ValueError.__new__" = true
  k : PySem.W.keepIn K (.ref C) = true
  b : PySem.W.subIn K (.ref C) (.type "BaseException") = some true
  t : PySem.W.typeIn K (.ref C) = some (.type "type")
  e : PySem.W.exmOne K (.ref C) (.ref C) = some true
/-- isinstance of the error that a suite holds -/
theorem call_isEx {X : Cx} {a : Addr} {oe : Obj} {cls : Value} {d : Option Addr} {pn : List (Addr × Obj)} (hz : Zc cls d oe) (hf : ∃ vs, oe.data = .fields vs) :
    CallR (X.suite a ((a, oe) :: pn)) (.builtin "isinstance") (fun xs H Q => ∃ D, cls = .ref D ∧ d = none ∧ ExcC X.K D ∧ rIsE X.K D a xs H Q) := by
  intro pins s σ H xs us Q I r h
  obtain ⟨D, rfl, rfl, C, h⟩ := h
  exact call_isE C hz hf pins s σ H xs us Q I r h
/-- a def of the module: where it stands, how it binds, its name -/
structure Dfn (K : PySem.W.Frag) (mg : Str → Option Value) (x : Str) (st : Stmt) (ps : List Str) (f : Addr) (fd : FuncData) : Prop where
  F : Fun K x x st f fd
  b : Binds K fd ps []
  m : mg x = some (.ref f)
theorem at_map {ns : List Int} {j : Nat} {v : Int} (h : ns[j]? = some v) : (ns.map V.int)[j]? = some (V.int v) := by
  rw [List.getElem?_map, h] <;> rfl
theorem of_at_map {ns : List Int} {j : Nat} {y : V} (h : (ns.map V.int)[j]? = some y) : ∃ v, y = V.int v ∧ ns[j]? = some v := by
  rw [List.getElem?_map] at h
  cases e : ns[j]? with
  | none =>
    rw [e] at h
    cases h
  | some v =>
    rw [e] at h
    exact ⟨v, (Option.some.inj h).symm, rfl⟩
theorem sz {n : Nat} (h : n ≤ 100000) : n ≤ sizeLine := Nat.le_trans h (by decide)
theorem szl {n : Nat} (h : n < 100000) : n < sizeLine := Nat.lt_of_lt_of_le h (by decide)
theorem iteB {A B : Prop} {b : Bool} (h1 : b = true → A) (h2 : b = false → B) : if b = true then A else B := by
  cases b with
  | true => exact iteT (h1 rfl)
  | false => exact iteF (h2 rfl)
/-- behind a statement with several ways: what holds there in all of them -/
theorem with_rest {t u : TS} {D : Ends} {σ : L2.St} {H : Hp} (M : L2.St → Hp → Prop) (h2 : ∀ σ' H', M σ' H' → u D σ' H') (h1 : (∀ σ' H', M σ' H' → u D σ' H') → t { D with nx := u D } σ H) : tSeq t u D σ H := h1 h2
theorem nx_to {i : Nat} {v : V} {σ : L2.St} {H : Hp} {Q : L2.St → Hp → Prop} (h : Q (σ.set i (some v)) H) : gName i v σ H Q := h
theorem next_to {D : Ends} {σ : L2.St} {H : Hp} (h : D.nx σ H) : tNext D σ H := h
theorem seq_to {t u : TS} {D : Ends} {σ : L2.St} {H : Hp} (h : t { D with nx := u D } σ H) : tSeq t u D σ H := h
theorem asg_to {te : TE} {g : TG} {D : Ends} {σ : L2.St} {H : Hp} (h : te σ H fun x H1 => g x σ H1 D.nx) : tAsg te g D σ H := h
theorem op_to {r : R2} {ta tb : TE} {σ : L2.St} {H : Hp} {Q : VK} (h : ta σ H fun x H1 => tb σ H1 fun y H2 => r x y H2 Q) : tOp r ta tb σ H Q := h
theorem sq_ix {K : PySem.W.Frag} {H : Hp} {a : Addr} {xs : List V} {i : Int} {v : V} {Q : VK} (h : Sq K H a xs) (ha : atI xs i = some v) (q : Q v H) : rIx K (.ref a) (.int i) H Q := by
  rcases h with h | h
  · exact .inl ⟨a, xs, i, v, rfl, rfl, h, ha, q⟩
  · exact .inr (.inl ⟨a, xs, i, v, rfl, rfl, h, ha, q⟩)
end Sd

namespace Sd
open PySem PySem.Spec PyProof.Rows L2
set_option linter.all false
/-! ### the places -/
def top (i : Nat) : Stmt := PySem.Challenge.pw_spiraldue_k01_covers.main.body.getD i (.Pass ⟨0, 0, 0, 0⟩)
abbrev s_is_between : Stmt := top 4
abbrev s_is_cover : Stmt := top 9
abbrev s_check_cover : Stmt := top 10
abbrev s_recovery : Stmt := top 11
abbrev s_law_cell : Stmt := top 13
abbrev s_law_draws : Stmt := top 14
abbrev s_law_stream : Stmt := top 15
abbrev s_law_next : Stmt := top 16
abbrev s_law_is_integer : Stmt := top 17
abbrev s_law_same : Stmt := top 18
abbrev s_law_pays : Stmt := top 19
abbrev s_law_cover : Stmt := top 20
abbrev s_law_is_bad : Stmt := top 21
abbrev s_law : Stmt := top 22
structure Tx (K : PySem.W.Frag) (mg : Str → Option Value) (C_SpiralError C_BadCover : Addr) : Prop where
  isinstance : mg "isinstance" = none
  bool : mg "bool" = none
  int : mg "int" = none
  tuple : mg "tuple" = none
  len : mg "len" = none
  min : mg "min" = none
  max : mg "max" = none
  abs : mg "abs" = none
  range : mg "range" = none
  str : mg "str" = none
  list : mg "list" = none
  ValueError : mg "ValueError" = none
  g_WHOLE : ∃ t, mg "WHOLE" = some (Value.int 1000 t)
  g_MOST_RETENTION : ∃ t, mg "MOST_RETENTION" = some (Value.int 100000 t)
  g_MOST_LIMIT : ∃ t, mg "MOST_LIMIT" = some (Value.int 100000 t)
  exc_SpiralError : ExF K mg "SpiralError" C_SpiralError
  exc_BadCover : ExF K mg "BadCover" C_BadCover
  isx_BadCover : ExcC K C_BadCover
  kitS : PySem.W.kitOne K (.ref C_BadCover) (.ref C_SpiralError) = some true
  kitV : PySem.W.kitOne K (.ref C_BadCover) (.type "ValueError") = some true
theorem sc_is_between : FnScope ["value", "low", "high"] ["value", "low", "high"] (defScope s_is_between) := ⟨rfl, rfl, rfl, by decide +kernel, rfl, by decide +kernel, by decide +kernel⟩
theorem sc_is_cover : FnScope ["value", "word", "numbers"] ["value"] (defScope s_is_cover) := ⟨rfl, rfl, rfl, by decide +kernel, rfl, by decide +kernel, by decide +kernel⟩
theorem sc_check_cover : FnScope ["value"] ["value"] (defScope s_check_cover) := ⟨rfl, rfl, rfl, by decide +kernel, rfl, by decide +kernel, by decide +kernel⟩
theorem sc_recovery : FnScope ["cover", "loss", "_", "retention", "limit"] ["cover", "loss"] (defScope s_recovery) := ⟨rfl, rfl, rfl, by decide +kernel, rfl, by decide +kernel, by decide +kernel⟩
theorem sc_law_cell : FnScope ["script", "k"] ["script", "k"] (defScope s_law_cell) := ⟨rfl, rfl, rfl, by decide +kernel, rfl, by decide +kernel, by decide +kernel⟩
theorem sc_law_draws : FnScope ["cell", "count", "number", "great", "found", "k", "mixed"] ["cell", "count"] (defScope s_law_draws) := ⟨rfl, rfl, rfl, by decide +kernel, rfl, by decide +kernel, by decide +kernel⟩
theorem sc_law_stream : FnScope ["script", "first", "count", "found", "k"] ["script", "first", "count"] (defScope s_law_stream) := ⟨rfl, rfl, rfl, by decide +kernel, rfl, by decide +kernel, by decide +kernel⟩
theorem sc_law_next : FnScope ["stream", "many", "digits", "place", "value"] ["stream", "many"] (defScope s_law_next) := ⟨rfl, rfl, rfl, by decide +kernel, rfl, by decide +kernel, by decide +kernel⟩
theorem sc_law_is_integer : FnScope ["actual"] ["actual"] (defScope s_law_is_integer) := ⟨rfl, rfl, rfl, by decide +kernel, rfl, by decide +kernel, by decide +kernel⟩
theorem sc_law_same : FnScope ["actual", "expected", "k"] ["actual", "expected"] (defScope s_law_same) := ⟨rfl, rfl, rfl, by decide +kernel, rfl, by decide +kernel, by decide +kernel⟩
theorem sc_law_pays : FnScope ["cover", "loss"] ["cover", "loss"] (defScope s_law_pays) := ⟨rfl, rfl, rfl, by decide +kernel, rfl, by decide +kernel, by decide +kernel⟩
theorem sc_law_cover : FnScope ["stream", "kind", "retention"] ["stream"] (defScope s_law_cover) := ⟨rfl, rfl, rfl, by decide +kernel, rfl, by decide +kernel, by decide +kernel⟩
theorem sc_law_is_bad : FnScope ["value", "e"] ["value"] (defScope s_law_is_bad) := ⟨rfl, rfl, rfl, by decide +kernel, rfl, by decide +kernel, by decide +kernel⟩
theorem sc_law : FnScope ["script", "cover", "loss", "wrong", "edge", "value"] ["script"] (defScope s_law) := ⟨rfl, rfl, rfl, by decide +kernel, rfl, by decide +kernel, by decide +kernel⟩
/-! ### C1. a cell of the script -/
def cell (ns : List Int) (j : Nat) : Int := ns.getD j 0
theorem cell_in {ns : List Int} {j : Nat} (h : j < ns.length) : ns[j]? = some (cell ns j) := by
  unfold cell
  rw [List.getElem?_eq_getElem h, List.getD_eq_getElem?_getD, List.getElem?_eq_getElem h]
  rfl
theorem cell_out {ns : List Int} {j : Nat} (h : ¬ j < ns.length) : cell ns j = 0 := by
  unfold cell
  rw [List.getD_eq_getElem?_getD, List.getElem?_eq_none (by omega)]
  rfl
def sp_law_cell (K : PySem.W.Frag) : Sp := fun vs H Q _ => ∃ (a : Addr) (ns : List Int) (j : Nat), vs = [.ref a, .int (j : Int)] ∧ SqL K H a (ns.map V.int) ∧ Q (.int (cell ns j)) H
/-! ### C2. digits of a cell: as many as are asked, each from 0 to 59 -/
def Digs (n : Nat) (ds : List Int) : Prop := ds.length = n ∧ ∀ x ∈ ds, 0 ≤ x ∧ x < 60
def sp_law_draws (K : PySem.W.Frag) : Sp := fun vs H Q _ => ∃ (c : Int) (n : Nat), vs = [.int c, .int (n : Int)] ∧ n ≤ 60 ∧
  ∀ (o : Addr) (H' : Hp) (ds : List Int), Same H H' → H o = none → H' o = some (.lst (ds.map V.int)) → Digs n ds → Q (.ref o) H'
theorem digs_add {ds : List Int} {z : Int} (h : ∀ x ∈ ds, 0 ≤ x ∧ x < 60) : ∀ x ∈ ds ++ [z % 60], 0 ≤ x ∧ x < 60 := by
  intro x hx
  rcases List.mem_append.mp hx with hx | hx
  · exact h x hx
  · have e := List.mem_singleton.mp hx
    omega
/-! ### C3. a stream of digits: the digits and the place; only the place changes -/
structure Strm (s p : Addr) (H : Hp) : Prop where
  ex : ∃ (d : Addr) (ds : List Int) (n : Nat), H s = some (.lst [.ref d, .ref p]) ∧ H d = some (.lst (ds.map V.int)) ∧ 0 < ds.length ∧ H p = some (.lst [.int (n : Int)]) ∧ s ≠ p ∧ d ≠ p
theorem Strm.same {s p : Addr} {H H' : Hp} (S : Strm s p H) (e : Same H H') : Strm s p H' := by
  obtain ⟨d, ds, n, a1, a2, a3, a4, a5, a6⟩ := S.ex
  exact ⟨d, ds, n, e _ _ a1, e _ _ a2, a3, e _ _ a4, a5, a6⟩
theorem Strm.p {s p : Addr} {H : Hp} (S : Strm s p H) : ∃ o, H p = some o := by
  obtain ⟨d, ds, n, a1, a2, a3, a4, a5, a6⟩ := S.ex
  exact ⟨_, a4⟩
theorem Strm.ne {s p q : Addr} {H : Hp} (S : Strm s p H) (h : H q = none) : q ≠ p := by
  obtain ⟨o, e⟩ := S.p
  exact Bar.new e h
/-- the stream goes on: what was read stands, the place is a number -/
theorem Strm.go {s p : Addr} {H H' H2 : Hp} (S : Strm s p H) (b : Bar p H H') (S2 : Strm s p H2) (e : H' p = H2 p) : Strm s p H' := by
  obtain ⟨d, ds, n, a1, a2, a3, a4, a5, a6⟩ := S.ex
  obtain ⟨_, _, m, _, _, _, b4, _, _⟩ := S2.ex
  exact ⟨d, ds, m, b s _ a5 a1, b d _ a6 a2, a3, e.trans b4, a5, a6⟩
/-- an object that was new behind the stream's making is changed -/
theorem Strm.put {s p D : Addr} {H H' : Hp} {o : HO} (S : Strm s p H) (b : Bar p H H') (S2 : Strm s p H') (h : H D = none) (n : D ≠ p) : Strm s p (upd H' D o) :=
  S.go (fun c u ne q => by rw [upd_ne (ne_of_none q h)]; exact b c u ne q) S2 (upd_ne n.symm)
theorem Bar.put2 {p D : Addr} {H H' : Hp} {o : HO} (b : Bar p H H') (h : H D = none) : Bar p H (upd H' D o) := fun c u ne q => by
  rw [upd_ne (ne_of_none q h)]
  exact b c u ne q
def sp_law_stream (K : PySem.W.Frag) : Sp := fun vs H Q _ => ∃ (a : Addr) (ns : List Int) (j n : Nat), vs = [.ref a, .int (j : Int), .int (n : Int)] ∧ SqL K H a (ns.map V.int) ∧ 0 < n ∧ n ≤ 63 ∧
  ∀ (s p : Addr) (H' : Hp), Same H H' → H p = none → Strm s p H' → Q (.ref s) H'
def sp_law_next (K : PySem.W.Frag) : Sp := fun vs H Q _ => ∃ (s p : Addr) (m : Int), vs = [.ref s, .int m] ∧ 0 < m ∧ Strm s p H ∧
  ∀ (z : Int) (H' : Hp), 0 ≤ z → z < m → Bar p H H' → Strm s p H' → Q (.int z) H'
theorem mod_at {ds : List Int} {n : Nat} (h : 0 < ds.length) : ∃ v, atI (ds.map V.int) ((n : Int) % ((ds.map V.int).length : Nat)) = some (V.int v) := by
  rw [List.length_map]
  have e : (n : Int) % (ds.length : Int) = ((n % ds.length : Nat) : Int) := by omega
  have hlt : n % ds.length < ds.length := Nat.mod_lt _ h
  rw [e]
  exact ⟨ds[n % ds.length], atI_nat (at_map (List.getElem?_eq_getElem hlt))⟩
/-! ### C4. the same data -/
def dOk : Nat → PyData → Bool
  | 0, _ => false
  | _ + 1, .none => true
  | _ + 1, .bool _ => true
  | _ + 1, .int _ => true
  | _ + 1, .str _ => true
  | n + 1, .list ds => decide (ds.length ≤ 5000) && ds.all (dOk n)
  | n + 1, .tuple ds => decide (ds.length ≤ 5000) && ds.all (dOk n)
  | _ + 1, _ => false
def sp_law_is_integer (K : PySem.W.Frag) : Sp := fun vs H Q _ => ∃ i : Int, vs = [.int i] ∧ Q (.bl true) H
def sp_law_same (K : PySem.W.Frag) (n : Nat) : Sp := fun vs H Q _ => ∃ (x y : V) (d : PyData), vs = [x, y] ∧ dOk n d = true ∧ Dp K H x d ∧ Dp K H y d ∧ Q (.bl true) H
theorem DpAll.len {K : PySem.W.Frag} {H : Hp} : ∀ {xs : List V} {ds : List PyData}, DpAll K H xs ds → xs.length = ds.length
  | _, _, .nil => rfl
  | _, _, .cons _ t => congrArg Nat.succ (DpAll.len t)
theorem DpAll.get {K : PySem.W.Frag} {H : Hp} : ∀ {xs : List V} {ds : List PyData} {i : Nat} {d : PyData}, DpAll K H xs ds → ds[i]? = some d → ∃ v, xs[i]? = some v ∧ Dp K H v d
  | _, _, _, _, .nil, h => by simp at h
  | _, _, 0, _, .cons r _, h => by
    have e := Option.some.inj h
    subst e
    exact ⟨_, rfl, r⟩
  | _, _, i + 1, _, .cons _ t, h => DpAll.get (i := i) t h
theorem DpAll.ints {K : PySem.W.Frag} {H : Hp} : ∀ ns : List Int, DpAll K H (ns.map V.int) (ns.map PyData.int)
  | [] => .nil
  | n :: r => .cons (.int n) (DpAll.ints r)
theorem dOk_ints (n : Nat) (ns : List Int) : (ns.map PyData.int).all (dOk (n + 1)) = true := by
  rw [List.all_eq_true]
  intro d hd
  obtain ⟨i, _, e⟩ := List.mem_map.mp hd
  subst e
  rfl
/-- isinstance of a value by its data -/
theorem dp_ty {K : PySem.W.Frag} {H : Hp} {x : V} {d : PyData} (h : Dp K H x d) : ∃ t, TyX K H x t ∧ (match d with | .none => t = .type "NoneType" | .bool _ => t = .type "bool" | .int _ => t = .type "int" | .str _ => t = .type "str" | .list _ => t = .type "list" | .tuple _ => t = .type "tuple" | _ => True) := by
  cases h with
  | non => exact ⟨_, .base .non, rfl⟩
  | bl b => exact ⟨_, .base (.bl b), rfl⟩
  | int i => exact ⟨_, .base (.int i), rfl⟩
  | str s => exact ⟨_, .base (.str s), rfl⟩
  | lst h _ => exact ⟨_, tyx_lst h, rfl⟩
  | tup h _ => exact ⟨_, tyx_tup h, rfl⟩
/-! ### V1. covers -/
inductive Cov where
  | share (p : Int)
  | layer (r l : Int)
def cvV : Cov → List V
  | .share p => [.str "share", .int p]
  | .layer r l => [.str "layer", .int r, .int l]
def CvOk : Cov → Prop
  | .share p => 1 ≤ p ∧ p ≤ 1000
  | .layer r l => 0 ≤ r ∧ r ≤ 100000 ∧ 1 ≤ l ∧ l ≤ 100000
def pays : Cov → Int → Int
  | .share p, x => p * x / 1000
  | .layer r l, x => if x ≤ r then 0 else if x - r > l then l else x - r
theorem share_layer : ¬ ("layer" : Str) = "share" := by decide +kernel
theorem pays_step {c : Cov} (h : CvOk c) (x : Int) : pays c (x + 1) = pays c x ∨ pays c (x + 1) = pays c x + 1 := by
  cases c with
  | share p =>
    obtain ⟨h1, h2⟩ := h
    show p * (x + 1) / 1000 = p * x / 1000 ∨ p * (x + 1) / 1000 = p * x / 1000 + 1
    rw [Int.mul_add, Int.mul_one]
    omega
  | layer r l =>
    obtain ⟨h1, h2, h3, h4⟩ := h
    show (if x + 1 ≤ r then 0 else if x + 1 - r > l then l else x + 1 - r) = (if x ≤ r then 0 else if x - r > l then l else x - r) ∨ (if x + 1 ≤ r then 0 else if x + 1 - r > l then l else x + 1 - r) = (if x ≤ r then 0 else if x - r > l then l else x - r) + 1
    by_cases a : x + 1 ≤ r
    · rw [if_pos a, if_pos (by omega)]
      exact .inl rfl
    · rw [if_neg a]
      by_cases b : x ≤ r
      · rw [if_pos b, if_neg (by omega)]
        right
        omega
      · rw [if_neg b]
        by_cases d : x - r > l
        · rw [if_pos d, if_pos (by omega)]
          exact .inl rfl
        · rw [if_neg d]
          by_cases e : x + 1 - r > l
          · rw [if_pos e]
            left
            omega
          · rw [if_neg e]
            right
            omega
theorem pays_range {c : Cov} (h : CvOk c) {x : Int} (h0 : 0 ≤ x) : 0 ≤ pays c x ∧ pays c x ≤ x := by
  cases c with
  | share p =>
    obtain ⟨h1, h2⟩ := h
    show 0 ≤ p * x / 1000 ∧ p * x / 1000 ≤ x
    have a : 0 ≤ p * x := Int.mul_nonneg (by omega) h0
    have b : p * x ≤ 1000 * x := Int.mul_le_mul_of_nonneg_right h2 h0
    omega
  | layer r l =>
    obtain ⟨h1, h2, h3, h4⟩ := h
    show 0 ≤ (if x ≤ r then 0 else if x - r > l then l else x - r) ∧ (if x ≤ r then 0 else if x - r > l then l else x - r) ≤ x
    by_cases b : x ≤ r
    · rw [if_pos b]
      omega
    · rw [if_neg b]
      by_cases d : x - r > l
      · rw [if_pos d]
        omega
      · rw [if_neg d]
        omega
def sp_recovery (K : PySem.W.Frag) : Sp := fun vs H Q _ => ∃ (a : Addr) (c : Cov) (x : Int), vs = [.ref a, .int x] ∧ SqT K H a (cvV c) ∧ CvOk c ∧ Q (.int (pays c x)) H
def sp_law_pays (K : PySem.W.Frag) : Sp := sp_recovery K
theorem max_min (r l x : Int) (h : 1 ≤ l) : (if l < (if (0 : Int) > x - r then 0 else x - r) then l else (if (0 : Int) > x - r then 0 else x - r)) = (if x ≤ r then 0 else if x - r > l then l else x - r) := by
  by_cases b : x ≤ r
  · rw [if_pos b]
    by_cases c : (0 : Int) > x - r
    · rw [if_pos c, if_neg (by omega)]
    · rw [if_neg c, if_neg (by omega)]
      omega
  · rw [if_neg b, if_neg (show ¬ (0 : Int) > x - r by omega)]
def sp_law_cover (K : PySem.W.Frag) : Sp := fun vs H Q _ => ∃ (s p : Addr), vs = [.ref s] ∧ Strm s p H ∧
  ∀ (t : Addr) (c : Cov) (H' : Hp), Bar p H H' → Strm s p H' → H t = none → H' t = some (.tup (cvV c)) → CvOk c → Q (.ref t) H'
/-- an item of a written list of ints at a drawn place -/
theorem pick_at {ns : List Int} {z : Int} (h0 : 0 ≤ z) (h1 : z < (ns.length : Int)) : ∃ v, v ∈ ns ∧ atI (ns.map V.int) z = some (.int v) := by
  obtain ⟨j, rfl⟩ : ∃ j : Nat, z = (j : Int) := ⟨z.toNat, by omega⟩
  have hj : j < ns.length := by omega
  exact ⟨ns[j], List.getElem_mem hj, atI_nat (at_map (List.getElem?_eq_getElem hj))⟩
/-! ### a, *b = a tuple -/
section
open PySem.W PySem.Calls
variable {prog : Program} {w : World} {A : Around} {E : Value → Shared → Prop} {s : Shared}
theorem star_items {l : Addr} {its : Array Value} {n i : Nat} {Q : List Value → Shared → Prop} (ht : IsTup s.heap l its)
    (calm : A.handled = none) (hin : i < n) (hni : n ≤ its.size + 1) (few : its.size ≤ 16384)
    (q : ∀ (h2 : Heap) (tk : Nat), (∀ b o, s.heap.get? b = some o → h2.get? b = some o) →
      Q (its.toList.take i ++ [.ref h2.objs.size] ++ (its.toList.drop i).drop (its.size + 1 - n))
        { s with heap := h2.push { cls := .type "list", data := .seq ((its.toList.drop i).take (its.size + 1 - n)).toArray }, toks := tk }) :
    wpAny (model prog w) A (unpackItems (.ref l) n (some i)) Q E s := by
  have below : l < s.heap.objs.size := by
    obtain ⟨o, e, _⟩ := ht
    exact Heap.lt_size e
  have apart : l ≠ s.heap.objs.size := Nat.ne_of_lt below
  unfold unpackItems notIterableAtAll
  refine wpAny_bind (wpAny_bind (wpAny_specialOf ht.typeIs
    slot_tuple_iter.lookup (wpAny_pure ?_)))
  rw [if_neg Bool.false_ne_true]
  refine wpAny_bind (wpAny_holding
    (iter_tuple ht ?_))
  have ahead : (its.toList.take i).length = i := by
    rw [List.length_take, Array.length_toList]
    omega
  have behind : (its.toList.drop i).length = its.size - i := by
    rw [List.length_drop, Array.length_toList]
  refine wpAny_bind (wpAny_holding (draw_tuple apart i 0 _ _
    ⟨_, Heap.get?_push_size _ rfl, rfl, rfl⟩ (ht.push _) (by omega) fun h1 at1 same1 => ?_))
  have tup1 : IsTup h1 l its :=
    (ht.push _).extBut same1.extBut apart
  rw [Nat.zero_add] at at1
  have there : ∃ o, h1.get? s.heap.objs.size = some o := by
    obtain ⟨o, e, _⟩ := at1
    exact ⟨o, e⟩
  have there2 : ∃ o, h1.get? l = some o := by
    obtain ⟨o, e, _⟩ := tup1
    exact ⟨o, e⟩
  obtain ⟨o1, e1⟩ := there
  obtain ⟨o2, e2⟩ := there2
  rw [List.drop_zero, if_neg (show ¬ (its.toList.take i).length < i by omega)]
  refine wpAny_bind (wpAny_holding (kun_collect (s := { s with heap := h1 })
    (T := "tuple_iterator") (.inr (.inr (.inr rfl)))
    (Walks.tuple (A := A.in1) calm s.heap.objs.size l apart its)
    (fun _ _ st => st.1.typeIs) (k := i) (by omega) ⟨at1, tup1⟩
    (Heap.lt_size e1) (Heap.lt_size e2) (fun h2 tk keep2 => ?_)
    (by rw [sizeLine_eq]; omega)))
  have mid : (its.toList.drop i).length - (n - 1 - i) = its.size + 1 - n := by
    omega
  show wpAny _ _ (if _ < n - 1 - i then _ else _) _ _ _
  rw [if_neg (show ¬ (its.toList.drop i).length < n - 1 - i by omega)]
  have kept : ∀ b o, s.heap.get? b = some o → h2.get? b = some o := fun b o e =>
    have nb : b ≠ s.heap.objs.size := Nat.ne_of_lt (Heap.lt_size e)
    keep2 b o nb (same1.extBut b o nb (Heap.get?_push_of_some _ e))
  show wpAny _ _ (newList _ >>= _) _ _ _
  rw [mid]
  exact wpAny_bind (wpAny_newList (wpAny_pure
    (q h2 tk kept))
    (by rw [List.length_take, sizeLine_eq]; omega))
end
def gStar (K : PySem.W.Frag) (n i : Nat) (t : TGs) : TG := fun v σ H Q => ∃ a xs, v = .ref a ∧ SqT K H a xs ∧ n ≤ xs.length + 1 ∧ xs.length ≤ 16384 ∧
  ∀ D, H D = none → t (xs.take i ++ [.ref D] ++ (xs.drop i).drop (xs.length + 1 - n)) σ (upd H D (.lst ((xs.drop i).take (xs.length + 1 - n)))) Q
section
variable {X : Cx}
theorem pgs_star {e : Expr} {es : List Expr} {p : Pos} {t : TG} {u : TGs} (h1 : PG X e t) (h2 : PGs X es u)
    (hs : (assignEach (.Starred e p :: es) X.env).map (·.2) = assign e X.env :: (assignEach es X.env).map (·.2) := by rfl) : PGs X (.Starred e p :: es) (gCons t u) := by
  refine ⟨fun pins s σ H vs us Q I r h => ?_⟩
  obtain ⟨v, vr, rfl, h⟩ := h
  cases r with
  | cons r rr =>
    rw [hs]
    exact assignInOrder_cons (thn (h1.run pins s σ H _ _ _ I r h) fun _ s1 ⟨σ1, H1, I1, q1⟩ => h2.run pins s1 σ1 H1 _ _ Q I1 rr q1)
theorem pg_star {es : List Expr} {k : Nat} {pos : Pos} {t : TGs} {n i : Nat} (hc : X.calm = true) (h : PGs X es t) (hi : i < n)
    (hn : (assignEach es X.env).length = n := by rfl) (hst : (assignEach es X.env).findIdx? (·.1) = some i := by rfl) : PG X (.Tuple es k pos) (gStar X.K n i t) := by
  refine ⟨fun pins s σ H v u Q I r hw => ?_⟩
  obtain ⟨a, xs, rfl, hq, hl, hz, hw⟩ := hw
  cases r
  obtain ⟨its, rv, ht, _⟩ := I.tuple hq
  have el := rv.length
  rw [assign_Tuple]
  refine wpAny_bind (wpAny_standAt ?_)
  unfold unpack
  rw [hn, hst]
  refine wpAny_bind (wpAny_holding (star_items ht (I.ok.hd hc) hi (by rw [List.size_toArray]; omega) (by rw [List.size_toArray]; omega) fun h2 tk kept => ?_))
  have I2 : Inv X pins σ H { s with heap := h2 } := I.kept (t' := s.toks) kept
  have nD : H h2.objs.size = none := I2.hok.fresh (Nat.le_refl _)
  have hw := hw _ nD
  have esz : its.toArray.size = xs.length := by rw [List.size_toArray]; exact el.symm
  rw [esz]
  have ok : ObjOk X.prog X.w (upd H h2.objs.size (.lst ((xs.drop i).take (xs.length + 1 - n)))) (h2.push { cls := .type "list", data := .seq ((its.drop i).take (xs.length + 1 - n)).toArray }) h2.objs.size (.lst ((xs.drop i).take (xs.length + 1 - n))) :=
    ⟨by rw [List.length_take, List.length_drop, sizeLine_eq]; omega, _, _, (rv.drop i).take _, Heap.get?_push_size _ rfl⟩
  have I3 := I2.laid (t' := tk) (fun b o e => Heap.get?_push_of_some _ e) (Nat.le_refl _) ok
  exact h.run pins _ σ _ _ _ Q I3 (((rv.take i).append (.cons (show RelV (V.ref h2.objs.size) (Value.ref h2.objs.size) from rfl) .nil)).append ((rv.drop i).drop _)) hw
end
/-! ### what is a cover -/
def btw : V → Int → Int → Bool
  | .int i, lo, hi => decide (lo ≤ i) && decide (i ≤ hi)
  | _, _, _ => false
def isCov : List V → Bool
  | [.str w, x] => decide (w = "share") && btw x 1 1000
  | [.str w, x, y] => decide (w = "layer") && (btw x 0 100000 && btw y 1 100000)
  | _ => false
/-- a value that is no cover: no tuple, or a tuple of flat things -/
def NoCov (K : PySem.W.Frag) (H : Hp) (x : V) : Prop :=
  (∃ t, TyX K H x t ∧ PySem.W.kitOne K t (.type "tuple") = some false) ∨ ∃ (a : Addr) (xs : List V), x = .ref a ∧ SqT K H a xs ∧ xs.length ≤ 1000 ∧ xs.all flatV = true ∧ isCov xs = false
/-- a value that is one -/
def IsCovV (K : PySem.W.Frag) (H : Hp) (x : V) : Prop := ∃ (a : Addr) (c : Cov), x = .ref a ∧ SqT K H a (cvV c) ∧ CvOk c
theorem isCov_cvV {c : Cov} (h : CvOk c) : isCov (cvV c) = true := by
  cases c with
  | share p =>
    obtain ⟨h1, h2⟩ := h
    show (decide (("share" : Str) = "share") && (decide (1 ≤ p) && decide (p ≤ 1000))) = true
    rw [decide_eq_true rfl, decide_eq_true h1, decide_eq_true h2]
    rfl
  | layer r l =>
    obtain ⟨h1, h2, h3, h4⟩ := h
    show (decide (("layer" : Str) = "layer") && ((decide (0 ≤ r) && decide (r ≤ 100000)) && (decide (1 ≤ l) && decide (l ≤ 100000)))) = true
    rw [decide_eq_true rfl, decide_eq_true h1, decide_eq_true h2, decide_eq_true h3, decide_eq_true h4]
    rfl
theorem cv_len (c : Cov) : (cvV c).length ≤ 1000 := by
  cases c with
  | share p => exact (show 2 ≤ 1000 by decide)
  | layer r l => exact (show 3 ≤ 1000 by decide)
theorem flat_cvV (c : Cov) : (cvV c).all flatV = true := by
  cases c <;> rfl
def sp_is_between (K : PySem.W.Frag) : Sp := fun vs H Q _ => ∃ (x : V) (lo hi : Int), vs = [x, .int lo, .int hi] ∧ flatV x = true ∧ Q (.bl (btw x lo hi)) H
def sp_is_cover (K : PySem.W.Frag) : Sp := fun vs H Q _ => ∃ x : V, vs = [x] ∧
  ((∃ t, TyX K H x t ∧ PySem.W.kitOne K t (.type "tuple") = some false ∧ Q (.bl false) H) ∨
    ∃ (a : Addr) (xs : List V), x = .ref a ∧ SqT K H a xs ∧ xs.length ≤ 1000 ∧ xs.all flatV = true ∧ ∀ H', Same H H' → Q (.bl (isCov xs)) H')
theorem ty_flat {K : PySem.W.Frag} {H : Hp} {x : V} (h : flatV x = true) : ∃ n, TyX K H x (.type n) ∧ ((n = "bool" ∧ ∃ b, x = .bl b) ∨ (n = "int" ∧ ∃ i, x = .int i) ∨ ((n = "str" ∨ n = "NoneType") ∧ ∀ lo hi, btw x lo hi = false)) := by
  cases x with
  | non => exact ⟨_, .base .non, .inr (.inr ⟨.inr rfl, fun _ _ => rfl⟩)⟩
  | bl b => exact ⟨_, .base (.bl b), .inl ⟨rfl, b, rfl⟩⟩
  | int i => exact ⟨_, .base (.int i), .inr (.inl ⟨rfl, i, rfl⟩)⟩
  | str z => exact ⟨_, .base (.str z), .inr (.inr ⟨.inl rfl, fun _ _ => rfl⟩)⟩
  | byt _ => cases h
  | flt _ => cases h
  | ref _ => cases h
  | ty _ => cases h
def sp_check_cover (K : PySem.W.Frag) (C : Addr) : Sp := fun vs H Q E => ∃ x : V, vs = [x] ∧ ((IsCovV K H x ∧ ∀ H', Same H H' → Q .non H') ∨ (NoCov K H x ∧ ∀ H', Same H H' → E (.ref C) none H'))
def sp_law_is_bad (K : PySem.W.Frag) : Sp := fun vs H Q _ => ∃ x : V, vs = [x] ∧ ((IsCovV K H x ∧ ∀ H', Same H H' → Q (.bl false) H') ∨ (NoCov K H x ∧ ∀ H', Same H H' → Q (.bl true) H'))
def sp_law (K : PySem.W.Frag) : Sp := fun vs H Q _ => ∃ (a : Addr) (ns : List Int), vs = [.ref a] ∧ SqL K H a (ns.map V.int) ∧ ns.length ≤ 63 ∧ ∀ H', Q (.bl true) H'
theorem tyx_same {K : PySem.W.Frag} {H H' : Hp} {x : V} {t : Value} (e : Same H H') (h : TyX K H x t) : TyX K H' x t := by
  cases h with
  | base b =>
    refine .base ?_
    cases b with
    | non => exact .non
    | bl y => exact .bl y
    | int i => exact .int i
    | str y => exact .str y
    | flt y => exact .flt y
    | lst ea => exact .lst (e _ _ ea)
    | frz ea => exact .frz (e _ _ ea)
    | tup ea => exact .tup (e _ _ ea)
    | dK ea => exact .dK (e _ _ ea)
    | dT ea => exact .dT (e _ _ ea)
    | ins ea cl ha hn htk hm => exact .ins (e _ _ ea) cl ha hn htk hm
  | byt b => exact .byt b
  | set ea => exact .set (e _ _ ea)
  | kList k c => exact .kList k c
  | kTuple k c => exact .kTuple k c
  | kDict k c => exact .kDict k c
  | fTuple ea => exact .fTuple (e _ _ ea)
  | fDict ea => exact .fDict (e _ _ ea)
theorem NoCov.same {K : PySem.W.Frag} {H H' : Hp} {x : V} (e : Same H H') (h : NoCov K H x) : NoCov K H' x := by
  rcases h with ⟨t, ty, k⟩ | ⟨a, xs, rfl, hS, r⟩
  · exact .inl ⟨t, tyx_same e ty, k⟩
  · exact .inr ⟨a, xs, rfl, same_sqt e hS, r⟩
theorem IsCovV.same {K : PySem.W.Frag} {H H' : Hp} {x : V} (e : Same H H') (h : IsCovV K H x) : IsCovV K H' x := by
  obtain ⟨a, c, rfl, hS, r⟩ := h
  exact ⟨a, c, rfl, same_sqt e hS, r⟩
/-! values of a kind, made one behind the other -/
def GvE (P : Hp → V → Prop) (te : TE) (σ : L2.St) (H : Hp) : Prop := ∀ H1, Same H H1 → ∀ Q : VK, (∀ v H2, Same H1 H2 → P H2 v → Q v H2) → te σ H1 Q
def GvA (P : Hp → V → Prop) (ta : TA) (σ : L2.St) (H : Hp) (n : Nat) : Prop := ∀ H1, Same H H1 → ∀ Q : List V → Hp → Prop, (∀ vs H2, Same H1 H2 → vs.length = n → (∀ v ∈ vs, P H2 v) → Q vs H2) → ta σ H1 Q
section
variable {P : Hp → V → Prop} {σ : L2.St} {H : Hp} {te : TE} {ta : TA} {n : Nat}
theorem gva_nil : GvA P tNil σ H 0 := fun H1 _ Q q => q [] H1 (Same.refl H1) rfl (fun v hv => nomatch hv)
theorem gva_cons (m : ∀ H H' v, Same H H' → P H v → P H' v) (h : GvE P te σ H) (t : GvA P ta σ H n) : GvA P (tCons te ta) σ H (n + 1) := fun H1 e Q q =>
  h H1 e _ fun v H2 e2 pv => t H2 (e.trans e2) _ fun vs H3 e3 hl hp => q (v :: vs) H3 (e2.trans e3) (by rw [List.length_cons, hl]) fun u hu => by
    rcases List.mem_cons.mp hu with rfl | hu
    · exact m _ _ _ e3 pv
    · exact hp u hu
theorem gve_tup {xs : List V} (h : ∀ H1 (Q : List V → Hp → Prop), Q xs H1 → ta σ H1 Q) (hl : xs.length ≤ 1000) (p : ∀ H1 a, H1 a = some (.tup xs) → P H1 (.ref a)) : GvE P (tTup ta) σ H := fun H1 _ Q q =>
  h H1 _ ⟨sz (by omega), fun a na => q _ _ (same_new na) (p _ a upd_same)⟩
theorem gve_c {v : V} (p : ∀ H1, P H1 v) : GvE P (tC v) σ H := fun H1 _ Q q => q v H1 (Same.refl H1) (p H1)
end
theorem gve_lst {P : Hp → V → Prop} {σ : L2.St} {H : Hp} {ta : TA} {n : Nat} {Q : VK} (h : GvA P ta σ H n) (hn : n ≤ 1000) (q : ∀ (vs : List V) (H2 : Hp) (w : Addr), Same H H2 → vs.length = n → (∀ v ∈ vs, P H2 v) → H2 w = none → Q (.ref w) (upd H2 w (.lst vs))) : tLst ta σ H Q :=
  h H (Same.refl H) _ fun vs H2 s hl hv => ⟨sz (by omega), fun w nw => q vs H2 w s hl hv nw⟩
theorem no_tup {K : PySem.W.Frag} {xs : List V} (h : (xs.all flatV && !isCov xs) = true) (hl : xs.length ≤ 1000) : ∀ H1 a, H1 a = some (.tup xs) → NoCov K H1 (.ref a) := fun H1 a e => by
  rw [Bool.and_eq_true] at h
  refine .inr ⟨a, xs, rfl, SqT.of e, hl, h.1, ?_⟩
  have h2 := h.2
  cases z : isCov xs with
  | true =>
    rw [z] at h2
    cases h2
  | false => rfl
theorem is_tup {K : PySem.W.Frag} {c : Cov} (h : CvOk c) : ∀ H1 a, H1 a = some (.tup (cvV c)) → IsCovV K H1 (.ref a) := fun H1 a e => ⟨a, c, rfl, SqT.of e, h⟩

end Sd
namespace Sd
open PySem PySem.Spec PyProof.Rows L2
set_option linter.all false
section
variable {P : Program} {w : World} {K : PySem.W.Frag} {mg : Str → Option Value} {base : Heap} {C_SpiralError C_BadCover : Addr}
theorem ok_is_between {f : Addr} {fd : FuncData} (D_is_between : Dfn K mg "is_between" s_is_between ["value", "low", "high"] f fd) (T : Tx K mg C_SpiralError C_BadCover) :
    FnOk P w K mg base CX0 (1) f fd ["value", "low", "high"] (sp_is_between K) := by
  refine D_is_between.F.ok sc_is_between (fun vs H Q E h => ?_) (fun cdv A outer s H vs Q E hr h => ?_)
  · obtain ⟨x, lo, hi, rfl, hf, q⟩ := h
    rfl
  obtain ⟨x, lo, hi, rfl, hf, q⟩ := h
  obtain ⟨n, ty, k⟩ := ty_flat (K := K) (H := H) hf
  rcases k with ⟨rfl, b, rfl⟩ | ⟨rfl, i, rfl⟩ | ⟨rfl | rfl, e⟩
  · refine ⟨_, (pss_cons (ps_if (PW.pt (pw_or (pt_val (pe_callB call_isi (by rfl) T.isinstance (by decide +kernel) (pa_cons (pv 0) (pa_cons (pe_bltn (v := .ty "bool") (by rfl) T.bool (by decide +kernel) rfl) pa_nil)))) (pw_or1 (pt_not (pt_val (pe_callB call_isi (by rfl) T.isinstance (by decide +kernel) (pa_cons (pv 0) (pa_cons (pe_bltn (v := .ty "int") (by rfl) T.int (by decide +kernel) rfl) pa_nil))))))))
      (pss_one (ps_ret pe_bl))
      pss_nil)
      (pss_one (ps_ret (pe_chain op_le op_le (pv 1) (pv 0) (pv 2))))), ?_⟩
    refine ⟨_, rfl, _, _, _, _, _, rfl, .ty _, ty, kit_ty (r := true) (by decide +kernel), _, rfl, iteT (iteT ?_)⟩
    exact q
  · refine ⟨_, (pss_cons (ps_if (PW.pt (pw_or (pt_val (pe_callB call_isi (by rfl) T.isinstance (by decide +kernel) (pa_cons (pv 0) (pa_cons (pe_bltn (v := .ty "bool") (by rfl) T.bool (by decide +kernel) rfl) pa_nil)))) (pw_or1 (pt_not (pt_val (pe_callB call_isi (by rfl) T.isinstance (by decide +kernel) (pa_cons (pv 0) (pa_cons (pe_bltn (v := .ty "int") (by rfl) T.int (by decide +kernel) rfl) pa_nil))))))))
      (pss_one (ps_ret pe_bl))
      pss_nil)
      (pss_one (ps_ret (pe_chain op_le op_le (pv 1) (pv 0) (pv 2))))), ?_⟩
    refine ⟨_, rfl, _, _, _, _, _, rfl, .ty _, ty, kit_ty (r := false) (by decide +kernel), _, rfl, iteF ?_⟩
    refine ⟨_, rfl, _, _, _, _, _, rfl, .ty _, ty, kit_ty (r := true) (by decide +kernel), _, rfl, iteF ?_⟩
    refine ⟨_, rfl, _, rfl, _, _, rfl, rfl, _, rfl, ?_⟩
    have q : Q (.bl (decide (lo ≤ i) && decide (i ≤ hi))) H := q
    refine iteB (fun c => ?_) (fun c => ?_)
    · rw [c, Bool.true_and] at q
      exact ⟨_, rfl, _, _, rfl, rfl, q⟩
    · rw [c, Bool.false_and] at q
      exact q
  · refine ⟨_, (pss_cons (ps_if (PW.pt (pw_or (pt_val (pe_callB call_isi (by rfl) T.isinstance (by decide +kernel) (pa_cons (pv 0) (pa_cons (pe_bltn (v := .ty "bool") (by rfl) T.bool (by decide +kernel) rfl) pa_nil)))) (pw_or1 (pt_not (pt_val (pe_callB call_isi (by rfl) T.isinstance (by decide +kernel) (pa_cons (pv 0) (pa_cons (pe_bltn (v := .ty "int") (by rfl) T.int (by decide +kernel) rfl) pa_nil))))))))
      (pss_one (ps_ret pe_bl))
      pss_nil)
      (pss_one (ps_ret (pe_chain op_le op_le (pv 1) (pv 0) (pv 2))))), ?_⟩
    rw [e] at q
    refine ⟨_, rfl, _, _, _, _, _, rfl, .ty _, ty, kit_ty (r := false) (by decide +kernel), _, rfl, iteF ?_⟩
    refine ⟨_, rfl, _, _, _, _, _, rfl, .ty _, ty, kit_ty (r := false) (by decide +kernel), _, rfl, iteT ?_⟩
    exact q
  · refine ⟨_, (pss_cons (ps_if (PW.pt (pw_or (pt_val (pe_callB call_isi (by rfl) T.isinstance (by decide +kernel) (pa_cons (pv 0) (pa_cons (pe_bltn (v := .ty "bool") (by rfl) T.bool (by decide +kernel) rfl) pa_nil)))) (pw_or1 (pt_not (pt_val (pe_callB call_isi (by rfl) T.isinstance (by decide +kernel) (pa_cons (pv 0) (pa_cons (pe_bltn (v := .ty "int") (by rfl) T.int (by decide +kernel) rfl) pa_nil))))))))
      (pss_one (ps_ret pe_bl))
      pss_nil)
      (pss_one (ps_ret (pe_chain op_le op_le (pv 1) (pv 0) (pv 2))))), ?_⟩
    rw [e] at q
    refine ⟨_, rfl, _, _, _, _, _, rfl, .ty _, ty, kit_ty (r := false) (by decide +kernel), _, rfl, iteF ?_⟩
    refine ⟨_, rfl, _, _, _, _, _, rfl, .ty _, ty, kit_ty (r := false) (by decide +kernel), _, rfl, iteT ?_⟩
    exact q

theorem ok_is_cover {f : Addr} {fd : FuncData} (D_is_cover : Dfn K mg "is_cover" s_is_cover ["value"] f fd) (T : Tx K mg C_SpiralError C_BadCover) {f_is_between : Addr} {fd_is_between : FuncData} (D_is_between : Dfn K mg "is_between" s_is_between ["value", "low", "high"] f_is_between fd_is_between) (G_is_between : FnOk P w K mg base CX0 (1) f_is_between fd_is_between ["value", "low", "high"] (sp_is_between K)) :
    FnOk P w K mg base CX0 (2) f fd ["value"] (sp_is_cover K) := by
  refine D_is_cover.F.ok sc_is_cover (fun vs H Q E h => ?_) (fun cdv A outer s H vs Q E hr h => ?_)
  · obtain ⟨x, rfl, h⟩ := h
    rfl
  obtain ⟨x, rfl, h⟩ := h
  refine ⟨_, (pss_cons (ps_if (PW.pt (pw_or (pt_not (pt_val (pe_callB call_isi (by rfl) T.isinstance (by decide +kernel) (pa_cons (pv 0) (pa_cons (pe_bltn (v := .ty "tuple") (by rfl) T.tuple (by decide +kernel) rfl) pa_nil))))) (pw_or1 (pt_cmpR op_eq (pe_callB call_len_seq (by rfl) T.len PySem.boot_len (pa_cons (pv 0) pa_nil)) pe_int (nomark _)))))
      (pss_one (ps_ret pe_bl))
      pss_nil)
      (pss_cons (ps_asg (pv 0) (pg_star (n := 2) (i := 1) rfl (pgs_cons (pg_name (i := 1) sc_is_cover.nd rfl (by first | exact Or.inl rfl | exact Or.inr rfl)) (pgs_star (pg_name (i := 2) sc_is_cover.nd rfl (by first | exact Or.inl rfl | exact Or.inr rfl)) pgs_nil)) (by decide)))
      (pss_cons (ps_if (pt_cmpR op_eq (pv 1) pe_str (nomark _))
      (pss_one (ps_ret (pe_and (pe_cmpR op_eq (pe_callB call_len_seq (by rfl) T.len PySem.boot_len (pa_cons (pv 2) pa_nil)) pe_int (nomark _)) (pe_one (pe_call G_is_between (hr.mono (by first | decide | omega)) rfl D_is_between.m D_is_between.F.kp D_is_between.b .nil pass0 (pa_cons (pe_ix (r := rIxL K) ix_list (pv 2) pe_int (fun _ _ => rfl)) (pa_cons pe_int (pa_cons (pe_gi rfl T.g_WHOLE) pa_nil))))))))
      pss_nil)
      (pss_cons (ps_if (pt_cmpR op_eq (pv 1) pe_str (nomark _))
      (pss_one (ps_ret (pe_and (pe_cmpR op_eq (pe_callB call_len_seq (by rfl) T.len PySem.boot_len (pa_cons (pv 2) pa_nil)) pe_int (nomark _)) (pe_and (pe_call G_is_between (hr.mono (by first | decide | omega)) rfl D_is_between.m D_is_between.F.kp D_is_between.b .nil pass0 (pa_cons (pe_ix (r := rIxL K) ix_list (pv 2) pe_int (fun _ _ => rfl)) (pa_cons pe_int (pa_cons (pe_gi rfl T.g_MOST_RETENTION) pa_nil)))) (pe_one (pe_call G_is_between (hr.mono (by first | decide | omega)) rfl D_is_between.m D_is_between.F.kp D_is_between.b .nil pass0 (pa_cons (pe_ix (r := rIxL K) ix_list (pv 2) pe_int (fun _ _ => rfl)) (pa_cons pe_int (pa_cons (pe_gi rfl T.g_MOST_LIMIT) pa_nil)))))))))
      pss_nil)
      (pss_one (ps_ret pe_bl)))))), ?_⟩
  rcases h with ⟨t, ty, hk, q⟩ | ⟨a, xs, rfl, hS, hl, hf, q⟩
  · exact ⟨_, rfl, _, _, _, _, _, rfl, .ty _, ty, hk, _, rfl, iteT (iteT q)⟩
  · refine ⟨_, rfl, _, _, _, _, _, rfl, .ty _, tyx_tup hS, kit_ty (r := true) (by decide +kernel), _, rfl, iteF ?_⟩
    refine ⟨_, rfl, a, xs, rfl, .inr hS, rfl, _, rfl, ?_⟩
    cases xs with
    | nil =>
      refine iteT ?_
      exact q H (Same.refl H)
    | cons w r =>
      have e0 : decide (V.int (((w :: r).length : Nat) : Int) = V.int 0) = false := decide_eq_false (fun e => by
        have := V.int.inj e
        rw [List.length_cons] at this
        omega)
      rw [e0]
      refine iteF ?_
      rw [List.all_cons, Bool.and_eq_true] at hf
      rw [List.length_cons] at hl
      refine ⟨_, rfl, a, w :: r, rfl, hS, (by rw [List.length_cons]; omega), (by rw [List.length_cons]; omega), fun D nD => ?_⟩
      have hr : ((w :: r).drop 1).take ((w :: r).length + 1 - 2) = r := List.take_of_length_le (by
        rw [List.length_cons]
        show r.length ≤ r.length + 1 + 1 - 2
        omega)
      rw [hr]
      refine ⟨_, _, rfl, _, _, rfl, List.drop_eq_nil_of_le (by
        rw [List.length_cons]
        show r.length ≤ r.length + 1 + 1 - 2
        omega), ?_⟩
      have sD : Same H (upd H D (.lst r)) := same_new nD
      have hD : upd H D (.lst r) D = some (.lst r) := upd_same
      obtain ⟨H1, h1⟩ : ∃ H1, upd H D (.lst r) = H1 := ⟨_, rfl⟩
      rw [h1] at sD hD ⊢
      have q := q H1 sD
      have scw : ∀ z : Str, scal w (.str z) = true := fun z => by
        cases w <;> first | rfl | (cases hf.1)
      refine ⟨_, rfl, scw _, _, rfl, ?_⟩
      refine iteB (fun c => ?_) (fun c => ?_)
      · have ew : w = .str "share" := of_decide_eq_true c
        subst ew
        refine ⟨_, rfl, D, r, rfl, .inl (SqL.of hD), rfl, _, rfl, ?_⟩
        cases r with
        | nil => exact q
        | cons x r2 =>
          cases r2 with
          | nil =>
            refine iteT ?_
            have fx : flatV x = true := by
              have := hf.2
              rw [List.all_cons, Bool.and_eq_true] at this
              exact this.1
            refine ⟨_, rfl, D, _, _, x, rfl, rfl, SqL.of hD, rfl, x, 1, 1000, rfl, fx, ?_⟩
            have e : isCov [.str "share", x] = btw x 1 1000 := by
              show (decide (("share" : Str) = "share") && btw x 1 1000) = btw x 1 1000
              rw [decide_eq_true rfl, Bool.true_and]
            rw [e] at q
            exact q
          | cons y r3 =>
            have e1 : decide (V.int (((x :: y :: r3).length : Nat) : Int) = V.int 1) = false := decide_eq_false (fun e => by
              have := V.int.inj e
              rw [List.length_cons, List.length_cons] at this
              omega)
            rw [e1]
            refine iteF ?_
            have e2 : isCov (.str "share" :: x :: y :: r3) = false := by
              cases r3 with
              | nil =>
                show (decide (("share" : Str) = "layer") && (btw x 0 100000 && btw y 1 100000)) = false
                rw [decide_eq_false (fun e => share_layer e.symm), Bool.false_and]
              | cons _ _ => rfl
            rw [e2] at q
            exact q
      · have nw : ¬ w = .str "share" := of_decide_eq_false c
        refine ⟨_, rfl, scw _, _, rfl, ?_⟩
        refine iteB (fun d => ?_) (fun d => ?_)
        · have ew : w = .str "layer" := of_decide_eq_true d
          subst ew
          refine ⟨_, rfl, D, r, rfl, .inl (SqL.of hD), rfl, _, rfl, ?_⟩
          match r, q, hD, hf with
          | [], q, _, _ => exact q
          | [x], q, _, _ =>
            have e2 : isCov [.str "layer", x] = false := by
              show (decide (("layer" : Str) = "share") && btw x 1 1000) = false
              rw [decide_eq_false share_layer, Bool.false_and]
            rw [e2] at q
            exact q
          | [x, y], q, hD, hf =>
            refine iteT ?_
            have f2 := hf.2
            rw [List.all_cons, List.all_cons, Bool.and_eq_true, Bool.and_eq_true] at f2
            have e : isCov [.str "layer", x, y] = (btw x 0 100000 && btw y 1 100000) := by
              show (decide (("layer" : Str) = "layer") && (btw x 0 100000 && btw y 1 100000)) = (btw x 0 100000 && btw y 1 100000)
              rw [decide_eq_true (rfl : ("layer" : Str) = "layer")]
              exact Bool.true_and _
            rw [e] at q
            refine ⟨_, rfl, D, _, _, x, rfl, rfl, SqL.of hD, rfl, x, 0, 100000, rfl, f2.1, _, rfl, ?_⟩
            refine iteB (fun g => ?_) (fun g => ?_)
            · rw [g, Bool.true_and] at q
              exact ⟨_, rfl, D, _, _, y, rfl, rfl, SqL.of hD, rfl, y, 1, 100000, rfl, f2.2.1, q⟩
            · rw [g, Bool.false_and] at q
              exact q
          | x :: y :: z :: r4, q, _, _ =>
            have e1 : decide (V.int (((x :: y :: z :: r4).length : Nat) : Int) = V.int 2) = false := decide_eq_false (fun e => by
              have := V.int.inj e
              rw [List.length_cons, List.length_cons, List.length_cons] at this
              omega)
            rw [e1]
            refine iteF ?_
            exact q
        · have nw2 : ¬ w = .str "layer" := of_decide_eq_false d
          have e2 : isCov (w :: r) = false := by
            cases w with
            | str z =>
              have n1 : ¬ z = "share" := fun e => nw (by rw [e])
              have n2 : ¬ z = "layer" := fun e => nw2 (by rw [e])
              match r with
              | [] => rfl
              | [x] =>
                show (decide (z = "share") && btw x 1 1000) = false
                rw [decide_eq_false n1, Bool.false_and]
              | [x, y] =>
                show (decide (z = "layer") && (btw x 0 100000 && btw y 1 100000)) = false
                rw [decide_eq_false n2, Bool.false_and]
              | _ :: _ :: _ :: _ => rfl
            | _ => rfl
          rw [e2] at q
          exact q

theorem ok_check_cover {f : Addr} {fd : FuncData} (D_check_cover : Dfn K mg "check_cover" s_check_cover ["value"] f fd) (T : Tx K mg C_SpiralError C_BadCover) {f_is_cover : Addr} {fd_is_cover : FuncData} (D_is_cover : Dfn K mg "is_cover" s_is_cover ["value"] f_is_cover fd_is_cover) (G_is_cover : FnOk P w K mg base CX0 (2) f_is_cover fd_is_cover ["value"] (sp_is_cover K)) :
    FnOk P w K mg base (L2.CX P w) (3) f fd ["value"] (sp_check_cover K C_BadCover) := by
  refine D_check_cover.F.okX sc_check_cover (fun vs H Q E h => ?_) (fun cdv A outer s H vs Q E hr h => ?_)
  · obtain ⟨x, rfl, h⟩ := h
    rfl
  obtain ⟨x, rfl, h⟩ := h
  refine ⟨_, (pss_one (ps_if (pt_not (pt_val (pe_call G_is_cover (hr.mono (by first | decide | omega)) rfl D_is_cover.m D_is_cover.F.kp D_is_cover.b .nil pass0 (pa_cons (pv 0) pa_nil))))
      (pss_one (ps_raise rfl (takes_of rfl rfl rfl rfl) (pmk_own PySem.F.excBase_ValueError T.exc_BadCover.x T.exc_BadCover.g T.exc_BadCover.k (raises_own T.exc_BadCover.b T.exc_BadCover.t) rfl)))
      pss_nil)), ?_⟩
  rcases h with ⟨⟨a, c, rfl, hS, hok⟩, q⟩ | ⟨⟨t, ty, hk⟩ | ⟨a, xs, rfl, hS, hl, hf, hc⟩, q⟩
  · refine ⟨_, rfl, _, rfl, .inr ⟨a, cvV c, rfl, hS, cv_len c, flat_cvV c, fun H' sm => ⟨_, rfl, ?_⟩⟩⟩
    rw [isCov_cvV hok]
    exact iteF (q H' sm)
  · exact ⟨_, rfl, _, rfl, .inl ⟨t, ty, hk, _, rfl, iteT (q H (Same.refl H))⟩⟩
  · refine ⟨_, rfl, _, rfl, .inr ⟨a, xs, rfl, hS, hl, hf, fun H' sm => ⟨_, rfl, ?_⟩⟩⟩
    rw [hc]
    exact iteT (q H' sm)

theorem ok_recovery {f : Addr} {fd : FuncData} (D_recovery : Dfn K mg "recovery" s_recovery ["cover", "loss"] f fd) (T : Tx K mg C_SpiralError C_BadCover) :
    FnOk P w K mg base CX0 (1) f fd ["cover", "loss"] (sp_recovery K) := by
  refine D_recovery.F.ok sc_recovery (fun vs H Q E h => ?_) (fun cdv A outer s H vs Q E hr h => ?_)
  · obtain ⟨a, c, x, rfl, hS, hc, q⟩ := h
    rfl
  obtain ⟨a, c, x, rfl, hS, hc, q⟩ := h
  refine ⟨_, (pss_cons (ps_if (pt_cmpR op_eq (pe_ix (r := rIxT K) ix_tup (pv 0) pe_int (fun _ _ => rfl)) pe_str (nomark _))
      (pss_one (ps_ret (pe_op op_fdiv (pe_op op_mul (pe_ix (r := rIxT K) ix_tup (pv 0) pe_int (fun _ _ => rfl)) (pv 1)) (pe_gi rfl T.g_WHOLE))))
      pss_nil)
      (pss_cons (ps_asg (pv 0) (pg_tup rfl (pgs_cons (pg_name (i := 2) sc_recovery.nd rfl (by first | exact Or.inl rfl | exact Or.inr rfl)) (pgs_cons (pg_name (i := 3) sc_recovery.nd rfl (by first | exact Or.inl rfl | exact Or.inr rfl)) (pgs_cons (pg_name (i := 4) sc_recovery.nd rfl (by first | exact Or.inl rfl | exact Or.inr rfl)) pgs_nil)))))
      (pss_one (ps_ret (pe_callB (call_min2 rfl) (by rfl) T.min (by decide +kernel) (pa_cons (pe_callB (call_max2 rfl) (by rfl) T.max (by decide +kernel) (pa_cons (pe_op op_sub (pv 1) (pv 3)) (pa_cons pe_int pa_nil))) (pa_cons (pv 4) pa_nil))))))), ?_⟩
  cases c with
  | share p =>
    obtain ⟨h1, h2⟩ := hc
    refine ⟨_, rfl, a, _, _, _, rfl, rfl, hS, rfl, rfl, _, rfl, ?_⟩
    refine iteT ?_
    exact ⟨_, rfl, a, _, _, _, rfl, rfl, hS, rfl, _, rfl, _, _, rfl, rfl, .inl ⟨by omega, by omega⟩, _, _, rfl, rfl, ⟨by decide, by decide⟩, q⟩
  | layer r l =>
    obtain ⟨h1, h2, h3, h4⟩ := hc
    refine ⟨_, rfl, a, _, _, _, rfl, rfl, hS, rfl, rfl, _, rfl, ?_⟩
    rw [show decide (V.str "layer" = V.str "share") = false from decide_eq_false (fun e => share_layer (V.str.inj e))]
    refine iteF ?_
    refine ⟨_, rfl, a, _, rfl, hS, rfl, _, _, rfl, _, _, rfl, _, _, rfl, rfl, ?_⟩
    refine ⟨_, rfl, _, rfl, _, _, rfl, rfl, _, _, rfl, _, rfl, _, _, rfl, ?_⟩
    rw [max_min r l x h3]
    exact q

theorem ok_law_cell {f : Addr} {fd : FuncData} (D_law_cell : Dfn K mg "_law_cell" s_law_cell ["script", "k"] f fd) (T : Tx K mg C_SpiralError C_BadCover) :
    FnOk P w K mg base CX0 (1) f fd ["script", "k"] (sp_law_cell K) := by
  refine D_law_cell.F.ok sc_law_cell (fun vs H Q E h => ?_) (fun cdv A outer s H vs Q E hr h => ?_)
  · obtain ⟨a, ns, j, rfl, hS, q⟩ := h
    rfl
  obtain ⟨a, ns, j, rfl, hS, q⟩ := h
  refine ⟨_, (pss_cons (ps_if (pt_cmpR op_lt (pv 1) (pe_callB call_len_seq (by rfl) T.len PySem.boot_len (pa_cons (pv 0) pa_nil)) (nomark _))
      (pss_one (ps_ret (pe_callTy call_int1 (by rfl) T.int (by decide +kernel) (pa_cons (pe_ix (r := rIxL K) ix_list (pv 0) (pv 1) (fun _ _ => rfl)) pa_nil))))
      pss_nil)
      (pss_one (ps_ret pe_int))), ?_⟩
  refine ⟨_, rfl, _, rfl, a, _, rfl, .inl hS, _, _, rfl, rfl, _, rfl, ?_⟩
  refine iteB (fun c => ?_) (fun c => ?_)
  · have c' : (j : Int) < ((ns.map V.int).length : Nat) := of_decide_eq_true c
    rw [List.length_map] at c'
    exact ⟨_, rfl, _, rfl, a, _, _, V.int (cell ns j), rfl, rfl, hS, atI_nat (at_map (cell_in (by omega))), .inl ⟨_, rfl, q⟩⟩
  · have c' : ¬ (j : Int) < ((ns.map V.int).length : Nat) := of_decide_eq_false c
    rw [List.length_map] at c'
    have e : cell ns j = 0 := cell_out (by omega)
    rw [e] at q
    exact q

theorem ok_law_draws {f : Addr} {fd : FuncData} (D_law_draws : Dfn K mg "_law_draws" s_law_draws ["cell", "count"] f fd) (T : Tx K mg C_SpiralError C_BadCover) :
    FnOk P w K mg base CX0 (1) f fd ["cell", "count"] (sp_law_draws K) := by
  refine D_law_draws.F.ok sc_law_draws (fun vs H Q E h => ?_) (fun cdv A outer s H vs Q E hr h => ?_)
  · obtain ⟨c, n, rfl, hn, q⟩ := h
    rfl
  obtain ⟨c, n, rfl, hn, q⟩ := h
  refine ⟨_, (pss_cons (ps_set (i := 2) sc_law_draws.nd rfl (by first | exact Or.inl rfl | exact Or.inr rfl) (pe_callB call_abs (by rfl) T.abs (by decide +kernel) (pa_cons (pe_callTy call_int1 (by rfl) T.int (by decide +kernel) (pa_cons (pv 0) pa_nil)) pa_nil)))
      (pss_cons (ps_set (i := 3) sc_law_draws.nd rfl (by first | exact Or.inl rfl | exact Or.inr rfl) (pe_cmpR op_ge (pv 2) (pe_op op_pow pe_int pe_int) (nomark _)))
      (pss_cons (ps_set (i := 4) sc_law_draws.nd rfl (by first | exact Or.inl rfl | exact Or.inr rfl) (pe_lst pa_nil))
      (pss_cons (ps_for PassesOwn.never rfl (pi_range1 (by rfl) T.range (pa_cons pe_int pa_nil)) (pg_name (i := 5) sc_law_draws.nd rfl (by first | exact Or.inl rfl | exact Or.inr rfl))
      (pss_one (ps_if (PW.pt (pw_and (pt_cmpR op_lt (pv 5) (pv 1) (nomark _)) (pw_and1 (pt_val (pv 3)))))
      (pss_cons (ps_expr (pe_bm PySem.F.plainAttrs_list PySem.F.slot_list_append PySem.F.type_list_append mt_append (pv 4) (pa_cons (pe_op op_mod (pv 2) pe_int) pa_nil)))
      (pss_one (ps_set (i := 2) sc_law_draws.nd rfl (by first | exact Or.inl rfl | exact Or.inr rfl) (pe_op op_fdiv (pv 2) pe_int))))
      (pss_one (ps_if (pt_cmpR op_lt (pv 5) (pv 1) (nomark _))
      (pss_cons (ps_set (i := 6) sc_law_draws.nd rfl (by first | exact Or.inl rfl | exact Or.inr rfl) (pe_op op_mod (pe_op op_add (pe_op op_add (pe_op op_mul (pe_callTy call_int1 (by rfl) T.int (by decide +kernel) (pa_cons (pv 2) pa_nil)) pe_int) (pe_op op_mul (pv 5) pe_int)) pe_int) pe_int))
      (pss_cons (ps_set (i := 6) sc_law_draws.nd rfl (by first | exact Or.inl rfl | exact Or.inr rfl) (pe_op op_mod (pe_op op_add (pe_op op_add (pe_op op_mul (pe_callTy call_int1 (by rfl) T.int (by decide +kernel) (pa_cons (pv 6) pa_nil)) (pe_callTy call_int1 (by rfl) T.int (by decide +kernel) (pa_cons (pv 6) pa_nil))) (pe_op op_mul (pv 5) pe_int)) pe_int) pe_int))
      (pss_one (ps_expr (pe_bm PySem.F.plainAttrs_list PySem.F.slot_list_append PySem.F.type_list_append mt_append (pv 4) (pa_cons (pe_op op_mod (pe_callTy call_int1 (by rfl) T.int (by decide +kernel) (pa_cons (pv 6) pa_nil)) pe_int) pa_nil))))))
      pss_nil)))))
      (pss_one (ps_ret (pv 4))))))), ?_⟩
  refine ⟨_, rfl, .inl ⟨_, rfl, _, rfl, _, rfl, _, _, rfl, rfl, ⟨by decide, by decide, by decide⟩, _, _, rfl, rfl, Nat.zero_le _, fun o no => ?_⟩⟩
  have h0 : 0 ≤ (if c < 0 then -c else c) := by split <;> omega
  generalize (if c < 0 then -c else c) = num at h0 ⊢
  obtain ⟨gr, hg⟩ : ∃ gr, decide ((10 : Int) ^ (18 : Int).toNat ≤ num) = gr := ⟨_, rfl⟩
  have h1 : gr = false → num < 1000000000000000000 := fun e => by
    rw [e] at hg
    have z := of_decide_eq_false hg
    have z2 : (10 : Int) ^ (18 : Int).toNat = 1000000000000000000 := by decide
    rw [z2] at z
    omega
  refine ⟨60, rfl, by decide, by decide, for_range (lo := 0) (n := 60) (fun i σ H' => ∃ (m : Int) (ds : List Int) (kv mv : Option V), σ = [some (.int c), some (.int (n : Int)), some (.int m), some (.bl gr), some (.ref o), kv, mv] ∧ 0 ≤ m ∧ (gr = false → m < 1000000000000000000) ∧
    Same H H' ∧ H' o = some (.lst (ds.map V.int)) ∧ ds.length = min i n ∧ ∀ x ∈ ds, 0 ≤ x ∧ x < 60) ⟨num, [], none, none, by rw [← hg]; rfl, h0, h1, same_new no, upd_same, by simp, fun x hx => (nomatch hx)⟩ ?_ ?_⟩
  · rintro i σ H' hi ⟨m, ds, kv, mv, rfl, m0, m1, sm, ho, hl, hb⟩
    have app : ∀ z : Int, ((ds ++ [z % 60]).length = ds.length + 1) := fun z => by rw [List.length_append]; rfl
    have ea : ∀ z : Int, ds.map V.int ++ [V.int (z % 60)] = (ds ++ [z % 60]).map V.int := fun z => by rw [List.map_append]; rfl
    have hz : (ds.map V.int).length < sizeLine := by rw [List.length_map]; exact szl (by omega)
    refine ⟨_, rfl, _, rfl, _, _, rfl, rfl, _, rfl, ?_⟩
    refine iteB (fun c1 => ?_) (fun c1 => ?_)
    · have c1' : (0 : Int) + (i : Int) < (n : Int) := of_decide_eq_true c1
      refine ⟨_, rfl, _, rfl, ?_⟩
      refine iteB (fun c2 => ?_) (fun c2 => ?_)
      · refine ⟨_, rfl, .inl ⟨rfl, _, SqL.of ho⟩, _, rfl, _, _, rfl, rfl, (by show (0 : Int) < 60; decide), o, _, _, rfl, rfl, ho, hz, ?_⟩
        refine ⟨_, rfl, _, _, rfl, rfl, ⟨by decide, by decide⟩, ?_⟩
        refine ⟨m / 60, ds ++ [m % 60], _, _, rfl, Int.ediv_nonneg m0 (by decide), (fun z => by rw [c2] at z; cases z), same_put sm no, by rw [upd_same, ea], by rw [app]; omega, digs_add hb⟩
      · have g1 := m1 c2
        refine ⟨_, rfl, _, rfl, _, _, rfl, rfl, _, rfl, ?_⟩
        refine iteB (fun c3 => ?_) (fun c3 => ?_)
        · refine ⟨_, rfl, .inl ⟨_, rfl, _, _, rfl, rfl, .inr (by decide), _, rfl, _, _, rfl, rfl, .inr (by decide), _, _, rfl, rfl, _, _, rfl, rfl, _, _, rfl, rfl, (by show (0 : Int) < 2147483647; decide), ?_⟩⟩
          generalize hx : ((m * 48271 + (0 + (i : Int)) * 69621 + 11) % 2147483647) = x
          have x0 : 0 ≤ x ∧ x < 2147483647 := by omega
          refine ⟨_, rfl, .inl ⟨_, rfl, _, rfl, .inl ⟨_, rfl, _, _, rfl, rfl, .inl (by constructor <;> omega), _, rfl, _, _, rfl, rfl, .inr (by decide), _, _, rfl, rfl, _, _, rfl, rfl, _, _, rfl, rfl, (by show (0 : Int) < 998244353; decide), ?_⟩⟩⟩
          refine ⟨_, rfl, .inl ⟨rfl, _, SqL.of ho⟩, _, rfl, .inl ⟨_, rfl, _, _, rfl, rfl, (by show (0 : Int) < 60; decide), o, _, _, rfl, rfl, ho, hz, ?_⟩⟩
          refine ⟨m, ds ++ [_ % 60], _, _, rfl, m0, m1, same_put sm no, by rw [upd_same, ea], by rw [app]; omega, digs_add hb⟩
        · rw [c1] at c3
          cases c3
    · have c1' : ¬ (0 : Int) + (i : Int) < (n : Int) := of_decide_eq_false c1
      refine ⟨_, rfl, _, rfl, _, _, rfl, rfl, _, rfl, ?_⟩
      refine iteB (fun c3 => ?_) (fun c3 => ?_)
      · rw [c1] at c3
        cases c3
      · exact ⟨m, ds, _, _, rfl, m0, m1, sm, ho, by omega, hb⟩
  · rintro σ H' ⟨m, ds, kv, mv, rfl, m0, m1, sm, ho, hl, hb⟩
    exact ⟨_, rfl, q o H' ds sm no ho ⟨by omega, hb⟩⟩

theorem ok_law_stream {f : Addr} {fd : FuncData} (D_law_stream : Dfn K mg "_law_stream" s_law_stream ["script", "first", "count"] f fd) (T : Tx K mg C_SpiralError C_BadCover) {f_law_draws : Addr} {fd_law_draws : FuncData} (D_law_draws : Dfn K mg "_law_draws" s_law_draws ["cell", "count"] f_law_draws fd_law_draws) (G_law_draws : FnOk P w K mg base CX0 (1) f_law_draws fd_law_draws ["cell", "count"] (sp_law_draws K)) {f_law_cell : Addr} {fd_law_cell : FuncData} (D_law_cell : Dfn K mg "_law_cell" s_law_cell ["script", "k"] f_law_cell fd_law_cell) (G_law_cell : FnOk P w K mg base CX0 (1) f_law_cell fd_law_cell ["script", "k"] (sp_law_cell K)) :
    FnOk P w K mg base CX0 (2) f fd ["script", "first", "count"] (sp_law_stream K) := by
  refine D_law_stream.F.ok sc_law_stream (fun vs H Q E h => ?_) (fun cdv A outer s H vs Q E hr h => ?_)
  · obtain ⟨a, ns, j, n, rfl, hS, hn0, hn, q⟩ := h
    rfl
  obtain ⟨a, ns, j, n, rfl, hS, hn0, hn, q⟩ := h
  refine ⟨_, (pss_cons (ps_set (i := 3) sc_law_stream.nd rfl (by first | exact Or.inl rfl | exact Or.inr rfl) (pe_lst pa_nil))
      (pss_cons (ps_for PassesOwn.never rfl (pi_range1 (by rfl) T.range (pa_cons (pv 2) pa_nil)) (pg_name (i := 4) sc_law_stream.nd rfl (by first | exact Or.inl rfl | exact Or.inr rfl))
      (pss_one (ps_expr (pe_bm PySem.F.plainAttrs_list PySem.F.slot_list_extend PySem.F.type_list_extend mt_extend (pv 3) (pa_cons (pe_call G_law_draws (hr.mono (by first | decide | omega)) rfl D_law_draws.m D_law_draws.F.kp D_law_draws.b .nil pass0 (pa_cons (pe_call G_law_cell (hr.mono (by first | decide | omega)) rfl D_law_cell.m D_law_cell.F.kp D_law_cell.b .nil pass0 (pa_cons (pv 0) (pa_cons (pe_op op_add (pv 1) (pv 4)) pa_nil))) (pa_cons pe_int pa_nil))) pa_nil)))))
      (pss_one (ps_ret (pe_lst (pa_cons (pv 3) (pa_cons (pe_lst (pa_cons pe_int pa_nil)) pa_nil))))))), ?_⟩
  refine ⟨Nat.zero_le _, fun o no => ?_⟩
  refine ⟨_, rfl, (n : Int), rfl, by omega, by omega, ?_⟩
  rw [show (n : Int).toNat = n by omega]
  refine for_range (lo := 0) (n := n) (fun i σ H' => ∃ (ds : List Int) (kv : Option V), σ = [some (.ref a), some (.int (j : Int)), some (.int (n : Int)), some (.ref o), kv] ∧ Same H H' ∧ H' o = some (.lst (ds.map V.int)) ∧ ds.length = 12 * i) ⟨[], none, rfl, same_new no, upd_same, rfl⟩ ?_ ?_
  · rintro i σ H' hi ⟨ds, kv, rfl, sm, ho, hl⟩
    refine ⟨_, rfl, .inl ⟨rfl, _, SqL.of ho⟩, _, rfl, _, rfl, _, rfl, _, _, rfl, rfl, a, ns, j + i, ?_, sm.seq hS, ?_⟩
    · show [V.ref a, V.int ((j : Int) + ((0 : Int) + (i : Int)))] = [V.ref a, V.int ((j + i : Nat) : Int)]
      rw [show (j : Int) + ((0 : Int) + (i : Int)) = ((j + i : Nat) : Int) by omega]
    · refine ⟨_, 12, rfl, by decide, fun o2 H2 d2 s2 n2 h2 hd => ?_⟩
      have ne : o ≠ o2 := ne_of_none ho n2
      have e1 := s2 _ _ ho
      refine ⟨o, o2, _, _, rfl, rfl, e1, h2, ?_, ?_⟩
      · rw [List.length_map, List.length_map, hl, hd.1]
        exact sz (by omega)
      · refine ⟨ds ++ d2, _, rfl, same_put (sm.trans s2) no, by rw [upd_same, List.map_append], ?_⟩
        rw [List.length_append, hl, hd.1]
        omega
  · rintro σ H' ⟨ds, kv, rfl, sm, ho, hl⟩
    refine ⟨_, rfl, sz (by show 1 ≤ 100000; decide), fun p np => ?_⟩
    refine ⟨sz (by show 2 ≤ 100000; decide), fun s ns' => ?_⟩
    have n1 : o ≠ p := ne_of_none ho np
    have n2 : s ≠ p := Bar.new upd_same ns'
    have n3 : o ≠ s := ne_of_none (by rw [upd_ne n1]; exact ho) ns'
    refine q s p _ (same_add (same_add sm np) ns') (sm.free np) ⟨o, ds, 0, upd_same, ?_, by omega, ?_, n2, n1⟩
    · rw [upd_ne n3, upd_ne n1]
      exact ho
    · rw [upd_ne n2.symm, upd_same]
      rfl

theorem ok_law_next {f : Addr} {fd : FuncData} (D_law_next : Dfn K mg "_law_next" s_law_next ["stream", "many"] f fd) (T : Tx K mg C_SpiralError C_BadCover) :
    FnOk P w K mg base CX0 (1) f fd ["stream", "many"] (sp_law_next K) := by
  refine D_law_next.F.ok sc_law_next (fun vs H Q E h => ?_) (fun cdv A outer s H vs Q E hr h => ?_)
  · obtain ⟨s, p, m, rfl, hm, hS, q⟩ := h
    rfl
  obtain ⟨s, p, m, rfl, hm, hS, q⟩ := h
  refine ⟨_, (pss_cons (ps_set (i := 2) sc_law_next.nd rfl (by first | exact Or.inl rfl | exact Or.inr rfl) (pe_ix (r := rIxL K) ix_list (pv 0) pe_int (fun _ _ => rfl)))
      (pss_cons (ps_set (i := 3) sc_law_next.nd rfl (by first | exact Or.inl rfl | exact Or.inr rfl) (pe_ix (r := rIxL K) ix_list (pv 0) pe_int (fun _ _ => rfl)))
      (pss_cons (ps_set (i := 4) sc_law_next.nd rfl (by first | exact Or.inl rfl | exact Or.inr rfl) (pe_op op_mod (pe_callTy call_int1 (by rfl) T.int (by decide +kernel) (pa_cons (pe_ix (r := rIxL K) ix_list (pv 2) (pe_op op_mod (pe_callTy call_int1 (by rfl) T.int (by decide +kernel) (pa_cons (pe_ix (r := rIxL K) ix_list (pv 3) pe_int (fun _ _ => rfl)) pa_nil)) (pe_callB call_len_seq (by rfl) T.len PySem.boot_len (pa_cons (pv 2) pa_nil))) (fun _ _ => rfl)) pa_nil)) (pv 1)))
      (pss_cons (ps_asg (pe_op op_add (pe_ix (r := rIxL K) ix_list (pv 3) pe_int (fun _ _ => rfl)) pe_int) (pg_sub (pv 3) pe_int set_list))
      (pss_one (ps_ret (pv 4))))))), ?_⟩
  obtain ⟨d, ds, n, a1, a2, a3, a4, a5, a6⟩ := hS.ex
  obtain ⟨v, hv⟩ := mod_at (n := n) a3
  refine ⟨_, rfl, s, _, _, .ref d, rfl, rfl, SqL.of a1, rfl, ?_⟩
  refine ⟨_, rfl, s, _, _, .ref p, rfl, rfl, SqL.of a1, rfl, ?_⟩
  refine ⟨_, rfl, _, rfl, p, _, _, .int (n : Int), rfl, rfl, SqL.of a4, rfl, .inl ⟨_, rfl, _, rfl, d, _, rfl, .inl (SqL.of a2), _, _, rfl, rfl, ?_, d, _, _, .int v, rfl, rfl, SqL.of a2, hv, .inl ⟨_, rfl, _, rfl, _, _, rfl, rfl, hm, ?_⟩⟩⟩
  · rw [List.length_map]
    show (0 : Int) < (ds.length : Int)
    omega
  refine ⟨_, rfl, p, _, _, .int (n : Int), rfl, rfl, SqL.of a4, rfl, _, _, rfl, rfl, _, rfl, p, _, 0, 0, rfl, rfl, a4, rfl, ?_⟩
  refine ⟨_, rfl, q _ _ (Int.emod_nonneg _ (by omega)) (Int.emod_lt_of_pos _ hm) (Bar.put (Bar.refl H)) ⟨d, ds, n + 1, ?_, ?_, a3, ?_, a5, a6⟩⟩
  · rw [upd_ne a5]
    exact a1
  · rw [upd_ne a6]
    exact a2
  · rw [upd_same]
    rfl

theorem ok_law_is_integer {f : Addr} {fd : FuncData} (D_law_is_integer : Dfn K mg "_law_is_integer" s_law_is_integer ["actual"] f fd) (T : Tx K mg C_SpiralError C_BadCover) :
    FnOk P w K mg base CX0 (1) f fd ["actual"] (sp_law_is_integer K) := by
  refine D_law_is_integer.F.ok sc_law_is_integer (fun vs H Q E h => ?_) (fun cdv A outer s H vs Q E hr h => ?_)
  · obtain ⟨i, rfl, q⟩ := h
    rfl
  obtain ⟨i, rfl, q⟩ := h
  refine ⟨_, (pss_one (ps_ret (pe_and (pe_callB call_isi (by rfl) T.isinstance (by decide +kernel) (pa_cons (pv 0) (pa_cons (pe_bltn (v := .ty "int") (by rfl) T.int (by decide +kernel) rfl) pa_nil))) (pe_one (pe_not (pe_callB call_isi (by rfl) T.isinstance (by decide +kernel) (pa_cons (pv 0) (pa_cons (pe_bltn (v := .ty "bool") (by rfl) T.bool (by decide +kernel) rfl) pa_nil)))))))), ?_⟩
  refine ⟨_, rfl, _, _, _, _, _, rfl, .ty _, .base (.int i), kit_ty (r := true) (by decide +kernel), _, rfl, ?_⟩
  refine iteT ?_
  refine ⟨_, rfl, _, _, _, _, _, rfl, .ty _, .base (.int i), kit_ty (r := false) (by decide +kernel), _, rfl, ?_⟩
  exact q

theorem ok_law_same {f : Addr} {fd : FuncData} (D_law_same : Dfn K mg "_law_same" s_law_same ["actual", "expected"] f fd) (T : Tx K mg C_SpiralError C_BadCover) {f_law_is_integer : Addr} {fd_law_is_integer : FuncData} (D_law_is_integer : Dfn K mg "_law_is_integer" s_law_is_integer ["actual"] f_law_is_integer fd_law_is_integer) (G_law_is_integer : FnOk P w K mg base CX0 (1) f_law_is_integer fd_law_is_integer ["actual"] (sp_law_is_integer K)) {n:Nat} (IH:FnOk P w K mg base CX0 (n+1) f fd ["actual","expected"] (sp_law_same K n)) :
    FnOk P w K mg base CX0 (n+2) f fd ["actual", "expected"] (sp_law_same K (n+1)) := by
  refine D_law_same.F.ok sc_law_same (fun vs H Q E h => ?_) (fun cdv A outer s H vs Q E hr h => ?_)
  · obtain ⟨x, y, d, rfl, hd, hx, hy, q⟩ := h
    rfl
  obtain ⟨x, y, d, rfl, hd, hx, hy, q⟩ := h
  refine ⟨_, (pss_cons (ps_if (pt_cmpR op_isN (pv 1) pe_non (nomark _))
      (pss_one (ps_ret (pe_cmpR op_isN (pv 0) pe_non (nomark _))))
      pss_nil)
      (pss_cons (ps_if (pt_val (pe_callB call_isi (by rfl) T.isinstance (by decide +kernel) (pa_cons (pv 1) (pa_cons (pe_bltn (v := .ty "bool") (by rfl) T.bool (by decide +kernel) rfl) pa_nil))))
      (pss_one (ps_ret (pe_and (pe_callB call_isi (by rfl) T.isinstance (by decide +kernel) (pa_cons (pv 0) (pa_cons (pe_bltn (v := .ty "bool") (by rfl) T.bool (by decide +kernel) rfl) pa_nil))) (pe_one (pe_cmpR op_eq (pv 0) (pv 1) (nomark _))))))
      pss_nil)
      (pss_cons (ps_if (pt_val (pe_callB call_isi (by rfl) T.isinstance (by decide +kernel) (pa_cons (pv 1) (pa_cons (pe_bltn (v := .ty "int") (by rfl) T.int (by decide +kernel) rfl) pa_nil))))
      (pss_one (ps_ret (pe_and (pe_call G_law_is_integer (hr.mono (by first | decide | omega)) rfl D_law_is_integer.m D_law_is_integer.F.kp D_law_is_integer.b .nil pass0 (pa_cons (pv 0) pa_nil)) (pe_one (pe_cmpR op_eq (pv 0) (pv 1) (nomark _))))))
      pss_nil)
      (pss_cons (ps_if (pt_val (pe_callB call_isi (by rfl) T.isinstance (by decide +kernel) (pa_cons (pv 1) (pa_cons (pe_bltn (v := .ty "str") (by rfl) T.str (by decide +kernel) rfl) pa_nil))))
      (pss_one (ps_ret (pe_and (pe_callB call_isi (by rfl) T.isinstance (by decide +kernel) (pa_cons (pv 0) (pa_cons (pe_bltn (v := .ty "str") (by rfl) T.str (by decide +kernel) rfl) pa_nil))) (pe_one (pe_cmpR op_eq (pv 0) (pv 1) (nomark _))))))
      pss_nil)
      (pss_cons (ps_if (PW.pt (pw_and (pt_val (pe_callB call_isi (by rfl) T.isinstance (by decide +kernel) (pa_cons (pv 1) (pa_cons (pe_bltn (v := .ty "tuple") (by rfl) T.tuple (by decide +kernel) rfl) pa_nil)))) (pw_and1 (pt_not (pt_val (pe_callB call_isi (by rfl) T.isinstance (by decide +kernel) (pa_cons (pv 0) (pa_cons (pe_bltn (v := .ty "tuple") (by rfl) T.tuple (by decide +kernel) rfl) pa_nil))))))))
      (pss_one (ps_ret pe_bl))
      pss_nil)
      (pss_cons (ps_if (PW.pt (pw_and (pt_val (pe_callB call_isi (by rfl) T.isinstance (by decide +kernel) (pa_cons (pv 1) (pa_cons (pe_bltn (v := .ty "list") (by rfl) T.list (by decide +kernel) rfl) pa_nil)))) (pw_and1 (pt_not (pt_val (pe_callB call_isi (by rfl) T.isinstance (by decide +kernel) (pa_cons (pv 0) (pa_cons (pe_bltn (v := .ty "list") (by rfl) T.list (by decide +kernel) rfl) pa_nil))))))))
      (pss_one (ps_ret pe_bl))
      pss_nil)
      (pss_cons (ps_if (pt_cmpR op_ne (pe_callB call_len_seq (by rfl) T.len PySem.boot_len (pa_cons (pv 0) pa_nil)) (pe_callB call_len_seq (by rfl) T.len PySem.boot_len (pa_cons (pv 1) pa_nil)) (nomark _))
      (pss_one (ps_ret pe_bl))
      pss_nil)
      (pss_cons (ps_for PassesOwn.never rfl (pi_range1 (by rfl) T.range (pa_cons (pe_callB call_len_seq (by rfl) T.len PySem.boot_len (pa_cons (pv 1) pa_nil)) pa_nil)) (pg_name (i := 2) sc_law_same.nd rfl (by first | exact Or.inl rfl | exact Or.inr rfl))
      (pss_one (ps_if (pt_not (pt_val (pe_call IH hr rfl D_law_same.m D_law_same.F.kp D_law_same.b .nil pass0 (pa_cons (pe_ix (r := rIx K) ix_seq (pv 0) (pv 2) (fun _ _ => rfl)) (pa_cons (pe_ix (r := rIx K) ix_seq (pv 1) (pv 2) (fun _ _ => rfl)) pa_nil)))))
      (pss_one (ps_ret pe_bl))
      pss_nil)))
      (pss_one (ps_ret pe_bl)))))))))), ?_⟩
  cases hx <;> cases hy
  case non.non => exact ⟨_, rfl, rfl, _, rfl, iteT ⟨_, rfl, rfl, q⟩⟩
  case bl.bl b =>
    refine ⟨_, rfl, rfl, _, rfl, iteF ⟨_, rfl, _, _, _, _, _, rfl, .ty _, .base (.bl b), kit_ty (r := true) (by decide +kernel), _, rfl, iteT ?_⟩⟩
    refine ⟨_, rfl, _, _, _, _, _, rfl, .ty _, .base (.bl b), kit_ty (r := true) (by decide +kernel), _, rfl, iteT ⟨_, rfl, _, rfl, rfl, ?_⟩⟩
    show Q (.bl (decide (V.bl b = V.bl b))) H
    rw [decide_eq_true rfl]
    exact q
  case int.int b =>
    refine ⟨_, rfl, rfl, _, rfl, iteF ⟨_, rfl, _, _, _, _, _, rfl, .ty _, .base (.int b), kit_ty (r := false) (by decide +kernel), _, rfl, iteF ?_⟩⟩
    refine ⟨_, rfl, _, _, _, _, _, rfl, .ty _, .base (.int b), kit_ty (r := true) (by decide +kernel), _, rfl, iteT ?_⟩
    refine ⟨_, rfl, b, rfl, _, rfl, iteT ⟨_, rfl, _, rfl, rfl, ?_⟩⟩
    show Q (.bl (decide (V.int b = V.int b))) H
    rw [decide_eq_true rfl]
    exact q
  case str.str b =>
    refine ⟨_, rfl, rfl, _, rfl, iteF ⟨_, rfl, _, _, _, _, _, rfl, .ty _, .base (.str b), kit_ty (r := false) (by decide +kernel), _, rfl, iteF ?_⟩⟩
    refine ⟨_, rfl, _, _, _, _, _, rfl, .ty _, .base (.str b), kit_ty (r := false) (by decide +kernel), _, rfl, iteF ?_⟩
    refine ⟨_, rfl, _, _, _, _, _, rfl, .ty _, .base (.str b), kit_ty (r := true) (by decide +kernel), _, rfl, iteT ?_⟩
    refine ⟨_, rfl, _, _, _, _, _, rfl, .ty _, .base (.str b), kit_ty (r := true) (by decide +kernel), _, rfl, iteT ⟨_, rfl, _, rfl, rfl, ?_⟩⟩
    show Q (.bl (decide (V.str b = V.str b))) H
    rw [decide_eq_true rfl]
    exact q
  case' lst.lst a xs ds ha hA b ys hb hB =>
    have ta := tyx_lst ha
    have tb := tyx_lst hb
    refine ⟨_, rfl, rfl, _, rfl, iteF ⟨_, rfl, _, _, _, _, _, rfl, .ty _, tb, kit_ty (r := false) (by decide +kernel), _, rfl, iteF ?_⟩⟩
    refine ⟨_, rfl, _, _, _, _, _, rfl, .ty _, tb, kit_ty (r := false) (by decide +kernel), _, rfl, iteF ?_⟩
    refine ⟨_, rfl, _, _, _, _, _, rfl, .ty _, tb, kit_ty (r := false) (by decide +kernel), _, rfl, iteF ?_⟩
    refine ⟨_, rfl, _, _, _, _, _, rfl, .ty _, tb, kit_ty (r := false) (by decide +kernel), _, rfl, iteF (iteF ?_)⟩
    refine ⟨_, rfl, _, _, _, _, _, rfl, .ty _, tb, kit_ty (r := true) (by decide +kernel), _, rfl, iteT ⟨_, rfl, _, _, _, _, _, rfl, .ty _, ta, kit_ty (r := true) (by decide +kernel), _, rfl, iteF ?_⟩⟩
    have hSa : Sq K H a xs := .inl ha
    have hSb : Sq K H b ys := .inl hb
    have hds2 : (decide (ds.length ≤ 5000) && ds.all (dOk n)) = true := hd
  case' tup.tup a xs ds ha hA b ys hb hB =>
    have ta := tyx_tup ha
    have tb := tyx_tup hb
    refine ⟨_, rfl, rfl, _, rfl, iteF ⟨_, rfl, _, _, _, _, _, rfl, .ty _, tb, kit_ty (r := false) (by decide +kernel), _, rfl, iteF ?_⟩⟩
    refine ⟨_, rfl, _, _, _, _, _, rfl, .ty _, tb, kit_ty (r := false) (by decide +kernel), _, rfl, iteF ?_⟩
    refine ⟨_, rfl, _, _, _, _, _, rfl, .ty _, tb, kit_ty (r := false) (by decide +kernel), _, rfl, iteF ?_⟩
    refine ⟨_, rfl, _, _, _, _, _, rfl, .ty _, tb, kit_ty (r := true) (by decide +kernel), _, rfl, iteT ⟨_, rfl, _, _, _, _, _, rfl, .ty _, ta, kit_ty (r := true) (by decide +kernel), _, rfl, iteF ?_⟩⟩
    refine ⟨_, rfl, _, _, _, _, _, rfl, .ty _, tb, kit_ty (r := false) (by decide +kernel), _, rfl, iteF (iteF ?_)⟩
    have hSa : Sq K H a xs := .inr ha
    have hSb : Sq K H b ys := .inr hb
    have hds2 : (decide (ds.length ≤ 5000) && ds.all (dOk n)) = true := hd
  all_goals
    have la : xs.length = ds.length := DpAll.len hA
    have lb : ys.length = ds.length := DpAll.len hB
    refine ⟨_, rfl, a, xs, rfl, hSa, _, rfl, b, ys, rfl, hSb, rfl, _, rfl, ?_⟩
    have e1 : decide (V.int ((xs.length : Nat) : Int) = V.int ((ys.length : Nat) : Int)) = true := decide_eq_true (by rw [la, lb])
    rw [e1]
    refine iteF ?_
    rw [Bool.and_eq_true] at hds2
    have hlen : ds.length ≤ 5000 := of_decide_eq_true hds2.1
    have hds := hds2.2
    refine ⟨_, rfl, b, ys, rfl, hSb, ((ys.length : Nat) : Int), rfl, by omega, by omega, ?_⟩
    rw [show ((ys.length : Nat) : Int).toNat = ys.length by omega]
    refine for_range (lo := 0) (n := ys.length) (fun i σ H' => ∃ kv : Option V, σ = [some (.ref a), some (.ref b), kv] ∧ H' = H) ⟨none, rfl, rfl⟩ ?_ ?_
    · rintro i σ H' hi ⟨kv, rfl, rfl⟩
      have hi2 : i < ds.length := by omega
      obtain ⟨va, ga, da⟩ := DpAll.get hA (List.getElem?_eq_getElem hi2)
      obtain ⟨vb, gb, db⟩ := DpAll.get hB (List.getElem?_eq_getElem hi2)
      have ez : (0 : Int) + (i : Int) = (i : Int) := by omega
      have hdi : dOk n ds[i] = true := List.all_eq_true.mp hds _ (List.getElem_mem hi2)
      have ia : atI xs ((0 : Int) + (i : Int)) = some va := by
        rw [ez]
        exact atI_nat ga
      have ib : atI ys ((0 : Int) + (i : Int)) = some vb := by
        rw [ez]
        exact atI_nat gb
      refine ⟨_, rfl, _, rfl, sq_ix hSa ia ?_⟩
      refine ⟨_, rfl, _, rfl, sq_ix hSb ib ?_⟩
      refine ⟨va, vb, ds[i], rfl, hdi, da, db, _, rfl, iteF ?_⟩
      exact ⟨_, rfl, rfl⟩
    · rintro σ H' ⟨kv, rfl, rfl⟩
      exact q

theorem ok_law_pays {f : Addr} {fd : FuncData} (D_law_pays : Dfn K mg "_law_pays" s_law_pays ["cover", "loss"] f fd) (T : Tx K mg C_SpiralError C_BadCover) :
    FnOk P w K mg base CX0 (1) f fd ["cover", "loss"] (sp_law_pays K) := by
  refine D_law_pays.F.ok sc_law_pays (fun vs H Q E h => ?_) (fun cdv A outer s H vs Q E hr h => ?_)
  · obtain ⟨a, c, x, rfl, hS, hc, q⟩ := h
    rfl
  obtain ⟨a, c, x, rfl, hS, hc, q⟩ := h
  refine ⟨_, (pss_cons (ps_if (pt_cmpR op_eq (pe_ix (r := rIxT K) ix_tup (pv 0) pe_int (fun _ _ => rfl)) pe_str (nomark _))
      (pss_one (ps_ret (pe_op op_fdiv (pe_op op_mul (pe_ix (r := rIxT K) ix_tup (pv 0) pe_int (fun _ _ => rfl)) (pv 1)) pe_int)))
      pss_nil)
      (pss_cons (ps_if (pt_cmpR op_le (pv 1) (pe_ix (r := rIxT K) ix_tup (pv 0) pe_int (fun _ _ => rfl)) (nomark _))
      (pss_one (ps_ret pe_int))
      pss_nil)
      (pss_cons (ps_if (pt_cmpR op_gt (pe_op op_sub (pv 1) (pe_ix (r := rIxT K) ix_tup (pv 0) pe_int (fun _ _ => rfl))) (pe_ix (r := rIxT K) ix_tup (pv 0) pe_int (fun _ _ => rfl)) (nomark _))
      (pss_one (ps_ret (pe_ix (r := rIxT K) ix_tup (pv 0) pe_int (fun _ _ => rfl))))
      pss_nil)
      (pss_one (ps_ret (pe_op op_sub (pv 1) (pe_ix (r := rIxT K) ix_tup (pv 0) pe_int (fun _ _ => rfl)))))))), ?_⟩
  cases c with
  | share p =>
    obtain ⟨h1, h2⟩ := hc
    refine ⟨_, rfl, a, _, _, _, rfl, rfl, hS, rfl, rfl, _, rfl, ?_⟩
    refine iteT ?_
    exact ⟨_, rfl, a, _, _, _, rfl, rfl, hS, rfl, _, rfl, _, _, rfl, rfl, .inl ⟨by omega, by omega⟩, _, _, rfl, rfl, ⟨by decide, by decide⟩, q⟩
  | layer r l =>
    obtain ⟨h1, h2, h3, h4⟩ := hc
    refine ⟨_, rfl, a, _, _, _, rfl, rfl, hS, rfl, rfl, _, rfl, ?_⟩
    rw [show decide (V.str "layer" = V.str "share") = false from decide_eq_false (fun e => share_layer (V.str.inj e))]
    refine iteF ?_
    have q : Q (.int (if x ≤ r then 0 else if x - r > l then l else x - r)) H := q
    refine ⟨_, rfl, _, rfl, a, _, _, _, rfl, rfl, hS, rfl, _, _, rfl, rfl, _, rfl, ?_⟩
    refine iteB (fun c => ?_) (fun c => ?_)
    · have c' : x ≤ r := of_decide_eq_true c
      rw [if_pos c'] at q
      exact q
    · have c' : ¬ x ≤ r := of_decide_eq_false c
      rw [if_neg c'] at q
      refine ⟨_, rfl, _, rfl, a, _, _, _, rfl, rfl, hS, rfl, _, _, rfl, rfl, _, rfl, a, _, _, _, rfl, rfl, hS, rfl, _, _, rfl, rfl, _, rfl, ?_⟩
      refine iteB (fun d => ?_) (fun d => ?_)
      · have d' : l < x - r := of_decide_eq_true d
        rw [if_pos d'] at q
        exact ⟨_, rfl, a, _, _, _, rfl, rfl, hS, rfl, q⟩
      · have d' : ¬ l < x - r := of_decide_eq_false d
        rw [if_neg d'] at q
        exact ⟨_, rfl, _, rfl, a, _, _, _, rfl, rfl, hS, rfl, _, _, rfl, rfl, q⟩

theorem ok_law_cover {f : Addr} {fd : FuncData} (D_law_cover : Dfn K mg "_law_cover" s_law_cover ["stream"] f fd) (T : Tx K mg C_SpiralError C_BadCover) {f_law_next : Addr} {fd_law_next : FuncData} (D_law_next : Dfn K mg "_law_next" s_law_next ["stream", "many"] f_law_next fd_law_next) (G_law_next : FnOk P w K mg base CX0 (1) f_law_next fd_law_next ["stream", "many"] (sp_law_next K)) :
    FnOk P w K mg base CX0 (2) f fd ["stream"] (sp_law_cover K) := by
  refine D_law_cover.F.ok sc_law_cover (fun vs H Q E h => ?_) (fun cdv A outer s H vs Q E hr h => ?_)
  · obtain ⟨s, p, rfl, hS, q⟩ := h
    rfl
  obtain ⟨s, p, rfl, hS, q⟩ := h
  refine ⟨_, (pss_cons (ps_set (i := 1) sc_law_cover.nd rfl (by first | exact Or.inl rfl | exact Or.inr rfl) (pe_call G_law_next (hr.mono (by first | decide | omega)) rfl D_law_next.m D_law_next.F.kp D_law_next.b .nil pass0 (pa_cons (pv 0) (pa_cons pe_int pa_nil))))
      (pss_cons (ps_if (pt_cmpR op_eq (pv 1) pe_int (nomark _))
      (pss_one (ps_ret (pe_tup (pa_cons pe_str (pa_cons (pe_ix (r := rIxL K) ix_list (pe_lst (pa_cons pe_int (pa_cons pe_int (pa_cons pe_int (pa_cons pe_int (pa_cons pe_int pa_nil)))))) (pe_call G_law_next (hr.mono (by first | decide | omega)) rfl D_law_next.m D_law_next.F.kp D_law_next.b .nil pass0 (pa_cons (pv 0) (pa_cons pe_int pa_nil))) (fun _ _ => rfl)) pa_nil)))))
      pss_nil)
      (pss_cons (ps_if (pt_cmpR op_eq (pv 1) pe_int (nomark _))
      (pss_one (ps_ret (pe_tup (pa_cons pe_str (pa_cons (pe_op op_add pe_int (pe_op op_mod (pe_op op_add (pe_op op_mul (pe_call G_law_next (hr.mono (by first | decide | omega)) rfl D_law_next.m D_law_next.F.kp D_law_next.b .nil pass0 (pa_cons (pv 0) (pa_cons pe_int pa_nil))) pe_int) (pe_call G_law_next (hr.mono (by first | decide | omega)) rfl D_law_next.m D_law_next.F.kp D_law_next.b .nil pass0 (pa_cons (pv 0) (pa_cons pe_int pa_nil)))) pe_int)) pa_nil)))))
      pss_nil)
      (pss_cons (ps_set (i := 2) sc_law_cover.nd rfl (by first | exact Or.inl rfl | exact Or.inr rfl) (pe_op op_mul (pe_call G_law_next (hr.mono (by first | decide | omega)) rfl D_law_next.m D_law_next.F.kp D_law_next.b .nil pass0 (pa_cons (pv 0) (pa_cons pe_int pa_nil))) (pe_ix (r := rIxL K) ix_list (pe_lst (pa_cons pe_int (pa_cons pe_int (pa_cons pe_int (pa_cons pe_int pa_nil))))) (pe_call G_law_next (hr.mono (by first | decide | omega)) rfl D_law_next.m D_law_next.F.kp D_law_next.b .nil pass0 (pa_cons (pv 0) (pa_cons pe_int pa_nil))) (fun _ _ => rfl))))
      (pss_one (ps_ret (pe_tup (pa_cons pe_str (pa_cons (pv 2) (pa_cons (pe_op op_add pe_int (pe_op op_mul (pe_call G_law_next (hr.mono (by first | decide | omega)) rfl D_law_next.m D_law_next.F.kp D_law_next.b .nil pass0 (pa_cons (pv 0) (pa_cons pe_int pa_nil))) (pe_ix (r := rIxL K) ix_list (pe_lst (pa_cons pe_int (pa_cons pe_int (pa_cons pe_int pa_nil)))) (pe_call G_law_next (hr.mono (by first | decide | omega)) rfl D_law_next.m D_law_next.F.kp D_law_next.b .nil pass0 (pa_cons (pv 0) (pa_cons pe_int pa_nil))) (fun _ _ => rfl)))) pa_nil)))))))))), ?_⟩
  have lp : ∀ {H' : Hp} {l : Addr}, Strm s p H' → H' l = none → l ≠ p := fun S n => S.ne n
  refine ⟨_, rfl, s, p, 5, rfl, by decide, hS, fun z H1 z0 z5 b1 S1 => ?_⟩
  refine ⟨_, rfl, rfl, _, rfl, ?_⟩
  refine iteB (fun c => ?_) (fun c => ?_)
  · -- a share out of a table
    refine ⟨sz (by show 5 ≤ 100000; decide), fun l nl => ?_⟩
    have nlp := lp S1 nl
    refine ⟨_, rfl, s, p, 5, rfl, by decide, S1.same (same_new nl), fun y H2 y0 y5 b2 S2 => ?_⟩
    have hl : H2 l = some (.lst (([1000, 500, 1, 333, 250] : List Int).map V.int)) := b2 l _ nlp upd_same
    obtain ⟨v, hv, at1⟩ := pick_at (ns := [1000, 500, 1, 333, 250]) y0 (by show y < 5; exact y5)
    refine ⟨l, _, _, _, rfl, rfl, SqL.of hl, at1, sz (by show 2 ≤ 100000; decide), fun t nt => ?_⟩
    have bb : Bar p H H2 := b1.trans ((Bar.of (same_new nl)).trans b2)
    have ntp := lp S2 nt
    refine q t (.share v) _ (Bar.add bb nt) (S2.same (same_new nt)) (bb.free ntp nt) upd_same ?_
    have m : ∀ w ∈ ([1000, 500, 1, 333, 250] : List Int), 1 ≤ w ∧ w ≤ 1000 := by decide
    exact m v hv
  · refine ⟨_, rfl, rfl, _, rfl, ?_⟩
    refine iteB (fun d => ?_) (fun d => ?_)
    · refine ⟨_, rfl, s, p, 60, rfl, by decide, S1, fun y H2 y0 y5 b2 S2 => ⟨_, _, rfl, rfl, .inr (by decide), ?_⟩⟩
      refine ⟨_, rfl, s, p, 60, rfl, by decide, S2, fun x H3 x0 x5 b3 S3 => ⟨_, _, rfl, rfl, _, _, rfl, rfl, (by show (0 : Int) < 700; decide), _, _, rfl, rfl, sz (by show 2 ≤ 100000; decide), fun t nt => ?_⟩⟩
      have bb : Bar p H H3 := b1.trans (b2.trans b3)
      refine q t (.share _) _ (Bar.add bb nt) (S3.same (same_new nt)) (bb.free (lp S3 nt) nt) upd_same ?_
      show 1 ≤ 1 + (y * 60 + x) % 700 ∧ 1 + (y * 60 + x) % 700 ≤ 1000
      omega
    · refine ⟨_, rfl, s, p, 60, rfl, by decide, S1, fun y H2 y0 y5 b2 S2 => ?_⟩
      refine ⟨sz (by show 4 ≤ 100000; decide), fun l nl => ?_⟩
      have nlp := lp S2 nl
      refine ⟨_, rfl, s, p, 4, rfl, by decide, S2.same (same_new nl), fun x H3 x0 x4 b3 S3 => ?_⟩
      have hl : H3 l = some (.lst (([0, 1, 1, 7] : List Int).map V.int)) := b3 l _ nlp upd_same
      obtain ⟨v, hv, at1⟩ := pick_at (ns := [0, 1, 1, 7]) x0 (by show x < 4; exact x4)
      have m : ∀ w ∈ ([0, 1, 1, 7] : List Int), 0 ≤ w ∧ w ≤ 7 := by decide
      have mv := m v hv
      refine ⟨l, _, _, _, rfl, rfl, SqL.of hl, at1, _, _, rfl, rfl, .inl (by omega), ?_⟩
      have yv : 0 ≤ y * v ∧ y * v ≤ 100000 := by
        refine ⟨Int.mul_nonneg y0 mv.1, ?_⟩
        have := Int.mul_le_mul (show y ≤ 60 by omega) mv.2 mv.1 (by decide : (0 : Int) ≤ 60)
        omega
      refine ⟨_, rfl, _, rfl, s, p, 60, rfl, by decide, S3, fun u H4 u0 u6 b4 S4 => ?_⟩
      refine ⟨sz (by show 3 ≤ 100000; decide), fun l2 nl2 => ?_⟩
      have nlp2 := lp S4 nl2
      refine ⟨_, rfl, s, p, 3, rfl, by decide, S4.same (same_new nl2), fun g H5 g0 g3 b5 S5 => ?_⟩
      have hl2 : H5 l2 = some (.lst (([1, 1, 7] : List Int).map V.int)) := b5 l2 _ nlp2 upd_same
      obtain ⟨k, hk, at2⟩ := pick_at (ns := [1, 1, 7]) g0 (by show g < 3; exact g3)
      have m2 : ∀ w ∈ ([1, 1, 7] : List Int), 0 ≤ w ∧ w ≤ 7 := by decide
      have mk := m2 k hk
      have uk : 0 ≤ u * k ∧ u * k ≤ 420 := by
        refine ⟨Int.mul_nonneg u0 mk.1, ?_⟩
        have := Int.mul_le_mul (show u ≤ 60 by omega) mk.2 mk.1 (by decide : (0 : Int) ≤ 60)
        omega
      refine ⟨l2, _, _, _, rfl, rfl, SqL.of hl2, at2, _, _, rfl, rfl, .inl (by omega), _, _, rfl, rfl, sz (by show 3 ≤ 100000; decide), fun t nt => ?_⟩
      have bb : Bar p H H5 := b1.trans (b2.trans ((Bar.of (same_new nl)).trans (b3.trans (b4.trans ((Bar.of (same_new nl2)).trans b5)))))
      refine q t (.layer (y * v) (1 + u * k)) _ (Bar.add bb nt) (S5.same (same_new nt)) (bb.free (lp S5 nt) nt) upd_same ?_
      exact ⟨yv.1, yv.2, by omega, by omega⟩

theorem ok_law_is_bad {f : Addr} {fd : FuncData} (D_law_is_bad : Dfn K mg "_law_is_bad" s_law_is_bad ["value"] f fd) (T : Tx K mg C_SpiralError C_BadCover) {f_check_cover : Addr} {fd_check_cover : FuncData} (D_check_cover : Dfn K mg "check_cover" s_check_cover ["value"] f_check_cover fd_check_cover) (G_check_cover : FnOk P w K mg base (L2.CX P w) (3) f_check_cover fd_check_cover ["value"] (sp_check_cover K C_BadCover)) :
    FnOk P w K mg base CX0 (4) f fd ["value"] (sp_law_is_bad K) := by
  refine D_law_is_bad.F.ok sc_law_is_bad (fun vs H Q E h => ?_) (fun cdv A outer s H vs Q E hr h => ?_)
  · obtain ⟨x, rfl, h⟩ := h
    rfl
  obtain ⟨x, rfl, h⟩ := h
  refine ⟨_, (pss_cons (ps_try_as (i := 1) rfl rfl sc_law_is_bad.nd rfl rfl ⟨rfl, by decide, .inl T.exc_BadCover.g⟩ takes0 (fun W pn xe tk _ => (pss_one (ps_expr (by exact (pe_callS G_check_cover (hr.mono (by first | decide | omega)) rfl D_check_cover.m D_check_cover.F.kp D_check_cover.b (fun σ => passAt tk σ) (by exact (pa_cons (pv 0) pa_nil))))))) (fun a oe cls d pn hz hf => (pss_one (ps_ret (pe_and (pe_callB (call_isEx hz hf) (by rfl) T.isinstance (by decide +kernel) (pa_cons (pv 1) (pa_cons (pe_glob (v := .ref C_SpiralError) rfl T.exc_SpiralError.g rfl) pa_nil))) (pe_one (pe_callB (call_isEx hz hf) (by rfl) T.isinstance (by decide +kernel) (pa_cons (pv 1) (pa_cons (pe_bltn (v := .ty "ValueError") (by rfl) T.ValueError (by decide +kernel) rfl) pa_nil)))))))))
      (pss_one (ps_ret pe_bl))), ?_⟩
  rcases h with ⟨h, q⟩ | ⟨h, q⟩
  · exact ⟨_, rfl, _, rfl, .inl ⟨h, fun H' sm => q H' sm⟩⟩
  · refine ⟨_, rfl, _, rfl, .inr ⟨h, fun H' sm => ⟨true, T.exc_BadCover.e, fun _ ea _ => ?_, fun z => Bool.noConfusion z⟩⟩⟩
    refine ⟨_, rfl, _, rfl, rfl, T.isx_BadCover, .ref C_SpiralError, .ref C_SpiralError, true, rfl, fun u r => r, T.kitS, _, rfl, iteT ?_⟩
    exact ⟨_, rfl, _, rfl, rfl, T.isx_BadCover, .ty "ValueError", .type "ValueError", true, rfl, fun u r => r, T.kitV, q H' sm⟩

theorem ok_law {f : Addr} {fd : FuncData} (D_law : Dfn K mg "law" s_law ["script"] f fd) (T : Tx K mg C_SpiralError C_BadCover) {f_law_cover : Addr} {fd_law_cover : FuncData} (D_law_cover : Dfn K mg "_law_cover" s_law_cover ["stream"] f_law_cover fd_law_cover) (G_law_cover : FnOk P w K mg base CX0 (2) f_law_cover fd_law_cover ["stream"] (sp_law_cover K)) {f_law_stream : Addr} {fd_law_stream : FuncData} (D_law_stream : Dfn K mg "_law_stream" s_law_stream ["script", "first", "count"] f_law_stream fd_law_stream) (G_law_stream : FnOk P w K mg base CX0 (2) f_law_stream fd_law_stream ["script", "first", "count"] (sp_law_stream K)) {f_law_cell : Addr} {fd_law_cell : FuncData} (D_law_cell : Dfn K mg "_law_cell" s_law_cell ["script", "k"] f_law_cell fd_law_cell) (G_law_cell : FnOk P w K mg base CX0 (1) f_law_cell fd_law_cell ["script", "k"] (sp_law_cell K)) {f_law_is_bad : Addr} {fd_law_is_bad : FuncData} (D_law_is_bad : Dfn K mg "_law_is_bad" s_law_is_bad ["value"] f_law_is_bad fd_law_is_bad) (G_law_is_bad : FnOk P w K mg base CX0 (4) f_law_is_bad fd_law_is_bad ["value"] (sp_law_is_bad K)) {f_law_same : Addr} {fd_law_same : FuncData} (D_law_same : Dfn K mg "_law_same" s_law_same ["actual", "expected"] f_law_same fd_law_same) (G_law_same : FnOk P w K mg base CX0 (9) f_law_same fd_law_same ["actual", "expected"] (sp_law_same K 8)) {f_recovery : Addr} {fd_recovery : FuncData} (D_recovery : Dfn K mg "recovery" s_recovery ["cover", "loss"] f_recovery fd_recovery) (G_recovery : FnOk P w K mg base CX0 (1) f_recovery fd_recovery ["cover", "loss"] (sp_recovery K)) {f_law_pays : Addr} {fd_law_pays : FuncData} (D_law_pays : Dfn K mg "_law_pays" s_law_pays ["cover", "loss"] f_law_pays fd_law_pays) (G_law_pays : FnOk P w K mg base CX0 (1) f_law_pays fd_law_pays ["cover", "loss"] (sp_law_pays K)) :
    FnOk P w K mg base CX0 (10) f fd ["script"] (sp_law K) := by
  refine D_law.F.ok sc_law (fun vs H Q E h => ?_) (fun cdv A outer s H vs Q E hr h => ?_)
  · obtain ⟨a, ns, rfl, hS, h63, q⟩ := h
    rfl
  obtain ⟨a, ns, rfl, hS, h63, q⟩ := h
  refine ⟨_, (pss_cons (ps_set (i := 1) sc_law.nd rfl (by first | exact Or.inl rfl | exact Or.inr rfl) (pe_call G_law_cover (hr.mono (by first | decide | omega)) rfl D_law_cover.m D_law_cover.F.kp D_law_cover.b .nil pass0 (pa_cons (pe_call G_law_stream (hr.mono (by first | decide | omega)) rfl D_law_stream.m D_law_stream.F.kp D_law_stream.b .nil pass0 (pa_cons (pv 0) (pa_cons pe_int (pa_cons pe_int pa_nil)))) pa_nil)))
      (pss_cons (ps_set (i := 2) sc_law.nd rfl (by first | exact Or.inl rfl | exact Or.inr rfl) (pe_op op_mod (pe_call G_law_cell (hr.mono (by first | decide | omega)) rfl D_law_cell.m D_law_cell.F.kp D_law_cell.b .nil pass0 (pa_cons (pv 0) (pa_cons pe_int pa_nil))) (pe_op op_add (pe_op op_pow pe_int pe_int) pe_int)))
      (pss_cons (ps_if (pt_cmpR op_gt (pe_op op_mod (pe_call G_law_cell (hr.mono (by first | decide | omega)) rfl D_law_cell.m D_law_cell.F.kp D_law_cell.b .nil pass0 (pa_cons (pv 0) (pa_cons pe_int pa_nil))) pe_int) pe_int (nomark _))
      (pss_one (ps_set (i := 2) sc_law.nd rfl (by first | exact Or.inl rfl | exact Or.inr rfl) (pe_op op_mod (pv 2) pe_int)))
      pss_nil)
      (pss_cons (ps_if (PW.pt (pw_or (pt_val (pe_call G_law_is_bad (hr.mono (by first | decide | omega)) rfl D_law_is_bad.m D_law_is_bad.F.kp D_law_is_bad.b .nil pass0 (pa_cons (pv 1) pa_nil))) (pw_or1 (pt_not (pt_val (pe_call G_law_same (hr.mono (by first | decide | omega)) rfl D_law_same.m D_law_same.F.kp D_law_same.b .nil pass0 (pa_cons (pe_call G_recovery (hr.mono (by first | decide | omega)) rfl D_recovery.m D_recovery.F.kp D_recovery.b .nil pass0 (pa_cons (pv 1) (pa_cons (pv 2) pa_nil))) (pa_cons (pe_call G_law_pays (hr.mono (by first | decide | omega)) rfl D_law_pays.m D_law_pays.F.kp D_law_pays.b .nil pass0 (pa_cons (pv 1) (pa_cons (pv 2) pa_nil))) pa_nil))))))))
      (pss_one (ps_ret pe_bl))
      pss_nil)
      (pss_cons (ps_if (pt_cmpR op_notIn_seq (pe_op op_sub (pe_call G_recovery (hr.mono (by first | decide | omega)) rfl D_recovery.m D_recovery.F.kp D_recovery.b .nil pass0 (pa_cons (pv 1) (pa_cons (pe_op op_add (pv 2) pe_int) pa_nil))) (pe_call G_recovery (hr.mono (by first | decide | omega)) rfl D_recovery.m D_recovery.F.kp D_recovery.b .nil pass0 (pa_cons (pv 1) (pa_cons (pv 2) pa_nil)))) (pe_lst (pa_cons pe_int (pa_cons pe_int pa_nil))) (by with_unfolding_all rfl))
      (pss_one (ps_ret pe_bl))
      pss_nil)
      (pss_cons (ps_set (i := 3) sc_law.nd rfl (by first | exact Or.inl rfl | exact Or.inr rfl) (pe_lst (pa_cons (pe_tup (pa_cons pe_str (pa_cons pe_int pa_nil))) (pa_cons (pe_tup (pa_cons pe_str (pa_cons pe_int pa_nil))) (pa_cons (pe_tup (pa_cons pe_str pa_nil)) (pa_cons (pe_tup (pa_cons pe_str (pa_cons pe_int (pa_cons pe_int pa_nil)))) (pa_cons (pe_tup (pa_cons pe_str (pa_cons pe_int pa_nil))) (pa_cons (pe_tup (pa_cons pe_str (pa_cons (pe_un un_neg pe_int) (pa_cons pe_int pa_nil)))) (pa_cons (pe_tup (pa_cons pe_str (pa_cons pe_int (pa_cons pe_int pa_nil)))) pa_nil)))))))))
      (pss_cons (ps_set (i := 3) sc_law.nd rfl (by first | exact Or.inl rfl | exact Or.inr rfl) (pe_op op_cat (pv 3) (pe_lst (pa_cons (pe_tup (pa_cons pe_str (pa_cons pe_int (pa_cons pe_int pa_nil)))) (pa_cons (pe_tup (pa_cons pe_str (pa_cons pe_int (pa_cons pe_int pa_nil)))) (pa_cons (pe_tup (pa_cons pe_str (pa_cons pe_int (pa_cons pe_int (pa_cons pe_int pa_nil))))) (pa_cons (pe_tup (pa_cons pe_str (pa_cons pe_int (pa_cons pe_int pa_nil)))) (pa_cons (pe_tup pa_nil) (pa_cons pe_non (pa_cons pe_str (pa_cons (pe_callTy call_list_of (by rfl) T.list (by decide +kernel) (pa_cons (pv 1) pa_nil)) (pa_cons (pe_tup (pa_cons pe_str (pa_cons pe_str pa_nil))) pa_nil))))))))))))
      (pss_cons (ps_set (i := 4) sc_law.nd rfl (by first | exact Or.inl rfl | exact Or.inr rfl) (pe_ix (r := rIxL K) ix_list (pe_lst (pa_cons (pe_tup (pa_cons pe_str (pa_cons pe_int pa_nil))) (pa_cons (pe_tup (pa_cons pe_str (pa_cons pe_int pa_nil))) (pa_cons (pe_tup (pa_cons pe_str (pa_cons pe_int (pa_cons pe_int pa_nil)))) (pa_cons (pe_tup (pa_cons pe_str (pa_cons pe_int (pa_cons pe_int pa_nil)))) pa_nil))))) (pe_op op_mod (pe_call G_law_cell (hr.mono (by first | decide | omega)) rfl D_law_cell.m D_law_cell.F.kp D_law_cell.b .nil pass0 (pa_cons (pv 0) (pa_cons pe_int pa_nil))) pe_int) (fun _ _ => rfl)))
      (pss_cons (ps_for PassesOwn.never rfl (pi_list (pv 3)) (pg_name (i := 5) sc_law.nd rfl (by first | exact Or.inl rfl | exact Or.inr rfl))
      (pss_one (ps_if (pt_not (pt_val (pe_call G_law_is_bad (hr.mono (by first | decide | omega)) rfl D_law_is_bad.m D_law_is_bad.F.kp D_law_is_bad.b .nil pass0 (pa_cons (pv 5) pa_nil))))
      (pss_one (ps_ret pe_bl))
      pss_nil)))
      (pss_one (ps_ret (pe_not (pe_call G_law_is_bad (hr.mono (by first | decide | omega)) rfl D_law_is_bad.m D_law_is_bad.F.kp D_law_is_bad.b .nil pass0 (pa_cons (pv 4) pa_nil)))))))))))))), ?_⟩
  refine ⟨_, rfl, a, ns, 0, 1, rfl, hS, by decide, by decide, fun s p H1 sm1 np hst => ?_⟩
  refine ⟨s, p, rfl, hst, fun t c H2 b2 hst2 nt ht hok => ?_⟩
  have s2 : Same H H2 := Bar.keep np ((Bar.of sm1).trans b2)
  have hC : ∀ {H'}, Same H2 H' → SqT K H' t (cvV c) := fun e => SqT.of (e _ _ ht)
  refine ⟨_, rfl, a, ns, 2, rfl, s2.seq hS, _, _, rfl, rfl, ⟨by decide, by decide, by decide⟩, _, _, rfl, rfl, _, _, rfl, rfl, (by show (0 : Int) < 10 ^ 24 + 1; decide), ?_⟩
  refine nx_to ?_
  dsimp only
  refine with_rest (t := tIfS _ _ _) (u := tSeq _ _) (fun σ' H3 => ∃ x : Int, σ' = [some (.ref a), some (.ref t), some (.int x), none, none, none] ∧ H3 = H2) ?_ (fun R => ?_)
  · rintro σ' H3 ⟨x, rfl, rfl⟩
    refine ⟨_, rfl, _, rfl, .inl ⟨⟨t, c, rfl, hC (Same.refl _), hok⟩, fun H4 s4 => ⟨_, rfl, iteF ?_⟩⟩⟩
    refine ⟨_, rfl, _, rfl, t, c, x, rfl, hC s4, hok, _, rfl, _, rfl, t, c, x, rfl, hC s4, hok, _, _, .int (pays c x), rfl, rfl, .int _, .int _, _, rfl, iteF ?_⟩
    refine ⟨_, rfl, _, rfl, _, _, rfl, rfl, t, c, x + 1, rfl, hC s4, hok, _, rfl, _, rfl, t, c, x, rfl, hC s4, hok, _, _, rfl, rfl, sz (by show 2 ≤ 100000; decide), fun l nl => ?_⟩
    refine ⟨l, _, rfl, .inl (SqL.of upd_same), rfl, rfl, _, rfl, ?_⟩
    have e1 : (if true = true then !inV (.int (pays c (x + 1) - pays c x)) [.int 0, .int 1] else inV (.int (pays c (x + 1) - pays c x)) [.int 0, .int 1]) = false := by
      rcases pays_step hok x with e | e
      · rw [e, Int.sub_self]
        rfl
      · rw [e, show pays c x + 1 - pays c x = 1 by omega]
        rfl
    rw [e1]
    refine iteF ?_
    have s5 := s4.trans (same_new (o := .lst [.int 0, .int 1]) nl)
    obtain ⟨H5, h5⟩ : ∃ H5, upd H4 l (.lst [.int 0, .int 1]) = H5 := ⟨_, rfl⟩
    rw [h5] at s5 ⊢
    -- the wrong ones
    have mono : ∀ H H' v, Same H H' → NoCov K H v → NoCov K H' v := fun _ _ _ e h => h.same e
    refine next_to ?_
    dsimp only
    refine seq_to ?_
    refine asg_to ?_
    refine gve_lst (P := NoCov K) (n := 7) ?_ (by decide) fun vs H6 w s6 hl6 hv6 nw => ?_
    · refine gva_cons mono (gve_tup (xs := [.str "share", .int 0]) (fun H1 Q q => q) (by decide) (no_tup (by decide +kernel) (by decide))) ?_
      refine gva_cons mono (gve_tup (xs := [.str "share", .int 1001]) (fun H1 Q q => q) (by decide) (no_tup (by decide +kernel) (by decide))) ?_
      refine gva_cons mono (gve_tup (xs := [.str "share"]) (fun H1 Q q => q) (by decide) (no_tup (by decide +kernel) (by decide))) ?_
      refine gva_cons mono (gve_tup (xs := [.str "share", .int 5, .int 5]) (fun H1 Q q => q) (by decide) (no_tup (by decide +kernel) (by decide))) ?_
      refine gva_cons mono (gve_tup (xs := [.str "layer", .int 1]) (fun H1 Q q => q) (by decide) (no_tup (by decide +kernel) (by decide))) ?_
      refine gva_cons mono (gve_tup (xs := [.str "layer", .int (-1), .int 1]) (fun H1 Q q => ⟨1, rfl, q⟩) (by decide) (no_tup (by decide +kernel) (by decide))) ?_
      refine gva_cons mono (gve_tup (xs := [.str "layer", .int 100001, .int 1]) (fun H1 Q q => q) (by decide) (no_tup (by decide +kernel) (by decide))) ?_
      exact gva_nil
    refine nx_to ?_
    dsimp only
    refine seq_to ?_
    refine asg_to ?_
    refine op_to ⟨_, rfl, ?_⟩
    refine gve_lst (P := NoCov K) (n := 9) ?_ (by decide) fun us H7 w2 s7 hl7 hv7 nw2 => ?_
    · refine gva_cons mono (gve_tup (xs := [.str "layer", .int 1, .int 0]) (fun H1 Q q => q) (by decide) (no_tup (by decide +kernel) (by decide))) ?_
      refine gva_cons mono (gve_tup (xs := [.str "layer", .int 1, .int 100001]) (fun H1 Q q => q) (by decide) (no_tup (by decide +kernel) (by decide))) ?_
      refine gva_cons mono (gve_tup (xs := [.str "layer", .int 1, .int 1, .int 1]) (fun H1 Q q => q) (by decide) (no_tup (by decide +kernel) (by decide))) ?_
      refine gva_cons mono (gve_tup (xs := [.str "other", .int 1, .int 1]) (fun H1 Q q => q) (by decide) (no_tup (by decide +kernel) (by decide))) ?_
      refine gva_cons mono (gve_tup (xs := []) (fun H1 Q q => q) (by decide) (no_tup (by decide +kernel) (by decide))) ?_
      refine gva_cons mono (gve_c fun H1 => .inl ⟨_, .base .non, kit_ty (by decide +kernel)⟩) ?_
      refine gva_cons mono (gve_c fun H1 => .inl ⟨_, .base (.str _), kit_ty (by decide +kernel)⟩) ?_
      refine gva_cons mono (fun H1 e Q q => ⟨_, rfl, t, _, rfl, .inr (hC (s5.trans (s6.trans ((same_new nw).trans e)))), fun y ny => q _ _ (same_new ny) (.inl ⟨_, .base (.lst upd_same), kit_ty (by decide +kernel)⟩)⟩) ?_
      refine gva_cons mono (gve_tup (xs := [.str "share", .str "1"]) (fun H1 Q q => q) (by decide) (no_tup (by decide +kernel) (by decide))) ?_
      exact gva_nil
    have hw : H7 w = some (.lst vs) := s7 _ _ upd_same
    refine ⟨w, w2, _, _, rfl, rfl, by rw [upd_ne (ne_of_none hw nw2)]; exact hw, upd_same, sz (by omega), fun g ng => ?_⟩
    have s67 : Same H6 H7 := (same_new nw).trans s7
    have s78 : Same H7 (upd (upd H7 w2 (.lst us)) g (.lst (vs ++ us))) := same_add (same_new nw2) ng
    obtain ⟨H8, h8⟩ : ∃ H8, upd (upd H7 w2 (.lst us)) g (.lst (vs ++ us)) = H8 := ⟨_, rfl⟩
    have hg : H8 g = some (.lst (vs ++ us)) := by
      rw [← h8]
      exact upd_same
    rw [h8] at s78 ⊢
    have all8 : ∀ v ∈ vs ++ us, NoCov K H8 v := fun v hv => by
      rcases List.mem_append.mp hv with hv | hv
      · exact (hv6 v hv).same (s67.trans s78)
      · exact (hv7 v hv).same s78
    -- the edges
    have mono2 : ∀ H H' v, Same H H' → IsCovV K H v → IsCovV K H' v := fun _ _ _ e h => h.same e
    refine nx_to ?_
    dsimp only
    refine seq_to ?_
    refine asg_to ?_
    refine op_to ?_
    refine gve_lst (P := IsCovV K) (n := 4) ?_ (by decide) fun es H9 w3 s9 hl9 hv9 nw3 => ?_
    · refine gva_cons mono2 (gve_tup (xs := cvV (.share 1)) (fun H1 Q q => q) (by decide) (is_tup ⟨by decide, by decide⟩)) ?_
      refine gva_cons mono2 (gve_tup (xs := cvV (.share 1000)) (fun H1 Q q => q) (by decide) (is_tup ⟨by decide, by decide⟩)) ?_
      refine gva_cons mono2 (gve_tup (xs := cvV (.layer 0 1)) (fun H1 Q q => q) (by decide) (is_tup ⟨by decide, by decide, by decide, by decide⟩)) ?_
      refine gva_cons mono2 (gve_tup (xs := cvV (.layer 100000 100000)) (fun H1 Q q => q) (by decide) (is_tup ⟨by decide, by decide, by decide, by decide⟩)) ?_
      exact gva_nil
    have s29 : Same H3 (upd H9 w3 (.lst es)) := s5.trans (s6.trans (s67.trans (s78.trans (same_add s9 nw3))))
    refine ⟨_, rfl, a, ns, 5, rfl, (s2.trans s29).seq hS, _, _, rfl, rfl, (by show (0 : Int) < 4; decide), ?_⟩
    obtain ⟨j, hj⟩ : ∃ j : Nat, cell ns 5 % 4 = (j : Int) := ⟨(cell ns 5 % 4).toNat, by omega⟩
    obtain ⟨ev, hev⟩ : ∃ ev, es[j]? = some ev := ⟨_, List.getElem?_eq_getElem (by omega)⟩
    refine ⟨w3, _, _, ev, rfl, rfl, SqL.of upd_same, by rw [hj]; exact atI_nat hev, ?_⟩
    have iev : IsCovV K (upd H9 w3 (.lst es)) ev := (hv9 ev (List.mem_of_getElem? hev)).same (same_new nw3)
    obtain ⟨H10, h10⟩ : ∃ H10, upd H9 w3 (.lst es) = H10 := ⟨_, rfl⟩
    have s810 : Same H8 H10 := by
      rw [← h10]
      exact same_add s9 nw3
    rw [h10] at iev ⊢
    refine ⟨_, rfl, g, rfl, ⟨_, SqL.of (s810 _ _ hg)⟩, for_list (K := K) (a := g) (xs := vs ++ us) (fun i σ H' => ∃ v5 : Option V, σ = [some (.ref a), some (.ref t), some (.int x), some (.ref g), some ev, v5] ∧ Same H10 H') ⟨none, rfl, Same.refl _⟩ (fun i σ H' _ ⟨_, _, sm⟩ => SqL.of (sm _ _ (s810 _ _ hg))) ?_ ?_⟩
    · rintro i v σ H' hi ⟨v5, rfl, sm⟩
      refine ⟨_, rfl, _, rfl, .inr ⟨(all8 v (List.mem_of_getElem? hi)).same (s810.trans sm), fun H11 s11 => ⟨_, rfl, iteF ?_⟩⟩⟩
      exact ⟨_, rfl, sm.trans s11⟩
    · rintro σ H' ⟨v5, rfl, sm⟩
      exact ⟨_, rfl, _, rfl, .inl ⟨iev.same sm, fun H11 s11 => ⟨_, rfl, q _⟩⟩⟩
  · refine ⟨_, rfl, a, ns, 3, rfl, s2.seq hS, _, _, rfl, rfl, (by show (0 : Int) < 3; decide), _, _, rfl, rfl, _, rfl, ?_⟩
    refine iteB (fun c => ?_) (fun c => ?_)
    · exact ⟨_, rfl, _, _, rfl, rfl, (by show (0 : Int) < 900; decide), R _ _ ⟨_, rfl, rfl⟩⟩
    · exact R _ _ ⟨_, rfl, rfl⟩

theorem same_all {f : Addr} {fd : FuncData} (D_law_same : Dfn K mg "_law_same" s_law_same ["actual", "expected"] f fd) (T : Tx K mg C_SpiralError C_BadCover) {f_law_is_integer : Addr} {fd_law_is_integer : FuncData} (D_law_is_integer : Dfn K mg "_law_is_integer" s_law_is_integer ["actual"] f_law_is_integer fd_law_is_integer)
    (G_law_is_integer : FnOk P w K mg base CX0 1 f_law_is_integer fd_law_is_integer ["actual"] (sp_law_is_integer K)) : ∀ n : Nat, FnOk P w K mg base CX0 (n + 1) f fd ["actual", "expected"] (sp_law_same K n)
  | 0 => by
    have no : ∀ vs H Q E, ¬ sp_law_same K 0 vs H Q E := fun vs H Q E h => by
      obtain ⟨x, y, d, _, h1, _⟩ := h
      simp [dOk] at h1
    exact ⟨fun vs H Q E h => absurd h (no vs H Q E), fun A outer s H args us vs Q E _ _ _ _ h => absurd h (no vs H Q E)⟩
  | n + 1 => ok_law_same D_law_same T D_law_is_integer G_law_is_integer (same_all D_law_same T D_law_is_integer G_law_is_integer n)
end
end Sd
/-! ### the end -/
namespace Sd
open PySem PySem.Spec PyProof.Rows L2
theorem all_mk {l : PySem.W.OpenLaw} {w : World} {K : PySem.W.Frag} {h : Heap} {mg : Str → Option Value} {fa f1 f2 f3 f4 f5 f6 f7 f8 f9 f10 f11 f12 f13 f14 C_SpiralError C_BadCover : Addr} (X : K.In h) (G : h.Ns mainGlobals mg) (hfa : mg "law" = some (.ref fa))
    {od1 an1 : Option Addr} {sl1 : Array (Option Value)} {oc1 kV1 dc1 pm1 cd1 ct1 : Value}
    {od2 an2 : Option Addr} {sl2 : Array (Option Value)} {oc2 kV2 dc2 pm2 cd2 ct2 : Value}
    {od3 an3 : Option Addr} {sl3 : Array (Option Value)} {oc3 kV3 dc3 pm3 cd3 ct3 : Value}
    {od4 an4 : Option Addr} {sl4 : Array (Option Value)} {oc4 kV4 dc4 pm4 cd4 ct4 : Value}
    {od5 an5 : Option Addr} {sl5 : Array (Option Value)} {oc5 kV5 dc5 pm5 cd5 ct5 : Value}
    {od6 an6 : Option Addr} {sl6 : Array (Option Value)} {oc6 kV6 dc6 pm6 cd6 ct6 : Value}
    {od7 an7 : Option Addr} {sl7 : Array (Option Value)} {oc7 kV7 dc7 pm7 cd7 ct7 : Value}
    {od8 an8 : Option Addr} {sl8 : Array (Option Value)} {oc8 kV8 dc8 pm8 cd8 ct8 : Value}
    {od9 an9 : Option Addr} {sl9 : Array (Option Value)} {oc9 kV9 dc9 pm9 cd9 ct9 : Value}
    {od10 an10 : Option Addr} {sl10 : Array (Option Value)} {oc10 kV10 dc10 pm10 cd10 ct10 : Value}
    {od11 an11 : Option Addr} {sl11 : Array (Option Value)} {oc11 kV11 dc11 pm11 cd11 ct11 : Value}
    {od12 an12 : Option Addr} {sl12 : Array (Option Value)} {oc12 kV12 dc12 pm12 cd12 ct12 : Value}
    {od13 an13 : Option Addr} {sl13 : Array (Option Value)} {oc13 kV13 dc13 pm13 cd13 ct13 : Value}
    {od14 an14 : Option Addr} {sl14 : Array (Option Value)} {oc14 kV14 dc14 pm14 cd14 ct14 : Value}
    (a1 : PySem.W.nsIn K mainGlobals "is_between" = some (some (.ref f1))) (l1 : K.lookup f1 = some ⟨oc1, od1, .func (PySem.W.fnOf "is_between" "is_between" (defArgs s_is_between) (defBody s_is_between) (defScope s_is_between) .none kV1 dc1 pm1 an1 cd1 ct1), sl1⟩) (c1 : PySem.W.codeIn K cd1 "is_between" = true) (k1 : PySem.W.keepIn K (.ref f1) = true)
    (a2 : PySem.W.nsIn K mainGlobals "is_cover" = some (some (.ref f2))) (l2 : K.lookup f2 = some ⟨oc2, od2, .func (PySem.W.fnOf "is_cover" "is_cover" (defArgs s_is_cover) (defBody s_is_cover) (defScope s_is_cover) .none kV2 dc2 pm2 an2 cd2 ct2), sl2⟩) (c2 : PySem.W.codeIn K cd2 "is_cover" = true) (k2 : PySem.W.keepIn K (.ref f2) = true)
    (a3 : PySem.W.nsIn K mainGlobals "check_cover" = some (some (.ref f3))) (l3 : K.lookup f3 = some ⟨oc3, od3, .func (PySem.W.fnOf "check_cover" "check_cover" (defArgs s_check_cover) (defBody s_check_cover) (defScope s_check_cover) .none kV3 dc3 pm3 an3 cd3 ct3), sl3⟩) (c3 : PySem.W.codeIn K cd3 "check_cover" = true) (k3 : PySem.W.keepIn K (.ref f3) = true)
    (a4 : PySem.W.nsIn K mainGlobals "recovery" = some (some (.ref f4))) (l4 : K.lookup f4 = some ⟨oc4, od4, .func (PySem.W.fnOf "recovery" "recovery" (defArgs s_recovery) (defBody s_recovery) (defScope s_recovery) .none kV4 dc4 pm4 an4 cd4 ct4), sl4⟩) (c4 : PySem.W.codeIn K cd4 "recovery" = true) (k4 : PySem.W.keepIn K (.ref f4) = true)
    (a5 : PySem.W.nsIn K mainGlobals "_law_cell" = some (some (.ref f5))) (l5 : K.lookup f5 = some ⟨oc5, od5, .func (PySem.W.fnOf "_law_cell" "_law_cell" (defArgs s_law_cell) (defBody s_law_cell) (defScope s_law_cell) .none kV5 dc5 pm5 an5 cd5 ct5), sl5⟩) (c5 : PySem.W.codeIn K cd5 "_law_cell" = true) (k5 : PySem.W.keepIn K (.ref f5) = true)
    (a6 : PySem.W.nsIn K mainGlobals "_law_draws" = some (some (.ref f6))) (l6 : K.lookup f6 = some ⟨oc6, od6, .func (PySem.W.fnOf "_law_draws" "_law_draws" (defArgs s_law_draws) (defBody s_law_draws) (defScope s_law_draws) .none kV6 dc6 pm6 an6 cd6 ct6), sl6⟩) (c6 : PySem.W.codeIn K cd6 "_law_draws" = true) (k6 : PySem.W.keepIn K (.ref f6) = true)
    (a7 : PySem.W.nsIn K mainGlobals "_law_stream" = some (some (.ref f7))) (l7 : K.lookup f7 = some ⟨oc7, od7, .func (PySem.W.fnOf "_law_stream" "_law_stream" (defArgs s_law_stream) (defBody s_law_stream) (defScope s_law_stream) .none kV7 dc7 pm7 an7 cd7 ct7), sl7⟩) (c7 : PySem.W.codeIn K cd7 "_law_stream" = true) (k7 : PySem.W.keepIn K (.ref f7) = true)
    (a8 : PySem.W.nsIn K mainGlobals "_law_next" = some (some (.ref f8))) (l8 : K.lookup f8 = some ⟨oc8, od8, .func (PySem.W.fnOf "_law_next" "_law_next" (defArgs s_law_next) (defBody s_law_next) (defScope s_law_next) .none kV8 dc8 pm8 an8 cd8 ct8), sl8⟩) (c8 : PySem.W.codeIn K cd8 "_law_next" = true) (k8 : PySem.W.keepIn K (.ref f8) = true)
    (a9 : PySem.W.nsIn K mainGlobals "_law_is_integer" = some (some (.ref f9))) (l9 : K.lookup f9 = some ⟨oc9, od9, .func (PySem.W.fnOf "_law_is_integer" "_law_is_integer" (defArgs s_law_is_integer) (defBody s_law_is_integer) (defScope s_law_is_integer) .none kV9 dc9 pm9 an9 cd9 ct9), sl9⟩) (c9 : PySem.W.codeIn K cd9 "_law_is_integer" = true) (k9 : PySem.W.keepIn K (.ref f9) = true)
    (a10 : PySem.W.nsIn K mainGlobals "_law_same" = some (some (.ref f10))) (l10 : K.lookup f10 = some ⟨oc10, od10, .func (PySem.W.fnOf "_law_same" "_law_same" (defArgs s_law_same) (defBody s_law_same) (defScope s_law_same) .none kV10 dc10 pm10 an10 cd10 ct10), sl10⟩) (c10 : PySem.W.codeIn K cd10 "_law_same" = true) (k10 : PySem.W.keepIn K (.ref f10) = true)
    (a11 : PySem.W.nsIn K mainGlobals "_law_pays" = some (some (.ref f11))) (l11 : K.lookup f11 = some ⟨oc11, od11, .func (PySem.W.fnOf "_law_pays" "_law_pays" (defArgs s_law_pays) (defBody s_law_pays) (defScope s_law_pays) .none kV11 dc11 pm11 an11 cd11 ct11), sl11⟩) (c11 : PySem.W.codeIn K cd11 "_law_pays" = true) (k11 : PySem.W.keepIn K (.ref f11) = true)
    (a12 : PySem.W.nsIn K mainGlobals "_law_cover" = some (some (.ref f12))) (l12 : K.lookup f12 = some ⟨oc12, od12, .func (PySem.W.fnOf "_law_cover" "_law_cover" (defArgs s_law_cover) (defBody s_law_cover) (defScope s_law_cover) .none kV12 dc12 pm12 an12 cd12 ct12), sl12⟩) (c12 : PySem.W.codeIn K cd12 "_law_cover" = true) (k12 : PySem.W.keepIn K (.ref f12) = true)
    (a13 : PySem.W.nsIn K mainGlobals "_law_is_bad" = some (some (.ref f13))) (l13 : K.lookup f13 = some ⟨oc13, od13, .func (PySem.W.fnOf "_law_is_bad" "_law_is_bad" (defArgs s_law_is_bad) (defBody s_law_is_bad) (defScope s_law_is_bad) .none kV13 dc13 pm13 an13 cd13 ct13), sl13⟩) (c13 : PySem.W.codeIn K cd13 "_law_is_bad" = true) (k13 : PySem.W.keepIn K (.ref f13) = true)
    (a14 : PySem.W.nsIn K mainGlobals "law" = some (some (.ref f14))) (l14 : K.lookup f14 = some ⟨oc14, od14, .func (PySem.W.fnOf "law" "law" (defArgs s_law) (defBody s_law) (defScope s_law) .none kV14 dc14 pm14 an14 cd14 ct14), sl14⟩) (c14 : PySem.W.codeIn K cd14 "law" = true) (k14 : PySem.W.keepIn K (.ref f14) = true)
    (z_isinstance : PySem.W.nsIn K mainGlobals "isinstance" = some none) (z_bool : PySem.W.nsIn K mainGlobals "bool" = some none) (z_int : PySem.W.nsIn K mainGlobals "int" = some none) (z_tuple : PySem.W.nsIn K mainGlobals "tuple" = some none) (z_len : PySem.W.nsIn K mainGlobals "len" = some none) (z_min : PySem.W.nsIn K mainGlobals "min" = some none) (z_max : PySem.W.nsIn K mainGlobals "max" = some none) (z_abs : PySem.W.nsIn K mainGlobals "abs" = some none) (z_range : PySem.W.nsIn K mainGlobals "range" = some none) (z_str : PySem.W.nsIn K mainGlobals "str" = some none) (z_list : PySem.W.nsIn K mainGlobals "list" = some none) (z_ValueError : PySem.W.nsIn K mainGlobals "ValueError" = some none) {t_WHOLE : Tok} (z_WHOLE : PySem.W.nsIn K mainGlobals "WHOLE" = some (some (.int 1000 t_WHOLE))) {t_MOST_RETENTION : Tok} (z_MOST_RETENTION : PySem.W.nsIn K mainGlobals "MOST_RETENTION" = some (some (.int 100000 t_MOST_RETENTION))) {t_MOST_LIMIT : Tok} (z_MOST_LIMIT : PySem.W.nsIn K mainGlobals "MOST_LIMIT" = some (some (.int 100000 t_MOST_LIMIT)))
    (xg_SpiralError : PySem.W.nsIn K mainGlobals "SpiralError" = some (some (.ref C_SpiralError))) (xx_SpiralError : PySem.W.excIn K C_SpiralError [.type "ValueError", .type "Exception", .type "BaseException", .type "object"] "ValueError.__new__" = true) (xk_SpiralError : PySem.W.keepIn K (.ref C_SpiralError) = true) (xb_SpiralError : PySem.W.subIn K (.ref C_SpiralError) (.type "BaseException") = some true) (xt_SpiralError : PySem.W.typeIn K (.ref C_SpiralError) = some (.type "type")) (xd_SpiralError : PySem.W.hasDictIn K C_SpiralError = true) (xs_SpiralError : PySem.W.subIn K (.ref C_SpiralError) (.ref C_SpiralError) = some true)
    (xg_BadCover : PySem.W.nsIn K mainGlobals "BadCover" = some (some (.ref C_BadCover))) (xx_BadCover : PySem.W.excIn K C_BadCover [.type "ValueError", .type "Exception", .type "BaseException", .type "object"] "ValueError.__new__" = true) (xk_BadCover : PySem.W.keepIn K (.ref C_BadCover) = true) (xb_BadCover : PySem.W.subIn K (.ref C_BadCover) (.type "BaseException") = some true) (xt_BadCover : PySem.W.typeIn K (.ref C_BadCover) = some (.type "type")) (xd_BadCover : PySem.W.hasDictIn K C_BadCover = true) (xs_BadCover : PySem.W.subIn K (.ref C_BadCover) (.ref C_BadCover) = some true)
    (yg_BadCover : PySem.W.findIn K (.ref C_BadCover) "__getattribute__" = some (some (.builtin "BaseException.__getattribute__"))) (yk_BadCover : PySem.W.findIn K (.ref C_BadCover) "__getattr__" = some none) (ya_BadCover : PySem.W.findIn K (.ref C_BadCover) "__class__" = some (some (.builtin "object.__class__"))) (yn_BadCover : PySem.W.specialIn K (.builtin "object.__class__") "__get__" = some (some (.builtin "getset_descriptor.__get__"))) (yt_BadCover : PySem.W.takesIn K (.builtin "object.__class__") = some true) (ym_BadCover : PySem.W.mroIn K C_BadCover (.type "object") = some true)
    (f_kitS : PySem.W.kitOne K (.ref C_BadCover) (.ref C_SpiralError) = some true)
    (f_kitV : PySem.W.kitOne K (.ref C_BadCover) (.type "ValueError") = some true)
    :
    ∃ fd : FuncData, (∀ (s : Shared) (v : Value), BindsTo s fd ⟨[v], []⟩ [("script", v)]) ∧ ∀ base : Heap, K.In base → base.Ns mainGlobals mg → FnOk l.prog w K mg base CX0 10 fa fd ["script"] (sp_law K) := by
  have e := hfa.symm.trans (PySem.W.mg_of X G a14)
  cases e
  have T : Tx K mg C_SpiralError C_BadCover := ⟨PySem.W.mg_none_of X G z_isinstance, PySem.W.mg_none_of X G z_bool, PySem.W.mg_none_of X G z_int, PySem.W.mg_none_of X G z_tuple, PySem.W.mg_none_of X G z_len, PySem.W.mg_none_of X G z_min, PySem.W.mg_none_of X G z_max, PySem.W.mg_none_of X G z_abs, PySem.W.mg_none_of X G z_range, PySem.W.mg_none_of X G z_str, PySem.W.mg_none_of X G z_list, PySem.W.mg_none_of X G z_ValueError, ⟨_, PySem.W.mg_of X G z_WHOLE⟩, ⟨_, PySem.W.mg_of X G z_MOST_RETENTION⟩, ⟨_, PySem.W.mg_of X G z_MOST_LIMIT⟩, ⟨PySem.W.mg_of X G xg_SpiralError, xx_SpiralError, xk_SpiralError, xb_SpiralError, xt_SpiralError, PySem.W.exm_ref xb_SpiralError xd_SpiralError xt_SpiralError xs_SpiralError⟩, ⟨PySem.W.mg_of X G xg_BadCover, xx_BadCover, xk_BadCover, xb_BadCover, xt_BadCover, PySem.W.exm_ref xb_BadCover xd_BadCover xt_BadCover xs_BadCover⟩, ⟨yg_BadCover, yk_BadCover, xb_BadCover, xd_BadCover, ya_BadCover, yn_BadCover, yt_BadCover, ym_BadCover⟩, f_kitS, f_kitV⟩
  have F1 := fun_mk (st := s_is_between) l1 c1 k1
  have D_is_between : Dfn K mg "is_between" s_is_between ["value", "low", "high"] f1 _ := ⟨F1, F1.binds (ps := ["value", "low", "high"]) fun _ _ _ _ _ _ us hl => match us, hl with | [_, _, _], _ => rfl, PySem.W.mg_of X G a1⟩
  have F2 := fun_mk (st := s_is_cover) l2 c2 k2
  have D_is_cover : Dfn K mg "is_cover" s_is_cover ["value"] f2 _ := ⟨F2, F2.binds (ps := ["value"]) fun _ _ _ _ _ _ us hl => match us, hl with | [_], _ => rfl, PySem.W.mg_of X G a2⟩
  have F3 := fun_mk (st := s_check_cover) l3 c3 k3
  have D_check_cover : Dfn K mg "check_cover" s_check_cover ["value"] f3 _ := ⟨F3, F3.binds (ps := ["value"]) fun _ _ _ _ _ _ us hl => match us, hl with | [_], _ => rfl, PySem.W.mg_of X G a3⟩
  have F4 := fun_mk (st := s_recovery) l4 c4 k4
  have D_recovery : Dfn K mg "recovery" s_recovery ["cover", "loss"] f4 _ := ⟨F4, F4.binds (ps := ["cover", "loss"]) fun _ _ _ _ _ _ us hl => match us, hl with | [_, _], _ => rfl, PySem.W.mg_of X G a4⟩
  have F5 := fun_mk (st := s_law_cell) l5 c5 k5
  have D_law_cell : Dfn K mg "_law_cell" s_law_cell ["script", "k"] f5 _ := ⟨F5, F5.binds (ps := ["script", "k"]) fun _ _ _ _ _ _ us hl => match us, hl with | [_, _], _ => rfl, PySem.W.mg_of X G a5⟩
  have F6 := fun_mk (st := s_law_draws) l6 c6 k6
  have D_law_draws : Dfn K mg "_law_draws" s_law_draws ["cell", "count"] f6 _ := ⟨F6, F6.binds (ps := ["cell", "count"]) fun _ _ _ _ _ _ us hl => match us, hl with | [_, _], _ => rfl, PySem.W.mg_of X G a6⟩
  have F7 := fun_mk (st := s_law_stream) l7 c7 k7
  have D_law_stream : Dfn K mg "_law_stream" s_law_stream ["script", "first", "count"] f7 _ := ⟨F7, F7.binds (ps := ["script", "first", "count"]) fun _ _ _ _ _ _ us hl => match us, hl with | [_, _, _], _ => rfl, PySem.W.mg_of X G a7⟩
  have F8 := fun_mk (st := s_law_next) l8 c8 k8
  have D_law_next : Dfn K mg "_law_next" s_law_next ["stream", "many"] f8 _ := ⟨F8, F8.binds (ps := ["stream", "many"]) fun _ _ _ _ _ _ us hl => match us, hl with | [_, _], _ => rfl, PySem.W.mg_of X G a8⟩
  have F9 := fun_mk (st := s_law_is_integer) l9 c9 k9
  have D_law_is_integer : Dfn K mg "_law_is_integer" s_law_is_integer ["actual"] f9 _ := ⟨F9, F9.binds (ps := ["actual"]) fun _ _ _ _ _ _ us hl => match us, hl with | [_], _ => rfl, PySem.W.mg_of X G a9⟩
  have F10 := fun_mk (st := s_law_same) l10 c10 k10
  have D_law_same : Dfn K mg "_law_same" s_law_same ["actual", "expected"] f10 _ := ⟨F10, F10.binds (ps := ["actual", "expected"]) fun _ _ _ _ _ _ us hl => match us, hl with | [_, _], _ => rfl, PySem.W.mg_of X G a10⟩
  have F11 := fun_mk (st := s_law_pays) l11 c11 k11
  have D_law_pays : Dfn K mg "_law_pays" s_law_pays ["cover", "loss"] f11 _ := ⟨F11, F11.binds (ps := ["cover", "loss"]) fun _ _ _ _ _ _ us hl => match us, hl with | [_, _], _ => rfl, PySem.W.mg_of X G a11⟩
  have F12 := fun_mk (st := s_law_cover) l12 c12 k12
  have D_law_cover : Dfn K mg "_law_cover" s_law_cover ["stream"] f12 _ := ⟨F12, F12.binds (ps := ["stream"]) fun _ _ _ _ _ _ us hl => match us, hl with | [_], _ => rfl, PySem.W.mg_of X G a12⟩
  have F13 := fun_mk (st := s_law_is_bad) l13 c13 k13
  have D_law_is_bad : Dfn K mg "_law_is_bad" s_law_is_bad ["value"] f13 _ := ⟨F13, F13.binds (ps := ["value"]) fun _ _ _ _ _ _ us hl => match us, hl with | [_], _ => rfl, PySem.W.mg_of X G a13⟩
  have DL : Dfn K mg "law" s_law ["script"] fa _ := ⟨fun_mk (st := s_law) l14 c14 k14, (fun_mk (st := s_law) l14 c14 k14).binds (ps := ["script"]) fun _ _ _ _ _ _ us hl => match us, hl with | [_], _ => rfl, PySem.W.mg_of X G a14⟩
  refine ⟨PySem.W.fnOf "law" "law" (defArgs s_law) (defBody s_law) (defScope s_law) .none kV14 dc14 pm14 an14 cd14 ct14, fun s v => .of_eq rfl, fun base _ _ => ?_⟩
  have G_is_between := ok_is_between (P := l.prog) (w := w) (base := base) D_is_between T
  have G_is_cover := ok_is_cover (P := l.prog) (w := w) (base := base) D_is_cover T D_is_between G_is_between
  have G_check_cover := ok_check_cover (P := l.prog) (w := w) (base := base) D_check_cover T D_is_cover G_is_cover
  have G_recovery := ok_recovery (P := l.prog) (w := w) (base := base) D_recovery T
  have G_law_cell := ok_law_cell (P := l.prog) (w := w) (base := base) D_law_cell T
  have G_law_draws := ok_law_draws (P := l.prog) (w := w) (base := base) D_law_draws T
  have G_law_stream := ok_law_stream (P := l.prog) (w := w) (base := base) D_law_stream T D_law_draws G_law_draws D_law_cell G_law_cell
  have G_law_next := ok_law_next (P := l.prog) (w := w) (base := base) D_law_next T
  have G_law_is_integer := ok_law_is_integer (P := l.prog) (w := w) (base := base) D_law_is_integer T
  have G_law_same := same_all (P:=l.prog) (w:=w) (base:=base) D_law_same T D_law_is_integer G_law_is_integer 8
  have G_law_pays := ok_law_pays (P := l.prog) (w := w) (base := base) D_law_pays T
  have G_law_cover := ok_law_cover (P := l.prog) (w := w) (base := base) D_law_cover T D_law_next G_law_next
  have G_law_is_bad := ok_law_is_bad (P := l.prog) (w := w) (base := base) D_law_is_bad T D_check_cover G_check_cover
  exact ok_law DL T D_law_cover G_law_cover D_law_stream G_law_stream D_law_cell G_law_cell D_law_is_bad G_law_is_bad D_law_same G_law_same D_recovery G_recovery D_law_pays G_law_pays
theorem walk {l : PySem.W.OpenLaw} {q : Program} {loose : List Str} {XP : (Str → Option Value) → Heap → Prop} {YP : World → Heap → Prop} {d : DefRec} {K : Params → PySem.W.Frag} (hn : l.most = some 63) (hdf : d.params.defaults = [])
    (hY : ∀ (w : World) (h : Heap), YP w h → (K w.params).In h)
    (F : ∀ (w : World) (mg : Str → Option Value) (fa : Addr) (h : Heap), (K w.params).In h → h.Ns mainGlobals mg → mg d.name = some (.ref fa) →
      ∃ fd : FuncData, (∀ (s : Shared) (u : Value), BindsTo s fd ⟨[u], []⟩ [("script", u)]) ∧ ∀ base : Heap, (K w.params).In base → base.Ns mainGlobals mg → FnOk l.prog w (K w.params) mg base CX0 10 fa fd ["script"] (sp_law (K w.params))) :
    PySem.W.WalkO q loose XP YP l.row.toRowW d [] (fun f vs => PySem.call f vs) :=
  L2.walk_of (n := 63) (k := 10) (x := "script") (CX := fun _ => CX0) (sp := fun w => sp_law (K w.params)) hn (by decide) hdf ⟨rfl, by decide, by decide⟩ hY F (fun _ _ a ns hl _ hS => ⟨a, ns, rfl, hS, hl, fun _ => rfl⟩) fun _ _ _ _ _ z => z
end Sd

open PySem PySem.W PyProof.Rows in
set_option maxRecDepth 100000 in
set_option maxHeartbeats 0 in
theorem PySem.Challenge.cw_spiraldue_k01_covers_holds : PySem.Challenge.rw_spiraldue_k01_covers.Holds := by
  w_on; o_law; k_head; (case hw => w_witness2)
  k_fill
  refine Sd.walk (l := PySem.Challenge.rw_spiraldue_k01_covers) rfl rfl (fun w h Y => PySem.W.kIn_of Y) ?F
  case F =>
    intro w mg fa h KX G hmg
    refine' Sd.all_mk KX G hmg ?a1 ?l1 ?c1 ?k1 ?a2 ?l2 ?c2 ?k2 ?a3 ?l3 ?c3 ?k3 ?a4 ?l4 ?c4 ?k4 ?a5 ?l5 ?c5 ?k5 ?a6 ?l6 ?c6 ?k6 ?a7 ?l7 ?c7 ?k7 ?a8 ?l8 ?c8 ?k8 ?a9 ?l9 ?c9 ?k9 ?a10 ?l10 ?c10 ?k10 ?a11 ?l11 ?c11 ?k11 ?a12 ?l12 ?c12 ?k12 ?a13 ?l13 ?c13 ?k13 ?a14 ?l14 ?c14 ?k14 ?z_isinstance ?z_bool ?z_int ?z_tuple ?z_len ?z_min ?z_max ?z_abs ?z_range ?z_str ?z_list ?z_ValueError ?z_WHOLE ?z_MOST_RETENTION ?z_MOST_LIMIT ?xg_SpiralError ?xx_SpiralError ?xk_SpiralError ?xb_SpiralError ?xt_SpiralError ?xd_SpiralError ?xs_SpiralError ?xg_BadCover ?xx_BadCover ?xk_BadCover ?xb_BadCover ?xt_BadCover ?xd_BadCover ?xs_BadCover ?yg_BadCover ?yk_BadCover ?ya_BadCover ?yn_BadCover ?yt_BadCover ?ym_BadCover ?f_kitS ?f_kitV
    (case a1 => k_is)
    (case l1 => k_is)
    (case c1 => k_is)
    (case k1 => k_is)
    (case a2 => k_is)
    (case l2 => k_is)
    (case c2 => k_is)
    (case k2 => k_is)
    (case a3 => k_is)
    (case l3 => k_is)
    (case c3 => k_is)
    (case k3 => k_is)
    (case a4 => k_is)
    (case l4 => k_is)
    (case c4 => k_is)
    (case k4 => k_is)
    (case a5 => k_is)
    (case l5 => k_is)
    (case c5 => k_is)
    (case k5 => k_is)
    (case a6 => k_is)
    (case l6 => k_is)
    (case c6 => k_is)
    (case k6 => k_is)
    (case a7 => k_is)
    (case l7 => k_is)
    (case c7 => k_is)
    (case k7 => k_is)
    (case a8 => k_is)
    (case l8 => k_is)
    (case c8 => k_is)
    (case k8 => k_is)
    (case a9 => k_is)
    (case l9 => k_is)
    (case c9 => k_is)
    (case k9 => k_is)
    (case a10 => k_is)
    (case l10 => k_is)
    (case c10 => k_is)
    (case k10 => k_is)
    (case a11 => k_is)
    (case l11 => k_is)
    (case c11 => k_is)
    (case k11 => k_is)
    (case a12 => k_is)
    (case l12 => k_is)
    (case c12 => k_is)
    (case k12 => k_is)
    (case a13 => k_is)
    (case l13 => k_is)
    (case c13 => k_is)
    (case k13 => k_is)
    (case a14 => k_is)
    (case l14 => k_is)
    (case c14 => k_is)
    (case k14 => k_is)
    (case z_isinstance => k_is)
    (case z_bool => k_is)
    (case z_int => k_is)
    (case z_tuple => k_is)
    (case z_len => k_is)
    (case z_min => k_is)
    (case z_max => k_is)
    (case z_abs => k_is)
    (case z_range => k_is)
    (case z_str => k_is)
    (case z_list => k_is)
    (case z_ValueError => k_is)
    (case z_WHOLE => k_is)
    (case z_MOST_RETENTION => k_is)
    (case z_MOST_LIMIT => k_is)
    (case xg_SpiralError => first | k_is | kit_is)
    (case xx_SpiralError => first | k_exc | k_is | rfl)
    (case xk_SpiralError => first | k_is | kit_is)
    (case xb_SpiralError => first | k_is | kit_is)
    (case xt_SpiralError => first | k_is | kit_is)
    (case xd_SpiralError => first | k_is | kit_is)
    (case xs_SpiralError => first | rfl | k_is)
    (case xg_BadCover => first | k_is | kit_is)
    (case xx_BadCover => first | k_exc | k_is | rfl)
    (case xk_BadCover => first | k_is | kit_is)
    (case xb_BadCover => first | k_is | kit_is)
    (case xt_BadCover => first | k_is | kit_is)
    (case xd_BadCover => first | k_is | kit_is)
    (case xs_BadCover => first | rfl | k_is)
    (case yg_BadCover => first | k_is | kit_is)
    (case yk_BadCover => first | k_is | kit_is)
    (case ya_BadCover => first | k_is | kit_is)
    (case yn_BadCover => first | k_is | kit_is)
    (case yt_BadCover => first | k_is | kit_is)
    (case ym_BadCover => first | k_is | kit_is)
    (case f_kitS => first | k_is | kit_is)
    (case f_kitV => first | k_is | kit_is)
