import PyProof.Rows.All
import Wide.All
import OpenK.AllK
import Wide.FinOn
import HandS.ForMost
import HandS.Flow
import HandS.IsInst
import HandS.Wide
import HandS.WideBits
import HandS.TupAny
import HandS.Exc
import HandS.TryOnly
import HandS.ExcOwn
import HandS.WordsExc
import HandS.ExcIs
import KE.KUnpackStar
import KE.GoesNew
import KE.GoesEnum
import KE.GoesMore
import HandS.Walk
import HandS.ExcInit
import HandS.ExcField
import HandS.TryMany
import HandS.DictComp
import HandS.Strs
import KE.KDictCopyH
import HandS.TupMul
import HandS.RepeatKit
import HandS.RevRange
import KE.KDictPairs
import KE.KDictKeyed
import HandS.Style
import PySem.Challenge.RW_spiraldue_k51_judge_of_units
set_option Elab.async false
set_option maxRecDepth 100000
set_option maxHeartbeats 4000000
/-! ### P1. heaps -/
namespace Sd
open PySem PySem.Spec PyProof.Rows L2
set_option linter.all false
theorem same_new {H : Hp} {p : Addr} {o : HO} (h : H p = none) : Same H (upd H p o) := fun b u q => by
  rw [upd_ne (ne_of_none q h)]
  exact q
theorem same_put {H H' : Hp} {p : Addr} {o : HO} (s : Same H H') (h : H p = none) : Same H (upd H' p o) := fun b u q => by
  rw [upd_ne (ne_of_none q h)]
  exact s b u q
theorem same_add {H H' : Hp} {p : Addr} {o : HO} (s : Same H H') (h : H' p = none) : Same H (upd H' p o) := s.trans (same_new h)
theorem same_sqt {K : PySem.W.Frag} {H H' : Hp} {a : Addr} {xs : List V} (e : Same H H') (h : SqT K H a xs) : SqT K H' a xs := by
  rcases h with (h | ⟨o, h⟩) | h
  · exact .inl (.inl (e _ _ h))
  · exact .inl (.inr ⟨o, e _ _ h⟩)
  · exact .inr h
/-- a list or a tuple of xs -/
def Sq (K : PySem.W.Frag) (H : Hp) (a : Addr) (xs : List V) : Prop := SqL K H a xs ∨ SqT K H a xs
theorem same_sq {K : PySem.W.Frag} {H H' : Hp} {a : Addr} {xs : List V} (e : Same H H') (h : Sq K H a xs) : Sq K H' a xs := by
  rcases h with h | h
  · exact .inl (e.seq h)
  · exact .inr (same_sqt e h)
/-- all but p stands as it stood -/
def Bar (p : Addr) (H H' : Hp) : Prop := ∀ b o, b ≠ p → H b = some o → H' b = some o
theorem Bar.refl {p : Addr} (H : Hp) : Bar p H H := fun _ _ _ h => h
theorem Bar.trans {p : Addr} {H H1 H2 : Hp} (a : Bar p H H1) (b : Bar p H1 H2) : Bar p H H2 := fun c o n h => b c o n (a c o n h)
theorem Bar.of {p : Addr} {H H' : Hp} (s : Same H H') : Bar p H H' := fun b o _ h => s b o h
theorem Bar.put {p : Addr} {H H' : Hp} {o : HO} (s : Bar p H H') : Bar p H (upd H' p o) := fun b u n q => by
  rw [upd_ne n]
  exact s b u n q
theorem Bar.add {p q : Addr} {H H' : Hp} {o : HO} (s : Bar p H H') (h : H' q = none) : Bar p H (upd H' q o) := s.trans (Bar.of (same_new h))
theorem Bar.keep {p : Addr} {H0 H : Hp} (h : H0 p = none) (s : Bar p H0 H) : Same H0 H := fun b o q => s b o (ne_of_none q h) q
theorem Bar.free {p q : Addr} {H H' : Hp} (s : Bar p H H') (n : q ≠ p) (h : H' q = none) : H q = none := by
  cases e : H q with
  | none => rfl
  | some o =>
    rw [s q o n e] at h
    cases h
theorem Bar.new {p q : Addr} {H : Hp} {o : HO} (hp : H p = some o) (h : H q = none) : q ≠ p := (ne_of_none hp h).symm

theorem free2 {H : Hp} {p o : Addr} {u : HO} (np : H p = none) (no : upd H p u o = none) : H o = none := (same_new np).free no

/-! ### P2. rules -/
/-- sum(xs) of a list or a tuple of ints -/
def rSumS (K : PySem.W.Frag) : List V → Hp → VK → Prop := fun vs H Q => ∃ (a : Addr) (ns : List Int), vs = [V.ref a] ∧ Sq K H a (ns.map V.int) ∧ Q (.int ns.sum) H
theorem cr_sumS {X : Cx} (hc : X.calm = true) : CallR X (.builtin "sum") (rSumS X.K) := by
  intro pins s σ H vs us Q I r h
  obtain ⟨a, ns, rfl, hs | hs, q⟩ := h
  · exact cr_sum hc pins s σ H _ us Q I r ⟨a, ns, rfl, hs, q⟩
  · obtain ⟨its, rv, ⟨ob, ho, hcl, n, hd⟩, _⟩ := I.tuple hs
    rw [Vals.ref1 r]
    have hi := rv.ints
    have ht : s.heap.IsTuple a its.toArray := ⟨ob, ho, hcl, n, hd⟩
    obtain ⟨xs, e⟩ := hi.allInts.items
    have hn : numsOf (intItems xs).toList = ns := by rw [← e]; exact hi.numsOf
    rw [nums_intItems] at hn
    rw [e] at ht
    refine PySem.W.ktm_sumG (I.ok.hd hc) ht fun h' tk t' hk => ?_
    rw [preSum_eq, List.take_of_length_le (by simp), hn]
    exact ⟨.int _, H, I.kept hk, ⟨_, rfl⟩, q⟩
/-- what isinstance asks -/
theorem tyx_lst {K : PySem.W.Frag} {H : Hp} {a : Addr} {xs : List V} (h : SqL K H a xs) : TyX K H (.ref a) (.type "list") := by
  rcases h with (h | ⟨o, h⟩) | ⟨o, its, n, hk, hc, _⟩
  · exact .base (.lst h)
  · exact .base (.frz h)
  · exact .kList hk hc
theorem tyx_tup {K : PySem.W.Frag} {H : Hp} {a : Addr} {xs : List V} (h : SqT K H a xs) : TyX K H (.ref a) (.type "tuple") := by
  rcases h with (h | ⟨o, h⟩) | ⟨o, its, n, hk, hc, _⟩
  · exact .base (.tup h)
  · exact .fTuple h
  · exact .kTuple hk hc
/-- tuple + tuple, whichever is empty -/
theorem cat_any {K : PySem.W.Frag} {H : Hp} {a b : Addr} {xs ys : List V} {Q : VK} (ha : SqT K H a xs) (hb : SqT K H b ys) (hz : xs.length + ys.length ≤ sizeLine) (q : ∀ p H', Same H H' → SqT K H' p (xs ++ ys) → Q (.ref p) H') : rCatA K (.ref a) (.ref b) H Q := by
  refine ⟨a, b, xs, ys, rfl, rfl, ha, hb, hz, fun e => ?_, fun _ e => ?_, fun _ _ p np => q p _ (same_new np) (SqT.of upd_same)⟩
  · subst e
    exact q b H (Same.refl H) hb
  · subst e
    rw [List.append_nil] at q
    exact q a H (Same.refl H) ha
theorem pe_gi {X : Cx} {x : Str} {n : Int} {pos : Pos} (hg : Gl X x) (h : ∃ t, X.mg x = some (Value.int n t)) (hd : (x == ("__debug__" : Str)) = false := by decide) : PE X (.Name x pos) (tC (.int n)) :=
  let ⟨t, e⟩ := h
  pe_glob (v := .int n) hg e ⟨t, rfl⟩ hd
theorem pe_gs {X : Cx} {x : Str} {n : Str} {pos : Pos} (hg : Gl X x) (h : ∃ t, X.mg x = some (Value.str n t)) (hd : (x == ("__debug__" : Str)) = false := by decide) : PE X (.Name x pos) (tC (.str n)) :=
  let ⟨t, e⟩ := h
  pe_glob (v := .str n) hg e ⟨t, rfl⟩ hd
/-- an own error: a class over ValueError without a making of its own -/
structure ExF (K : PySem.W.Frag) (mg : Str → Option Value) (x : Str) (C : Addr) : Prop where
  g : mg x = some (.ref C)
  x : PySem.W.excIn K C [.type "ValueError", .type "Exception", .type "BaseException", .type "object"] "ValueError.__new__" = true
  k : PySem.W.keepIn K (.ref C) = true
  b : PySem.W.subIn K (.ref C) (.type "BaseException") = some true
  t : PySem.W.typeIn K (.ref C) = some (.type "type")
  e : PySem.W.exmOne K (.ref C) (.ref C) = some true
/-- isinstance of the error that a suite holds -/
theorem call_isEx {X : Cx} {a : Addr} {oe : Obj} {cls : Value} {d : Option Addr} {pn : List (Addr × Obj)} (hz : Zc cls d oe) (hf : ∃ vs, oe.data = .fields vs) :
    CallR (X.suite a ((a, oe) :: pn)) (.builtin "isinstance") (fun xs H Q => ∃ D, cls = .ref D ∧ d = none ∧ ExcC X.K D ∧ rIsE X.K D a xs H Q) := by
  intro pins s σ H xs us Q I r h
  obtain ⟨D, rfl, rfl, C, h⟩ := h
  exact call_isE C hz hf pins s σ H xs us Q I r h
/-- a def of the module: where it stands, how it binds, its name -/
structure Dfn (K : PySem.W.Frag) (mg : Str → Option Value) (x : Str) (st : Stmt) (ps : List Str) (f : Addr) (fd : FuncData) : Prop where
  F : Fun K x x st f fd
  b : Binds K fd ps []
  m : mg x = some (.ref f)
theorem at_map {ns : List Int} {j : Nat} {v : Int} (h : ns[j]? = some v) : (ns.map V.int)[j]? = some (V.int v) := by
  rw [List.getElem?_map, h] <;> rfl
theorem of_at_map {ns : List Int} {j : Nat} {y : V} (h : (ns.map V.int)[j]? = some y) : ∃ v, y = V.int v ∧ ns[j]? = some v := by
  rw [List.getElem?_map] at h
  cases e : ns[j]? with
  | none =>
    rw [e] at h
    cases h
  | some v =>
    rw [e] at h
    exact ⟨v, (Option.some.inj h).symm, rfl⟩
theorem sz {n : Nat} (h : n ≤ 100000) : n ≤ sizeLine := Nat.le_trans h (by decide)
theorem szl {n : Nat} (h : n < 100000) : n < sizeLine := Nat.lt_of_lt_of_le h (by decide)
theorem iteB {A B : Prop} {b : Bool} (h1 : b = true → A) (h2 : b = false → B) : if b = true then A else B := by
  cases b with
  | true => exact iteT (h1 rfl)
  | false => exact iteF (h2 rfl)
/-- behind a statement with several ways: what holds there in all of them -/
theorem with_rest {t u : TS} {D : Ends} {σ : L2.St} {H : Hp} (M : L2.St → Hp → Prop) (h2 : ∀ σ' H', M σ' H' → u D σ' H') (h1 : (∀ σ' H', M σ' H' → u D σ' H') → t { D with nx := u D } σ H) : tSeq t u D σ H := h1 h2
theorem nx_to {i : Nat} {v : V} {σ : L2.St} {H : Hp} {Q : L2.St → Hp → Prop} (h : Q (σ.set i (some v)) H) : gName i v σ H Q := h
theorem next_to {D : Ends} {σ : L2.St} {H : Hp} (h : D.nx σ H) : tNext D σ H := h
theorem seq_to {t u : TS} {D : Ends} {σ : L2.St} {H : Hp} (h : t { D with nx := u D } σ H) : tSeq t u D σ H := h
theorem asg_to {te : TE} {g : TG} {D : Ends} {σ : L2.St} {H : Hp} (h : te σ H fun x H1 => g x σ H1 D.nx) : tAsg te g D σ H := h
theorem op_to {r : R2} {ta tb : TE} {σ : L2.St} {H : Hp} {Q : VK} (h : ta σ H fun x H1 => tb σ H1 fun y H2 => r x y H2 Q) : tOp r ta tb σ H Q := h
theorem sq_ix {K : PySem.W.Frag} {H : Hp} {a : Addr} {xs : List V} {i : Int} {v : V} {Q : VK} (h : Sq K H a xs) (ha : atI xs i = some v) (q : Q v H) : rIx K (.ref a) (.int i) H Q := by
  rcases h with h | h
  · exact .inl ⟨a, xs, i, v, rfl, rfl, h, ha, q⟩
  · exact .inr (.inl ⟨a, xs, i, v, rfl, rfl, h, ha, q⟩)
end Sd

namespace Sd
open PySem PySem.Spec PyProof.Rows L2
set_option linter.all false
/-- a method: where it stands, how it binds -/
structure Mth (K : PySem.W.Frag) (C : Addr) (x q : Str) (st : Stmt) (ps : List Str) (f : Addr) (fd : FuncData) : Prop where
  F : Fun K x q st f fd
  b : Binds K fd ps []
  m : Meth K C x f
/-- an instance's __init__ -/
structure Mki (K : PySem.W.Frag) (C : Addr) (q : Str) (st : Stmt) (ps : List Str) (f : Addr) (fd : FuncData) : Prop where
  F : Fun K "__init__" q st f fd
  b : Binds K fd ps []
  m : Mk K C f
/-- an error's __init__ -/
structure Ini (K : PySem.W.Frag) (C : Addr) (q : Str) (st : Stmt) (ps : List Str) (f : Addr) (fd : FuncData) : Prop where
  F : Fun K "__init__" q st f fd
  b : Binds K fd ps []
  i : PySem.W.findIn K (.ref C) "__init__" = some (some (.ref f))
  t : PySem.W.typeIn K (.ref f) = some (.type "function")
/-- an error's class with such an __init__ -/
structure OxF (K : PySem.W.Frag) (mg : Str → Option Value) (x n : Str) (C : Addr) : Prop where
  g : mg x = some (.ref C)
  o : OexC K C
  no : PySem.W.findIn K (.ref C) n = some none
  e : PySem.W.exmOne K (.ref C) (.ref C) = some true
/-! ### the places -/
def top (i : Nat) : Stmt := PySem.Challenge.pw_spiraldue_k51_judge_of_units.main.body.getD i (.Pass ⟨0, 0, 0, 0⟩)
abbrev s_NameTaken___init : Stmt := inClass (top 7) 0
abbrev s_NoSuchName___init : Stmt := inClass (top 8) 0
abbrev s_is_between : Stmt := top 18
abbrev s_is_name : Stmt := top 19
abbrev s_check_name : Stmt := top 20
abbrev s_check_known : Stmt := top 21
abbrev s_check_names : Stmt := top 22
abbrev s_is_entry : Stmt := top 23
abbrev s_is_panel : Stmt := top 24
abbrev s_check_panel : Stmt := top 25
abbrev s_allocate : Stmt := top 27
abbrev s_next_unit : Stmt := top 28
abbrev s_is_cover : Stmt := top 33
abbrev s_check_cover : Stmt := top 34
abbrev s_recovery : Stmt := top 35
abbrev s_programme : Stmt := top 36
abbrev s_active_covers : Stmt := top 40
abbrev s_cede : Stmt := top 41
abbrev s_treaty_payments : Stmt := top 42
abbrev s_panel_parts : Stmt := top 43
abbrev s_next_gross : Stmt := top 44
abbrev s_rounds_to_end : Stmt := top 45
abbrev s_rounds : Stmt := top 47
abbrev s_settled : Stmt := top 48
abbrev s_check_unit_ends : Stmt := top 49
abbrev s_next_step : Stmt := top 50
abbrev s_path : Stmt := top 51
abbrev s_is_same : Stmt := top 53
abbrev s_judge_unit : Stmt := top 54
abbrev s_explain_unit : Stmt := top 55
abbrev s_check_new_name : Stmt := top 58
abbrev s_check_placed : Stmt := top 59
abbrev s_direct_losses : Stmt := top 60
abbrev s_Market___init : Stmt := inClass (top 61) 3
abbrev s_Market_add_insurer : Stmt := inClass (top 61) 4
abbrev s_Market_add_event : Stmt := inClass (top 61) 5
abbrev s_Market_add_treaty : Stmt := inClass (top 61) 6
abbrev s_Market_set_loss : Stmt := inClass (top 61) 8
abbrev s_Market_direct : Stmt := inClass (top 61) 9
abbrev s_Market_copy : Stmt := inClass (top 61) 10
abbrev s_Market__check_ends : Stmt := inClass (top 61) 11
abbrev s_law_cell : Stmt := top 63
abbrev s_law_draws : Stmt := top 64
abbrev s_law_cover : Stmt := top 65
abbrev s_law_panel : Stmt := top 66
abbrev s_law_filled : Stmt := top 67
abbrev s_law_loss : Stmt := top 68
abbrev s_law_market : Stmt := top 69
abbrev s_law_allocate : Stmt := top 70
abbrev s_law_pays : Stmt := top 71
abbrev s_law_next : Stmt := top 72
abbrev s_law_rounds : Stmt := top 73
abbrev s_law_turned : Stmt := top 74
abbrev s_law_way : Stmt := top 75
abbrev s_law_explained : Stmt := top 76
abbrev s_law_example : Stmt := top 77
abbrev s_law_fixed : Stmt := top 78
abbrev s_law_has_no_end : Stmt := top 79
abbrev s_law : Stmt := top 80
structure Tx (K : PySem.W.Frag) (mg : Str → Option Value) (C_SpiralError C_BadName C_BadCover C_BadPanel C_BadAmount C_NameTaken C_NoSuchName C_Twice C_OwnPanel C_TooMany C_NoEnd C_Market : Addr) : Prop where
  isinstance : mg "isinstance" = none
  bool : mg "bool" = none
  int : mg "int" = none
  str : mg "str" = none
  len : mg "len" = none
  all : mg "all" = none
  tuple : mg "tuple" = none
  sum : mg "sum" = none
  divmod : mg "divmod" = none
  min : mg "min" = none
  max : mg "max" = none
  enumerate : mg "enumerate" = none
  zip : mg "zip" = none
  range : mg "range" = none
  any : mg "any" = none
  set : mg "set" = none
  list : mg "list" = none
  dict : mg "dict" = none
  g_MOST_LETTERS : ∃ t, mg "MOST_LETTERS" = some (Value.int 12 t)
  g_LETTERS : ∃ t, mg "LETTERS" = some (Value.str "abcdefghijklmnopqrstuvwxyz" t)
  g_MOST_SHARES : ∃ t, mg "MOST_SHARES" = some (Value.int 100 t)
  g_MOST_ENTRIES : ∃ t, mg "MOST_ENTRIES" = some (Value.int 6 t)
  g_WHOLE : ∃ t, mg "WHOLE" = some (Value.int 1000 t)
  g_MOST_RETENTION : ∃ t, mg "MOST_RETENTION" = some (Value.int 100000 t)
  g_MOST_LIMIT : ∃ t, mg "MOST_LIMIT" = some (Value.int 100000 t)
  g_LAST_ROUND : ∃ t, mg "LAST_ROUND" = some (Value.int 200 t)
  g_MOST_GROSS : ∃ t, mg "MOST_GROSS" = some (Value.int 1000000000 t)
  g_MOST_DIRECT : ∃ t, mg "MOST_DIRECT" = some (Value.int 100000 t)
  ox_NameTaken : OxF K mg "NameTaken" "name" C_NameTaken
  ox_NoSuchName : OxF K mg "NoSuchName" "name" C_NoSuchName
  cl_Market : Cls K C_Market
  m_Market : mg "Market" = some (.ref C_Market)
  no_Market_insurers : NoAttr K C_Market "insurers"
  no_Market_events : NoAttr K C_Market "events"
  no_Market_treaties : NoAttr K C_Market "treaties"
  no_Market_losses : NoAttr K C_Market "losses"
  con_Market_MOST_INSURERS : ∃ u, Con K C_Market "MOST_INSURERS" (.int 6) u
  con_Market_MOST_EVENTS : ∃ u, Con K C_Market "MOST_EVENTS" (.int 3) u
  con_Market_MOST_TREATIES : ∃ u, Con K C_Market "MOST_TREATIES" (.int 16) u
  exc_SpiralError : ExF K mg "SpiralError" C_SpiralError
  exc_BadName : ExF K mg "BadName" C_BadName
  exc_BadCover : ExF K mg "BadCover" C_BadCover
  exc_BadPanel : ExF K mg "BadPanel" C_BadPanel
  exc_BadAmount : ExF K mg "BadAmount" C_BadAmount
  exc_Twice : ExF K mg "Twice" C_Twice
  exc_OwnPanel : ExF K mg "OwnPanel" C_OwnPanel
  exc_TooMany : ExF K mg "TooMany" C_TooMany
  exc_NoEnd : ExF K mg "NoEnd" C_NoEnd
  isx_NoEnd : ExcC K C_NoEnd
  kitS : PySem.W.kitOne K (.ref C_NoEnd) (.ref C_SpiralError) = some true
theorem sc_NameTaken___init : FnScope ["self", "name"] ["self", "name"] (defScope s_NameTaken___init) := ⟨rfl, rfl, rfl, by decide +kernel, rfl, by decide +kernel, by decide +kernel⟩
theorem sc_NoSuchName___init : FnScope ["self", "name"] ["self", "name"] (defScope s_NoSuchName___init) := ⟨rfl, rfl, rfl, by decide +kernel, rfl, by decide +kernel, by decide +kernel⟩
theorem sc_is_between : FnScope ["value", "low", "high"] ["value", "low", "high"] (defScope s_is_between) := ⟨rfl, rfl, rfl, by decide +kernel, rfl, by decide +kernel, by decide +kernel⟩
theorem sc_is_name : FnScope ["value", "letter"] ["value"] (defScope s_is_name) := ⟨rfl, rfl, rfl, by decide +kernel, rfl, by decide +kernel, by decide +kernel⟩
theorem sc_check_name : FnScope ["value"] ["value"] (defScope s_check_name) := ⟨rfl, rfl, rfl, by decide +kernel, rfl, by decide +kernel, by decide +kernel⟩
theorem sc_check_known : FnScope ["name", "names"] ["name", "names"] (defScope s_check_known) := ⟨rfl, rfl, rfl, by decide +kernel, rfl, by decide +kernel, by decide +kernel⟩
theorem sc_check_names : FnScope ["market", "event", "insurer"] ["market", "event", "insurer"] (defScope s_check_names) := ⟨rfl, rfl, rfl, by decide +kernel, rfl, by decide +kernel, by decide +kernel⟩
theorem sc_is_entry : FnScope ["value", "participant", "shares"] ["value"] (defScope s_is_entry) := ⟨rfl, rfl, rfl, by decide +kernel, rfl, by decide +kernel, by decide +kernel⟩
theorem sc_is_panel : FnScope ["value", "entry", "_", "shares"] ["value"] (defScope s_is_panel) := ⟨rfl, rfl, rfl, by decide +kernel, rfl, by decide +kernel, by decide +kernel⟩
theorem sc_check_panel : FnScope ["value"] ["value"] (defScope s_check_panel) := ⟨rfl, rfl, rfl, by decide +kernel, rfl, by decide +kernel, by decide +kernel⟩
theorem sc_allocate : FnScope ["amount", "shares", "cycles", "rest", "parts", "share", "extra"] ["amount", "shares"] (defScope s_allocate) := ⟨rfl, rfl, rfl, by decide +kernel, rfl, by decide +kernel, by decide +kernel⟩
theorem sc_next_unit : FnScope ["amount", "shares", "rest", "index"] ["amount", "shares"] (defScope s_next_unit) := ⟨rfl, rfl, rfl, by decide +kernel, rfl, by decide +kernel, by decide +kernel⟩
theorem sc_is_cover : FnScope ["value", "word", "numbers"] ["value"] (defScope s_is_cover) := ⟨rfl, rfl, rfl, by decide +kernel, rfl, by decide +kernel, by decide +kernel⟩
theorem sc_check_cover : FnScope ["value"] ["value"] (defScope s_check_cover) := ⟨rfl, rfl, rfl, by decide +kernel, rfl, by decide +kernel, by decide +kernel⟩
theorem sc_recovery : FnScope ["cover", "loss", "_", "retention", "limit"] ["cover", "loss"] (defScope s_recovery) := ⟨rfl, rfl, rfl, by decide +kernel, rfl, by decide +kernel, by decide +kernel⟩
theorem sc_programme : FnScope ["covers", "loss", "paid", "rest", "cover", "amount"] ["covers", "loss"] (defScope s_programme) := ⟨rfl, rfl, rfl, by decide +kernel, rfl, by decide +kernel, by decide +kernel⟩
theorem sc_active_covers : FnScope ["treaties", "cedent", "number", "owner", "cover", "_", "ended"] ["treaties", "cedent"] (defScope s_active_covers) := ⟨rfl, rfl, rfl, by decide +kernel, rfl, by decide +kernel, by decide +kernel⟩
theorem sc_cede : FnScope ["treaties", "cedent", "loss", "covers", "amounts", "net", "_", "cover", "number", "amount"] ["treaties", "cedent", "loss"] (defScope s_cede) := ⟨rfl, rfl, rfl, by decide +kernel, rfl, by decide +kernel, by decide +kernel⟩
theorem sc_treaty_payments : FnScope ["insurers", "treaties", "gross", "paid", "cedent", "loss", "amounts", "_", "number", "amount"] ["insurers", "treaties", "gross"] (defScope s_treaty_payments) := ⟨rfl, rfl, rfl, by decide +kernel, rfl, by decide +kernel, by decide +kernel⟩
theorem sc_panel_parts : FnScope ["panel", "amount", "_", "shares"] ["panel", "amount"] (defScope s_panel_parts) := ⟨rfl, rfl, rfl, by decide +kernel, rfl, by decide +kernel, by decide +kernel⟩
theorem sc_next_gross : FnScope ["insurers", "treaties", "direct", "gross", "losses", "paid", "cedent", "cover", "panel", "ended", "amount", "participant", "_", "part", "insurer", "loss"] ["insurers", "treaties", "direct", "gross"] (defScope s_next_gross) := ⟨rfl, rfl, rfl, by decide +kernel, rfl, by decide +kernel, by decide +kernel⟩
theorem sc_rounds_to_end : FnScope ["insurers", "treaties", "direct", "rows", "_", "behind", "loss"] ["insurers", "treaties", "direct"] (defScope s_rounds_to_end) := ⟨rfl, rfl, rfl, by decide +kernel, rfl, by decide +kernel, by decide +kernel⟩
theorem sc_rounds : FnScope ["market", "event"] ["market", "event"] (defScope s_rounds) := ⟨rfl, rfl, rfl, by decide +kernel, rfl, by decide +kernel, by decide +kernel⟩
theorem sc_settled : FnScope ["market", "event"] ["market", "event"] (defScope s_settled) := ⟨rfl, rfl, rfl, by decide +kernel, rfl, by decide +kernel, by decide +kernel⟩
theorem sc_check_unit_ends : FnScope ["market", "event", "insurer", "direct", "name", "loss"] ["market", "event", "insurer"] (defScope s_check_unit_ends) := ⟨rfl, rfl, rfl, by decide +kernel, rfl, by decide +kernel, by decide +kernel⟩
theorem sc_next_step : FnScope ["treaties", "insurer", "loss", "ahead", "_", "behind", "number", "amount", "panel", "index", "shares"] ["treaties", "insurer", "loss"] (defScope s_next_step) := ⟨rfl, rfl, rfl, by decide +kernel, rfl, by decide +kernel, by decide +kernel⟩
theorem sc_path : FnScope ["market", "event", "insurer", "reached", "passed", "holder", "step", "number", "participant", "name", "loss"] ["market", "event", "insurer"] (defScope s_path) := ⟨rfl, rfl, rfl, by decide +kernel, rfl, by decide +kernel, by decide +kernel⟩
theorem sc_is_same : FnScope ["value", "wanted", "part", "other"] ["value", "wanted"] (defScope s_is_same) := ⟨rfl, rfl, rfl, by decide +kernel, rfl, by decide +kernel, by decide +kernel⟩
theorem sc_judge_unit : FnScope ["market", "event", "insurer", "paper", "wanted"] ["market", "event", "insurer", "paper"] (defScope s_judge_unit) := ⟨rfl, rfl, rfl, by decide +kernel, rfl, by decide +kernel, by decide +kernel⟩
theorem sc_explain_unit : FnScope ["market", "event", "insurer", "passed", "end"] ["market", "event", "insurer"] (defScope s_explain_unit) := ⟨rfl, rfl, rfl, by decide +kernel, rfl, by decide +kernel, by decide +kernel⟩
theorem sc_check_new_name : FnScope ["name", "names", "most"] ["name", "names", "most"] (defScope s_check_new_name) := ⟨rfl, rfl, rfl, by decide +kernel, rfl, by decide +kernel, by decide +kernel⟩
theorem sc_check_placed : FnScope ["cedent", "panel", "insurers", "participants", "participant", "_"] ["cedent", "panel", "insurers"] (defScope s_check_placed) := ⟨rfl, rfl, rfl, by decide +kernel, rfl, by decide +kernel, by decide +kernel⟩
theorem sc_direct_losses : FnScope ["insurers", "losses", "event", "insurer"] ["insurers", "losses", "event"] (defScope s_direct_losses) := ⟨rfl, rfl, rfl, by decide +kernel, rfl, by decide +kernel, by decide +kernel⟩
theorem sc_Market___init : FnScope ["self"] ["self"] (defScope s_Market___init) := ⟨rfl, rfl, rfl, by decide +kernel, rfl, by decide +kernel, by decide +kernel⟩
theorem sc_Market_add_insurer : FnScope ["self", "name"] ["self", "name"] (defScope s_Market_add_insurer) := ⟨rfl, rfl, rfl, by decide +kernel, rfl, by decide +kernel, by decide +kernel⟩
theorem sc_Market_add_event : FnScope ["self", "name"] ["self", "name"] (defScope s_Market_add_event) := ⟨rfl, rfl, rfl, by decide +kernel, rfl, by decide +kernel, by decide +kernel⟩
theorem sc_Market_add_treaty : FnScope ["self", "cedent", "cover", "panel", "number", "treaties"] ["self", "cedent", "cover", "panel"] (defScope s_Market_add_treaty) := ⟨rfl, rfl, rfl, by decide +kernel, rfl, by decide +kernel, by decide +kernel⟩
theorem sc_Market_set_loss : FnScope ["self", "event", "insurer", "amount", "losses", "key"] ["self", "event", "insurer", "amount"] (defScope s_Market_set_loss) := ⟨rfl, rfl, rfl, by decide +kernel, rfl, by decide +kernel, by decide +kernel⟩
theorem sc_Market_direct : FnScope ["self", "event"] ["self", "event"] (defScope s_Market_direct) := ⟨rfl, rfl, rfl, by decide +kernel, rfl, by decide +kernel, by decide +kernel⟩
theorem sc_Market_copy : FnScope ["self", "other", "key"] ["self"] (defScope s_Market_copy) := ⟨rfl, rfl, rfl, by decide +kernel, rfl, by decide +kernel, by decide +kernel⟩
theorem sc_Market__check_ends : FnScope ["self", "treaties", "losses", "event"] ["self", "treaties", "losses"] (defScope s_Market__check_ends) := ⟨rfl, rfl, rfl, by decide +kernel, rfl, by decide +kernel, by decide +kernel⟩
theorem sc_law_cell : FnScope ["script", "k"] ["script", "k"] (defScope s_law_cell) := ⟨rfl, rfl, rfl, by decide +kernel, rfl, by decide +kernel, by decide +kernel⟩
theorem sc_law_draws : FnScope ["cell", "count", "result", "rest", "k", "mixed"] ["cell", "count"] (defScope s_law_draws) := ⟨rfl, rfl, rfl, by decide +kernel, rfl, by decide +kernel, by decide +kernel⟩
theorem sc_law_cover : FnScope ["n", "at"] ["n", "at"] (defScope s_law_cover) := ⟨rfl, rfl, rfl, by decide +kernel, rfl, by decide +kernel, by decide +kernel⟩
theorem sc_law_panel : FnScope ["n", "at", "names", "panel", "k"] ["n", "at", "names"] (defScope s_law_panel) := ⟨rfl, rfl, rfl, by decide +kernel, rfl, by decide +kernel, by decide +kernel⟩
theorem sc_law_filled : FnScope ["market", "cell", "n", "name", "event", "k", "cedent", "others"] ["market", "cell"] (defScope s_law_filled) := ⟨rfl, rfl, rfl, by decide +kernel, rfl, by decide +kernel, by decide +kernel⟩
theorem sc_law_loss : FnScope ["market", "digit", "event", "insurer"] ["market", "digit"] (defScope s_law_loss) := ⟨rfl, rfl, rfl, by decide +kernel, rfl, by decide +kernel, by decide +kernel⟩
theorem sc_law_market : FnScope ["cell"] ["cell"] (defScope s_law_market) := ⟨rfl, rfl, rfl, by decide +kernel, rfl, by decide +kernel, by decide +kernel⟩
theorem sc_law_allocate : FnScope ["amount", "shares", "parts", "left", "turn", "k", "more"] ["amount", "shares"] (defScope s_law_allocate) := ⟨rfl, rfl, rfl, by decide +kernel, rfl, by decide +kernel, by decide +kernel⟩
theorem sc_law_pays : FnScope ["market", "name", "loss", "paid", "left", "number", "cedent", "cover", "panel", "ended", "part"] ["market", "name", "loss"] (defScope s_law_pays) := ⟨rfl, rfl, rfl, by decide +kernel, rfl, by decide +kernel, by decide +kernel⟩
theorem sc_law_next : FnScope ["market", "event", "gross", "found", "k", "paid", "number", "panel", "parts", "j", "name", "shares"] ["market", "event", "gross"] (defScope s_law_next) := ⟨rfl, rfl, rfl, by decide +kernel, rfl, by decide +kernel, by decide +kernel⟩
theorem sc_law_rounds : FnScope ["market", "event", "found", "turn", "more"] ["market", "event"] (defScope s_law_rounds) := ⟨rfl, rfl, rfl, by decide +kernel, rfl, by decide +kernel, by decide +kernel⟩
theorem sc_law_turned : FnScope ["paper", "digits", "at", "k", "more", "things"] ["paper", "digits", "at"] (defScope s_law_turned) := ⟨rfl, rfl, rfl, by decide +kernel, rfl, by decide +kernel, by decide +kernel⟩
theorem sc_law_way : FnScope ["market", "event", "insurer", "gross", "passed", "name", "turn", "before", "behind", "more", "number", "panel", "one", "two", "k", "other", "shares"] ["market", "event", "insurer"] (defScope s_law_way) := ⟨rfl, rfl, rfl, by decide +kernel, rfl, by decide +kernel, by decide +kernel⟩
theorem sc_law_explained : FnScope ["market", "event", "insurer", "e"] ["market", "event", "insurer"] (defScope s_law_explained) := ⟨rfl, rfl, rfl, by decide +kernel, rfl, by decide +kernel, by decide +kernel⟩
theorem sc_law_example : FnScope ["market", "name"] [] (defScope s_law_example) := ⟨rfl, rfl, rfl, by decide +kernel, rfl, by decide +kernel, by decide +kernel⟩
theorem sc_law_fixed : FnScope ["market", "due", "wrong"] [] (defScope s_law_fixed) := ⟨rfl, rfl, rfl, by decide +kernel, rfl, by decide +kernel, by decide +kernel⟩
theorem sc_law_has_no_end : FnScope ["market", "event", "insurer", "other"] ["market", "event", "insurer"] (defScope s_law_has_no_end) := ⟨rfl, rfl, rfl, by decide +kernel, rfl, by decide +kernel, by decide +kernel⟩
theorem sc_law : FnScope ["script", "market", "event", "insurer", "way", "found", "papers", "k", "paper"] ["script"] (defScope s_law) := ⟨rfl, rfl, rfl, by decide +kernel, rfl, by decide +kernel, by decide +kernel⟩
/-! ### C1. a cell of the script -/
def cell (ns : List Int) (j : Nat) : Int := ns.getD j 0
theorem cell_in {ns : List Int} {j : Nat} (h : j < ns.length) : ns[j]? = some (cell ns j) := by
  unfold cell
  rw [List.getElem?_eq_getElem h, List.getD_eq_getElem?_getD, List.getElem?_eq_getElem h]
  rfl
theorem cell_out {ns : List Int} {j : Nat} (h : ¬ j < ns.length) : cell ns j = 0 := by
  unfold cell
  rw [List.getD_eq_getElem?_getD, List.getElem?_eq_none (by omega)]
  rfl
def sp_law_cell (K : PySem.W.Frag) : Sp := fun vs H Q _ => ∃ (a : Addr) (ns : List Int) (j : Nat), vs = [.ref a, .int (j : Int)] ∧ SqL K H a (ns.map V.int) ∧ Q (.int (cell ns j)) H
/-! ### C2. digits of a cell: as many as are asked, each from 0 to 59 -/
def Digs (n : Nat) (ds : List Int) : Prop := ds.length = n ∧ ∀ x ∈ ds, 0 ≤ x ∧ x < 60
def sp_law_draws (K : PySem.W.Frag) : Sp := fun vs H Q _ => ∃ (c : Int) (n : Nat), vs = [.int c, .int (n : Int)] ∧ n ≤ 60 ∧
  ∀ (o : Addr) (H' : Hp) (ds : List Int), Same H H' → H o = none → H' o = some (.lst (ds.map V.int)) → Digs n ds → Q (.ref o) H'
theorem digs_add {ds : List Int} {z : Int} (h : ∀ x ∈ ds, 0 ≤ x ∧ x < 60) : ∀ x ∈ ds ++ [z % 60], 0 ≤ x ∧ x < 60 := by
  intro x hx
  rcases List.mem_append.mp hx with hx | hx
  · exact h x hx
  · have e := List.mem_singleton.mp hx
    omega
/-! ### C3. a stream of digits: the digits and the place; only the place changes -/
structure Strm (s p : Addr) (H : Hp) : Prop where
  ex : ∃ (d : Addr) (ds : List Int) (n : Nat), H s = some (.lst [.ref d, .ref p]) ∧ H d = some (.lst (ds.map V.int)) ∧ 0 < ds.length ∧ H p = some (.lst [.int (n : Int)]) ∧ s ≠ p ∧ d ≠ p
theorem Strm.same {s p : Addr} {H H' : Hp} (S : Strm s p H) (e : Same H H') : Strm s p H' := by
  obtain ⟨d, ds, n, a1, a2, a3, a4, a5, a6⟩ := S.ex
  exact ⟨d, ds, n, e _ _ a1, e _ _ a2, a3, e _ _ a4, a5, a6⟩
theorem Strm.p {s p : Addr} {H : Hp} (S : Strm s p H) : ∃ o, H p = some o := by
  obtain ⟨d, ds, n, a1, a2, a3, a4, a5, a6⟩ := S.ex
  exact ⟨_, a4⟩
theorem Strm.ne {s p q : Addr} {H : Hp} (S : Strm s p H) (h : H q = none) : q ≠ p := by
  obtain ⟨o, e⟩ := S.p
  exact Bar.new e h
/-- the stream goes on: what was read stands, the place is a number -/
theorem Strm.go {s p : Addr} {H H' H2 : Hp} (S : Strm s p H) (b : Bar p H H') (S2 : Strm s p H2) (e : H' p = H2 p) : Strm s p H' := by
  obtain ⟨d, ds, n, a1, a2, a3, a4, a5, a6⟩ := S.ex
  obtain ⟨_, _, m, _, _, _, b4, _, _⟩ := S2.ex
  exact ⟨d, ds, m, b s _ a5 a1, b d _ a6 a2, a3, e.trans b4, a5, a6⟩
/-- an object that was new behind the stream's making is changed -/
theorem Strm.put {s p D : Addr} {H H' : Hp} {o : HO} (S : Strm s p H) (b : Bar p H H') (S2 : Strm s p H') (h : H D = none) (n : D ≠ p) : Strm s p (upd H' D o) :=
  S.go (fun c u ne q => by rw [upd_ne (ne_of_none q h)]; exact b c u ne q) S2 (upd_ne n.symm)
theorem Bar.put2 {p D : Addr} {H H' : Hp} {o : HO} (b : Bar p H H') (h : H D = none) : Bar p H (upd H' D o) := fun c u ne q => by
  rw [upd_ne (ne_of_none q h)]
  exact b c u ne q
def sp_law_stream (K : PySem.W.Frag) : Sp := fun vs H Q _ => ∃ (a : Addr) (ns : List Int) (j n : Nat), vs = [.ref a, .int (j : Int), .int (n : Int)] ∧ SqL K H a (ns.map V.int) ∧ 0 < n ∧ n ≤ 63 ∧
  ∀ (s p : Addr) (H' : Hp), Same H H' → H p = none → Strm s p H' → Q (.ref s) H'
def sp_law_next (K : PySem.W.Frag) : Sp := fun vs H Q _ => ∃ (s p : Addr) (m : Int), vs = [.ref s, .int m] ∧ 0 < m ∧ Strm s p H ∧
  ∀ (z : Int) (H' : Hp), 0 ≤ z → z < m → Bar p H H' → Strm s p H' → Q (.int z) H'
theorem mod_at {ds : List Int} {n : Nat} (h : 0 < ds.length) : ∃ v, atI (ds.map V.int) ((n : Int) % ((ds.map V.int).length : Nat)) = some (V.int v) := by
  rw [List.length_map]
  have e : (n : Int) % (ds.length : Int) = ((n % ds.length : Nat) : Int) := by omega
  have hlt : n % ds.length < ds.length := Nat.mod_lt _ h
  rw [e]
  exact ⟨ds[n % ds.length], atI_nat (at_map (List.getElem?_eq_getElem hlt))⟩
/-! ### C4. the same data -/
def dOk : Nat → PyData → Bool
  | 0, _ => false
  | _ + 1, .none => true
  | _ + 1, .bool _ => true
  | _ + 1, .int _ => true
  | _ + 1, .str _ => true
  | n + 1, .list ds => decide (ds.length ≤ 5000) && ds.all (dOk n)
  | n + 1, .tuple ds => decide (ds.length ≤ 5000) && ds.all (dOk n)
  | _ + 1, _ => false
def sp_law_is_integer (K : PySem.W.Frag) : Sp := fun vs H Q _ => ∃ i : Int, vs = [.int i] ∧ Q (.bl true) H
def sp_law_same (K : PySem.W.Frag) (n : Nat) : Sp := fun vs H Q _ => ∃ (x y : V) (d : PyData), vs = [x, y] ∧ dOk n d = true ∧ Dp K H x d ∧ Dp K H y d ∧ Q (.bl true) H
theorem DpAll.len {K : PySem.W.Frag} {H : Hp} : ∀ {xs : List V} {ds : List PyData}, DpAll K H xs ds → xs.length = ds.length
  | _, _, .nil => rfl
  | _, _, .cons _ t => congrArg Nat.succ (DpAll.len t)
theorem DpAll.get {K : PySem.W.Frag} {H : Hp} : ∀ {xs : List V} {ds : List PyData} {i : Nat} {d : PyData}, DpAll K H xs ds → ds[i]? = some d → ∃ v, xs[i]? = some v ∧ Dp K H v d
  | _, _, _, _, .nil, h => by simp at h
  | _, _, 0, _, .cons r _, h => by
    have e := Option.some.inj h
    subst e
    exact ⟨_, rfl, r⟩
  | _, _, i + 1, _, .cons _ t, h => DpAll.get (i := i) t h
theorem DpAll.ints {K : PySem.W.Frag} {H : Hp} : ∀ ns : List Int, DpAll K H (ns.map V.int) (ns.map PyData.int)
  | [] => .nil
  | n :: r => .cons (.int n) (DpAll.ints r)
theorem dOk_ints (n : Nat) (ns : List Int) : (ns.map PyData.int).all (dOk (n + 1)) = true := by
  rw [List.all_eq_true]
  intro d hd
  obtain ⟨i, _, e⟩ := List.mem_map.mp hd
  subst e
  rfl
/-- isinstance of a value by its data -/
theorem dp_ty {K : PySem.W.Frag} {H : Hp} {x : V} {d : PyData} (h : Dp K H x d) : ∃ t, TyX K H x t ∧ (match d with | .none => t = .type "NoneType" | .bool _ => t = .type "bool" | .int _ => t = .type "int" | .str _ => t = .type "str" | .list _ => t = .type "list" | .tuple _ => t = .type "tuple" | _ => True) := by
  cases h with
  | non => exact ⟨_, .base .non, rfl⟩
  | bl b => exact ⟨_, .base (.bl b), rfl⟩
  | int i => exact ⟨_, .base (.int i), rfl⟩
  | str s => exact ⟨_, .base (.str s), rfl⟩
  | lst h _ => exact ⟨_, tyx_lst h, rfl⟩
  | tup h _ => exact ⟨_, tyx_tup h, rfl⟩
/-! ### A1. the division -/
def cut2 (s r : Int) : Int := if r < s then r else s
def go (c : Int) : Int → List Int → List Int
  | _, [] => []
  | r, s :: t => (s * c + cut2 s r) :: go c (r - cut2 s r) t
def alloc (a : Int) (sh : List Int) : List Int := go (a / sh.sum) (a % sh.sum) sh
def nxt : Int → List Int → Nat
  | _, [] => 0
  | r, s :: t => if r < s then 0 else nxt (r - s) t + 1
/-- one more at the j-th -/
def bump : Nat → List Int → List Int
  | _, [] => []
  | 0, x :: t => (x + 1) :: t
  | j + 1, x :: t => x :: bump j t
theorem go_len (c : Int) : ∀ (r : Int) (sh : List Int), (go c r sh).length = sh.length
  | _, [] => rfl
  | r, s :: t => congrArg Nat.succ (go_len c _ t)
theorem alloc_len (a : Int) (sh : List Int) : (alloc a sh).length = sh.length := go_len _ _ _
theorem bump_len : ∀ (j : Nat) (xs : List Int), (bump j xs).length = xs.length
  | 0, [] => rfl
  | _ + 1, [] => rfl
  | 0, _ :: _ => rfl
  | j + 1, _ :: t => congrArg Nat.succ (bump_len j t)
theorem bump_get : ∀ (j : Nat) (xs : List Int) (k : Nat), (bump j xs)[k]? = (xs[k]?).map fun x => if k = j then x + 1 else x
  | 0, [], k => by simp [bump]
  | _ + 1, [], k => by simp [bump]
  | 0, x :: t, 0 => by simp [bump]
  | 0, x :: t, k + 1 => by
    simp only [bump, List.getElem?_cons_succ]
    cases t[k]? <;> simp
  | j + 1, x :: t, 0 => by simp [bump]
  | j + 1, x :: t, k + 1 => by
    simp only [bump, List.getElem?_cons_succ]
    rw [bump_get j t k]
    cases t[k]? <;> simp
theorem bump_set : ∀ (j : Nat) (xs : List Int) (x : Int), xs[j]? = some x → xs.set j (x + 1) = bump j xs
  | 0, [], _, h => by simp at h
  | _ + 1, [], _, h => by simp at h
  | 0, y :: t, x, h => by
    have e : y = x := Option.some.inj h
    subst e
    rfl
  | j + 1, y :: t, x, h => by
    show y :: t.set j (x + 1) = y :: bump j t
    rw [bump_set j t x h]
def Pos (sh : List Int) : Prop := ∀ s ∈ sh, 1 ≤ s
theorem Pos.tail {s : Int} {t : List Int} (h : Pos (s :: t)) : Pos t := fun x hx => h x (List.mem_cons_of_mem _ hx)
theorem Pos.head {s : Int} {t : List Int} (h : Pos (s :: t)) : 1 ≤ s := h s List.mem_cons_self
theorem Pos.sum0 : ∀ {sh : List Int}, Pos sh → 0 ≤ sh.sum
  | [], _ => by simp
  | s :: t, h => by
    have h1 := h.head
    have h2 := Pos.sum0 h.tail
    rw [List.sum_cons]
    omega
theorem Pos.sum1 {sh : List Int} (h : Pos sh) (hn : sh ≠ []) : 0 < sh.sum := by
  cases sh with
  | nil => exact absurd rfl hn
  | cons s t =>
    have h1 := h.head
    have h2 := Pos.sum0 h.tail
    rw [List.sum_cons]
    omega
theorem go_succ (c : Int) : ∀ (r : Int) (sh : List Int), Pos sh → 0 ≤ r → r < sh.sum → go c (r + 1) sh = bump (nxt r sh) (go c r sh)
  | r, [], _, h0, h1 => by
    simp at h1
    omega
  | r, s :: t, hp, h0, h1 => by
    rw [List.sum_cons] at h1
    by_cases h : r < s
    · have e2 : cut2 s r = r := by unfold cut2; rw [if_pos h]
      have e1 : cut2 s (r + 1) = r + 1 := by
        unfold cut2
        split <;> omega
      have en : nxt r (s :: t) = 0 := by
        unfold nxt
        rw [if_pos h]
      rw [en]
      show (s * c + cut2 s (r + 1)) :: go c (r + 1 - cut2 s (r + 1)) t = (s * c + cut2 s r + 1) :: go c (r - cut2 s r) t
      rw [e1, e2, Int.sub_self, Int.sub_self, Int.add_assoc]
    · have e2 : cut2 s r = s := by unfold cut2; rw [if_neg h]
      have e1 : cut2 s (r + 1) = s := by
        unfold cut2
        rw [if_neg (by omega)]
      have en : nxt r (s :: t) = nxt (r - s) t + 1 := by
        show (if r < s then 0 else nxt (r - s) t + 1) = _
        rw [if_neg h]
      rw [en]
      show (s * c + cut2 s (r + 1)) :: go c (r + 1 - cut2 s (r + 1)) t = (s * c + cut2 s r) :: bump (nxt (r - s) t) (go c (r - cut2 s r) t)
      rw [e1, e2, show r + 1 - s = (r - s) + 1 by omega, go_succ c (r - s) t hp.tail (by omega) (by omega)]
theorem go_full (c : Int) : ∀ (r : Int) (sh : List Int), Pos sh → r = sh.sum → go c r sh = go (c + 1) 0 sh
  | r, [], _, _ => rfl
  | r, s :: t, hp, hr => by
    rw [List.sum_cons] at hr
    have h1 := hp.head
    have h2 := Pos.sum0 hp.tail
    have e1 : cut2 s r = s := by
      unfold cut2
      rw [if_neg (by omega)]
    have e0 : cut2 s 0 = 0 := by
      unfold cut2
      rw [if_pos (by omega)]
    show (s * c + cut2 s r) :: go c (r - cut2 s r) t = (s * (c + 1) + cut2 s 0) :: go (c + 1) (0 - cut2 s 0) t
    rw [e1, e0, go_full c (r - s) t hp.tail (by omega), Int.mul_add, Int.mul_one, Int.add_zero, Int.sub_self]
theorem go_zero_sum (c : Int) : ∀ (r : Int) (sh : List Int), Pos sh → 0 ≤ r → r ≤ sh.sum → (go c r sh).sum = sh.sum * c + r
  | r, [], _, h0, h1 => by
    simp at h1
    have e : r = 0 := by omega
    subst e
    simp [go]
  | r, s :: t, hp, h0, h1 => by
    rw [List.sum_cons] at h1
    have h2 := Pos.sum0 hp.tail
    have h3 := hp.head
    show ((s * c + cut2 s r) :: go c (r - cut2 s r) t).sum = (s :: t).sum * c + r
    have hc : 0 ≤ r - cut2 s r ∧ r - cut2 s r ≤ t.sum := by
      unfold cut2
      split <;> omega
    rw [List.sum_cons, List.sum_cons, go_zero_sum c _ t hp.tail hc.1 hc.2, Int.add_mul]
    omega
theorem alloc_sum (a : Int) (sh : List Int) (hp : Pos sh) (hn : sh ≠ []) : (alloc a sh).sum = a := by
  have h1 := hp.sum1 hn
  have h2 := Int.emod_nonneg a (show sh.sum ≠ 0 by omega)
  have h3 := Int.emod_lt_of_pos a h1
  unfold alloc
  rw [go_zero_sum _ _ _ hp h2 (by omega)]
  exact Int.mul_ediv_add_emod a sh.sum
theorem div_succ {a S : Int} (hS : 0 < S) (h : a % S + 1 < S) : (a + 1) / S = a / S ∧ (a + 1) % S = a % S + 1 := by
  have e := Int.mul_ediv_add_emod a S
  have h0 := Int.emod_nonneg a (show S ≠ 0 by omega)
  have e2 : a + 1 = (a % S + 1) + S * (a / S) := by omega
  rw [e2, Int.add_mul_ediv_left _ _ (by omega), Int.add_mul_emod_self_left, Int.ediv_eq_zero_of_lt (by omega) h, Int.emod_eq_of_lt (by omega) h]
  omega
theorem div_wrap {a S : Int} (hS : 0 < S) (h : a % S + 1 = S) : (a + 1) / S = a / S + 1 ∧ (a + 1) % S = 0 := by
  have e := Int.mul_ediv_add_emod a S
  have e2 : a + 1 = 0 + S * (a / S + 1) := by
    rw [Int.mul_add, Int.mul_one]
    omega
  rw [e2, Int.add_mul_ediv_left _ _ (by omega), Int.add_mul_emod_self_left, Int.zero_ediv, Int.zero_emod]
  omega
/-- one unit more goes to the next one -/
theorem alloc_succ (a : Int) (sh : List Int) (hp : Pos sh) (hn : sh ≠ []) : alloc (a + 1) sh = bump (nxt (a % sh.sum) sh) (alloc a sh) := by
  have h1 := hp.sum1 hn
  have h2 := Int.emod_nonneg a (show sh.sum ≠ 0 by omega)
  have h3 := Int.emod_lt_of_pos a h1
  unfold alloc
  by_cases h : a % sh.sum + 1 < sh.sum
  · obtain ⟨e1, e2⟩ := div_succ h1 h
    rw [e1, e2, go_succ _ _ _ hp h2 h3]
  · obtain ⟨e1, e2⟩ := div_wrap h1 (show a % sh.sum + 1 = sh.sum by omega)
    rw [e1, e2, ← go_full _ (a % sh.sum + 1) _ hp (by omega), go_succ _ _ _ hp h2 h3]
theorem nxt_lt : ∀ (r : Int) (sh : List Int), r < sh.sum → 0 ≤ r → nxt r sh < sh.length
  | r, [], h, h0 => by
    simp at h
    omega
  | r, s :: t, h, h0 => by
    rw [List.sum_cons] at h
    show (if r < s then 0 else nxt (r - s) t + 1) < t.length + 1
    split
    · omega
    · have := nxt_lt (r - s) t (by omega) (by omega)
      omega
theorem alloc_zero (sh : List Int) (hp : Pos sh) : alloc 0 sh = sh.map fun _ => 0 := by
  unfold alloc
  rw [Int.zero_ediv, Int.zero_emod]
  induction sh with
  | nil => rfl
  | cons s t ih =>
    have h := hp.head
    have e0 : cut2 s 0 = 0 := by
      unfold cut2
      rw [if_pos (by omega)]
    show (s * 0 + cut2 s 0) :: go 0 (0 - cut2 s 0) t = 0 :: t.map fun _ => 0
    rw [e0, Int.mul_zero, Int.sub_self, ih hp.tail]
    rfl
theorem alloc_nonneg {a : Int} {sh : List Int} (hp : Pos sh) (h0 : 0 ≤ a) : ∀ x ∈ alloc a sh, 0 ≤ x ∧ x ≤ a := by
  by_cases hn : sh = []
  · subst hn
    intro x hx
    exact (nomatch hx)
  have pos : ∀ (c r : Int) (sh : List Int), Pos sh → 0 ≤ c → 0 ≤ r → ∀ x ∈ go c r sh, 0 ≤ x := by
    intro c r sh
    induction sh generalizing r with
    | nil =>
      intro _ _ _ x hx
      exact (nomatch hx)
    | cons s t ih =>
      intro hp hc hr x hx
      have h1 := hp.head
      have hm : 0 ≤ s * c := Int.mul_nonneg (by omega) hc
      have hcut : 0 ≤ cut2 s r ∧ 0 ≤ r - cut2 s r := by
        unfold cut2
        split <;> omega
      rcases List.mem_cons.mp hx with e | hx
      · omega
      · exact ih _ hp.tail hc hcut.2 x hx
  have hS := hp.sum1 hn
  have h1 : ∀ x ∈ alloc a sh, 0 ≤ x := pos _ _ sh hp (Int.ediv_nonneg h0 (by omega)) (Int.emod_nonneg _ (by omega))
  have le : ∀ (xs : List Int), (∀ x ∈ xs, 0 ≤ x) → 0 ≤ xs.sum ∧ ∀ x ∈ xs, x ≤ xs.sum := by
    intro xs
    induction xs with
    | nil => exact fun _ => ⟨by simp, fun x hx => nomatch hx⟩
    | cons y t ih =>
      intro h
      obtain ⟨i1, i2⟩ := ih fun x hx => h x (List.mem_cons_of_mem _ hx)
      have h2 := h y List.mem_cons_self
      rw [List.sum_cons]
      refine ⟨by omega, fun x hx => ?_⟩
      rcases List.mem_cons.mp hx with e | hx
      · omega
      · have := i2 x hx
        omega
  intro x hx
  have := (le _ h1).2 x hx
  rw [alloc_sum a sh hp hn] at this
  exact ⟨h1 x hx, this⟩
/-! ### the program's two defs -/
structure Shs (K : PySem.W.Frag) (H : Hp) (s : Addr) (sh : List Int) : Prop where
  sq : Sq K H s (sh.map V.int)
  pos : Pos sh
  ne : sh ≠ []
  sum : sh.sum ≤ 100000
theorem le_sum : ∀ {sh : List Int}, Pos sh → ∀ x ∈ sh, x ≤ sh.sum
  | [], _, x, hx => nomatch hx
  | s :: t, hp, x, hx => by
    have h1 := hp.head
    have h2 := Pos.sum0 hp.tail
    rw [List.sum_cons]
    rcases List.mem_cons.mp hx with e | hx
    · omega
    · have := le_sum hp.tail x hx
      omega
theorem len_sum : ∀ {sh : List Int}, Pos sh → (sh.length : Int) ≤ sh.sum
  | [], _ => by simp
  | s :: t, hp => by
    have h1 := hp.head
    have h2 := len_sum hp.tail
    rw [List.sum_cons, List.length_cons]
    omega
def sp_allocate (K : PySem.W.Frag) : Sp := fun vs H Q _ => ∃ (a : Int) (s : Addr) (sh : List Int), vs = [.int a, .ref s] ∧ Shs K H s sh ∧
  ∀ (p : Addr) (H' : Hp), Same H H' → H p = none → H' p = some (.tup ((alloc a sh).map V.int)) → Q (.ref p) H'
def sp_next_unit (K : PySem.W.Frag) : Sp := fun vs H Q _ => ∃ (a : Int) (s : Addr) (sh : List Int), vs = [.int a, .ref s] ∧ Shs K H s sh ∧ Q (.int ((nxt (a % sh.sum) sh : Nat) : Int)) H
theorem go_step {c r : Int} {sh : List Int} {i : Nat} {v : Int} (h : sh[i]? = some v) : go c r (sh.drop i) = (v * c + cut2 v r) :: go c (r - cut2 v r) (sh.drop (i + 1)) := by
  obtain ⟨h1, h2⟩ := List.getElem?_eq_some_iff.mp h
  rw [List.drop_eq_getElem_cons h1, h2]
  rfl
theorem nxt_step {r : Int} {sh : List Int} {i : Nat} {v : Int} (h : sh[i]? = some v) : nxt r (sh.drop i) = if r < v then 0 else nxt (r - v) (sh.drop (i + 1)) + 1 := by
  obtain ⟨h1, h2⟩ := List.getElem?_eq_some_iff.mp h
  rw [List.drop_eq_getElem_cons h1, h2]
  rfl
/-! ### V1. covers -/
inductive Cov where
  | share (p : Int)
  | layer (r l : Int)
def cvV : Cov → List V
  | .share p => [.str "share", .int p]
  | .layer r l => [.str "layer", .int r, .int l]
def CvOk : Cov → Prop
  | .share p => 1 ≤ p ∧ p ≤ 1000
  | .layer r l => 0 ≤ r ∧ r ≤ 100000 ∧ 1 ≤ l ∧ l ≤ 100000
def pays : Cov → Int → Int
  | .share p, x => p * x / 1000
  | .layer r l, x => if x ≤ r then 0 else if x - r > l then l else x - r
theorem share_layer : ¬ ("layer" : Str) = "share" := by decide +kernel
theorem pays_step {c : Cov} (h : CvOk c) (x : Int) : pays c (x + 1) = pays c x ∨ pays c (x + 1) = pays c x + 1 := by
  cases c with
  | share p =>
    obtain ⟨h1, h2⟩ := h
    show p * (x + 1) / 1000 = p * x / 1000 ∨ p * (x + 1) / 1000 = p * x / 1000 + 1
    rw [Int.mul_add, Int.mul_one]
    omega
  | layer r l =>
    obtain ⟨h1, h2, h3, h4⟩ := h
    show (if x + 1 ≤ r then 0 else if x + 1 - r > l then l else x + 1 - r) = (if x ≤ r then 0 else if x - r > l then l else x - r) ∨ (if x + 1 ≤ r then 0 else if x + 1 - r > l then l else x + 1 - r) = (if x ≤ r then 0 else if x - r > l then l else x - r) + 1
    by_cases a : x + 1 ≤ r
    · rw [if_pos a, if_pos (by omega)]
      exact .inl rfl
    · rw [if_neg a]
      by_cases b : x ≤ r
      · rw [if_pos b, if_neg (by omega)]
        right
        omega
      · rw [if_neg b]
        by_cases d : x - r > l
        · rw [if_pos d, if_pos (by omega)]
          exact .inl rfl
        · rw [if_neg d]
          by_cases e : x + 1 - r > l
          · rw [if_pos e]
            left
            omega
          · rw [if_neg e]
            right
            omega
theorem pays_range {c : Cov} (h : CvOk c) {x : Int} (h0 : 0 ≤ x) : 0 ≤ pays c x ∧ pays c x ≤ x := by
  cases c with
  | share p =>
    obtain ⟨h1, h2⟩ := h
    show 0 ≤ p * x / 1000 ∧ p * x / 1000 ≤ x
    have a : 0 ≤ p * x := Int.mul_nonneg (by omega) h0
    have b : p * x ≤ 1000 * x := Int.mul_le_mul_of_nonneg_right h2 h0
    omega
  | layer r l =>
    obtain ⟨h1, h2, h3, h4⟩ := h
    show 0 ≤ (if x ≤ r then 0 else if x - r > l then l else x - r) ∧ (if x ≤ r then 0 else if x - r > l then l else x - r) ≤ x
    by_cases b : x ≤ r
    · rw [if_pos b]
      omega
    · rw [if_neg b]
      by_cases d : x - r > l
      · rw [if_pos d]
        omega
      · rw [if_neg d]
        omega
def sp_recovery (K : PySem.W.Frag) : Sp := fun vs H Q _ => ∃ (a : Addr) (c : Cov) (x : Int), vs = [.ref a, .int x] ∧ SqT K H a (cvV c) ∧ CvOk c ∧ Q (.int (pays c x)) H
def sp_law_pays (K : PySem.W.Frag) : Sp := sp_recovery K
theorem max_min (r l x : Int) (h : 1 ≤ l) : (if l < (if (0 : Int) > x - r then 0 else x - r) then l else (if (0 : Int) > x - r then 0 else x - r)) = (if x ≤ r then 0 else if x - r > l then l else x - r) := by
  by_cases b : x ≤ r
  · rw [if_pos b]
    by_cases c : (0 : Int) > x - r
    · rw [if_pos c, if_neg (by omega)]
    · rw [if_neg c, if_neg (by omega)]
      omega
  · rw [if_neg b, if_neg (show ¬ (0 : Int) > x - r by omega)]
def sp_law_cover (K : PySem.W.Frag) : Sp := fun vs H Q _ => ∃ (s p : Addr), vs = [.ref s] ∧ Strm s p H ∧
  ∀ (t : Addr) (c : Cov) (H' : Hp), Bar p H H' → Strm s p H' → H t = none → H' t = some (.tup (cvV c)) → CvOk c → Q (.ref t) H'
/-- an item of a written list of ints at a drawn place -/
theorem pick_at {ns : List Int} {z : Int} (h0 : 0 ≤ z) (h1 : z < (ns.length : Int)) : ∃ v, v ∈ ns ∧ atI (ns.map V.int) z = some (.int v) := by
  obtain ⟨j, rfl⟩ : ∃ j : Nat, z = (j : Int) := ⟨z.toNat, by omega⟩
  have hj : j < ns.length := by omega
  exact ⟨ns[j], List.getElem_mem hj, atI_nat (at_map (List.getElem?_eq_getElem hj))⟩
/-! ### a, *b = a tuple -/
section
open PySem.W PySem.Calls
variable {prog : Program} {w : World} {A : Around} {E : Value → Shared → Prop} {s : Shared}
theorem star_items {l : Addr} {its : Array Value} {n i : Nat} {Q : List Value → Shared → Prop} (ht : IsTup s.heap l its)
    (calm : A.handled = none) (hin : i < n) (hni : n ≤ its.size + 1) (few : its.size ≤ 16384)
    (q : ∀ (h2 : Heap) (tk : Nat), (∀ b o, s.heap.get? b = some o → h2.get? b = some o) →
      Q (its.toList.take i ++ [.ref h2.objs.size] ++ (its.toList.drop i).drop (its.size + 1 - n))
        { s with heap := h2.push { cls := .type "list", data := .seq ((its.toList.drop i).take (its.size + 1 - n)).toArray }, toks := tk }) :
    wpAny (model prog w) A (unpackItems (.ref l) n (some i)) Q E s := by
  have below : l < s.heap.objs.size := by
    obtain ⟨o, e, _⟩ := ht
    exact Heap.lt_size e
  have apart : l ≠ s.heap.objs.size := Nat.ne_of_lt below
  unfold unpackItems notIterableAtAll
  refine wpAny_bind (wpAny_bind (wpAny_specialOf ht.typeIs
    slot_tuple_iter.lookup (wpAny_pure ?_)))
  rw [if_neg Bool.false_ne_true]
  refine wpAny_bind (wpAny_holding
    (iter_tuple ht ?_))
  have ahead : (its.toList.take i).length = i := by
    rw [List.length_take, Array.length_toList]
    omega
  have behind : (its.toList.drop i).length = its.size - i := by
    rw [List.length_drop, Array.length_toList]
  refine wpAny_bind (wpAny_holding (draw_tuple apart i 0 _ _
    ⟨_, Heap.get?_push_size _ rfl, rfl, rfl⟩ (ht.push _) (by omega) fun h1 at1 same1 => ?_))
  have tup1 : IsTup h1 l its :=
    (ht.push _).extBut same1.extBut apart
  rw [Nat.zero_add] at at1
  have there : ∃ o, h1.get? s.heap.objs.size = some o := by
    obtain ⟨o, e, _⟩ := at1
    exact ⟨o, e⟩
  have there2 : ∃ o, h1.get? l = some o := by
    obtain ⟨o, e, _⟩ := tup1
    exact ⟨o, e⟩
  obtain ⟨o1, e1⟩ := there
  obtain ⟨o2, e2⟩ := there2
  rw [List.drop_zero, if_neg (show ¬ (its.toList.take i).length < i by omega)]
  refine wpAny_bind (wpAny_holding (kun_collect (s := { s with heap := h1 })
    (T := "tuple_iterator") (.inr (.inr (.inr rfl)))
    (Walks.tuple (A := A.in1) calm s.heap.objs.size l apart its)
    (fun _ _ st => st.1.typeIs) (k := i) (by omega) ⟨at1, tup1⟩
    (Heap.lt_size e1) (Heap.lt_size e2) (fun h2 tk keep2 => ?_)
    (by rw [sizeLine_eq]; omega)))
  have mid : (its.toList.drop i).length - (n - 1 - i) = its.size + 1 - n := by
    omega
  show wpAny _ _ (if _ < n - 1 - i then _ else _) _ _ _
  rw [if_neg (show ¬ (its.toList.drop i).length < n - 1 - i by omega)]
  have kept : ∀ b o, s.heap.get? b = some o → h2.get? b = some o := fun b o e =>
    have nb : b ≠ s.heap.objs.size := Nat.ne_of_lt (Heap.lt_size e)
    keep2 b o nb (same1.extBut b o nb (Heap.get?_push_of_some _ e))
  show wpAny _ _ (newList _ >>= _) _ _ _
  rw [mid]
  exact wpAny_bind (wpAny_newList (wpAny_pure
    (q h2 tk kept))
    (by rw [List.length_take, sizeLine_eq]; omega))
end
def gStar (K : PySem.W.Frag) (n i : Nat) (t : TGs) : TG := fun v σ H Q => ∃ a xs, v = .ref a ∧ SqT K H a xs ∧ n ≤ xs.length + 1 ∧ xs.length ≤ 16384 ∧
  ∀ D, H D = none → t (xs.take i ++ [.ref D] ++ (xs.drop i).drop (xs.length + 1 - n)) σ (upd H D (.lst ((xs.drop i).take (xs.length + 1 - n)))) Q
section
variable {X : Cx}
theorem pgs_star {e : Expr} {es : List Expr} {p : PySem.Pos} {t : TG} {u : TGs} (h1 : PG X e t) (h2 : PGs X es u)
    (hs : (assignEach (.Starred e p :: es) X.env).map (·.2) = assign e X.env :: (assignEach es X.env).map (·.2) := by rfl) : PGs X (.Starred e p :: es) (gCons t u) := by
  refine ⟨fun pins s σ H vs us Q I r h => ?_⟩
  obtain ⟨v, vr, rfl, h⟩ := h
  cases r with
  | cons r rr =>
    rw [hs]
    exact assignInOrder_cons (thn (h1.run pins s σ H _ _ _ I r h) fun _ s1 ⟨σ1, H1, I1, q1⟩ => h2.run pins s1 σ1 H1 _ _ Q I1 rr q1)
theorem pg_star {es : List Expr} {k : Nat} {pos : PySem.Pos} {t : TGs} {n i : Nat} (hc : X.calm = true) (h : PGs X es t) (hi : i < n)
    (hn : (assignEach es X.env).length = n := by rfl) (hst : (assignEach es X.env).findIdx? (·.1) = some i := by rfl) : PG X (.Tuple es k pos) (gStar X.K n i t) := by
  refine ⟨fun pins s σ H v u Q I r hw => ?_⟩
  obtain ⟨a, xs, rfl, hq, hl, hz, hw⟩ := hw
  cases r
  obtain ⟨its, rv, ht, _⟩ := I.tuple hq
  have el := rv.length
  rw [assign_Tuple]
  refine wpAny_bind (wpAny_standAt ?_)
  unfold unpack
  rw [hn, hst]
  refine wpAny_bind (wpAny_holding (star_items ht (I.ok.hd hc) hi (by rw [List.size_toArray]; omega) (by rw [List.size_toArray]; omega) fun h2 tk kept => ?_))
  have I2 : Inv X pins σ H { s with heap := h2 } := I.kept (t' := s.toks) kept
  have nD : H h2.objs.size = none := I2.hok.fresh (Nat.le_refl _)
  have hw := hw _ nD
  have esz : its.toArray.size = xs.length := by rw [List.size_toArray]; exact el.symm
  rw [esz]
  have ok : ObjOk X.prog X.w (upd H h2.objs.size (.lst ((xs.drop i).take (xs.length + 1 - n)))) (h2.push { cls := .type "list", data := .seq ((its.drop i).take (xs.length + 1 - n)).toArray }) h2.objs.size (.lst ((xs.drop i).take (xs.length + 1 - n))) :=
    ⟨by rw [List.length_take, List.length_drop, sizeLine_eq]; omega, _, _, (rv.drop i).take _, Heap.get?_push_size _ rfl⟩
  have I3 := I2.laid (t' := tk) (fun b o e => Heap.get?_push_of_some _ e) (Nat.le_refl _) ok
  exact h.run pins _ σ _ _ _ Q I3 (((rv.take i).append (.cons (show RelV (V.ref h2.objs.size) (Value.ref h2.objs.size) from rfl) .nil)).append ((rv.drop i).drop _)) hw
end
/-! ### what is a cover -/
def btw : V → Int → Int → Bool
  | .int i, lo, hi => decide (lo ≤ i) && decide (i ≤ hi)
  | _, _, _ => false
def isCov : List V → Bool
  | [.str w, x] => decide (w = "share") && btw x 1 1000
  | [.str w, x, y] => decide (w = "layer") && (btw x 0 100000 && btw y 1 100000)
  | _ => false
/-- a value that is no cover: no tuple, or a tuple of flat things -/
def NoCov (K : PySem.W.Frag) (H : Hp) (x : V) : Prop :=
  (∃ t, TyX K H x t ∧ PySem.W.kitOne K t (.type "tuple") = some false) ∨ ∃ (a : Addr) (xs : List V), x = .ref a ∧ SqT K H a xs ∧ xs.length ≤ 1000 ∧ xs.all flatV = true ∧ isCov xs = false
/-- a value that is one -/
def IsCovV (K : PySem.W.Frag) (H : Hp) (x : V) : Prop := ∃ (a : Addr) (c : Cov), x = .ref a ∧ SqT K H a (cvV c) ∧ CvOk c
theorem isCov_cvV {c : Cov} (h : CvOk c) : isCov (cvV c) = true := by
  cases c with
  | share p =>
    obtain ⟨h1, h2⟩ := h
    show (decide (("share" : Str) = "share") && (decide (1 ≤ p) && decide (p ≤ 1000))) = true
    rw [decide_eq_true rfl, decide_eq_true h1, decide_eq_true h2]
    rfl
  | layer r l =>
    obtain ⟨h1, h2, h3, h4⟩ := h
    show (decide (("layer" : Str) = "layer") && ((decide (0 ≤ r) && decide (r ≤ 100000)) && (decide (1 ≤ l) && decide (l ≤ 100000)))) = true
    rw [decide_eq_true rfl, decide_eq_true h1, decide_eq_true h2, decide_eq_true h3, decide_eq_true h4]
    rfl
theorem cv_len (c : Cov) : (cvV c).length ≤ 1000 := by
  cases c with
  | share p => exact (show 2 ≤ 1000 by decide)
  | layer r l => exact (show 3 ≤ 1000 by decide)
theorem flat_cvV (c : Cov) : (cvV c).all flatV = true := by
  cases c <;> rfl
/-- what is known of a value that is asked whether it is an integer -/
def NumV (K : PySem.W.Frag) (H : Hp) (x : V) : Prop := ∃ n, TyX K H x (.type n) ∧ ((n = "bool" ∧ ∃ b, x = .bl b) ∨ (n = "int" ∧ ∃ i, x = .int i) ∨ ((n = "str" ∨ n = "NoneType" ∨ n = "tuple" ∨ n = "list" ∨ n = "dict") ∧ ∀ lo hi, btw x lo hi = false))
def sp_is_between (K : PySem.W.Frag) : Sp := fun vs H Q _ => ∃ (x : V) (lo hi : Int), vs = [x, .int lo, .int hi] ∧ NumV K H x ∧ Q (.bl (btw x lo hi)) H
def sp_is_cover (K : PySem.W.Frag) : Sp := fun vs H Q _ => ∃ x : V, vs = [x] ∧
  ((∃ t, TyX K H x t ∧ PySem.W.kitOne K t (.type "tuple") = some false ∧ Q (.bl false) H) ∨
    ∃ (a : Addr) (xs : List V), x = .ref a ∧ SqT K H a xs ∧ xs.length ≤ 1000 ∧ xs.all flatV = true ∧ ∀ H', Same H H' → Q (.bl (isCov xs)) H')
theorem ty_flat {K : PySem.W.Frag} {H : Hp} {x : V} (h : flatV x = true) : NumV K H x := by
  cases x with
  | non => exact ⟨_, .base .non, .inr (.inr ⟨.inr (.inl rfl), fun _ _ => rfl⟩)⟩
  | bl b => exact ⟨_, .base (.bl b), .inl ⟨rfl, b, rfl⟩⟩
  | int i => exact ⟨_, .base (.int i), .inr (.inl ⟨rfl, i, rfl⟩)⟩
  | str z => exact ⟨_, .base (.str z), .inr (.inr ⟨.inl rfl, fun _ _ => rfl⟩)⟩
  | byt _ => cases h
  | flt _ => cases h
  | ref _ => cases h
  | ty _ => cases h
def sp_check_cover (K : PySem.W.Frag) (C : Addr) : Sp := fun vs H Q E => ∃ x : V, vs = [x] ∧ ((IsCovV K H x ∧ ∀ H', Same H H' → Q .non H') ∨ (NoCov K H x ∧ ∀ H', Same H H' → E (.ref C) none H'))
/-! ### programmes -/
def prog : List Cov → Int → List Int × Int
  | [], x => ([], x)
  | c :: t, x => (pays c x :: (prog t (x - pays c x)).1, (prog t (x - pays c x)).2)
theorem prog_len : ∀ (cs : List Cov) (x : Int), (prog cs x).1.length = cs.length
  | [], _ => rfl
  | _ :: t, _ => congrArg Nat.succ (prog_len t _)
theorem prog_sum : ∀ (cs : List Cov) (x : Int), (prog cs x).1.sum + (prog cs x).2 = x
  | [], x => by
    show ([] : List Int).sum + x = x
    rw [List.sum_nil]
    omega
  | c :: t, x => by
    have ih := prog_sum t (x - pays c x)
    show (pays c x :: (prog t (x - pays c x)).1).sum + (prog t (x - pays c x)).2 = x
    rw [List.sum_cons]
    omega
theorem prog_append : ∀ (cs ds : List Cov) (x : Int), prog (cs ++ ds) x = ((prog cs x).1 ++ (prog ds (prog cs x).2).1, (prog ds (prog cs x).2).2)
  | [], _, _ => rfl
  | c :: t, ds, x => by
    show (pays c x :: (prog (t ++ ds) (x - pays c x)).1, (prog (t ++ ds) (x - pays c x)).2) = _
    rw [prog_append t ds]
    rfl
def AllOk (cs : List Cov) : Prop := ∀ c ∈ cs, CvOk c
/-- by how much each pays more, and what is left, if the loss is one greater: just one is 1 -/
theorem prog_more : ∀ (cs : List Cov) (x : Int), AllOk cs → ∃ j, List.zipWith (fun a b => a - b) ((prog cs (x + 1)).1 ++ [(prog cs (x + 1)).2]) ((prog cs x).1 ++ [(prog cs x).2]) = List.replicate j 0 ++ 1 :: List.replicate (cs.length - j) 0 ∧ j ≤ cs.length
  | [], x, _ => ⟨0, by
    show [x + 1 - x] = [1]
    rw [show x + 1 - x = 1 by omega], Nat.le_refl 0⟩
  | c :: t, x, h => by
    have same : ∀ y : Int, ∀ l : List Cov, List.zipWith (fun a b => a - b) ((prog l y).1 ++ [(prog l y).2]) ((prog l y).1 ++ [(prog l y).2]) = List.replicate (l.length + 1) 0 := by
      intro y l
      have e : ∀ xs : List Int, List.zipWith (fun a b => a - b) xs xs = List.replicate xs.length 0 := by
        intro xs
        induction xs with
        | nil => rfl
        | cons z zs ih =>
          show (z - z) :: List.zipWith (fun a b => a - b) zs zs = 0 :: List.replicate zs.length 0
          rw [ih, Int.sub_self]
      rw [e, List.length_append, prog_len]
      rfl
    rcases pays_step (h c List.mem_cons_self) x with e | e
    · obtain ⟨j, hj, hle⟩ := prog_more t (x - pays c x) fun d hd => h d (List.mem_cons_of_mem _ hd)
      refine ⟨j + 1, ?_, Nat.succ_le_succ hle⟩
      show (pays c (x + 1) - pays c x) :: List.zipWith (fun a b => a - b) ((prog t (x + 1 - pays c (x + 1))).1 ++ [(prog t (x + 1 - pays c (x + 1))).2]) ((prog t (x - pays c x)).1 ++ [(prog t (x - pays c x)).2]) = 0 :: (List.replicate j 0 ++ 1 :: List.replicate (t.length + 1 - (j + 1)) 0)
      rw [e, Int.sub_self, show x + 1 - pays c x = x - pays c x + 1 by omega, hj, show t.length + 1 - (j + 1) = t.length - j by omega]
    · refine ⟨0, ?_, Nat.zero_le _⟩
      show (pays c (x + 1) - pays c x) :: List.zipWith (fun a b => a - b) ((prog t (x + 1 - pays c (x + 1))).1 ++ [(prog t (x + 1 - pays c (x + 1))).2]) ((prog t (x - pays c x)).1 ++ [(prog t (x - pays c x)).2]) = 1 :: List.replicate (t.length + 1) 0
      rw [e, show x + 1 - (pays c x + 1) = x - pays c x by omega, same, show pays c x + 1 - pays c x = 1 by omega]
/-- a list of covers stands there -/
def CovsAt (K : PySem.W.Frag) (H : Hp) (vs : List V) (cs : List Cov) : Prop := vs.length = cs.length ∧ ∀ (i : Nat) (c : Cov), cs[i]? = some c → ∃ a : Addr, vs[i]? = some (V.ref a) ∧ SqT K H a (cvV c) ∧ CvOk c
theorem CovsAt.same {K : PySem.W.Frag} {H H' : Hp} {vs : List V} {cs : List Cov} (h : CovsAt K H vs cs) (e : Same H H') : CovsAt K H' vs cs :=
  ⟨h.1, fun i c hi => let ⟨a, h1, h2, h3⟩ := h.2 i c hi; ⟨a, h1, same_sqt e h2, h3⟩⟩
theorem CovsAt.ok {K : PySem.W.Frag} {H : Hp} {vs : List V} {cs : List Cov} (h : CovsAt K H vs cs) : AllOk cs := fun c hc => by
  obtain ⟨i, hi⟩ := List.mem_iff_getElem?.mp hc
  obtain ⟨_, _, _, r⟩ := h.2 i c hi
  exact r
theorem CovsAt.get {K : PySem.W.Frag} {H : Hp} {vs : List V} {cs : List Cov} (h : CovsAt K H vs cs) {i : Nat} {y : V} (e : vs[i]? = some y) : ∃ a c, y = .ref a ∧ cs[i]? = some c ∧ SqT K H a (cvV c) ∧ CvOk c := by
  have hi := (List.getElem?_eq_some_iff.mp e).1
  have hlt : i < cs.length := by
    rw [← h.1]
    exact hi
  have hc : cs[i]? = some cs[i] := List.getElem?_eq_getElem hlt
  obtain ⟨a, h1, h2, h3⟩ := h.2 i _ hc
  rw [e] at h1
  exact ⟨a, _, Option.some.inj h1, hc, h2, h3⟩
theorem CovsAt.take {K : PySem.W.Frag} {H : Hp} {vs : List V} {cs : List Cov} (h : CovsAt K H vs cs) (n : Nat) : CovsAt K H (vs.take n) (cs.take n) := by
  refine ⟨by rw [List.length_take, List.length_take, h.1], fun i c hi => ?_⟩
  rw [List.getElem?_take] at hi ⊢
  split at hi
  · rename_i hl
    rw [if_pos hl]
    exact h.2 i c hi
  · cases hi
theorem CovsAt.drop {K : PySem.W.Frag} {H : Hp} {vs : List V} {cs : List Cov} (h : CovsAt K H vs cs) (n : Nat) : CovsAt K H (vs.drop n) (cs.drop n) := by
  refine ⟨by rw [List.length_drop, List.length_drop, h.1], fun i c hi => ?_⟩
  rw [List.getElem?_drop] at hi ⊢
  exact h.2 _ c hi
def sp_programme (K : PySem.W.Frag) : Sp := fun vs H Q _ => ∃ (s : Addr) (x : Int) (ys : List V) (cs : List Cov), vs = [.ref s, .int x] ∧ Sq K H s ys ∧ CovsAt K H ys cs ∧ cs.length ≤ 1000 ∧
  ∀ (t p : Addr) (H' : Hp), Same H H' → H' t = some (.tup ((prog cs x).1.map V.int)) → H' p = some (.tup [.ref t, .int (prog cs x).2]) → Q (.ref p) H'
theorem prog_step {cs : List Cov} {i : Nat} {c : Cov} {r : Int} (h : cs[i]? = some c) : prog (cs.drop i) r = (pays c r :: (prog (cs.drop (i + 1)) (r - pays c r)).1, (prog (cs.drop (i + 1)) (r - pays c r)).2) := by
  obtain ⟨h1, h2⟩ := List.getElem?_eq_some_iff.mp h
  rw [List.drop_eq_getElem_cons h1, h2]
  rfl
/-! ### I1. enumerate(v), whatever v is -/
section
variable {prog : Program} {w : World} {A : Around} {E : Value → Shared → Prop} {s : Shared}
set_option maxHeartbeats 1000000 in
theorem enum_new1 {v : Value} {o : Obj} {S : Heap → Prop} (B : Begins v o S) :
    Meets (Builtin.«enumerate.__new__» ⟨[.type "enumerate", v], []⟩) (fun _ R s => S s.heap ∧
      R (.ok (.ret (.ref (s.heap.push o).objs.size)))
        { s with heap := (s.heap.push o).push { cls := .type "enumerate", data := .fields #[.none, .bool false, .ref s.heap.objs.size, rawInt 0, .none, .none] } }) :=
  .of_wp fun prog w A R s h => by
    obtain ⟨hp, gs, dr, tk, os⟩ := s
    obtain ⟨src, h⟩ := h
    have hsub := sub_enumerate
    have first : ∀ {A' : Around} {E' : Value → Shared → Prop} {Q' : Value → Shared → Prop},
        Q' (.ref hp.objs.size) ⟨hp.push o, gs, dr, tk, os⟩ → wpAny (model prog w) A' (pyIter v) Q' E' ⟨hp, gs, dr, tk, os⟩ :=
      fun q => B.iter prog w _ _ ⟨hp, gs, dr, tk, os⟩ _ src q
    wp_walk using first
    refine wpAny_stack_any fun _ =>
      wpAny_pure ?_
    split
    · rename_i c _ _ _ _ _
      cases (c == Value.type "enumerate") <;>
        (wp_walk using first; exact ⟨_, rfl, h⟩)
    · wp_walk using first
      exact ⟨_, rfl, h⟩
theorem enum_begins1 {v : Value} {o : Obj} {S : Heap → Prop} {Q : Value → Shared → Prop} (B : Begins v o S) (src : S s.heap)
    (q : ∀ h', IsEnum h' (s.heap.objs.size + 1) s.heap.objs.size 0 .none → h'.get? s.heap.objs.size = some o →
      (∀ b u, s.heap.get? b = some u → h'.get? b = some u) → Q (.ref (s.heap.objs.size + 1)) { s with heap := h' }) :
    wpAny (model prog w) A (call (.type "enumerate") [v]) Q E s := by
  refine callType_new F.called_enumerate (by decide) (F.typeCall_enumerate_1 _)
    (F.newCall_enumerate_1 _) (fun obj => F.args_object_init_2 obj _) F.entry_enumerate_new (enum_new1 B) ⟨src, ?_⟩
  have size1 : (s.heap.push o).objs.size = s.heap.objs.size + 1 := Heap.size_push ..
  show _ ∧ _
  rw [size1]
  have made : IsEnum ((s.heap.push o).push { cls := .type "enumerate", data := .fields #[.none, .bool false, .ref s.heap.objs.size, rawInt 0, .none, .none] })
      (s.heap.objs.size + 1) s.heap.objs.size 0 .none := by
    have z := Heap.get?_push_size (s.heap.push o)
      (o := { cls := .type "enumerate", data := .fields #[.none, .bool false, .ref s.heap.objs.size, rawInt 0, .none, .none] }) rfl
    rw [size1] at z
    exact z
  exact ⟨⟨_, made, rfl⟩, q _ made (Heap.get?_push_of_some _ (Heap.get?_push_size _ B.free))
    fun b u e => Heap.get?_push_of_some _ (Heap.get?_push_of_some _ e)⟩
end
/-! ### I2. a list or a tuple that is walked; tp: is it a tuple -/
def SqK (tp : Bool) (K : PySem.W.Frag) (H : Hp) (a : Addr) (xs : List V) : Prop := match tp with
  | true => SqT K H a xs
  | false => SqL K H a xs
def SAt (tp : Bool) (h : Heap) (a : Addr) (its : Array Value) : Prop := match tp with
  | true => h.IsTuple a its
  | false => h.IsList a its
def SIt (tp : Bool) (h : Heap) (it a : Addr) (i : Nat) : Prop := match tp with
  | true => h.IsTupleIter it a i
  | false => h.IsListIter it a i
def sObj (tp : Bool) (a : Addr) : Obj := match tp with
  | true => { cls := .type "tuple_iterator", data := .fields #[.ref a, .int 0 0] }
  | false => { cls := .type "list_iterator", data := .fields #[.ref a, .int 0 0] }
theorem s_begins (tp : Bool) (a : Addr) (its : Array Value) : Begins (.ref a) (sObj tp a) fun h => SAt tp h a its := by
  cases tp with
  | true => exact begins_tuple a its
  | false => exact begins_list a its
theorem s_it0 {tp : Bool} {h : Heap} {it a : Addr} (e : h.get? it = some (sObj tp a)) : SIt tp h it a 0 := by
  cases tp with
  | true => exact ⟨_, e, rfl, rfl⟩
  | false => exact ⟨_, e, rfl, rfl⟩
theorem s_obj {tp : Bool} {h : Heap} {it a : Addr} {i : Nat} (x : SIt tp h it a i) : ∃ o, h.get? it = some o ∧ ∀ v, o.data ≠ .cell v := by
  cases tp with
  | true =>
    obtain ⟨o, e, _, d⟩ := x
    exact ⟨o, e, fun v q => by rw [d] at q; cases q⟩
  | false =>
    obtain ⟨o, e, _, d⟩ := x
    exact ⟨o, e, fun v q => by rw [d] at q; cases q⟩
theorem s_keep {tp : Bool} {h h' : Heap} {it a : Addr} {i : Nat} (x : SIt tp h it a i) (k : ∀ o, h.get? it = some o → h'.get? it = some o) : SIt tp h' it a i := by
  cases tp with
  | true => exact Heap.IsTupleIter.at x k
  | false => exact Heap.IsListIter.at x k
theorem s_draws {prog : Program} {w : World} {A : Around} (tp : Bool) (calm : A.handled = none) (it a : Addr) (ne : a ≠ it) (its : Array Value) :
    Draws prog w A it [it, a] its.size (fun i v => its[i]? = some v) (fun i h => SIt tp h it a i ∧ SAt tp h a its) := by
  cases tp with
  | true => exact Draws.tuple calm it a ne its
  | false => exact Draws.list calm it a ne its
section
variable {X : Cx} {pins : List (Addr × Obj)} {σ : L2.St} {H : Hp} {s : Shared}
theorem src_of {tp : Bool} {a : Addr} {xs : List V} (I : Inv X pins σ H s) (h : SqK tp X.K H a xs) : ∃ its : List Value, Vals xs its ∧ SAt tp s.heap a its.toArray ∧ a < s.heap.objs.size := by
  cases tp with
  | true =>
    obtain ⟨its, rv, p, _⟩ := I.tuple h
    obtain ⟨o, e, _⟩ := id p
    exact ⟨its, rv, p, Heap.lt_size e⟩
  | false =>
    obtain ⟨its, rv, p, _⟩ := I.list h
    exact ⟨its, rv, p.isList, p.lt⟩
theorem src_inj {tp : Bool} {a : Addr} {xs ys : List V} (I : Inv X pins σ H s) (h : SqK tp X.K H a xs) (h' : SqK tp X.K H a ys) : xs = ys := by
  cases tp with
  | true => exact I.tuple_inj h h'
  | false => exact I.list_inj h h'
/-- a turn that hands out a new pair -/
theorem item_pair {tg : Expr} {it : Addr} {fp' wr fp : List Addr} {n i : Nat} {Y : Nat → Heap → Value → Heap → Prop} {St : Nat → Heap → Prop} {E : Value → Shared → Prop} {x y : V} {tn : Nat → Heap → Prop}
    (W : GoesN X.prog X.w X.A tg it fp' wr n Y St) (I : Inv X pins σ H s) (hf : ∀ b ∈ fp, FpOk X pins H b) (hw : ∀ b ∈ wr, b ∈ fp) (old : ∀ b ∈ fp, b < s.heap.objs.size) (hi : i < n) (st : St i s.heap)
    (hY : ∀ v h', Y i s.heap v h' → ∃ T u1 u2, v = .ref T ∧ s.heap.objs.size ≤ T ∧ h'.IsTuple T #[u1, u2] ∧ RelV x u1 ∧ RelV y u2) (ht : ∀ h', St (i + 1) h' → tn (i + 1) h') :
    wpAny (model X.prog X.w) X.A (pyNext (.ref it)) (fun r s1 => ∃ u, r = some u ∧ wpAny (model X.prog X.w) X.A (letOwnedTupleGo tg (.ref it) u)
      (fun _ s2 => ∃ v H', Inv X pins σ H' s2 ∧ RelV v u ∧ (∃ T, v = .ref T ∧ H T = none ∧ H' = upd H T (.tup [x, y])) ∧ tn (i + 1) s2.heap ∧ ∀ b ∈ fp, H' b = none) E s1) E s := by
  refine W.goes i s _ E hi st fun v h' tk hy st' hk _ => ?_
  obtain ⟨T, u1, u2, rfl, big, ⟨o, ho, hc, m, hd⟩, r1, r2⟩ := hY v h' hy
  have new : ObjOk X.prog X.w (upd H T (.tup [x, y])) h' T (.tup [x, y]) := ⟨by show 2 ≤ sizeLine; decide, [u1, u2], .cons r1 (.cons r2 .nil), ⟨o, ho, hc, m, hd⟩⟩
  have J : Inv X pins σ (upd H T (.tup [x, y])) { s with heap := h', toks := tk } := I.turnedNew (t' := tk) (ch := fp) (fun b u hb e => hk b u (fun z => hb (hw b z)) e) hf big new
  refine ⟨.ref T, _, J, rfl, ⟨T, rfl, I.hok.fresh big, rfl⟩, ht _ st', fun b hb => ?_⟩
  rw [upd_ne (Nat.ne_of_lt (Nat.lt_of_lt_of_le (old b hb) big))]
  exact (hf b hb).1
theorem item_done {it : Addr} {tg : Expr} {fp' wr fp : List Addr} {n : Nat} {Y : Nat → Heap → Value → Heap → Prop} {St : Nat → Heap → Prop} {E : Value → Shared → Prop}
    (W : GoesN X.prog X.w X.A tg it fp' wr n Y St) (I : Inv X pins σ H s) (hf : ∀ b ∈ fp, FpOk X pins H b) (hw : ∀ b ∈ wr, b ∈ fp) (st : St n s.heap) :
    wpAny (model X.prog X.w) X.A (pyNext (.ref it)) (fun r s1 => r = none ∧ Inv X pins σ H s1) E s :=
  W.stops s _ E st fun h' tk hk _ => I.turnedL (t' := tk) (ch := fp) (fun b u hb e => hk b u (fun z => hb (hw b z)) e) hf
end
/-! ### I3. for i, x in enumerate(list or tuple) -/
def ItE (K : PySem.W.Frag) (tp : Bool) (a : Addr) : It :=
  ⟨fun i H => ∃ (xs : List V) (x : V), SqK tp K H a xs ∧ xs[i]? = some x,
    fun i H v H' => ∃ T x, v = .ref T ∧ H T = none ∧ H' = upd H T (.tup [.int (i : Nat), x]) ∧ ∀ xs, SqK tp K H a xs → xs[i]? = some x,
    fun i H => ∃ xs : List V, SqK tp K H a xs ∧ xs.length = i⟩
theorem turn_E {P : Program} {w : World} {K : PySem.W.Frag} {elts : List Expr} {kk : Nat} {tpos : PySem.Pos} {tp : Bool} {a e it : Addr} (h1 : e ≠ it) (h2 : e ≠ a) (h3 : a ≠ it) :
    Turn P w K (.Tuple elts kk tpos) (ItE K tp a) [e, it] e (fun i h => (∃ old, IsEnum h e it (0 + (i : Int)) old) ∧ SIt tp h it a i) where
  mem := List.mem_cons_self
  obj := fun i h st b hb => by
    obtain ⟨⟨old, he⟩, hi⟩ := st
    rcases List.mem_cons.mp hb with rfl | hb
    · exact ⟨_, he, fun v q => nomatch q⟩
    · cases List.mem_singleton.mp hb
      exact s_obj hi
  keep := fun i h h' st k => by
    obtain ⟨⟨old, he⟩, hi⟩ := st
    exact ⟨⟨old, k e List.mem_cons_self _ he⟩, s_keep hi fun o q => k it (List.mem_cons_of_mem _ List.mem_cons_self) o q⟩
  item := by
    intro X hP hw hK hc i pins s σ H E I hf st hg
    subst hP hw hK
    obtain ⟨xs, x, hq, hx⟩ := hg
    obtain ⟨its, rv, src, _⟩ := src_of I hq
    obtain ⟨u, hu, ru⟩ := rv.get hx
    have D := s_draws (prog := X.prog) (w := X.w) (A := X.A.in1) tp (I.ok.hd hc) it a h3 its.toArray
    have W := GoesN.enumFrom (elts := elts) (x1 := kk) (pos := tpos) 0 D e h1 (by simp [h1, h2]) List.mem_cons_self
    obtain ⟨⟨old, he⟩, hi⟩ := id st
    have old2 : ∀ b ∈ [e, it], b < s.heap.objs.size := fun b hb => by
      rcases List.mem_cons.mp hb with rfl | hb
      · exact Heap.lt_size he
      · cases List.mem_singleton.mp hb
        obtain ⟨o, eo, _⟩ := s_obj hi
        exact Heap.lt_size eo
    have hlt : i < its.toArray.size := by
      have := (List.getElem?_eq_some_iff.mp hu).1
      rw [List.size_toArray]
      exact this
    refine thn (item_pair (tn := fun i h => (∃ old, IsEnum h e it (0 + (i : Int)) old) ∧ SIt tp h it a i) (x := .int (i : Nat)) (y := x) W I hf (fun b hb => hb) old2 hlt ⟨st.1, st.2, src⟩ ?_ (fun h' z => (⟨z.1, z.2.1⟩ : (∃ old, IsEnum h' e it (0 + ((i + 1 : Nat) : Int)) old) ∧ SIt tp h' it a (i + 1)))) fun r s1 h => ?_
    · rintro v h' ⟨T, t, y, rfl, big, hy, hT⟩
      refine ⟨T, _, _, rfl, big, hT, ⟨t, ?_⟩, ?_⟩
      · rw [Int.zero_add]
      · have hy2 : its[i]? = some y := by simpa using hy
        rw [hu] at hy2
        cases hy2
        exact ru
    · obtain ⟨u', hr, h⟩ := h
      refine ⟨u', hr, thn h fun _ s2 h => ?_⟩
      obtain ⟨v, H', J, rvu, ⟨T, e1, e2, e3⟩, t1, t2⟩ := h
      exact ⟨v, H', J, rvu, ⟨T, x, e1, e2, e3, fun ys hys => by rw [src_inj I hys hq]; exact hx⟩, t1, t2⟩
  done := by
    intro X hP hw hK hc i pins s σ H E I hf st hg
    subst hP hw hK
    obtain ⟨xs, hq, hl⟩ := hg
    obtain ⟨its, rv, src, _⟩ := src_of I hq
    have D := s_draws (prog := X.prog) (w := X.w) (A := X.A.in1) tp (I.ok.hd hc) it a h3 its.toArray
    have W := GoesN.enumFrom (elts := elts) (x1 := kk) (pos := tpos) 0 D e h1 (by simp [h1, h2]) List.mem_cons_self
    have en : its.toArray.size = i := by rw [List.size_toArray, ← rv.length, hl]
    refine item_done W I hf (fun b hb => hb) ?_
    rw [en]
    exact ⟨st.1, st.2, src⟩
  self := fun A i s Q E st h => by
    obtain ⟨⟨old, he⟩, _⟩ := st
    exact wpAny_pyIter_enum he h
def iEnumS (K : PySem.W.Frag) (tp : Bool) (ta : TA) : TI := fun σ H R => ta σ H fun vs H1 => ∃ a xs, vs = [.ref a] ∧ SqK tp K H1 a xs ∧ R (ItE K tp a) H1
theorem pi_enumS (tp : Bool) {X : Cx} {e : Expr} {ta : TA} {p pos tpos : PySem.Pos} {elts : List Expr} {kk : Nat} (hg : Gl X "enumerate") (hm : X.mg "enumerate" = none) (ha : PA X [e] ta) (hs : starEach [e] X.env = [(false, eval e X.env)] := by rfl) :
    PI X (.Tuple elts kk tpos) (.Call (.Name "enumerate" p) [e] [] pos) (iEnumS X.K tp ta) := by
  refine ⟨fun pins s σ H R I h => ?_⟩
  refine Call_ (ld_blt I hg hm boot_enumerate (PyProof.Rows.callWith_type1 (thn (ha.run pos pins s σ H _ I h) fun us s1 ⟨vs, H1, I1, r1, q1⟩ => ?_) hs rfl))
  obtain ⟨a, xs, rfl, hq, q⟩ := q1
  cases r1 with
  | cons r rr =>
    cases rr
    cases r
    obtain ⟨its, rv, src, lt⟩ := src_of I1 hq
    refine enum_begins1 (s_begins tp a its.toArray) src fun h' he hit hk => wpAny_pyIter_enum he ?_
    have I2 : Inv X pins σ H1 { s1 with heap := h' } := I1.kept (t' := s1.toks) hk
    refine ⟨s1.heap.objs.size + 1, [s1.heap.objs.size + 1, s1.heap.objs.size], _, _, H1, rfl, I2, turn_E (tp := tp) (a := a) (Nat.succ_ne_self _) (Nat.ne_of_gt (Nat.lt_succ_of_lt lt)) (Nat.ne_of_lt lt), ⟨⟨.none, he⟩, s_it0 hit⟩, fun b hb => ?_, q⟩
    have hle : s1.heap.objs.size ≤ b := by
      rcases List.mem_cons.mp hb with rfl | hb
      · exact Nat.le_succ _
      · cases List.mem_singleton.mp hb
        exact Nat.le_refl _
    exact I1.fpOk hle (I1.hok.fresh hle)
theorem walk_E {K : PySem.W.Frag} {tp : Bool} {a : Addr} {xs : List V} : Walk (ItE K tp a) xs.length (fun H => SqK tp K H a xs) (YPair (fun i => some (.int (i : Nat))) (fun i => xs[i]?)) := by
  refine ⟨fun i H hi q => ⟨xs, xs[i], q, by simp [hi]⟩, fun H q => ⟨xs, q, rfl⟩, fun i H v H' hi q y => ?_⟩
  obtain ⟨T, x, e1, e2, e3, e4⟩ := y
  exact ⟨T, _, x, e1, e2, e3, rfl, e4 xs q⟩
/-! ### I4. for x, y in zip(list or tuple, list or tuple) -/
def ItZ (K : PySem.W.Frag) (t1 t2 : Bool) (a b : Addr) : It :=
  ⟨fun i H => ∃ (xs ys : List V) (x y : V), SqK t1 K H a xs ∧ SqK t2 K H b ys ∧ xs[i]? = some x ∧ ys[i]? = some y,
    fun i H v H' => ∃ T x y, v = .ref T ∧ H T = none ∧ H' = upd H T (.tup [x, y]) ∧ (∀ xs, SqK t1 K H a xs → xs[i]? = some x) ∧ ∀ ys, SqK t2 K H b ys → ys[i]? = some y,
    fun i H => ∃ xs ys : List V, SqK t1 K H a xs ∧ SqK t2 K H b ys ∧ min xs.length ys.length = i⟩
theorem turn_Z {P : Program} {w : World} {K : PySem.W.Frag} {elts : List Expr} {kk : Nat} {tpos : PySem.Pos} {t1 t2 : Bool} {a b z TI TO i1 i2 : Addr} (S : ZipSep2 z TI TO i1 i2 [i1, a] [i2, b]) (n1 : a ≠ i1) (n2 : b ≠ i2) :
    Turn P w K (.Tuple elts kk tpos) (ItZ K t1 t2 a b) [z, TI, TO, i1, i2] z (fun i h => IsZip h z TI TO .none ∧ IsTupOf2 h TI (.ref i1) (.ref i2) ∧ (∃ a1 a2, IsTupOf2 h TO a1 a2) ∧ SIt t1 h i1 a i ∧ SIt t2 h i2 b i) where
  mem := List.mem_cons_self
  obj := fun i h st c hc => by
    obtain ⟨hz, hTI, ⟨x, y, hTO⟩, g1, g2⟩ := st
    simp only [List.mem_cons, List.not_mem_nil, or_false] at hc
    rcases hc with rfl | rfl | rfl | rfl | rfl
    · exact ⟨_, hz, fun v q => nomatch q⟩
    · exact ⟨_, hTI, fun v q => nomatch q⟩
    · exact ⟨_, hTO, fun v q => nomatch q⟩
    · exact s_obj g1
    · exact s_obj g2
  keep := fun i h h' st k => by
    obtain ⟨hz, hTI, ⟨x, y, hTO⟩, g1, g2⟩ := st
    exact ⟨k z (by simp) _ hz, k TI (by simp) _ hTI, ⟨x, y, k TO (by simp) _ hTO⟩, s_keep g1 fun o q => k i1 (by simp) o q, s_keep g2 fun o q => k i2 (by simp) o q⟩
  item := by
    intro X hP hw hK hc i pins s σ H E I hf st hg
    subst hP hw hK
    obtain ⟨xs, ys, x, y, hqx, hqy, hx, hy⟩ := hg
    obtain ⟨its, rv, src, _⟩ := src_of I hqx
    obtain ⟨its2, rv2, src2, _⟩ := src_of I hqy
    obtain ⟨u, hu, ru⟩ := rv.get hx
    obtain ⟨u2, hu2, ru2⟩ := rv2.get hy
    have D1 := s_draws (prog := X.prog) (w := X.w) (A := X.A.in1) t1 (I.ok.hd hc) i1 a n1 its.toArray
    have D2 := s_draws (prog := X.prog) (w := X.w) (A := X.A.in1) t2 (I.ok.hd hc) i2 b n2 its2.toArray
    have W := GoesN.zip2 (elts := elts) (x1 := kk) (pos := tpos) S D1 D2
    obtain ⟨hz, hTI, ⟨x0, y0, hTO⟩, g1, g2⟩ := id st
    have old2 : ∀ c ∈ [z, TI, TO, i1, i2], c < s.heap.objs.size := fun c hc => by
      simp only [List.mem_cons, List.not_mem_nil, or_false] at hc
      rcases hc with rfl | rfl | rfl | rfl | rfl
      · exact Heap.lt_size hz
      · exact Heap.lt_size hTI
      · exact Heap.lt_size hTO
      · obtain ⟨o, eo, _⟩ := s_obj g1
        exact Heap.lt_size eo
      · obtain ⟨o, eo, _⟩ := s_obj g2
        exact Heap.lt_size eo
    have hlt : i < min its.toArray.size its2.toArray.size := by
      have e1 := (List.getElem?_eq_some_iff.mp hu).1
      have e2 := (List.getElem?_eq_some_iff.mp hu2).1
      rw [List.size_toArray, List.size_toArray]
      omega
    have sub : ∀ c ∈ [z, TO, i1, i2], c ∈ [z, TI, TO, i1, i2] := fun c hc => by
      simp only [List.mem_cons, List.not_mem_nil, or_false] at hc ⊢
      rcases hc with h | h | h | h
      · exact .inl h
      · exact .inr (.inr (.inl h))
      · exact .inr (.inr (.inr (.inl h)))
      · exact .inr (.inr (.inr (.inr h)))
    refine thn (item_pair (tn := fun i h => IsZip h z TI TO .none ∧ IsTupOf2 h TI (.ref i1) (.ref i2) ∧ (∃ a1 a2, IsTupOf2 h TO a1 a2) ∧ SIt t1 h i1 a i ∧ SIt t2 h i2 b i) (x := x) (y := y) W I hf sub old2 hlt ⟨hz, hTI, ⟨x0, y0, hTO⟩, ⟨g1, src⟩, ⟨g2, src2⟩⟩ ?_ (fun h' q => (⟨q.1, q.2.1, q.2.2.1, q.2.2.2.1.1, q.2.2.2.2.1⟩ : IsZip h' z TI TO .none ∧ IsTupOf2 h' TI (.ref i1) (.ref i2) ∧ (∃ a1 a2, IsTupOf2 h' TO a1 a2) ∧ SIt t1 h' i1 a (i + 1) ∧ SIt t2 h' i2 b (i + 1)))) fun r s1 h => ?_
    · rintro v h' ⟨T, y1, y2, rfl, big, hy1, hy2, hT⟩
      refine ⟨T, _, _, rfl, big, hT, ?_, ?_⟩
      · have e : its[i]? = some y1 := by simpa using hy1
        rw [hu] at e
        cases e
        exact ru
      · have e : its2[i]? = some y2 := by simpa using hy2
        rw [hu2] at e
        cases e
        exact ru2
    · obtain ⟨u', hr, h⟩ := h
      refine ⟨u', hr, thn h fun _ s2 h => ?_⟩
      obtain ⟨v, H', J, rvu, ⟨T, e1, e2, e3⟩, q1, q2⟩ := h
      exact ⟨v, H', J, rvu, ⟨T, x, y, e1, e2, e3, fun l hl => by rw [src_inj I hl hqx]; exact hx, fun l hl => by rw [src_inj I hl hqy]; exact hy⟩, q1, q2⟩
  done := by
    intro X hP hw hK hc i pins s σ H E I hf st hg
    subst hP hw hK
    obtain ⟨xs, ys, hqx, hqy, hl⟩ := hg
    obtain ⟨its, rv, src, _⟩ := src_of I hqx
    obtain ⟨its2, rv2, src2, _⟩ := src_of I hqy
    have D1 := s_draws (prog := X.prog) (w := X.w) (A := X.A.in1) t1 (I.ok.hd hc) i1 a n1 its.toArray
    have D2 := s_draws (prog := X.prog) (w := X.w) (A := X.A.in1) t2 (I.ok.hd hc) i2 b n2 its2.toArray
    have W := GoesN.zip2 (elts := elts) (x1 := kk) (pos := tpos) S D1 D2
    have en : min its.toArray.size its2.toArray.size = i := by rw [List.size_toArray, List.size_toArray, ← rv.length, ← rv2.length, hl]
    have sub : ∀ c ∈ [z, TO, i1, i2], c ∈ [z, TI, TO, i1, i2] := fun c hc => by
      simp only [List.mem_cons, List.not_mem_nil, or_false] at hc ⊢
      rcases hc with h | h | h | h
      · exact .inl h
      · exact .inr (.inr (.inl h))
      · exact .inr (.inr (.inr (.inl h)))
      · exact .inr (.inr (.inr (.inr h)))
    refine item_done W I hf sub ?_
    rw [en]
    obtain ⟨hz, hTI, hTO, g1, g2⟩ := st
    exact ⟨hz, hTI, hTO, ⟨g1, src⟩, ⟨g2, src2⟩⟩
  self := fun A i s Q E st h => wpAny_pyIter_zip st.1 h
def iZipS (K : PySem.W.Frag) (t1 t2 : Bool) (ta : TA) : TI := fun σ H R => ta σ H fun vs H1 => ∃ a b xs ys, vs = [.ref a, .ref b] ∧ SqK t1 K H1 a xs ∧ SqK t2 K H1 b ys ∧ R (ItZ K t1 t2 a b) H1
theorem pi_zipS (t1 t2 : Bool) {X : Cx} {e e2 : Expr} {ta : TA} {p pos tpos : PySem.Pos} {elts : List Expr} {kk : Nat} (hg : Gl X "zip") (hm : X.mg "zip" = none) (ha : PA X [e, e2] ta)
    (hs : starEach [e, e2] X.env = (false, eval e X.env) :: starEach [e2] X.env := by rfl) (hpl : (backTo pos (starEach [e2] X.env)).any (·.1) = false := by rfl) :
    PI X (.Tuple elts kk tpos) (.Call (.Name "zip" p) [e, e2] [] pos) (iZipS X.K t1 t2 ta) := by
  refine ⟨fun pins s σ H R I h => ?_⟩
  refine Call_ (ld_blt I hg hm PyProof.Rows.boot_zip (PyProof.Rows.callWith_type1 (thn (ha.run pos pins s σ H _ I h) fun us s1 ⟨vs, H1, I1, r1, q1⟩ => ?_) hs hpl))
  obtain ⟨a, b, xs, ys, rfl, hqx, hqy, q⟩ := q1
  cases r1 with
  | cons r rr =>
    cases rr with
    | cons r' rr =>
      cases rr
      cases r
      cases r'
      obtain ⟨its, rv, src, lt⟩ := src_of I1 hqx
      obtain ⟨its2, rv2, src2, lt2⟩ := src_of I1 hqy
      refine zip_begins2 (s_begins t1 a its.toArray) (s_begins t2 b its2.toArray) src src2 fun h' hz hTI hTO g1 g2 _ hk => wpAny_pyIter_zip hz ?_
      have I2 : Inv X pins σ H1 { s1 with heap := h' } := I1.kept (t' := s1.toks) hk
      have S := zip_sep2 (N := s1.heap.objs.size) (fp1 := [a]) (fp2 := [b]) (fun c hc => by cases List.mem_singleton.mp hc; exact lt) (fun c hc => by cases List.mem_singleton.mp hc; exact lt2)
      refine ⟨s1.heap.objs.size + 4, [s1.heap.objs.size + 4, s1.heap.objs.size + 2, s1.heap.objs.size + 3, s1.heap.objs.size, s1.heap.objs.size + 1], _, _, H1, rfl, I2,
        turn_Z (t1 := t1) (t2 := t2) S (Nat.ne_of_lt lt) (Nat.ne_of_lt (Nat.lt_succ_of_lt lt2)), ⟨hz, hTI, ⟨_, _, hTO⟩, s_it0 g1, s_it0 g2⟩, fun c hc => ?_, q⟩
      have hle : s1.heap.objs.size ≤ c := by
        simp only [List.mem_cons, List.not_mem_nil, or_false] at hc
        rcases hc with rfl | rfl | rfl | rfl | rfl
        · exact Nat.le_add_right _ _
        · exact Nat.le_add_right _ _
        · exact Nat.le_add_right _ _
        · exact Nat.le_refl _
        · exact Nat.le_add_right _ _
      exact I1.fpOk hle (I1.hok.fresh hle)
theorem walk_Z {K : PySem.W.Frag} {t1 t2 : Bool} {a b : Addr} {xs ys : List V} {n : Nat} (hn : n = min xs.length ys.length) :
    Walk (ItZ K t1 t2 a b) n (fun H => SqK t1 K H a xs ∧ SqK t2 K H b ys) (YPair (fun i => xs[i]?) (fun i => ys[i]?)) := by
  subst hn
  refine ⟨fun i H hi q => ?_, fun H q => ⟨xs, ys, q.1, q.2, rfl⟩, fun i H v H' hi q y => ?_⟩
  · have e1 : i < xs.length := by omega
    have e2 : i < ys.length := by omega
    exact ⟨xs, ys, xs[i], ys[i], q.1, q.2, by simp [e1], by simp [e2]⟩
  · obtain ⟨T, x, y, e1, e2, e3, e4, e5⟩ := y
    exact ⟨T, x, y, e1, e2, e3, e4 xs q.1, e5 ys q.2⟩
/-! ### O1. methods, makings; an error with one field -/
/-- a method's call in a suite that catches -/
def tMethT (C : Addr) (m : Str) (sp : Sp) (E : L2.St → XK) (ta : TE) (t : TA) : TE := fun σ H Q => ta σ H fun x H1 => ∃ a dx fs, x = .ref a ∧ H1 a = some (.ins C dx fs) ∧ fs.lookup m = none ∧ t σ H1 fun vs H2 => sp (x :: vs) H2 Q (E σ)
section
variable {X : Cx} {CX : CXT} {k : Nat} {f C : Addr} {fd : FuncData} {ps : List Str} {sp : Sp} {E : L2.St → XK} {m : Str} {pos apos : PySem.Pos} {e o : Expr} {es : List Expr} {ta : TE} {t : TA}
theorem pe_methT {pl : Sem Bool} (he : PE X o ta) (c : Cls X.K C) (hm : Meth X.K C m f) (F : FnOk X.prog X.w X.K X.mg X.base CX k f fd ps sp) (hr : Room k X.A) (hb : Binds X.K fd ps []) (hx : ∀ σ, PassesAt CX X σ (E σ)) (ha : PA X (e :: es) t)
    (hst : starEach (e :: es) X.env = (false, eval e X.env) :: starEach es X.env := by rfl) (hpl : (backTo pos (starEach es X.env)).any (·.1) = false := by rfl)
    (ht : eval (.Call (.Attribute o m apos) (e :: es) [] pos) X.env = (do
      let ov ← eval o X.env
      standAt apos.atName
      let (f, first) ← holding [ov] (getMethod ov m pl)
      callWith pos f first (backTo pos (starEach (e :: es) X.env)) (backToKw pos (keywordEach [] X.env))) := by rfl) :
    PE X (.Call (.Attribute o m apos) (e :: es) [] pos) (tMethT C m sp E ta t) := by
  refine ⟨fun pins s σ H Q I h => ?_⟩
  refine PySem.W.methodCall_KW (pl := pl) (thn (he.run pins s σ H _ I h) fun u s1 ⟨x, H1, I1, rx, a, dx, fs, ex, ea, l, q⟩ => ?_) ht
  subst ex
  obtain rfl : u = Value.ref a := rx
  refine getmeth_ok I1 ea c hm l ?_
  refine PySem.W.callWith_K (first := [.ref a]) (h₀ := X.base) I.ok.mod.kin hm.kp (thn (ha.run pos pins s1 σ H1 _ I1 q) fun us s2 ⟨vs, H2, I2, r, q2⟩ => ⟨I2.kIn, ?_⟩) hst hpl
  exact run_fnS F hr hb (hx σ) (us := .ref a :: us) (vs := .ref a :: vs) I2 (.cons rfl r) q2
end
/-- a field read where the heap's frame is written as K -/
theorem pe_fldK {X : Cx} {K : PySem.W.Frag} {e : Expr} {f : Str} {ta : TE} {pos : PySem.Pos} (hK : X.K = K) (he : PE X e ta) (hb : attributeBase e f X.env (eval e X.env) = eval e X.env) : PE X (.Attribute e f pos) (tFld K ta f) := by
  subst hK
  exact pe_fld he hb
/-- an error that is being made is given its field n -/
def sp_xi (n : Str) (C : Addr) : Sp := fun vs H Q _ => ∃ (a : Addr) (v : V), vs = [.ref a, v] ∧ H a = some (exo a C none) ∧ ∀ dx, H dx = none → dx ≠ a → Q .non (upd (upd H dx (exd dx [(n, v)])) a (exo a C (some dx)))
theorem mkO_to {n : Str} {C : Addr} {v : V} {H1 : Hp} {Q : XK} (q : ∀ d, H1 d = none → Q (.ref C) (some d) (upd H1 d (.xd [(n, v)]))) :
    [v].length ≤ 1000 ∧ ∀ a, H1 a = none → sp_xi n C (.ref a :: ([v] ++ [])) (upd H1 a (exo a C none))
      (fun u H2 => u = .non ∧ ∃ (d : Addr) (fs : List (Str × V)), H2 a = some (exo a C (some d)) ∧ H2 d = some (exd d fs) ∧ H1 d = none ∧ Q (.ref C) (some d) (upd (del H2 a) d (.xd fs))) (fun _ _ _ => False) := by
  refine ⟨(by decide : 1 ≤ 1000), fun a na => ⟨a, v, rfl, upd_same, fun dx ndx nea => ⟨rfl, dx, [(n, v)], upd_same, ?_, ?_, ?_⟩⟩⟩
  · rw [upd_ne nea, upd_same]
  · rw [upd_ne nea] at ndx
    exact ndx
  · rw [upd_ne nea] at ndx
    have e : upd (del (upd (upd (upd H1 a (exo a C none)) dx (exd dx [(n, v)])) a (exo a C (some dx))) a) dx (.xd [(n, v)]) = upd H1 dx (.xd [(n, v)]) := by
      funext b
      by_cases hb : b = dx
      · rw [hb, upd_same, upd_same]
      · rw [upd_ne hb, upd_ne hb]
        by_cases ha : b = a
        · rw [ha, del_same, na]
        · rw [del_ne ha, upd_ne ha, upd_ne hb, upd_ne ha]
    rw [e]
    exact q dx ndx
/-! ### x = {k: v for ..} -/
section
variable {X : Cx} {kx vx tg iter : Expr} {ifs : List Expr} {scope : Scope} {own : List (Str × Nat)} {pos spos py : PySem.Pos} {wi : TI} {g : TG} {tt : TT} {tk tv : TE} {i : Nat} {y : Str}
/-- in each block of the comprehension -/
abbrev Blks (X : Cx) (scope : Scope) (G : Cx → Prop) : Prop := ∀ (s : Shared) (H : Hp) (C : Addr) (cl : List (Str × Addr)) (fp : List Addr), G (X.blk s H scope (compEnvC scope cl C X.env) fp)
abbrev dcx (kx vx tg iter : Expr) (ifs : List Expr) (scope : Scope) (pos : PySem.Pos) : Expr := .DictComp kx vx [⟨tg, iter, ifs, 0⟩] scope pos
theorem sw_dict {gs : List Comprehension} {l : Nat} {env : Env} (hk : env.scope.kind = .function) (hy : env.scope.names.lookup y = some .local) (hl : (py.line == pos.line) = true) (ha : (scope.names.any fun p => p.1 == y && (p.2 == .local || p.2 == .cell)) = false) :
    swapsWith (.DictComp kx vx gs scope pos) (some (.Name y py)) l env = pure true := by
  have k1 : env.kindOf y = some .local := hy
  have k2 : env.blockKind = .function := (by unfold Env.blockKind; rw [hk]; rfl)
  unfold swapsWith
  simp only [k1, k2, ha, hl, Expr.pos]; rfl
theorem ps_setDc (hc : X.calm = true) (hN : X.N.Nodup) (hy : X.N[i]? = some y) (hyl : X.env.scope.names.lookup y = some .local) (hsw : swapsWith (dcx kx vx tg iter ifs scope pos) (some (.Name y py)) spos.line X.env = pure true) (hi : PI X tg iter wi) (ok : BlkOk X.N X.env.scope scope own)
    (hg : Blks X scope fun B => PG B tg g) (ht : Blks X scope fun B => PTs B ifs tt) (hk : Blks X scope fun B => PE B kx tk) (he : Blks X scope fun B => PE B vx tv) (hs : ∀ x, foldedSetIterable iter X.env x = pure x := by intro _; rfl) :
    PS X (.Assign [.Name y py] (dcx kx vx tg iter ifs scope pos) spos) (tAsg (tDc wi g tt tk tv (own.map (·.2))) (gName i)) := ⟨fun pins s σ H D I h => by
  rw [exec_Assign_Name_used _ _ _ _ hsw]; refine wpAny_bind (wpAny_standAt (wpAny_bind ?_))
  show wpAny _ X.A (do
    let _ ← comprehension (dcx kx vx tg iter ifs scope pos) scope X.env (firstIterPos [⟨tg, iter, ifs, 0⟩] pos) newDict false (eval iter X.env) (some (assign (.Name y py) X.env))) _ _ s
  have h1 : tDc wi g tt tk tv (own.map (·.2)) σ H (fun x H1 => gName i x σ H1 D.nx) := h
  refine wpAny_bind (thn (dc_core (Qf := fun _ t => SP X pins D .next t) hc hN I hi ok hg ht hk he hs h1 fun L C t m H1 I1 q hn fp => ?_) fun _ t hq => wpAny_pure (wpAny_pure hq))
  obtain ⟨e0, e1, e2, e3, e4, e5⟩ := fp
  show wpAny _ _ (assign (.Name y py) X.env (.ref L)) _ _ _
  refine wpAny_assign_Name (store_ok2 (v := V.ref L) I1 hN hy (.inl hyl) rfl (fun u I2 ⟨b, sb, hb⟩ => ?_) (.inr hyl))
  have ne : C ≠ b := hb.elim (fun z => by rw [z]; exact e1) fun z w => e4 y b z w.symm
  exact ⟨m, hn.sameBut sb ne, fun h3 sb3 => ⟨_, H1, I2.turned (t' := u.toks) (fun c o hcb e => (sb3.2 c hcb).trans e) e0 e1 e3 e4 e5, q⟩⟩⟩
end
/-- the values ys, one by one, are what R says of the data ls -/
def AllAt {α : Type} (R : Hp → V → α → Prop) (H : Hp) (ys : List V) (ls : List α) : Prop := ys.length = ls.length ∧ ∀ (i : Nat) l, ls[i]? = some l → ∃ y, ys[i]? = some y ∧ R H y l
section
variable {α : Type} {R : Hp → V → α → Prop} {H H' : Hp} {ys : List V} {ls : List α}
theorem AllAt.same (m : ∀ {H H' : Hp} {x : V} {t : α}, Same H H' → R H x t → R H' x t) (e : Same H H') (h : AllAt R H ys ls) : AllAt R H' ys ls :=
  ⟨h.1, fun i l hl => let ⟨y, h1, h2⟩ := h.2 i l hl; ⟨y, h1, m e h2⟩⟩
theorem AllAt.nil : AllAt R H [] [] := ⟨rfl, fun i l hl => by simp at hl⟩
theorem AllAt.add (h : AllAt R H ys ls) {y : V} {l : α} (r : R H y l) : AllAt R H (ys ++ [y]) (ls ++ [l]) := by
  refine ⟨by rw [List.length_append, List.length_append, h.1]; rfl, fun i k hk => ?_⟩
  rw [List.getElem?_append] at hk ⊢
  rw [h.1]
  by_cases hi : i < ls.length
  · rw [if_pos hi] at hk ⊢
    exact h.2 i k hk
  · rw [if_neg hi] at hk ⊢
    obtain ⟨e1, e2⟩ := List.getElem?_eq_some_iff.mp hk
    have e3 : i - ls.length = 0 := by simpa using e1
    rw [e3] at hk ⊢
    cases hk
    exact ⟨y, rfl, r⟩
theorem AllAt.get (h : AllAt R H ys ls) {i : Nat} {y : V} (hy : ys[i]? = some y) : ∃ l, ls[i]? = some l ∧ R H y l := by
  have hi := (List.getElem?_eq_some_iff.mp hy).1
  have hi2 : i < ls.length := by
    rw [← h.1]
    exact hi
  have hl : ls[i]? = some ls[i] := List.getElem?_eq_getElem hi2
  obtain ⟨y2, h1, h2⟩ := h.2 i _ hl
  rw [hy] at h1
  cases h1
  exact ⟨_, hl, h2⟩
end
theorem AllAt.imp {α : Type} {R S : Hp → V → α → Prop} {H H' : Hp} {ys : List V} {ls : List α} (h : AllAt R H ys ls) (f : ∀ y l, R H y l → S H' y l) : AllAt S H' ys ls :=
  ⟨h.1, fun i l hl => let ⟨y, h1, h2⟩ := h.2 i l hl; ⟨y, h1, f _ _ h2⟩⟩
theorem sqt_put {K : PySem.W.Frag} {H : Hp} {D a : Addr} {zs xs : List V} {o : HO} (hD : H D = some (.lst zs)) (h : SqT K H a xs) : SqT K (upd H D o) a xs := by
  rcases h with (h | ⟨u, h⟩) | h
  · refine .inl (.inl ?_)
    rw [upd_ne (fun e => by rw [e, hD] at h; cases h)]
    exact h
  · refine .inl (.inr ⟨u, ?_⟩)
    rw [upd_ne (fun e => by rw [e, hD] at h; cases h)]
    exact h
  · exact .inr h
/-- one turn of a comprehension whose items are ys -/
theorem acc_to {ys : List V} {D : Addr} {H1 H4 : Hp} {i : Nat} {y : V} (nD : H1 D = none) (sm : Same H1 H4) (hD : H4 D = some (.lst (ys.take i))) (hy : ys[i]? = some y) (hz : ys.length ≤ 100000) :
    ∃ acc, H4 D = some (.lst acc) ∧ acc.length < sizeLine ∧ (Same H1 (upd H4 D (.lst (acc ++ [y]))) ∧ upd H4 D (.lst (acc ++ [y])) D = some (.lst (ys.take (i + 1)))) := by
  have hi := (List.getElem?_eq_some_iff.mp hy).1
  refine ⟨_, hD, ?_, same_put sm nD, ?_⟩
  · rw [List.length_take]
    exact szl (by omega)
  · rw [upd_same, List.take_add_one, hy]
    rfl
theorem acc_all {ys : List V} {D : Addr} {H : Hp} {n : Nat} (hn : n = ys.length) (h : H D = some (.lst (ys.take n))) : H D = some (.lst ys) := by
  rw [h, hn, List.take_of_length_le (Nat.le_refl _)]
/-! ### names, panels -/
/-- a comprehension into a dict over what is walked -/
theorem dc_it {J : It} {n : Nat} {G : Hp → Prop} {Y : Nat → Hp → V → Hp → Prop} (w : L2.Walk J n G Y) {g : TG} {tt : TT} {tk tv : TE} {vs : List Nat} {σ : L2.St} {H1 : Hp} {D : Addr} {Qd : Hp → Prop} (Pv : Nat → Hp → Prop) (h0 : Pv 0 (upd H1 D (.dK []))) (hG : ∀ i H, i ≤ n → Pv i H → G H)
    (hs : ∀ i x H H', i < n → Pv i H → Y i H x H' → g x (wipe σ vs) H' fun σ2 H2 => wipe σ2 vs = wipe σ vs ∧ tt σ2 H2 fun b H3 =>
      if b = true then tk σ2 H3 fun y H4 => tv σ2 H4 fun z H5 => ∃ kvs k, y = kV k ∧ H5 D = some (.dK kvs) ∧ kvs.length < sizeLine ∧ Pv (i + 1) (upd H5 D (.dK (putK kvs k z))) else Pv (i + 1) H3) (hd : ∀ H, Pv n H → Qd H) :
    ∃ W : Nat → Nat → Hp → Prop, (∃ m, W 0 m (upd H1 D (.dK []))) ∧ ∀ i m H, W i m H →
      (J.stop i H ∧ Qd H) ∨ (J.go i H ∧ ∃ Nx : Hp → Prop, (∀ H', Nx H' → ∃ m', m' < m ∧ W (i + 1) m' H') ∧ ∀ x H', J.yld i H x H' → g x (wipe σ vs) H' fun σ2 H2 => wipe σ2 vs = wipe σ vs ∧ tt σ2 H2 fun b H3 =>
        if b = true then tk σ2 H3 fun y H4 => tv σ2 H4 fun z H5 => ∃ kvs k, y = kV k ∧ H5 D = some (.dK kvs) ∧ kvs.length < sizeLine ∧ Nx (upd H5 D (.dK (putK kvs k z))) else Nx H3) := by
  refine ⟨fun i m H => m = n - i ∧ i ≤ n ∧ Pv i H, ⟨n, by simp, Nat.zero_le _, h0⟩, ?_⟩
  rintro i m H ⟨rfl, hi, p⟩
  have q := hG i H hi p
  by_cases hlt : i < n
  · exact .inr ⟨w.goes i H hlt q, Pv (i + 1), fun H' p' => ⟨n - (i + 1), by omega, rfl, hlt, p'⟩, fun x H' y => hs i x H H' hlt p (w.yields i H x H' hlt q y)⟩
  · have e : i = n := by omega
    subst e
    exact .inl ⟨w.stops H q, hd H p⟩
def lets : List Nat := ("abcdefghijklmnopqrstuvwxyz" : Str).cps.toList
/-- a name's text -/
def isNm (z : Str) : Bool := (decide (1 ≤ z.length) && decide (z.length ≤ 12)) && z.cps.toList.all fun c => decide (c ∈ lets)
/-- no text -/
def NoStr (K : PySem.W.Frag) (H : Hp) (x : V) : Prop := ∃ t, TyX K H x t ∧ PySem.W.kitOne K t (.type "str") = some false
def IsName (x : V) : Prop := ∃ z, x = .str z ∧ z.length ≤ 1000 ∧ isNm z = true
def NoName (K : PySem.W.Frag) (H : Hp) (x : V) : Prop := (∃ z, x = .str z ∧ z.length ≤ 1000 ∧ isNm z = false) ∨ NoStr K H x
def sp_is_name (K : PySem.W.Frag) : Sp := fun vs H Q _ => ∃ x : V, vs = [x] ∧ ((IsName x ∧ ∀ H', Same H H' → Q (.bl true) H') ∨ (NoName K H x ∧ ∀ H', Same H H' → Q (.bl false) H'))
def sp_check_name (K : PySem.W.Frag) (C : Addr) : Sp := fun vs H Q E => ∃ x : V, vs = [x] ∧ ((IsName x ∧ ∀ H', Same H H' → Q .non H') ∨ (NoName K H x ∧ ∀ H', Same H H' → E (.ref C) none H'))
theorem inV_str {z : Str} {ys : List Str} : inV (.str z) (ys.map V.str) = decide (z ∈ ys) := by
  unfold inV
  rw [List.any_map]
  by_cases h : z ∈ ys
  · rw [decide_eq_true h, List.any_eq_true]
    exact ⟨z, h, by simp [eqV]⟩
  · rw [decide_eq_false h, List.any_eq_false]
    intro y hy e
    refine h ?_
    have e2 : y = z := by simpa [eqV] using e
    rw [← e2]
    exact hy
theorem flat_strs (ys : List Str) : (ys.map V.str).all flatV = true := by
  rw [List.all_map, List.all_eq_true]
  intro y _
  rfl
def sp_check_known (K : PySem.W.Frag) (C : Addr) : Sp := fun vs H Q E => ∃ (z : Str) (a : Addr) (ys : List Str), vs = [.str z, .ref a] ∧ SqT K H a (ys.map V.str) ∧
  ((z ∈ ys ∧ Q .non H) ∨ (z ∉ ys ∧ ∀ d, H d = none → E (.ref C) (some d) (upd H d (.xd [("name", .str z)]))))
def sp_check_new_name (K : PySem.W.Frag) (CB CM CT : Addr) : Sp := fun vs H Q E => ∃ (x : V) (a : Addr) (ys : List Str) (n : Int), vs = [x, .ref a, .int n] ∧ SqT K H a (ys.map V.str) ∧
  ((NoName K H x ∧ ∀ H', Same H H' → E (.ref CB) none H') ∨ ∃ z, x = .str z ∧ IsName x ∧
    (((n ≤ (ys.length : Int)) ∧ ∀ H', Same H H' → E (.ref CM) none H') ∨ (¬ (n ≤ (ys.length : Int)) ∧ z ∈ ys ∧ ∀ H' d, Same H H' → H' d = some (.xd [("name", .str z)]) → E (.ref CT) (some d) H') ∨
      (¬ (n ≤ (ys.length : Int)) ∧ z ∉ ys ∧ ∀ H', Same H H' → Q .non H')))
/-! a panel's entries -/
def optV : Option Str → V
  | none => .non
  | some z => .str z
def EntOk (e : Option Str × Int) : Prop := (∀ z, e.1 = some z → isNm z = true ∧ z.length ≤ 1000) ∧ 1 ≤ e.2 ∧ e.2 ≤ 100
def EntAt (K : PySem.W.Frag) (H : Hp) (x : V) (e : Option Str × Int) : Prop := ∃ a, x = .ref a ∧ SqT K H a [optV e.1, .int e.2]
def BadEnt (K : PySem.W.Frag) (H : Hp) (x : V) : Prop := (∃ t, TyX K H x t ∧ PySem.W.kitOne K t (.type "tuple") = some false) ∨
  ∃ (a : Addr) (xs : List V), x = .ref a ∧ SqT K H a xs ∧ xs.length ≤ 1000 ∧ (xs.length ≠ 2 ∨ ∃ p s, xs = [p, s] ∧ flatV s = true ∧ ((p ≠ .non ∧ NoName K H p) ∨ ((p = .non ∨ IsName p) ∧ btw s 1 100 = false)))
def sp_is_entry (K : PySem.W.Frag) : Sp := fun vs H Q _ => ∃ x : V, vs = [x] ∧ ((∃ e, EntAt K H x e ∧ EntOk e ∧ ∀ H', Same H H' → Q (.bl true) H') ∨ (BadEnt K H x ∧ ∀ H', Same H H' → Q (.bl false) H'))
theorem tyx_same' {K : PySem.W.Frag} {H H' : Hp} {x : V} {t : Value} (e : Same H H') (h : TyX K H x t) : TyX K H' x t := by
  cases h with
  | base b =>
    refine .base ?_
    cases b with
    | non => exact .non
    | bl y => exact .bl y
    | int i => exact .int i
    | str y => exact .str y
    | flt y => exact .flt y
    | lst ea => exact .lst (e _ _ ea)
    | frz ea => exact .frz (e _ _ ea)
    | tup ea => exact .tup (e _ _ ea)
    | dK ea => exact .dK (e _ _ ea)
    | dT ea => exact .dT (e _ _ ea)
    | ins ea cl ha hn htk hm => exact .ins (e _ _ ea) cl ha hn htk hm
  | byt b => exact .byt b
  | set ea => exact .set (e _ _ ea)
  | kList k c => exact .kList k c
  | kTuple k c => exact .kTuple k c
  | kDict k c => exact .kDict k c
  | fTuple ea => exact .fTuple (e _ _ ea)
  | fDict ea => exact .fDict (e _ _ ea)
theorem NoName.same {K : PySem.W.Frag} {H H' : Hp} {x : V} (e : Same H H') (h : NoName K H x) : NoName K H' x := by
  rcases h with h | ⟨t, ty, k⟩
  · exact .inl h
  · exact .inr ⟨t, tyx_same' e ty, k⟩
theorem EntAt.same {K : PySem.W.Frag} {H H' : Hp} {x : V} {p : Option Str × Int} (e : Same H H') (h : EntAt K H x p) : EntAt K H' x p := by
  obtain ⟨a, rfl, hS⟩ := h
  exact ⟨a, rfl, same_sqt e hS⟩
theorem BadEnt.same {K : PySem.W.Frag} {H H' : Hp} {x : V} (e : Same H H') (h : BadEnt K H x) : BadEnt K H' x := by
  rcases h with ⟨t, ty, k⟩ | ⟨a, xs, rfl, hS, hl, h⟩
  · exact .inl ⟨t, tyx_same' e ty, k⟩
  · refine .inr ⟨a, xs, rfl, same_sqt e hS, hl, ?_⟩
    rcases h with h | ⟨p, s, rfl, fs, h⟩
    · exact .inl h
    · refine .inr ⟨p, s, rfl, fs, ?_⟩
      rcases h with ⟨np, h⟩ | h
      · exact .inl ⟨np, NoName.same e h⟩
      · exact .inr h
/-! panels -/
def PanAt (K : PySem.W.Frag) (H : Hp) (x : V) (ps : List (Option Str × Int)) : Prop := ∃ (a : Addr) (xs : List V), x = .ref a ∧ SqT K H a xs ∧ xs.length = ps.length ∧ ∀ (i : Nat) e, ps[i]? = some e → ∃ y, xs[i]? = some y ∧ EntAt K H y e
structure PanOk (ps : List (Option Str × Int)) : Prop where
  lo : 1 ≤ ps.length
  hi : ps.length ≤ 6
  ent : ∀ e ∈ ps, EntOk e
  sum : (ps.map (·.2)).sum ≤ 100
theorem PanAt.same {K : PySem.W.Frag} {H H' : Hp} {x : V} {ps : List (Option Str × Int)} (e : Same H H') (h : PanAt K H x ps) : PanAt K H' x ps := by
  obtain ⟨a, xs, rfl, hS, hl, h⟩ := h
  refine ⟨a, xs, rfl, same_sqt e hS, hl, fun i p hp => ?_⟩
  obtain ⟨y, h1, h2⟩ := h i p hp
  exact ⟨y, h1, EntAt.same e h2⟩
def NoPan (K : PySem.W.Frag) (H : Hp) (x : V) : Prop := (∃ t, TyX K H x t ∧ PySem.W.kitOne K t (.type "tuple") = some false) ∨
  (∃ (a : Addr) (xs : List V) (bs : List Bool), x = .ref a ∧ SqT K H a xs ∧ xs.length ≤ 1000 ∧ (xs.length = 0 ∨ 6 < xs.length ∨
    (bs.length = xs.length ∧ bs.all id = false ∧ ∀ (i : Nat) y b, xs[i]? = some y → bs[i]? = some b → (b = true ∧ ∃ e, EntAt K H y e ∧ EntOk e) ∨ (b = false ∧ BadEnt K H y)))) ∨
  ∃ ps : List (Option Str × Int), PanAt K H x ps ∧ 1 ≤ ps.length ∧ ps.length ≤ 6 ∧ (∀ e ∈ ps, EntOk e) ∧ 100 < (ps.map (·.2)).sum
def sp_is_panel (K : PySem.W.Frag) : Sp := fun vs H Q _ => ∃ x : V, vs = [x] ∧ ((∃ ps, PanAt K H x ps ∧ PanOk ps ∧ ∀ H', Same H H' → Q (.bl true) H') ∨ (NoPan K H x ∧ ∀ H', Same H H' → Q (.bl false) H'))
def sp_check_panel (K : PySem.W.Frag) (C : Addr) : Sp := fun vs H Q E => ∃ x : V, vs = [x] ∧ ((∃ ps, PanAt K H x ps ∧ PanOk ps ∧ ∀ H', Same H H' → Q .non H') ∨ (NoPan K H x ∧ ∀ H', Same H H' → E (.ref C) none H'))
/-- a panel's entries, one by one -/
def Cls6 (K : PySem.W.Frag) (H : Hp) (xs : List V) (bs : List Bool) : Prop := bs.length = xs.length ∧ ∀ (i : Nat) y b, xs[i]? = some y → bs[i]? = some b → (b = true ∧ ∃ e, EntAt K H y e ∧ EntOk e) ∨ (b = false ∧ BadEnt K H y)
theorem cls_good {K : PySem.W.Frag} {H : Hp} {xs : List V} {ps : List (Option Str × Int)} (hl : xs.length = ps.length) (hE : ∀ (i : Nat) e, ps[i]? = some e → ∃ y, xs[i]? = some y ∧ EntAt K H y e) (hok : ∀ e ∈ ps, EntOk e) :
    Cls6 K H xs (ps.map fun _ => true) ∧ (ps.map fun _ => true).all id = true ∧ (ps.map (·.2)).length = xs.length ∧ ∀ (i : Nat) y, xs[i]? = some y → ∃ b p n, y = .ref b ∧ SqT K H b [p, .int n] ∧ (ps.map (·.2))[i]? = some n := by
  have key : ∀ (i : Nat) y, xs[i]? = some y → ∃ e, ps[i]? = some e ∧ EntAt K H y e := fun i y hy => by
    have hi := (List.getElem?_eq_some_iff.mp hy).1
    have he : ps[i]? = some ps[i] := List.getElem?_eq_getElem (by omega)
    obtain ⟨y2, h1, h2⟩ := hE i _ he
    rw [hy] at h1
    cases h1
    exact ⟨_, he, h2⟩
  refine ⟨⟨by rw [List.length_map, hl], fun i y b hy hb => ?_⟩, ?_, by rw [List.length_map, hl], fun i y hy => ?_⟩
  · obtain ⟨e, he, hA⟩ := key i y hy
    rw [List.getElem?_map, he] at hb
    cases hb
    exact .inl ⟨rfl, e, hA, hok e (List.mem_of_getElem? he)⟩
  · rw [List.all_map, List.all_eq_true]
    intro e _
    rfl
  · obtain ⟨e, he, a, rfl, hS⟩ := key i y hy
    exact ⟨a, _, _, rfl, hS, by rw [List.getElem?_map, he]; rfl⟩
/-! ### treaties -/
structure Trt where
  ced : Str
  cov : Cov
  pan : List (Option Str × Int)
  ended : Bool
structure TrtOk (t : Trt) : Prop where
  c : CvOk t.cov
  p : PanOk t.pan
def TrAt (K : PySem.W.Frag) (H : Hp) (x : V) (t : Trt) : Prop := ∃ (a vc : Addr) (vp : V), x = .ref a ∧ SqT K H a [.str t.ced, .ref vc, vp, .bl t.ended] ∧ SqT K H vc (cvV t.cov) ∧ PanAt K H vp t.pan
theorem TrAt.same {K : PySem.W.Frag} {H H' : Hp} {x : V} {t : Trt} (e : Same H H') (h : TrAt K H x t) : TrAt K H' x t := by
  obtain ⟨a, vc, vp, rfl, h1, h2, h3⟩ := h
  exact ⟨a, vc, vp, rfl, same_sqt e h1, same_sqt e h2, PanAt.same e h3⟩
def TrsAt (K : PySem.W.Frag) (H : Hp) (a : Addr) (ts : List Trt) : Prop := ∃ xs, SqT K H a xs ∧ AllAt (TrAt K) H xs ts
theorem TrsAt.same {K : PySem.W.Frag} {H H' : Hp} {a : Addr} {ts : List Trt} (e : Same H H') (h : TrsAt K H a ts) : TrsAt K H' a ts :=
  let ⟨xs, h1, h2⟩ := h; ⟨xs, same_sqt e h1, AllAt.same (R := TrAt K) (fun e r => TrAt.same e r) e h2⟩
/-- a cedent's covers that have not ended, each with its number -/
def actv (ced : Str) : Nat → List Trt → List (Nat × Cov)
  | _, [] => []
  | n, t :: r => if (decide (t.ced = ced) && !t.ended) = true then (n, t.cov) :: actv ced (n + 1) r else actv ced (n + 1) r
theorem actv_len (ced : Str) : ∀ (n : Nat) (ts : List Trt), (actv ced n ts).length ≤ ts.length
  | _, [] => Nat.le_refl _
  | n, t :: r => by
    have ih := actv_len ced (n + 1) r
    unfold actv
    split
    · rw [List.length_cons, List.length_cons]
      omega
    · rw [List.length_cons]
      omega
theorem actv_step {ced : Str} {ts : List Trt} {i : Nat} {t : Trt} (h : ts[i]? = some t) : actv ced i (ts.drop i) = if (decide (t.ced = ced) && !t.ended) = true then (i, t.cov) :: actv ced (i + 1) (ts.drop (i + 1)) else actv ced (i + 1) (ts.drop (i + 1)) := by
  obtain ⟨h1, h2⟩ := List.getElem?_eq_some_iff.mp h
  rw [List.drop_eq_getElem_cons h1, h2]
  rfl
theorem actv_ok {ced : Str} : ∀ {n : Nat} {ts : List Trt}, (∀ t ∈ ts, CvOk t.cov) → ∀ p ∈ actv ced n ts, CvOk p.2 ∧ p.1 < n + ts.length
  | n, [], _, p, hp => nomatch hp
  | n, t :: r, h, p, hp => by
    have ih := actv_ok (ced := ced) (n := n + 1) (ts := r) fun u hu => h u (List.mem_cons_of_mem _ hu)
    unfold actv at hp
    rw [List.length_cons]
    split at hp
    · rcases List.mem_cons.mp hp with rfl | hp
      · exact ⟨h t List.mem_cons_self, by show n < n + (r.length + 1); omega⟩
      · have := ih p hp
        exact ⟨this.1, by omega⟩
    · have := ih p hp
      exact ⟨this.1, by omega⟩
def ActAt (K : PySem.W.Frag) (H : Hp) (y : V) (p : Nat × Cov) : Prop := ∃ b vc : Addr, y = .ref b ∧ SqT K H b [.int (p.1 : Nat), .ref vc] ∧ SqT K H vc (cvV p.2)
theorem ActAt.same {K : PySem.W.Frag} {H H' : Hp} {x : V} {t : Nat × Cov} (e : Same H H') (h : ActAt K H x t) : ActAt K H' x t := by
  obtain ⟨b, vc, rfl, h1, h2⟩ := h
  exact ⟨b, vc, rfl, same_sqt e h1, same_sqt e h2⟩
theorem ActAt.put {K : PySem.W.Frag} {H : Hp} {D : Addr} {zs : List V} {o : HO} {y : V} {p : Nat × Cov} (hD : H D = some (.lst zs)) (h : ActAt K H y p) : ActAt K (upd H D o) y p := by
  obtain ⟨b, vc, rfl, h1, h2⟩ := h
  exact ⟨b, vc, rfl, sqt_put hD h1, sqt_put hD h2⟩
def sp_active_covers (K : PySem.W.Frag) : Sp := fun vs H Q _ => ∃ (a : Addr) (ts : List Trt) (ced : Str), vs = [.ref a, .str ced] ∧ TrsAt K H a ts ∧ ts.length ≤ 1000 ∧
  ∀ (o : Addr) (H' : Hp) (ys : List V), Same H H' → H' o = some (.lst ys) → AllAt (ActAt K) H' ys (actv ced 0 ts) → Q (.ref o) H'
/-! ### what a treaty pays: one cedent's programme -/
def cedeP (ced : Str) (ts : List Trt) (x : Int) : List Int × Int := prog ((actv ced 0 ts).map (·.2)) x
def pairsK (ns : List Nat) (as : List Int) : List (Key × V) := (ns.zip as).map fun p => (.inl (p.1 : Int), .int p.2)
def sp_cede (K : PySem.W.Frag) : Sp := fun vs H Q _ => ∃ (a : Addr) (ts : List Trt) (ced : Str) (x : Int), vs = [.ref a, .str ced, .int x] ∧ TrsAt K H a ts ∧ ts.length ≤ 1000 ∧ (∀ t ∈ ts, CvOk t.cov) ∧
  ∀ (p d : Addr) (H' : Hp), Same H H' → H d = none → H' d = some (.dK (pairsK ((actv ced 0 ts).map (·.1)) (cedeP ced ts x).1)) → H' p = some (.tup [.ref d, .int (cedeP ced ts x).2]) → Q (.ref p) H'
theorem pick {α : Type} {R : V → α → V → Prop} : ∀ {ys : List V} {ls : List α}, ys.length = ls.length → (∀ (i : Nat) l, ls[i]? = some l → ∃ y, ys[i]? = some y ∧ ∃ z, R y l z) →
    ∃ zs : List V, zs.length = ls.length ∧ ∀ (i : Nat) l, ls[i]? = some l → ∃ y z, ys[i]? = some y ∧ zs[i]? = some z ∧ R y l z
  | [], [], _, _ => ⟨[], rfl, fun i l hl => by simp at hl⟩
  | [], _ :: _, h, _ => by cases h
  | _ :: _, [], h, _ => by cases h
  | y :: ys, l :: ls, h, k => by
    obtain ⟨y0, e0, z, r⟩ := k 0 l rfl
    cases e0
    obtain ⟨zs, hz, k2⟩ := pick (R := R) (ys := ys) (ls := ls) (Nat.succ.inj h) fun i m hm => k (i + 1) m hm
    refine ⟨z :: zs, congrArg Nat.succ hz, fun i m hm => ?_⟩
    cases i with
    | zero =>
      cases hm
      exact ⟨y, z, rfl, rfl, r⟩
    | succ i => exact k2 i m hm
theorem actv_ge {ced : Str} : ∀ {n : Nat} {ts : List Trt}, ∀ p ∈ actv ced n ts, n ≤ p.1
  | n, [], p, hp => nomatch hp
  | n, t :: r, p, hp => by
    have ih := actv_ge (ced := ced) (n := n + 1) (ts := r)
    unfold actv at hp
    split at hp
    · rcases List.mem_cons.mp hp with rfl | hp
      · exact Nat.le_refl _
      · have := ih p hp
        omega
    · have := ih p hp
      omega
theorem actv_up {ced : Str} : ∀ {n : Nat} {ts : List Trt}, ((actv ced n ts).map (·.1)).Pairwise (· < ·)
  | n, [] => .nil
  | n, t :: r => by
    have ih := actv_up (ced := ced) (n := n + 1) (ts := r)
    unfold actv
    split
    · rw [List.map_cons, List.pairwise_cons]
      refine ⟨fun m hm => ?_, ih⟩
      obtain ⟨p, hp, rfl⟩ := List.mem_map.mp hm
      have := actv_ge p hp
      show n < p.1
      omega
    · exact ih
theorem putK_new {kvs : List (Key × V)} {k : Key} {v : V} (h : ∀ p ∈ kvs, p.1 ≠ k) : putK kvs k v = kvs ++ [(k, v)] := by
  unfold putK
  rw [if_neg]
  intro e
  obtain ⟨p, hp, e2⟩ := List.any_eq_true.mp e
  exact h p hp (of_decide_eq_true e2)
theorem pairsK_get {ns : List Nat} {as : List Int} {i n : Nat} {a : Int} (h1 : ns[i]? = some n) (h2 : as[i]? = some a) : (pairsK ns as)[i]? = some (.inl (n : Int), .int a) := by
  unfold pairsK
  have e : (ns.zip as)[i]? = some (n, a) := List.getElem?_zip_eq_some.mpr ⟨h1, h2⟩
  rw [List.getElem?_map, e]
  rfl
theorem pairsK_new {ns : List Nat} {as : List Int} (hp : ns.Pairwise (· < ·)) {i n : Nat} (h : ns[i]? = some n) : ∀ p ∈ (pairsK ns as).take i, p.1 ≠ .inl (n : Int) := by
  intro p hp2 e
  obtain ⟨j, hj⟩ := List.getElem?_of_mem hp2
  rw [List.getElem?_take] at hj
  split at hj
  · rename_i hji
    unfold pairsK at hj
    rw [List.getElem?_map] at hj
    cases hz : (ns.zip as)[j]? with
    | none =>
      rw [hz] at hj
      cases hj
    | some q =>
      rw [hz] at hj
      obtain ⟨z1, z2⟩ := List.getElem?_zip_eq_some.mp hz
      cases hj
      obtain ⟨g1, g2⟩ := List.getElem?_eq_some_iff.mp h
      obtain ⟨g3, g4⟩ := List.getElem?_eq_some_iff.mp z1
      have := List.pairwise_iff_getElem.mp hp j i g3 g1 hji
      have e3 : ((q.1 : Nat) : Int) = (n : Int) := Sum.inl.inj e
      omega
  · cases hj
/-! ### all payments of a round -/
def putP (ps : List Int) : List (Nat × Int) → List Int
  | [] => ps
  | p :: r => putP (ps.set p.1 p.2) r
theorem putP_len : ∀ (ps : List Int) (l : List (Nat × Int)), (putP ps l).length = ps.length
  | _, [] => rfl
  | ps, p :: r => by
    unfold putP
    rw [putP_len, List.length_set]
def payP (ts : List Trt) : List (Str × Int) → List Int → List Int
  | [], ps => ps
  | (c, x) :: r, ps => payP ts r (putP ps (((actv c 0 ts).map (·.1)).zip (cedeP c ts x).1))
/-- what each treaty pays -/
def tpay (ts : List Trt) (ins : List Str) (gross : List Int) : List Int := payP ts (ins.zip gross) (List.replicate ts.length 0)
theorem putP_add (ps : List Int) : ∀ (l : List (Nat × Int)) (p : Nat × Int), putP ps (l ++ [p]) = (putP ps l).set p.1 p.2 := fun l => by
  induction l generalizing ps with
  | nil => intro p; rfl
  | cons q r ih => intro p; exact ih _ p
theorem payP_len (ts : List Trt) : ∀ (l : List (Str × Int)) (ps : List Int), (payP ts l ps).length = ps.length
  | [], _ => rfl
  | (c, x) :: r, ps => by
    unfold payP
    rw [payP_len ts r, putP_len]
theorem payP_add (ts : List Trt) : ∀ (l : List (Str × Int)) (ps : List Int) (c : Str) (x : Int), payP ts (l ++ [(c, x)]) ps = putP (payP ts l ps) (((actv c 0 ts).map (·.1)).zip (cedeP c ts x).1)
  | [], _, _, _ => rfl
  | (d, y) :: r, ps, c, x => payP_add ts r _ c x
theorem ixN_n {n j : Nat} (hj : j < n) : ixN n (j : Int) = some j := by
  unfold ixN
  rw [if_pos (by omega), if_pos (by omega)]
  simp
theorem rep0 (n : Nat) : (List.replicate n [V.int 0]).flatten = (List.replicate n (0 : Int)).map V.int := by
  induction n with
  | zero => rfl
  | succ n ih =>
    rw [List.replicate_succ, List.flatten_cons, ih, List.replicate_succ]
    rfl
/-- all but p and d stands -/
def Bar2 (p d : Addr) (H H' : Hp) : Prop := ∀ b u, b ≠ p → b ≠ d → H b = some u → H' b = some u
def sp_treaty_payments (K : PySem.W.Frag) : Sp := fun vs H Q _ => ∃ (a b c : Addr) (ins : List Str) (ts : List Trt) (gross : List Int), vs = [.ref a, .ref b, .ref c] ∧ SqT K H a (ins.map V.str) ∧ TrsAt K H b ts ∧ ts.length ≤ 1000 ∧ (∀ t ∈ ts, CvOk t.cov) ∧ SqT K H c (gross.map V.int) ∧
  ∀ (p : Addr) (H' : Hp), Same H H' → H p = none → H' p = some (.tup ((tpay ts ins gross).map V.int)) → Q (.ref p) H'
/-! ### parts, gross losses -/
def shs (ps : List (Option Str × Int)) : List Int := ps.map (·.2)
theorem PanAt.ent {K : PySem.W.Frag} {H : Hp} {x : V} {ps : List (Option Str × Int)} (h : PanAt K H x ps) : ∃ (a : Addr) (xs : List V), x = .ref a ∧ SqT K H a xs ∧ xs.length = ps.length ∧
    ∀ (i : Nat) y, xs[i]? = some y → ∃ e b, ps[i]? = some e ∧ y = .ref b ∧ SqT K H b [optV e.1, .int e.2] := by
  obtain ⟨a, xs, rfl, hS, hl, hE⟩ := h
  refine ⟨a, xs, rfl, hS, hl, fun i y hy => ?_⟩
  have hi := (List.getElem?_eq_some_iff.mp hy).1
  have he : ps[i]? = some ps[i] := List.getElem?_eq_getElem (by omega)
  obtain ⟨y2, h1, b, rfl, h2⟩ := hE i _ he
  rw [hy] at h1
  cases h1
  exact ⟨_, b, he, rfl, h2⟩
theorem shs_pos {ps : List (Option Str × Int)} (h : PanOk ps) : Pos (shs ps) := fun s hs => by
  obtain ⟨e, he, rfl⟩ := List.mem_map.mp hs
  exact (h.ent e he).2.1
theorem shs_ne {ps : List (Option Str × Int)} (h : PanOk ps) : shs ps ≠ [] := fun e => by
  have h1 := h.lo
  have h2 : (shs ps).length = ps.length := List.length_map ..
  rw [e] at h2
  have h3 : 0 = ps.length := h2
  omega
def sp_panel_parts (K : PySem.W.Frag) : Sp := fun vs H Q _ => ∃ (x : V) (ps : List (Option Str × Int)) (m : Int), vs = [x, .int m] ∧ PanAt K H x ps ∧ PanOk ps ∧
  ∀ (p : Addr) (H' : Hp), Same H H' → H p = none → H' p = some (.tup ((alloc m (shs ps)).map V.int)) → Q (.ref p) H'
theorem of_at_str {ns : List Str} {j : Nat} {y : V} (h : (ns.map V.str)[j]? = some y) : ∃ v, y = V.str v ∧ ns[j]? = some v := by
  rw [List.getElem?_map] at h
  cases e : ns[j]? with
  | none =>
    rw [e] at h
    cases h
  | some v =>
    rw [e] at h
    exact ⟨v, (Option.some.inj h).symm, rfl⟩
def pairsS (ins : List Str) (ls : List Int) : List (Key × V) := (ins.zip ls).map fun p => (.inr p.1, .int p.2)
theorem pairsS_get {ins : List Str} {ls : List Int} {i : Nat} {z : Str} {x : Int} (h1 : ins[i]? = some z) (h2 : ls[i]? = some x) : (pairsS ins ls)[i]? = some (.inr z, .int x) := by
  have e : (ins.zip ls)[i]? = some (z, x) := List.getElem?_zip_eq_some.mpr ⟨h1, h2⟩
  unfold pairsS
  rw [List.getElem?_map, e]
  rfl
theorem pairsS_at {ins : List Str} {ls : List Int} {j : Nat} {p : Key × V} (h : (pairsS ins ls)[j]? = some p) : ∃ z x, ins[j]? = some z ∧ ls[j]? = some x ∧ p = (.inr z, .int x) := by
  unfold pairsS at h
  rw [List.getElem?_map] at h
  cases hz : (ins.zip ls)[j]? with
  | none =>
    rw [hz] at h
    cases h
  | some q =>
    rw [hz] at h
    obtain ⟨z1, z2⟩ := List.getElem?_zip_eq_some.mp hz
    exact ⟨_, _, z1, z2, (Option.some.inj h).symm⟩
theorem nodup_at {ins : List Str} (hn : ins.Nodup) {i j : Nat} {z : Str} (h1 : ins[i]? = some z) (h2 : ins[j]? = some z) : i = j := by
  obtain ⟨g1, g2⟩ := List.getElem?_eq_some_iff.mp h1
  obtain ⟨g3, g4⟩ := List.getElem?_eq_some_iff.mp h2
  have pw := List.pairwise_iff_getElem.mp hn
  by_cases e : i = j
  · exact e
  · by_cases l : i < j
    · exact absurd (g2.trans g4.symm) (pw i j g1 g3 l)
    · exact absurd (g4.trans g2.symm) (pw j i g3 g1 (by omega))
theorem pairsS_new {ins : List Str} {ls : List Int} (hn : ins.Nodup) {i : Nat} {z : Str} (h : ins[i]? = some z) : ∀ p ∈ (pairsS ins ls).take i, p.1 ≠ .inr z := by
  intro p hp e
  obtain ⟨j, hj⟩ := List.getElem?_of_mem hp
  rw [List.getElem?_take] at hj
  split at hj
  · rename_i hji
    obtain ⟨w, x, h1, h2, rfl⟩ := pairsS_at hj
    have e2 : w = z := Sum.inr.inj e
    subst e2
    have := nodup_at hn h h1
    omega
  · cases hj
theorem valV_mem {kvs : List (Key × V)} {k : Key} {v : V} {i : Nat} (h : kvs[i]? = some (k, v)) (u : ∀ (j : Nat) w, kvs[j]? = some (k, w) → j = i) : valV kvs k = some v := by
  induction kvs generalizing i with
  | nil => simp at h
  | cons p r ih =>
    by_cases e : p.1 = k
    · rw [valV_pos e]
      have h0 : (p :: r)[0]? = some (k, p.2) := by rw [← e]; rfl
      have := u 0 _ h0
      subst this
      cases h
      rfl
    · rw [valV_neg e]
      cases i with
      | zero =>
        cases h
        exact absurd rfl e
      | succ i => exact ih (i := i) h fun j w hj => Nat.succ.inj (u (j + 1) w hj)
theorem pairsS_val {ins : List Str} {ls : List Int} (hn : ins.Nodup) {i : Nat} {z : Str} {x : Int} (h1 : ins[i]? = some z) (h2 : ls[i]? = some x) : valV (pairsS ins ls) (.inr z) = some (.int x) := by
  refine valV_mem (pairsS_get h1 h2) fun j w hj => ?_
  obtain ⟨z2, x2, g1, g2, e⟩ := pairsS_at hj
  cases e
  exact nodup_at hn g1 h1
theorem pairsS_put {ins : List Str} {ls : List Int} (hn : ins.Nodup) {i : Nat} {z : Str} {x y : Int} (h1 : ins[i]? = some z) (h2 : ls[i]? = some x) : putK (pairsS ins ls) (.inr z) (.int y) = pairsS ins (ls.set i y) := by
  have ha : ((pairsS ins ls).any fun kv => decide (kv.1 = .inr z)) = true := List.any_eq_true.mpr ⟨_, List.mem_of_getElem? (pairsS_get h1 h2), decide_eq_true rfl⟩
  unfold putK
  rw [if_pos ha]
  apply List.ext_getElem?
  intro j
  rw [List.getElem?_map]
  cases hj : (pairsS ins ls)[j]? with
  | none =>
    have hl : (pairsS ins (ls.set i y)).length = (pairsS ins ls).length := by
      unfold pairsS
      rw [List.length_map, List.length_map, List.length_zip, List.length_zip, List.length_set]
    have := List.getElem?_eq_none_iff.mp hj
    rw [List.getElem?_eq_none (by omega)]
    rfl
  | some p =>
    obtain ⟨w, x2, g1, g2, rfl⟩ := pairsS_at hj
    by_cases e : w = z
    · subst e
      have := nodup_at hn g1 h1
      subst this
      have hlt := (List.getElem?_eq_some_iff.mp g2).1
      rw [pairsS_get g1 (by rw [List.getElem?_set_self hlt])]
      show some (if (Sum.inr w : Key) = .inr w then _ else _) = _
      rw [if_pos rfl]
    · have nij : i ≠ j := fun q => e (by subst q; rw [h1] at g1; exact (Option.some.inj g1).symm)
      rw [pairsS_get g1 (by rw [List.getElem?_set_ne nij]; exact g2)]
      show some (if (Sum.inr w : Key) = .inr z then _ else _) = _
      rw [if_neg (fun q => e (Sum.inr.inj q))]
/-- z's loss grows by p -/
def addAt : List Str → List Int → Str → Int → List Int
  | i :: r, x :: xs, z, p => if i = z then (x + p) :: xs else x :: addAt r xs z p
  | _, ls, _, _ => ls
theorem addAt_len : ∀ (ins : List Str) (ls : List Int) (z : Str) (p : Int), (addAt ins ls z p).length = ls.length
  | [], _, _, _ => rfl
  | _ :: _, [], _, _ => rfl
  | i :: r, x :: xs, z, p => by
    unfold addAt
    split
    · rfl
    · exact congrArg Nat.succ (addAt_len r xs z p)
theorem addAt_set {z : Str} {p : Int} : ∀ {ins : List Str} {ls : List Int} {i : Nat} {x : Int}, ins.Nodup → ins[i]? = some z → ls[i]? = some x → addAt ins ls z p = ls.set i (x + p)
  | [], _, _, _, _, h, _ => by simp at h
  | _ :: _, [], _, _, _, _, h => by simp at h
  | a :: r, y :: ys, 0, x, _, h1, h2 => by
    cases h1
    cases h2
    unfold addAt
    rw [if_pos rfl]
    rfl
  | a :: r, y :: ys, i + 1, x, hn, h1, h2 => by
    have hm : z ∈ r := List.mem_of_getElem? (show r[i]? = some z from h1)
    have ne : ¬ a = z := fun e => (List.nodup_cons.mp hn).1 (by rw [e]; exact hm)
    unfold addAt
    rw [if_neg ne, addAt_set (List.nodup_cons.mp hn).2 h1 h2]
    rfl
def addPan (ins : List Str) : List ((Option Str × Int) × Int) → List Int → List Int
  | [], ls => ls
  | ((none, _), _) :: r, ls => addPan ins r ls
  | ((some z, _), p) :: r, ls => addPan ins r (addAt ins ls z p)
theorem addPan_len (ins : List Str) : ∀ (l : List ((Option Str × Int) × Int)) (ls : List Int), (addPan ins l ls).length = ls.length
  | [], _ => rfl
  | ((none, _), _) :: r, ls => addPan_len ins r ls
  | ((some z, _), p) :: r, ls => (addPan_len ins r _).trans (addAt_len ..)
theorem addPan_add (ins : List Str) : ∀ (l : List ((Option Str × Int) × Int)) (ls : List Int) (e : (Option Str × Int) × Int), addPan ins (l ++ [e]) ls = addPan ins [e] (addPan ins l ls)
  | [], _, _ => rfl
  | ((none, _), _) :: r, ls, e => addPan_add ins r ls e
  | ((some z, _), p) :: r, ls, e => addPan_add ins r _ e
def addTrs (ins : List Str) : List (Trt × Int) → List Int → List Int
  | [], ls => ls
  | (t, m) :: r, ls => addTrs ins r (addPan ins (t.pan.zip (alloc m (shs t.pan))) ls)
theorem addTrs_len (ins : List Str) : ∀ (l : List (Trt × Int)) (ls : List Int), (addTrs ins l ls).length = ls.length
  | [], _ => rfl
  | (t, m) :: r, ls => (addTrs_len ins r _).trans (addPan_len ..)
theorem addTrs_add (ins : List Str) : ∀ (l : List (Trt × Int)) (ls : List Int) (t : Trt) (m : Int), addTrs ins (l ++ [(t, m)]) ls = addPan ins (t.pan.zip (alloc m (shs t.pan))) (addTrs ins l ls)
  | [], _, _, _ => rfl
  | (u, k) :: r, ls, t, m => addTrs_add ins r _ t m
/-- the gross losses of the round behind -/
def nextG (ins : List Str) (ts : List Trt) (ds gs : List Int) : List Int := addTrs ins (ts.zip (tpay ts ins gs)) ds
structure TrsOk (ins : List Str) (ts : List Trt) : Prop where
  nd : ins.Nodup
  ok : ∀ t ∈ ts, TrtOk t
  mem : ∀ t ∈ ts, ∀ e ∈ t.pan, ∀ z, e.1 = some z → z ∈ ins
  len : ts.length ≤ 1000
  few : ins.length ≤ 1000
def sp_next_gross (K : PySem.W.Frag) : Sp := fun vs H Q _ => ∃ (a b c d : Addr) (ins : List Str) (ts : List Trt) (ds gs : List Int), vs = [.ref a, .ref b, .ref c, .ref d] ∧ SqT K H a (ins.map V.str) ∧ TrsAt K H b ts ∧ TrsOk ins ts ∧ SqT K H c (ds.map V.int) ∧ ds.length = ins.length ∧ SqT K H d (gs.map V.int) ∧
  ∀ (p : Addr) (H' : Hp), Same H H' → H p = none → H' p = some (.tup ((nextG ins ts ds gs).map V.int)) → Q (.ref p) H'
/-! ### the rounds -/
def row (ins : List Str) (ts : List Trt) (ds : List Int) : Nat → List Int
  | 0 => ds
  | n + 1 => nextG ins ts ds (row ins ts ds n)
theorem row_len {ins : List Str} {ts : List Trt} {ds : List Int} (h : ds.length = ins.length) : ∀ n, (row ins ts ds n).length = ins.length
  | 0 => h
  | n + 1 => by
    show (nextG ins ts ds _).length = _
    unfold nextG
    rw [addTrs_len, h]
def RowR (K : PySem.W.Frag) (H : Hp) (y : V) (r : List Int) : Prop := ∃ b : Addr, y = .ref b ∧ SqT K H b (r.map V.int)
theorem RowR.same {K : PySem.W.Frag} {H H' : Hp} {y : V} {r : List Int} (e : Same H H') (h : RowR K H y r) : RowR K H' y r := by
  obtain ⟨b, rfl, h⟩ := h
  exact ⟨b, rfl, same_sqt e h⟩
theorem RowR.put {K : PySem.W.Frag} {H : Hp} {D : Addr} {zs : List V} {o : HO} {y : V} {r : List Int} (hD : H D = some (.lst zs)) (h : RowR K H y r) : RowR K (upd H D o) y r := by
  obtain ⟨b, rfl, h⟩ := h
  exact ⟨b, rfl, sqt_put hD h⟩
def RowsAt (K : PySem.W.Frag) (H : Hp) (p : Addr) (rs : List (List Int)) : Prop := ∃ xs, SqT K H p xs ∧ AllAt (RowR K) H xs rs
theorem lay_ints : ∀ ns : List Int, PyData.canLayAll0 (ns.map PyData.int) = true
  | [] => rfl
  | n :: r => by
    rw [List.map_cons]
    simp only [PyData.canLayAll0, PyData.canLay0, Bool.true_and]
    exact lay_ints r
theorem dep_ints : ∀ ns : List Int, PyData.depthAll (ns.map PyData.int) = 0
  | [] => rfl
  | n :: r => by
    rw [List.map_cons]
    simp only [PyData.depthAll, PyData.depth]
    rw [dep_ints r]
    rfl
theorem shp_ints (ns : List Int) : SeqAt.shaped (.tuple (ns.map PyData.int)) = true := by
  show (PyData.canLay0 (.tuple (ns.map PyData.int)) && decide (PyData.depth (.tuple (ns.map PyData.int)) ≤ 64)) = true
  rw [Bool.and_eq_true]
  refine ⟨?_, decide_eq_true ?_⟩
  · simp only [PyData.canLay0]
    exact lay_ints ns
  · simp only [PyData.depth]
    rw [dep_ints]
    decide
theorem eqv_ints : ∀ as bs : List Int, PyData.eqvAll (as.map PyData.int) (bs.map PyData.int) = decide (as = bs)
  | [], [] => rfl
  | [], _ :: _ => rfl
  | _ :: _, [] => rfl
  | a :: as, b :: bs => by
    rw [List.map_cons, List.map_cons]
    simp only [PyData.eqvAll, PyData.eqv]
    rw [eqv_ints as bs]
    by_cases h : a = b
    · subst h
      by_cases h2 : as = bs
      · subst h2
        simp
      · rw [decide_eq_false h2, decide_eq_false (fun e => h2 (List.cons.inj e).2)]
        simp
    · rw [decide_eq_false (fun e => h (List.cons.inj e).1)]
      have : (a == b) = false := by simpa using h
      rw [this]
      rfl
theorem eqv_tup (as bs : List Int) : PyData.eqv (.tuple (as.map PyData.int)) (.tuple (bs.map PyData.int)) = decide (as = bs) := by
  simp only [PyData.eqv]
  exact eqv_ints as bs
def big (r : List Int) : Bool := r.any fun x => decide (1000000000 < x)
def sp_rounds (K : PySem.W.Frag) (C : Addr) : Sp := fun vs H Q E => ∃ (a b c : Addr) (ins : List Str) (ts : List Trt) (ds : List Int), vs = [.ref a, .ref b, .ref c] ∧ SqT K H a (ins.map V.str) ∧ TrsAt K H b ts ∧ TrsOk ins ts ∧ SqT K H c (ds.map V.int) ∧ ds.length = ins.length ∧
  (∀ i, i ≤ 200 → row ins ts ds (i + 1) = row ins ts ds i → (∀ j, j < i → row ins ts ds (j + 1) ≠ row ins ts ds j) →
    (big (row ins ts ds i) = true → ∀ H', Same H H' → E (.ref C) none H') ∧ (big (row ins ts ds i) = false → ∀ p H', Same H H' → RowsAt K H' p ((List.range (i + 1)).map (row ins ts ds)) → Q (.ref p) H')) ∧
  ((∀ i, i ≤ 200 → row ins ts ds (i + 1) ≠ row ins ts ds i) → ∀ H', Same H H' → E (.ref C) none H')
/-! ### {k: v for ..} with keys that are tuples -/
section
variable {X : Cx}
/-- d[k] = v, the key a tuple that stands at b -/
theorem dt_store {pins : List (Addr × Obj)} {σ : L2.St} {H : Hp} {s : Shared} {E : Value → Shared → Prop} {D b : Addr} {kvs : List (List Key × V)} {k : List Key} {v : V} {r : Value} {Q : Unit → Shared → Prop} (hu : X.A.units + 1 < cLine) (I : Inv X pins σ H s) (e : H D = some (.dT kvs)) (eb : H b = some (.tup (k.map kV)))
    (l : kvs.length < sizeLine) (rv : RelV v r) (h : ∀ s', Inv X pins σ (upd H D (.dT (putK kvs k v))) s' → Q () s') : wpAny (model X.prog X.w) X.A (dictSet D (.ref b) r) Q E s := by
  obtain ⟨z, hd, xs, rel, dd⟩ := dt_of I.hok e
  have hz : xs.length ≤ sizeLine := by
    rw [← Paired.length rel]
    exact z
  have hl : (putK kvs k v).length ≤ sizeLine := by
    have := length_putK kvs k v
    omega
  refine wpAny_dictSet_heap (knd := tupleKind (mixKind X.prog X.w)) (hsz := hz) (Nat.lt_of_succ_lt hu) (key_of I.hok eb) dd fun h' dd' hs => h _ ?_
  obtain ⟨q, es, ep, hq, h2, h3, h4, _, h5⟩ := dd'
  refine d_write I (by rw [e]; exact True.intro) hs ⟨q, hq⟩ ⟨hl, hd, _, (rel.put k eb rv).keeps fun c ys ec => ?_, q, es, ep, hq, h2, h3, h4, h5⟩
  rw [upd_ne (ne_of ec e (fun z => nomatch z))]
  exact ec
def PutT (H : Hp) (D : Addr) (y z : V) (R : Hp → Prop) : Prop := ∃ (kvs : List (List Key × V)) (k : List Key) (b : Addr), y = .ref b ∧ H D = some (.dT kvs) ∧ H b = some (.tup (k.map kV)) ∧ kvs.length < sizeLine ∧ R (upd H D (.dT (putK kvs k z)))
def tDct (wi : TI) (g : TG) (tt : TT) (tk tv : TE) (vs : List Nat) : TE := fun σ H Q => wi σ H fun J H1 => ∀ D, H1 D = none → ∃ W : Nat → Nat → Hp → Prop, (∃ m, W 0 m (upd H1 D (.dT []))) ∧ ∀ i m H, W i m H →
  (J.stop i H ∧ Q (.ref D) H) ∨ (J.go i H ∧ ∃ Nx : Hp → Prop, (∀ H', Nx H' → ∃ m', m' < m ∧ W (i + 1) m' H') ∧ ∀ x H', J.yld i H x H' → g x (wipe σ vs) H' fun σ2 H2 => wipe σ2 vs = wipe σ vs ∧ tt σ2 H2 fun b H3 =>
    if b = true then tk σ2 H3 fun y H4 => tv σ2 H4 fun z H5 => PutT H5 D y z Nx else Nx H3)
variable {σ : L2.St} {H : Hp} {s : Shared} {Q : VK} {kx vx tg iter : Expr} {ifs : List Expr} {scope : Scope} {own : List (Str × Nat)} {pos spos py pos' : PySem.Pos} {wi : TI} {g : TG} {tt : TT} {tk tv : TE} {use : Option (Value → Sem Unit)} {Qf : Value → Shared → Prop}
theorem dct_core {pins : List (Addr × Obj)} (hu : X.A.units + 1 < cLine) (hc : X.calm = true) (hN : X.N.Nodup) (I : Inv X pins σ H s) (hi : PI X tg iter wi) (ok : BlkOk X.N X.env.scope scope own) (hg : Blks X scope fun B => PG B tg g) (ht : Blks X scope fun B => PTs B ifs tt) (hk : Blks X scope fun B => PE B kx tk) (he : Blks X scope fun B => PE B vx tv)
    (hs : ∀ x, foldedSetIterable iter X.env x = pure x) (h : tDct wi g tt tk tv (own.map (·.2)) σ H Q)
    (fin : ∀ D C s' m H', Inv X pins σ H' s' → Q (.ref D) H' → s'.heap.Ns C m → FpOk X pins H' C → compPost (model X.prog X.w) X.A X.xe use Qf (.ref D) C (.ok .next) s') :
    wpAny (model X.prog X.w) X.A (comprehension (dcx kx vx tg iter ifs scope pos) scope X.env pos' newDict false (eval iter X.env) use) Qf X.xe s := by
  have free : ∀ y ∈ scope.names, y.2 = .free → ∃ c, X.env.cells.lookup y.1 = some c := fun y hy e => (ok.free y hy e).elim (fun k => I.ok.has _ (.inl k)) fun k => I.ok.has _ (.inr k)
  refine wpAny_comprehension_free (use := use) rfl hs (closure_ok free) ok.kind (fun y hy e => by rw [ok.uniq y hy, e]) (thn (hi.run pins s σ H _ I h) fun xv s1 hx => thn hx fun itv s2 h2 => ?_)
  obtain ⟨it, fp, tn, J, H2, rfl, I2, T, st2, f2, q⟩ := h2
  refine wpAny_newObj_type (newEnv_comp ?_)
  obtain ⟨D, hD⟩ : ∃ D, s2.heap.objs.size = D := ⟨_, rfl⟩
  rw [hD]
  have hDn : H2 D = none := I2.hok.fresh (Nat.le_of_eq hD)
  obtain ⟨W, ⟨m0, w0⟩, turn⟩ := q D hDn
  obtain ⟨s3, hs3⟩ : ∃ s3 : Shared, { s2 with heap := s2.heap.push { cls := .type "dict", data := .dict #[] } } = s3 := ⟨_, rfl⟩
  rw [hs3]
  have I3 : Inv X pins σ (upd H2 D (.dT [])) s3 := by
    rw [← hs3]
    refine I2.laid (t' := s2.toks) (fun b o e => Heap.get?_push_of_some _ e) (Nat.le_of_eq hD) ?_
    rw [← hD]
    exact dt_empty s2.heap I2.big
  have h3 : s3.heap = s2.heap.push { cls := .type "dict", data := .dict #[] } := by rw [← hs3]
  have f3 : ∀ b ∈ fp, FpOk X pins (upd H2 D (.dT [])) b ∧ b < s3.heap.objs.size := fun b hb => by
    obtain ⟨o, eo, _⟩ := T.obj _ _ st2 b hb
    have lt := Heap.lt_size eo
    refine ⟨⟨?_, (f2 b hb).2⟩, by rw [h3, Heap.size_push]; exact Nat.lt_succ_of_lt lt⟩
    rw [upd_ne (by rw [← hD]; exact Nat.ne_of_lt lt)]
    exact (f2 b hb).1
  have st3 : tn 0 s3.heap := T.keep _ _ _ st2 fun b _ o e => by
    rw [h3]
    exact Heap.get?_push_of_some _ e
  have I4 := block_start I3 ok hN f3
  have pg := hg s3 (upd H2 D (.dT [])) s3.heap.objs.size (cellsFrom (s3.heap.objs.size + 1) scope.names (cloFrom X.env.cells scope.names [])) fp
  have pt := ht s3 (upd H2 D (.dT [])) s3.heap.objs.size (cellsFrom (s3.heap.objs.size + 1) scope.names (cloFrom X.env.cells scope.names [])) fp
  have pk := hk s3 (upd H2 D (.dT [])) s3.heap.objs.size (cellsFrom (s3.heap.objs.size + 1) scope.names (cloFrom X.env.cells scope.names [])) fp
  have pe := he s3 (upd H2 D (.dT [])) s3.heap.objs.size (cellsFrom (s3.heap.objs.size + 1) scope.names (cloFrom X.env.cells scope.names [])) fp
  show codeAny _ _ (.compStart (dcx kx vx tg iter ifs scope pos) 0 (.ref it) (.ref D) (compEnvC scope (cellsFrom (s3.heap.objs.size + 1) scope.names (cloFrom X.env.cells scope.names [])) s3.heap.objs.size X.env)) (compPost (model X.prog X.w) X.A X.xe use Qf (.ref D) s3.heap.objs.size) { s3 with heap := pushCells (s3.heap.push { cls := .type "dict", data := .dict #[] }) scope.names }
  have nfp : ∀ b ∈ fp, (upd H2 D (.dT [])) b = none := fun b hb => (f3 b hb).1.1
  generalize hce : compEnvC scope (cellsFrom (s3.heap.objs.size + 1) scope.names (cloFrom X.env.cells scope.names [])) s3.heap.objs.size X.env = ce at I4 pg pt pk pe ⊢
  have cL : ce.locals = s3.heap.objs.size := by
    subst hce
    rfl
  generalize hH3 : upd H2 D (.dT []) = H3 at I3 I4 pg pt pk pe w0 nfp f3
  generalize hs4 : ({ s3 with heap := pushCells (s3.heap.push { cls := .type "dict", data := .dict #[] }) scope.names } : Shared) = s4 at I4 ⊢
  have st4 : tn 0 s4.heap := T.keep _ _ _ st3 fun b _ o e => by
    rw [← hs4]
    exact pushCells_keeps _ _ _ _ (Heap.get?_push_of_some _ e)
  have stat : ∀ {σ' : L2.St} {H' : Hp} {s' : Shared}, Inv (X.blk s3 H3 scope ce fp) [] σ' H' s' → (∀ b ∈ fp, H' b = none) → ∀ b ∈ fp, FpOk (X.blk s3 H3 scope ce fp) [] H' b := fun {σ' H' s'} I' hn b hb =>
    ⟨hn b hb, (I'.ok.exf b hb).1, I'.ok.exfs b hb, .inl hb, fun x c e => (I'.ok.exf b hb).2 x c e, fun p hp => absurd (show p ∈ ([] : List (Addr × Obj)) ++ [] from hp) (by simp)⟩
  have loop : codeAny (model X.prog X.w) X.A (.compLoop (dcx kx vx tg iter ifs scope pos) 0 (.ref it) (.ref D) ce) (compPost (model X.prog X.w) X.A X.xe use Qf (.ref D) s3.heap.objs.size) s4 := by
    refine compLoop_anyD (fun n s' => ∃ i H', Inv (X.blk s3 H3 scope ce fp) [] (wipe σ (own.map (·.2))) H' s' ∧ tn i s'.heap ∧ (∀ b ∈ fp, H' b = none) ∧ W i n H') ?_ m0 ⟨0, H3, I4, st4, nfp, w0⟩
    rintro n s5 ⟨i, H5, I5, st5, n5, w5⟩
    rcases turn i n H5 w5 with ⟨stop, qq⟩ | ⟨go, Nx, hNx, step⟩
    · refine thnF (T.done (X.blk s3 H3 scope ce fp) rfl rfl rfl hc i [] s5 _ H5 (fun _ _ => False) I5 (stat I5 n5) st5 stop) fun r s6 ⟨hr, I6⟩ => ?_
      subst hr
      have I7 : Inv X pins σ H5 s6 := I3.call' (ch := fp) I6.os I6.base I6.hok I6.bare fun b hb => ⟨(f3 b hb).1.2.2.2.1, (f3 b hb).1.2.1, (f3 b hb).1.2.2.2.2.1, (f3 b hb).1.2.2.2.2.2⟩
      have nC : H5 s3.heap.objs.size = none := by
        rw [← cL]
        exact (show H5 ce.locals = none from I6.free)
      obtain ⟨m, hn, _⟩ := I6.loc
      have hn : s6.heap.Ns ce.locals m := hn
      rw [cL] at hn
      exact fin D s3.heap.objs.size s6 m H5 I7 qq hn (I3.fpOk (Nat.le_refl _) nC)
    · refine thnF (T.item (X.blk s3 H3 scope ce fp) rfl rfl rfl hc i [] s5 _ H5 (fun _ _ => False) I5 (stat I5 n5) st5 go) fun r s6 ⟨u, hr, h6⟩ => ?_
      subst hr
      refine thnF h6 fun _ s7 ⟨x, H7, I7, r7, y7, st7, n7⟩ => ?_
      refine thnF (pg.run _ s7 _ H7 x u _ (I7.pinned (stat I7 n7) (T.obj _ _ st7)) r7 (step x H7 y7)) fun _ s8 ⟨σ8, H8, I8, hw8, q8⟩ => ?_
      refine thnF (pt.run _ s8 σ8 H8 _ I8 q8) fun b s9 ⟨H9, I9, q9⟩ => ?_
      have back : ∀ {s' : Shared} {H' : Hp}, Inv (X.blk s3 H3 scope ce fp) ([] ++ pinsAt fp s7.heap) σ8 H' s' → Nx H' → ∃ m, m < n ∧ ∃ i H', Inv (X.blk s3 H3 scope ce fp) [] (wipe σ (own.map (·.2))) H' s' ∧ tn i s'.heap ∧ (∀ b ∈ fp, H' b = none) ∧ W i m H' := fun {s' H'} I' nx => by
        obtain ⟨m', hm, w'⟩ := hNx H' nx
        have pin' : ∀ b ∈ fp, ∀ o, s7.heap.get? b = some o → s'.heap.get? b = some o ∧ H' b = none := fun b hb o e =>
          let z := I'.pin (b, o) (List.mem_append_right _ (List.mem_append_right _ (mem_pinsAt hb e)))
          ⟨z.1, z.2.1⟩
        refine ⟨m', hm, i + 1, H', (I'.unpinned (pins := [])).weak (by rw [← hw8, wipe_length]) (fun j v e => ?_), T.keep _ _ _ st7 fun b hb o e => (pin' b hb o e).1, fun b hb => ?_, w'⟩
        · rw [← hw8] at e
          exact (wipe_some e).1
        · obtain ⟨o, e, _⟩ := T.obj _ _ st7 b hb
          exact (pin' b hb o e).2
      cases b with
      | false =>
        simp only [Bool.false_eq_true, if_false] at q9 ⊢
        exact back I9 q9
      | true =>
        simp only [if_true] at q9 ⊢
        refine thnF (pk.run _ s9 σ8 H9 _ I9 q9) fun z s10 ⟨yk, H10, I10, r10, q10⟩ => thnF (pe.run _ s10 σ8 H10 _ I10 q10) fun z2 s11 ⟨yv, H11, I11, r11, kvs, k, kb, ek, hD11, hkb, hz11, nx⟩ => ?_
        subst ek
        obtain rfl : z = Value.ref kb := r10
        exact dt_store (X := X.blk s3 H3 scope ce fp) hu I11 hD11 hkb hz11 r11 fun s12 I12 => back I12 nx
  exact codeAny_compStart_dict loop (T.self X.A 0 _ _ _ st4 loop)
theorem ps_setDct {i : Nat} {y : Str} (hu : X.A.units + 1 < cLine) (hc : X.calm = true) (hN : X.N.Nodup) (hy : X.N[i]? = some y) (hyl : X.env.scope.names.lookup y = some .local) (hsw : swapsWith (dcx kx vx tg iter ifs scope pos) (some (.Name y py)) spos.line X.env = pure true) (hi : PI X tg iter wi) (ok : BlkOk X.N X.env.scope scope own)
    (hg : Blks X scope fun B => PG B tg g) (ht : Blks X scope fun B => PTs B ifs tt) (hk : Blks X scope fun B => PE B kx tk) (he : Blks X scope fun B => PE B vx tv) (hs : ∀ x, foldedSetIterable iter X.env x = pure x := by intro _; rfl) :
    PS X (.Assign [.Name y py] (dcx kx vx tg iter ifs scope pos) spos) (tAsg (tDct wi g tt tk tv (own.map (·.2))) (gName i)) := ⟨fun pins s σ H D I h => by
  rw [exec_Assign_Name_used _ _ _ _ hsw]; refine wpAny_bind (wpAny_standAt (wpAny_bind ?_))
  show wpAny _ X.A (do
    let _ ← comprehension (dcx kx vx tg iter ifs scope pos) scope X.env (firstIterPos [⟨tg, iter, ifs, 0⟩] pos) newDict false (eval iter X.env) (some (assign (.Name y py) X.env))) _ _ s
  have h1 : tDct wi g tt tk tv (own.map (·.2)) σ H (fun x H1 => gName i x σ H1 D.nx) := h
  refine wpAny_bind (thn (dct_core (Qf := fun _ t => SP X pins D .next t) hu hc hN I hi ok hg ht hk he hs h1 fun L C t m H1 I1 q hn fp => ?_) fun _ t hq => wpAny_pure (wpAny_pure hq))
  obtain ⟨e0, e1, e2, e3, e4, e5⟩ := fp
  show wpAny _ _ (assign (.Name y py) X.env (.ref L)) _ _ _
  refine wpAny_assign_Name (store_ok2 (v := V.ref L) I1 hN hy (.inl hyl) rfl (fun u I2 ⟨b, sb, hb⟩ => ?_) (.inr hyl))
  have ne : C ≠ b := hb.elim (fun z => by rw [z]; exact e1) fun z w => e4 y b z w.symm
  exact ⟨m, hn.sameBut sb ne, fun h3 sb3 => ⟨_, H1, I2.turned (t' := u.toks) (fun c o hcb e => (sb3.2 c hcb).trans e) e0 e1 e3 e4 e5, q⟩⟩⟩
end
/-- over what is walked -/
theorem dct_it {J : It} {n : Nat} {G : Hp → Prop} {Y : Nat → Hp → V → Hp → Prop} (w : L2.Walk J n G Y) {g : TG} {tt : TT} {tk tv : TE} {vs : List Nat} {σ : L2.St} {H1 : Hp} {D : Addr} {Qd : Hp → Prop} (Pv : Nat → Hp → Prop) (h0 : Pv 0 (upd H1 D (.dT []))) (hG : ∀ i H, i ≤ n → Pv i H → G H)
    (hs : ∀ i x H H', i < n → Pv i H → Y i H x H' → g x (wipe σ vs) H' fun σ2 H2 => wipe σ2 vs = wipe σ vs ∧ tt σ2 H2 fun b H3 => if b = true then tk σ2 H3 fun y H4 => tv σ2 H4 fun z H5 => PutT H5 D y z (Pv (i + 1)) else Pv (i + 1) H3) (hd : ∀ H, Pv n H → Qd H) :
    ∃ W : Nat → Nat → Hp → Prop, (∃ m, W 0 m (upd H1 D (.dT []))) ∧ ∀ i m H, W i m H →
      (J.stop i H ∧ Qd H) ∨ (J.go i H ∧ ∃ Nx : Hp → Prop, (∀ H', Nx H' → ∃ m', m' < m ∧ W (i + 1) m' H') ∧ ∀ x H', J.yld i H x H' → g x (wipe σ vs) H' fun σ2 H2 => wipe σ2 vs = wipe σ vs ∧ tt σ2 H2 fun b H3 => if b = true then tk σ2 H3 fun y H4 => tv σ2 H4 fun z H5 => PutT H5 D y z Nx else Nx H3) := by
  refine ⟨fun i m H => m = n - i ∧ i ≤ n ∧ Pv i H, ⟨n, by simp, Nat.zero_le _, h0⟩, ?_⟩
  rintro i m H ⟨rfl, hi, p⟩
  have q := hG i H hi p
  by_cases hlt : i < n
  · exact .inr ⟨w.goes i H hlt q, Pv (i + 1), fun H' p' => ⟨n - (i + 1), by omega, rfl, hlt, p'⟩, fun x H' y => hs i x H H' hlt p (w.yields i H x H' hlt q y)⟩
  · have e : i = n := by omega
    subst e
    exact .inl ⟨w.stops H q, hd H p⟩
/-! ### tuples laid as objects that are known -/
theorem iteT' {A B : Prop} {b : Bool} (h : b = true) (q : A) : if b = true then A else B := by
  rw [h]
  exact iteT q
theorem iteF' {A B : Prop} {b : Bool} (h : b = false) (q : B) : if b = true then A else B := by
  rw [h]
  exact iteF q
def TupF (H : Hp) (a : Addr) (xs : List V) : Prop := ∃ o : Obj, H a = some (.frz o (.tup xs)) ∧ o.cls = .type "tuple" ∧ o.dict = none
theorem TupF.same {H H' : Hp} {a : Addr} {xs : List V} (e : Same H H') (h : TupF H a xs) : TupF H' a xs :=
  let ⟨o, h1, h2⟩ := h; ⟨o, e _ _ h1, h2⟩
theorem TupF.sqt {K : PySem.W.Frag} {H : Hp} {a : Addr} {xs : List V} (h : TupF H a xs) : SqT K H a xs :=
  let ⟨o, h1, _⟩ := h; .inl (.inr ⟨o, h1⟩)
theorem TupF.put {H : Hp} {a m : Addr} {xs : List V} {u o : HO} (hm : H m = some u) (hu : ∀ o2, u ≠ .frz o2 (.tup xs)) (h : TupF H a xs) : TupF (upd H m o) a xs :=
  let ⟨o2, h1, h2⟩ := h; ⟨o2, by rw [upd_ne (fun e => by rw [e, hm] at h1; exact hu o2 (Option.some.inj h1))]; exact h1, h2⟩
/-- a tuple that is empty or known as an object -/
def Fz (H : Hp) (a : Addr) (xs : List V) : Prop := xs = [] ∨ TupF H a xs
theorem Fz.same {H H' : Hp} {a : Addr} {xs : List V} (e : Same H H') (h : Fz H a xs) : Fz H' a xs := h.imp id fun h => h.same e
theorem Fz.ins {H : Hp} {a m C dx : Addr} {xs : List V} {fs gs : List (Str × V)} (hm : H m = some (.ins C dx fs)) (h : Fz H a xs) : Fz (upd H m (.ins C dx gs)) a xs := h.imp id fun h => h.put hm fun _ e => (nomatch e)
theorem ins_ne {zs : List Str} (h : 1 ≤ zs.length) : zs.map V.str ≠ [] := fun e => by
  have := congrArg List.length e
  rw [List.length_map] at this
  have h2 : ([] : List V).length = 0 := rfl
  omega
theorem Fz.get {H : Hp} {a : Addr} {xs : List V} (h : Fz H a xs) (hx : xs ≠ []) : TupF H a xs := h.resolve_left hx
section
variable {X : Cx}
/-- t + u, u known as an object: so is the whole -/
def rCatF (K : PySem.W.Frag) : R2 := fun x y H Q => ∃ a b xs ys, x = .ref a ∧ y = .ref b ∧ SqT K H a xs ∧ TupF H b ys ∧ ys ≠ [] ∧ xs.length + ys.length ≤ sizeLine ∧
  (xs = [] → Q (.ref b) H) ∧ (xs ≠ [] → ∀ p H', H p = none → Same H H' → TupF H' p (xs ++ ys) → Q (.ref p) H')
theorem op_catF : OpR X (binaryOp .Add) (rCatF X.K) := by
  intro pins s σ H x y v u Q I rx ry h
  obtain ⟨a, b, xs, ys, rfl, rfl, ha, hb, hy, hz, q0, q2⟩ := h
  cases rx
  cases ry
  obtain ⟨its, r1, p1, _⟩ := I.tuple ha
  obtain ⟨its2, r2, p2, _⟩ := I.tuple (TupF.sqt (K := X.K) hb)
  by_cases hx : xs = []
  · subst hx
    cases r1
    exact cat_tup0 p1 p2 ⟨.ref b, H, I, rfl, q0 rfl⟩
  · refine HT.cat_tup p1 p2 (fun z => hx (r1.nil_iff.mp z)) (fun z => absurd (r2.nil_iff.mp z) hy) (fun z => ?_) (by rw [← r1.length, ← r2.length]; exact hz)
    have n0 : H s.heap.objs.size = none := I.hok.fresh (Nat.le_refl _)
    refine ⟨.ref s.heap.objs.size, _, I.laid (t' := s.toks) (o := .frz { cls := .type "tuple", data := .seq (its ++ its2).toArray } (.tup (xs ++ ys))) (fun b ob q => Heap.get?_push_of_some _ q) (Nat.le_refl _) ?_, rfl, q2 hx _ _ n0 (same_new n0) ⟨_, upd_same, rfl, rfl⟩⟩
    exact ⟨Heap.get?_push_size _ rfl, by rw [List.length_append]; exact hz, _, r1.append r2, IsTup.new _ _⟩
theorem catF_any {K : PySem.W.Frag} {H : Hp} {a b : Addr} {xs ys : List V} {Q : VK} (ha : SqT K H a xs) (hb : TupF H b ys) (hy : ys ≠ []) (hz : xs.length + ys.length ≤ sizeLine) (q : ∀ p H', Same H H' → TupF H' p (xs ++ ys) → Q (.ref p) H') : rCatF K (.ref a) (.ref b) H Q := by
  refine ⟨a, b, xs, ys, rfl, rfl, ha, hb, hy, hz, fun e => ?_, fun _ p H' _ s h => q p H' s h⟩
  subst e
  exact q b H (Same.refl H) hb
/-- (a, b, ..), known as an object -/
def tTupF (t : TA) : TE := fun σ H Q => t σ H fun xs H1 => xs.length ≤ sizeLine ∧ ∀ p H', H1 p = none → Same H1 H' → TupF H' p xs → Q (.ref p) H'
theorem pe_tupF {es : List Expr} {t : TA} {x1 : Nat} {pos : PySem.Pos} (h : PA X es t) : PE X (.Tuple es x1 pos) (tTupF t) := by
  refine ⟨fun pins s σ H Q I hq => ?_⟩
  refine wpAny_Tuple_spliced (thn (h.run pos pins s σ H _ I hq) fun us s1 ⟨xs, H1, I1, r, z, q⟩ => ⟨by rw [← r.length]; exact z, ?_⟩)
  have hf : H1 s1.heap.objs.size = none := I1.hok.fresh (Nat.le_refl _)
  refine ⟨.ref s1.heap.objs.size, _, I1.laid (t' := s1.toks) (o := .frz { cls := .type "tuple", data := .seq us.toArray } (.tup xs)) (fun b u e => Heap.get?_push_of_some _ e) (Nat.le_refl _) ?_, rfl, q _ _ hf (same_new hf) ⟨_, upd_same, rfl, rfl⟩⟩
  exact ⟨Heap.get?_push_size _ rfl, z, us, r, ⟨_, Heap.get?_push_size _ rfl, rfl, _, rfl⟩⟩
end
/-! ### the market -/
/-- the losses: event and insurer, and how much -/
def lkv (L : List ((Str × Str) × Int)) : List (List Key × V) := L.map fun p => ([.inr p.1.1, .inr p.1.2], .int p.2)
def lossOf (L : List ((Str × Str) × Int)) (e z : Str) : Int := ((L.find? fun p => decide (p.1 = (e, z))).map (·.2)).getD 0
theorem key2 {e z e' z' : Str} : (([.inr e, .inr z] : List Key) = [.inr e', .inr z']) ↔ (e, z) = (e', z') := by
  constructor
  · intro h
    have h1 := List.cons.inj h
    have h2 := List.cons.inj h1.2
    have e1 : e = e' := Sum.inr.inj h1.1
    have e2 : z = z' := Sum.inr.inj h2.1
    rw [e1, e2]
  · intro h
    have h1 := Prod.mk.inj h
    rw [h1.1, h1.2]
theorem lkv_val (L : List ((Str × Str) × Int)) (e z : Str) : valV (lkv L) [.inr e, .inr z] = ((L.find? fun p => decide (p.1 = (e, z))).map (·.2)).map V.int := by
  induction L with
  | nil => rfl
  | cons p r ih =>
    by_cases h : p.1 = (e, z)
    · show valV (([.inr p.1.1, .inr p.1.2], V.int p.2) :: lkv r) _ = _
      rw [valV_pos (key2.mpr h), List.find?_cons, decide_eq_true h]
      rfl
    · show valV (([.inr p.1.1, .inr p.1.2], V.int p.2) :: lkv r) _ = _
      rw [valV_neg (fun q => h (key2.mp q)), ih, List.find?_cons, decide_eq_false h]
theorem lkv_get (L : List ((Str × Str) × Int)) (e z : Str) : (valV (lkv L) [.inr e, .inr z]).getD (.int 0) = .int (lossOf L e z) := by
  rw [lkv_val]
  unfold lossOf
  cases (L.find? fun p => decide (p.1 = (e, z))) <;> rfl
def directs (ins : List Str) (L : List ((Str × Str) × Int)) (e : Str) : List Int := ins.map (lossOf L e)
def sp_direct_losses (K : PySem.W.Frag) : Sp := fun vs H Q _ => ∃ (a d : Addr) (e : Str) (ins : List Str) (L : List ((Str × Str) × Int)), vs = [.ref a, .ref d, .str e] ∧ SqT K H a (ins.map V.str) ∧ ins.length ≤ 1000 ∧ Rd H d (.dT (lkv L)) ∧
  ∀ (p : Addr) (H' : Hp), Same H H' → H p = none → H' p = some (.tup ((directs ins L e).map V.int)) → Q (.ref p) H'
theorem rd_same {H H' : Hp} {a : Addr} {u : HO} (e : Same H H') (h : Rd H a u) : Rd H' a u := by
  rcases h with h | ⟨o, h⟩
  · exact .inl (e _ _ h)
  · exact .inr ⟨o, e _ _ h⟩
def mf (ai ae at' ad : Addr) : List (Str × V) := [("insurers", .ref ai), ("events", .ref ae), ("treaties", .ref at'), ("losses", .ref ad)]
section
variable {ai ae at' ad x : Addr}
theorem mf_i : (mf ai ae at' ad).lookup ("insurers" : Str) = some (.ref ai) := by kernel_rfl
theorem mf_e : (mf ai ae at' ad).lookup ("events" : Str) = some (.ref ae) := by kernel_rfl
theorem mf_t : (mf ai ae at' ad).lookup ("treaties" : Str) = some (.ref at') := by kernel_rfl
theorem mf_l : (mf ai ae at' ad).lookup ("losses" : Str) = some (.ref ad) := by kernel_rfl
theorem mf_pi : putF "insurers" (.ref x) (mf ai ae at' ad) = mf x ae at' ad := by kernel_rfl
theorem mf_pe : putF "events" (.ref x) (mf ai ae at' ad) = mf ai x at' ad := by kernel_rfl
theorem mf_pt : putF "treaties" (.ref x) (mf ai ae at' ad) = mf ai ae x ad := by kernel_rfl
theorem mf_pl : putF "losses" (.ref x) (mf ai ae at' ad) = mf ai ae at' x := by kernel_rfl
theorem mf_no {m : Str} (h : (["insurers", "events", "treaties", "losses"] : List Str).contains m = false) : (mf ai ae at' ad).lookup m = none := by
  have h2 : ∀ x ∈ (["insurers", "events", "treaties", "losses"] : List Str), (m == x) = false := fun x hx => by
    cases e : (m == x) with
    | false => rfl
    | true =>
      have : (["insurers", "events", "treaties", "losses"] : List Str).contains m = true := List.contains_iff_mem.mpr (by rw [eq_of_beq e]; exact hx)
      rw [h] at this
      cases this
  unfold mf
  rw [List.lookup_cons, h2 _ (by simp), List.lookup_cons, h2 _ (by simp), List.lookup_cons, h2 _ (by simp), List.lookup_cons, h2 _ (by simp)]
  rfl
end
theorem isD_t {H : Hp} {d : Addr} {kvs : List (List Key × V)} (h : Rd H d (.dT kvs)) : IsD H d := by
  unfold IsD
  first
    | exact .inr ⟨_, h⟩
    | exact ⟨_, h⟩
theorem ne_keep {H : Hp} {a m : Addr} {o u : HO} (n : H a = none) (h : H m = some o) : upd H a u m = some o := by
  rw [upd_ne (ne_of_none h n)]
  exact h
theorem sqt_ins {K : PySem.W.Frag} {H : Hp} {m a : Addr} {C dx : Addr} {fs gs : List (Str × V)} {xs : List V} (hm : H m = some (.ins C dx fs)) (h : SqT K H a xs) : SqT K (upd H m (.ins C dx gs)) a xs := by
  rcases h with (h | ⟨u, h⟩) | h
  · refine .inl (.inl ?_)
    rw [upd_ne (fun e => by rw [e, hm] at h; cases h)]
    exact h
  · refine .inl (.inr ⟨u, ?_⟩)
    rw [upd_ne (fun e => by rw [e, hm] at h; cases h)]
    exact h
  · exact .inr h
theorem trs_ins {K : PySem.W.Frag} {H : Hp} {m a : Addr} {C dx : Addr} {fs gs : List (Str × V)} {ts : List Trt} (hm : H m = some (.ins C dx fs)) (h : TrsAt K H a ts) : TrsAt K (upd H m (.ins C dx gs)) a ts := by
  obtain ⟨xs, h1, h2⟩ := h
  refine ⟨xs, sqt_ins hm h1, AllAt.imp (S := TrAt K) h2 fun y t r => ?_⟩
  obtain ⟨a1, vc, vp, rfl, g1, g2, pa, px, rfl, g3, g4, g5⟩ := r
  refine ⟨a1, vc, _, rfl, sqt_ins hm g1, sqt_ins hm g2, pa, px, rfl, sqt_ins hm g3, g4, fun i e he => ?_⟩
  obtain ⟨y, f1, b, rfl, f2⟩ := g5 i e he
  exact ⟨_, f1, b, rfl, sqt_ins hm f2⟩
theorem fld_step {H : Hp} {a m : Addr} {o u o' : HO} (n : H a = none) (hm : H m = some o) : Bar m H (upd (upd H a u) m o') ∧ upd (upd H a u) m o' a = some u ∧ upd (upd H a u) m o' m = some o' ∧ a ≠ m := by
  have ne : a ≠ m := Bar.new hm n
  refine ⟨Bar.put (Bar.add (Bar.refl H) n), ?_, upd_same, ne⟩
  rw [upd_ne ne, upd_same]
theorem putF_le (f : Str) (v : V) : ∀ fs : List (Str × V), (putF f v fs).length ≤ fs.length + 1
  | [] => Nat.le_refl _
  | (g, x) :: r => by
    unfold putF
    split
    · rw [List.length_cons, List.length_cons]
      omega
    · rw [List.length_cons, List.length_cons]
      have := putF_le f v r
      omega
structure Mkt where
  ins : List Str
  evs : List Str
  trs : List Trt
  los : List ((Str × Str) × Int)
def MktAt (K : PySem.W.Frag) (C : Addr) (H : Hp) (m : Addr) (M : Mkt) : Prop := ∃ dx ai ae at' ad : Addr, H m = some (.ins C dx (mf ai ae at' ad)) ∧ SqT K H ai (M.ins.map V.str) ∧ SqT K H ae (M.evs.map V.str) ∧ TrsAt K H at' M.trs ∧ H ad = some (.dT (lkv M.los)) ∧ Fz H ai (M.ins.map V.str)
theorem MktAt.same {K : PySem.W.Frag} {C : Addr} {H H' : Hp} {m : Addr} {M : Mkt} (e : Same H H') (h : MktAt K C H m M) : MktAt K C H' m M := by
  obtain ⟨dx, ai, ae, at', ad, h0, h1, h2, h3, h4, h5⟩ := h
  exact ⟨dx, ai, ae, at', ad, e _ _ h0, same_sqt e h1, same_sqt e h2, TrsAt.same e h3, e _ _ h4, h5.same e⟩
def sp_minit (K : PySem.W.Frag) (C : Addr) : Sp := fun vs H Q _ => ∃ m dx : Addr, vs = [.ref m] ∧ H m = some (.ins C dx []) ∧ ∀ H', Bar m H H' → MktAt K C H' m ⟨[], [], [], []⟩ → Q .non H'
def sp_add_event (K : PySem.W.Frag) (C CB CM CT : Addr) : Sp := fun vs H Q E => ∃ (m : Addr) (x : V) (M : Mkt), vs = [.ref m, x] ∧ MktAt K C H m M ∧
  ((NoName K H x ∧ ∀ H', Same H H' → E (.ref CB) none H') ∨ ∃ z, x = .str z ∧ IsName x ∧
    ((3 ≤ M.evs.length ∧ ∀ H', Same H H' → E (.ref CM) none H') ∨ (M.evs.length < 3 ∧ z ∈ M.evs ∧ ∀ H' d, Same H H' → H' d = some (.xd [("name", .str z)]) → E (.ref CT) (some d) H') ∨
      (M.evs.length < 3 ∧ z ∉ M.evs ∧ ∀ H', Bar m H H' → MktAt K C H' m { M with evs := M.evs ++ [z] } → Q (.int ((M.evs.length + 1 : Nat) : Int)) H')))
def sp_add_insurer (K : PySem.W.Frag) (C CB CM CT : Addr) : Sp := fun vs H Q E => ∃ (m : Addr) (x : V) (M : Mkt), vs = [.ref m, x] ∧ MktAt K C H m M ∧
  ((NoName K H x ∧ ∀ H', Same H H' → E (.ref CB) none H') ∨ ∃ z, x = .str z ∧ IsName x ∧
    ((6 ≤ M.ins.length ∧ ∀ H', Same H H' → E (.ref CM) none H') ∨ (M.ins.length < 6 ∧ z ∈ M.ins ∧ ∀ H' d, Same H H' → H' d = some (.xd [("name", .str z)]) → E (.ref CT) (some d) H') ∨
      (M.ins.length < 6 ∧ z ∉ M.ins ∧ ∀ H', Bar m H H' → MktAt K C H' m { M with ins := M.ins ++ [z] } → Q (.int ((M.ins.length + 1 : Nat) : Int)) H')))
/-- do an event's rounds end, with no loss too great -/
def fate (ins : List Str) (ts : List Trt) (ds : List Int) (b : Bool) : Prop :=
  if b = true then ∃ i, i ≤ 200 ∧ row ins ts ds (i + 1) = row ins ts ds i ∧ (∀ j, j < i → row ins ts ds (j + 1) ≠ row ins ts ds j) ∧ big (row ins ts ds i) = false
  else (∃ i, i ≤ 200 ∧ row ins ts ds (i + 1) = row ins ts ds i ∧ (∀ j, j < i → row ins ts ds (j + 1) ≠ row ins ts ds j) ∧ big (row ins ts ds i) = true) ∨ ∀ i, i ≤ 200 → row ins ts ds (i + 1) ≠ row ins ts ds i
theorem first_one {p : Nat → Prop} {i j : Nat} (hi : p i) (hj : p j) (fi : ∀ k, k < i → ¬ p k) (fj : ∀ k, k < j → ¬ p k) : i = j := by
  by_cases h : i < j
  · exact absurd hi (fj i h)
  · by_cases h2 : j < i
    · exact absurd hj (fi j h2)
    · omega
theorem first_is {p : Nat → Prop} : ∀ {n : Nat}, p n → ∃ i, i ≤ n ∧ p i ∧ ∀ k, k < i → ¬ p k := fun {n} => by
  induction n using Nat.strongRecOn with
  | _ n ih =>
    intro h
    by_cases e : ∃ k, k < n ∧ p k
    · obtain ⟨k, hk, pk⟩ := e
      obtain ⟨i, h1, h2, h3⟩ := ih k hk pk
      exact ⟨i, by omega, h2, h3⟩
    · exact ⟨n, Nat.le_refl _, h, fun k hk pk => e ⟨k, hk, pk⟩⟩
theorem fate_any (ins : List Str) (ts : List Trt) (ds : List Int) : fate ins ts ds true ∨ fate ins ts ds false := by
  by_cases e : ∃ i, i ≤ 200 ∧ row ins ts ds (i + 1) = row ins ts ds i
  · obtain ⟨n, hn, h⟩ := e
    obtain ⟨i, h1, h2, h3⟩ := first_is (p := fun i => row ins ts ds (i + 1) = row ins ts ds i) h
    cases hb : big (row ins ts ds i) with
    | false => exact .inl ⟨i, by omega, h2, h3, hb⟩
    | true => exact .inr (.inl ⟨i, by omega, h2, h3, hb⟩)
  · exact .inr (.inr fun i hi h => e ⟨i, hi, h⟩)
theorem fate_one {ins : List Str} {ts : List Trt} {ds : List Int} (h1 : fate ins ts ds true) (h2 : fate ins ts ds false) : False := by
  obtain ⟨i, a1, a2, a3, a4⟩ := (h1 : ∃ i, i ≤ 200 ∧ row ins ts ds (i + 1) = row ins ts ds i ∧ (∀ j, j < i → row ins ts ds (j + 1) ≠ row ins ts ds j) ∧ big (row ins ts ds i) = false)
  rcases (h2 : (∃ i, i ≤ 200 ∧ row ins ts ds (i + 1) = row ins ts ds i ∧ (∀ j, j < i → row ins ts ds (j + 1) ≠ row ins ts ds j) ∧ big (row ins ts ds i) = true) ∨ ∀ i, i ≤ 200 → row ins ts ds (i + 1) ≠ row ins ts ds i) with ⟨j, b1, b2, b3, b4⟩ | h
  · have e := first_one (p := fun i => row ins ts ds (i + 1) = row ins ts ds i) a2 b2 a3 b3
    subst e
    rw [a4] at b4
    cases b4
  · exact h i a1 a2
def sp_check_ends (K : PySem.W.Frag) (C CN : Addr) : Sp := fun vs H Q E => ∃ (m : Addr) (M : Mkt) (at' ad : Addr) (ts : List Trt) (L : List ((Str × Str) × Int)), vs = [.ref m, .ref at', .ref ad] ∧ MktAt K C H m M ∧ TrsAt K H at' ts ∧ TrsOk M.ins ts ∧ H ad = some (.dT (lkv L)) ∧ M.evs.length ≤ 1000 ∧
  (((∀ e ∈ M.evs, fate M.ins ts (directs M.ins L e) true) ∧ ∀ H', Same H H' → Q .non H') ∨ ((∃ e ∈ M.evs, fate M.ins ts (directs M.ins L e) false) ∧ ∀ H', Same H H' → E (.ref CN) none H'))
def sp_direct (K : PySem.W.Frag) (C CS : Addr) : Sp := fun vs H Q E => ∃ (m : Addr) (M : Mkt) (e : Str), vs = [.ref m, .str e] ∧ MktAt K C H m M ∧ M.ins.length ≤ 1000 ∧
  ((e ∈ M.evs ∧ ∀ p H', Same H H' → H p = none → H' p = some (.tup ((directs M.ins M.los e).map V.int)) → Q (.ref p) H') ∨
    (e ∉ M.evs ∧ ∀ d H', Same H H' → H' d = some (.xd [("name", .str e)]) → E (.ref CS) (some d) H'))
theorem NoCov.same' {K : PySem.W.Frag} {H H' : Hp} {x : V} (e : Same H H') (h : NoCov K H x) : NoCov K H' x := by
  rcases h with ⟨t, ty, k⟩ | ⟨a, xs, rfl, hS, r⟩
  · exact .inl ⟨t, tyx_same' e ty, k⟩
  · exact .inr ⟨a, xs, rfl, same_sqt e hS, r⟩
theorem IsCovV.same' {K : PySem.W.Frag} {H H' : Hp} {x : V} (e : Same H H') (h : IsCovV K H x) : IsCovV K H' x := by
  obtain ⟨a, c, rfl, hS, r⟩ := h
  exact ⟨a, c, rfl, same_sqt e hS, r⟩
theorem NoPan.same {K : PySem.W.Frag} {H H' : Hp} {x : V} (e : Same H H') (h : NoPan K H x) : NoPan K H' x := by
  rcases h with ⟨t, ty, k⟩ | ⟨a, xs, bs, rfl, hS, hl, h⟩ | ⟨ps, hP, r⟩
  · exact .inl ⟨t, tyx_same' e ty, k⟩
  · refine .inr (.inl ⟨a, xs, bs, rfl, same_sqt e hS, hl, ?_⟩)
    rcases h with h | h | ⟨h1, h2, h3⟩
    · exact .inl h
    · exact .inr (.inl h)
    · refine .inr (.inr ⟨h1, h2, fun i y b hy hb => ?_⟩)
      rcases h3 i y b hy hb with ⟨eb, en, hA, ho⟩ | ⟨eb, hB⟩
      · exact .inl ⟨eb, en, EntAt.same e hA, ho⟩
      · exact .inr ⟨eb, BadEnt.same e hB⟩
  · exact .inr (.inr ⟨ps, PanAt.same e hP, r⟩)
/-! ### len(set(xs)) where xs is a list of texts and None -/
section
variable {T : Type} [DecidableEq T]
def oneMore (l : List T) (k : T) : List T := if k ∈ l then l else l ++ [k]
/-- the members of l, each once -/
def onces (l : List T) : List T := l.foldl oneMore []
theorem onces_add (l : List T) (k : T) : onces (l ++ [k]) = oneMore (onces l) k := by
  unfold onces
  rw [List.foldl_append]
  rfl
theorem mem_oneMore {l : List T} {k a : T} : a ∈ oneMore l k ↔ a ∈ l ∨ a = k := by
  unfold oneMore
  by_cases h : k ∈ l
  · rw [if_pos h]
    exact ⟨.inl, fun o => o.elim id fun e => e ▸ h⟩
  · rw [if_neg h, List.mem_append, List.mem_singleton]
theorem onces_len (l : List T) : ∀ acc : List T, acc.Nodup →
    (l.foldl oneMore acc).length ≤ acc.length + l.length ∧ ((l.foldl oneMore acc).length = acc.length + l.length ↔ l.Nodup ∧ ∀ a ∈ l, a ∉ acc) := by
  induction l with
  | nil => exact fun acc _ => ⟨Nat.le_refl _, fun _ => ⟨List.nodup_nil, fun a h => nomatch h⟩, fun _ => rfl⟩
  | cons k l ih =>
    intro acc hn
    show (l.foldl oneMore (oneMore acc k)).length ≤ _ ∧ ((l.foldl oneMore (oneMore acc k)).length = _ ↔ _)
    by_cases h : k ∈ acc
    · rw [show oneMore acc k = acc from if_pos h]
      have i1 := (ih acc hn).1
      refine ⟨by rw [List.length_cons]; omega, fun e => ?_, fun e => absurd h (e.2 k List.mem_cons_self)⟩
      rw [List.length_cons] at e
      exfalso
      omega
    · rw [show oneMore acc k = acc ++ [k] from if_neg h]
      have hn2 : (acc ++ [k]).Nodup := by
        refine List.nodup_append.mpr ⟨hn, List.pairwise_singleton _ _, fun a ha b hb e => ?_⟩
        rw [List.mem_singleton.mp hb] at e
        exact h (e ▸ ha)
      obtain ⟨i1, i2⟩ := ih (acc ++ [k]) hn2
      rw [List.length_append, List.length_singleton] at i1 i2
      refine ⟨by rw [List.length_cons]; omega, ?_⟩
      have e1 : acc.length + (k :: l).length = acc.length + 1 + l.length := by
        rw [List.length_cons]
        omega
      rw [e1, i2, List.nodup_cons]
      constructor
      · rintro ⟨a1, a2⟩
        refine ⟨⟨fun q => a2 k q (List.mem_append_right _ (List.mem_singleton.mpr rfl)), a1⟩, fun a ha => ?_⟩
        rcases List.mem_cons.mp ha with rfl | ha
        · exact h
        · exact fun q => a2 a ha (List.mem_append_left _ q)
      · rintro ⟨⟨b1, b2⟩, b3⟩
        refine ⟨b2, fun a ha q => ?_⟩
        rcases List.mem_append.mp q with q | q
        · exact b3 a (List.mem_cons_of_mem _ ha) q
        · exact b1 (List.mem_singleton.mp q ▸ ha)
theorem onces_le (l : List T) : (onces l).length ≤ l.length := by
  have h := (onces_len l [] List.nodup_nil).1
  rwa [List.length_nil, Nat.zero_add] at h
/-- fewer in the set: one stands twice -/
theorem onces_lt (l : List T) : (onces l).length < l.length ↔ ¬ l.Nodup := by
  have h := onces_len l [] List.nodup_nil
  rw [List.length_nil, Nat.zero_add] at h
  have e : l.Nodup ↔ (onces l).length = l.length := ⟨fun d => h.2.mpr ⟨d, fun _ _ q => nomatch q⟩, fun d => (h.2.mp d).1⟩
  have le := onces_le l
  rw [e]
  omega
end
section
variable {prog : Program} {w : World} {A : Around} {E : Value → Shared → Prop} {s : Shared} {R : Result → Shared → Prop}
abbrev lk (prog : Program) (w : World) := leafKind prog w
/-- at S stands the set of l's members -/
def SetIs (prog : Program) (w : World) (h : Heap) (S : Addr) (l : List Leaf) : Prop := h.SetOf (lk prog w) S (fun k => decide (k ∈ onces l)) (onces l).length
theorem SetIs.moved {h h' : Heap} {S : Addr} {l : List Leaf} (x : SetIs prog w h S l) (e : ∀ o, h.get? S = some o → h'.get? S = some o) : SetIs prog w h' S l := by
  obtain ⟨o, a, b, c, q, r⟩ := x
  exact ⟨o, a, b, c, e o q, r⟩
theorem SetIs.more {h : Heap} {S : Addr} {l : List Leaf} {k : Leaf}
    (x : h.SetOf (lk prog w) S (fun z => decide (z ∈ onces l) || decide (z = k)) (if decide (k ∈ onces l) = true then (onces l).length else (onces l).length + 1)) : SetIs prog w h S (l ++ [k]) := by
  unfold SetIs
  have e1 : (fun z => decide (z ∈ onces (l ++ [k]))) = fun z => decide (z ∈ onces l) || decide (z = k) := by
    funext z
    rw [onces_add, ← Bool.decide_or]
    exact decide_eq_decide.mpr mem_oneMore
  have e2 : (onces (l ++ [k])).length = if decide (k ∈ onces l) = true then (onces l).length else (onces l).length + 1 := by
    rw [onces_add]
    unfold oneMore
    by_cases q : k ∈ onces l
    · rw [if_pos q, if_pos (decide_eq_true q)]
    · rw [if_neg q, if_neg (by rw [decide_eq_false q]; exact Bool.false_ne_true), List.length_append, List.length_singleton]
  rw [e1, e2]
  exact x
/-- the loop of set(..), over any walk that gives the keys ks -/
theorem setloop {I S : Addr} {fp wr : List Addr} {G : Array GenState → Array GenState → Prop} {n : Nat} {P : Nat → Value → Prop} {St : Nat → Shared → Prop} (W : WalksS prog w A.in1 I fp wr G n P St) (nS : S ∉ fp) {ks : List Leaf}
    (hl : ks.length = n) (hn : n + 1 < scanBound) (hv : ∀ i v, P i v → ∃ k, ks[i]? = some k ∧ Leaf.isOf k v = true ∧ v.scannable = true) :
    ∀ (m i : Nat) (s : Shared), i + m = n → St i s → SetIs prog w s.heap S (ks.take i) → (∀ s', Moved (S :: wr) G s s' → SetIs prog w s'.heap S ks → R (.ok (.ret .none)) s') →
      codeAny (model prog w) A (.builtin "set.update.loop" ⟨[.ref S, .ref I], []⟩) R s := by
  have nw : S ∉ wr := fun q => nS (W.sub _ q)
  have up : ∀ b ∈ wr, b ∈ S :: wr := fun b q => .tail _ q
  intro m
  induction m with
  | zero =>
    rintro i s rfl st x fin
    refine codeAny_builtin PyProof.Rows.F.entry_set_update_loop (show _ from ?_)
    rw [Around.under_plainId PyProof.Rows.F.plain_set_update_loop]
    refine show wpAny _ A.in1 (pyNext (.ref I) >>= _) _ _ s from wpAny_bind (W.done s _ _ st fun s' mv => ?_)
    rw [List.take_of_length_le (show ks.length ≤ i from Nat.le_of_eq hl)] at x
    exact show wpAny _ A.in1 (ret Value.none) _ _ s' from wpAny_pure (fin s' (mv.mono up) (x.moved fun o => mv.heap S o nw))
  | succ m ih =>
    rintro i s him st x fin
    have lt : i < n := by omega
    refine codeAny_builtin PyProof.Rows.F.entry_set_update_loop (show _ from ?_)
    rw [Around.under_plainId PyProof.Rows.F.plain_set_update_loop]
    refine show wpAny _ A.in1 (pyNext (.ref I) >>= _) _ _ s from wpAny_bind (W.item i s _ _ lt st fun v s' pv st' mv => ?_)
    obtain ⟨k, hk, isk, sc⟩ := hv i v pv
    have x' := x.moved (h' := s'.heap) fun o => mv.heap S o nw
    refine show wpAny _ A.in1 (holding [v] (setAdd S v) >>= _) _ _ s' from wpAny_bind (wpAny_holding ?_)
    unfold setAdd
    refine wpAny_holding (wpAny_bind ((lk prog w).pyHash (k := k) isk ?_))
    have room : (onces (ks.take i)).length + 1 < scanBound := by
      have q := onces_le (ks.take i)
      rw [List.length_take] at q
      omega
    refine wpAny_setAddHashed_of (knd := lk prog w) (s := { s' with toks := s'.toks + 1 }) isk sc x' room fun h' sb x2 => ?_
    have x3 : SetIs prog w h' S (ks.take (i + 1)) := by
      rw [List.take_add_one, hk]
      exact SetIs.more x2
    have oth : ∀ b o, b ≠ S → s'.heap.get? b = some o → h'.get? b = some o := fun b o q e => (sb.2 b q).trans e
    refine wpAny_pure ⟨plainId_quiet PyProof.Rows.F.plain_set_update_loop _, ih (i + 1) _ (by omega) (W.frame _ s' _ _ st' (Nat.le_succ _) fun b q o e => oth b o (fun z => nS (z ▸ q)) e) x3 fun s2 mv2 xx => fin s2 ?_ xx⟩
    exact Moved.trans W.gtrans ((mv.mono up).then_heap (Nat.le_succ _) fun b o q e => oth b o (fun z => q (z ▸ List.mem_cons_self)) e) mv2
end
section
variable {prog : Program} {w : World} {A : Around} {E : Value → Shared → Prop} {s : Shared}
/-- set() as it is made -/
abbrev voidSet (led : Bool) : Obj := { cls := .type "set", dict := none, data := .set #[] 0 (.fresh 0 0 led) }
theorem void_is {h : Heap} {S : Addr} {led : Bool} (e : h.get? S = some (voidSet led)) : SetIs prog w h S [] := by
  have q := (PyProof.Rows.setObjOf_fresh (knd := lk prog w) led).setOf e (by unfold scanBound; omega)
  unfold SetIs
  rw [show (fun k : Leaf => decide (k ∈ onces [])) = fun _ => false from funext fun k => decide_eq_false fun q => nomatch q]
  exact q
set_option maxHeartbeats 3200000 in
/-- set(xs) of a list of keys -/
theorem setcall {l : Addr} {items : Array Value} {ks : List Leaf} {Q : Value → Shared → Prop} (hh : A.handled = none) (hl : s.heap.IsList l items) (hlen : ks.length = items.size)
    (hv : ∀ (i : Nat) v, items[i]? = some v → ∃ k, ks[i]? = some k ∧ Leaf.isOf k v = true ∧ v.scannable = true) (room : items.size + 1 < scanBound)
    (q : ∀ (h' : Heap) (tk : Nat), SetIs prog w h' s.heap.objs.size ks → (∀ b o, b < s.heap.objs.size → s.heap.get? b = some o → h'.get? b = some o) → Q (.ref s.heap.objs.size) { s with heap := h', toks := tk }) :
    wpAny (model prog w) A (call (.type "set") [.ref l]) Q E s := by
  obtain ⟨c0, t0, mro0⟩ := PySem.F.called_set.mro
  have made0 := PySem.F.called_set.made; have sub0 := PySem.F.called_set.sub
  refine wpAny_call (codeAny_of_tree (show wpAny _ _ (callAny (.type "set") _) _ _ _ from ?_))
  refine wpAny_pure ⟨Code.quiet_builtin _ (by decide +kernel), codeAny_builtin PySem.F.entry_type_call (show _ from ?_)⟩
  rw [Around.under_plain (weight_type_call_type "set" [.ref l] []) rfl]
  have n1 := PySem.F.called_set.notType; have n2 := PySem.F.called_set.canCreate; have n3 := PySem.F.typeCall_set_1 (.ref l)
  repeat (any_goals (first | assumption | wp_step))
  refine codeAny_mono (code_set_new_1 (.ref l) (E := E) (Q₁ := fun v s1 => ∃ led, v = .ref s.heap.objs.size ∧ s1 = { s with heap := s.heap.push (voidSet led) }) fun led => ⟨led, rfl, rfl⟩) fun r s1 hr => ?_
  rcases r with e | fl
  · exact hr
  cases fl with
  | ret v =>
    obtain ⟨led, rfl, rfl⟩ := hr
    have atS : (s.heap.push (voidSet led)).get? s.heap.objs.size = some (voidSet led) := Heap.get?_push_size _ rfl
    have tyS : Shared.TypeIs { s with heap := s.heap.push (voidSet led) } (.ref s.heap.objs.size) "set" := ⟨_, atS, rfl⟩
    have n4 := PySem.F.called_set.init.lookup; have n5 := PySem.F.called_set.init.bind (.ref s.heap.objs.size)
    repeat (any_goals (first | assumption | wp_step))
    refine codeAny_mono (codeAny_call_builtin (R := wants (fun r s2 => r = .none ∧ ∃ h' tk, s2 = { s with heap := h', toks := tk } ∧ SetIs prog w h' s.heap.objs.size ks ∧
      ∀ b o, b < s.heap.objs.size → s.heap.get? b = some o → h'.get? b = some o) E) PySem.F.called_set.init.plain PySem.F.entry_set_init (check_set_init_1 tyS ?_)) fun r2 s2 hr2 => ?_
    · obtain ⟨⟨oc, od, oda, os⟩, lo, lc, ln, ld⟩ := hl
      dsimp only at lc ld
      subst lc; subst ld
      have lo' : (s.heap.push (voidSet led)).get? l = some { cls := .type "list", dict := od, data := .seq items ln, slots := os } := Heap.get?_push_of_some _ lo
      have m1 := PySem.F.sub_list_set; have m2 := PySem.F.sub_list_frozenset
      have m3 : (Value.type "list" == Value.type "dict") = false := by decide
      have li : (s.heap.push (voidSet led)).IsList l items := ⟨_, lo', rfl, ln, rfl⟩
      unfold Builtin.«set.__init__» noKeywords Builtin.Frozenset.updateFrom
      generalize hPI : pyIter = PI
      wp_walk
      subst hPI
      refine wpAny_pyIter_list li (wpAny_bind (wpAny_runValue (show _ from ?_)))
      have ll : l < s.heap.objs.size := Heap.lt_size lo
      have hd3 : A.in1.in1.in1.handled = none := by simp [hh]
      have sz1 : (s.heap.push (voidSet led)).objs.size = s.heap.objs.size + 1 := Heap.size_push ..
      have lI : l ≠ (s.heap.push (voidSet led)).objs.size := fun q => Nat.lt_irrefl _ (Nat.lt_trans ll (q ▸ sz1 ▸ Nat.lt_succ_self _))
      have nS : s.heap.objs.size ∉ [(s.heap.push (voidSet led)).objs.size, l] := by
        intro q
        rcases List.mem_cons.mp q with q | q
        · exact Nat.ne_of_lt (Nat.lt_succ_self _) (q.trans sz1)
        · exact Nat.ne_of_gt ll (List.mem_singleton.mp q)
      refine setloop ((Walks.list hd3 _ l lI items).toS) nS hlen room hv items.size 0 _ (Nat.zero_add _) ⟨⟨_, Heap.get?_push_size _ rfl, rfl, rfl⟩, li.push _⟩ (void_is (Heap.get?_push_of_some _ atS)) ?_
      rintro ⟨h', g', d', tk', os'⟩ mv x
      have e1 : g' = s.gens := mv.gens; have e2 : d' = s.drawn := mv.drawn; have e3 : os' = s.os := mv.os
      subst e1; subst e2; subst e3
      refine show wpAny _ _ _ _ _ _ from wpAny_pure (show wpAny _ _ (ret Value.none) _ _ _ from wpAny_pure ⟨rfl, h', tk', rfl, x, fun b o lt e => ?_⟩)
      refine mv.heap b o (fun q => ?_) (Heap.get?_push_of_some _ (Heap.get?_push_of_some _ e))
      rcases List.mem_cons.mp q with q | q
      · exact Nat.ne_of_lt lt q
      · exact Nat.ne_of_lt (Nat.lt_succ_of_lt lt) ((List.mem_singleton.mp q).trans sz1)
    · rcases r2 with e | fl2
      · exact hr2
      cases fl2 with
      | ret r3 =>
        obtain ⟨rfl, h', tk, rfl, x, kp⟩ := hr2
        repeat (any_goals (first | assumption | wp_step))
        exact q _ _ x kp
      | _ => exact hr2.elim
  | _ => exact hr.elim
end
section
variable {X : Cx}
def lfO : Option Str → Leaf
  | none => .none
  | some z => .text z
theorem lfO_inj {a b : Option Str} (e : lfO a = lfO b) : a = b := by
  cases a <;> cases b <;> first | rfl | (injection e with e; rw [e]) | exact nomatch e
theorem lfO_of {o : Option Str} {u : Value} (r : RelV (optV o) u) : Leaf.isOf (lfO o) u = true ∧ u.scannable = true := by
  cases o with
  | none =>
    have e : u = Value.none := r
    subst e
    exact ⟨rfl, rfl⟩
  | some z =>
    obtain ⟨t, rfl⟩ := r
    exact ⟨by show (z == z) = true; simp, rfl⟩
theorem lfO_nodup {xs : List (Option Str)} : (xs.map lfO).Nodup ↔ xs.Nodup := by
  induction xs with
  | nil => exact ⟨fun _ => List.nodup_nil, fun _ => List.nodup_nil⟩
  | cons x xs ih =>
    rw [List.map_cons, List.nodup_cons, List.nodup_cons, ih]
    refine and_congr_left fun _ => not_congr ⟨fun h => ?_, fun h => List.mem_map.mpr ⟨x, h, rfl⟩⟩
    obtain ⟨y, hy, e⟩ := List.mem_map.mp h
    exact lfO_inj e ▸ hy
/-- len(set(xs)), a list of texts and None -/
def tLenSetO (K : PySem.W.Frag) (ta : TE) : TE := fun σ H Q => ta σ H fun x H1 => ∃ (l : Addr) (xs : List (Option Str)), x = .ref l ∧ SqL K H1 l (xs.map optV) ∧ xs.length ≤ 1000 ∧ Q (.int (onces (xs.map lfO)).length) H1
theorem pe_lenSetO {a : Expr} {ta : TE} {p p2 q pos : PySem.Pos} (hc : X.calm = true) (hg : Gl X "len") (hm : X.mg "len" = none) (hg2 : Gl X "set") (hm2 : X.mg "set" = none) (ha : PE X a ta)
    (na : starEach [a] X.env = (false, eval a X.env) :: starEach [] X.env := by rfl) : PE X (.Call (.Name "len" p) [.Call (.Name "set" p2) [a] [] q] [] pos) (tLenSetO X.K ta) := by
  refine ⟨fun pins s σ H Q I h => Call_ (ld_blt I hg hm boot_len ?_)⟩
  refine PyProof.Rows.callWith_builtin1 (PyProof.Rows.args_cons (Call_ (ld_blt I hg2 hm2 boot_set ?_)) rfl) rfl rfl
  refine PyProof.Rows.callWith_type1 (PyProof.Rows.args_cons (thn (ha.run pins s σ H _ I h) fun v s1 ⟨x, H1, I1, r1, q1⟩ => PyProof.Rows.args_nil ?_) na) na rfl
  obtain ⟨l, xs, rfl, hq, le, q1⟩ := q1
  cases r1
  obtain ⟨its, r, pl, _⟩ := I1.list hq
  have sz : its.toArray.size = xs.length := by rw [List.size_toArray, ← r.length, List.length_map]
  refine setcall (ks := xs.map lfO) (I1.ok.hd hc) pl.isList (by rw [List.length_map, sz]) (fun i v hi => ?_) (by rw [sz]; unfold scanBound; omega) fun h' tk x kp => PyProof.Rows.args_nil ?_
  · rw [List.getElem?_toArray] at hi
    have lt : i < xs.length := by
      rw [← sz, List.size_toArray]
      exact (List.getElem?_eq_some_iff.mp hi).1
    obtain ⟨u, hu, ru⟩ := Vals.get (i := i) (x := optV xs[i]) r (by rw [List.getElem?_map, List.getElem?_eq_getElem lt]; rfl)
    rw [hi] at hu
    cases hu
    exact ⟨lfO xs[i], by rw [List.getElem?_map, List.getElem?_eq_getElem lt]; rfl, lfO_of ru⟩
  · obtain ⟨o, es, ep, t, ho, hex, hd, _, _, _, hf, hn⟩ := x
    have I2 : Inv X pins σ H1 { s1 with heap := h', toks := tk } := I1.kept fun b o e => kp b o (Heap.lt_size e) e
    have le2 := onces_le (xs.map lfO)
    rw [List.length_map] at le2
    exact call_len_set ho hex hd hf (by rw [hn]; omega) ⟨.int (onces (xs.map lfO)).length, H1, I2.tok _, ⟨_, by rw [hn]⟩, q1⟩
end
/-! ### placing a treaty, whatever its panel -/
inductive PlcE where
  | known (z : Str) | twice | own
def pnames (ps : List (Option Str × Int)) : List (Option Str) := ps.map (·.1)
/-- the first participant that there is not -/
def firstUn (ins : List Str) : List (Option Str) → Option Str
  | [] => none
  | none :: t => firstUn ins t
  | some z :: t => if z ∈ ins then firstUn ins t else some z
def placed (c : Str) (ps : List (Option Str × Int)) (ins : List Str) : Option PlcE :=
  if c ∉ ins then some (.known c) else
    match firstUn ins (pnames ps) with
    | some z => some (.known z)
    | none => if ¬ (pnames ps).Nodup then some .twice else if some c ∈ pnames ps then some .own else none
theorem firstUn_add (ins : List Str) : ∀ (l r : List (Option Str)), firstUn ins l = none → firstUn ins (l ++ r) = firstUn ins r
  | [], r, _ => rfl
  | none :: t, r, h => firstUn_add ins t r h
  | some z :: t, r, h => by
    by_cases q : z ∈ ins
    · have h2 : firstUn ins t = none := by
        rw [← h]
        exact (if_pos q).symm
      exact (if_pos q).trans (firstUn_add ins t r h2)
    · exact absurd (h.symm.trans (if_neg q)) (fun e => by cases e)
theorem firstUn_at {ins : List Str} {l : List (Option Str)} {i : Nat} {z : Str} (h : firstUn ins (l.take i) = none) (e : l[i]? = some (some z)) (q : z ∉ ins) : firstUn ins l = some z := by
  have d : l = l.take i ++ (some z :: l.drop (i + 1)) := by
    obtain ⟨h1, h2⟩ := List.getElem?_eq_some_iff.mp e
    rw [← h2, ← List.drop_eq_getElem_cons h1, List.take_append_drop]
  rw [d, firstUn_add ins _ _ h]
  exact if_neg q
theorem firstUn_next {ins : List Str} {l : List (Option Str)} {i : Nat} {o : Option Str} (h : firstUn ins (l.take i) = none) (e : l[i]? = some o) (q : ∀ z, o = some z → z ∈ ins) : firstUn ins (l.take (i + 1)) = none := by
  rw [List.take_add_one, e, firstUn_add ins _ _ h]
  cases o with
  | none => rfl
  | some z => exact (if_pos (q z rfl)).trans rfl
theorem optV_inj {a b : Option Str} (e : optV a = optV b) : a = b := by
  cases a <;> cases b <;> first | rfl | (injection e with e; rw [e]) | exact nomatch e
theorem inV_opt {c : Str} {l : List (Option Str)} : inV (.str c) (l.map optV) = decide (some c ∈ l) := by
  unfold inV
  rw [List.any_map]
  by_cases h : some c ∈ l
  · rw [decide_eq_true h, List.any_eq_true]
    exact ⟨some c, h, by simp [eqV, optV]⟩
  · rw [decide_eq_false h, List.any_eq_false]
    intro o ho e
    cases o with
    | none => exact nomatch (show false = true from e)
    | some y =>
      have e2 : y = c := by simpa [eqV, optV] using e
      exact h (e2 ▸ ho)
theorem flat_optVs : ∀ l : List (Option Str), (l.map optV).all flatV = true
  | [] => rfl
  | none :: t => flat_optVs t
  | some _ :: t => flat_optVs t
/-- the end of check_placed -/
def PlcEnd (CN CT CO : Addr) (H : Hp) (r : Option PlcE) (Q : VK) (E : XK) : Prop :=
  match r with
  | none => ∀ H', Same H H' → Q .non H'
  | some (.known z) => ∀ H' d, Same H H' → H' d = some (.xd [("name", .str z)]) → E (.ref CN) (some d) H'
  | some .twice => ∀ H', Same H H' → E (.ref CT) none H'
  | some .own => ∀ H', Same H H' → E (.ref CO) none H'
def sp_check_placed (K : PySem.W.Frag) (CN CT CO : Addr) : Sp := fun vs H Q E => ∃ (c : Str) (x : V) (a : Addr) (ins : List Str) (ps : List (Option Str × Int)), vs = [.str c, x, .ref a] ∧ PanAt K H x ps ∧ ps.length ≤ 1000 ∧ SqT K H a (ins.map V.str) ∧
  PlcEnd CN CT CO H (placed c ps ins) Q E
/-! ### changes of a market that are well told: taken, or NoEnd -/
def sp_check_treaty (K : PySem.W.Frag) : Sp := fun vs H Q _ => ∃ (n : Int) (a : Addr) (xs : List V), vs = [.int n, .ref a] ∧ SqT K H a xs ∧ 0 ≤ n ∧ n < (xs.length : Int) ∧ Q .non H
/-- what becomes of a change: taken with M', or no end -/
def Fates (K : PySem.W.Frag) (C CN : Addr) (H : Hp) (m : Addr) (M' : Mkt) (Q : Hp → Prop) (E : XK) : Prop :=
  ((∀ e ∈ M'.evs, fate M'.ins M'.trs (directs M'.ins M'.los e) true) ∧ ∀ H', Bar m H H' → MktAt K C H' m M' → Q H') ∨ ((∃ e ∈ M'.evs, fate M'.ins M'.trs (directs M'.ins M'.los e) false) ∧ ∀ H', Same H H' → E (.ref CN) none H')
/-! ### a treaty's deed, whatever is given -/
def sp_add_treaty (K : PySem.W.Frag) (C CB CC CP CN CT CO CM CE : Addr) : Sp := fun vs H Q E => ∃ (m : Addr) (x y w : V) (M : Mkt), vs = [.ref m, x, y, w] ∧ MktAt K C H m M ∧
  ((NoName K H x ∧ ∀ H', Same H H' → E (.ref CB) none H') ∨ (IsName x ∧ NoCov K H y ∧ ∀ H', Same H H' → E (.ref CC) none H') ∨ (IsName x ∧ IsCovV K H y ∧ NoPan K H w ∧ ∀ H', Same H H' → E (.ref CP) none H') ∨
    ∃ (c : Str) (vc : Addr) (cov : Cov) (ps : List (Option Str × Int)), x = .str c ∧ IsName x ∧ y = .ref vc ∧ SqT K H vc (cvV cov) ∧ CvOk cov ∧ PanAt K H w ps ∧ PanOk ps ∧
      ((∃ e, placed c ps M.ins = some e ∧ PlcEnd CN CT CO H (some e) Q E) ∨ (placed c ps M.ins = none ∧ 16 ≤ M.trs.length ∧ M.trs.length ≤ 100000 ∧ ∀ H', Same H H' → E (.ref CM) none H') ∨
        (placed c ps M.ins = none ∧ M.trs.length < 16 ∧ TrsOk M.ins (M.trs ++ [⟨c, cov, ps, false⟩]) ∧ M.evs.length ≤ 1000 ∧ Fates K C CE H m { M with trs := M.trs ++ [⟨c, cov, ps, false⟩] } (Q (.int ((M.trs.length : Nat) : Int))) E)))
theorem cut_to (xs : List V) (k : Nat) : cutV xs none (some (k : Int)) = xs.take k := by
  unfold cutV
  rw [HT.sIx_none, HT.sIx_nat, List.drop_zero, Nat.sub_zero]
  by_cases h : k ≤ xs.length
  · rw [Nat.min_eq_left h]
  · rw [Nat.min_eq_right (by omega), List.take_of_length_le (Nat.le_refl _), List.take_of_length_le (by omega)]
theorem cut_from (xs : List V) (k : Nat) : cutV xs (some (k : Int)) none = xs.drop k := by
  unfold cutV
  rw [HT.sIx_none, HT.sIx_nat]
  by_cases h : k ≤ xs.length
  · rw [Nat.min_eq_left h]
    exact List.take_of_length_le (by rw [List.length_drop]; exact Nat.le_refl _)
  · rw [Nat.min_eq_right (by omega), List.drop_eq_nil_of_le (Nat.le_refl _), List.drop_eq_nil_of_le (by omega)]
    exact List.take_nil
/-- a treaty is ended -/
def endT (ts : List Trt) (n : Nat) : List Trt := ts.set n { (ts.getD n ⟨"", .share 1, [], false⟩) with ended := true }
theorem endT_at {ts : List Trt} {n : Nat} {t : Trt} (h : ts[n]? = some t) : endT ts n = ts.take n ++ { t with ended := true } :: ts.drop (n + 1) := by
  obtain ⟨h1, h2⟩ := List.getElem?_eq_some_iff.mp h
  unfold endT
  rw [List.getD_eq_getElem?_getD, h, List.set_eq_take_append_cons_drop, if_pos h1]
  rfl
def sp_terminate (K : PySem.W.Frag) (C CN : Addr) : Sp := fun vs H Q E => ∃ (m : Addr) (n : Nat) (M : Mkt) (t : Trt), vs = [.ref m, .int (n : Int)] ∧ MktAt K C H m M ∧ M.trs[n]? = some t ∧ t.ended = false ∧ TrsOk M.ins (endT M.trs n) ∧ M.evs.length ≤ 1000 ∧ M.trs.length ≤ 16 ∧
  Fates K C CN H m { M with trs := endT M.trs n } (Q .non) E
/-- a loss that is set: in its place, or behind -/
def setL (L : List ((Str × Str) × Int)) (e z : Str) (n : Int) : List ((Str × Str) × Int) :=
  if (L.any fun p => decide (p.1 = (e, z))) = true then L.map fun p => if p.1 = (e, z) then (p.1, n) else p else L ++ [((e, z), n)]
theorem lkv_put (L : List ((Str × Str) × Int)) (e z : Str) (n : Int) : putK (lkv L) [.inr e, .inr z] (.int n) = lkv (setL L e z n) := by
  have ha : ((lkv L).any fun kv => decide (kv.1 = [.inr e, .inr z])) = L.any fun p => decide (p.1 = (e, z)) := by
    unfold lkv
    rw [List.any_map]
    congr 1
    funext p
    by_cases h : p.1 = (e, z)
    · show decide (([.inr p.1.1, .inr p.1.2] : List Key) = [.inr e, .inr z]) = _
      rw [decide_eq_true h, decide_eq_true (key2.mpr h)]
    · show decide (([.inr p.1.1, .inr p.1.2] : List Key) = [.inr e, .inr z]) = _
      rw [decide_eq_false h, decide_eq_false (fun q => h (key2.mp q))]
  unfold putK setL
  rw [ha]
  cases hb : (L.any fun p => decide (p.1 = (e, z))) with
  | true =>
    rw [if_pos rfl, if_pos rfl]
    unfold lkv
    rw [List.map_map, List.map_map]
    congr 1
    funext p
    by_cases h : p.1 = (e, z)
    · show (if ([.inr p.1.1, .inr p.1.2] : List Key) = [.inr e, .inr z] then _ else _) = ((fun q : (Str × Str) × Int => (([.inr q.1.1, .inr q.1.2] : List Key), V.int q.2)) (if p.1 = (e, z) then (p.1, n) else p))
      rw [if_pos h, if_pos (key2.mpr h)]
    · show (if ([.inr p.1.1, .inr p.1.2] : List Key) = [.inr e, .inr z] then _ else _) = ((fun q : (Str × Str) × Int => (([.inr q.1.1, .inr q.1.2] : List Key), V.int q.2)) (if p.1 = (e, z) then (p.1, n) else p))
      rw [if_neg h, if_neg (fun q => h (key2.mp q))]
  | false =>
    rw [if_neg Bool.false_ne_true, if_neg Bool.false_ne_true]
    unfold lkv
    rw [List.map_append]
    rfl
theorem putT_new {kvs : List (List Key × V)} {k : List Key} {v : V} (h : ∀ p ∈ kvs, p.1 ≠ k) : putK kvs k v = kvs ++ [(k, v)] := by
  unfold putK
  rw [if_neg]
  intro e
  obtain ⟨p, hp, e2⟩ := List.any_eq_true.mp e
  exact h p hp (of_decide_eq_true e2)
theorem lkv_at {L : List ((Str × Str) × Int)} {i : Nat} {k : List Key} {v : V} (h : (lkv L)[i]? = some (k, v)) : ∃ p, L[i]? = some p ∧ k = [.inr p.1.1, .inr p.1.2] ∧ v = .int p.2 := by
  unfold lkv at h
  rw [List.getElem?_map] at h
  cases e : L[i]? with
  | none =>
    rw [e] at h
    cases h
  | some p =>
    rw [e] at h
    have h := Option.some.inj h
    exact ⟨p, rfl, (congrArg Prod.fst h).symm, (congrArg Prod.snd h).symm⟩
theorem nd_at {α : Type} {xs : List α} (h : xs.Nodup) {i j : Nat} {x : α} (hi : xs[i]? = some x) (hj : xs[j]? = some x) : i = j := by
  obtain ⟨i1, i2⟩ := List.getElem?_eq_some_iff.mp hi
  obtain ⟨j1, j2⟩ := List.getElem?_eq_some_iff.mp hj
  by_cases c : i < j
  · exact absurd (i2.trans j2.symm) (List.pairwise_iff_getElem.mp h i j i1 j1 c)
  · by_cases d : j < i
    · exact absurd (j2.trans i2.symm) (List.pairwise_iff_getElem.mp h j i j1 i1 d)
    · omega
theorem lkv_nd {L : List ((Str × Str) × Int)} (h : (L.map (·.1)).Nodup) {i : Nat} {k : List Key} {v : V} (hi : (lkv L)[i]? = some (k, v)) : ∀ p ∈ (lkv L).take i, p.1 ≠ k := by
  intro p hp e
  obtain ⟨j, hj⟩ := List.getElem?_of_mem hp
  rw [List.getElem?_take] at hj
  split at hj
  · rename_i hji
    obtain ⟨p1, h1, h2, _⟩ := lkv_at hi
    obtain ⟨p2, g1, g2, _⟩ := lkv_at (k := p.1) (v := p.2) hj
    rw [e, h2] at g2
    have eq : p1.1 = p2.1 := key2.mp g2
    have := nd_at h (i := i) (j := j) (x := p1.1) (by rw [List.getElem?_map, h1]; rfl) (by rw [List.getElem?_map, g1, eq]; rfl)
    omega
  · cases hj
theorem lkv_is : ∀ {L : List ((Str × Str) × Int)}, (L.map (·.1)).Nodup → ∀ {i : Nat} {k : List Key} {v : V}, (lkv L)[i]? = some (k, v) → valV (lkv L) k = some v
  | [], _, i, k, v, hi => by
    obtain ⟨p, hp, _⟩ := lkv_at hi
    simp at hp
  | p :: r, h, 0, k, v, hi => by
    obtain ⟨q, hq, rfl, rfl⟩ := lkv_at hi
    cases Option.some.inj hq
    exact valV_pos rfl
  | p :: r, h, i + 1, k, v, hi => by
    obtain ⟨q, hq, rfl, rfl⟩ := lkv_at hi
    have hq : r[i]? = some q := hq
    rw [List.map_cons, List.nodup_cons] at h
    have hi2 : (lkv r)[i]? = some ([.inr q.1.1, .inr q.1.2], .int q.2) := hi
    show valV (([.inr p.1.1, .inr p.1.2], V.int p.2) :: lkv r) _ = _
    rw [valV_neg (fun e => h.1 (by
      have e2 : p.1 = q.1 := key2.mp e
      rw [e2]
      exact List.mem_map.mpr ⟨q, List.mem_of_getElem? hq, rfl⟩))]
    exact lkv_is h.2 hi2
def sp_set_loss (K : PySem.W.Frag) (C CN : Addr) : Sp := fun vs H Q E => ∃ (m : Addr) (e z : Str) (n : Int) (M : Mkt), vs = [.ref m, .str e, .str z, .int n] ∧ MktAt K C H m M ∧ IsName (.str e) ∧ IsName (.str z) ∧ btw (.int n) 0 100000 = true ∧ e ∈ M.evs ∧ z ∈ M.ins ∧ (M.los.map (·.1)).Nodup ∧ M.los.length ≤ 1000 ∧ TrsOk M.ins M.trs ∧ M.evs.length ≤ 1000 ∧
  Fates K C CN H m { M with los := setL M.los e z n } (Q .non) E
/-! ### rounds of a market's event, known or not -/
def sp_rounds_of (K : PySem.W.Frag) (C CS : Addr) : Sp := fun vs H Q E => ∃ (m : Addr) (M : Mkt) (e : Str), vs = [.ref m, .str e] ∧ MktAt K C H m M ∧ TrsOk M.ins M.trs ∧
  ((e ∉ M.evs ∧ ∀ d H', Same H H' → H' d = some (.xd [("name", .str e)]) → E (.ref CS) (some d) H') ∨
  (e ∈ M.evs ∧ ∃ i, i ≤ 200 ∧ row M.ins M.trs (directs M.ins M.los e) (i + 1) = row M.ins M.trs (directs M.ins M.los e) i ∧ (∀ j, j < i → row M.ins M.trs (directs M.ins M.los e) (j + 1) ≠ row M.ins M.trs (directs M.ins M.los e) j) ∧ big (row M.ins M.trs (directs M.ins M.los e) i) = false ∧
    ∀ p H', Same H H' → RowsAt K H' p ((List.range (i + 1)).map (row M.ins M.trs (directs M.ins M.los e))) → Q (.ref p) H'))
/-- the fixed round -/
def sp_settled (K : PySem.W.Frag) (C CS : Addr) : Sp := fun vs H Q E => ∃ (m : Addr) (M : Mkt) (e : Str), vs = [.ref m, .str e] ∧ MktAt K C H m M ∧ TrsOk M.ins M.trs ∧
  ((e ∉ M.evs ∧ ∀ d H', Same H H' → H' d = some (.xd [("name", .str e)]) → E (.ref CS) (some d) H') ∨
  (e ∈ M.evs ∧ ∃ i, i ≤ 200 ∧ row M.ins M.trs (directs M.ins M.los e) (i + 1) = row M.ins M.trs (directs M.ins M.los e) i ∧ (∀ j, j < i → row M.ins M.trs (directs M.ins M.los e) (j + 1) ≠ row M.ins M.trs (directs M.ins M.los e) j) ∧ big (row M.ins M.trs (directs M.ins M.los e) i) = false ∧
    ∀ p H', Same H H' → SqT K H' p ((row M.ins M.trs (directs M.ins M.los e) i).map V.int) → Q (.ref p) H'))
/-- what one participant has of an amount -/
def partOf (o : Option Str) : List ((Option Str × Int) × Int) → Int
  | [] => 0
  | e :: t => (if e.1.1 = o then e.2 else 0) + partOf o t
def partL (o : Option Str) (l : List ((Option Str × Int) × Int)) : List Int := (l.filter (fun e => decide (e.1.1 = o))).map (·.2)
theorem partL_cons {o : Option Str} {e : (Option Str × Int) × Int} {t : List ((Option Str × Int) × Int)} : partL o (e :: t) = (if e.1.1 = o then [e.2] else []) ++ partL o t := by
  unfold partL
  rw [List.filter_cons]
  by_cases h : e.1.1 = o
  · simp only [h, decide_true, if_true, List.map_cons]
    rfl
  · simp only [h, decide_false, if_false, Bool.false_eq_true]
    rfl
theorem partL_sum (o : Option Str) : ∀ l : List ((Option Str × Int) × Int), (partL o l).sum = partOf o l
  | [] => rfl
  | e :: t => by
    rw [partL_cons, List.sum_append, partL_sum o t]
    show _ = (if e.1.1 = o then e.2 else 0) + partOf o t
    by_cases h : e.1.1 = o
    · rw [if_pos h, if_pos h, List.sum_cons, List.sum_nil, Int.add_zero]
    · rw [if_neg h, if_neg h, List.sum_nil]
theorem partL_step {o : Option Str} {l : List ((Option Str × Int) × Int)} {i : Nat} {e : (Option Str × Int) × Int} (h : l[i]? = some e) :
    partL o (l.take (i + 1)) = partL o (l.take i) ++ if e.1.1 = o then [e.2] else [] := by
  have e2 : partL o [e] = if e.1.1 = o then [e.2] else [] := by
    rw [partL_cons]
    exact List.append_nil _
  rw [List.take_add_one, h, ← e2]
  unfold partL
  rw [List.filter_append, List.map_append]
  rfl
def sp_part_of (K : PySem.W.Frag) : Sp := fun vs H Q _ => ∃ (x : V) (ps : List (Option Str × Int)) (o : Option Str) (m : Int), vs = [x, optV o, .int m] ∧ PanAt K H x ps ∧ PanOk ps ∧
  ∀ H', Same H H' → Q (.int (partOf o (ps.zip (alloc m (shs ps))))) H'
/-- one round more of any state -/
def sp_next_round (K : PySem.W.Frag) (C : Addr) : Sp := fun vs H Q _ => ∃ (m b : Addr) (M : Mkt) (e : Str) (gs : List Int), vs = [.ref m, .str e, .ref b] ∧ MktAt K C H m M ∧ TrsOk M.ins M.trs ∧ e ∈ M.evs ∧ SqT K H b (gs.map V.int) ∧
  ∀ p H', Same H H' → H' p = some (.tup ((nextG M.ins M.trs (directs M.ins M.los e) gs).map V.int)) → Q (.ref p) H'
def sp_next_roundX (K : PySem.W.Frag) (C CS : Addr) : Sp := fun vs H Q E => ∃ (m b : Addr) (M : Mkt) (e : Str) (gs : List Int), vs = [.ref m, .str e, .ref b] ∧ MktAt K C H m M ∧ TrsOk M.ins M.trs ∧ SqT K H b (gs.map V.int) ∧
  ((e ∉ M.evs ∧ ∀ d H', Same H H' → H' d = some (.xd [("name", .str e)]) → E (.ref CS) (some d) H') ∨ (e ∈ M.evs ∧
  ∀ p H', Same H H' → H' p = some (.tup ((nextG M.ins M.trs (directs M.ins M.los e) gs).map V.int)) → Q (.ref p) H'))
/-- what those outside bear, treaty by treaty -/
def outs (ts : List Trt) (ins : List Str) (gs : List Int) : List Int := (ts.zip (tpay ts ins gs)).map fun e => partOf none (e.1.pan.zip (alloc e.2 (shs e.1.pan)))
def sp_external (K : PySem.W.Frag) (C : Addr) : Sp := fun vs H Q _ => ∃ (m : Addr) (M : Mkt) (e : Str), vs = [.ref m, .str e] ∧ MktAt K C H m M ∧ TrsOk M.ins M.trs ∧ e ∈ M.evs ∧
  ∃ i, i ≤ 200 ∧ row M.ins M.trs (directs M.ins M.los e) (i + 1) = row M.ins M.trs (directs M.ins M.los e) i ∧ (∀ j, j < i → row M.ins M.trs (directs M.ins M.los e) (j + 1) ≠ row M.ins M.trs (directs M.ins M.los e) j) ∧ big (row M.ins M.trs (directs M.ins M.los e) i) = false ∧
    ∀ p H', Same H H' → H' p = some (.tup ((outs M.trs M.ins (row M.ins M.trs (directs M.ins M.los e) i)).map V.int)) → Q (.ref p) H'
def sp_externalX (K : PySem.W.Frag) (C CS : Addr) : Sp := fun vs H Q E => ∃ (m : Addr) (M : Mkt) (e : Str), vs = [.ref m, .str e] ∧ MktAt K C H m M ∧ TrsOk M.ins M.trs ∧
  ((e ∉ M.evs ∧ ∀ d H', Same H H' → H' d = some (.xd [("name", .str e)]) → E (.ref CS) (some d) H') ∨ (e ∈ M.evs ∧
  ∃ i, i ≤ 200 ∧ row M.ins M.trs (directs M.ins M.los e) (i + 1) = row M.ins M.trs (directs M.ins M.los e) i ∧ (∀ j, j < i → row M.ins M.trs (directs M.ins M.los e) (j + 1) ≠ row M.ins M.trs (directs M.ins M.los e) j) ∧ big (row M.ins M.trs (directs M.ins M.los e) i) = false ∧
    ∀ p H', Same H H' → H' p = some (.tup ((outs M.trs M.ins (row M.ins M.trs (directs M.ins M.los e) i)).map V.int)) → Q (.ref p) H'))
/-! ### for x, y, z in zip(v, w, u), each a list or a tuple -/
section
variable {X : Cx} {pins : List (Addr × Obj)} {σ : L2.St} {H : Hp} {s : Shared}
/-- a turn that hands out a new triple -/
theorem item_three {tg : Expr} {it : Addr} {fp' wr fp : List Addr} {n i : Nat} {Y : Nat → Heap → Value → Heap → Prop} {St : Nat → Heap → Prop} {E : Value → Shared → Prop} {x y z : V} {tn : Nat → Heap → Prop}
    (W : GoesN X.prog X.w X.A tg it fp' wr n Y St) (I : Inv X pins σ H s) (hf : ∀ b ∈ fp, FpOk X pins H b) (hw : ∀ b ∈ wr, b ∈ fp) (old : ∀ b ∈ fp, b < s.heap.objs.size) (hi : i < n) (st : St i s.heap)
    (hY : ∀ v h', Y i s.heap v h' → ∃ T u1 u2 u3, v = .ref T ∧ s.heap.objs.size ≤ T ∧ h'.IsTuple T #[u1, u2, u3] ∧ RelV x u1 ∧ RelV y u2 ∧ RelV z u3) (ht : ∀ h', St (i + 1) h' → tn (i + 1) h') :
    wpAny (model X.prog X.w) X.A (pyNext (.ref it)) (fun r s1 => ∃ u, r = some u ∧ wpAny (model X.prog X.w) X.A (letOwnedTupleGo tg (.ref it) u)
      (fun _ s2 => ∃ v H', Inv X pins σ H' s2 ∧ RelV v u ∧ (∃ T, v = .ref T ∧ H T = none ∧ H' = upd H T (.tup [x, y, z])) ∧ tn (i + 1) s2.heap ∧ ∀ b ∈ fp, H' b = none) E s1) E s := by
  refine W.goes i s _ E hi st fun v h' tk hy st' hk _ => ?_
  obtain ⟨T, u1, u2, u3, rfl, big, ⟨o, ho, hc, m, hd⟩, r1, r2, r3⟩ := hY v h' hy
  have new : ObjOk X.prog X.w (upd H T (.tup [x, y, z])) h' T (.tup [x, y, z]) := ⟨by show 3 ≤ sizeLine; decide, [u1, u2, u3], .cons r1 (.cons r2 (.cons r3 .nil)), ⟨o, ho, hc, m, hd⟩⟩
  have J : Inv X pins σ (upd H T (.tup [x, y, z])) { s with heap := h', toks := tk } := I.turnedNew (t' := tk) (ch := fp) (fun b u hb e => hk b u (fun z => hb (hw b z)) e) hf big new
  refine ⟨.ref T, _, J, rfl, ⟨T, rfl, I.hok.fresh big, rfl⟩, ht _ st', fun b hb => ?_⟩
  rw [upd_ne (Nat.ne_of_lt (Nat.lt_of_lt_of_le (old b hb) big))]
  exact (hf b hb).1
end
def ItT (K : PySem.W.Frag) (t1 t2 t3 : Bool) (a b c : Addr) : It :=
  ⟨fun i H => ∃ (xs ys zs : List V) (x y z : V), SqK t1 K H a xs ∧ SqK t2 K H b ys ∧ SqK t3 K H c zs ∧ xs[i]? = some x ∧ ys[i]? = some y ∧ zs[i]? = some z,
    fun i H v H' => ∃ T x y z, v = .ref T ∧ H T = none ∧ H' = upd H T (.tup [x, y, z]) ∧ (∀ xs, SqK t1 K H a xs → xs[i]? = some x) ∧ (∀ ys, SqK t2 K H b ys → ys[i]? = some y) ∧ ∀ zs, SqK t3 K H c zs → zs[i]? = some z,
    fun i H => ∃ xs ys zs : List V, SqK t1 K H a xs ∧ SqK t2 K H b ys ∧ SqK t3 K H c zs ∧ min (min xs.length ys.length) zs.length = i⟩
theorem turn_T {P : Program} {w : World} {K : PySem.W.Frag} {elts : List Expr} {kk : Nat} {tpos : PySem.Pos} {t1 t2 t3 : Bool} {a b c z TI TO i1 i2 i3 : Addr} (S : ZipSep3 z TI TO i1 i2 i3 [i1, a] [i2, b] [i3, c]) (n1 : a ≠ i1) (n2 : b ≠ i2) (n3 : c ≠ i3) :
    Turn P w K (.Tuple elts kk tpos) (ItT K t1 t2 t3 a b c) [z, TI, TO, i1, i2, i3] z (fun i h => IsZip h z TI TO .none ∧ IsTupOf3 h TI (.ref i1) (.ref i2) (.ref i3) ∧ (∃ a1 a2 a3, IsTupOf3 h TO a1 a2 a3) ∧ SIt t1 h i1 a i ∧ SIt t2 h i2 b i ∧ SIt t3 h i3 c i) where
  mem := List.mem_cons_self
  obj := fun i h st d hd => by
    obtain ⟨hz, hTI, ⟨x, y, u, hTO⟩, g1, g2, g3⟩ := st
    simp only [List.mem_cons, List.not_mem_nil, or_false] at hd
    rcases hd with rfl | rfl | rfl | rfl | rfl | rfl
    · exact ⟨_, hz, fun v q => nomatch q⟩
    · exact ⟨_, hTI, fun v q => nomatch q⟩
    · exact ⟨_, hTO, fun v q => nomatch q⟩
    · exact s_obj g1
    · exact s_obj g2
    · exact s_obj g3
  keep := fun i h h' st k => by
    obtain ⟨hz, hTI, ⟨x, y, u, hTO⟩, g1, g2, g3⟩ := st
    exact ⟨k z (by simp) _ hz, k TI (by simp) _ hTI, ⟨x, y, u, k TO (by simp) _ hTO⟩, s_keep g1 fun o q => k i1 (by simp) o q, s_keep g2 fun o q => k i2 (by simp) o q, s_keep g3 fun o q => k i3 (by simp) o q⟩
  item := by
    intro X hP hw hK hc i pins s σ H E I hf st hg
    subst hP hw hK
    obtain ⟨xs, ys, zs, x, y, v, hqx, hqy, hqz, hx, hy, hv⟩ := hg
    obtain ⟨its, rv, src, _⟩ := src_of I hqx
    obtain ⟨its2, rv2, src2, _⟩ := src_of I hqy
    obtain ⟨its3, rv3, src3, _⟩ := src_of I hqz
    obtain ⟨u, hu, ru⟩ := rv.get hx
    obtain ⟨u2, hu2, ru2⟩ := rv2.get hy
    obtain ⟨u3, hu3, ru3⟩ := rv3.get hv
    have D1 := s_draws (prog := X.prog) (w := X.w) (A := X.A.in1) t1 (I.ok.hd hc) i1 a n1 its.toArray
    have D2 := s_draws (prog := X.prog) (w := X.w) (A := X.A.in1) t2 (I.ok.hd hc) i2 b n2 its2.toArray
    have D3 := s_draws (prog := X.prog) (w := X.w) (A := X.A.in1) t3 (I.ok.hd hc) i3 c n3 its3.toArray
    have W := GoesN.zip3 (elts := elts) (x1 := kk) (pos := tpos) S D1 D2 D3
    obtain ⟨hz, hTI, ⟨x0, y0, z0, hTO⟩, g1, g2, g3⟩ := id st
    have old2 : ∀ d ∈ [z, TI, TO, i1, i2, i3], d < s.heap.objs.size := fun d hd => by
      simp only [List.mem_cons, List.not_mem_nil, or_false] at hd
      rcases hd with rfl | rfl | rfl | rfl | rfl | rfl
      · exact Heap.lt_size hz
      · exact Heap.lt_size hTI
      · exact Heap.lt_size hTO
      · obtain ⟨o, eo, _⟩ := s_obj g1
        exact Heap.lt_size eo
      · obtain ⟨o, eo, _⟩ := s_obj g2
        exact Heap.lt_size eo
      · obtain ⟨o, eo, _⟩ := s_obj g3
        exact Heap.lt_size eo
    have hlt : i < min (min its.toArray.size its2.toArray.size) its3.toArray.size := by
      have e1 := (List.getElem?_eq_some_iff.mp hu).1
      have e2 := (List.getElem?_eq_some_iff.mp hu2).1
      have e3 := (List.getElem?_eq_some_iff.mp hu3).1
      rw [List.size_toArray, List.size_toArray, List.size_toArray]
      omega
    have sub : ∀ d ∈ [z, TO, i1, i2, i3], d ∈ [z, TI, TO, i1, i2, i3] := fun d hd => by
      simp only [List.mem_cons, List.not_mem_nil, or_false] at hd ⊢
      rcases hd with h | h | h | h | h
      · exact .inl h
      · exact .inr (.inr (.inl h))
      · exact .inr (.inr (.inr (.inl h)))
      · exact .inr (.inr (.inr (.inr (.inl h))))
      · exact .inr (.inr (.inr (.inr (.inr h))))
    refine thn (item_three (tn := fun i h => IsZip h z TI TO .none ∧ IsTupOf3 h TI (.ref i1) (.ref i2) (.ref i3) ∧ (∃ a1 a2 a3, IsTupOf3 h TO a1 a2 a3) ∧ SIt t1 h i1 a i ∧ SIt t2 h i2 b i ∧ SIt t3 h i3 c i) (x := x) (y := y) (z := v) W I hf sub old2 hlt ⟨hz, hTI, ⟨x0, y0, z0, hTO⟩, ⟨g1, src⟩, ⟨g2, src2⟩, ⟨g3, src3⟩⟩ ?_
      (fun h' q => (⟨q.1, q.2.1, q.2.2.1, q.2.2.2.1.1, q.2.2.2.2.1.1, q.2.2.2.2.2.1⟩ : IsZip h' z TI TO .none ∧ IsTupOf3 h' TI (.ref i1) (.ref i2) (.ref i3) ∧ (∃ a1 a2 a3, IsTupOf3 h' TO a1 a2 a3) ∧ SIt t1 h' i1 a (i + 1) ∧ SIt t2 h' i2 b (i + 1) ∧ SIt t3 h' i3 c (i + 1)))) fun r s1 h => ?_
    · rintro v' h' ⟨T, y1, y2, y3, rfl, big, hy1, hy2, hy3, hT⟩
      refine ⟨T, _, _, _, rfl, big, hT, ?_, ?_, ?_⟩
      · have e : its[i]? = some y1 := by simpa using hy1
        rw [hu] at e
        cases e
        exact ru
      · have e : its2[i]? = some y2 := by simpa using hy2
        rw [hu2] at e
        cases e
        exact ru2
      · have e : its3[i]? = some y3 := by simpa using hy3
        rw [hu3] at e
        cases e
        exact ru3
    · obtain ⟨u', hr, h⟩ := h
      refine ⟨u', hr, thn h fun _ s2 h => ?_⟩
      obtain ⟨v', H', J, rvu, ⟨T, e1, e2, e3⟩, q1, q2⟩ := h
      exact ⟨v', H', J, rvu, ⟨T, x, y, v, e1, e2, e3, fun l hl => by rw [src_inj I hl hqx]; exact hx, fun l hl => by rw [src_inj I hl hqy]; exact hy, fun l hl => by rw [src_inj I hl hqz]; exact hv⟩, q1, q2⟩
  done := by
    intro X hP hw hK hc i pins s σ H E I hf st hg
    subst hP hw hK
    obtain ⟨xs, ys, zs, hqx, hqy, hqz, hl⟩ := hg
    obtain ⟨its, rv, src, _⟩ := src_of I hqx
    obtain ⟨its2, rv2, src2, _⟩ := src_of I hqy
    obtain ⟨its3, rv3, src3, _⟩ := src_of I hqz
    have D1 := s_draws (prog := X.prog) (w := X.w) (A := X.A.in1) t1 (I.ok.hd hc) i1 a n1 its.toArray
    have D2 := s_draws (prog := X.prog) (w := X.w) (A := X.A.in1) t2 (I.ok.hd hc) i2 b n2 its2.toArray
    have D3 := s_draws (prog := X.prog) (w := X.w) (A := X.A.in1) t3 (I.ok.hd hc) i3 c n3 its3.toArray
    have W := GoesN.zip3 (elts := elts) (x1 := kk) (pos := tpos) S D1 D2 D3
    have en : min (min its.toArray.size its2.toArray.size) its3.toArray.size = i := by rw [List.size_toArray, List.size_toArray, List.size_toArray, ← rv.length, ← rv2.length, ← rv3.length, hl]
    have sub : ∀ d ∈ [z, TO, i1, i2, i3], d ∈ [z, TI, TO, i1, i2, i3] := fun d hd => by
      simp only [List.mem_cons, List.not_mem_nil, or_false] at hd ⊢
      rcases hd with h | h | h | h | h
      · exact .inl h
      · exact .inr (.inr (.inl h))
      · exact .inr (.inr (.inr (.inl h)))
      · exact .inr (.inr (.inr (.inr (.inl h))))
      · exact .inr (.inr (.inr (.inr (.inr h))))
    refine item_done W I hf sub ?_
    rw [en]
    obtain ⟨hz, hTI, hTO, g1, g2, g3⟩ := st
    exact ⟨hz, hTI, hTO, ⟨g1, src⟩, ⟨g2, src2⟩, ⟨g3, src3⟩⟩
  self := fun A i s Q E st h => wpAny_pyIter_zip st.1 h
def iZip3S (K : PySem.W.Frag) (t1 t2 t3 : Bool) (ta : TA) : TI := fun σ H R => ta σ H fun vs H1 => ∃ a b c xs ys zs, vs = [.ref a, .ref b, .ref c] ∧ SqK t1 K H1 a xs ∧ SqK t2 K H1 b ys ∧ SqK t3 K H1 c zs ∧ R (ItT K t1 t2 t3 a b c) H1
theorem pi_zip3S (t1 t2 t3 : Bool) {X : Cx} {e e2 e3 : Expr} {ta : TA} {p pos tpos : PySem.Pos} {elts : List Expr} {kk : Nat} (hg : Gl X "zip") (hm : X.mg "zip" = none) (ha : PA X [e, e2, e3] ta)
    (hs : starEach [e, e2, e3] X.env = (false, eval e X.env) :: starEach [e2, e3] X.env := by rfl) (hpl : (backTo pos (starEach [e2, e3] X.env)).any (·.1) = false := by rfl) :
    PI X (.Tuple elts kk tpos) (.Call (.Name "zip" p) [e, e2, e3] [] pos) (iZip3S X.K t1 t2 t3 ta) := by
  refine ⟨fun pins s σ H R I h => ?_⟩
  refine Call_ (ld_blt I hg hm PyProof.Rows.boot_zip (PyProof.Rows.callWith_type1 (thn (ha.run pos pins s σ H _ I h) fun us s1 ⟨vs, H1, I1, r1, q1⟩ => ?_) hs hpl))
  obtain ⟨a, b, c, xs, ys, zs, rfl, hqx, hqy, hqz, q⟩ := q1
  cases r1 with
  | cons r rr =>
    cases rr with
    | cons r' rr =>
      cases rr with
      | cons r'' rr =>
        cases rr
        cases r
        cases r'
        cases r''
        obtain ⟨its, rv, src, lt⟩ := src_of I1 hqx
        obtain ⟨its2, rv2, src2, lt2⟩ := src_of I1 hqy
        obtain ⟨its3, rv3, src3, lt3⟩ := src_of I1 hqz
        refine zip_begins3 (s_begins t1 a its.toArray) (s_begins t2 b its2.toArray) (s_begins t3 c its3.toArray) src src2 src3 fun h' hz hTI hTO g1 g2 g3 _ hk => wpAny_pyIter_zip hz ?_
        have I2 : Inv X pins σ H1 { s1 with heap := h' } := I1.kept (t' := s1.toks) hk
        have S := zip_sep3 (N := s1.heap.objs.size) (fp1 := [a]) (fp2 := [b]) (fp3 := [c]) (fun d hd => by cases List.mem_singleton.mp hd; exact lt) (fun d hd => by cases List.mem_singleton.mp hd; exact lt2) (fun d hd => by cases List.mem_singleton.mp hd; exact lt3)
        refine ⟨s1.heap.objs.size + 5, [s1.heap.objs.size + 5, s1.heap.objs.size + 3, s1.heap.objs.size + 4, s1.heap.objs.size, s1.heap.objs.size + 1, s1.heap.objs.size + 2], _, _, H1, rfl, I2,
          turn_T (t1 := t1) (t2 := t2) (t3 := t3) S (Nat.ne_of_lt lt) (Nat.ne_of_lt (Nat.lt_succ_of_lt lt2)) (Nat.ne_of_lt (Nat.lt_succ_of_lt (Nat.lt_succ_of_lt lt3))), ⟨hz, hTI, ⟨_, _, _, hTO⟩, s_it0 g1, s_it0 g2, s_it0 g3⟩, fun d hd => ?_, q⟩
        have hle : s1.heap.objs.size ≤ d := by
          simp only [List.mem_cons, List.not_mem_nil, or_false] at hd
          rcases hd with rfl | rfl | rfl | rfl | rfl | rfl
          · exact Nat.le_add_right _ _
          · exact Nat.le_add_right _ _
          · exact Nat.le_add_right _ _
          · exact Nat.le_refl _
          · exact Nat.le_add_right _ _
          · exact Nat.le_add_right _ _
        exact I1.fpOk hle (I1.hok.fresh hle)
/-- what a turn hands out -/
def YThree (f g h : Nat → Option V) (i : Nat) (H : Hp) (v : V) (H' : Hp) : Prop := ∃ T x y z, v = .ref T ∧ H T = none ∧ H' = upd H T (.tup [x, y, z]) ∧ f i = some x ∧ g i = some y ∧ h i = some z
theorem walk_T {K : PySem.W.Frag} {t1 t2 t3 : Bool} {a b c : Addr} {xs ys zs : List V} {n : Nat} (hn : n = min (min xs.length ys.length) zs.length) :
    Walk (ItT K t1 t2 t3 a b c) n (fun H => SqK t1 K H a xs ∧ SqK t2 K H b ys ∧ SqK t3 K H c zs) (YThree (fun i => xs[i]?) (fun i => ys[i]?) (fun i => zs[i]?)) := by
  subst hn
  refine ⟨fun i H hi q => ?_, fun H q => ⟨xs, ys, zs, q.1, q.2.1, q.2.2, rfl⟩, fun i H v H' hi q y => ?_⟩
  · have e1 : i < xs.length := by omega
    have e2 : i < ys.length := by omega
    have e3 : i < zs.length := by omega
    exact ⟨xs, ys, zs, xs[i], ys[i], zs[i], q.1, q.2.1, q.2.2, by simp [e1], by simp [e2], by simp [e3]⟩
  · obtain ⟨T, x, y, z, e1, e2, e3, e4, e5, e6⟩ := y
    exact ⟨T, x, y, z, e1, e2, e3, e4 xs q.1, e5 ys q.2.1, e6 zs q.2.2⟩
/-! ### positions -/
structure Pst where
  z : Str
  d : Int
  a : Int
  c : Int
  n : Int
def PosR (K : PySem.W.Frag) (H : Hp) (y : V) (r : Pst) : Prop := ∃ b : Addr, y = .ref b ∧ SqT K H b [.str r.z, .int r.d, .int r.a, .int r.c, .int r.n]
theorem PosR.same {K : PySem.W.Frag} {H H' : Hp} {y : V} {r : Pst} (e : Same H H') (h : PosR K H y r) : PosR K H' y r :=
  let ⟨b, h1, h2⟩ := h; ⟨b, h1, same_sqt e h2⟩
theorem PosR.put {K : PySem.W.Frag} {H : Hp} {D : Addr} {zs : List V} {o : HO} {y : V} {r : Pst} (hD : H D = some (.lst zs)) (h : PosR K H y r) : PosR K (upd H D o) y r :=
  let ⟨b, h1, h2⟩ := h; ⟨b, h1, sqt_put hD h2⟩
def poss (ts : List Trt) (ins : List Str) (ds gs : List Int) : List Pst := (ins.zip (ds.zip gs)).map fun e => ⟨e.1, e.2.1, e.2.2 - e.2.1, e.2.2 - (cedeP e.1 ts e.2.2).2, (cedeP e.1 ts e.2.2).2⟩
theorem poss_at {ts : List Trt} {ins : List Str} {ds gs : List Int} {i : Nat} {z : Str} {d g : Int} (h1 : ins[i]? = some z) (h2 : ds[i]? = some d) (h3 : gs[i]? = some g) :
    (poss ts ins ds gs)[i]? = some ⟨z, d, g - d, g - (cedeP z ts g).2, (cedeP z ts g).2⟩ := by
  unfold poss
  have e : (ins.zip (ds.zip gs))[i]? = some (z, d, g) := by
    rw [List.getElem?_zip_eq_some]
    exact ⟨h1, List.getElem?_zip_eq_some.mpr ⟨h2, h3⟩⟩
  rw [List.getElem?_map, e]
  rfl
theorem poss_len {ts : List Trt} {ins : List Str} {ds gs : List Int} : (poss ts ins ds gs).length = min (min ins.length ds.length) gs.length := by
  unfold poss
  rw [List.length_map, List.length_zip, List.length_zip, Nat.min_assoc]
def sp_positions_at (K : PySem.W.Frag) (C : Addr) : Sp := fun vs H Q _ => ∃ (m g : Addr) (M : Mkt) (e : Str) (gs : List Int), vs = [.ref m, .str e, .ref g] ∧ MktAt K C H m M ∧ TrsOk M.ins M.trs ∧ e ∈ M.evs ∧ SqT K H g (gs.map V.int) ∧
  ∀ p ys H', Same H H' → H' p = some (.tup ys) → AllAt (PosR K) H' ys (poss M.trs M.ins (directs M.ins M.los e) gs) → Q (.ref p) H'
def sp_positions (K : PySem.W.Frag) (C : Addr) : Sp := fun vs H Q _ => ∃ (m : Addr) (M : Mkt) (e : Str), vs = [.ref m, .str e] ∧ MktAt K C H m M ∧ TrsOk M.ins M.trs ∧ e ∈ M.evs ∧
  ∃ i, i ≤ 200 ∧ row M.ins M.trs (directs M.ins M.los e) (i + 1) = row M.ins M.trs (directs M.ins M.los e) i ∧ (∀ j, j < i → row M.ins M.trs (directs M.ins M.los e) (j + 1) ≠ row M.ins M.trs (directs M.ins M.los e) j) ∧ big (row M.ins M.trs (directs M.ins M.los e) i) = false ∧
    ∀ p ys H', Same H H' → H' p = some (.tup ys) → AllAt (PosR K) H' ys (poss M.trs M.ins (directs M.ins M.los e) (row M.ins M.trs (directs M.ins M.los e) i)) → Q (.ref p) H'
def sp_positionsX (K : PySem.W.Frag) (C CS : Addr) : Sp := fun vs H Q E => ∃ (m : Addr) (M : Mkt) (e : Str), vs = [.ref m, .str e] ∧ MktAt K C H m M ∧ TrsOk M.ins M.trs ∧
  ((e ∉ M.evs ∧ ∀ d H', Same H H' → H' d = some (.xd [("name", .str e)]) → E (.ref CS) (some d) H') ∨ (e ∈ M.evs ∧
  ∃ i, i ≤ 200 ∧ row M.ins M.trs (directs M.ins M.los e) (i + 1) = row M.ins M.trs (directs M.ins M.los e) i ∧ (∀ j, j < i → row M.ins M.trs (directs M.ins M.los e) (j + 1) ≠ row M.ins M.trs (directs M.ins M.los e) j) ∧ big (row M.ins M.trs (directs M.ins M.los e) i) = false ∧
    ∀ p ys H', Same H H' → H' p = some (.tup ys) → AllAt (PosR K) H' ys (poss M.trs M.ins (directs M.ins M.los e) (row M.ins M.trs (directs M.ins M.los e) i)) → Q (.ref p) H'))
/-! ### a tuple that is known as an object: its methods; a tuple times one -/
section
variable {X : Cx}
theorem call_tuple_frz : CallR X (.type "tuple") (fun xs H Q => ∃ p ys, xs = [.ref p] ∧ ((SqL X.K H p ys ∧ ∀ l H', H l = none → Same H H' → TupF H' l ys → Q (.ref l) H') ∨ (SqT X.K H p ys ∧ Q (.ref p) H))) := by
  intro pins s σ H xs us Q I r h
  obtain ⟨p, ys, rfl, h⟩ := h
  obtain ⟨u, rfl, ru⟩ := vals1 r
  cases ru
  rcases h with ⟨hs, q⟩ | ⟨hs, q⟩
  · obtain ⟨its, rv, pl, hz⟩ := I.list hs
    have hn := rv.length
    refine call_tuple_list pl.isList (fun hp kp => ?_) (by simp only [List.size_toArray] <;> omega)
    have J : Inv X pins σ H { s with heap := hp } := I.kept (t' := s.toks) kp
    have J2 := J.laid (h' := hp.push { cls := .type "tuple", data := .seq its.toArray }) (a := hp.objs.size) (o := .frz { cls := .type "tuple", data := .seq its.toArray } (.tup ys)) (t' := s.toks) (fun b o e => Heap.get?_push_of_some _ e) (Nat.le_refl _)
      (⟨Heap.get?_push_size _ rfl, hz, its, rv, IsTup.new _ _⟩)
    have n0 := J.hok.fresh (Nat.le_refl _)
    exact ⟨.ref hp.objs.size, _, J2, rfl, q _ _ n0 (same_new n0) ⟨_, upd_same, rfl, rfl⟩⟩
  · obtain ⟨its, rv, pl, hz⟩ := I.tuple hs
    exact call_tuple_same pl ⟨.ref p, H, I, rfl, q⟩
def tBMT (r : V → List V → Hp → VK → Prop) (to : TE) (t : TA) : TE := fun σ H Q => to σ H fun x H1 => (∃ a xs, x = .ref a ∧ TupF H1 a xs) ∧ t σ H1 fun xs H2 => r x xs H2 Q
theorem pe_bmT {b e1 : Expr} {to : TE} {t : TA} {name : Str} {ap cp : PySem.Pos} {id : String} {r : V → List V → Hp → VK → Prop} (sl : Slot "tuple" name id) (ht : typeOf (.builtin id) = pure (.type "method_descriptor")) (hm : MtR X id r) (ho : PE X b to) (ha : PA X [e1] t)
    (hb : attributeBase b name X.env (eval b X.env) = eval b X.env := by rfl)
    (hf : ((backTo cp (starEach [e1] X.env)).all (fun z => !z.1) && (backToKw cp (keywordEach [] X.env)).all (fun z => z.1.isSome) && decide ([e1].length + ([] : List Keyword).length + (if ([] : List Keyword).isEmpty then 0 else 1) < 30)) = true := by rfl)
    (hl : (ap.endLine == cp.line) = true := by rfl) (hs : starEach [e1] X.env = (false, eval e1 X.env) :: starEach [] X.env := by rfl) (hp : (backTo cp (starEach [] X.env)).any (·.1) = false := by rfl) :
    PE X (.Call (.Attribute b name ap) [e1] [] cp) (tBMT r to t) := by
  refine ⟨fun pins s σ H Q I h => ?_⟩
  refine wpAny_Call_method_late hb hf hl rfl (thn (ho.run pins s σ H _ I h) fun v s1 ⟨x, H1, I1, r1, ⟨a, xs, ex, o, hfz, hc, hd⟩, q1⟩ => ?_)
  subst ex
  cases r1
  have hg : s1.heap.get? a = some o := (I1.hok a _ hfz).1
  refine ⟨"tuple", id, PySem.F.plainAttrs_tuple, sl, ht, ⟨o, hg, hc⟩, fun b e => ?_, ?_⟩
  · cases e
    exact ⟨o, hg, hd⟩
  · have hA := ha.run cp pins s1 σ H1 _ I1 q1
    rw [hs] at hA ⊢
    refine Calls.callWith_builtin (by show (false || (backTo cp (starEach [] X.env)).any (·.1)) = false; rw [hp] <;> rfl) (Calls.evalArgs_plain ?_)
    exact thn hA fun us s2 ⟨ws, H2, I2, r2, q2⟩ => hm pins s2 σ H2 (.ref a) ws (.ref a) us Q I2 rfl r2 q2
theorem tuple_mulOne (l : Addr) (items : Array Value) (n : Nat) (dd : Option Addr) (sl : Array (Option Value)) (u : Tok) :
    Meets (Builtin.«tuple.__mul__» ⟨[.ref l, .int 1 u], []⟩) (fun _ R s => s.heap.get? l = some { cls := .type "tuple", dict := dd, data := .seq items n, slots := sl } ∧ R (.ok (.ret (Value.ref l))) s) :=
  .of_wp fun prog w A R s h => by
    obtain ⟨hp, gl, dr, tk, os⟩ := s
    obtain ⟨hg, h⟩ := h
    have f1 := AutoSeq1.idx_int
    wp_walk using wpAny_loadPart' hg
    repeat (first
      | (refine wpAny_ite_false (decide_eq_false (by decide)) ?_; wp_walk using wpAny_loadPart' hg)
      | (refine wpAny_ite_true (decide_eq_true (by simp)) ?_; wp_walk using wpAny_loadPart' hg))
    exact ⟨_, rfl, h⟩
theorem op_repT1 : OpR X (binaryOp .Mult) (fun x y H Q => ∃ l xs, x = .ref l ∧ y = .int 1 ∧ SqT X.K H l xs ∧ Q (.ref l) H) := by
  intro pins s σ H x y v u Q I rx ry h
  obtain ⟨l, xs, rfl, rfl, hT, q⟩ := h
  cases rx
  obtain ⟨t, rfl⟩ := ry
  obtain ⟨its, _, ⟨⟨cl, dd, da, sl⟩, ho, ec, n, ed⟩, _⟩ := I.tuple hT
  simp only at ec ed
  subst ec ed
  refine wpAny_binaryOp_repeat_ref (T := "tuple") (U := "int") (by decide) ⟨_, ho, rfl⟩ (fun s' => typeIs_int s' 1 t) noFill_tuple_mul F.fills_int_mul F.slot_int_rmul repeat_tuple F.slot_int_index.lookup
    (call_meets F.slot_int_rmul (typeIs_int s 1 t) F.entry_int_rmul (F.args_int_rmul_2 _ _) (int_rmul_tuple 1 t l its.toArray n dd sl)
      ⟨ho, rfl, ⟨_, ho, rfl⟩, call_meets F.slot_tuple_mul ⟨_, ho, rfl⟩ F.entry_tuple_mul (F.args_tuple_mul_2 _ _) (tuple_mulOne l its.toArray n dd sl t) ⟨ho, ?_⟩⟩)
  exact ⟨.ref l, H, I, rfl, q⟩
theorem op_repTA : OpR X (binaryOp .Mult) (fun x y H Q => (∃ l xs, x = .ref l ∧ y = .int 1 ∧ SqT X.K H l xs ∧ Q (.ref l) H) ∨ rRepT X.K x y H Q) := OpR.or op_repT1 op_repT
end
/-! ### how much there can be in a round -/
theorem pays_le {c : Cov} (h : CvOk c) {x : Int} (hx : 0 ≤ x) : 0 ≤ pays c x ∧ pays c x ≤ x := by
  cases c with
  | share p =>
    obtain ⟨h1, h2⟩ := h
    show 0 ≤ p * x / 1000 ∧ p * x / 1000 ≤ x
    have e1 : 0 ≤ p * x := Int.mul_nonneg (by omega) hx
    have e2 : p * x ≤ 1000 * x := Int.mul_le_mul_of_nonneg_right h2 hx
    constructor <;> omega
  | layer r l =>
    obtain ⟨h1, h2, h3, h4⟩ := h
    show 0 ≤ (if x ≤ r then 0 else if x - r > l then l else x - r) ∧ (if x ≤ r then 0 else if x - r > l then l else x - r) ≤ x
    split
    · omega
    · split <;> omega
theorem prog_le : ∀ {cs : List Cov} {x : Int}, AllOk cs → 0 ≤ x → (∀ y ∈ (prog cs x).1, 0 ≤ y) ∧ 0 ≤ (prog cs x).2
  | [], x, _, hx => ⟨fun y h => (nomatch h), hx⟩
  | c :: t, x, h, hx => by
    have h1 := pays_le (h c List.mem_cons_self) hx
    have ih := prog_le (cs := t) (x := x - pays c x) (fun d hd => h d (List.mem_cons_of_mem _ hd)) (by omega)
    refine ⟨fun y hy => ?_, ih.2⟩
    rcases List.mem_cons.mp hy with rfl | hy
    · exact h1.1
    · exact ih.1 y hy
def NN (xs : List Int) : Prop := ∀ x ∈ xs, 0 ≤ x
theorem NN.sum : ∀ {xs : List Int}, NN xs → 0 ≤ xs.sum
  | [], _ => by simp
  | x :: r, h => by
    have h1 := h x List.mem_cons_self
    have h2 := NN.sum (xs := r) fun y hy => h y (List.mem_cons_of_mem _ hy)
    rw [List.sum_cons]
    omega
theorem NN.le : ∀ {xs : List Int}, NN xs → ∀ x ∈ xs, x ≤ xs.sum
  | [], _, x, hx => (nomatch hx)
  | y :: r, h, x, hx => by
    have h1 := h y List.mem_cons_self
    have h0 : NN r := fun z hz => h z (List.mem_cons_of_mem _ hz)
    have h2 := NN.sum h0
    rw [List.sum_cons]
    rcases List.mem_cons.mp hx with rfl | hx
    · omega
    · have := NN.le h0 x hx
      omega
theorem set_le : ∀ {ps : List Int} {n : Nat} {v : Int}, NN ps → 0 ≤ v → NN (ps.set n v) ∧ (ps.set n v).sum ≤ ps.sum + v
  | [], n, v, h, hv => by
    rw [List.set_nil]
    exact ⟨h, by omega⟩
  | p :: r, 0, v, h, hv => by
    have h1 := h p List.mem_cons_self
    refine ⟨fun x hx => ?_, ?_⟩
    · rcases List.mem_cons.mp (show x ∈ v :: r from hx) with rfl | hx
      · exact hv
      · exact h x (List.mem_cons_of_mem _ hx)
    · show (v :: r).sum ≤ _
      rw [List.sum_cons, List.sum_cons]
      omega
  | p :: r, n + 1, v, h, hv => by
    have ih := set_le (ps := r) (n := n) (v := v) (fun x hx => h x (List.mem_cons_of_mem _ hx)) hv
    refine ⟨fun x hx => ?_, ?_⟩
    · rcases List.mem_cons.mp (show x ∈ p :: r.set n v from hx) with rfl | hx
      · exact h _ List.mem_cons_self
      · exact ih.1 x hx
    · show (p :: r.set n v).sum ≤ _
      rw [List.sum_cons, List.sum_cons]
      omega
theorem putP_le : ∀ {l : List (Nat × Int)} {ps : List Int}, NN ps → NN (l.map (·.2)) → NN (putP ps l) ∧ (putP ps l).sum ≤ ps.sum + (l.map (·.2)).sum
  | [], ps, h, _ => ⟨h, by show ps.sum ≤ ps.sum + ([] : List Int).sum; simp⟩
  | (n, v) :: r, ps, h, hl => by
    have h1 := set_le (n := n) h (hl v List.mem_cons_self)
    have ih := putP_le (l := r) h1.1 fun x hx => hl x (List.mem_cons_of_mem _ hx)
    refine ⟨ih.1, ?_⟩
    show (putP (ps.set n v) r).sum ≤ ps.sum + (v :: r.map (·.2)).sum
    rw [List.sum_cons]
    omega
theorem zip_snd : ∀ {ns : List Nat} {xs : List Int}, ns.length = xs.length → (ns.zip xs).map (·.2) = xs
  | [], [], _ => rfl
  | [], _ :: _, h => by simp at h
  | _ :: _, [], h => by simp at h
  | n :: ns, x :: xs, h => by
    rw [List.zip_cons_cons, List.map_cons, zip_snd (Nat.succ.inj h)]
theorem cede_le {ced : Str} {ts : List Trt} (h : ∀ t ∈ ts, CvOk t.cov) {x : Int} (hx : 0 ≤ x) : NN (cedeP ced ts x).1 ∧ (cedeP ced ts x).1.sum ≤ x ∧ ((actv ced 0 ts).map (·.1)).length = (cedeP ced ts x).1.length := by
  have ok : AllOk ((actv ced 0 ts).map (·.2)) := fun c hc => by
    obtain ⟨p, hp, rfl⟩ := List.mem_map.mp hc
    exact (actv_ok h p hp).1
  have h1 := prog_le ok hx
  have h2 := prog_sum ((actv ced 0 ts).map (·.2)) x
  unfold cedeP
  exact ⟨h1.1, by omega, by rw [prog_len, List.length_map, List.length_map]⟩
theorem payP_le {ts : List Trt} (h : ∀ t ∈ ts, CvOk t.cov) : ∀ {l : List (Str × Int)} {ps : List Int}, NN ps → NN (l.map (·.2)) → NN (payP ts l ps) ∧ (payP ts l ps).sum ≤ ps.sum + (l.map (·.2)).sum
  | [], ps, hp, _ => ⟨hp, by show ps.sum ≤ ps.sum + ([] : List Int).sum; simp⟩
  | (c, x) :: r, ps, hp, hl => by
    obtain ⟨g1, g2, g3⟩ := cede_le (ced := c) h (hl x List.mem_cons_self)
    have e := zip_snd g3
    have h1 := putP_le (l := ((actv c 0 ts).map (·.1)).zip (cedeP c ts x).1) hp (by rw [e]; exact g1)
    rw [e] at h1
    have ih := payP_le h (l := r) h1.1 fun y hy => hl y (List.mem_cons_of_mem _ hy)
    refine ⟨ih.1, ?_⟩
    show (payP ts r (putP ps _)).sum ≤ ps.sum + (x :: r.map (·.2)).sum
    rw [List.sum_cons]
    omega
theorem rep_nn (n : Nat) : NN (List.replicate n (0 : Int)) ∧ (List.replicate n (0 : Int)).sum = 0 := by
  induction n with
  | zero => exact ⟨fun x h => (nomatch h), rfl⟩
  | succ n ih =>
    rw [List.replicate_succ]
    refine ⟨fun x h => ?_, ?_⟩
    · rcases List.mem_cons.mp h with rfl | h
      · exact Int.le_refl _
      · exact ih.1 x h
    · rw [List.sum_cons, ih.2]
      rfl
theorem zip_snd_le : ∀ {ins : List Str} {gs : List Int}, NN gs → NN ((ins.zip gs).map (·.2)) ∧ ((ins.zip gs).map (·.2)).sum ≤ gs.sum
  | [], gs, h => ⟨fun x h => (nomatch h), by have := NN.sum h; show ([] : List Int).sum ≤ _; simpa using this⟩
  | _ :: _, [], h => ⟨fun x h => (nomatch h), by show ([] : List Int).sum ≤ ([] : List Int).sum; exact Int.le_refl _⟩
  | i :: r, g :: gs, h => by
    have h1 := h g List.mem_cons_self
    have ih := zip_snd_le (ins := r) (gs := gs) fun x hx => h x (List.mem_cons_of_mem _ hx)
    rw [List.zip_cons_cons, List.map_cons, List.sum_cons, List.sum_cons]
    refine ⟨fun x hx => ?_, by have := ih.2; show g + _ ≤ _; omega⟩
    rcases List.mem_cons.mp hx with rfl | hx
    · exact h1
    · exact ih.1 x hx
theorem tpay_le {ins : List Str} {ts : List Trt} (h : ∀ t ∈ ts, CvOk t.cov) {gs : List Int} (hg : NN gs) : NN (tpay ts ins gs) ∧ (tpay ts ins gs).sum ≤ gs.sum := by
  obtain ⟨z1, z2⟩ := zip_snd_le (ins := ins) hg
  have h0 := payP_le h (l := ins.zip gs) (rep_nn ts.length).1 z1
  rw [(rep_nn ts.length).2] at h0
  exact ⟨h0.1, by unfold tpay; have := h0.2; omega⟩
theorem addAt_le : ∀ {ins : List Str} {ls : List Int} {z : Str} {p : Int}, NN ls → 0 ≤ p → NN (addAt ins ls z p) ∧ (addAt ins ls z p).sum ≤ ls.sum + p
  | [], ls, z, p, h, hp => ⟨h, by show ls.sum ≤ _; omega⟩
  | _ :: _, [], z, p, h, hp => ⟨h, by show ([] : List Int).sum ≤ _; omega⟩
  | i :: r, x :: xs, z, p, h, hp => by
    have h1 := h x List.mem_cons_self
    have h0 : NN xs := fun y hy => h y (List.mem_cons_of_mem _ hy)
    unfold addAt
    split
    · refine ⟨fun y hy => ?_, by rw [List.sum_cons, List.sum_cons]; omega⟩
      rcases List.mem_cons.mp hy with rfl | hy
      · omega
      · exact h0 y hy
    · have ih := addAt_le (ins := r) (z := z) h0 hp
      refine ⟨fun y hy => ?_, by rw [List.sum_cons, List.sum_cons]; have := ih.2; omega⟩
      rcases List.mem_cons.mp hy with rfl | hy
      · exact h1
      · exact ih.1 y hy
theorem addPan_le {ins : List Str} : ∀ {l : List ((Option Str × Int) × Int)} {ls : List Int}, NN ls → NN (l.map (·.2)) → NN (addPan ins l ls) ∧ (addPan ins l ls).sum ≤ ls.sum + (l.map (·.2)).sum
  | [], ls, h, _ => ⟨h, by show ls.sum ≤ ls.sum + ([] : List Int).sum; simp⟩
  | ((none, _), p) :: r, ls, h, hl => by
    have hp := hl p List.mem_cons_self
    have ih := addPan_le (ins := ins) (l := r) h fun y hy => hl y (List.mem_cons_of_mem _ hy)
    refine ⟨ih.1, ?_⟩
    show (addPan ins r ls).sum ≤ ls.sum + (p :: r.map (·.2)).sum
    rw [List.sum_cons]
    have := ih.2
    omega
  | ((some z, _), p) :: r, ls, h, hl => by
    have hp := hl p List.mem_cons_self
    have h1 := addAt_le (ins := ins) (z := z) h hp
    have ih := addPan_le (ins := ins) (l := r) h1.1 fun y hy => hl y (List.mem_cons_of_mem _ hy)
    refine ⟨ih.1, ?_⟩
    show (addPan ins r (addAt ins ls z p)).sum ≤ ls.sum + (p :: r.map (·.2)).sum
    rw [List.sum_cons]
    have := ih.2
    omega
theorem zip_snd2 {α : Type} : ∀ {ns : List α} {xs : List Int}, ns.length = xs.length → (ns.zip xs).map (·.2) = xs
  | [], [], _ => rfl
  | [], _ :: _, h => by simp at h
  | _ :: _, [], h => by simp at h
  | n :: ns, x :: xs, h => by
    rw [List.zip_cons_cons, List.map_cons, zip_snd2 (Nat.succ.inj h)]
theorem addTrs_le {ins : List Str} : ∀ {l : List (Trt × Int)} {ls : List Int}, (∀ p ∈ l, TrtOk p.1) → NN ls → NN (l.map (·.2)) → NN (addTrs ins l ls) ∧ (addTrs ins l ls).sum ≤ ls.sum + (l.map (·.2)).sum
  | [], ls, _, h, _ => ⟨h, by show ls.sum ≤ ls.sum + ([] : List Int).sum; simp⟩
  | (t, m) :: r, ls, hok, h, hl => by
    have hm := hl m List.mem_cons_self
    have ht := (hok _ List.mem_cons_self).p
    have e : (t.pan.zip (alloc m (shs t.pan))).map (·.2) = alloc m (shs t.pan) := zip_snd2 (by rw [alloc_len]; exact (List.length_map ..).symm)
    have h1 := addPan_le (ins := ins) (l := t.pan.zip (alloc m (shs t.pan))) h (by rw [e]; exact fun x hx => (alloc_nonneg (shs_pos ht) hm x hx).1)
    rw [e, alloc_sum m _ (shs_pos ht) (shs_ne ht)] at h1
    have ih := addTrs_le (ins := ins) (l := r) (fun p hp => hok p (List.mem_cons_of_mem _ hp)) h1.1 fun y hy => hl y (List.mem_cons_of_mem _ hy)
    refine ⟨ih.1, ?_⟩
    show (addTrs ins r (addPan ins _ ls)).sum ≤ ls.sum + (m :: r.map (·.2)).sum
    rw [List.sum_cons]
    have := ih.2
    omega
theorem next_le {ins : List Str} {ts : List Trt} {ds gs : List Int} (hok : ∀ t ∈ ts, TrtOk t) (hd : NN ds) (hg : NN gs) : NN (nextG ins ts ds gs) ∧ (nextG ins ts ds gs).sum ≤ ds.sum + gs.sum := by
  obtain ⟨p1, p2⟩ := tpay_le (ins := ins) (fun t ht => (hok t ht).c) hg
  have hl : ts.length = (tpay ts ins gs).length := by
    unfold tpay
    rw [payP_len, List.length_replicate]
  have e := zip_snd2 hl
  have h := addTrs_le (ins := ins) (l := ts.zip (tpay ts ins gs)) (fun p hp => hok p.1 (List.of_mem_zip hp).1) hd (by rw [e]; exact p1)
  rw [e] at h
  unfold nextG
  exact ⟨h.1, by have := h.2; omega⟩
theorem row_le {ins : List Str} {ts : List Trt} {ds : List Int} (hok : ∀ t ∈ ts, TrtOk t) (hd : NN ds) : ∀ n : Nat, NN (row ins ts ds n) ∧ (row ins ts ds n).sum ≤ ((n : Int) + 1) * ds.sum
  | 0 => ⟨hd, by show ds.sum ≤ _; rw [show ((0 : Nat) : Int) + 1 = 1 by rfl, Int.one_mul]; exact Int.le_refl _⟩
  | n + 1 => by
    have ih := row_le (ins := ins) hok hd n
    have h := next_le (ins := ins) hok hd ih.1
    refine ⟨h.1, ?_⟩
    show (nextG ins ts ds (row ins ts ds n)).sum ≤ _
    have e : (((n + 1 : Nat) : Int) + 1) * ds.sum = ((n : Int) + 1) * ds.sum + ds.sum := by
      rw [show ((n + 1 : Nat) : Int) + 1 = ((n : Int) + 1) + 1 by omega, Int.add_mul, Int.one_mul]
    rw [e]
    have := h.2
    have := ih.2
    omega
/-- direct losses such as a market has -/
structure DsOk (ds : List Int) : Prop where
  nn : NN ds
  sum : ds.sum ≤ 600000
theorem row_few {ins : List Str} {ts : List Trt} {ds : List Int} (hok : ∀ t ∈ ts, TrtOk t) (hd : DsOk ds) {n : Nat} (hn : n ≤ 201) : ∀ x ∈ row ins ts ds n, x ≤ 1000000000 := fun x hx => by
  have h := row_le (ins := ins) hok hd.nn n
  have h1 := NN.le h.1 x hx
  have h2 := hd.sum
  have h3 : ((n : Int) + 1) * ds.sum ≤ 202 * ds.sum := Int.mul_le_mul_of_nonneg_right (by omega) (NN.sum hd.nn)
  have := h.2
  omega
theorem big_no {ins : List Str} {ts : List Trt} {ds : List Int} (hok : ∀ t ∈ ts, TrtOk t) (hd : DsOk ds) {n : Nat} (hn : n ≤ 201) : big (row ins ts ds n) = false := by
  unfold big
  rw [List.any_eq_false]
  intro x hx
  have := row_few (ins := ins) hok hd hn x hx
  simp
  omega
/-! ### the law's own reckoning of a round, over lists -/
theorem sum_mul (c : Int) : ∀ sh : List Int, (sh.map fun s => c * s).sum = c * sh.sum
  | [] => by simp
  | s :: t => by rw [List.map_cons, List.sum_cons, List.sum_cons, sum_mul c t, Int.mul_add]
theorem pick2 {x y : Int} {b : Bool} : atI [V.int x, V.int y] (if b = true then 1 else 0) = some (V.int (if b = true then y else x)) := by
  cases b <;> rfl
theorem mid_get {acc t : List Int} {i : Nat} {v : Int} (hl : acc.length = i) : (acc ++ v :: t)[i]? = some v := by
  rw [List.getElem?_append_right (by omega), hl, Nat.sub_self]
  rfl
theorem mid_set {acc t : List Int} {i : Nat} {v z : Int} (hl : acc.length = i) : (acc ++ v :: t).set i z = acc ++ z :: t := by
  rw [List.set_append_right _ _ (by omega), hl, Nat.sub_self]
  rfl
theorem map_set (xs : List Int) (i : Nat) (z : Int) : (xs.map V.int).set i (.int z) = (xs.set i z).map V.int := by
  rw [List.map_set]
theorem zi (i : Nat) : (0 : Int) + (i : Int) = (i : Int) := Int.zero_add _
def sp_law_parts (K : PySem.W.Frag) : Sp := fun vs H Q _ => ∃ (a : Int) (s : Addr) (sh : List Int), vs = [.int a, .ref s] ∧ H s = some (.lst (sh.map V.int)) ∧ Pos sh ∧ sh ≠ [] ∧ sh.sum ≤ 100000 ∧
  ∀ (p : Addr) (H' : Hp), Same H H' → H p = none → H' p = some (.lst ((alloc a sh).map V.int)) → Q (.ref p) H'
def LTrs (K : PySem.W.Frag) (H : Hp) (a : Addr) (ts : List Trt) : Prop := ∃ xs, H a = some (.lst xs) ∧ AllAt (TrAt K) H xs ts
theorem LTrs.same {K : PySem.W.Frag} {H H' : Hp} {a : Addr} {ts : List Trt} (e : Same H H') (h : LTrs K H a ts) : LTrs K H' a ts :=
  let ⟨xs, h1, h2⟩ := h; ⟨xs, e _ _ h1, AllAt.same (R := TrAt K) (fun e r => TrAt.same e r) e h2⟩
/-- one cedent's treaties, one by one: what is left, and what each pays -/
def inn (c : Str) : Nat → List Trt → Int → List Int → List Int
  | _, [], _, ps => ps
  | n, t :: r, x, ps => if (decide (t.ced = c) && !t.ended) = true then inn c (n + 1) r (x - pays t.cov x) (ps.set n (pays t.cov x)) else inn c (n + 1) r x ps
theorem inn_put (c : Str) : ∀ (ts : List Trt) (n : Nat) (x : Int) (ps : List Int), inn c n ts x ps = putP ps (((actv c n ts).map (·.1)).zip (prog ((actv c n ts).map (·.2)) x).1)
  | [], _, _, _ => rfl
  | t :: r, n, x, ps => by
    unfold inn actv
    split
    · rw [inn_put c r (n + 1)]
      rfl
    · exact inn_put c r (n + 1) x ps
theorem inn_step {c : Str} {ts : List Trt} {i : Nat} {t : Trt} (h : ts[i]? = some t) (x : Int) (ps : List Int) : inn c i (ts.drop i) x ps = if (decide (t.ced = c) && !t.ended) = true then inn c (i + 1) (ts.drop (i + 1)) (x - pays t.cov x) (ps.set i (pays t.cov x)) else inn c (i + 1) (ts.drop (i + 1)) x ps := by
  obtain ⟨h1, h2⟩ := List.getElem?_eq_some_iff.mp h
  rw [List.drop_eq_getElem_cons h1]
  rw [h2]
  rfl
theorem inn_len (c : Str) : ∀ (ts : List Trt) (n : Nat) (x : Int) (ps : List Int), (inn c n ts x ps).length = ps.length
  | [], _, _, _ => rfl
  | t :: r, n, x, ps => by
    unfold inn
    split
    · rw [inn_len c r, List.length_set]
    · exact inn_len c r (n + 1) x ps
theorem inPan {ins : List Str} {e : Option Str × Int} {m : Int} {l : List ((Option Str × Int) × Int)} {ls : List Int} : addPan ins (l ++ [(e, m)]) ls = addPan ins [(e, m)] (addPan ins l ls) := addPan_add ins l ls (e, m)
theorem eqv_str {a b : Str} : eqV (.str a) (.str b) = decide (a = b) := by
  unfold eqV
  by_cases h : a = b
  · rw [h]
    simp
  · simp [h]
theorem isN24 {z : Str} (h : (decide (z.length ≤ 1000) && isNm z) = true) : IsName (.str z) := by
  rw [Bool.and_eq_true] at h
  exact ⟨z, rfl, of_decide_eq_true h.1, h.2⟩
theorem pick2' {x y : Int} {b : Bool} : atI [V.int x, V.int y] (if b = true then 1 else 0) = some (V.int (if b = true then y else x)) := by
  cases b <;> rfl
theorem pick_v {xs : List V} {P : V → Prop} {z : Int} (h0 : 0 ≤ z) (h1 : z < (xs.length : Int)) (h : ∀ x ∈ xs, P x) : ∃ v, atI xs z = some v ∧ P v := by
  obtain ⟨n, rfl⟩ : ∃ n : Nat, z = (n : Int) := ⟨z.toNat, by omega⟩
  have hn : n < xs.length := by omega
  exact ⟨xs[n], atI_nat (List.getElem?_eq_getElem hn), h _ (List.getElem_mem hn)⟩
theorem lossOf_set (L : List ((Str × Str) × Int)) (e z z' : Str) (n : Int) : lossOf (setL L e z n) e z' = if z' = z then n else lossOf L e z' := by
  have h1 := lkv_get (setL L e z n) e z'
  rw [← lkv_put, valV_put] at h1
  by_cases c : z' = z
  · subst c
    rw [if_pos rfl] at h1 ⊢
    exact (V.int.inj h1).symm
  · rw [if_neg (fun q => c (Prod.mk.inj (key2.mp q)).2), lkv_get] at h1
    rw [if_neg c]
    exact (V.int.inj h1).symm
theorem directs_set {nm : List Str} (hn : nm.Nodup) (L : List ((Str × Str) × Int)) (e : Str) {z : Str} {i : Nat} (n : Int) (h : nm[i]? = some z) : directs nm (setL L e z n) e = (directs nm L e).set i n := by
  unfold directs
  apply List.ext_getElem?
  intro j
  rw [List.getElem?_map]
  have hil := (List.getElem?_eq_some_iff.mp h).1
  by_cases c : i = j
  · subst c
    rw [h, List.getElem?_set_self (by rw [List.length_map]; exact hil)]
    show some (lossOf _ e z) = some n
    rw [lossOf_set, if_pos rfl]
  · rw [List.getElem?_set_ne c, List.getElem?_map]
    cases hj : nm[j]? with
    | none => rfl
    | some z' =>
      show some (lossOf _ e z') = some (lossOf L e z')
      rw [lossOf_set, if_neg (fun q => c (nd_at hn h (by rw [hj, q])))]
theorem setL_keys (L : List ((Str × Str) × Int)) (e z : Str) (n : Int) (h : (L.map (·.1)).Nodup) : ((setL L e z n).map (·.1)).Nodup ∧ (setL L e z n).length ≤ L.length + 1 := by
  unfold setL
  split
  · have e1 : (L.map fun p => if p.1 = (e, z) then (p.1, n) else p).map (·.1) = L.map (·.1) := by
      rw [List.map_map]
      congr 1
      funext p
      show (if p.1 = (e, z) then (p.1, n) else p).1 = p.1
      split <;> rfl
    rw [e1]
    exact ⟨h, by rw [List.length_map]; omega⟩
  · rename_i c
    rw [List.map_append]
    refine ⟨?_, by rw [List.length_append]; exact Nat.le_refl _⟩
    rw [List.nodup_append]
    refine ⟨h, by simp, fun x hx y hy => ?_⟩
    have hy := List.mem_singleton.mp hy
    intro q
    obtain ⟨p, hp, rfl⟩ := List.mem_map.mp hx
    exact c (List.any_eq_true.mpr ⟨p, hp, decide_eq_true (q.trans hy)⟩)
theorem trs_more {nm : List Str} {ts : List Trt} {t : Trt} (h : TrsOk nm ts) (hl : ts.length < 1000) (ht : TrtOk t) (hm : ∀ e ∈ t.pan, ∀ z, e.1 = some z → z ∈ nm) : TrsOk nm (ts ++ [t]) := by
  refine ⟨h.nd, fun u hu => ?_, fun u hu => ?_, by rw [List.length_append]; exact hl, h.few⟩
  · rcases List.mem_append.mp hu with hu | hu
    · exact h.ok u hu
    · rw [List.mem_singleton.mp hu]
      exact ht
  · rcases List.mem_append.mp hu with hu | hu
    · exact h.mem u hu
    · rw [List.mem_singleton.mp hu]
      exact hm
theorem trs_end {nm : List Str} {ts : List Trt} {n : Nat} {t : Trt} (h : TrsOk nm ts) (ht : ts[n]? = some t) : TrsOk nm (endT ts n) := by
  have hl : (endT ts n).length = ts.length := by
    unfold endT
    rw [List.length_set]
  have key : ∀ u ∈ endT ts n, ∃ v ∈ ts, u.cov = v.cov ∧ u.pan = v.pan := fun u hu => by
    obtain ⟨i, hi⟩ := List.mem_iff_getElem?.mp hu
    have hnl := (List.getElem?_eq_some_iff.mp ht).1
    unfold endT at hi
    by_cases c : n = i
    · subst c
      rw [List.getElem?_set_self hnl, List.getD_eq_getElem?_getD, ht] at hi
      cases Option.some.inj hi
      exact ⟨t, List.mem_of_getElem? ht, rfl, rfl⟩
    · rw [List.getElem?_set_ne c] at hi
      exact ⟨u, List.mem_of_getElem? hi, rfl, rfl⟩
  refine ⟨h.nd, fun u hu => ?_, fun u hu => ?_, by rw [hl]; exact h.len, h.few⟩
  · obtain ⟨v, hv, e1, e2⟩ := key u hu
    have := h.ok v hv
    exact ⟨by rw [e1]; exact this.c, by rw [e2]; exact this.p⟩
  · obtain ⟨v, hv, e1, e2⟩ := key u hu
    rw [e2]
    exact h.mem v hv
/-! the data -/
def cvD : Cov → PyData
  | .share p => .tuple [.str "share", .int p]
  | .layer r l => .tuple [.str "layer", .int r, .int l]
def enD (e : Option Str × Int) : PyData := .tuple [match e.1 with | none => .none | some z => .str z, .int e.2]
def trD (t : Trt) : PyData := .tuple [.str t.ced, cvD t.cov, .tuple (t.pan.map enD), .bool t.ended]
def rwD (r : List Int) : PyData := .tuple (r.map PyData.int)
theorem dp_all {K : PySem.W.Frag} {H : Hp} {α : Type} {R : Hp → V → α → Prop} {f : α → PyData} (h : ∀ y l, R H y l → Dp K H y (f l)) : ∀ {ys : List V} {ls : List α}, ys.length = ls.length → (∀ (i : Nat) l, ls[i]? = some l → ∃ y, ys[i]? = some y ∧ R H y l) → DpAll K H ys (ls.map f)
  | [], [], _, _ => .nil
  | [], _ :: _, e, _ => by simp at e
  | _ :: _, [], e, _ => by simp at e
  | y :: ys, l :: ls, e, g => by
    obtain ⟨z, hz, r⟩ := g 0 l rfl
    cases Option.some.inj hz
    exact .cons (h y l r) (dp_all h (Nat.succ.inj e) fun i q hq => g (i + 1) q hq)
theorem dp_cov {K : PySem.W.Frag} {H : Hp} {a : Addr} {c : Cov} (h : SqT K H a (cvV c)) : Dp K H (.ref a) (cvD c) := by
  cases c with
  | share p => exact .tup h (.cons (.str _) (.cons (.int _) .nil))
  | layer r l => exact .tup h (.cons (.str _) (.cons (.int _) (.cons (.int _) .nil)))
theorem dp_en {K : PySem.W.Frag} {H : Hp} {y : V} {e : Option Str × Int} (h : EntAt K H y e) : Dp K H y (enD e) := by
  obtain ⟨a, rfl, h⟩ := h
  rcases e with ⟨_ | z, n⟩
  · exact .tup h (.cons .non (.cons (.int _) .nil))
  · exact .tup h (.cons (.str _) (.cons (.int _) .nil))
theorem dp_tr {K : PySem.W.Frag} {H : Hp} {y : V} {t : Trt} (h : TrAt K H y t) : Dp K H y (trD t) := by
  obtain ⟨a, vc, vp, rfl, h1, h2, pa, px, rfl, h3, h4, h5⟩ := h
  exact .tup h1 (.cons (.str _) (.cons (dp_cov h2) (.cons (.tup h3 (dp_all (R := fun H y e => EntAt K H y e) (fun _ _ r => dp_en r) h4 h5)) (.cons (.bl _) .nil))))
theorem dp_rw {K : PySem.W.Frag} {H : Hp} {y : V} {r : List Int} (h : RowR K H y r) : Dp K H y (rwD r) := by
  obtain ⟨b, rfl, h⟩ := h
  exact .tup h (DpAll.ints r)
theorem ok_of {n : Nat} {α : Type} {f : α → PyData} {ls : List α} (hl : ls.length ≤ 5000) (h : ∀ l ∈ ls, dOk n (f l) = true) : dOk (n + 1) (.tuple (ls.map f)) = true := by
  show (decide ((ls.map f).length ≤ 5000) && (ls.map f).all (dOk n)) = true
  rw [List.length_map, decide_eq_true hl, Bool.true_and, List.all_map, List.all_eq_true]
  exact h
theorem ok_rw {n : Nat} {r : List Int} (hl : r.length ≤ 5000) : dOk (n + 2) (rwD r) = true := ok_of hl fun _ _ => rfl
theorem ok_tr {n : Nat} {t : Trt} (hl : t.pan.length ≤ 5000) : dOk (n + 5) (trD t) = true := by
  have h1 : dOk (n + 4) (cvD t.cov) = true := by
    cases t.cov <;> rfl
  have h2 : dOk (n + 4) (.tuple (t.pan.map enD)) = true := ok_of hl fun e _ => by
    rcases e with ⟨_ | z, k⟩ <;> rfl
  show (decide ([PyData.str t.ced, cvD t.cov, .tuple (t.pan.map enD), .bool t.ended].length ≤ 5000) && [PyData.str t.ced, cvD t.cov, .tuple (t.pan.map enD), .bool t.ended].all (dOk (n + 4))) = true
  rw [List.all_cons, List.all_cons, List.all_cons, h1, h2]
  rfl
theorem fate_no {ins : List Str} {ts : List Trt} {ds : List Int} (hok : ∀ t ∈ ts, TrtOk t) (hd : DsOk ds) (h : fate ins ts ds false) : ∀ i, i ≤ 200 → row ins ts ds (i + 1) ≠ row ins ts ds i := by
  rcases (h : (∃ i, i ≤ 200 ∧ row ins ts ds (i + 1) = row ins ts ds i ∧ (∀ j, j < i → row ins ts ds (j + 1) ≠ row ins ts ds j) ∧ big (row ins ts ds i) = true) ∨ ∀ i, i ≤ 200 → row ins ts ds (i + 1) ≠ row ins ts ds i) with ⟨i, h1, _, _, h4⟩ | h
  · rw [big_no (ins := ins) hok hd (by omega)] at h4
    cases h4
  · exact h
theorem pan_put {K : PySem.W.Frag} {H : Hp} {D : Addr} {zs : List V} {o : HO} {x : V} {ps : List (Option Str × Int)} (hD : H D = some (.lst zs)) (h : PanAt K H x ps) : PanAt K (upd H D o) x ps := by
  obtain ⟨a, xs, rfl, hS, hl, h⟩ := h
  refine ⟨a, xs, rfl, sqt_put hD hS, hl, fun i p hp => ?_⟩
  obtain ⟨y, h1, c, rfl, h2⟩ := h i p hp
  exact ⟨_, h1, c, rfl, sqt_put hD h2⟩
theorem tr_put {K : PySem.W.Frag} {H : Hp} {D : Addr} {zs : List V} {o : HO} {y : V} {t : Trt} (hD : H D = some (.lst zs)) (h : TrAt K H y t) : TrAt K (upd H D o) y t := by
  obtain ⟨a, vc, vp, rfl, h1, h2, h3⟩ := h
  exact ⟨a, vc, vp, rfl, sqt_put hD h1, sqt_put hD h2, pan_put hD h3⟩
theorem sqt_bar {K : PySem.W.Frag} {H H' : Hp} {m a : Addr} {C dx : Addr} {fs : List (Str × V)} {xs : List V} (b : Bar m H H') (hm : H m = some (.ins C dx fs)) (h : SqT K H a xs) : SqT K H' a xs := by
  rcases h with (h | ⟨u, h⟩) | h
  · exact .inl (.inl (b a _ (ne_of h hm (by intro z; cases z)) h))
  · exact .inl (.inr ⟨u, b a _ (ne_of h hm (by intro z; cases z)) h⟩)
  · exact .inr h
theorem tr_bar {K : PySem.W.Frag} {H H' : Hp} {m : Addr} {C dx : Addr} {fs : List (Str × V)} {y : V} {t : Trt} (b : Bar m H H') (hm : H m = some (.ins C dx fs)) (h : TrAt K H y t) : TrAt K H' y t := by
  obtain ⟨a, vc, vp, rfl, h1, h2, pa, px, rfl, h3, h4, h5⟩ := h
  refine ⟨a, vc, _, rfl, sqt_bar b hm h1, sqt_bar b hm h2, pa, px, rfl, sqt_bar b hm h3, h4, fun i p hp => ?_⟩
  obtain ⟨y, g1, c, rfl, g2⟩ := h5 i p hp
  exact ⟨_, g1, c, rfl, sqt_bar b hm g2⟩
theorem ltrs_bar {K : PySem.W.Frag} {H H' : Hp} {m a : Addr} {C dx : Addr} {fs : List (Str × V)} {ts : List Trt} (b : Bar m H H') (hm : H m = some (.ins C dx fs)) (h : LTrs K H a ts) : LTrs K H' a ts := by
  obtain ⟨xs, h1, h2⟩ := h
  exact ⟨xs, b a _ (ne_of h1 hm (by intro z; cases z)) h1, AllAt.imp (S := TrAt K) h2 fun y t r => tr_bar b hm r⟩
/-! ### the law's own reckoning, over lists or over tuples -/
def Lq : Bool → Hp → Addr → List V → Prop
  | false, H, a, xs => H a = some (.lst xs)
  | true, H, a, xs => TupF H a xs
theorem Lq.same {H H' : Hp} {a : Addr} {xs : List V} (e : Same H H') : ∀ {tp : Bool}, Lq tp H a xs → Lq tp H' a xs
  | false, h => e _ _ h
  | true, h => TupF.same e h
theorem Lq.sqk {K : PySem.W.Frag} {H : Hp} {a : Addr} {xs : List V} : ∀ {tp : Bool}, Lq tp H a xs → SqK tp K H a xs
  | false, h => SqL.of h
  | true, h => TupF.sqt h
theorem Lq.sq {K : PySem.W.Frag} {H : Hp} {a : Addr} {xs : List V} : ∀ {tp : Bool}, Lq tp H a xs → Sq K H a xs
  | false, h => .inl (SqL.of h)
  | true, h => .inr (TupF.sqt h)
def LqT (K : PySem.W.Frag) (tp : Bool) (H : Hp) (a : Addr) (ts : List Trt) : Prop := ∃ xs, Lq tp H a xs ∧ AllAt (TrAt K) H xs ts
theorem LqT.same {K : PySem.W.Frag} {tp : Bool} {H H' : Hp} {a : Addr} {ts : List Trt} (e : Same H H') (h : LqT K tp H a ts) : LqT K tp H' a ts :=
  let ⟨xs, h1, h2⟩ := h; ⟨xs, Lq.same e h1, AllAt.same (R := TrAt K) (fun e r => TrAt.same e r) e h2⟩
def sp_law_paid (K : PySem.W.Frag) : Sp := fun vs H Q _ => ∃ (tp : Bool) (a b c : Addr) (ins : List Str) (ts : List Trt) (gs : List Int), vs = [.ref a, .ref b, .ref c] ∧ Lq tp H a (ins.map V.str) ∧ LqT K tp H b ts ∧ (∀ t ∈ ts, CvOk t.cov) ∧ ts.length ≤ 1000 ∧ ins.length ≤ 1000 ∧ SqT K H c (gs.map V.int) ∧ gs.length = ins.length ∧
  ∀ (p : Addr) (H' : Hp), Same H H' → H p = none → H' p = some (.lst ((tpay ts ins gs).map V.int)) → Q (.ref p) H'
def sp_law_round (K : PySem.W.Frag) : Sp := fun vs H Q _ => ∃ (tp tq : Bool) (a b c d : Addr) (ins : List Str) (ts : List Trt) (ds gs : List Int), vs = [.ref a, .ref b, .ref c, .ref d] ∧ Lq tp H a (ins.map V.str) ∧ LqT K tp H b ts ∧ TrsOk ins ts ∧ Lq tq H c (ds.map V.int) ∧ ds.length = ins.length ∧ SqT K H d (gs.map V.int) ∧ gs.length = ins.length ∧
  ∀ (p : Addr) (H' : Hp), Same H H' → H p = none → H' p = some (.tup ((nextG ins ts ds gs).map V.int)) → Q (.ref p) H'
def sp_law_rounds (K : PySem.W.Frag) : Sp := fun vs H Q _ => ∃ (tp tq : Bool) (a b c : Addr) (ins : List Str) (ts : List Trt) (ds : List Int), vs = [.ref a, .ref b, .ref c] ∧ Lq tp H a (ins.map V.str) ∧ LqT K tp H b ts ∧ TrsOk ins ts ∧ Lq tq H c (ds.map V.int) ∧ ds.length = ins.length ∧ DsOk ds ∧
  (∀ i, i ≤ 200 → row ins ts ds (i + 1) = row ins ts ds i → (∀ j, j < i → row ins ts ds (j + 1) ≠ row ins ts ds j) → ∀ p ys H', Same H H' → H' p = some (.lst ys) → AllAt (RowR K) H' ys ((List.range (i + 1)).map (row ins ts ds)) → Q (.ref p) H') ∧
  ((∀ i, i ≤ 200 → row ins ts ds (i + 1) ≠ row ins ts ds i) → ∀ H', Same H H' → Q .non H')
/-! ### a drawn panel -/
section
variable {K : PySem.W.Frag} {H H' : Hp} {p a : Addr} {zs xs : List V}
/-- what is no list stands, whichever list changes -/
theorem sqt_barL (b : Bar p H H') (hp : H p = some (.lst zs)) (h : SqT K H a xs) : SqT K H' a xs := by
  rcases h with (h | ⟨u, h⟩) | h
  · exact .inl (.inl (b a _ (fun e => by rw [e, hp] at h; cases h) h))
  · exact .inl (.inr ⟨u, b a _ (fun e => by rw [e, hp] at h; cases h) h⟩)
  · exact .inr h
theorem ent_barL {y : V} {e : Option Str × Int} (b : Bar p H H') (hp : H p = some (.lst zs)) (h : EntAt K H y e) : EntAt K H' y e :=
  let ⟨a, h1, h2⟩ := h; ⟨a, h1, sqt_barL b hp h2⟩
theorem pan_barL {x : V} {ps : List (Option Str × Int)} (b : Bar p H H') (hp : H p = some (.lst zs)) (h : PanAt K H x ps) : PanAt K H' x ps := by
  obtain ⟨a, xs, rfl, h1, h2, h3⟩ := h
  exact ⟨a, xs, rfl, sqt_barL b hp h1, h2, fun i e he => let ⟨y, g1, g2⟩ := h3 i e he; ⟨y, g1, ent_barL b hp g2⟩⟩
theorem tr_barL {y : V} {t : Trt} (b : Bar p H H') (hp : H p = some (.lst zs)) (h : TrAt K H y t) : TrAt K H' y t := by
  obtain ⟨a, vc, vp, rfl, h1, h2, h3⟩ := h
  exact ⟨a, vc, vp, rfl, sqt_barL b hp h1, sqt_barL b hp h2, pan_barL b hp h3⟩
theorem ent_put {D : Addr} {o : HO} {y : V} {e : Option Str × Int} (hD : H D = some (.lst zs)) (h : EntAt K H y e) : EntAt K (upd H D o) y e :=
  let ⟨a, h1, h2⟩ := h; ⟨a, h1, sqt_put hD h2⟩
theorem ent_same {y : V} {e : Option Str × Int} (s : Same H H') (h : EntAt K H y e) : EntAt K H' y e :=
  let ⟨a, h1, h2⟩ := h; ⟨a, h1, same_sqt s h2⟩
theorem strm_lst {s : Addr} (S : Strm s p H) : ∃ zs, H p = some (.lst zs) := by
  obtain ⟨d, ds, n, _, _, _, h, _, _⟩ := S.ex
  exact ⟨_, h⟩
end
/-- who may stand in a drawn panel -/
def Mays (ins : List Str) (c : Str) (o : Option Str) : Prop := o = none ∨ ∃ z, o = some z ∧ z ∈ ins ∧ z ≠ c
structure DrawnPan (ins : List Str) (c : Str) (ps : List (Option Str × Int)) : Prop where
  ok : PanOk ps
  nd : (pnames ps).Nodup
  may : ∀ o ∈ pnames ps, Mays ins c o
structure PanSt (ins : List Str) (c : Str) (i : Nat) (nl : List (Option Str)) (ps : List (Option Str × Int)) : Prop where
  nd : (nl ++ pnames ps).Nodup
  may : ∀ o ∈ nl ++ pnames ps, Mays ins c o
  len : ps.length ≤ i
  few : nl.length ≤ 7
  sh : ∀ e ∈ ps, 1 ≤ e.2 ∧ e.2 ≤ 12
  z : i = 0 → nl ≠ []
  s : 0 < i → ps ≠ []
theorem sum_12 : ∀ {l : List (Option Str × Int)}, (∀ e ∈ l, 1 ≤ e.2 ∧ e.2 ≤ 12) → (l.map (·.2)).sum ≤ 12 * (l.length : Int)
  | [], _ => by simp
  | e :: t, h => by
    have h1 := h e List.mem_cons_self
    have h2 := sum_12 fun x hx => h x (List.mem_cons_of_mem _ hx)
    rw [List.map_cons, List.sum_cons, List.length_cons]
    omega
theorem PanSt.fin {ins : List Str} {c : Str} {i : Nat} {nl : List (Option Str)} {ps : List (Option Str × Int)} (h : PanSt ins c i nl ps) (h1 : 0 < i) (h3 : i ≤ 3) (hn : ∀ z ∈ ins, isNm z = true ∧ z.length ≤ 1000) : DrawnPan ins c ps := by
  have l := h.len
  have e : ∀ x ∈ ps, x.1 ∈ nl ++ pnames ps := fun x hx => List.mem_append_right _ (List.mem_map.mpr ⟨x, hx, rfl⟩)
  refine ⟨⟨?_, by omega, fun x hx => ⟨fun z hz => ?_, (h.sh x hx).1, by have := (h.sh x hx).2; omega⟩, ?_⟩, (List.nodup_append.mp h.nd).2.1, fun o ho => h.may o (List.mem_append_right _ ho)⟩
  · exact List.length_pos_iff.mpr (h.s h1)
  · rcases h.may _ (e x hx) with q | ⟨y, q, hy, _⟩
    · rw [hz] at q
      cases q
    · rw [hz] at q
      cases Option.some.inj q
      exact hn z hy
  · have := sum_12 h.sh
    omega
theorem PanSt.up {ins : List Str} {c : Str} {i : Nat} {nl : List (Option Str)} {ps : List (Option Str × Int)} (h : PanSt ins c i nl ps) (hn : nl = []) : PanSt ins c (i + 1) nl ps := by
  refine ⟨h.nd, h.may, Nat.le_succ_of_le h.len, h.few, h.sh, fun e => by omega, fun _ => ?_⟩
  by_cases e : i = 0
  · exact absurd hn (h.z e)
  · exact h.s (by omega)
theorem PanSt.add {ins : List Str} {c : Str} {i k : Nat} {nl : List (Option Str)} {ps : List (Option Str × Int)} {o : Option Str} {n : Int} (h : PanSt ins c i nl ps) (hk : nl[k]? = some o) (h1 : 1 ≤ n) (h2 : n ≤ 12) : PanSt ins c (i + 1) (nl.eraseIdx k) (ps ++ [(o, n)]) := by
  obtain ⟨kl, ek⟩ := List.getElem?_eq_some_iff.mp hk
  have pm : (nl.eraseIdx k ++ pnames (ps ++ [(o, n)])).Perm (nl ++ pnames ps) := by
    have e1 : pnames (ps ++ [(o, n)]) = pnames ps ++ [o] := List.map_append
    rw [e1, ← List.append_assoc]
    refine List.perm_append_comm.trans ?_
    show (o :: (nl.eraseIdx k ++ pnames ps)).Perm _
    have e2 : (o :: nl.eraseIdx k).Perm nl := by
      have e3 : nl = nl.take k ++ o :: nl.drop (k + 1) := by
        rw [← ek, ← List.drop_eq_getElem_cons kl, List.take_append_drop]
      rw [List.eraseIdx_eq_take_drop_succ]
      exact List.perm_middle.symm.trans (List.Perm.of_eq e3.symm)
    exact e2.append_right (pnames ps)
  refine ⟨pm.nodup_iff.mpr h.nd, fun x hx => h.may x (pm.mem_iff.mp hx), ?_, ?_, fun e he => ?_, fun e => by omega, fun _ e => ?_⟩
  · rw [List.length_append]
    exact Nat.succ_le_succ h.len
  · rw [List.length_eraseIdx]
    have := h.few
    split <;> omega
  · rcases List.mem_append.mp he with he | he
    · exact h.sh e he
    · rw [List.mem_singleton.mp he]
      exact ⟨h1, h2⟩
  · exact absurd (List.append_eq_nil_iff.mp e).2 (by simp)
def sp_law_panel (K : PySem.W.Frag) : Sp := fun vs H Q _ => ∃ (s p a : Addr) (c : Str) (ins : List Str), vs = [.ref s, .ref a, .str c] ∧ Strm s p H ∧ H a = some (.lst (ins.map V.str)) ∧ a ≠ p ∧ ins.Nodup ∧ ins.length ≤ 6 ∧ (∀ z ∈ ins, isNm z = true ∧ z.length ≤ 1000) ∧
  ∀ (t : Addr) (ps : List (Option Str × Int)) (H' : Hp), Bar p H H' → Strm s p H' → PanAt K H' (.ref t) ps → DrawnPan ins c ps → Q (.ref t) H'
def pan0 (ins : List Str) (c : Str) : List (Option Str) := (ins.filter fun z => decide (z ≠ c)).map some
theorem pan0_step {ins : List Str} {c z : Str} {i : Nat} (h : ins[i]? = some z) : pan0 (ins.take (i + 1)) c = pan0 (ins.take i) c ++ if z ≠ c then [some z] else [] := by
  unfold pan0
  rw [List.take_add_one, h, List.filter_append, List.map_append]
  congr 1
  by_cases e : z = c
  · subst e
    simp
  · simp [e]
theorem pan0_len (ins : List Str) (c : Str) : (pan0 ins c).length ≤ ins.length := by
  unfold pan0
  rw [List.length_map]
  exact List.length_filter_le _ _
theorem pan0_st {ins : List Str} (c : Str) (hn : ins.Nodup) (hl : ins.length ≤ 6) : PanSt ins c 0 (pan0 ins c ++ [none]) [] := by
  have nd : (pan0 ins c).Nodup := by
    unfold pan0
    exact (hn.filter _).map (f := some) (fun a b h e => h (Option.some.inj e))
  have nn : none ∉ pan0 ins c := fun h => by
    obtain ⟨z, _, e⟩ := List.mem_map.mp h
    cases e
  have nd2 : (pan0 ins c ++ [none]).Nodup := by
    rw [List.nodup_append]
    refine ⟨nd, by simp, fun x hx y hy e => ?_⟩
    rw [List.mem_singleton.mp hy] at e
    exact nn (e ▸ hx)
  refine ⟨by show (pan0 ins c ++ [none] ++ []).Nodup; rw [List.append_nil]; exact nd2, fun o ho => ?_, Nat.le_refl _, ?_, fun e he => (nomatch he), fun _ e => ?_, fun h => absurd h (Nat.lt_irrefl 0)⟩
  · have ho : o ∈ pan0 ins c ++ [none] ++ [] := ho
    rw [List.append_nil] at ho
    rcases List.mem_append.mp ho with ho | ho
    · obtain ⟨z, hz, e⟩ := List.mem_map.mp ho
      obtain ⟨h1, h2⟩ := List.mem_filter.mp hz
      exact .inr ⟨z, e.symm, h1, of_decide_eq_true h2⟩
    · exact .inl (List.mem_singleton.mp ho)
  · rw [List.length_append]
    have := pan0_len ins c
    show _ + 1 ≤ 7
    omega
  · exact absurd (List.append_eq_nil_iff.mp e).2 (by simp)
/-! ### a drawn market -/
theorem int_list0 {n : Nat} : ∀ {xs : List Int}, xs.length = n → NN xs → xs.sum ≤ 0 → xs = List.replicate n 0 := fun {xs} hl h hs => by
  refine List.eq_replicate_iff.mpr ⟨hl, fun x hx => ?_⟩
  have h1 := h x hx
  have h2 := NN.le h x hx
  omega
theorem row_zero {ins : List Str} {ts : List Trt} (hok : TrsOk ins ts) : ∀ n, row ins ts (List.replicate ins.length 0) n = List.replicate ins.length 0 := fun n => by
  obtain ⟨h1, h2⟩ := rep_nn ins.length
  have h := row_le (ins := ins) hok.ok h1 n
  rw [h2, Int.mul_zero] at h
  exact int_list0 (row_len (List.length_replicate ..) n) h.1 h.2
theorem fate_zero {ins : List Str} {ts : List Trt} (hok : TrsOk ins ts) : fate ins ts (List.replicate ins.length 0) true := by
  refine ⟨0, by decide, by rw [row_zero hok, row_zero hok], fun j hj => absurd hj (Nat.not_lt_zero j), ?_⟩
  rw [row_zero hok]
  unfold big
  rw [List.any_eq_false]
  intro x hx
  rw [List.eq_of_mem_replicate hx]
  decide
/-- the direct losses so far, noughts behind -/
def upTo (ds : List Int) (k : Nat) : List Int := ds.take k ++ List.replicate (ds.length - k) 0
theorem upTo_all {ds : List Int} {k : Nat} (hk : k ≤ ds.length) (h : ∀ j, k ≤ j → j < ds.length → ds[j]? = some 0) : upTo ds k = ds := by
  unfold upTo
  apply List.ext_getElem?
  intro j
  rw [List.getElem?_append, List.length_take, Nat.min_eq_left hk]
  by_cases c : j < k
  · rw [if_pos c, List.getElem?_take_of_lt c]
  · rw [if_neg c, List.getElem?_replicate]
    by_cases d : j < ds.length
    · rw [if_pos (by omega), h j (by omega) d]
    · rw [if_neg (by omega), List.getElem?_eq_none (by omega)]
structure DrSt (ins : List Str) (ts : List Trt) (k : Nat) (ds : List Int) : Prop where
  dl : ds.length = ins.length
  d : ∀ x ∈ ds, 0 ≤ x ∧ x ≤ 649
  z : ∀ j, k ≤ j → j < ds.length → ds[j]? = some 0
  ends : ∀ j, j ≤ k → fate ins ts (upTo ds j) true
theorem DrSt.stay {ins : List Str} {ts : List Trt} {k : Nat} {ds : List Int} (h : DrSt ins ts k ds) (hk : k < ds.length) : DrSt ins ts (k + 1) ds := by
  refine ⟨h.dl, h.d, fun j hj => h.z j (by omega), fun j hj => ?_⟩
  by_cases e : j ≤ k
  · exact h.ends j e
  · have ej : j = k + 1 := by omega
    subst ej
    have h1 := h.ends k (Nat.le_refl _)
    rw [upTo_all (by omega) (fun j hj => h.z j hj)] at h1
    rw [upTo_all (by omega) (fun j hj => h.z j (by omega))]
    exact h1
theorem DrSt.set {ins : List Str} {ts : List Trt} {k : Nat} {ds : List Int} {v : Int} (h : DrSt ins ts k ds) (hk : k < ds.length) (v0 : 0 ≤ v) (v1 : v ≤ 649) (hf : fate ins ts (ds.set k v) true) : DrSt ins ts (k + 1) (ds.set k v) := by
  have hz : ∀ j, k + 1 ≤ j → j < (ds.set k v).length → (ds.set k v)[j]? = some 0 := fun j hj hl => by
    rw [List.length_set] at hl
    rw [List.getElem?_set_ne (by omega)]
    exact h.z j (by omega) hl
  refine ⟨by rw [List.length_set]; exact h.dl, fun x hx => ?_, hz, fun j hj => ?_⟩
  · rcases List.mem_or_eq_of_mem_set hx with hx | rfl
    · exact h.d x hx
    · exact ⟨v0, v1⟩
  · by_cases e : j ≤ k
    · have h1 := h.ends j e
      unfold upTo at h1 ⊢
      rw [List.length_set, List.take_set_of_le e]
      exact h1
    · have ej : j = k + 1 := by omega
      subst ej
      rw [upTo_all (by rw [List.length_set]; omega) hz]
      exact hf
theorem sum_649 : ∀ {xs : List Int}, (∀ x ∈ xs, 0 ≤ x ∧ x ≤ 649) → xs.sum ≤ 649 * (xs.length : Int)
  | [], _ => by simp
  | x :: r, h => by
    have h1 := h x List.mem_cons_self
    have ih := sum_649 fun y hy => h y (List.mem_cons_of_mem _ hy)
    rw [List.sum_cons, List.length_cons]
    omega
theorem ds_649 {ds : List Int} (hl : ds.length ≤ 6) (h : ∀ x ∈ ds, 0 ≤ x ∧ x ≤ 649) : DsOk ds := by
  refine ⟨fun x hx => (h x hx).1, ?_⟩
  have := sum_649 h
  omega
def five : List Str := ["ada", "ben", "cid", "dot", "eve"]
structure DrawnMkt (ins : List Str) (ts : List Trt) (ds : List Int) : Prop where
  lo : 1 ≤ ins.length
  hi : ins.length ≤ 5
  nm : ∀ z ∈ ins, isNm z = true ∧ z.length ≤ 1000
  ok : TrsOk ins ts
  len : ts.length ≤ 16
  trs : ∀ t ∈ ts, t.ced ∈ ins ∧ DrawnPan ins t.ced t.pan
  st : DrSt ins ts ins.length ds
  five : ∀ z ∈ ins, z ∈ five
def sp_law_drawn_market (K : PySem.W.Frag) : Sp := fun vs H Q _ => ∃ (a : Addr) (ns : List Int) (j n m : Nat), vs = [.ref a, .int (j : Int), .int (n : Int), .int (m : Int)] ∧ SqL K H a (ns.map V.int) ∧ 0 < n ∧ n ≤ 63 ∧ m ≤ 15 ∧
  ∀ (t x y z : Addr) (ins : List Str) (ts : List Trt) (ds : List Int) (H' : Hp), Same H H' → H' t = some (.tup [.ref x, .ref y, .ref z]) → TupF H' x (ins.map V.str) → LqT K true H' y ts → TupF H' z (ds.map V.int) → DrawnMkt ins ts ds → Q (.ref t) H'
/-! ### what a cedent's treaties pay altogether -/
def cedL (z : Str) (l : List (Trt × Int)) : List Int := (l.filter fun e => decide (e.1.ced = z)).map (·.2)
theorem cedL_cons {z : Str} {e : Trt × Int} {t : List (Trt × Int)} : cedL z (e :: t) = (if e.1.ced = z then [e.2] else []) ++ cedL z t := by
  unfold cedL
  rw [List.filter_cons]
  by_cases h : e.1.ced = z
  · simp only [h, decide_true, if_true, List.map_cons]
    rfl
  · simp only [h, decide_false, if_false, Bool.false_eq_true]
    rfl
theorem cedL_step {z : Str} {l : List (Trt × Int)} {i : Nat} {e : Trt × Int} (h : l[i]? = some e) : cedL z (l.take (i + 1)) = cedL z (l.take i) ++ if e.1.ced = z then [e.2] else [] := by
  have e2 : cedL z [e] = if e.1.ced = z then [e.2] else [] := by
    rw [cedL_cons]
    exact List.append_nil _
  rw [List.take_add_one, h, ← e2]
  unfold cedL
  rw [List.filter_append, List.map_append]
  rfl
def innL (c : Str) : List Trt → Int → List Int → List Int
  | [], _, ps => ps
  | _ :: _, _, [] => []
  | t :: r, x, p :: q => if (decide (t.ced = c) && !t.ended) = true then pays t.cov x :: innL c r (x - pays t.cov x) q else p :: innL c r x q
theorem inn_L (c : Str) : ∀ (ts : List Trt) (n : Nat) (x : Int) (pre ps : List Int), pre.length = n → ps.length = ts.length → inn c n ts x (pre ++ ps) = pre ++ innL c ts x ps
  | [], _, _, _, _, _, _ => rfl
  | _ :: _, _, _, _, [], _, h => by simp at h
  | t :: r, n, x, pre, p :: q, hn, hl => by
    have hl2 : q.length = r.length := Nat.succ.inj hl
    unfold inn innL
    split
    · rw [mid_set hn, show pre ++ pays t.cov x :: q = (pre ++ [pays t.cov x]) ++ q by rw [List.append_assoc]; rfl, inn_L c r (n + 1) _ _ q (by rw [List.length_append, hn]; rfl) hl2, List.append_assoc]
      rfl
    · rw [show pre ++ p :: q = (pre ++ [p]) ++ q by rw [List.append_assoc]; rfl, inn_L c r (n + 1) _ _ q (by rw [List.length_append, hn]; rfl) hl2, List.append_assoc]
      rfl
theorem innL_len (c : Str) : ∀ (ts : List Trt) (x : Int) (ps : List Int), ps.length = ts.length → (innL c ts x ps).length = ts.length
  | [], _, ps, h => h
  | _ :: _, _, [], h => by simp at h
  | t :: r, x, p :: q, h => by
    have h2 : q.length = r.length := Nat.succ.inj h
    unfold innL
    split
    · rw [List.length_cons, List.length_cons, innL_len c r _ q h2]
    · rw [List.length_cons, List.length_cons, innL_len c r _ q h2]
theorem innL_other {c z : Str} (hz : c ≠ z) : ∀ (ts : List Trt) (x : Int) (ps : List Int), ps.length = ts.length → cedL z (ts.zip (innL c ts x ps)) = cedL z (ts.zip ps)
  | [], _, _, _ => rfl
  | _ :: _, _, [], h => by simp at h
  | t :: r, x, p :: q, h => by
    have h2 : q.length = r.length := Nat.succ.inj h
    unfold innL
    split
    · rename_i a
      rw [Bool.and_eq_true] at a
      have ec := of_decide_eq_true a.1
      rw [List.zip_cons_cons, List.zip_cons_cons, cedL_cons, cedL_cons, if_neg (fun e => hz (ec.symm.trans e)), if_neg (fun e => hz (ec.symm.trans e)), innL_other hz r _ q h2]
    · rw [List.zip_cons_cons, List.zip_cons_cons, cedL_cons, cedL_cons, innL_other hz r _ q h2]
theorem innL_own {z : Str} : ∀ (ts : List Trt) (n : Nat) (x : Int) (ps : List Int), ps.length = ts.length → (∀ v ∈ cedL z (ts.zip ps), v = 0) → (cedL z (ts.zip (innL z ts x ps))).sum = (prog ((actv z n ts).map (·.2)) x).1.sum
  | [], _, _, _, _, _ => rfl
  | _ :: _, _, _, [], h, _ => by simp at h
  | t :: r, n, x, p :: q, h, h0 => by
    have h2 : q.length = r.length := Nat.succ.inj h
    rw [List.zip_cons_cons, cedL_cons] at h0
    have h3 : ∀ v ∈ cedL z (r.zip q), v = 0 := fun v hv => h0 v (List.mem_append_right _ hv)
    unfold innL actv
    split
    · rename_i a
      rw [Bool.and_eq_true] at a
      have ih := innL_own r (n + 1) (x - pays t.cov x) q h2 h3
      rw [List.zip_cons_cons, cedL_cons, if_pos (of_decide_eq_true a.1), List.map_cons]
      show (pays t.cov x :: cedL z (r.zip (innL z r (x - pays t.cov x) q))).sum = (pays t.cov x :: (prog ((actv z (n + 1) r).map (·.2)) (x - pays t.cov x)).1).sum
      rw [List.sum_cons, List.sum_cons, ih]
    · have ih := innL_own r (n + 1) x q h2 h3
      rw [List.zip_cons_cons, cedL_cons]
      by_cases e : t.ced = z
      · rw [if_pos e] at h0 ⊢
        have p0 := h0 p (List.mem_append_left _ List.mem_cons_self)
        show (p :: cedL z (r.zip (innL z r x q))).sum = _
        rw [List.sum_cons, p0, Int.zero_add, ih]
      · rw [if_neg e]
        exact ih
theorem pay_step {ts : List Trt} {c : Str} {x : Int} {l : List (Str × Int)} {ps : List Int} (h : ps.length = ts.length) : payP ts ((c, x) :: l) ps = payP ts l (innL c ts x ps) := by
  have e1 := inn_L c ts 0 x [] ps rfl h
  have e2 := inn_put c ts 0 x ps
  show payP ts l (putP ps (((actv c 0 ts).map (·.1)).zip (cedeP c ts x).1)) = _
  unfold cedeP
  rw [← e2]
  exact congrArg (payP ts l) e1
theorem pay_other {z : Str} {ts : List Trt} : ∀ {l : List (Str × Int)} {ps : List Int}, (∀ e ∈ l, e.1 ≠ z) → ps.length = ts.length → cedL z (ts.zip (payP ts l ps)) = cedL z (ts.zip ps)
  | [], _, _, _ => rfl
  | (c, x) :: l, ps, h, hl => by
    rw [pay_step hl, pay_other (l := l) (fun e he => h e (List.mem_cons_of_mem _ he)) (innL_len c ts x ps hl)]
    exact innL_other (h (c, x) List.mem_cons_self) ts x ps hl
theorem pay_own {z : Str} {x : Int} {ts : List Trt} : ∀ {l : List (Str × Int)} {ps : List Int}, (l.map (·.1)).Nodup → (z, x) ∈ l → ps.length = ts.length → (∀ v ∈ cedL z (ts.zip ps), v = 0) → (cedL z (ts.zip (payP ts l ps))).sum = (cedeP z ts x).1.sum
  | [], _, _, hm, _, _ => (nomatch hm)
  | (c, y) :: l, ps, hn, hm, hl, h0 => by
    rw [List.map_cons, List.nodup_cons] at hn
    rw [pay_step hl]
    by_cases e : c = z
    · subst e
      have ey : y = x := by
        rcases List.mem_cons.mp hm with q | q
        · exact (Prod.mk.inj q).2.symm
        · exact absurd (List.mem_map.mpr ⟨_, q, rfl⟩) hn.1
      subst ey
      rw [pay_other (fun e he q => hn.1 (List.mem_map.mpr ⟨e, he, q⟩)) (innL_len c ts y ps hl)]
      exact innL_own ts 0 y ps hl h0
    · have hm2 : (z, x) ∈ l := by
        rcases List.mem_cons.mp hm with q | q
        · exact absurd (Prod.mk.inj q).1.symm e
        · exact q
      refine pay_own hn.2 hm2 (innL_len c ts y ps hl) ?_
      rw [innL_other e ts y ps hl]
      exact h0
theorem ceded_sum {ins : List Str} {ts : List Trt} {gs : List Int} (hn : ins.Nodup) (hl : gs.length = ins.length) {k : Nat} {z : Str} {x : Int} (hz : ins[k]? = some z) (hx : gs[k]? = some x) : (cedL z (ts.zip (tpay ts ins gs))).sum = x - (cedeP z ts x).2 := by
  have e1 : (ins.zip gs).map (·.1) = ins := List.map_fst_zip (by omega)
  have h := pay_own (z := z) (x := x) (ts := ts) (l := ins.zip gs) (ps := List.replicate ts.length 0) (by rw [e1]; exact hn) (List.mem_of_getElem? (List.getElem?_zip_eq_some.mpr ⟨hz, hx⟩)) (List.length_replicate ..) (fun v hv => by
    obtain ⟨e, he, rfl⟩ := List.mem_map.mp hv
    exact List.eq_of_mem_replicate (List.of_mem_zip (List.mem_filter.mp he).1).2)
  have h2 := prog_sum ((actv z 0 ts).map (·.2)) x
  have h3 : (cedeP z ts x).1.sum + (cedeP z ts x).2 = x := h2
  show (cedL z (ts.zip (payP ts (ins.zip gs) (List.replicate ts.length 0)))).sum = _
  omega
/-! ### the market is built -/
def sp_law_built (K : PySem.W.Frag) (C : Addr) : Sp := fun vs H Q _ => ∃ (x y z : Addr) (ins : List Str) (ts : List Trt) (ds : List Int), vs = [.ref x, .ref y, .ref z] ∧ TupF H x (ins.map V.str) ∧ LqT K true H y ts ∧ TupF H z (ds.map V.int) ∧ DrawnMkt ins ts ds ∧
  ∀ (m : Addr) (L : List ((Str × Str) × Int)) (H' : Hp), Same H H' → MktAt K C H' m ⟨ins, ["storm"], ts, L⟩ → directs ins L "storm" = ds → directs ins L "flood" = List.replicate ins.length 0 → (L.map (·.1)).Nodup → L.length ≤ 16 → Q (.ref m) H'
def opn (t : Trt) : Trt := ⟨t.ced, t.cov, t.pan, false⟩
def mix (ts : List Trt) (k : Nat) : List Trt := ts.take k ++ (ts.drop k).map opn
theorem mix_len (ts : List Trt) (k : Nat) : (mix ts k).length = ts.length := by
  unfold mix
  rw [List.length_append, List.length_map, List.length_take, List.length_drop]
  omega
theorem mix_cons {ts : List Trt} {k : Nat} {t : Trt} (h : ts[k]? = some t) : mix ts k = ts.take k ++ opn t :: (ts.drop (k + 1)).map opn := by
  obtain ⟨h1, h2⟩ := List.getElem?_eq_some_iff.mp h
  unfold mix
  rw [List.drop_eq_getElem_cons h1, h2, List.map_cons]
theorem mix_next {ts : List Trt} {k : Nat} {t : Trt} (h : ts[k]? = some t) : mix ts (k + 1) = ts.take k ++ t :: (ts.drop (k + 1)).map opn := by
  unfold mix
  rw [List.take_add_one, h, List.append_assoc]
  rfl
theorem mix_at {ts : List Trt} {k : Nat} {t : Trt} (h : ts[k]? = some t) : (mix ts k)[k]? = some (opn t) := by
  have h1 := (List.getElem?_eq_some_iff.mp h).1
  rw [mix_cons h, List.getElem?_append_right (by rw [List.length_take]; omega), List.length_take, Nat.min_eq_left (by omega), Nat.sub_self]
  rfl
theorem mix_end {ts : List Trt} {k : Nat} {t : Trt} (h : ts[k]? = some t) (he : t.ended = true) : endT (mix ts k) k = mix ts (k + 1) := by
  have h1 := (List.getElem?_eq_some_iff.mp h).1
  have hl : (ts.take k).length = k := by
    rw [List.length_take]
    omega
  have et : { opn t with ended := true } = t := by
    cases t
    cases he
    rfl
  rw [endT_at (mix_at h), et, mix_next h, mix_cons h, List.take_append_of_le_length (by omega), List.take_of_length_le (by omega)]
  congr 2
  rw [List.drop_append, hl, List.drop_eq_nil_of_le (by omega), show k + 1 - k = 1 by omega]
  rfl
theorem mix_same {ts : List Trt} {k : Nat} {t : Trt} (h : ts[k]? = some t) (he : t.ended = false) : mix ts k = mix ts (k + 1) := by
  have et : opn t = t := by
    cases t
    cases he
    rfl
  rw [mix_cons h, mix_next h, et]
theorem mix_zero (ts : List Trt) : mix ts 0 = ts.map opn := rfl
theorem mix_all (ts : List Trt) : mix ts ts.length = ts := by
  unfold mix
  rw [List.take_of_length_le (Nat.le_refl _), List.drop_eq_nil_of_le (Nat.le_refl _)]
  exact List.append_nil _
theorem trs_like {ins : List Str} {ts us : List Trt} (h : TrsOk ins ts) (hl : us.length ≤ 1000) (hm : ∀ u ∈ us, ∃ v ∈ ts, u.cov = v.cov ∧ u.pan = v.pan) : TrsOk ins us := by
  refine ⟨h.nd, fun u hu => ?_, fun u hu => ?_, hl, h.few⟩
  · obtain ⟨v, hv, e1, e2⟩ := hm u hu
    have := h.ok v hv
    exact ⟨by rw [e1]; exact this.c, by rw [e2]; exact this.p⟩
  · obtain ⟨v, hv, e1, e2⟩ := hm u hu
    rw [e2]
    exact h.mem v hv
theorem trs_mix {ins : List Str} {ts : List Trt} (h : TrsOk ins ts) (k : Nat) : TrsOk ins (mix ts k) := by
  refine trs_like h (by rw [mix_len]; exact h.len) fun u hu => ?_
  rcases List.mem_append.mp hu with hu | hu
  · exact ⟨u, List.mem_of_mem_take hu, rfl, rfl⟩
  · obtain ⟨v, hv, rfl⟩ := List.mem_map.mp hu
    exact ⟨v, List.mem_of_mem_drop hv, rfl, rfl⟩
theorem trs_opn {ins : List Str} {ts : List Trt} (h : TrsOk ins ts) (k : Nat) : TrsOk ins ((ts.take k).map opn) := by
  have := h.len
  refine trs_like h (by rw [List.length_map, List.length_take]; omega) fun u hu => ?_
  obtain ⟨v, hv, rfl⟩ := List.mem_map.mp hu
  exact ⟨v, List.mem_of_mem_take hv, rfl, rfl⟩
theorem opn_next {ts : List Trt} {k : Nat} {t : Trt} (h : ts[k]? = some t) : (ts.take (k + 1)).map opn = (ts.take k).map opn ++ [⟨t.ced, t.cov, t.pan, false⟩] := by
  rw [List.take_add_one, h, List.map_append]
  rfl
theorem placed_drawn {ins : List Str} {c : Str} {ps : List (Option Str × Int)} (hc : c ∈ ins) (h : DrawnPan ins c ps) : placed c ps ins = none := by
  have hu : ∀ l : List (Option Str), (∀ o ∈ l, Mays ins c o) → firstUn ins l = none := fun l => by
    induction l with
    | nil => exact fun _ => rfl
    | cons o t ih =>
      intro hm
      have ht := ih fun x hx => hm x (List.mem_cons_of_mem _ hx)
      rcases hm o List.mem_cons_self with rfl | ⟨z, rfl, hz, _⟩
      · exact ht
      · exact (if_pos hz).trans ht
  have hc2 : some c ∉ pnames ps := fun q => by
    rcases h.may _ q with e | ⟨z, e, _, hz⟩
    · cases e
    · exact hz (Option.some.inj e).symm
  unfold placed
  rw [if_neg (fun q => q hc), hu _ h.may]
  show (if ¬(pnames ps).Nodup then _ else _) = _
  rw [if_neg (fun q => q h.nd), if_neg hc2]
theorem directs_nil (ins : List Str) (e : Str) : directs ins [] e = List.replicate ins.length 0 := by
  unfold directs
  apply List.ext_getElem?
  intro j
  rw [List.getElem?_map, List.getElem?_replicate]
  by_cases c : j < ins.length
  · rw [if_pos c, List.getElem?_eq_getElem c]
    rfl
  · rw [if_neg c, List.getElem?_eq_none (by omega)]
    rfl
theorem lossOf_none {L : List ((Str × Str) × Int)} {e z : Str} (h : ∀ p ∈ L, p.1.1 ≠ e) : lossOf L e z = 0 := by
  unfold lossOf
  have : (L.find? fun p => decide (p.1 = (e, z))) = none := by
    rw [List.find?_eq_none]
    intro p hp q
    exact h p hp (congrArg Prod.fst (of_decide_eq_true q))
  rw [this]
  rfl
theorem directs_none {ins : List Str} {L : List ((Str × Str) × Int)} {e : Str} (h : ∀ p ∈ L, p.1.1 ≠ e) : directs ins L e = List.replicate ins.length 0 := by
  rw [← directs_nil ins e]
  unfold directs
  exact List.map_congr_left fun z _ => (lossOf_none h).trans rfl
theorem setL_ev {L : List ((Str × Str) × Int)} {e z : Str} {n : Int} (h : ∀ p ∈ L, p.1.1 = e) : ∀ p ∈ setL L e z n, p.1.1 = e := fun p hp => by
  unfold setL at hp
  split at hp
  · obtain ⟨q, hq, rfl⟩ := List.mem_map.mp hp
    split
    · exact h q hq
    · exact h q hq
  · rcases List.mem_append.mp hp with hp | hp
    · exact h p hp
    · rw [List.mem_singleton.mp hp]
theorem upTo_set {ds : List Int} {k : Nat} {v : Int} (h : ds[k]? = some v) : (upTo ds k).set k v = upTo ds (k + 1) := by
  have h1 := (List.getElem?_eq_some_iff.mp h).1
  have hl : (ds.take k).length = k := by
    rw [List.length_take]
    omega
  unfold upTo
  rw [List.take_add_one, h, List.set_append_right _ _ (by omega), hl, Nat.sub_self, show ds.length - k = (ds.length - (k + 1)) + 1 by omega, List.replicate_succ, List.append_assoc]
  rfl
section
variable {K : PySem.W.Frag} {H H' : Hp} {m a : Addr} {C dx : Addr} {fs : List (Str × V)} {xs : List V}
theorem frz_bar (b : Bar m H H') (hm : H m = some (.ins C dx fs)) (h : TupF H a xs) : TupF H' a xs :=
  let ⟨o, h1, h2⟩ := h; ⟨o, b a _ (fun e => by rw [e, hm] at h1; cases h1) h1, h2⟩
theorem sql_bar (b : Bar m H H') (hm : H m = some (.ins C dx fs)) (h : SqL K H a xs) : SqL K H' a xs := by
  rcases h with (h | ⟨u, h⟩) | h
  · exact .inl (.inl (b a _ (fun e => by rw [e, hm] at h; cases h) h))
  · exact .inl (.inr ⟨u, b a _ (fun e => by rw [e, hm] at h; cases h) h⟩)
  · exact .inr h
theorem lst_bar (b : Bar m H H') (hm : H m = some (.ins C dx fs)) (h : H a = some (.lst xs)) : H' a = some (.lst xs) := b a _ (fun e => by rw [e, hm] at h; cases h) h
theorem lqt_bar {ts : List Trt} (b : Bar m H H') (hm : H m = some (.ins C dx fs)) (h : LqT K true H a ts) : LqT K true H' a ts :=
  let ⟨xs, h1, h2⟩ := h; ⟨xs, frz_bar b hm h1, AllAt.imp (S := TrAt K) h2 fun _ _ r => tr_bar b hm r⟩
theorem rows_bar {ys : List V} {rs : List (List Int)} (b : Bar m H H') (hm : H m = some (.ins C dx fs)) (h : AllAt (RowR K) H ys rs) : AllAt (RowR K) H' ys rs :=
  AllAt.imp (S := RowR K) h fun _ _ r => let ⟨b', e1, e2⟩ := r; ⟨b', e1, sqt_bar b hm e2⟩
theorem dp_rows {p : Addr} {ys : List V} {rs : List (List Int)} (hS : SqT K H p ys) (hA : AllAt (RowR K) H ys rs) : Dp K H (.ref p) (.tuple (rs.map rwD)) := .tup hS (dp_all (R := RowR K) (fun _ _ r => dp_rw r) hA.1 hA.2)
theorem dp_ints' {p : Addr} {ns : List Int} (h : SqT K H p (ns.map V.int)) : Dp K H (.ref p) (rwD ns) := .tup h (DpAll.ints ns)
/-- (0,) * n -/
theorem rep_any {n : Nat} {t0 : Addr} {Q : VK} (hT : SqT K H t0 [.int 0]) (h1 : 1 ≤ n) (h2 : n ≤ 1000) (q : ∀ p H', Same H H' → SqT K H' p ((List.replicate n (0 : Int)).map V.int) → Q (.ref p) H') :
    rRepT K (.ref t0) (.int (n : Int)) H Q ∨ (∃ l xs, V.ref t0 = .ref l ∧ V.int (n : Int) = .int 1 ∧ SqT K H l xs ∧ Q (.ref l) H) := by
  by_cases e : n = 1
  · subst e
    exact .inr ⟨t0, _, rfl, rfl, hT, q t0 H (Same.refl _) hT⟩
  · refine .inl ⟨t0, (n : Int), _, rfl, rfl, hT, by simp, by omega, by omega, by show 1 ≤ 1000; decide, fun p np => q p _ (same_new np) ?_⟩
    have e2 : (List.replicate ((n : Int)).toNat [V.int 0]).flatten = (List.replicate n (0 : Int)).map V.int := by
      rw [show ((n : Int)).toNat = n by omega]
      exact rep0 n
    rw [e2]
    exact SqT.of upd_same
end
theorem big_zero (n : Nat) : big (List.replicate n 0) = false := by
  unfold big
  rw [List.any_eq_false]
  intro x hx
  rw [List.eq_of_mem_replicate hx]
  decide
theorem ok_rows {rs : List (List Int)} (h1 : rs.length ≤ 5000) (h2 : ∀ r ∈ rs, r.length ≤ 5000) : dOk 8 (.tuple (rs.map rwD)) = true := ok_of (n := 7) h1 fun r hr => ok_rw (n := 5) (h2 r hr)
def psD (r : Pst) : PyData := .tuple [.str r.z, .int r.d, .int r.a, .int r.c, .int r.n]
theorem dp_ps {K : PySem.W.Frag} {H : Hp} {y : V} {r : Pst} (h : PosR K H y r) : Dp K H y (psD r) := by
  obtain ⟨b, rfl, h⟩ := h
  exact .tup h (.cons (.str _) (.cons (.int _) (.cons (.int _) (.cons (.int _) (.cons (.int _) .nil)))))
theorem ok_ps {rs : List Pst} (h1 : rs.length ≤ 5000) : dOk 8 (.tuple (rs.map psD)) = true := ok_of (n := 7) h1 fun r _ => rfl
theorem last_is {K : PySem.W.Frag} {H : Hp} {ys : List V} {n : Nat} {f : Nat → List Int} (h : AllAt (RowR K) H ys ((List.range (n + 1)).map f)) : ∃ (zs : List V) (b : Addr), ys = zs ++ [.ref b] ∧ SqT K H b ((f n).map V.int) := by
  obtain ⟨y, hy, b, rfl, hb⟩ := h.2 n (f n) (by rw [List.getElem?_map, List.getElem?_range (Nat.lt_succ_self n)]; rfl)
  have hl : ys.length = n + 1 := by rw [h.1, List.length_map, List.length_range]
  refine ⟨ys.take n, b, ?_, hb⟩
  obtain ⟨h1, h2⟩ := List.getElem?_eq_some_iff.mp hy
  rw [← h2, List.take_append_getElem h1, List.take_of_length_le (Nat.le_of_eq hl)]
/-! ### what is greater, one by one -/
inductive Le : List Int → List Int → Prop
  | nil : Le [] []
  | cons {x y : Int} {xs ys : List Int} : x ≤ y → Le xs ys → Le (x :: xs) (y :: ys)
theorem Le.refl : ∀ xs : List Int, Le xs xs
  | [] => .nil
  | _ :: t => .cons (Int.le_refl _) (Le.refl t)
theorem Le.len : ∀ {xs ys : List Int}, Le xs ys → xs.length = ys.length
  | _, _, .nil => rfl
  | _, _, .cons _ t => congrArg Nat.succ t.len
theorem Le.trans : ∀ {xs ys zs : List Int}, Le xs ys → Le ys zs → Le xs zs
  | _, _, _, .nil, .nil => .nil
  | _, _, _, .cons h t, .cons h2 t2 => .cons (Int.le_trans h h2) (t.trans t2)
theorem Le.get : ∀ {xs ys : List Int} {i : Nat} {x y : Int}, Le xs ys → xs[i]? = some x → ys[i]? = some y → x ≤ y
  | _, _, _, _, _, .nil, h, _ => by simp at h
  | _, _, 0, _, _, .cons h _, h1, h2 => by
    cases Option.some.inj h1
    cases Option.some.inj h2
    exact h
  | _, _, i + 1, _, _, .cons _ t, h1, h2 => t.get (i := i) h1 h2
theorem Le.of : ∀ {xs ys : List Int}, xs.length = ys.length → (∀ (i : Nat) x y, xs[i]? = some x → ys[i]? = some y → x ≤ y) → Le xs ys
  | [], [], _, _ => .nil
  | [], _ :: _, h, _ => by simp at h
  | _ :: _, [], h, _ => by simp at h
  | x :: xs, y :: ys, h, g => .cons (g 0 x y rfl rfl) (Le.of (Nat.succ.inj h) fun i a b h1 h2 => g (i + 1) a b h1 h2)
theorem Le.set : ∀ {xs ys : List Int} {n : Nat} {x y : Int}, Le xs ys → x ≤ y → Le (xs.set n x) (ys.set n y)
  | _, _, _, _, _, .nil, _ => .nil
  | _, _, 0, _, _, .cons _ t, h => .cons h t
  | _, _, n + 1, _, _, .cons h0 t, h => .cons h0 (t.set (n := n) h)
theorem Le.sum : ∀ {xs ys : List Int}, Le xs ys → xs.sum ≤ ys.sum
  | _, _, .nil => Int.le_refl _
  | _, _, .cons h t => by
    rw [List.sum_cons, List.sum_cons]
    have := t.sum
    omega
theorem Le.app : ∀ {xs ys us vs : List Int}, Le xs ys → Le us vs → Le (xs ++ us) (ys ++ vs)
  | _, _, _, _, .nil, h => h
  | _, _, _, _, .cons h t, g => .cons h (t.app g)
theorem Le.nn {xs ys : List Int} (h : Le xs ys) (n : NN xs) : NN ys := fun y hy => by
  obtain ⟨i, hi⟩ := List.mem_iff_getElem?.mp hy
  have hl := h.len
  have hi2 := (List.getElem?_eq_some_iff.mp hi).1
  obtain ⟨x, hx⟩ : ∃ x, xs[i]? = some x := ⟨_, List.getElem?_eq_getElem (by omega)⟩
  have h1 := n x (List.mem_of_getElem? hx)
  have h2 := h.get hx hi
  omega
theorem up_by {p : Int → Int → Prop} (r : ∀ x, p x x) (t : ∀ x y z, p x y → p y z → p x z) (s : ∀ x, p x (x + 1)) {x y : Int} (h : x ≤ y) : p x y := by
  obtain ⟨n, rfl⟩ : ∃ n : Nat, y = x + (n : Int) := ⟨(y - x).toNat, by omega⟩
  clear h
  induction n with
  | zero =>
    rw [show x + ((0 : Nat) : Int) = x by omega]
    exact r x
  | succ n ih =>
    rw [show x + ((n + 1 : Nat) : Int) = (x + (n : Int)) + 1 by omega]
    exact t _ _ _ ih (s _)
theorem pays_mono {c : Cov} (h : CvOk c) {x y : Int} (hxy : x ≤ y) : pays c x ≤ pays c y ∧ x - pays c x ≤ y - pays c y :=
  up_by (p := fun x y => pays c x ≤ pays c y ∧ x - pays c x ≤ y - pays c y) (fun _ => ⟨Int.le_refl _, Int.le_refl _⟩) (fun _ _ _ a b => ⟨Int.le_trans a.1 b.1, Int.le_trans a.2 b.2⟩) (fun x => by
    rcases pays_step h x with e | e <;> omega) hxy
theorem prog_mono : ∀ {cs : List Cov} {x y : Int}, AllOk cs → x ≤ y → Le (prog cs x).1 (prog cs y).1 ∧ (prog cs x).2 ≤ (prog cs y).2
  | [], _, _, _, h => ⟨.nil, h⟩
  | c :: t, x, y, hc, h => by
    have h1 := pays_mono (hc c List.mem_cons_self) h
    have ih := prog_mono (cs := t) (fun d hd => hc d (List.mem_cons_of_mem _ hd)) h1.2
    exact ⟨.cons h1.1 ih.1, ih.2⟩
theorem bump_le : ∀ (j : Nat) (xs : List Int), Le xs (bump j xs) := fun j xs => Le.of (by rw [bump_len]) fun i x y hx hy => by
  rw [bump_get, hx] at hy
  have e : (if i = j then x + 1 else x) = y := Option.some.inj hy
  split at e <;> omega
theorem alloc_mono {sh : List Int} (hp : Pos sh) (hn : sh ≠ []) {x y : Int} (h : x ≤ y) : Le (alloc x sh) (alloc y sh) :=
  up_by (p := fun x y => Le (alloc x sh) (alloc y sh)) (fun _ => Le.refl _) (fun _ _ _ a b => a.trans b) (fun x => by
    rw [alloc_succ x sh hp hn]
    exact bump_le _ _) h
theorem putP_mono : ∀ {ns : List Nat} {as bs ps qs : List Int}, Le as bs → Le ps qs → Le (putP ps (ns.zip as)) (putP qs (ns.zip bs))
  | [], _, _, _, _, _, h => h
  | _ :: _, _, _, _, _, .nil, h => h
  | n :: ns, _, _, _, _, .cons h t, hp => putP_mono (ns := ns) t (hp.set h)
theorem actv_all {c : Str} {ts : List Trt} (h : ∀ t ∈ ts, CvOk t.cov) : AllOk ((actv c 0 ts).map (·.2)) := fun d hd => by
  obtain ⟨p, hp, rfl⟩ := List.mem_map.mp hd
  exact (actv_ok h p hp).1
theorem cede_mono {c : Str} {ts : List Trt} (h : ∀ t ∈ ts, CvOk t.cov) {x y : Int} (hxy : x ≤ y) : Le (cedeP c ts x).1 (cedeP c ts y).1 ∧ (cedeP c ts x).2 ≤ (cedeP c ts y).2 := prog_mono (actv_all h) hxy
theorem payP_mono {ts : List Trt} (h : ∀ t ∈ ts, CvOk t.cov) : ∀ {ins : List Str} {gs hs ps qs : List Int}, Le gs hs → Le ps qs → Le (payP ts (ins.zip gs) ps) (payP ts (ins.zip hs) qs)
  | [], _, _, _, _, _, hp => hp
  | _ :: _, _, _, _, _, .nil, hp => hp
  | c :: ins, _, _, _, _, .cons hx t, hp => payP_mono h (ins := ins) t (putP_mono (cede_mono h hx).1 hp)
theorem tpay_mono {ts : List Trt} (h : ∀ t ∈ ts, CvOk t.cov) {ins : List Str} {gs hs : List Int} (hg : Le gs hs) : Le (tpay ts ins gs) (tpay ts ins hs) := payP_mono h hg (Le.refl _)
theorem addAt_mono : ∀ {ins : List Str} {ls ks : List Int} {z : Str} {p q : Int}, Le ls ks → p ≤ q → Le (addAt ins ls z p) (addAt ins ks z q)
  | [], _, _, _, _, _, h, _ => h
  | _ :: _, _, _, _, _, _, .nil, _ => .nil
  | i :: r, _, _, z, _, _, .cons h t, hp => by
    unfold addAt
    split
    · exact .cons (by omega) t
    · exact .cons h (addAt_mono (ins := r) t hp)
theorem addAt_ge : ∀ {ins : List Str} {ls : List Int} {z : Str} {p : Int}, 0 ≤ p → Le ls (addAt ins ls z p)
  | [], _, _, _, _ => Le.refl _
  | _ :: _, [], _, _, _ => .nil
  | i :: r, x :: xs, z, p, hp => by
    unfold addAt
    split
    · exact .cons (by omega) (Le.refl _)
    · exact .cons (Int.le_refl _) (addAt_ge (ins := r) hp)
theorem addPan_mono {ins : List Str} : ∀ {pan : List (Option Str × Int)} {as bs ls ks : List Int}, Le as bs → Le ls ks → Le (addPan ins (pan.zip as) ls) (addPan ins (pan.zip bs) ks)
  | [], _, _, _, _, _, h => h
  | _ :: _, _, _, _, _, .nil, h => h
  | (none, _) :: pan, _, _, _, _, .cons _ t, h => addPan_mono (pan := pan) t h
  | (some z, _) :: pan, _, _, _, _, .cons hp t, h => addPan_mono (pan := pan) t (addAt_mono h hp)
theorem addPan_ge {ins : List Str} : ∀ {l : List ((Option Str × Int) × Int)} {ls : List Int}, (∀ e ∈ l, 0 ≤ e.2) → Le ls (addPan ins l ls)
  | [], _, _ => Le.refl _
  | ((none, _), _) :: l, _, h => addPan_ge (l := l) fun e he => h e (List.mem_cons_of_mem _ he)
  | ((some z, _), p) :: l, _, h => (addAt_ge (h _ List.mem_cons_self)).trans (addPan_ge (l := l) fun e he => h e (List.mem_cons_of_mem _ he))
theorem addTrs_mono {ins : List Str} : ∀ {ts : List Trt} {as bs ls ks : List Int}, (∀ t ∈ ts, TrtOk t) → Le as bs → Le ls ks → Le (addTrs ins (ts.zip as) ls) (addTrs ins (ts.zip bs) ks)
  | [], _, _, _, _, _, _, h => h
  | _ :: _, _, _, _, _, _, .nil, h => h
  | t :: ts, _, _, _, _, hok, .cons hp r, h => by
    have ht := (hok t List.mem_cons_self).p
    exact addTrs_mono (ts := ts) (fun u hu => hok u (List.mem_cons_of_mem _ hu)) r (addPan_mono (alloc_mono (shs_pos ht) (shs_ne ht) hp) h)
theorem addTrs_ge {ins : List Str} : ∀ {l : List (Trt × Int)} {ls : List Int}, (∀ e ∈ l, TrtOk e.1 ∧ 0 ≤ e.2) → Le ls (addTrs ins l ls)
  | [], _, _ => Le.refl _
  | (t, m) :: l, _, h => by
    obtain ⟨h1, h2⟩ := h _ List.mem_cons_self
    exact (addPan_ge fun e he => (alloc_nonneg (shs_pos h1.p) h2 _ (List.of_mem_zip he).2).1).trans (addTrs_ge (l := l) fun e he => h e (List.mem_cons_of_mem _ he))
section
variable {ins : List Str} {ts : List Trt}
theorem next_mono (hok : TrsOk ins ts) {ds es gs hs : List Int} (hd : Le ds es) (hg : Le gs hs) : Le (nextG ins ts ds gs) (nextG ins ts es hs) := addTrs_mono hok.ok (tpay_mono (fun t ht => (hok.ok t ht).c) hg) hd
theorem next_ge (hok : TrsOk ins ts) {ds gs : List Int} (hg : NN gs) : Le ds (nextG ins ts ds gs) := addTrs_ge fun e he => ⟨hok.ok _ (List.of_mem_zip he).1, (tpay_le (ins := ins) (fun t ht => (hok.ok t ht).c) hg).1 _ (List.of_mem_zip he).2⟩
theorem row_mono (hok : TrsOk ins ts) {ds es : List Int} (hd : Le ds es) : ∀ n, Le (row ins ts ds n) (row ins ts es n)
  | 0 => hd
  | n + 1 => next_mono hok hd (row_mono hok hd n)
theorem row_up (hok : TrsOk ins ts) {ds : List Int} (hd : NN ds) : ∀ n, Le (row ins ts ds n) (row ins ts ds (n + 1))
  | 0 => next_ge hok hd
  | n + 1 => next_mono hok (Le.refl _) (row_up hok hd n)
theorem row_least (hok : TrsOk ins ts) {ds s : List Int} (hs : NN s) (h : Le (nextG ins ts ds s) s) : ∀ n, Le (row ins ts ds n) s
  | 0 => (next_ge hok hs).trans h
  | n + 1 => (next_mono hok (Le.refl _) (row_least hok hs h n)).trans h
theorem row_stay {ds : List Int} {i : Nat} (h : row ins ts ds (i + 1) = row ins ts ds i) : ∀ k, row ins ts ds (i + k) = row ins ts ds i
  | 0 => rfl
  | k + 1 => by
    show nextG ins ts ds (row ins ts ds (i + k)) = _
    rw [row_stay h k]
    exact h
theorem fix_mono (hok : TrsOk ins ts) {ds es : List Int} (hd : Le ds es) {i j : Nat} (hi : row ins ts ds (i + 1) = row ins ts ds i) (hj : row ins ts es (j + 1) = row ins ts es j) : Le (row ins ts ds i) (row ins ts es j) := by
  have h := row_mono hok hd (i + j)
  rw [row_stay hi j, Nat.add_comm i j, row_stay hj i] at h
  exact h
end
/-! ### sums -/
theorem addAt_sum : ∀ {ins : List Str} {ls : List Int} {z : Str} {p : Int}, z ∈ ins → ls.length = ins.length → (addAt ins ls z p).sum = ls.sum + p
  | [], _, _, _, h, _ => (nomatch h)
  | _ :: _, [], _, _, _, h => by simp at h
  | i :: r, x :: xs, z, p, hz, hl => by
    unfold addAt
    split
    · rw [List.sum_cons, List.sum_cons]
      omega
    · rename_i c
      have hz2 : z ∈ r := by
        rcases List.mem_cons.mp hz with q | q
        · exact absurd q.symm c
        · exact q
      rw [List.sum_cons, List.sum_cons, addAt_sum hz2 (Nat.succ.inj hl)]
      omega
theorem addPan_sum {ins : List Str} : ∀ {l : List ((Option Str × Int) × Int)} {ls : List Int}, (∀ e ∈ l, ∀ z, e.1.1 = some z → z ∈ ins) → ls.length = ins.length → (addPan ins l ls).sum = ls.sum + (l.map (·.2)).sum - partOf none l
  | [], ls, _, _ => by
    show ls.sum = ls.sum + ([] : List Int).sum - 0
    simp
  | ((none, s), p) :: l, ls, h, hl => by
    have ih := addPan_sum (l := l) (fun e he => h e (List.mem_cons_of_mem _ he)) hl
    show (addPan ins l ls).sum = ls.sum + (p :: l.map (·.2)).sum - ((if (none : Option Str) = none then p else 0) + partOf none l)
    rw [List.sum_cons, if_pos rfl, ih]
    omega
  | ((some z, s), p) :: l, ls, h, hl => by
    have hz := h _ List.mem_cons_self z rfl
    have ih := addPan_sum (l := l) (ls := addAt ins ls z p) (fun e he => h e (List.mem_cons_of_mem _ he)) (by rw [addAt_len]; exact hl)
    show (addPan ins l (addAt ins ls z p)).sum = ls.sum + (p :: l.map (·.2)).sum - ((if (some z : Option Str) = none then p else 0) + partOf none l)
    rw [List.sum_cons, if_neg (fun q => nomatch q), ih, addAt_sum hz hl]
    omega
def outL (l : List (Trt × Int)) : List Int := l.map fun e => partOf none (e.1.pan.zip (alloc e.2 (shs e.1.pan)))
theorem addTrs_sum {ins : List Str} : ∀ {l : List (Trt × Int)} {ls : List Int}, (∀ e ∈ l, TrtOk e.1 ∧ ∀ x ∈ e.1.pan, ∀ z, x.1 = some z → z ∈ ins) → ls.length = ins.length → (addTrs ins l ls).sum = ls.sum + (l.map (·.2)).sum - (outL l).sum
  | [], ls, _, _ => by
    show ls.sum = ls.sum + ([] : List Int).sum - ([] : List Int).sum
    simp
  | (t, m) :: l, ls, h, hl => by
    obtain ⟨h1, h2⟩ := h _ List.mem_cons_self
    have e : (t.pan.zip (alloc m (shs t.pan))).map (·.2) = alloc m (shs t.pan) := zip_snd2 (by rw [alloc_len]; exact (List.length_map ..).symm)
    have hp := addPan_sum (ins := ins) (l := t.pan.zip (alloc m (shs t.pan))) (ls := ls) (fun e he z hz => h2 e.1 (List.of_mem_zip he).1 z hz) hl
    rw [e, alloc_sum m _ (shs_pos h1.p) (shs_ne h1.p)] at hp
    have ih := addTrs_sum (l := l) (ls := addPan ins (t.pan.zip (alloc m (shs t.pan))) ls) (fun e he => h e (List.mem_cons_of_mem _ he)) (by rw [addPan_len]; exact hl)
    show (addTrs ins l (addPan ins _ ls)).sum = ls.sum + (m :: l.map (·.2)).sum - (partOf none (t.pan.zip (alloc m (shs t.pan))) :: outL l).sum
    rw [List.sum_cons, List.sum_cons, ih, hp]
    omega
theorem tpay_len (ts : List Trt) (ins : List Str) (gs : List Int) : (tpay ts ins gs).length = ts.length := by
  unfold tpay
  rw [payP_len, List.length_replicate]
theorem next_sum {ins : List Str} {ts : List Trt} (hok : TrsOk ins ts) {ds gs : List Int} (hl : ds.length = ins.length) : (nextG ins ts ds gs).sum = ds.sum + (tpay ts ins gs).sum - (outs ts ins gs).sum := by
  have h := addTrs_sum (ins := ins) (l := ts.zip (tpay ts ins gs)) (ls := ds) (fun e he => ⟨hok.ok _ (List.of_mem_zip he).1, hok.mem _ (List.of_mem_zip he).1⟩) hl
  rw [zip_snd2 (tpay_len ts ins gs).symm] at h
  exact h
theorem sum_add {α : Type} (f g : α → Int) : ∀ l : List α, (l.map fun x => f x + g x).sum = (l.map f).sum + (l.map g).sum
  | [] => rfl
  | x :: t => by
    rw [List.map_cons, List.map_cons, List.map_cons, List.sum_cons, List.sum_cons, List.sum_cons, sum_add f g t]
    omega
theorem sum_zero {α : Type} (f : α → Int) : ∀ l : List α, (∀ x ∈ l, f x = 0) → (l.map f).sum = 0
  | [], _ => rfl
  | x :: t, h => by
    rw [List.map_cons, List.sum_cons, h x List.mem_cons_self, sum_zero f t fun y hy => h y (List.mem_cons_of_mem _ hy)]
    rfl
theorem sum_one {c : Str} {v : Int} : ∀ {ins : List Str}, ins.Nodup → c ∈ ins → (ins.map fun z => if c = z then v else 0).sum = v
  | [], _, h => (nomatch h)
  | z :: t, hn, h => by
    rw [List.nodup_cons] at hn
    rw [List.map_cons, List.sum_cons]
    by_cases e : c = z
    · subst e
      rw [if_pos rfl, sum_zero _ t fun y hy => if_neg (fun q : c = y => hn.1 (by rw [q]; exact hy))]
      omega
    · rw [if_neg e, Int.zero_add]
      refine sum_one hn.2 ?_
      rcases List.mem_cons.mp h with q | q
      · exact absurd q e
      · exact q
theorem cedL_all {ins : List Str} (hn : ins.Nodup) : ∀ {l : List (Trt × Int)}, (∀ e ∈ l, e.1.ced ∈ ins) → (ins.map fun z => (cedL z l).sum).sum = (l.map (·.2)).sum
  | [], _ => sum_zero _ ins fun _ _ => rfl
  | e :: l, h => by
    have ih := cedL_all hn (l := l) fun x hx => h x (List.mem_cons_of_mem _ hx)
    have e1 : (ins.map fun z => (cedL z (e :: l)).sum) = ins.map fun z => (if e.1.ced = z then e.2 else 0) + (cedL z l).sum := List.map_congr_left fun z _ => by
      rw [cedL_cons, List.sum_append]
      split
      · rw [List.sum_cons, List.sum_nil]
        omega
      · rw [List.sum_nil]
    rw [e1, sum_add, sum_one hn (h e List.mem_cons_self), ih, List.map_cons, List.sum_cons]
def nets (ts : List Trt) (ins : List Str) (gs : List Int) : List Int := (ins.zip gs).map fun e => (cedeP e.1 ts e.2).2
theorem nets_sum {ins : List Str} {ts : List Trt} (hn : ins.Nodup) (hc : ∀ t ∈ ts, t.ced ∈ ins) {gs : List Int} (hl : gs.length = ins.length) : (nets ts ins gs).sum = gs.sum - (tpay ts ins gs).sum := by
  have h1 := cedL_all hn (l := ts.zip (tpay ts ins gs)) fun e he => hc _ (List.of_mem_zip he).1
  rw [zip_snd2 (tpay_len ts ins gs).symm] at h1
  have e1 : ((ins.zip gs).map fun e => (cedeP e.1 ts e.2).2 + (cedL e.1 (ts.zip (tpay ts ins gs))).sum) = (ins.zip gs).map fun e => e.2 := List.map_congr_left fun e he => by
    obtain ⟨k, hk⟩ := List.mem_iff_getElem?.mp he
    obtain ⟨a1, a2⟩ := List.getElem?_zip_eq_some.mp hk
    have := ceded_sum (ts := ts) hn hl a1 a2
    omega
  have h2 := sum_add (fun e : Str × Int => (cedeP e.1 ts e.2).2) (fun e => (cedL e.1 (ts.zip (tpay ts ins gs))).sum) (ins.zip gs)
  rw [e1] at h2
  have e2 : (ins.zip gs).map (fun e => e.2) = gs := zip_snd2 hl.symm
  have e3 : ((ins.zip gs).map fun e => (cedL e.1 (ts.zip (tpay ts ins gs))).sum) = ins.map fun z => (cedL z (ts.zip (tpay ts ins gs))).sum := by
    have e4 : (ins.zip gs).map (·.1) = ins := List.map_fst_zip (by omega)
    have e5 := List.map_map (f := fun e : Str × Int => e.1) (g := fun z => (cedL z (ts.zip (tpay ts ins gs))).sum) (l := ins.zip gs)
    rw [e4] at e5
    exact e5.symm
  rw [e2, e3, h1] at h2
  show ((ins.zip gs).map fun e => (cedeP e.1 ts e.2).2).sum = _
  omega
/-- all that is borne is all that there was at first -/
theorem borne {ins : List Str} {ts : List Trt} (hok : TrsOk ins ts) (hc : ∀ t ∈ ts, t.ced ∈ ins) {ds gs : List Int} (hd : ds.length = ins.length) (hl : gs.length = ins.length) (hf : nextG ins ts ds gs = gs) : (nets ts ins gs ++ outs ts ins gs).sum = ds.sum := by
  have h1 := nets_sum hok.nd hc hl
  have h2 := next_sum hok (gs := gs) hd
  rw [hf] at h2
  rw [List.sum_append]
  omega
theorem nets_mono {ts : List Trt} (h : ∀ t ∈ ts, CvOk t.cov) : ∀ {ins : List Str} {gs hs : List Int}, Le gs hs → Le (nets ts ins gs) (nets ts ins hs)
  | [], _, _, _ => .nil
  | _ :: _, _, _, .nil => .nil
  | c :: ins, _, _, .cons hx t => .cons (cede_mono h hx).2 (nets_mono h (ins := ins) t)
theorem partOf_mono {o : Option Str} : ∀ {pan : List (Option Str × Int)} {as bs : List Int}, Le as bs → partOf o (pan.zip as) ≤ partOf o (pan.zip bs)
  | [], _, _, _ => Int.le_refl _
  | _ :: _, _, _, .nil => Int.le_refl _
  | e :: pan, _, _, .cons (x := x) (y := y) (xs := xs) (ys := ys) h t => by
    have ih := partOf_mono (o := o) (pan := pan) t
    show (if e.1 = o then x else 0) + partOf o (pan.zip xs) ≤ (if e.1 = o then y else 0) + partOf o (pan.zip ys)
    split <;> omega
theorem outL_mono : ∀ {ts : List Trt} {as bs : List Int}, (∀ t ∈ ts, TrtOk t) → Le as bs → Le (outL (ts.zip as)) (outL (ts.zip bs))
  | [], _, _, _, _ => .nil
  | _ :: _, _, _, _, .nil => .nil
  | t :: ts, _, _, hok, .cons h r => .cons (partOf_mono (alloc_mono (shs_pos (hok t List.mem_cons_self).p) (shs_ne (hok t List.mem_cons_self).p) h)) (outL_mono (ts := ts) (fun u hu => hok u (List.mem_cons_of_mem _ hu)) r)
theorem outs_mono {ins : List Str} {ts : List Trt} (hok : TrsOk ins ts) {gs hs : List Int} (h : Le gs hs) : Le (outs ts ins gs) (outs ts ins hs) := outL_mono hok.ok (tpay_mono (fun t ht => (hok.ok t ht).c) h)
theorem borne_mono {ins : List Str} {ts : List Trt} (hok : TrsOk ins ts) {gs hs : List Int} (h : Le gs hs) : Le (nets ts ins gs ++ outs ts ins gs) (nets ts ins hs ++ outs ts ins hs) := (nets_mono (fun t ht => (hok.ok t ht).c) h).app (outs_mono hok h)
theorem nets_len {ts : List Trt} {ins : List Str} {gs : List Int} (h : gs.length = ins.length) : (nets ts ins gs).length = ins.length := by
  unfold nets
  rw [List.length_map, List.length_zip]
  omega
theorem nets_at {ts : List Trt} {ins : List Str} {ds gs : List Int} (h : ds.length = ins.length) {i : Nat} {r : Pst} (hr : (poss ts ins ds gs)[i]? = some r) : (nets ts ins gs)[i]? = some r.n := by
  unfold poss at hr
  unfold nets
  rw [List.getElem?_map] at hr ⊢
  cases e : (ins.zip (ds.zip gs))[i]? with
  | none =>
    rw [e] at hr
    cases hr
  | some q =>
    rw [e] at hr
    obtain ⟨a1, a2⟩ := List.getElem?_zip_eq_some.mp e
    obtain ⟨_, a3⟩ := List.getElem?_zip_eq_some.mp a2
    rw [(List.getElem?_zip_eq_some.mpr ⟨a1, a3⟩ : (ins.zip gs)[i]? = some (q.1, q.2.2))]
    cases Option.some.inj hr
    rfl
/-! ### one unit more -/
def upS (e : Nat × Int) : Nat × Int := (e.1 + 1, e.2)
/-- the treaty that pays more, and what it pays ahead -/
def stepS (c : Str) : List Trt → Int → Option (Nat × Int)
  | [], _ => none
  | t :: r, x => if (decide (t.ced = c) && !t.ended) = true then (if pays t.cov x < pays t.cov (x + 1) then some (0, pays t.cov x) else (stepS c r (x - pays t.cov x)).map upS) else (stepS c r x).map upS
theorem stepS_at {c : Str} : ∀ {ts : List Trt} {x : Int} {n : Nat} {a : Int}, stepS c ts x = some (n, a) → ∃ t, ts[n]? = some t ∧ t.ced = c
  | [], _, _, _, h => (nomatch h)
  | t :: r, x, n, a, h => by
    unfold stepS at h
    have up : ∀ {y : Int}, (stepS c r y).map upS = some (n, a) → ∃ u, (t :: r)[n]? = some u ∧ u.ced = c := fun {y} h => by
      cases e : stepS c r y with
      | none =>
        rw [e] at h
        cases h
      | some p =>
        rw [e] at h
        obtain ⟨u, h1, h2⟩ := stepS_at (n := p.1) (a := p.2) (by rw [e])
        cases Option.some.inj h
        exact ⟨u, h1, h2⟩
    split at h
    · rename_i ac
      rw [Bool.and_eq_true] at ac
      split at h
      · cases Option.some.inj h
        exact ⟨t, rfl, of_decide_eq_true ac.1⟩
      · exact up h
    · exact up h
theorem pays_same {c : Cov} (h : CvOk c) {x : Int} (n : ¬ pays c x < pays c (x + 1)) : pays c (x + 1) = pays c x := by
  rcases pays_step h x with e | e
  · exact e
  · omega
theorem pays_more {c : Cov} (h : CvOk c) {x : Int} (n : pays c x < pays c (x + 1)) : pays c (x + 1) = pays c x + 1 := by
  rcases pays_step h x with e | e
  · omega
  · exact e
theorem innL_none {c : Str} : ∀ {ts : List Trt} {x : Int} {ps : List Int}, (∀ t ∈ ts, CvOk t.cov) → stepS c ts x = none → innL c ts (x + 1) ps = innL c ts x ps
  | [], _, _, _, _ => rfl
  | _ :: _, _, [], _, _ => rfl
  | t :: r, x, p :: q, hc, h => by
    have hr : ∀ t ∈ r, CvOk t.cov := fun u hu => hc u (List.mem_cons_of_mem _ hu)
    have un : ∀ {y : Int}, (stepS c r y).map upS = none → stepS c r y = none := fun h => Option.map_eq_none_iff.mp h
    unfold stepS at h
    unfold innL
    split at h
    · split at h
      · cases h
      · rename_i nu
        have e := pays_same (hc t List.mem_cons_self) nu
        rename_i ac
        rw [if_pos ac, if_pos ac, e, show x + 1 - pays t.cov x = x - pays t.cov x + 1 by omega, innL_none hr (un h)]
    · rename_i ac
      rw [if_neg ac, if_neg ac, innL_none hr (un h)]
theorem innL_some {c : Str} : ∀ {ts : List Trt} {x : Int} {ps : List Int} {n : Nat} {a : Int}, (∀ t ∈ ts, CvOk t.cov) → ps.length = ts.length → stepS c ts x = some (n, a) → innL c ts (x + 1) ps = bump n (innL c ts x ps) ∧ (innL c ts x ps)[n]? = some a
  | [], _, _, _, _, _, _, h => (nomatch h)
  | _ :: _, _, [], _, _, _, hl, _ => by simp at hl
  | t :: r, x, p :: q, n, a, hc, hl, h => by
    have hr : ∀ t ∈ r, CvOk t.cov := fun u hu => hc u (List.mem_cons_of_mem _ hu)
    have hl2 : q.length = r.length := Nat.succ.inj hl
    unfold stepS at h
    unfold innL
    split at h
    · rename_i ac
      rw [if_pos ac, if_pos ac]
      split at h
      · rename_i nu
        have e := pays_more (hc t List.mem_cons_self) nu
        cases Option.some.inj h
        rw [e, show x + 1 - (pays t.cov x + 1) = x - pays t.cov x by omega]
        exact ⟨rfl, rfl⟩
      · rename_i nu
        have e := pays_same (hc t List.mem_cons_self) nu
        cases e2 : stepS c r (x - pays t.cov x) with
        | none =>
          rw [e2] at h
          cases h
        | some w =>
          rw [e2] at h
          cases Option.some.inj h
          obtain ⟨h1, h2⟩ := innL_some (n := w.1) (a := w.2) (ps := q) hr hl2 e2
          rw [e, show x + 1 - pays t.cov x = x - pays t.cov x + 1 by omega, h1]
          exact ⟨rfl, h2⟩
    · rename_i ac
      rw [if_neg ac, if_neg ac]
      cases e2 : stepS c r x with
      | none =>
        rw [e2] at h
        cases h
      | some w =>
        rw [e2] at h
        cases Option.some.inj h
        obtain ⟨h1, h2⟩ := innL_some (n := w.1) (a := w.2) (ps := q) hr hl2 e2
        rw [h1]
        exact ⟨rfl, h2⟩
theorem innL_bump {c : Str} : ∀ {ts : List Trt} {y : Int} {ps : List Int} {n : Nat} {t : Trt}, ps.length = ts.length → ts[n]? = some t → t.ced ≠ c → innL c ts y (bump n ps) = bump n (innL c ts y ps) ∧ (innL c ts y ps)[n]? = ps[n]?
  | [], _, _, _, _, _, h, _ => by simp at h
  | _ :: _, _, [], _, _, hl, _, _ => by simp at hl
  | u :: r, y, p :: q, 0, t, hl, h, hn => by
    cases Option.some.inj h
    have ac : ¬ (decide (u.ced = c) && !u.ended) = true := fun z => by
      rw [Bool.and_eq_true] at z
      exact hn (of_decide_eq_true z.1)
    show innL c (u :: r) y ((p + 1) :: q) = _ ∧ _
    unfold innL
    rw [if_neg ac, if_neg ac]
    exact ⟨rfl, rfl⟩
  | u :: r, y, p :: q, n + 1, t, hl, h, hn => by
    have hl2 : q.length = r.length := Nat.succ.inj hl
    show innL c (u :: r) y (p :: bump n q) = _ ∧ _
    unfold innL
    split
    · obtain ⟨h1, h2⟩ := innL_bump (c := c) (y := y - pays u.cov y) (ps := q) (n := n) hl2 h hn
      rw [h1]
      exact ⟨rfl, h2⟩
    · obtain ⟨h1, h2⟩ := innL_bump (c := c) (y := y) (ps := q) (n := n) hl2 h hn
      rw [h1]
      exact ⟨rfl, h2⟩
theorem payP_bump {ts : List Trt} {n : Nat} {t : Trt} (ht : ts[n]? = some t) : ∀ {l : List (Str × Int)} {ps : List Int}, ps.length = ts.length → (∀ e ∈ l, t.ced ≠ e.1) → payP ts l (bump n ps) = bump n (payP ts l ps) ∧ (payP ts l ps)[n]? = ps[n]?
  | [], _, _, _ => ⟨rfl, rfl⟩
  | (c, y) :: l, ps, hl, h => by
    obtain ⟨h1, h2⟩ := innL_bump (c := c) (y := y) hl ht (h _ List.mem_cons_self)
    have hl2 := innL_len c ts y ps hl
    obtain ⟨h3, h4⟩ := payP_bump ht (l := l) hl2 fun e he => h e (List.mem_cons_of_mem _ he)
    rw [pay_step (by rw [bump_len]; exact hl), pay_step hl, h1, h3, h4, h2]
    exact ⟨rfl, rfl⟩
theorem payP_up {ts : List Trt} (hc : ∀ t ∈ ts, CvOk t.cov) : ∀ {ins : List Str} {gs ps : List Int} {k : Nat} {c : Str} {x : Int}, ins.Nodup → ins[k]? = some c → gs[k]? = some x → ps.length = ts.length →
    (stepS c ts x = none → payP ts (ins.zip (gs.set k (x + 1))) ps = payP ts (ins.zip gs) ps) ∧
    (∀ n a, stepS c ts x = some (n, a) → payP ts (ins.zip (gs.set k (x + 1))) ps = bump n (payP ts (ins.zip gs) ps) ∧ (payP ts (ins.zip gs) ps)[n]? = some a)
  | [], _, _, _, _, _, _, h, _, _ => by simp at h
  | _ :: _, [], _, _, _, _, _, _, h, _ => by simp at h
  | i :: r, g :: gs, ps, 0, c, x, hn, h1, h2, hl => by
    cases Option.some.inj h1
    cases Option.some.inj h2
    rw [List.nodup_cons] at hn
    have hne : ∀ e ∈ r.zip gs, i ≠ e.1 := fun e he q => hn.1 (by rw [q]; exact (List.of_mem_zip he).1)
    show (_ → payP ts ((i, g + 1) :: r.zip gs) ps = payP ts ((i, g) :: r.zip gs) ps) ∧ _
    refine ⟨fun h => ?_, fun n a h => ?_⟩
    · rw [pay_step hl, pay_step hl, innL_none hc h]
    · obtain ⟨e1, e2⟩ := innL_some hc hl h
      obtain ⟨t, ht, htc⟩ := stepS_at h
      obtain ⟨e3, e4⟩ := payP_bump ht (l := r.zip gs) (innL_len i ts g ps hl) (fun e he => by rw [htc]; exact hne e he)
      show payP ts ((i, g + 1) :: r.zip gs) ps = bump n (payP ts ((i, g) :: r.zip gs) ps) ∧ (payP ts ((i, g) :: r.zip gs) ps)[n]? = some a
      rw [pay_step hl, pay_step hl, e1, e3, e4]
      exact ⟨rfl, e2⟩
  | i :: r, g :: gs, ps, k + 1, c, x, hn, h1, h2, hl => by
    rw [List.nodup_cons] at hn
    obtain ⟨a1, a2⟩ := payP_up hc (ins := r) (gs := gs) (ps := innL i ts g ps) (k := k) hn.2 h1 h2 (innL_len i ts g ps hl)
    show (_ → payP ts ((i, g) :: r.zip (gs.set k (x + 1))) ps = payP ts ((i, g) :: r.zip gs) ps) ∧ ∀ n a, _ → payP ts ((i, g) :: r.zip (gs.set k (x + 1))) ps = bump n (payP ts ((i, g) :: r.zip gs) ps) ∧ (payP ts ((i, g) :: r.zip gs) ps)[n]? = some a
    rw [pay_step hl, pay_step hl]
    exact ⟨a1, a2⟩
theorem tpay_up {ins : List Str} {ts : List Trt} (hok : TrsOk ins ts) {gs : List Int} {k : Nat} {c : Str} {x : Int} (h1 : ins[k]? = some c) (h2 : gs[k]? = some x) :
    (stepS c ts x = none → tpay ts ins (gs.set k (x + 1)) = tpay ts ins gs) ∧
    (∀ n a, stepS c ts x = some (n, a) → tpay ts ins (gs.set k (x + 1)) = bump n (tpay ts ins gs) ∧ (tpay ts ins gs)[n]? = some a) :=
  payP_up (fun t ht => (hok.ok t ht).c) hok.nd h1 h2 (List.length_replicate ..)
/-- a unit for somebody -/
def addMay (ins : List Str) (ls : List Int) : Option Str → List Int
  | none => ls
  | some z => addAt ins ls z 1
theorem addAt_cons (i : Str) (r : List Str) (x : Int) (xs : List Int) (z : Str) (p : Int) : addAt (i :: r) (x :: xs) z p = if i = z then (x + p) :: xs else x :: addAt r xs z p := rfl
theorem addAt_comm : ∀ {ins : List Str} {ls : List Int} {z u : Str} {p q : Int}, addAt ins (addAt ins ls z p) u q = addAt ins (addAt ins ls u q) z p
  | [], _, _, _, _, _ => rfl
  | _ :: _, [], _, _, _, _ => rfl
  | i :: r, x :: xs, z, u, p, q => by
    rw [addAt_cons i r x xs z p, addAt_cons i r x xs u q]
    by_cases e1 : i = z
    · by_cases e2 : i = u
      · rw [if_pos e1, if_pos e2, addAt_cons, addAt_cons, if_pos e2, if_pos e1, show x + p + q = x + q + p by omega]
      · rw [if_pos e1, if_neg e2, addAt_cons, addAt_cons, if_neg e2, if_pos e1]
    · by_cases e2 : i = u
      · rw [if_neg e1, if_pos e2, addAt_cons, addAt_cons, if_pos e2, if_neg e1]
      · rw [if_neg e1, if_neg e2, addAt_cons, addAt_cons, if_neg e2, if_neg e1, addAt_comm]
theorem addAt_one : ∀ {ins : List Str} {ls : List Int} {z : Str} {p : Int}, addAt ins ls z (p + 1) = addAt ins (addAt ins ls z p) z 1
  | [], _, _, _ => rfl
  | _ :: _, [], _, _ => rfl
  | i :: r, x :: xs, z, p => by
    rw [addAt_cons i r x xs z p, addAt_cons i r x xs z (p + 1)]
    by_cases e1 : i = z
    · rw [if_pos e1, if_pos e1, addAt_cons, if_pos e1, show x + (p + 1) = x + p + 1 by omega]
    · rw [if_neg e1, if_neg e1, addAt_cons, if_neg e1, addAt_one]
theorem addPan_comm {ins : List Str} : ∀ {l : List ((Option Str × Int) × Int)} {ls : List Int} {o : Option Str}, addPan ins l (addMay ins ls o) = addMay ins (addPan ins l ls) o
  | _, _, none => rfl
  | [], _, some _ => rfl
  | ((none, _), _) :: l, _, some z => addPan_comm (l := l) (o := some z)
  | ((some u, _), p) :: l, ls, some z => by
    show addPan ins l (addAt ins (addAt ins ls z 1) u p) = _
    rw [addAt_comm]
    exact addPan_comm (l := l) (o := some z)
theorem addPan_bump {ins : List Str} : ∀ {pan : List (Option Str × Int)} {as ls : List Int} {j : Nat} {e : Option Str × Int}, as.length = pan.length → pan[j]? = some e → addPan ins (pan.zip (bump j as)) ls = addMay ins (addPan ins (pan.zip as) ls) e.1
  | [], _, _, _, _, _, h => by simp at h
  | _ :: _, [], _, _, _, hl, _ => by simp at hl
  | d :: pan, p :: as, ls, 0, e, hl, h => by
    cases Option.some.inj h
    show addPan ins ((d, p + 1) :: pan.zip as) ls = addMay ins (addPan ins ((d, p) :: pan.zip as) ls) d.1
    rcases d with ⟨_ | z, s⟩
    · rfl
    · show addPan ins (pan.zip as) (addAt ins ls z (p + 1)) = addAt ins (addPan ins (pan.zip as) (addAt ins ls z p)) z 1
      rw [addAt_one]
      exact addPan_comm (o := some z)
  | d :: pan, p :: as, ls, j + 1, e, hl, h => by
    show addPan ins ((d, p) :: pan.zip (bump j as)) ls = addMay ins (addPan ins ((d, p) :: pan.zip as) ls) e.1
    rcases d with ⟨_ | z, s⟩
    · exact addPan_bump (pan := pan) (as := as) (Nat.succ.inj hl) h
    · exact addPan_bump (pan := pan) (as := as) (Nat.succ.inj hl) h
theorem addTrs_comm {ins : List Str} : ∀ {l : List (Trt × Int)} {ls : List Int} {o : Option Str}, addTrs ins l (addMay ins ls o) = addMay ins (addTrs ins l ls) o
  | [], _, _ => rfl
  | (t, m) :: l, ls, o => by
    show addTrs ins l (addPan ins _ (addMay ins ls o)) = _
    rw [addPan_comm]
    exact addTrs_comm (l := l)
/-- whose unit it is that a treaty pays more -/
def whoS (t : Trt) (a : Int) : Option (Option Str × Int) := t.pan[nxt (a % (shs t.pan).sum) (shs t.pan)]?
theorem who_is {t : Trt} (h : PanOk t.pan) (a : Int) : ∃ e, whoS t a = some e ∧ e ∈ t.pan := by
  have h1 := (shs_pos h).sum1 (shs_ne h)
  have h2 := nxt_lt (a % (shs t.pan).sum) (shs t.pan) (Int.emod_lt_of_pos _ h1) (Int.emod_nonneg _ (by omega))
  have h3 : (shs t.pan).length = t.pan.length := List.length_map ..
  rw [h3] at h2
  exact ⟨_, List.getElem?_eq_getElem h2, List.getElem_mem h2⟩
theorem addTrs_bump {ins : List Str} : ∀ {ts : List Trt} {pay ls : List Int} {n : Nat} {t : Trt} {a : Int} {e : Option Str × Int}, (∀ t ∈ ts, TrtOk t) → pay.length = ts.length → ts[n]? = some t → pay[n]? = some a → whoS t a = some e → addTrs ins (ts.zip (bump n pay)) ls = addMay ins (addTrs ins (ts.zip pay) ls) e.1
  | [], _, _, _, _, _, _, _, _, h, _, _ => by simp at h
  | _ :: _, [], _, _, _, _, _, _, hl, _, _, _ => by simp at hl
  | u :: ts, m :: pay, ls, 0, t, a, e, hok, hl, h1, h2, h3 => by
    cases Option.some.inj h1
    cases Option.some.inj h2
    have ht := (hok u List.mem_cons_self).p
    show addTrs ins (ts.zip pay) (addPan ins (u.pan.zip (alloc (m + 1) (shs u.pan))) ls) = addMay ins (addTrs ins (ts.zip pay) (addPan ins (u.pan.zip (alloc m (shs u.pan))) ls)) e.1
    rw [alloc_succ m _ (shs_pos ht) (shs_ne ht), addPan_bump (by rw [alloc_len]; exact List.length_map ..) h3]
    exact addTrs_comm
  | u :: ts, m :: pay, ls, n + 1, t, a, e, hok, hl, h1, h2, h3 => addTrs_bump (ts := ts) (pay := pay) (n := n) (fun v hv => hok v (List.mem_cons_of_mem _ hv)) (Nat.succ.inj hl) h1 h2 h3
theorem next_up {ins : List Str} {ts : List Trt} (hok : TrsOk ins ts) {ds gs : List Int} {k : Nat} {c : Str} {x : Int} (h1 : ins[k]? = some c) (h2 : gs[k]? = some x) :
    (stepS c ts x = none → nextG ins ts ds (gs.set k (x + 1)) = nextG ins ts ds gs) ∧
    (∀ n a t e, stepS c ts x = some (n, a) → ts[n]? = some t → whoS t a = some e → nextG ins ts ds (gs.set k (x + 1)) = addMay ins (nextG ins ts ds gs) e.1) := by
  obtain ⟨a1, a2⟩ := tpay_up hok h1 h2
  unfold nextG
  refine ⟨fun h => by rw [a1 h], fun n a t e h ht he => ?_⟩
  obtain ⟨e1, e2⟩ := a2 n a h
  rw [e1]
  exact addTrs_bump hok.ok (tpay_len ts ins gs) ht e2 he
/-- the way of one unit -/
inductive Way (ins : List Str) (ts : List Trt) : List Int → Str → List (Str × Nat) → Str ⊕ Nat → Prop
  | stop {gs : List Int} {z : Str} {k : Nat} {x : Int} : ins[k]? = some z → gs[k]? = some x → stepS z ts x = none → Way ins ts gs z [] (.inl z)
  | out {gs : List Int} {z : Str} {k : Nat} {x : Int} {n : Nat} {a : Int} {t : Trt} {s : Int} : ins[k]? = some z → gs[k]? = some x → stepS z ts x = some (n, a) → ts[n]? = some t → whoS t a = some (none, s) → Way ins ts gs z [(z, n)] (.inr n)
  | go {gs : List Int} {z : Str} {k : Nat} {x : Int} {n : Nat} {a : Int} {t : Trt} {u : Str} {s : Int} {l : List (Str × Nat)} {e : Str ⊕ Nat} : ins[k]? = some z → gs[k]? = some x → stepS z ts x = some (n, a) → ts[n]? = some t → whoS t a = some (some u, s) → Way ins ts (gs.set k (x + 1)) u l e → Way ins ts gs z ((z, n) :: l) e
/-- round by round from any state -/
def itr (ins : List Str) (ts : List Trt) (es : List Int) : Nat → List Int → List Int
  | 0, gs => gs
  | n + 1, gs => itr ins ts es n (nextG ins ts es gs)
theorem itr_next {ins : List Str} {ts : List Trt} {es : List Int} : ∀ (n : Nat) (gs : List Int), itr ins ts es (n + 1) gs = nextG ins ts es (itr ins ts es n gs)
  | 0, _ => rfl
  | n + 1, gs => itr_next n (nextG ins ts es gs)
theorem way_ex {ins : List Str} {ts : List Trt} (hok : TrsOk ins ts) {es hs : List Int} (hf : nextG ins ts es hs = hs) : ∀ (m : Nat) {gs : List Int} {z : Str}, gs.length = ins.length → z ∈ ins → nextG ins ts es gs = addAt ins gs z 1 → Le (addAt ins gs z 1) hs → itr ins ts es m gs = hs → ∃ l e, Way ins ts gs z l e ∧ l.length ≤ m
  | 0, gs, z, hl, hz, h1, h2, h3 => by
    have h3 : gs = hs := h3
    have e := h2.sum
    rw [addAt_sum hz hl, h3] at e
    omega
  | m + 1, gs, z, hl, hz, h1, h2, h3 => by
    obtain ⟨k, hk⟩ := List.getElem?_of_mem hz
    have kl := (List.getElem?_eq_some_iff.mp hk).1
    obtain ⟨x, hx⟩ : ∃ x, gs[k]? = some x := ⟨_, List.getElem?_eq_getElem (by omega)⟩
    have hset : addAt ins gs z 1 = gs.set k (x + 1) := addAt_set hok.nd hk hx
    obtain ⟨u1, u2⟩ := next_up (ds := es) hok hk hx
    cases hs1 : stepS z ts x with
    | none => exact ⟨[], _, .stop hk hx hs1, Nat.zero_le _⟩
    | some na =>
      obtain ⟨n, a⟩ := na
      obtain ⟨t, ht, _⟩ := stepS_at hs1
      obtain ⟨e, he, hem⟩ := who_is (hok.ok t (List.mem_of_getElem? ht)).p a
      obtain ⟨o, s⟩ := e
      cases o with
      | none => exact ⟨_, _, .out hk hx hs1 ht he, Nat.succ_le_succ (Nat.zero_le _)⟩
      | some u =>
        have hu := hok.mem t (List.mem_of_getElem? ht) _ hem u rfl
        have e1 : nextG ins ts es (gs.set k (x + 1)) = addAt ins (gs.set k (x + 1)) u 1 := by
          rw [u2 n a t _ hs1 ht he, h1, hset]
          rfl
        have h4 : Le (addAt ins (gs.set k (x + 1)) u 1) hs := by
          rw [← e1, ← hset, ← hf]
          rw [hf]
          have := next_mono hok (Le.refl es) h2
          rw [hf] at this
          exact this
        have h5 : itr ins ts es m (gs.set k (x + 1)) = hs := by
          rw [← hset, ← h1]
          exact h3
        obtain ⟨l, e, w, wl⟩ := way_ex hok hf m (by rw [List.length_set]; exact hl) hu e1 h4 h5
        exact ⟨_, e, .go hk hx hs1 ht he w, Nat.succ_le_succ wl⟩
theorem Le.anti : ∀ {xs ys : List Int}, Le xs ys → Le ys xs → xs = ys
  | _, _, .nil, _ => rfl
  | _, _, .cons h t, .cons h2 t2 => by rw [t.anti t2, Int.le_antisymm h h2]
theorem itr_le {ins : List Str} {ts : List Trt} (hok : TrsOk ins ts) {es hs : List Int} (hf : nextG ins ts es hs = hs) : ∀ (n : Nat) {gs : List Int}, Le gs hs → Le (itr ins ts es n gs) hs
  | 0, _, h => h
  | n + 1, gs, h => itr_le hok hf n (by
    have := next_mono hok (Le.refl es) h
    rw [hf] at this
    exact this)
theorem itr_ge {ins : List Str} {ts : List Trt} (hok : TrsOk ins ts) {es gs : List Int} (h : Le es (nextG ins ts es gs)) : ∀ n, Le (row ins ts es n) (itr ins ts es (n + 1) gs)
  | 0 => h
  | n + 1 => by
    rw [itr_next (n + 1)]
    exact next_mono hok (Le.refl es) (itr_ge hok h n)
/-- the way from the fixed round, if the rounds with one unit more end -/
theorem way_is {ins : List Str} {ts : List Trt} (hok : TrsOk ins ts) {ds : List Int} {k : Nat} {z : Str} {d : Int} {i j : Nat} (hl : ds.length = ins.length) (hn : NN ds) (hk : ins[k]? = some z) (hd : ds[k]? = some d) (hi : row ins ts ds (i + 1) = row ins ts ds i) (hj : row ins ts (ds.set k (d + 1)) (j + 1) = row ins ts (ds.set k (d + 1)) j) :
    ∃ l e, Way ins ts (row ins ts ds i) z l e ∧ l.length ≤ j + 1 := by
  have hz := List.mem_of_getElem? hk
  have hset : addAt ins ds z 1 = ds.set k (d + 1) := addAt_set hok.nd hk hd
  have hle : Le ds (ds.set k (d + 1)) := by
    rw [← hset]
    exact addAt_ge (by decide)
  have hgl := row_len (ins := ins) (ts := ts) hl i
  have h1 : nextG ins ts (ds.set k (d + 1)) (row ins ts ds i) = addAt ins (row ins ts ds i) z 1 := by
    rw [← hset]
    have e : nextG ins ts (addAt ins ds z 1) (row ins ts ds i) = addMay ins (nextG ins ts ds (row ins ts ds i)) (some z) := addTrs_comm (o := some z)
    have e2 : nextG ins ts ds (row ins ts ds i) = row ins ts ds i := hi
    rw [e, e2]
    rfl
  have h0 := fix_mono hok hle hi hj
  have h2 := itr_le hok (es := ds.set k (d + 1)) hj 1 h0
  have h2 : Le (nextG ins ts (ds.set k (d + 1)) (row ins ts ds i)) (row ins ts (ds.set k (d + 1)) j) := h2
  have gn : NN (row ins ts ds i) := (row_le (ins := ins) hok.ok hn i).1
  have h3 : itr ins ts (ds.set k (d + 1)) (j + 1) (row ins ts ds i) = row ins ts (ds.set k (d + 1)) j := (itr_le hok hj (j + 1) h0).anti (itr_ge hok (next_ge hok gn) j)
  rw [h1] at h2
  exact way_ex hok hj (j + 1) hgl hz h1 h2 h3
/-! ### the way of one unit: the program's defs -/
def sp_check_names (K : PySem.W.Frag) (C CS : Addr) : Sp := fun vs H Q E => ∃ (m : Addr) (M : Mkt) (e z : Str), vs = [.ref m, .str e, .str z] ∧ MktAt K C H m M ∧
  ((e ∉ M.evs ∧ ∀ d H', Same H H' → H' d = some (.xd [("name", .str e)]) → E (.ref CS) (some d) H') ∨ (e ∈ M.evs ∧ z ∉ M.ins ∧ ∀ d H', Same H H' → H' d = some (.xd [("name", .str z)]) → E (.ref CS) (some d) H') ∨ (e ∈ M.evs ∧ z ∈ M.ins ∧ ∀ H', Same H H' → Q .non H'))
def sp_check_unit_ends (K : PySem.W.Frag) (C CN : Addr) : Sp := fun vs H Q E => ∃ (m : Addr) (M : Mkt) (e z : Str) (k : Nat) (d : Int), vs = [.ref m, .str e, .str z] ∧ MktAt K C H m M ∧ TrsOk M.ins M.trs ∧ e ∈ M.evs ∧ M.ins[k]? = some z ∧ (directs M.ins M.los e)[k]? = some d ∧
  ((fate M.ins M.trs ((directs M.ins M.los e).set k (d + 1)) true ∧ ∀ H', Same H H' → Q .non H') ∨ (fate M.ins M.trs ((directs M.ins M.los e).set k (d + 1)) false ∧ ∀ H', Same H H' → E (.ref CN) none H'))
def sp_next_step (K : PySem.W.Frag) : Sp := fun vs H Q _ => ∃ (a : Addr) (ts : List Trt) (c : Str) (x : Int), vs = [.ref a, .str c, .int x] ∧ TrsAt K H a ts ∧ ts.length ≤ 1000 ∧ (∀ t ∈ ts, TrtOk t) ∧
  (stepS c ts x = none → ∀ H', Same H H' → Q .non H') ∧
  (∀ n b t e, stepS c ts x = some (n, b) → ts[n]? = some t → whoS t b = some e → ∀ p H', Same H H' → H' p = some (.tup [.int (n : Int), optV e.1]) → Q (.ref p) H')
def endV : Str ⊕ Nat → List V
  | .inl z => [.str "insurer", .str z]
  | .inr n => [.str "external", .int (n : Int)]
def PassR (K : PySem.W.Frag) (H : Hp) (y : V) (r : Str × Nat) : Prop := ∃ b : Addr, y = .ref b ∧ SqT K H b [.str r.1, .int (r.2 : Int)]
theorem PassR.same {K : PySem.W.Frag} {H H' : Hp} {y : V} {r : Str × Nat} (e : Same H H') (h : PassR K H y r) : PassR K H' y r :=
  let ⟨b, h1, h2⟩ := h; ⟨b, h1, same_sqt e h2⟩
theorem PassR.put {K : PySem.W.Frag} {H : Hp} {D : Addr} {zs : List V} {o : HO} {y : V} {r : Str × Nat} (hD : H D = some (.lst zs)) (h : PassR K H y r) : PassR K (upd H D o) y r :=
  let ⟨b, h1, h2⟩ := h; ⟨b, h1, sqt_put hD h2⟩
theorem sqt_dk {K : PySem.W.Frag} {H : Hp} {D a : Addr} {kvs : List (Key × V)} {xs : List V} {o : HO} (hD : H D = some (.dK kvs)) (h : SqT K H a xs) : SqT K (upd H D o) a xs := by
  rcases h with (h | ⟨u, h⟩) | h
  · refine .inl (.inl ?_)
    rw [upd_ne (fun e => by rw [e, hD] at h; cases h)]
    exact h
  · refine .inl (.inr ⟨u, ?_⟩)
    rw [upd_ne (fun e => by rw [e, hD] at h; cases h)]
    exact h
  · exact .inr h
theorem PassR.dk {K : PySem.W.Frag} {H : Hp} {D : Addr} {kvs : List (Key × V)} {o : HO} {y : V} {r : Str × Nat} (hD : H D = some (.dK kvs)) (h : PassR K H y r) : PassR K (upd H D o) y r :=
  let ⟨b, h1, h2⟩ := h; ⟨b, h1, sqt_dk hD h2⟩
def sp_path (K : PySem.W.Frag) (C CS CN : Addr) : Sp := fun vs H Q E => ∃ (m : Addr) (M : Mkt) (e z : Str), vs = [.ref m, .str e, .str z] ∧ MktAt K C H m M ∧ TrsOk M.ins M.trs ∧
  ((e ∉ M.evs ∧ ∀ d H', Same H H' → H' d = some (.xd [("name", .str e)]) → E (.ref CS) (some d) H') ∨ (e ∈ M.evs ∧ z ∉ M.ins ∧ ∀ d H', Same H H' → H' d = some (.xd [("name", .str z)]) → E (.ref CS) (some d) H') ∨
    (e ∈ M.evs ∧ ∃ (k : Nat) (d : Int), M.ins[k]? = some z ∧ (directs M.ins M.los e)[k]? = some d ∧
      ((fate M.ins M.trs ((directs M.ins M.los e).set k (d + 1)) false ∧ ∀ H', Same H H' → E (.ref CN) none H') ∨
        (fate M.ins M.trs ((directs M.ins M.los e).set k (d + 1)) true ∧ ∃ (i : Nat) (L : List (Str × Nat)) (en : Str ⊕ Nat), i ≤ 200 ∧ row M.ins M.trs (directs M.ins M.los e) (i + 1) = row M.ins M.trs (directs M.ins M.los e) i ∧ (∀ j, j < i → row M.ins M.trs (directs M.ins M.los e) (j + 1) ≠ row M.ins M.trs (directs M.ins M.los e) j) ∧ big (row M.ins M.trs (directs M.ins M.los e) i) = false ∧
          Way M.ins M.trs (row M.ins M.trs (directs M.ins M.los e) i) z L en ∧ L.length ≤ 1000 ∧
          ∀ p t f ps H', Same H H' → H' p = some (.tup [.ref t, .ref f]) → H' t = some (.tup ps) → AllAt (PassR K) H' ps L → H' f = some (.tup (endV en)) → Q (.ref p) H'))))
/-- the first that grew -/
def fnd : List (Nat × Int × Int) → Option (Nat × Int)
  | [] => none
  | e :: l => if e.2.1 < e.2.2 then some (e.1, e.2.1) else fnd l
def tri (c : Str) (n : Nat) (ts : List Trt) (x : Int) : List (Nat × Int × Int) := ((actv c n ts).map (·.1)).zip ((prog ((actv c n ts).map (·.2)) x).1.zip (prog ((actv c n ts).map (·.2)) (x + 1)).1)
theorem fnd_is {c : Str} : ∀ {ts : List Trt} (n : Nat) {x : Int}, (∀ t ∈ ts, CvOk t.cov) → fnd (tri c n ts x) = (stepS c ts x).map fun e => (n + e.1, e.2)
  | [], _, _, _ => rfl
  | t :: r, n, x, hc => by
    have hr : ∀ t ∈ r, CvOk t.cov := fun u hu => hc u (List.mem_cons_of_mem _ hu)
    have un : ∀ y, ((stepS c r y).map upS).map (fun e => (n + e.1, e.2)) = (stepS c r y).map fun e => (n + 1 + e.1, e.2) := fun y => by
      cases stepS c r y with
      | none => rfl
      | some w =>
        show some (n + (w.1 + 1), w.2) = some (n + 1 + w.1, w.2)
        rw [show n + (w.1 + 1) = n + 1 + w.1 by omega]
    unfold tri actv stepS
    split
    · rename_i ac
      show (if pays t.cov x < pays t.cov (x + 1) then some (n, pays t.cov x) else fnd (((actv c (n + 1) r).map (·.1)).zip ((prog ((actv c (n + 1) r).map (·.2)) (x - pays t.cov x)).1.zip (prog ((actv c (n + 1) r).map (·.2)) (x + 1 - pays t.cov (x + 1))).1))) = _
      split
      · rfl
      · rename_i nu
        have e := pays_same (hc t List.mem_cons_self) nu
        rw [e, show x + 1 - pays t.cov x = x - pays t.cov x + 1 by omega, un]
        exact fnd_is (n + 1) hr
    · rw [un]
      exact fnd_is (n + 1) hr
theorem pairsK_val {ns : List Nat} {as : List Int} (hp : ns.Pairwise (· < ·)) {i n : Nat} {a : Int} (h1 : ns[i]? = some n) (h2 : as[i]? = some a) : valV (pairsK ns as) (.inl (n : Int)) = some (.int a) := by
  refine valV_mem (pairsK_get h1 h2) fun j w hj => ?_
  unfold pairsK at hj
  rw [List.getElem?_map] at hj
  cases e : (ns.zip as)[j]? with
  | none =>
    rw [e] at hj
    cases hj
  | some q =>
    rw [e] at hj
    have e2 : (Sum.inl (q.1 : Int) : Key) = .inl (n : Int) := congrArg Prod.fst (Option.some.inj hj)
    have e3 : q.1 = n := by
      have := Sum.inl.inj e2
      omega
    obtain ⟨h3, _⟩ := List.getElem?_zip_eq_some.mp e
    rw [e3] at h3
    rcases Nat.lt_trichotomy i j with c | c | c
    · obtain ⟨a1, b1⟩ := List.getElem?_eq_some_iff.mp h1
      obtain ⟨a2, b2⟩ := List.getElem?_eq_some_iff.mp h3
      have := List.pairwise_iff_getElem.mp hp i j a1 a2 c
      omega
    · exact c.symm
    · obtain ⟨a1, b1⟩ := List.getElem?_eq_some_iff.mp h1
      obtain ⟨a2, b2⟩ := List.getElem?_eq_some_iff.mp h3
      have := List.pairwise_iff_getElem.mp hp j i a2 a1 c
      omega
theorem fnd_step {l : List (Nat × Int × Int)} {i : Nat} {e : Nat × Int × Int} (h : l[i]? = some e) : fnd (l.drop i) = if e.2.1 < e.2.2 then some (e.1, e.2.1) else fnd (l.drop (i + 1)) := by
  obtain ⟨h1, h2⟩ := List.getElem?_eq_some_iff.mp h
  rw [List.drop_eq_getElem_cons h1, h2]
  rfl
def sp_bearer (K : PySem.W.Frag) (C CS CN : Addr) : Sp := fun vs H Q E => ∃ (m : Addr) (M : Mkt) (e z : Str), vs = [.ref m, .str e, .str z] ∧ MktAt K C H m M ∧ TrsOk M.ins M.trs ∧
  ((e ∉ M.evs ∧ ∀ d H', Same H H' → H' d = some (.xd [("name", .str e)]) → E (.ref CS) (some d) H') ∨ (e ∈ M.evs ∧ z ∉ M.ins ∧ ∀ d H', Same H H' → H' d = some (.xd [("name", .str z)]) → E (.ref CS) (some d) H') ∨
    (e ∈ M.evs ∧ ∃ (k : Nat) (d : Int), M.ins[k]? = some z ∧ (directs M.ins M.los e)[k]? = some d ∧
      ((fate M.ins M.trs ((directs M.ins M.los e).set k (d + 1)) false ∧ ∀ H', Same H H' → E (.ref CN) none H') ∨
        (fate M.ins M.trs ((directs M.ins M.los e).set k (d + 1)) true ∧ ∃ (i : Nat) (L : List (Str × Nat)) (en : Str ⊕ Nat), i ≤ 200 ∧ row M.ins M.trs (directs M.ins M.los e) (i + 1) = row M.ins M.trs (directs M.ins M.los e) i ∧ (∀ j, j < i → row M.ins M.trs (directs M.ins M.los e) (j + 1) ≠ row M.ins M.trs (directs M.ins M.los e) j) ∧ big (row M.ins M.trs (directs M.ins M.los e) i) = false ∧
          Way M.ins M.trs (row M.ins M.trs (directs M.ins M.los e) i) z L en ∧ L.length ≤ 1000 ∧
          ∀ f H', Same H H' → H' f = some (.tup (endV en)) → Q (.ref f) H'))))
/-! ### what a way changes -/
theorem prog_up {c : Str} : ∀ {ts : List Trt} (n : Nat) {x : Int}, (∀ t ∈ ts, CvOk t.cov) →
    (stepS c ts x = none → (prog ((actv c n ts).map (·.2)) (x + 1)).2 = (prog ((actv c n ts).map (·.2)) x).2 + 1) ∧
    (∀ e, stepS c ts x = some e → (prog ((actv c n ts).map (·.2)) (x + 1)).2 = (prog ((actv c n ts).map (·.2)) x).2)
  | [], _, _, _ => ⟨fun _ => rfl, fun _ h => (nomatch h)⟩
  | t :: r, n, x, hc => by
    have hr : ∀ u ∈ r, CvOk u.cov := fun u hu => hc u (List.mem_cons_of_mem _ hu)
    have ht := hc t List.mem_cons_self
    have up : ∀ {y : Int}, ((stepS c r y).map upS = none → stepS c r y = none) ∧ ∀ e, (stepS c r y).map upS = some e → ∃ e', stepS c r y = some e' := fun {y} => by
      cases stepS c r y with
      | none => exact ⟨fun _ => rfl, fun _ h => (nomatch h)⟩
      | some v => exact ⟨fun h => (nomatch h), fun _ _ => ⟨v, rfl⟩⟩
    unfold stepS actv
    by_cases ca : (decide (t.ced = c) && !t.ended) = true
    · rw [if_pos ca, if_pos ca]
      have e1 : ∀ y, (prog (((n, t.cov) :: actv c (n + 1) r).map (·.2)) y).2 = (prog ((actv c (n + 1) r).map (·.2)) (y - pays t.cov y)).2 := fun y => rfl
      by_cases cm : pays t.cov x < pays t.cov (x + 1)
      · rw [if_pos cm]
        refine ⟨fun h => (nomatch h), fun e _ => ?_⟩
        rw [e1, e1, pays_more ht cm, show x + 1 - (pays t.cov x + 1) = x - pays t.cov x by omega]
      · rw [if_neg cm, e1, e1, pays_same ht cm, show x + 1 - pays t.cov x = (x - pays t.cov x) + 1 by omega]
        obtain ⟨i1, i2⟩ := prog_up (n + 1) (x := x - pays t.cov x) hr
        exact ⟨fun h => i1 (up.1 h), fun e h => let ⟨e', h'⟩ := up.2 e h; i2 e' h'⟩
    · rw [if_neg ca, if_neg ca]
      obtain ⟨i1, i2⟩ := prog_up (n + 1) (x := x) hr
      exact ⟨fun h => i1 (up.1 h), fun e h => let ⟨e', h'⟩ := up.2 e h; i2 e' h'⟩
theorem nets_set {ts : List Trt} : ∀ {ins : List Str} {gs : List Int} {k : Nat} {c : Str} {x y : Int}, ins[k]? = some c → gs[k]? = some x → nets ts ins (gs.set k y) = (nets ts ins gs).set k (cedeP c ts y).2 ∧ (nets ts ins gs)[k]? = some (cedeP c ts x).2
  | [], _, _, _, _, _, h, _ => by simp at h
  | _ :: _, [], _, _, _, _, _, h => by simp at h
  | i :: r, g :: gs, 0, c, x, y, h1, h2 => by
    cases Option.some.inj h1
    cases Option.some.inj h2
    exact ⟨rfl, rfl⟩
  | i :: r, g :: gs, k + 1, c, x, y, h1, h2 => by
    obtain ⟨a1, a2⟩ := nets_set (ts := ts) (ins := r) (gs := gs) (k := k) (y := y) h1 h2
    refine ⟨?_, a2⟩
    show (cedeP i ts g).2 :: nets ts r (gs.set k y) = (cedeP i ts g).2 :: (nets ts r gs).set k _
    rw [a1]
theorem nets_up {ins : List Str} {ts : List Trt} (hok : TrsOk ins ts) {gs : List Int} {k : Nat} {c : Str} {x : Int} (h1 : ins[k]? = some c) (h2 : gs[k]? = some x) :
    (stepS c ts x = none → nets ts ins (gs.set k (x + 1)) = addAt ins (nets ts ins gs) c 1) ∧ (∀ e, stepS c ts x = some e → nets ts ins (gs.set k (x + 1)) = nets ts ins gs) := by
  obtain ⟨a1, a2⟩ := nets_set (ts := ts) (y := x + 1) h1 h2
  obtain ⟨p1, p2⟩ := prog_up (c := c) (ts := ts) 0 (x := x) fun t ht => (hok.ok t ht).c
  refine ⟨fun h => ?_, fun e h => ?_⟩
  · rw [addAt_set hok.nd h1 a2, a1]
    congr 1
    exact p1 h
  · rw [a1]
    have e1 : (cedeP c ts (x + 1)).2 = (cedeP c ts x).2 := p2 e h
    rw [e1]
    apply List.ext_getElem?
    intro j
    by_cases e : k = j
    · subst e
      rw [List.getElem?_set_self (List.getElem?_eq_some_iff.mp a2).1, a2]
    · rw [List.getElem?_set_ne e]
theorem partOf_bump {o : Option Str} : ∀ {pan : List (Option Str × Int)} {as : List Int} {j : Nat} {e : Option Str × Int}, as.length = pan.length → pan[j]? = some e → partOf o (pan.zip (bump j as)) = partOf o (pan.zip as) + if e.1 = o then 1 else 0
  | [], _, _, _, _, h => by simp at h
  | _ :: _, [], _, _, h, _ => by simp at h
  | p :: pan, a :: as, 0, e, hl, h => by
    cases Option.some.inj h
    show (if p.1 = o then a + 1 else 0) + partOf o (pan.zip as) = (if p.1 = o then a else 0) + partOf o (pan.zip as) + if p.1 = o then 1 else 0
    split <;> omega
  | p :: pan, a :: as, j + 1, e, hl, h => by
    have ih := partOf_bump (o := o) (pan := pan) (as := as) (j := j) (Nat.succ.inj hl) h
    show (if p.1 = o then a else 0) + partOf o (pan.zip (bump j as)) = (if p.1 = o then a else 0) + partOf o (pan.zip as) + if e.1 = o then 1 else 0
    rw [ih]
    omega
theorem outL_bump : ∀ {ts : List Trt} {pay : List Int} {n : Nat} {t : Trt} {a : Int} {e : Option Str × Int}, (∀ t ∈ ts, TrtOk t) → pay.length = ts.length → ts[n]? = some t → pay[n]? = some a → whoS t a = some e →
    outL (ts.zip (bump n pay)) = if e.1 = none then bump n (outL (ts.zip pay)) else outL (ts.zip pay)
  | [], _, _, _, _, _, _, _, h, _, _ => by simp at h
  | _ :: _, [], _, _, _, _, _, hl, _, _, _ => by simp at hl
  | u :: ts, m :: pay, 0, t, a, e, hok, hl, h1, h2, h3 => by
    cases Option.some.inj h1
    cases Option.some.inj h2
    have ht := (hok u List.mem_cons_self).p
    have e1 : partOf none (u.pan.zip (alloc (m + 1) (shs u.pan))) = partOf none (u.pan.zip (alloc m (shs u.pan))) + if e.1 = none then 1 else 0 := by
      rw [alloc_succ m _ (shs_pos ht) (shs_ne ht), partOf_bump (by rw [alloc_len]; exact List.length_map ..) h3]
    show partOf none (u.pan.zip (alloc (m + 1) (shs u.pan))) :: outL (ts.zip pay) = _
    rw [e1]
    by_cases c : e.1 = none
    · rw [if_pos c, if_pos c]
      rfl
    · rw [if_neg c, if_neg c, Int.add_zero]
      rfl
  | u :: ts, m :: pay, n + 1, t, a, e, hok, hl, h1, h2, h3 => by
    have ih := outL_bump (ts := ts) (pay := pay) (n := n) (fun v hv => hok v (List.mem_cons_of_mem _ hv)) (Nat.succ.inj hl) h1 h2 h3
    show partOf none (u.pan.zip (alloc m (shs u.pan))) :: outL (ts.zip (bump n pay)) = _
    rw [ih]
    by_cases c : e.1 = none
    · rw [if_pos c, if_pos c]
      rfl
    · rw [if_neg c, if_neg c]
      rfl
theorem outs_up {ins : List Str} {ts : List Trt} (hok : TrsOk ins ts) {gs : List Int} {k : Nat} {c : Str} {x : Int} (h1 : ins[k]? = some c) (h2 : gs[k]? = some x) :
    (stepS c ts x = none → outs ts ins (gs.set k (x + 1)) = outs ts ins gs) ∧
    (∀ n a t e, stepS c ts x = some (n, a) → ts[n]? = some t → whoS t a = some e → outs ts ins (gs.set k (x + 1)) = if e.1 = none then bump n (outs ts ins gs) else outs ts ins gs) := by
  obtain ⟨a1, a2⟩ := tpay_up hok h1 h2
  have eo : ∀ hs, outs ts ins hs = outL (ts.zip (tpay ts ins hs)) := fun _ => rfl
  refine ⟨fun h => by rw [eo, eo, a1 h], fun n a t e h ht he => ?_⟩
  obtain ⟨e1, e2⟩ := a2 n a h
  rw [eo, eo, e1]
  exact outL_bump hok.ok (tpay_len ts ins gs) ht e2 he
/-- whom a way reaches -/
def rch (l : List (Str × Nat)) : Str ⊕ Nat → List Str
  | .inl h => l.map (·.1) ++ [h]
  | .inr _ => l.map (·.1)
theorem rch_cons (z : Str) (n : Nat) (l : List (Str × Nat)) (e : Str ⊕ Nat) : rch ((z, n) :: l) e = z :: rch l e := by
  cases e <;> rfl
def upN (ins : List Str) (ns : List Int) : Str ⊕ Nat → List Int
  | .inl c => addAt ins ns c 1
  | .inr _ => ns
def upO (os : List Int) : Str ⊕ Nat → List Int
  | .inl _ => os
  | .inr n => bump n os
theorem cnt_set {ins : List Str} (hn : ins.Nodup) {gs F : List Int} {k : Nat} {z : Str} {x : Int} {R : List Str} (hk : ins[k]? = some z) (hx : gs[k]? = some x)
    (h : ∀ (j : Nat) (c : Str) (y : Int), ins[j]? = some c → (gs.set k (x + 1))[j]? = some y → F[j]? = some (y + ((R.count c : Nat) : Int))) :
    ∀ (j : Nat) (c : Str) (y : Int), ins[j]? = some c → gs[j]? = some y → F[j]? = some (y + (((z :: R).count c : Nat) : Int)) := fun j c y hj hy => by
  by_cases e : k = j
  · subst e
    rw [hk] at hj
    cases Option.some.inj hj
    rw [hx] at hy
    cases Option.some.inj hy
    have := h k z (x + 1) hk (List.getElem?_set_self (List.getElem?_eq_some_iff.mp hx).1)
    rw [this, List.count_cons_self]
    congr 1
    omega
  · have hne : z ≠ c := fun q => e (nd_at hn hk (by rw [hj, q]))
    have := h j c y hj (by rw [List.getElem?_set_ne e]; exact hy)
    rw [this, List.count_cons_of_ne hne]
structure WayEnd (ins : List Str) (ts : List Trt) (es gs F : List Int) (l : List (Str × Nat)) (e : Str ⊕ Nat) : Prop where
  fix : nextG ins ts es F = F
  le : ∀ hs, nextG ins ts es hs = hs → Le gs hs → Le F hs
  cnt : ∀ (j : Nat) (c : Str) (y : Int), ins[j]? = some c → gs[j]? = some y → F[j]? = some (y + (((rch l e).count c : Nat) : Int))
  ns : nets ts ins F = upN ins (nets ts ins gs) e
  os : outs ts ins F = upO (outs ts ins gs) e
  ge : Le gs F
theorem set_ge {gs : List Int} {k : Nat} {x : Int} (h : gs[k]? = some x) : Le gs (gs.set k (x + 1)) := by
  refine Le.of (by rw [List.length_set]) fun i y w hy hw => ?_
  by_cases e : k = i
  · subst e
    rw [List.getElem?_set_self (List.getElem?_eq_some_iff.mp h).1] at hw
    cases Option.some.inj hw
    rw [h] at hy
    cases Option.some.inj hy
    omega
  · rw [List.getElem?_set_ne e, hy] at hw
    cases Option.some.inj hw
    exact Int.le_refl _
theorem way_end {ins : List Str} {ts : List Trt} (hok : TrsOk ins ts) {es : List Int} {gs : List Int} {z : Str} {l : List (Str × Nat)} {e : Str ⊕ Nat} (w : Way ins ts gs z l e) : nextG ins ts es gs = addAt ins gs z 1 → ∃ F, WayEnd ins ts es gs F l e := by
  induction w with
  | stop hk hx hs =>
    intro h1
    rw [addAt_set hok.nd hk hx] at h1
    obtain ⟨u1, _⟩ := next_up (ds := es) hok hk hx
    have hf := u1 hs
    rw [h1] at hf
    refine ⟨_, hf, fun hs he hle => ?_, cnt_set hok.nd hk hx (R := []) fun j c y _ hy => by rw [hy]; simp, (nets_up hok hk hx).1 hs, (outs_up hok hk hx).1 hs, set_ge hx⟩
    have := next_mono hok (Le.refl es) hle
    rw [h1, he] at this
    exact this
  | out hk hx hs ht hw =>
    intro h1
    rw [addAt_set hok.nd hk hx] at h1
    obtain ⟨_, u2⟩ := next_up (ds := es) hok hk hx
    have hf := u2 _ _ _ _ hs ht hw
    rw [h1] at hf
    refine ⟨_, hf, fun hs he hle => ?_, cnt_set hok.nd hk hx (R := []) fun j c y _ hy => by rw [hy]; simp, (nets_up hok hk hx).2 _ hs, (outs_up hok hk hx).2 _ _ _ _ hs ht hw, set_ge hx⟩
    have := next_mono hok (Le.refl es) hle
    rw [h1, he] at this
    exact this
  | go hk hx hs ht hw _ ih =>
    intro h1
    rw [addAt_set hok.nd hk hx] at h1
    obtain ⟨_, u2⟩ := next_up (ds := es) hok hk hx
    have hf := u2 _ _ _ _ hs ht hw
    rw [h1] at hf
    obtain ⟨F, W⟩ := ih hf
    have n1 := (nets_up hok hk hx).2 _ hs
    have o1 := (outs_up hok hk hx).2 _ _ _ _ hs ht hw
    rw [if_neg (by simp)] at o1
    refine ⟨F, W.fix, fun hs he hle => W.le hs he ?_, ?_, by rw [W.ns, n1], by rw [W.os, o1], (set_ge hx).trans W.ge⟩
    · have := next_mono hok (Le.refl es) hle
      rw [h1, he] at this
      exact this
    · rw [rch_cons]
      exact cnt_set hok.nd hk hx W.cnt
/-- the fixed round with one unit more, from the one without and the way -/
theorem way_fix {ins : List Str} {ts : List Trt} (hok : TrsOk ins ts) {ds : List Int} {k : Nat} {z : Str} {d : Int} {i j : Nat} {l : List (Str × Nat)} {e : Str ⊕ Nat} (hl : ds.length = ins.length) (hn : NN ds) (hk : ins[k]? = some z) (hd : ds[k]? = some d) (hi : row ins ts ds (i + 1) = row ins ts ds i) (hj : row ins ts (ds.set k (d + 1)) (j + 1) = row ins ts (ds.set k (d + 1)) j) (w : Way ins ts (row ins ts ds i) z l e) :
    WayEnd ins ts (ds.set k (d + 1)) (row ins ts ds i) (row ins ts (ds.set k (d + 1)) j) l e := by
  have hset : addAt ins ds z 1 = ds.set k (d + 1) := addAt_set hok.nd hk hd
  have hle : Le ds (ds.set k (d + 1)) := by
    rw [← hset]
    exact addAt_ge (by decide)
  have h1 : nextG ins ts (ds.set k (d + 1)) (row ins ts ds i) = addAt ins (row ins ts ds i) z 1 := by
    rw [← hset]
    have e : nextG ins ts (addAt ins ds z 1) (row ins ts ds i) = addMay ins (nextG ins ts ds (row ins ts ds i)) (some z) := addTrs_comm (o := some z)
    have e2 : nextG ins ts ds (row ins ts ds i) = row ins ts ds i := hi
    rw [e, e2]
    rfl
  obtain ⟨F, W⟩ := way_end hok w h1
  have h0 := fix_mono hok hle hi hj
  have hF : F = row ins ts (ds.set k (d + 1)) j := by
    refine (W.le _ hj h0).anti ?_
    have gn : NN (row ins ts ds i) := (row_le (ins := ins) hok.ok hn i).1
    refine row_least hok (W.ge.nn gn) ?_ j
    rw [W.fix]
    exact Le.refl _
  rw [← hF]
  exact W
def WayR (K : PySem.W.Frag) (H : Hp) (y : V) (r : List (Str × Nat) × (Str ⊕ Nat)) : Prop := ∃ (p t f : Addr) (ps : List V), y = .ref p ∧ SqT K H p [.ref t, .ref f] ∧ SqT K H t ps ∧ AllAt (PassR K) H ps r.1 ∧ SqT K H f (endV r.2)
theorem WayR.same {K : PySem.W.Frag} {H H' : Hp} {y : V} {r : List (Str × Nat) × (Str ⊕ Nat)} (e : Same H H') (h : WayR K H y r) : WayR K H' y r :=
  let ⟨p, t, f, ps, h0, h1, h2, h3, h4⟩ := h; ⟨p, t, f, ps, h0, same_sqt e h1, same_sqt e h2, AllAt.same (R := PassR K) (fun e r => PassR.same e r) e h3, same_sqt e h4⟩
theorem WayR.put {K : PySem.W.Frag} {H : Hp} {D : Addr} {zs : List V} {o : HO} {y : V} {r : List (Str × Nat) × (Str ⊕ Nat)} (hD : H D = some (.lst zs)) (h : WayR K H y r) : WayR K (upd H D o) y r :=
  let ⟨p, t, f, ps, h0, h1, h2, h3, h4⟩ := h; ⟨p, t, f, ps, h0, sqt_put hD h1, sqt_put hD h2, AllAt.imp (S := PassR K) h3 fun _ _ r => PassR.put hD r, sqt_put hD h4⟩
def passD (r : Str × Nat) : PyData := .tuple [.str r.1, .int (r.2 : Int)]
def endD : Str ⊕ Nat → PyData
  | .inl z => .tuple [.str "insurer", .str z]
  | .inr n => .tuple [.str "external", .int (n : Int)]
def wayD (r : List (Str × Nat) × (Str ⊕ Nat)) : PyData := .tuple [.tuple (r.1.map passD), endD r.2]
theorem dp_end {K : PySem.W.Frag} {H : Hp} {f : Addr} {e : Str ⊕ Nat} (h : SqT K H f (endV e)) : Dp K H (.ref f) (endD e) := by
  cases e with
  | inl z => exact .tup h (.cons (.str _) (.cons (.str _) .nil))
  | inr n => exact .tup h (.cons (.str _) (.cons (.int _) .nil))
theorem dp_pass {K : PySem.W.Frag} {H : Hp} {y : V} {r : Str × Nat} (h : PassR K H y r) : Dp K H y (passD r) := by
  obtain ⟨b, rfl, h⟩ := h
  exact .tup h (.cons (.str _) (.cons (.int _) .nil))
theorem dp_way {K : PySem.W.Frag} {H : Hp} {y : V} {r : List (Str × Nat) × (Str ⊕ Nat)} (h : WayR K H y r) : Dp K H y (wayD r) := by
  obtain ⟨p, t, f, ps, rfl, h1, h2, h3, h4⟩ := h
  exact .tup h1 (.cons (.tup h2 (dp_all (R := PassR K) (fun _ _ r => dp_pass r) h3.1 h3.2)) (.cons (dp_end h4) .nil))
theorem ok_end (n : Nat) (e : Str ⊕ Nat) : dOk (n + 2) (endD e) = true := by
  cases e <;> rfl
theorem ok_way {r : List (Str × Nat) × (Str ⊕ Nat)} (h : r.1.length ≤ 5000) : dOk 8 (wayD r) = true := by
  have h1 : dOk 7 (.tuple (r.1.map passD)) = true := ok_of (n := 6) h fun _ _ => rfl
  show (decide ([PyData.tuple (r.1.map passD), endD r.2].length ≤ 5000) && [PyData.tuple (r.1.map passD), endD r.2].all (dOk 7)) = true
  rw [List.all_cons, List.all_cons, h1, ok_end 5]
  rfl
/-! ### a market by digits -/
def sp_dg_draws (K : PySem.W.Frag) : Sp := fun vs H Q _ => ∃ (c : Int) (n : Nat), vs = [.int c, .int (n : Int)] ∧ n ≤ 60 ∧
  ∀ (o : Addr) (H' : Hp) (ds : List Int), Same H H' → H o = none → H' o = some (.lst (ds.map V.int)) → ds.length = n → (∀ x ∈ ds, 0 ≤ x) → Q (.ref o) H'
def sp_dg_cover (K : PySem.W.Frag) : Sp := fun vs H Q _ => ∃ (a : Addr) (ns : List Int) (j : Nat), vs = [.ref a, .int (j : Int)] ∧ SqL K H a (ns.map V.int) ∧ 0 < ns.length ∧ (∀ x ∈ ns, 0 ≤ x) ∧
  ∀ (t : Addr) (c : Cov) (H' : Hp), Same H H' → H t = none → H' t = some (.tup (cvV c)) → CvOk c → Q (.ref t) H'
def sp_dg_panel (K : PySem.W.Frag) : Sp := fun vs H Q _ => ∃ (a b : Addr) (ns : List Int) (j : Nat) (c : Str) (ins os : List Str), vs = [.ref a, .int (j : Int), .ref b] ∧ SqL K H a (ns.map V.int) ∧ 0 < ns.length ∧ (∀ x ∈ ns, 0 ≤ x) ∧ SqL K H b (os.map V.str) ∧
  os.Nodup ∧ os.length ≤ 5 ∧ (∀ z ∈ os, z ∈ ins ∧ z ≠ c) ∧ (∀ z ∈ ins, isNm z = true ∧ z.length ≤ 1000) ∧
  ∀ (t : Addr) (ps : List (Option Str × Int)) (H' : Hp), Same H H' → PanAt K H' (.ref t) ps → DrawnPan ins c ps → Q (.ref t) H'
theorem dg_at {ns : List Int} (hl : 0 < ns.length) (hn : ∀ x ∈ ns, 0 ≤ x) (j : Int) : ∃ v, 0 ≤ v ∧ atI (ns.map V.int) (j % ((ns.map V.int).length : Nat)) = some (.int v) := by
  have hl' : 0 < (ns.map V.int).length := by rw [List.length_map]; exact hl
  have h1 := Int.emod_nonneg j (show (((ns.map V.int).length : Nat) : Int) ≠ 0 by omega)
  have h2 := Int.emod_lt_of_pos j (show (0 : Int) < (((ns.map V.int).length : Nat) : Int) by omega)
  obtain ⟨i, hi⟩ : ∃ i : Nat, j % ((ns.map V.int).length : Nat) = (i : Int) := ⟨(j % ((ns.map V.int).length : Nat)).toNat, by omega⟩
  rw [hi]
  have hk : i < ns.length := by
    rw [hi, List.length_map] at h2
    omega
  exact ⟨ns[i], hn _ (List.getElem_mem hk), atI_nat (at_map (List.getElem?_eq_getElem hk))⟩
/-- a panel by digits, so far: some of the names, in their order -/
structure DgSt (os : List Str) (i : Nat) (ps : List (Option Str × Int)) : Prop where
  sub : (pnames ps).Sublist ((os.take i).map some)
  sh : ∀ e ∈ ps, 1 ≤ e.2 ∧ e.2 ≤ 12
theorem DgSt.up {os : List Str} {i : Nat} {ps : List (Option Str × Int)} (h : DgSt os i ps) {z : Str} (hz : os[i]? = some z) : DgSt os (i + 1) ps := by
  refine ⟨?_, h.sh⟩
  rw [List.take_add_one, hz, List.map_append]
  exact h.sub.trans (List.sublist_append_left _ _)
theorem DgSt.add {os : List Str} {i : Nat} {ps : List (Option Str × Int)} (h : DgSt os i ps) {z : Str} (hz : os[i]? = some z) {n : Int} (h1 : 1 ≤ n) (h2 : n ≤ 12) : DgSt os (i + 1) (ps ++ [(some z, n)]) := by
  refine ⟨?_, fun e he => ?_⟩
  · rw [List.take_add_one, hz, List.map_append]
    have e1 : pnames (ps ++ [(some z, n)]) = pnames ps ++ [some z] := List.map_append
    rw [e1]
    exact h.sub.append (List.Sublist.refl _)
  · rcases List.mem_append.mp he with he | he
    · exact h.sh e he
    · rw [List.mem_singleton.mp he]
      exact ⟨h1, h2⟩
theorem DgSt.fin {ins os : List Str} {c : Str} {ps qs : List (Option Str × Int)} (h : DgSt os os.length ps) (hnd : os.Nodup) (hlen : os.length ≤ 5) (hos : ∀ z ∈ os, z ∈ ins ∧ z ≠ c) (hnm : ∀ z ∈ ins, isNm z = true ∧ z.length ≤ 1000)
    (hq : qs = ps ∨ ∃ n, 1 ≤ n ∧ n ≤ 12 ∧ qs = ps ++ [(none, n)]) (hp : 1 ≤ qs.length) : DrawnPan ins c qs := by
  have sub := h.sub
  rw [List.take_of_length_le (Nat.le_refl _)] at sub
  have l1 := sub.length_le
  rw [List.length_map] at l1
  have l2 : (pnames ps).length = ps.length := List.length_map ..
  have nd1 : (pnames ps).Nodup := (hnd.map (f := some) (fun a b h e => h (Option.some.inj e))).sublist sub
  have mm : ∀ o ∈ pnames ps, ∃ z, o = some z ∧ z ∈ os := fun o ho => by
    obtain ⟨z, hz, e⟩ := List.mem_map.mp (sub.mem ho)
    exact ⟨z, e.symm, hz⟩
  have shq : ∀ e ∈ qs, 1 ≤ e.2 ∧ e.2 ≤ 12 := fun e he => by
    rcases hq with rfl | ⟨n, n1, n2, rfl⟩
    · exact h.sh e he
    · rcases List.mem_append.mp he with he | he
      · exact h.sh e he
      · rw [List.mem_singleton.mp he]
        exact ⟨n1, n2⟩
  have mq : ∀ o ∈ pnames qs, o = none ∨ ∃ z, o = some z ∧ z ∈ os := fun o ho => by
    rcases hq with rfl | ⟨n, n1, n2, rfl⟩
    · exact .inr (mm o ho)
    · have e1 : pnames (ps ++ [((none : Option Str), n)]) = pnames ps ++ [none] := List.map_append
      rw [e1] at ho
      rcases List.mem_append.mp ho with ho | ho
      · exact .inr (mm o ho)
      · exact .inl (List.mem_singleton.mp ho)
  have lq : qs.length ≤ 6 := by
    rcases hq with rfl | ⟨n, n1, n2, rfl⟩
    · omega
    · rw [List.length_append]
      show _ + 1 ≤ 6
      omega
  refine ⟨⟨hp, lq, fun x hx => ⟨fun z hz => ?_, (shq x hx).1, by have := (shq x hx).2; omega⟩, ?_⟩, ?_, fun o ho => ?_⟩
  · rcases mq _ (List.mem_map.mpr ⟨x, hx, rfl⟩) with q | ⟨y, q, hy⟩
    · rw [hz] at q
      cases q
    · rw [hz] at q
      cases Option.some.inj q
      exact hnm z (hos z hy).1
  · have := sum_12 shq
    omega
  · rcases hq with rfl | ⟨n, n1, n2, rfl⟩
    · exact nd1
    · have e1 : pnames (ps ++ [((none : Option Str), n)]) = pnames ps ++ [none] := List.map_append
      rw [e1, List.nodup_append]
      refine ⟨nd1, by simp, fun x hx y hy e => ?_⟩
      rw [List.mem_singleton.mp hy] at e
      obtain ⟨z, hz, _⟩ := mm x hx
      rw [e] at hz
      cases hz
  · rcases mq o ho with q | ⟨z, q, hz⟩
    · exact .inl q
    · exact .inr ⟨z, q, (hos z hz).1, (hos z hz).2⟩
theorem nd_len {α : Type} [DecidableEq α] : ∀ {l s : List α}, l.Nodup → (∀ x ∈ l, x ∈ s) → l.length ≤ s.length
  | [], _, _, _ => Nat.zero_le _
  | x :: t, s, h, hm => by
    have hx := hm x List.mem_cons_self
    have hnd := List.nodup_cons.mp h
    have h1 : t.length ≤ (s.erase x).length := nd_len hnd.2 fun y hy => (List.mem_erase_of_ne (fun e : y = x => hnd.1 (by rw [← e]; exact hy))).mpr (hm y (List.mem_cons_of_mem _ hy))
    rw [List.length_erase_of_mem hx] at h1
    have h2 := List.length_pos_of_mem hx
    show t.length + 1 ≤ _
    omega
def prods : List Str → List Str → List (Str × Str)
  | [], _ => []
  | e :: r, zs => zs.map (fun z => (e, z)) ++ prods r zs
theorem prods_len : ∀ (es zs : List Str), (prods es zs).length = es.length * zs.length
  | [], zs => by simp [prods]
  | e :: r, zs => by
    unfold prods
    rw [List.length_append, List.length_map, prods_len r zs, List.length_cons, Nat.succ_mul]
    omega
theorem prods_mem : ∀ {es zs : List Str} {e z : Str}, e ∈ es → z ∈ zs → (e, z) ∈ prods es zs
  | x :: r, zs, e, z, he, hz => by
    unfold prods
    rcases List.mem_cons.mp he with rfl | he
    · exact List.mem_append_left _ (List.mem_map.mpr ⟨z, hz, rfl⟩)
    · exact List.mem_append_right _ (prods_mem he hz)
def four : List Str := ["ada", "bob", "cyd", "dan"]
def twain : List Str := ["storm", "flood"]
/-- a market as the digits make it -/
structure DgMkt (M : Mkt) : Prop where
  i : ∃ k, 1 ≤ k ∧ k ≤ 4 ∧ M.ins = four.take k
  e : ∃ k, 1 ≤ k ∧ k ≤ 2 ∧ M.evs = twain.take k
  ok : TrsOk M.ins M.trs
  tl : M.trs.length ≤ 16
  trs : ∀ t ∈ M.trs, t.ced ∈ M.ins ∧ DrawnPan M.ins t.ced t.pan ∧ t.ended = false
  lnd : (M.los.map (·.1)).Nodup
  l : ∀ p ∈ M.los, p.1.1 ∈ M.evs ∧ p.1.2 ∈ M.ins ∧ 0 ≤ p.2 ∧ p.2 ≤ 69
  ends : ∀ e ∈ M.evs, fate M.ins M.trs (directs M.ins M.los e) true
theorem DgMkt.inm {M : Mkt} (h : DgMkt M) : ∀ z ∈ M.ins, isNm z = true ∧ z.length ≤ 1000 := fun z hz => by
  obtain ⟨k, _, _, e⟩ := h.i
  rw [e] at hz
  exact (show ∀ c ∈ four, isNm c = true ∧ c.length ≤ 1000 by decide +kernel) z (List.mem_of_mem_take hz)
theorem DgMkt.enm {M : Mkt} (h : DgMkt M) : ∀ z ∈ M.evs, isNm z = true ∧ z.length ≤ 1000 := fun z hz => by
  obtain ⟨k, _, _, e⟩ := h.e
  rw [e] at hz
  exact (show ∀ c ∈ twain, isNm c = true ∧ c.length ≤ 1000 by decide +kernel) z (List.mem_of_mem_take hz)
theorem DgMkt.il {M : Mkt} (h : DgMkt M) : 1 ≤ M.ins.length ∧ M.ins.length ≤ 4 := by
  obtain ⟨k, h1, h2, e⟩ := h.i
  rw [e, List.length_take, show four.length = 4 from rfl]
  omega
theorem DgMkt.el {M : Mkt} (h : DgMkt M) : 1 ≤ M.evs.length ∧ M.evs.length ≤ 2 := by
  obtain ⟨k, h1, h2, e⟩ := h.e
  rw [e, List.length_take, show twain.length = 2 from rfl]
  omega
theorem DgMkt.ll {M : Mkt} (h : DgMkt M) : M.los.length ≤ 8 := by
  have h1 := nd_len h.lnd (s := prods M.evs M.ins) fun x hx => by
    obtain ⟨p, hp, rfl⟩ := List.mem_map.mp hx
    exact prods_mem (h.l p hp).1 (h.l p hp).2.1
  rw [prods_len, List.length_map] at h1
  have h2 := h.il
  have h3 := h.el
  have h4 : M.evs.length * M.ins.length ≤ 2 * 4 := Nat.mul_le_mul h3.2 h2.2
  omega
theorem setL_mem {L : List ((Str × Str) × Int)} {e z : Str} {n : Int} {p : (Str × Str) × Int} (h : p ∈ setL L e z n) : p ∈ L ∨ p = ((e, z), n) := by
  unfold setL at h
  split at h
  · obtain ⟨q, hq, rfl⟩ := List.mem_map.mp h
    split
    · rename_i c
      exact .inr (by rw [c])
    · exact .inl hq
  · rcases List.mem_append.mp h with h | h
    · exact .inl h
    · exact .inr (List.mem_singleton.mp h)
theorem DgMkt.set {M : Mkt} (h : DgMkt M) {e z : Str} {n : Int} (he : e ∈ M.evs) (hz : z ∈ M.ins) (h0 : 0 ≤ n) (h1 : n ≤ 69) (hf : ∀ e' ∈ M.evs, fate M.ins M.trs (directs M.ins (setL M.los e z n) e') true) : DgMkt { M with los := setL M.los e z n } :=
  ⟨h.i, h.e, h.ok, h.tl, h.trs, (setL_keys M.los e z n h.lnd).1, fun p hp => by
    rcases setL_mem hp with hp | rfl
    · exact h.l p hp
    · exact ⟨he, hz, h0, h1⟩, hf⟩
def sp_dg_loss (K : PySem.W.Frag) (C : Addr) : Sp := fun vs H Q _ => ∃ (m : Addr) (d : Int) (M : Mkt), vs = [.ref m, .int d] ∧ MktAt K C H m M ∧ DgMkt M ∧
  ∀ (b : Bool) (L : List ((Str × Str) × Int)) (H' : Hp), Bar m H H' → MktAt K C H' m { M with los := L } → DgMkt { M with los := L } → Q (.bl b) H'
def sp_dg_filled (K : PySem.W.Frag) (C : Addr) : Sp := fun vs H Q _ => ∃ (m : Addr) (c : Int), vs = [.ref m, .int c] ∧ MktAt K C H m ⟨[], [], [], []⟩ ∧
  ∀ (M : Mkt) (H' : Hp), Bar m H H' → MktAt K C H' m M → DgMkt M → Q (.ref m) H'
def sp_dg_market (K : PySem.W.Frag) (C : Addr) : Sp := fun vs H Q _ => ∃ c : Int, vs = [.int c] ∧
  ∀ (m : Addr) (M : Mkt) (H' : Hp), Same H H' → H m = none → MktAt K C H' m M → DgMkt M → Q (.ref m) H'
theorem slA_to {K : PySem.W.Frag} {H : Hp} {t : Addr} {xs : List V} {i : Int} {k : Nat} {Q : VK} (hS : SqT K H t xs) (e : i = (k : Int)) (q : ∀ (A : Addr) (H' : Hp), Same H H' → SqT K H' A (xs.take k) → Q (.ref A) H') : rSlA K (.ref t) none (some i) H Q := by
  subst e
  refine ⟨t, xs, rfl, hS, fun hw => q t H (Same.refl _) ?_, fun _ p np => q p _ (same_new np) (SqT.of (by rw [upd_same, cut_to]))⟩
  have e : xs.take k = xs := by
    rw [← cut_to]
    unfold cutV
    rw [hw.1, hw.2]
    simp
  rw [e]
  exact hS
theorem filt_nd {ins : List Str} (c : Str) (h : ins.Nodup) : (ins.filter fun z => decide (z ≠ c)).Nodup := h.filter _
theorem filt_step {ins : List Str} {c z : Str} {i : Nat} (h : ins[i]? = some z) : (ins.take (i + 1)).filter (fun z => decide (z ≠ c)) = (ins.take i).filter (fun z => decide (z ≠ c)) ++ if z ≠ c then [z] else [] := by
  rw [List.take_add_one, h, List.filter_append]
  congr 1
  by_cases e : z = c
  · subst e
    simp
  · simp [e]
theorem DgMkt.add {ins evs : List Str} {ts : List Trt} {t : Trt} (h : DgMkt ⟨ins, evs, ts, []⟩) (hl : ts.length < 16) (hok : TrsOk ins (ts ++ [t])) (ht : t.ced ∈ ins ∧ DrawnPan ins t.ced t.pan ∧ t.ended = false) : DgMkt ⟨ins, evs, ts ++ [t], []⟩ :=
  ⟨h.i, h.e, hok, by show (ts ++ [t]).length ≤ 16; rw [List.length_append]; exact hl, fun u hu => by
    rcases List.mem_append.mp hu with hu | hu
    · exact h.trs u hu
    · rw [List.mem_singleton.mp hu]
      exact ht, h.lnd, h.l, fun e _ => by
    show fate ins (ts ++ [t]) (directs ins [] e) true
    rw [directs_nil]
    exact fate_zero hok⟩
/-! ### ends of ways as data; names by digits -/
theorem directs_other (nm : List Str) (L : List ((Str × Str) × Int)) {e e' : Str} (z : Str) (n : Int) (h : e' ≠ e) : directs nm (setL L e z n) e' = directs nm L e' := by
  unfold directs
  refine List.map_congr_left fun y _ => ?_
  have h1 := lkv_get (setL L e z n) e' y
  rw [← lkv_put, valV_put, if_neg (fun q => h (Prod.mk.inj (key2.mp q)).1), lkv_get] at h1
  exact (V.int.inj h1).symm
theorem pick_name {xs : List Str} (x : Int) (hx : 1 ≤ xs.length) : ∃ (k : Nat) (e : Str), xs[k]? = some e ∧ atI (xs.map V.str) (x % ((xs.map V.str).length : Nat)) = some (.str e) ∧ (0 : Int) < (((xs.map V.str).length : Nat) : Int) := by
  rw [List.length_map]
  have e1 := Int.emod_nonneg x (show ((xs.length : Nat) : Int) ≠ 0 by omega)
  have e2 := Int.emod_lt_of_pos x (show (0 : Int) < ((xs.length : Nat) : Int) by omega)
  obtain ⟨k, hk⟩ : ∃ k : Nat, x % ((xs.length : Nat) : Int) = (k : Int) := ⟨(x % ((xs.length : Nat) : Int)).toNat, by omega⟩
  rw [hk]
  have hkl : k < xs.length := by omega
  exact ⟨k, xs[k], List.getElem?_eq_getElem hkl, atI_nat (by rw [List.getElem?_map, List.getElem?_eq_getElem hkl]; rfl), by omega⟩
theorem shp_end {e : Str ⊕ Nat} (h : ∀ z, e = .inl z → PyData.strOk z = true) : SeqAt.shaped (endD e) = true := by
  cases e with
  | inl z =>
    simp [endD, SeqAt.shaped, PyData.canLay0, PyData.depth, PyData.canLayAll0, PyData.depthAll, h z rfl]
    decide +kernel
  | inr n =>
    simp [endD, SeqAt.shaped, PyData.canLay0, PyData.depth, PyData.canLayAll0, PyData.depthAll]
    decide +kernel
theorem way_inl {ins : List Str} {ts : List Trt} {gs : List Int} {z c : Str} {l : List (Str × Nat)} (w : Way ins ts gs z l (.inl c)) : c ∈ ins := by
  generalize he : (Sum.inl c : Str ⊕ Nat) = e at w
  induction w with
  | stop hk _ _ =>
    cases he
    exact List.mem_of_getElem? hk
  | out _ _ _ _ _ => cases he
  | go _ _ _ _ _ _ ih => exact ih he
theorem DgMkt.sok {M : Mkt} (h : DgMkt M) : ∀ z ∈ M.ins, PyData.strOk z = true := fun z hz => by
  obtain ⟨k, _, _, e⟩ := h.i
  rw [e] at hz
  exact (show ∀ c ∈ four, PyData.strOk c = true by decide +kernel) z (List.mem_of_mem_take hz)
theorem end_eqv (a b : Str ⊕ Nat) : PyData.eqv (endD a) (endD b) = decide (a = b) := by
  cases a with
  | inl x =>
    cases b with
    | inl y =>
      show (((("insurer" : Str) == "insurer") && ((x == y) && true)) : Bool) = _
      rw [beq_self_eq_true, Bool.true_and, Bool.and_true]
      by_cases q : x = y
      · rw [q, beq_self_eq_true, decide_eq_true rfl]
      · rw [beq_eq_false_iff_ne.mpr q, decide_eq_false fun p => q (Sum.inl.inj p)]
    | inr y =>
      show ((("insurer" : Str) == "external") && (PyData.eqv (.str x) (.int (y : Int)) && true) : Bool) = _
      rw [show (("insurer" : Str) == "external") = false by decide +kernel, decide_eq_false (fun p => nomatch p)]
      rfl
  | inr x =>
    cases b with
    | inl y =>
      show ((("external" : Str) == "insurer") && (PyData.eqv (.int (x : Int)) (.str y) && true) : Bool) = _
      rw [show (("external" : Str) == "insurer") = false by decide +kernel, decide_eq_false (fun p => nomatch p)]
      rfl
    | inr y =>
      show (((("external" : Str) == "external") && (((x : Int) == (y : Int)) && true)) : Bool) = _
      rw [beq_self_eq_true, Bool.true_and, Bool.and_true]
      by_cases q : x = y
      · rw [q, beq_self_eq_true, decide_eq_true rfl]
      · rw [beq_eq_false_iff_ne.mpr (fun p => q (by omega)), decide_eq_false fun p => q (Sum.inr.inj p)]
theorem dg_dir {M : Mkt} (h : DgMkt M) (e : Str) {k : Nat} {d : Int} (hd : (directs M.ins M.los e)[k]? = some d) : 0 ≤ d ∧ d ≤ 69 := by
  unfold directs at hd
  rw [List.getElem?_map] at hd
  cases hz : M.ins[k]? with
  | none =>
    rw [hz] at hd
    cases hd
  | some z =>
    rw [hz] at hd
    have hd : lossOf M.los e z = d := Option.some.inj hd
    unfold lossOf at hd
    cases hf : M.los.find? fun p => decide (p.1 = (e, z)) with
    | none =>
      rw [hf] at hd
      have hd : (0 : Int) = d := hd
      omega
    | some p =>
      rw [hf] at hd
      have hd : p.2 = d := hd
      have := h.l p (List.mem_of_find?_eq_some hf)
      omega
/-! ### for x, k in zip(list or tuple, range(n)) -/
theorem cr_range1 {X : Cx} : CallR X (.type "range") (fun vs H Q => ∃ j, vs = [V.int j] ∧ ∀ p, H p = none → Q (.ref p) (upd H p (.rng 0 j))) := by
  intro pins s σ H vs us Q I r h
  obtain ⟨j, rfl, q⟩ := h
  obtain ⟨u1, rfl, rj⟩ := vals1 r
  obtain ⟨t, rfl⟩ := rj
  refine call_range_1 ⟨.ref s.heap.objs.size, upd H s.heap.objs.size (.rng 0 j), I.laid (t' := s.toks + 1 + 1) (fun b o e => Heap.get?_push_of_some _ e) (Nat.le_refl _) ?_, rfl, q _ (I.hok.fresh (Nat.le_refl _))⟩
  exact ⟨s.toks, t, s.toks + 1, Heap.get?_push_size _ rfl⟩
theorem small_upto {n : Nat} (h : n ≤ 100000) : Builtin.Range.small 0 (n : Int) 1 = true ∧ Builtin.Range.rangeSize 0 (n : Int) 1 = (n : Int) := by
  have e : Builtin.Range.rangeSize 0 (n : Int) 1 = (n : Int) := by
    rw [rangeSize_one]
    split <;> omega
  refine ⟨?_, e⟩
  unfold Builtin.Range.small
  rw [e]
  simp [Builtin.Range.rangeFitsLong]
  omega
theorem begins_range (r : Addr) {n : Nat} (hn : n ≤ 100000) : Begins (.ref r) { cls := .type "range_iterator", data := .fields #[rawInt 0, rawInt (n : Int), rawInt 1] } fun h => ∃ t u v, IsRange h r 0 (n : Int) 1 t u v where
  iter := fun prog w A E s Q hr h => by
    obtain ⟨t, u, v, hr⟩ := hr
    obtain ⟨e1, e2⟩ := small_upto hn
    refine wpAny_pyIter_range hr e1 ?_
    rw [e2]
    exact h
  keeps := fun h h' ⟨t, u, v, x⟩ hk => ⟨t, u, v, hk r _ x⟩
  free := rfl
theorem draws_range {prog : Program} {w : World} {A : Around} (hh : A.handled = none) (it : Addr) (n : Nat) :
    Draws prog w A it [it] n (fun i v => ∃ u, v = .int (i : Int) u) (fun i h => IsRangeIter h it (i : Int) ((n : Int) - (i : Int)) 1) where
  live := fun _ _ st => ⟨_, st⟩
  frame := fun _ _ _ st hk => hk it (by simp) _ st
  item := fun i s Q E hi st hQ => by
    unfold Builtin.SmallTypes.nextOf
    refine wpAny_bind (CpRep.range_item st (by omega) fun h' hit' hs' => ?_)
    refine wpAny_pure (hQ _ h' (s.toks + 1) ⟨_, rfl⟩ ?_ hs')
    have e1 : ((i + 1 : Nat) : Int) = (i : Int) + 1 := by omega
    have e2 : (n : Int) - ((i + 1 : Nat) : Int) = (n : Int) - (i : Int) - 1 := by omega
    rw [e2, e1]
    exact hit'
  done := fun s Q E st hE => by
    unfold Builtin.SmallTypes.nextOf
    refine wpAny_bind (CpRep.range_end hh st (by omega) fun e h' hs hx => ?_)
    obtain ⟨a, o, vs, rfl, h1, h2, _⟩ := hs
    exact hE h' a hx ⟨o, h1, h2⟩
def ItR (K : PySem.W.Frag) (t1 : Bool) (a : Addr) (n : Nat) : It :=
  ⟨fun i H => ∃ (xs : List V) (x : V), SqK t1 K H a xs ∧ xs[i]? = some x ∧ i < n,
    fun i H v H' => ∃ T x, v = .ref T ∧ H T = none ∧ H' = upd H T (.tup [x, .int (i : Int)]) ∧ (∀ xs, SqK t1 K H a xs → xs[i]? = some x),
    fun i H => ∃ xs : List V, SqK t1 K H a xs ∧ min xs.length n = i⟩
theorem turn_R {P : Program} {w : World} {K : PySem.W.Frag} {elts : List Expr} {kk : Nat} {tpos : PySem.Pos} {t1 : Bool} {a z TI TO i1 i2 : Addr} {n : Nat} (S : ZipSep2 z TI TO i1 i2 [i1, a] [i2]) (n1 : a ≠ i1) :
    Turn P w K (.Tuple elts kk tpos) (ItR K t1 a n) [z, TI, TO, i1, i2] z (fun i h => IsZip h z TI TO .none ∧ IsTupOf2 h TI (.ref i1) (.ref i2) ∧ (∃ a1 a2, IsTupOf2 h TO a1 a2) ∧ SIt t1 h i1 a i ∧ IsRangeIter h i2 (i : Int) ((n : Int) - (i : Int)) 1) where
  mem := List.mem_cons_self
  obj := fun i h st c hc => by
    obtain ⟨hz, hTI, ⟨x, y, hTO⟩, g1, g2⟩ := st
    simp only [List.mem_cons, List.not_mem_nil, or_false] at hc
    rcases hc with rfl | rfl | rfl | rfl | rfl
    · exact ⟨_, hz, fun v q => nomatch q⟩
    · exact ⟨_, hTI, fun v q => nomatch q⟩
    · exact ⟨_, hTO, fun v q => nomatch q⟩
    · exact s_obj g1
    · exact ⟨_, g2, fun v q => nomatch q⟩
  keep := fun i h h' st k => by
    obtain ⟨hz, hTI, ⟨x, y, hTO⟩, g1, g2⟩ := st
    exact ⟨k z (by simp) _ hz, k TI (by simp) _ hTI, ⟨x, y, k TO (by simp) _ hTO⟩, s_keep g1 fun o q => k i1 (by simp) o q, k i2 (by simp) _ g2⟩
  item := by
    intro X hP hw hK hc i pins s σ H E I hf st hg
    subst hP hw hK
    obtain ⟨xs, x, hqx, hx, hin⟩ := hg
    obtain ⟨its, rv, src, _⟩ := src_of I hqx
    obtain ⟨u, hu, ru⟩ := rv.get hx
    have D1 := s_draws (prog := X.prog) (w := X.w) (A := X.A.in1) t1 (I.ok.hd hc) i1 a n1 its.toArray
    have D2 := draws_range (prog := X.prog) (w := X.w) (A := X.A.in1) (I.ok.hd hc) i2 n
    have W := GoesN.zip2 (elts := elts) (x1 := kk) (pos := tpos) S D1 D2
    obtain ⟨hz, hTI, ⟨x0, y0, hTO⟩, g1, g2⟩ := id st
    have old2 : ∀ c ∈ [z, TI, TO, i1, i2], c < s.heap.objs.size := fun c hc => by
      simp only [List.mem_cons, List.not_mem_nil, or_false] at hc
      rcases hc with rfl | rfl | rfl | rfl | rfl
      · exact Heap.lt_size hz
      · exact Heap.lt_size hTI
      · exact Heap.lt_size hTO
      · obtain ⟨o, eo, _⟩ := s_obj g1
        exact Heap.lt_size eo
      · exact Heap.lt_size g2
    have hlt : i < min its.toArray.size n := by
      have e1 := (List.getElem?_eq_some_iff.mp hu).1
      rw [List.size_toArray]
      omega
    have sub : ∀ c ∈ [z, TO, i1, i2], c ∈ [z, TI, TO, i1, i2] := fun c hc => by
      simp only [List.mem_cons, List.not_mem_nil, or_false] at hc ⊢
      rcases hc with h | h | h | h
      · exact .inl h
      · exact .inr (.inr (.inl h))
      · exact .inr (.inr (.inr (.inl h)))
      · exact .inr (.inr (.inr (.inr h)))
    refine thn (item_pair (tn := fun i h => IsZip h z TI TO .none ∧ IsTupOf2 h TI (.ref i1) (.ref i2) ∧ (∃ a1 a2, IsTupOf2 h TO a1 a2) ∧ SIt t1 h i1 a i ∧ IsRangeIter h i2 (i : Int) ((n : Int) - (i : Int)) 1) (x := x) (y := .int (i : Int)) W I hf sub old2 hlt ⟨hz, hTI, ⟨x0, y0, hTO⟩, ⟨g1, src⟩, g2⟩ ?_ (fun h' q => (⟨q.1, q.2.1, q.2.2.1, q.2.2.2.1.1, q.2.2.2.2⟩ : IsZip h' z TI TO .none ∧ IsTupOf2 h' TI (.ref i1) (.ref i2) ∧ (∃ a1 a2, IsTupOf2 h' TO a1 a2) ∧ SIt t1 h' i1 a (i + 1) ∧ IsRangeIter h' i2 ((i + 1 : Nat) : Int) ((n : Int) - ((i + 1 : Nat) : Int)) 1))) fun r s1 h => ?_
    · rintro v h' ⟨T, y1, y2, rfl, big, hy1, hy2, hT⟩
      obtain ⟨tk, rfl⟩ := hy2
      refine ⟨T, _, _, rfl, big, hT, ?_, ⟨tk, rfl⟩⟩
      have e : its[i]? = some y1 := by simpa using hy1
      rw [hu] at e
      cases e
      exact ru
    · obtain ⟨u', hr, h⟩ := h
      refine ⟨u', hr, thn h fun _ s2 h => ?_⟩
      obtain ⟨v, H', J, rvu, ⟨T, e1, e2, e3⟩, q1, q2⟩ := h
      exact ⟨v, H', J, rvu, ⟨T, x, e1, e2, e3, fun l hl => by rw [src_inj I hl hqx]; exact hx⟩, q1, q2⟩
  done := by
    intro X hP hw hK hc i pins s σ H E I hf st hg
    subst hP hw hK
    obtain ⟨xs, hqx, hl⟩ := hg
    obtain ⟨its, rv, src, _⟩ := src_of I hqx
    have D1 := s_draws (prog := X.prog) (w := X.w) (A := X.A.in1) t1 (I.ok.hd hc) i1 a n1 its.toArray
    have D2 := draws_range (prog := X.prog) (w := X.w) (A := X.A.in1) (I.ok.hd hc) i2 n
    have W := GoesN.zip2 (elts := elts) (x1 := kk) (pos := tpos) S D1 D2
    have en : min its.toArray.size n = i := by rw [List.size_toArray, ← rv.length, hl]
    have sub : ∀ c ∈ [z, TO, i1, i2], c ∈ [z, TI, TO, i1, i2] := fun c hc => by
      simp only [List.mem_cons, List.not_mem_nil, or_false] at hc ⊢
      rcases hc with h | h | h | h
      · exact .inl h
      · exact .inr (.inr (.inl h))
      · exact .inr (.inr (.inr (.inl h)))
      · exact .inr (.inr (.inr (.inr h)))
    refine item_done W I hf sub ?_
    rw [en]
    obtain ⟨hz, hTI, hTO, g1, g2⟩ := st
    exact ⟨hz, hTI, hTO, ⟨g1, src⟩, g2⟩
  self := fun A i s Q E st h => wpAny_pyIter_zip st.1 h
def iZipR (K : PySem.W.Frag) (t1 : Bool) (ta : TA) : TI := fun σ H R => ta σ H fun vs H1 => ∃ a b xs n, vs = [.ref a, .ref b] ∧ SqK t1 K H1 a xs ∧ H1 b = some (.rng 0 ((n : Nat) : Int)) ∧ n ≤ 100000 ∧ R (ItR K t1 a n) H1
theorem pi_zipR (t1 : Bool) {X : Cx} {e e2 : Expr} {ta : TA} {p pos tpos : PySem.Pos} {elts : List Expr} {kk : Nat} (hg : Gl X "zip") (hm : X.mg "zip" = none) (ha : PA X [e, e2] ta)
    (hs : starEach [e, e2] X.env = (false, eval e X.env) :: starEach [e2] X.env := by rfl) (hpl : (backTo pos (starEach [e2] X.env)).any (·.1) = false := by rfl) :
    PI X (.Tuple elts kk tpos) (.Call (.Name "zip" p) [e, e2] [] pos) (iZipR X.K t1 ta) := by
  refine ⟨fun pins s σ H R I h => ?_⟩
  refine Call_ (ld_blt I hg hm PyProof.Rows.boot_zip (PyProof.Rows.callWith_type1 (thn (ha.run pos pins s σ H _ I h) fun us s1 ⟨vs, H1, I1, r1, q1⟩ => ?_) hs hpl))
  obtain ⟨a, b, xs, n, rfl, hqx, hqy, hn, q⟩ := q1
  cases r1 with
  | cons r rr =>
    cases rr with
    | cons r' rr =>
      cases rr
      cases r
      cases r'
      obtain ⟨its, rv, src, lt⟩ := src_of I1 hqx
      have src2 : ∃ t u v, IsRange s1.heap b 0 (n : Int) 1 t u v := I1.hok b _ hqy
      have lt2 : b < s1.heap.objs.size := by
        obtain ⟨_, _, _, e⟩ := src2
        exact Heap.lt_size e
      refine zip_begins2 (s_begins t1 a its.toArray) (begins_range b hn) src src2 fun h' hz hTI hTO g1 g2 _ hk => wpAny_pyIter_zip hz ?_
      have I2 : Inv X pins σ H1 { s1 with heap := h' } := I1.kept (t' := s1.toks) hk
      have S := zip_sep2 (N := s1.heap.objs.size) (fp1 := [a]) (fp2 := []) (fun c hc => by cases List.mem_singleton.mp hc; exact lt) (fun c hc => nomatch hc)
      refine ⟨s1.heap.objs.size + 4, [s1.heap.objs.size + 4, s1.heap.objs.size + 2, s1.heap.objs.size + 3, s1.heap.objs.size, s1.heap.objs.size + 1], _, _, H1, rfl, I2,
        turn_R (t1 := t1) (n := n) S (Nat.ne_of_lt lt), ⟨hz, hTI, ⟨_, _, hTO⟩, s_it0 g1, ?_⟩, fun c hc => ?_, q⟩
      · show IsRangeIter h' _ ((0 : Nat) : Int) ((n : Int) - ((0 : Nat) : Int)) 1
        rw [show (n : Int) - ((0 : Nat) : Int) = (n : Int) by omega]
        exact g2
      have hle : s1.heap.objs.size ≤ c := by
        simp only [List.mem_cons, List.not_mem_nil, or_false] at hc
        rcases hc with rfl | rfl | rfl | rfl | rfl
        · exact Nat.le_add_right _ _
        · exact Nat.le_add_right _ _
        · exact Nat.le_add_right _ _
        · exact Nat.le_refl _
        · exact Nat.le_add_right _ _
      exact I1.fpOk hle (I1.hok.fresh hle)
theorem walk_R {K : PySem.W.Frag} {t1 : Bool} {a : Addr} {xs : List V} {m n : Nat} (hn : m = min xs.length n) :
    Walk (ItR K t1 a n) m (fun H => SqK t1 K H a xs) (YPair (fun i => xs[i]?) (fun i => some (.int (i : Nat)))) := by
  subst hn
  refine ⟨fun i H hi q => ?_, fun H q => ⟨xs, q, rfl⟩, fun i H v H' hi q y => ?_⟩
  · have e1 : i < xs.length := by omega
    exact ⟨xs, xs[i], q, by simp [e1], by omega⟩
  · obtain ⟨T, x, e1, e2, e3, e4⟩ := y
    exact ⟨T, x, _, e1, e2, e3, e4 xs q, rfl⟩
/-! ### the law's own next round, over a market -/
section
variable {X : Cx}
/-- xs[i], read for xs[i] op= e -/
theorem pget_list : PGet X (rIxL X.K) := by
  intro pins s σ H x y v u Q I rx ry h
  obtain ⟨p, xs, i, z, rfl, rfl, hq, he, q⟩ := h
  cases rx
  obtain ⟨t, rfl⟩ := ry
  obtain ⟨its, r, pl, hz⟩ := I.list hq
  obtain ⟨j, h1, h2, h3, h4, h5⟩ := atI_get he
  obtain ⟨w, ew, rw'⟩ := r.get h2
  have hl := r.length
  have hn := line63
  have fin : EP X pins σ Q w s := ⟨z, H, I, rw', q⟩
  by_cases h0 : 0 ≤ i
  · have hj : i.toNat = j := by
      rw [seqIndex_of h0 h5] at h1
      exact Option.some.inj h1
    exact wpAny_getItem_list pl.isList h0 (by omega) (by rw [hj]; simpa using ew) fin
  · have hj : (i + (its.toArray.size : Int)).toNat = j := by
      rw [seqIndex_neg (by omega) h4] at h1
      rw [List.size_toArray, ← hl]
      exact Option.some.inj h1
    exact wpAny_getItem_list_neg pl.isList (by omega) (by rw [List.size_toArray] <;> omega) (by omega) (by rw [hj]; simpa using ew) fin
end
def rst : Int → List Int → Int
  | r, [] => r
  | r, s :: t => rst (r - cut2 s r) t
theorem gow_full (c : Int) : ∀ {r : Int} {sh : List Int}, Pos sh → sh.sum ≤ r → go c r sh = sh.map (fun s => s * (c + 1)) ∧ rst r sh = r - sh.sum
  | r, [], _, _ => ⟨rfl, by
    rw [show ([] : List Int).sum = 0 from rfl, Int.sub_zero]
    rfl⟩
  | r, s :: t, h, hs => by
    rw [List.sum_cons] at hs
    have h0 := Pos.sum0 h.tail
    have e : cut2 s r = s := if_neg (by omega)
    obtain ⟨i1, i2⟩ := gow_full c (r := r - s) (sh := t) h.tail (by omega)
    show (s * c + cut2 s r) :: go c (r - cut2 s r) t = _ ∧ rst (r - cut2 s r) t = _
    rw [e, i1, i2, List.sum_cons]
    refine ⟨?_, by omega⟩
    rw [List.map_cons, Int.mul_add, Int.mul_one]
theorem rst_zero : ∀ {r : Int} {sh : List Int}, Pos sh → 0 ≤ r → r ≤ sh.sum → rst r sh = 0
  | r, [], _, h0, h1 => by
    rw [show ([] : List Int).sum = 0 from rfl] at h1
    show r = 0
    omega
  | r, s :: t, h, h0, h1 => by
    rw [List.sum_cons] at h1
    show rst (r - cut2 s r) t = 0
    unfold cut2
    split
    · exact rst_zero h.tail (by omega) (by have := Pos.sum0 h.tail; omega)
    · exact rst_zero h.tail (by omega) (by omega)
theorem gow_zero (c : Int) : ∀ {sh : List Int}, Pos sh → go c 0 sh = sh.map (fun s => s * c)
  | [], _ => rfl
  | s :: t, h => by
    have h1 := h.head
    have e : cut2 s 0 = 0 := if_pos (by omega)
    show (s * c + cut2 s 0) :: go c (0 - cut2 s 0) t = _
    rw [e, Int.sub_zero, gow_zero c h.tail, Int.add_zero]
    rfl
/-- where the turns stop, the division is made -/
theorem alloc_turn {a j : Int} {sh : List Int} (hp : Pos sh) (hn : sh ≠ []) (h0 : 0 ≤ a - j * sh.sum) (h1 : a - j * sh.sum ≤ sh.sum) : go j (a - j * sh.sum) sh = alloc a sh := by
  have hS := hp.sum1 hn
  unfold alloc
  by_cases c : a - j * sh.sum < sh.sum
  · obtain ⟨e1, e2⟩ := (Int.ediv_emod_unique (a := a) (b := sh.sum) (q := j) (r := a - j * sh.sum) hS).mpr ⟨by rw [Int.mul_comm sh.sum j]; omega, h0, c⟩
    rw [e1, e2]
  · obtain ⟨e1, e2⟩ := (Int.ediv_emod_unique (a := a) (b := sh.sum) (q := j + 1) (r := 0) hS).mpr ⟨by rw [Int.mul_add, Int.mul_one, Int.mul_comm sh.sum j]; omega, by omega, hS⟩
    rw [e1, e2, gow_zero _ hp, (gow_full j hp (by omega)).1]
def sp_lw_alloc (K : PySem.W.Frag) : Sp := fun vs H Q _ => ∃ (a : Int) (s : Addr) (sh : List Int), vs = [.int a, .ref s] ∧ H s = some (.lst (sh.map V.int)) ∧ Pos sh ∧ sh ≠ [] ∧ sh.sum ≤ 100000 ∧ 0 ≤ a ∧ a ≤ 1000000000000 ∧
  ∀ (p : Addr) (H' : Hp), Same H H' → H p = none → H' p = some (.lst ((alloc a sh).map V.int)) → Q (.ref p) H'
def sp_lw_pays (K : PySem.W.Frag) (C : Addr) : Sp := fun vs H Q _ => ∃ (m : Addr) (M : Mkt) (c : Str) (x : Int), vs = [.ref m, .str c, .int x] ∧ MktAt K C H m M ∧ TrsOk M.ins M.trs ∧
  ∀ (p D : Addr) (H' : Hp), Same H H' → H D = none → H' D = some (.dK (pairsK ((actv c 0 M.trs).map (·.1)) (cedeP c M.trs x).1)) → H' p = some (.tup [.ref D, .int (cedeP c M.trs x).2]) → Q (.ref p) H'
/-! the order in which treaties are reckoned does not matter -/
theorem addPan_addAt {ins : List Str} {z : Str} {p : Int} : ∀ {l : List ((Option Str × Int) × Int)} {ls : List Int}, addPan ins l (addAt ins ls z p) = addAt ins (addPan ins l ls) z p
  | [], _ => rfl
  | ((none, _), _) :: r, ls => addPan_addAt (l := r)
  | ((some y, _), q) :: r, ls => by
    show addPan ins r (addAt ins (addAt ins ls z p) y q) = addAt ins (addPan ins r (addAt ins ls y q)) z p
    rw [addAt_comm, addPan_addAt]
theorem addPan_addPan {ins : List Str} {l : List ((Option Str × Int) × Int)} : ∀ {m : List ((Option Str × Int) × Int)} {ls : List Int}, addPan ins l (addPan ins m ls) = addPan ins m (addPan ins l ls)
  | [], _ => rfl
  | ((none, _), _) :: r, ls => addPan_addPan (m := r)
  | ((some y, _), q) :: r, ls => by
    show addPan ins l (addPan ins r (addAt ins ls y q)) = addPan ins r (addAt ins (addPan ins l ls) y q)
    rw [addPan_addPan (m := r), addPan_addAt]
theorem addTrs_addPan {ins : List Str} {m : List ((Option Str × Int) × Int)} : ∀ {l : List (Trt × Int)} {ls : List Int}, addTrs ins l (addPan ins m ls) = addPan ins m (addTrs ins l ls)
  | [], _ => rfl
  | (t, a) :: r, ls => by
    show addTrs ins r (addPan ins (t.pan.zip (alloc a (shs t.pan))) (addPan ins m ls)) = addPan ins m (addTrs ins r (addPan ins (t.pan.zip (alloc a (shs t.pan))) ls))
    rw [addPan_addPan, addTrs_addPan]
theorem addAt_zero : ∀ {ins : List Str} {ls : List Int} {z : Str}, addAt ins ls z 0 = ls
  | [], _, _ => rfl
  | _ :: _, [], _ => rfl
  | i :: r, x :: xs, z => by
    rw [addAt_cons]
    split
    · rw [Int.add_zero]
    · rw [addAt_zero]
theorem addPan_zero {ins : List Str} : ∀ {l : List ((Option Str × Int) × Int)} {ls : List Int}, (∀ e ∈ l, e.2 = 0) → addPan ins l ls = ls
  | [], _, _ => rfl
  | ((none, _), _) :: r, ls, h => addPan_zero (l := r) fun e he => h e (List.mem_cons_of_mem _ he)
  | ((some y, _), q) :: r, ls, h => by
    have e : q = 0 := h _ List.mem_cons_self
    subst e
    show addPan ins r (addAt ins ls y 0) = ls
    rw [addAt_zero]
    exact addPan_zero fun e he => h e (List.mem_cons_of_mem _ he)
theorem alloz_zero {sh : List Int} (h : Pos sh) : ∀ x ∈ alloc 0 sh, x = 0 := fun x hx => by
  unfold alloc at hx
  rw [Int.zero_ediv, Int.zero_emod, gow_zero 0 h] at hx
  obtain ⟨y, _, e⟩ := List.mem_map.mp hx
  rw [← e, Int.mul_zero]
theorem addTrs_set {ins : List Str} : ∀ {ts : List Trt} {q ls : List Int} {n : Nat} {t : Trt} {a : Int}, (∀ t ∈ ts, TrtOk t) → ts[n]? = some t → q[n]? = some 0 → addTrs ins (ts.zip (q.set n a)) ls = addPan ins (t.pan.zip (alloc a (shs t.pan))) (addTrs ins (ts.zip q) ls)
  | [], _, _, _, _, _, _, h, _ => by simp at h
  | _ :: _, [], _, _, _, _, _, _, h => by simp at h
  | u :: ts, y :: q, ls, 0, t, a, hok, h1, h2 => by
    have e1 : u = t := Option.some.inj h1
    have e2 : y = 0 := Option.some.inj h2
    subst e1 e2
    show addTrs ins (ts.zip q) (addPan ins (u.pan.zip (alloc a (shs u.pan))) ls) = addPan ins (u.pan.zip (alloc a (shs u.pan))) (addTrs ins (ts.zip q) (addPan ins (u.pan.zip (alloc 0 (shs u.pan))) ls))
    rw [addPan_zero (l := u.pan.zip (alloc 0 (shs u.pan))) fun e he => alloz_zero (shs_pos (hok u List.mem_cons_self).p) _ (List.of_mem_zip he).2]
    exact addTrs_addPan
  | u :: ts, y :: q, ls, n + 1, t, a, hok, h1, h2 => by
    show addTrs ins (ts.zip (q.set n a)) (addPan ins (u.pan.zip (alloc y (shs u.pan))) ls) = addPan ins (t.pan.zip (alloc a (shs t.pan))) (addTrs ins (ts.zip q) (addPan ins (u.pan.zip (alloc y (shs u.pan))) ls))
    exact addTrs_set (fun v hv => hok v (List.mem_cons_of_mem _ hv)) h1 h2
theorem addTrs_zero {ins : List Str} : ∀ {ts : List Trt} {ls : List Int}, (∀ t ∈ ts, TrtOk t) → addTrs ins (ts.zip (List.replicate ts.length 0)) ls = ls
  | [], _, _ => rfl
  | u :: ts, ls, hok => by
    show addTrs ins (ts.zip (List.replicate ts.length 0)) (addPan ins (u.pan.zip (alloc 0 (shs u.pan))) ls) = ls
    rw [addPan_zero fun e he => alloz_zero (shs_pos (hok u List.mem_cons_self).p) _ (List.of_mem_zip he).2]
    exact addTrs_zero fun v hv => hok v (List.mem_cons_of_mem _ hv)
theorem putP_get {n : Nat} : ∀ {l : List (Nat × Int)} {ps : List Int}, (∀ p ∈ l, p.1 ≠ n) → (putP ps l)[n]? = ps[n]?
  | [], _, _ => rfl
  | p :: r, ps, h => by
    unfold putP
    rw [putP_get fun q hq => h q (List.mem_cons_of_mem _ hq), List.getElem?_set_ne (h p List.mem_cons_self)]
theorem actv_of {c : Str} : ∀ {ts : List Trt} {n : Nat} {p : Nat × Cov}, p ∈ actv c n ts → ∃ t, ts[p.1 - n]? = some t ∧ t.ced = c ∧ n ≤ p.1
  | [], _, _, h => nomatch h
  | u :: r, n, p, h => by
    unfold actv at h
    split at h
    · rename_i hc
      rcases List.mem_cons.mp h with rfl | h
      · refine ⟨u, by rw [Nat.sub_self]; rfl, ?_, Nat.le_refl _⟩
        rw [Bool.and_eq_true] at hc
        exact of_decide_eq_true hc.1
      · obtain ⟨t, h1, h2, h3⟩ := actv_of h
        refine ⟨t, ?_, h2, by omega⟩
        rw [show p.1 - n = (p.1 - (n + 1)) + 1 by omega]
        exact h1
    · obtain ⟨t, h1, h2, h3⟩ := actv_of h
      refine ⟨t, ?_, h2, by omega⟩
      rw [show p.1 - n = (p.1 - (n + 1)) + 1 by omega]
      exact h1
theorem actv_num {c : Str} {ts : List Trt} {n : Nat} (h : n ∈ (actv c 0 ts).map (·.1)) : ∃ t, ts[n]? = some t ∧ t.ced = c := by
  obtain ⟨p, hp, e⟩ := List.mem_map.mp h
  obtain ⟨t, h1, h2, _⟩ := actv_of hp
  rw [← e]
  exact ⟨t, h1, h2⟩
theorem payP_get {ts : List Trt} {n : Nat} {t : Trt} (ht : ts[n]? = some t) : ∀ {l : List (Str × Int)} {ps : List Int}, (∀ e ∈ l, e.1 ≠ t.ced) → (payP ts l ps)[n]? = ps[n]?
  | [], _, _ => rfl
  | (c, x) :: r, ps, h => by
    unfold payP
    rw [payP_get ht fun e he => h e (List.mem_cons_of_mem _ he), putP_get]
    rintro p hp rfl
    obtain ⟨u, h1, h2⟩ := actv_num (List.of_mem_zip hp).1
    rw [ht] at h1
    cases Option.some.inj h1
    exact h _ List.mem_cons_self h2.symm
theorem sumw_nn : ∀ {xs : List Int}, (∀ y ∈ xs, 0 ≤ y) → 0 ≤ xs.sum
  | [], _ => Int.le_refl _
  | a :: r, h => by
    have h1 := h a List.mem_cons_self
    have h2 := sumw_nn (xs := r) fun y hy => h y (List.mem_cons_of_mem _ hy)
    rw [List.sum_cons]
    omega
theorem memw_le : ∀ {xs : List Int}, (∀ y ∈ xs, 0 ≤ y) → ∀ y ∈ xs, y ≤ xs.sum
  | [], _, y, hy => nomatch hy
  | a :: r, h, y, hy => by
    have h1 := h a List.mem_cons_self
    have h2 := sumw_nn (xs := r) fun y hy => h y (List.mem_cons_of_mem _ hy)
    rw [List.sum_cons]
    rcases List.mem_cons.mp hy with rfl | hy
    · omega
    · have := memw_le (xs := r) (fun y hy => h y (List.mem_cons_of_mem _ hy)) y hy
      omega
theorem prog_top {cs : List Cov} {x : Int} (h : AllOk cs) (hx : 0 ≤ x) : ∀ y ∈ (prog cs x).1, 0 ≤ y ∧ y ≤ x := fun y hy => by
  obtain ⟨h1, h2⟩ := prog_le h hx
  have h3 := prog_sum cs x
  have h4 := memw_le h1 y hy
  exact ⟨h1 y hy, by omega⟩
theorem pairsKw_at {ns : List Nat} {as : List Int} {j : Nat} {p : Key × V} (h : (pairsK ns as)[j]? = some p) : ∃ n a, ns[j]? = some n ∧ as[j]? = some a ∧ p = (.inl (n : Int), .int a) := by
  unfold pairsK at h
  rw [List.getElem?_map] at h
  cases e : (ns.zip as)[j]? with
  | none =>
    rw [e] at h
    cases h
  | some q =>
    rw [e] at h
    obtain ⟨a1, a2⟩ := List.getElem?_zip_eq_some.mp e
    exact ⟨q.1, q.2, a1, a2, (Option.some.inj h).symm⟩
theorem pw_lt {ns : List Nat} (h : ns.Pairwise (· < ·)) {i j a b : Nat} (hi : ns[i]? = some a) (hj : ns[j]? = some b) (hij : i < j) : a < b := by
  obtain ⟨i1, i2⟩ := List.getElem?_eq_some_iff.mp hi
  obtain ⟨j1, j2⟩ := List.getElem?_eq_some_iff.mp hj
  have := List.pairwise_iff_getElem.mp h i j i1 j1 hij
  rw [i2, j2] at this
  exact this
theorem pairsKw_val {ns : List Nat} {as : List Int} (hp : ns.Pairwise (· < ·)) {i n : Nat} {a : Int} (h1 : ns[i]? = some n) (h2 : as[i]? = some a) : valV (pairsK ns as) (.inl (n : Int)) = some (.int a) := by
  refine valV_mem (pairsK_get h1 h2) fun j w hj => ?_
  obtain ⟨n2, a2, g1, g2, e⟩ := pairsKw_at hj
  have e1 := Sum.inl.inj (Prod.mk.inj e).1
  have e2 : n = n2 := by omega
  subst e2
  rcases Nat.lt_trichotomy i j with c | c | c
  · have := pw_lt hp h1 g1 c
    omega
  · exact c.symm
  · have := pw_lt hp g1 h1 c
    omega
def sp_lw_next (K : PySem.W.Frag) (C : Addr) : Sp := fun vs H Q _ => ∃ (m b : Addr) (M : Mkt) (e : Str) (gs : List Int), vs = [.ref m, .str e, .ref b] ∧ MktAt K C H m M ∧ TrsOk M.ins M.trs ∧ e ∈ M.evs ∧ SqT K H b (gs.map V.int) ∧ gs.length = M.ins.length ∧ (∀ x ∈ gs, 0 ≤ x ∧ x ≤ 100000000000) ∧ 1 ≤ M.ins.length ∧
  ∀ (p : Addr) (H' : Hp), Same H H' → H p = none → H' p = some (.tup ((nextG M.ins M.trs (directs M.ins M.los e) gs).map V.int)) → Q (.ref p) H'
theorem row_top {ins : List Str} {ts : List Trt} (hok : TrsOk ins ts) {ds : List Int} (hd : NN ds) {i : Nat} (hb : big (row ins ts ds i) = false) : ∀ j, j ≤ i → ∀ x ∈ row ins ts ds j, 0 ≤ x ∧ x ≤ 1000000000 := fun j hj x hx => by
  refine ⟨(row_le (ins := ins) hok.ok hd j).1 x hx, ?_⟩
  have hle : ∀ k, Le (row ins ts ds j) (row ins ts ds (j + k)) := fun k => by
    induction k with
    | zero => exact Le.refl _
    | succ k ih => exact ih.trans (row_up hok hd (j + k))
  have h1 := hle (i - j)
  rw [show j + (i - j) = i by omega] at h1
  obtain ⟨c, hc⟩ := List.getElem?_of_mem hx
  have hl := h1.len
  have hcl := (List.getElem?_eq_some_iff.mp hc).1
  obtain ⟨y, hy⟩ : ∃ y, (row ins ts ds i)[c]? = some y := ⟨_, List.getElem?_eq_getElem (by omega)⟩
  have h2 := h1.get hc hy
  have h3 := List.any_eq_false.mp hb y (List.mem_of_getElem? hy)
  have h4 : ¬ 1000000000 < y := fun h => h3 (decide_eq_true h)
  omega
def sp_lw_rounds (K : PySem.W.Frag) (C : Addr) : Sp := fun vs H Q _ => ∃ (m : Addr) (M : Mkt) (e : Str) (i : Nat), vs = [.ref m, .str e] ∧ MktAt K C H m M ∧ TrsOk M.ins M.trs ∧ e ∈ M.evs ∧ 1 ≤ M.ins.length ∧ NN (directs M.ins M.los e) ∧
  i ≤ 200 ∧ row M.ins M.trs (directs M.ins M.los e) (i + 1) = row M.ins M.trs (directs M.ins M.los e) i ∧ (∀ j, j < i → row M.ins M.trs (directs M.ins M.los e) (j + 1) ≠ row M.ins M.trs (directs M.ins M.los e) j) ∧ big (row M.ins M.trs (directs M.ins M.los e) i) = false ∧
  ∀ (p : Addr) (ys : List V) (H' : Hp), Same H H' → H p = none → H' p = some (.lst ys) → AllAt (RowR K) H' ys ((List.range (i + 1)).map (row M.ins M.trs (directs M.ins M.los e))) → Q (.ref p) H'
/-! ### literals: what an expression gives in any heap behind H0, and what stays known of it -/
def Yl (σ : L2.St) (te : TE) (H0 : Hp) (P : Hp → V → Prop) : Prop := ∀ (H : Hp) (Q : VK), Same H0 H → (∀ v H', Same H H' → (∀ H2, Same H' H2 → P H2 v) → Q v H') → te σ H Q
def Ya (σ : L2.St) (t : TA) (H0 : Hp) (P : Hp → List V → Prop) : Prop := ∀ (H : Hp) (Q : List V → Hp → Prop), Same H0 H → (∀ v H', Same H H' → (∀ H2, Same H' H2 → P H2 v) → Q v H') → t σ H Q
section
variable {K : PySem.W.Frag} {σ : L2.St} {H0 : Hp} {te : TE} {t : TA} {P : Hp → V → Prop} {R : Hp → List V → Prop}
theorem yl_c {v : V} : Yl σ (tC v) H0 (fun _ x => x = v) := fun H Q _ q => q v H (Same.refl H) fun _ _ => rfl
theorem yl_var {i : Nat} {v : V} (h : σ[i]? = some (some v)) (hP : ∀ H, Same H0 H → P H v) : Yl σ (tVar i) H0 P := fun H Q s q => ⟨v, h, q v H (Same.refl H) fun H2 s2 => hP H2 (s.trans s2)⟩
theorem ya_nil : Ya σ tNil H0 (fun _ x => x = []) := fun H Q _ q => q [] H (Same.refl H) fun _ _ => rfl
theorem ya_cons (h : Yl σ te H0 P) (r : Ya σ t H0 R) : Ya σ (tCons te t) H0 (fun H vs => ∃ x xs, vs = x :: xs ∧ P H x ∧ R H xs) := fun H Q s q =>
  h H _ s fun v H1 s1 p1 => r H1 _ (s.trans s1) fun vs H2 s2 p2 => q (v :: vs) H2 (s1.trans s2) fun H3 s3 => ⟨v, vs, rfl, p1 H3 (s2.trans s3), p2 H3 s3⟩
theorem yl_tup (h : Ya σ t H0 R) (hz : ∀ H vs, R H vs → vs.length ≤ 100000) : Yl σ (tTup t) H0 (fun H v => ∃ p xs, v = .ref p ∧ H p = some (.tup xs) ∧ R H xs) := fun H Q s q =>
  h H _ s fun xs H1 s1 p1 => ⟨sz (hz H1 xs (p1 H1 (Same.refl _))), fun p np => q (.ref p) _ (s1.trans (same_new np)) fun H3 s3 => ⟨p, xs, rfl, s3 _ _ upd_same, p1 H3 ((same_new np).trans s3)⟩⟩
theorem yl_lst (h : Ya σ t H0 R) (hz : ∀ H vs, R H vs → vs.length ≤ 100000) : Yl σ (tLst t) H0 (fun H v => ∃ p xs, v = .ref p ∧ H p = some (.lst xs) ∧ R H xs) := fun H Q s q =>
  h H _ s fun xs H1 s1 p1 => ⟨sz (hz H1 xs (p1 H1 (Same.refl _))), fun p np => q (.ref p) _ (s1.trans (same_new np)) fun H3 s3 => ⟨p, xs, rfl, s3 _ _ upd_same, p1 H3 ((same_new np).trans s3)⟩⟩
/-! written data -/
theorem yd_int {i : Int} : Yl σ (tC (.int i)) H0 (fun H x => Dp K H x (.int i)) := fun H Q _ q => q _ H (Same.refl H) fun _ _ => .int i
theorem yd_str {i : Str} : Yl σ (tC (.str i)) H0 (fun H x => Dp K H x (.str i)) := fun H Q _ q => q _ H (Same.refl H) fun _ _ => .str i
theorem yd_non : Yl σ (tC .non) H0 (fun H x => Dp K H x .none) := fun H Q _ q => q _ H (Same.refl H) fun _ _ => .non
theorem yda_nil : Ya σ tNil H0 (fun H x => DpAll K H x []) := fun H Q _ q => q [] H (Same.refl H) fun _ _ => .nil
theorem yda_cons {d : PyData} {ds : List PyData} (h : Yl σ te H0 (fun H x => Dp K H x d)) (r : Ya σ t H0 (fun H x => DpAll K H x ds)) : Ya σ (tCons te t) H0 (fun H vs => DpAll K H vs (d :: ds)) := fun H Q s q =>
  h H _ s fun v H1 s1 p1 => r H1 _ (s.trans s1) fun vs H2 s2 p2 => q (v :: vs) H2 (s1.trans s2) fun H3 s3 => .cons (p1 H3 (s2.trans s3)) (p2 H3 s3)
theorem yd_tup {ds : List PyData} (h : Ya σ t H0 (fun H x => DpAll K H x ds)) (hz : ds.length ≤ 100000) : Yl σ (tTup t) H0 (fun H v => Dp K H v (.tuple ds)) := fun H Q s q =>
  h H _ s fun xs H1 s1 p1 => ⟨sz (by rw [DpAll.len (p1 H1 (Same.refl _))]; exact hz), fun p np => q (.ref p) _ (s1.trans (same_new np)) fun H3 s3 => .tup (SqT.of (s3 _ _ upd_same)) (p1 H3 ((same_new np).trans s3))⟩
theorem yd_lst {ds : List PyData} (h : Ya σ t H0 (fun H x => DpAll K H x ds)) (hz : ds.length ≤ 100000) : Yl σ (tLst t) H0 (fun H v => ∃ p xs, v = .ref p ∧ H p = some (.lst xs) ∧ DpAll K H xs ds) := fun H Q s q =>
  h H _ s fun xs H1 s1 p1 => ⟨sz (by rw [DpAll.len (p1 H1 (Same.refl _))]; exact hz), fun p np => q (.ref p) _ (s1.trans (same_new np)) fun H3 s3 => ⟨p, xs, rfl, s3 _ _ upd_same, p1 H3 ((same_new np).trans s3)⟩⟩
theorem yd_lst' {ds : List PyData} (h : Ya σ t H0 (fun H x => DpAll K H x ds)) (hz : ds.length ≤ 100000) : Yl σ (tLst t) H0 (fun H v => Dp K H v (.list ds)) := fun H Q s q =>
  h H _ s fun xs H1 s1 p1 => ⟨sz (by rw [DpAll.len (p1 H1 (Same.refl _))]; exact hz), fun p np => q (.ref p) _ (s1.trans (same_new np)) fun H3 s3 => .lst (SqL.of (s3 _ _ upd_same)) (p1 H3 ((same_new np).trans s3))⟩
end
mutual
theorem Dp.to {K : PySem.W.Frag} {H H' : Hp} (e : Same H H') : ∀ {v : V} {d : PyData}, Dp K H v d → Dp K H' v d
  | _, _, .non => .non
  | _, _, .bl b => .bl b
  | _, _, .int i => .int i
  | _, _, .str z => .str z
  | _, _, .lst h a => .lst (e.seq h) (DpAll.to e a)
  | _, _, .tup h a => .tup (same_sqt e h) (DpAll.to e a)
theorem DpAll.to {K : PySem.W.Frag} {H H' : Hp} (e : Same H H') : ∀ {vs : List V} {ds : List PyData}, DpAll K H vs ds → DpAll K H' vs ds
  | _, _, .nil => .nil
  | _, _, .cons a b => .cons (Dp.to e a) (DpAll.to e b)
end
theorem DpAll.at {K : PySem.W.Frag} {H : Hp} : ∀ {xs : List V} {ds : List PyData} {i : Nat} {x : V}, DpAll K H xs ds → xs[i]? = some x → ∃ d, ds[i]? = some d ∧ Dp K H x d
  | _, _, _, _, .nil, h => by simp at h
  | _, _, 0, _, .cons r _, h => by
    have e := Option.some.inj h
    subst e
    exact ⟨_, rfl, r⟩
  | _, _, i + 1, _, .cons _ t, h => DpAll.at (i := i) t h
/-- an item at an index within the bounds -/
theorem pick_w {xs : List V} {P : V → Prop} {z : Int} (h0 : 0 ≤ z) (h1 : z < (xs.length : Int)) (h : ∀ x ∈ xs, P x) : ∃ v, atI xs z = some v ∧ P v := by
  obtain ⟨n, rfl⟩ : ∃ n : Nat, z = (n : Int) := ⟨z.toNat, by omega⟩
  have hn : n < xs.length := by omega
  exact ⟨xs[n], atI_nat (List.getElem?_eq_getElem hn), h _ (List.getElem_mem hn)⟩
theorem DpAll.mem {K : PySem.W.Frag} {H : Hp} {xs : List V} {ds : List PyData} (h : DpAll K H xs ds) {p : PyData → Bool} (hp : ds.all p = true) : ∀ x ∈ xs, ∃ d, p d = true ∧ Dp K H x d := fun x hx => by
  obtain ⟨i, hi⟩ := List.mem_iff_getElem?.mp hx
  obtain ⟨d, hd, hD⟩ := DpAll.at h hi
  exact ⟨d, List.all_eq_true.mp hp d (List.mem_of_getElem? hd), hD⟩
def sp_explain_unit (K : PySem.W.Frag) (C CN : Addr) : Sp := fun vs H Q E => ∃ (m : Addr) (M : Mkt) (e z : Str) (k : Nat) (d : Int), vs = [.ref m, .str e, .str z] ∧ MktAt K C H m M ∧ TrsOk M.ins M.trs ∧ e ∈ M.evs ∧ M.ins[k]? = some z ∧ (directs M.ins M.los e)[k]? = some d ∧
  ((fate M.ins M.trs ((directs M.ins M.los e).set k (d + 1)) false ∧ ∀ H', Same H H' → E (.ref CN) none H') ∨
    (fate M.ins M.trs ((directs M.ins M.los e).set k (d + 1)) true ∧ ∃ (i : Nat) (L : List (Str × Nat)) (en : Str ⊕ Nat), i ≤ 200 ∧ row M.ins M.trs (directs M.ins M.los e) (i + 1) = row M.ins M.trs (directs M.ins M.los e) i ∧ (∀ j, j < i → row M.ins M.trs (directs M.ins M.los e) (j + 1) ≠ row M.ins M.trs (directs M.ins M.los e) j) ∧ big (row M.ins M.trs (directs M.ins M.los e) i) = false ∧
      Way M.ins M.trs (row M.ins M.trs (directs M.ins M.los e) i) z L en ∧ L.length ≤ 1000 ∧
      ∀ p t f ps H', Same H H' → H' p = some (.tup [.str "unit", .ref t, .ref f]) → H' t = some (.tup ps) → AllAt (PassR K) H' ps L → H' f = some (.tup (endV en)) → Q (.ref p) H'))
/-! ### papers, as data -/
def dBtw : PyData → Int → Int → Bool
  | .int i, lo, hi => decide (lo ≤ i) && decide (i ≤ hi)
  | _, _, _ => false
def dTup : PyData → Bool
  | .tuple _ => true
  | _ => false
def dStr : PyData → Bool
  | .str _ => true
  | _ => false
def dInt : PyData → Bool
  | .int _ => true
  | .bool _ => true
  | _ => false
/-- data of few and short things -/
def gd : Nat → PyData → Bool
  | 0, _ => false
  | _ + 1, .none => true
  | _ + 1, .int _ => true
  | _ + 1, .str s => PyData.strOk s
  | n + 1, .list ds => decide (ds.length ≤ 5000) && ds.all (gd n)
  | n + 1, .tuple ds => decide (ds.length ≤ 5000) && ds.all (gd n)
  | _ + 1, _ => false
def isLs (d : PyData) : Bool := dBtw d 0 1000000000
def isSt (n : Nat) : PyData → Bool
  | .tuple ds => decide (ds.length = n) && ds.all isLs
  | _ => false
def iOf : PyData → Int
  | .int i => i
  | _ => 0
def gsOf : PyData → List Int
  | .tuple ds => ds.map iOf
  | _ => []
section
variable {K : PySem.W.Frag} {H H' : Hp} {x : V} {d : PyData}
theorem dp_num (h : Dp K H x d) : NumV K H x ∧ ∀ lo hi, btw x lo hi = dBtw d lo hi := by
  cases h with
  | non => exact ⟨ty_flat rfl, fun _ _ => rfl⟩
  | bl b => exact ⟨ty_flat rfl, fun _ _ => rfl⟩
  | int i => exact ⟨ty_flat rfl, fun _ _ => rfl⟩
  | str s => exact ⟨ty_flat rfl, fun _ _ => rfl⟩
  | lst h _ => exact ⟨⟨"list", tyx_lst h, .inr (.inr ⟨.inr (.inr (.inr (.inl rfl))), fun _ _ => rfl⟩)⟩, fun _ _ => rfl⟩
  | tup h _ => exact ⟨⟨"tuple", tyx_tup h, .inr (.inr ⟨.inr (.inr (.inl rfl)), fun _ _ => rfl⟩)⟩, fun _ _ => rfl⟩
theorem dp_cls (h : Dp K H x d) : ∃ t, TyX K H x t ∧ PySem.W.kitOne K t (.type "tuple") = some (dTup d) ∧ PySem.W.kitOne K t (.type "str") = some (dStr d) ∧ PySem.W.kitOne K t (.type "int") = some (dInt d) := by
  cases h with
  | non => exact ⟨_, .base .non, kit_ty (r := false) (by decide +kernel), kit_ty (r := false) (by decide +kernel), kit_ty (r := false) (by decide +kernel)⟩
  | bl b => exact ⟨_, .base (.bl b), kit_ty (r := false) (by decide +kernel), kit_ty (r := false) (by decide +kernel), kit_ty (r := true) (by decide +kernel)⟩
  | int i => exact ⟨_, .base (.int i), kit_ty (r := false) (by decide +kernel), kit_ty (r := false) (by decide +kernel), kit_ty (r := true) (by decide +kernel)⟩
  | str s => exact ⟨_, .base (.str s), kit_ty (r := false) (by decide +kernel), kit_ty (r := true) (by decide +kernel), kit_ty (r := false) (by decide +kernel)⟩
  | lst h _ => exact ⟨_, tyx_lst h, kit_ty (r := false) (by decide +kernel), kit_ty (r := false) (by decide +kernel), kit_ty (r := false) (by decide +kernel)⟩
  | tup h _ => exact ⟨_, tyx_tup h, kit_ty (r := true) (by decide +kernel), kit_ty (r := false) (by decide +kernel), kit_ty (r := false) (by decide +kernel)⟩
theorem dp_tupI (h : Dp K H x d) (ht : dTup d = true) : ∃ (a : Addr) (xs : List V) (ds : List PyData), x = .ref a ∧ d = .tuple ds ∧ SqT K H a xs ∧ DpAll K H xs ds := by
  cases h with
  | tup h a => exact ⟨_, _, _, rfl, rfl, h, a⟩
  | non => cases ht
  | bl b => cases ht
  | int i => cases ht
  | str s => cases ht
  | lst h _ => cases ht
theorem dp_strI (h : Dp K H x d) (ht : dStr d = true) : ∃ z, x = .str z ∧ d = .str z := by
  cases h with
  | str s => exact ⟨_, rfl, rfl⟩
  | non => cases ht
  | bl b => cases ht
  | int i => cases ht
  | lst h _ => cases ht
  | tup h _ => cases ht
/-- data, or an empty dict -/
def DpX (K : PySem.W.Frag) (H : Hp) (x : V) (d : PyData) : Prop := Dp K H x d ∨ (d = .dict [] ∧ (∃ a, x = .ref a) ∧ TyX K H x (.type "dict"))
theorem DpX.to (e : Same H H') (h : DpX K H x d) : DpX K H' x d := h.imp (Dp.to e) fun h => ⟨h.1, h.2.1, tyx_same' e h.2.2⟩
theorem dpx_cls (h : DpX K H x d) : ∃ t, TyX K H x t ∧ PySem.W.kitOne K t (.type "tuple") = some (dTup d) ∧ PySem.W.kitOne K t (.type "str") = some (dStr d) := by
  rcases h with h | ⟨rfl, _, ty⟩
  · obtain ⟨t, h1, h2, h3, _⟩ := dp_cls h
    exact ⟨t, h1, h2, h3⟩
  · exact ⟨_, ty, kit_ty (r := false) (by decide +kernel), kit_ty (r := false) (by decide +kernel)⟩
theorem dpx_dp (h : DpX K H x d) (ht : dTup d = true) : Dp K H x d := by
  rcases h with h | ⟨rfl, _⟩
  · exact h
  · cases ht
end
theorem isSt_no {n : Nat} {d : PyData} (h : dTup d = false) : isSt n d = false := by
  cases d with
  | tuple ds => cases h
  | _ => rfl
theorem isLs_is {d : PyData} (h : isLs d = true) : d = .int (iOf d) ∧ 0 ≤ iOf d ∧ iOf d ≤ 1000000000 := by
  cases d with
  | int i =>
    have h : (decide (0 ≤ i) && decide (i ≤ 1000000000)) = true := h
    rw [Bool.and_eq_true] at h
    exact ⟨rfl, of_decide_eq_true h.1, of_decide_eq_true h.2⟩
  | _ => cases h
theorem isSt_is {n : Nat} {d : PyData} (h : isSt n d = true) : d = .tuple ((gsOf d).map PyData.int) ∧ (gsOf d).length = n ∧ ∀ x ∈ gsOf d, 0 ≤ x ∧ x ≤ 1000000000 := by
  cases d with
  | tuple ds =>
    have h : (decide (ds.length = n) && ds.all isLs) = true := h
    rw [Bool.and_eq_true, List.all_eq_true] at h
    refine ⟨?_, by show (ds.map iOf).length = n; rw [List.length_map]; exact of_decide_eq_true h.1, fun x hx => ?_⟩
    · show PyData.tuple ds = .tuple ((ds.map iOf).map PyData.int)
      congr 1
      rw [List.map_map]
      have e : ds.map id = ds.map (PyData.int ∘ iOf) := List.map_congr_left fun y hy => (isLs_is (h.2 y hy)).1
      rw [List.map_id] at e
      exact e
    · obtain ⟨y, hy, rfl⟩ := List.mem_map.mp hx
      exact (isLs_is (h.2 y hy)).2
  | _ => cases h
theorem isSt_ints {gs : List Int} {n : Nat} (hl : gs.length = n) (hb : ∀ x ∈ gs, 0 ≤ x ∧ x ≤ 1000000000) : isSt n (.tuple (gs.map PyData.int)) = true := by
  show (decide ((gs.map PyData.int).length = n) && (gs.map PyData.int).all isLs) = true
  rw [List.length_map, decide_eq_true hl, List.all_map, Bool.true_and, List.all_eq_true]
  intro x hx
  obtain ⟨h1, h2⟩ := hb x hx
  show (decide (0 ≤ x) && decide (x ≤ 1000000000)) = true
  rw [decide_eq_true h1, decide_eq_true h2]
  rfl
theorem gsOf_ints (gs : List Int) : gsOf (.tuple (gs.map PyData.int)) = gs := by
  show (gs.map PyData.int).map iOf = gs
  rw [List.map_map]
  exact List.map_id gs
theorem gd_len {n : Nat} {ds : List PyData} (h : gd n (.tuple ds) = true) : ds.length ≤ 5000 ∧ ∃ m, n = m + 1 ∧ ∀ d ∈ ds, gd m d = true := by
  cases n with
  | zero => cases h
  | succ n =>
    have h : (decide (ds.length ≤ 5000) && ds.all (gd n)) = true := h
    rw [Bool.and_eq_true, List.all_eq_true] at h
    exact ⟨of_decide_eq_true h.1, n, rfl, h.2⟩
/-- the values of a tuple of ints -/
theorem dpAll_ints {K : PySem.W.Frag} {H : Hp} : ∀ {xs : List V} {ns : List Int}, DpAll K H xs (ns.map PyData.int) → xs = ns.map V.int
  | _, [], .nil => rfl
  | _, n :: r, .cons (.int _) t => by rw [dpAll_ints t]; rfl
def sp_is_state (K : PySem.W.Frag) (C : Addr) : Sp := fun vs H Q _ => ∃ (m : Addr) (M : Mkt) (x : V) (d : PyData) (n : Nat), vs = [.ref m, x] ∧ MktAt K C H m M ∧ DpX K H x d ∧ (dTup d = true → gd n d = true) ∧ ∀ H', Same H H' → Q (.bl (isSt M.ins.length d)) H'
theorem slA_gen {K : PySem.W.Frag} {H : Hp} {t : Addr} {xs : List V} {lo hi : Option Int} {Q : VK} (hS : SqT K H t xs) (q : ∀ (A : Addr) (H' : Hp), Same H H' → SqT K H' A (cutV xs lo hi) → Q (.ref A) H') : rSlA K (.ref t) lo hi H Q := by
  refine ⟨t, xs, rfl, hS, fun hw => q t H (Same.refl _) ?_, fun _ p np => q p _ (same_new np) (SqT.of upd_same)⟩
  have e : cutV xs lo hi = xs := by
    unfold cutV
    rw [hw.1, hw.2]
    simp
  rw [e]
  exact hS
theorem DpAll.drop {K : PySem.W.Frag} {H : Hp} : ∀ {xs : List V} {ds : List PyData} (n : Nat), DpAll K H xs ds → DpAll K H (xs.drop n) (ds.drop n)
  | _, _, 0, h => h
  | _, _, _ + 1, .nil => .nil
  | _, _, n + 1, .cons _ t => DpAll.drop n t
theorem DpAll.take {K : PySem.W.Frag} {H : Hp} : ∀ {xs : List V} {ds : List PyData} (n : Nat), DpAll K H xs ds → DpAll K H (xs.take n) (ds.take n)
  | _, _, 0, _ => .nil
  | _, _, _ + 1, .nil => .nil
  | _, _, n + 1, .cons a t => .cons a (DpAll.take n t)
theorem DpAll.app {K : PySem.W.Frag} {H : Hp} : ∀ {xs ys : List V} {ds es : List PyData}, DpAll K H xs ds → DpAll K H ys es → DpAll K H (xs ++ ys) (ds ++ es)
  | _, _, _, _, .nil, h => h
  | _, _, _, _, .cons a t, h => .cons a (DpAll.app t h)
theorem eqvAll_rows : ∀ as bs : List (List Int), PyData.eqvAll (as.map rwD) (bs.map rwD) = decide (as = bs)
  | [], [] => rfl
  | [], _ :: _ => rfl
  | _ :: _, [] => rfl
  | a :: as, b :: bs => by
    show (PyData.eqv (rwD a) (rwD b) && PyData.eqvAll (as.map rwD) (bs.map rwD)) = _
    rw [eqvAll_rows as bs, show PyData.eqv (rwD a) (rwD b) = decide (a = b) from eqv_tup a b]
    by_cases h1 : a = b
    · by_cases h2 : as = bs
      · rw [decide_eq_true h1, decide_eq_true h2, decide_eq_true (by rw [h1, h2])]
        rfl
      · rw [decide_eq_true h1, decide_eq_false h2, decide_eq_false (fun e => h2 (List.cons.inj e).2)]
        rfl
    · rw [decide_eq_false h1, decide_eq_false (fun e => h1 (List.cons.inj e).1)]
      rfl
theorem eqv_rows (as bs : List (List Int)) : PyData.eqv (.tuple (as.map rwD)) (.tuple (bs.map rwD)) = decide (as = bs) := eqvAll_rows as bs
theorem lay_rows : ∀ rs : List (List Int), PyData.canLayAll0 (rs.map rwD) = true
  | [] => rfl
  | r :: rs => by
    show (PyData.canLay0 (rwD r) && PyData.canLayAll0 (rs.map rwD)) = true
    rw [lay_rows rs, Bool.and_true]
    exact lay_ints r
theorem dep_rows : ∀ rs : List (List Int), PyData.depthAll (rs.map rwD) ≤ 1
  | [] => by simp [PyData.depthAll]
  | r :: rs => by
    have h := dep_rows rs
    have h2 : PyData.depth (rwD r) = 1 := by
      show PyData.depth (.tuple (r.map PyData.int)) = 1
      simp only [PyData.depth]
      rw [dep_ints]
    simp only [List.map_cons, PyData.depthAll]
    omega
theorem shp_rows (rs : List (List Int)) : SeqAt.shaped (.tuple (rs.map rwD)) = true := by
  have h := dep_rows rs
  show (PyData.canLay0 (.tuple (rs.map rwD)) && decide (PyData.depth (.tuple (rs.map rwD)) ≤ 64)) = true
  rw [Bool.and_eq_true]
  refine ⟨?_, decide_eq_true ?_⟩
  · simp only [PyData.canLay0]
    exact lay_rows rs
  · simp only [PyData.depth]
    omega
def jRounds (M : Mkt) (e : Str) (gs : List Int) : PyData → Bool
  | .tuple rs => (decide (rs.length ≠ 0) && rs.all (isSt M.ins.length)) && ((decide ((rs.map gsOf).head? = some (directs M.ins M.los e)) && decide ((rs.map gsOf).getLast? = some gs)) && decide ((rs.map gsOf).drop 1 ++ [gs] = (rs.map gsOf).map (nextG M.ins M.trs (directs M.ins M.los e))))
  | _ => false
def jLower (M : Mkt) (e : Str) (gs : List Int) (d : PyData) : Bool :=
  isSt M.ins.length d && (!((gsOf d).zip (nextG M.ins M.trs (directs M.ins M.los e) (gsOf d))).any (fun p => decide (p.1 < p.2)) && ((gsOf d).zip gs).any fun p => decide (p.1 < p.2))
def jOpen (M : Mkt) (e : Str) (gs : List Int) : PyData → Bool
  | .str z => (M.ins.zip (gs.zip (nextG M.ins M.trs (directs M.ins M.los e) gs))).any fun p => decide (p.1 = z) && decide (p.2.1 < p.2.2)
  | _ => false
def jl (M : Mkt) (e : Str) (s p : PyData) : Bool := isSt M.ins.length s && match p with
  | .tuple [.str w, t] => if w = "rounds" then jRounds M e (gsOf s) t else if w = "lower" then jLower M e (gsOf s) t else decide (w = "open") && jOpen M e (gsOf s) t
  | _ => false
def sp_shows (K : PySem.W.Frag) (C : Addr) (j : Mkt → Str → List Int → PyData → Bool) : Sp := fun vs H Q _ => ∃ (m b : Addr) (M : Mkt) (e : Str) (gs : List Int) (x : V) (d : PyData) (n : Nat), vs = [.ref m, .str e, .ref b, x] ∧ MktAt K C H m M ∧ TrsOk M.ins M.trs ∧ e ∈ M.evs ∧ 1 ≤ M.ins.length ∧ SqT K H b (gs.map V.int) ∧ gs.length = M.ins.length ∧
  DpX K H x d ∧ (dTup d = true → gd n d = true) ∧ ∀ H', Same H H' → Q (.bl (j M e gs d)) H'
/-- the pairs of two lists of ints, compared -/
theorem zip_bl {xs ys : List Int} {f : Int × Int → Bool} {i : Nat} {x y : Int} (hx : xs[i]? = some x) (hy : ys[i]? = some y) : (((xs.zip ys).map f).map V.bl)[i]? = some (.bl (f (x, y))) := by
  rw [List.getElem?_map, List.getElem?_map, (List.getElem?_zip_eq_some (z := (x, y))).mpr ⟨hx, hy⟩]
  rfl
theorem open_is {M : Mkt} (hn : M.ins.Nodup) {e : Str} {gs : List Int} {z : Str} {k : Nat} {g u : Int} (hk : M.ins[k]? = some z) (hg : gs[k]? = some g) (hu : (nextG M.ins M.trs (directs M.ins M.los e) gs)[k]? = some u) : jOpen M e gs (.str z) = decide (g < u) := by
  show ((M.ins.zip (gs.zip (nextG M.ins M.trs (directs M.ins M.los e) gs))).any fun p => decide (p.1 = z) && decide (p.2.1 < p.2.2)) = _
  have hz : (M.ins.zip (gs.zip (nextG M.ins M.trs (directs M.ins M.los e) gs)))[k]? = some (z, g, u) := by
    rw [List.getElem?_zip_eq_some]
    exact ⟨hk, List.getElem?_zip_eq_some.mpr ⟨hg, hu⟩⟩
  by_cases c : g < u
  · rw [decide_eq_true c, List.any_eq_true]
    refine ⟨_, List.mem_of_getElem? hz, ?_⟩
    show (decide (z = z) && decide (g < u)) = true
    rw [decide_eq_true rfl, decide_eq_true c]
    rfl
  · rw [decide_eq_false c, List.any_eq_false]
    intro p hp hq
    rw [Bool.and_eq_true] at hq
    obtain ⟨j, hj⟩ := List.getElem?_of_mem hp
    obtain ⟨a1, a2⟩ := List.getElem?_zip_eq_some.mp hj
    obtain ⟨a3, a4⟩ := List.getElem?_zip_eq_some.mp a2
    have e1 : p.1 = z := of_decide_eq_true hq.1
    rw [e1] at a1
    have := nd_at hn a1 hk
    subst this
    rw [hg] at a3
    rw [hu] at a4
    have h3 := Option.some.inj a3
    have h4 := Option.some.inj a4
    have h5 := of_decide_eq_true hq.2
    omega
theorem open_no {M : Mkt} {e : Str} {gs : List Int} {z : Str} (h : z ∉ M.ins) : jOpen M e gs (.str z) = false := by
  show ((M.ins.zip (gs.zip (nextG M.ins M.trs (directs M.ins M.los e) gs))).any fun p => decide (p.1 = z) && decide (p.2.1 < p.2.2)) = _
  rw [List.any_eq_false]
  intro p hp hq
  rw [Bool.and_eq_true] at hq
  exact h (by rw [← of_decide_eq_true hq.1]; exact (List.of_mem_zip hp).1)
def sp_judge_least (K : PySem.W.Frag) (C CS : Addr) : Sp := fun vs H Q E => ∃ (m : Addr) (M : Mkt) (e : Str) (x y : V) (sd pd : PyData) (n : Nat), vs = [.ref m, .str e, x, y] ∧ MktAt K C H m M ∧ TrsOk M.ins M.trs ∧ 1 ≤ M.ins.length ∧
  DpX K H x sd ∧ (dTup sd = true → gd n sd = true) ∧ DpX K H y pd ∧ (dTup pd = true → gd n pd = true) ∧
  ((e ∉ M.evs ∧ ∀ d H', Same H H' → H' d = some (.xd [("name", .str e)]) → E (.ref CS) (some d) H') ∨ (e ∈ M.evs ∧ ∀ H', Same H H' → Q (.bl (jl M e sd pd)) H'))
theorem jl_st {M : Mkt} {e : Str} {s p : PyData} (h : isSt M.ins.length s = false) : jl M e s p = false := by
  unfold jl
  rw [h]
  rfl
theorem jl_tup {M : Mkt} {e : Str} {s p : PyData} (h : dTup p = false) : jl M e s p = false := by
  unfold jl
  cases p with
  | tuple ds => cases h
  | _ => rw [Bool.and_false]
theorem jl_len {M : Mkt} {e : Str} {s : PyData} {ds : List PyData} (h : ds.length ≠ 2) : jl M e s (.tuple ds) = false := by
  unfold jl
  match ds, h with
  | [], _ => rw [Bool.and_false]
  | [_], _ => cases ‹PyData› <;> rw [Bool.and_false]
  | [_, _], h => exact absurd rfl h
  | a :: _ :: _ :: _, _ => cases a <;> rw [Bool.and_false]
theorem jl_str {M : Mkt} {e : Str} {s w t : PyData} (h : dStr w = false) : jl M e s (.tuple [w, t]) = false := by
  unfold jl
  cases w with
  | str z => cases h
  | _ => rw [Bool.and_false]
theorem jl_is {M : Mkt} {e : Str} {s t : PyData} {w : Str} (h : isSt M.ins.length s = true) : jl M e s (.tuple [.str w, t]) = if w = "rounds" then jRounds M e (gsOf s) t else if w = "lower" then jLower M e (gsOf s) t else decide (w = "open") && jOpen M e (gsOf s) t := by
  unfold jl
  rw [h, Bool.true_and]
/-- a paper on one unit more, as data: texts, ints and tuples of these -/
def wOk : Nat → PyData → Bool
  | 0, _ => false
  | _ + 1, .int _ => true
  | _ + 1, .str _ => true
  | n + 1, .tuple ds => decide (ds.length ≤ 5000) && ds.all (wOk n)
  | _ + 1, _ => false
/-- no bool in it -/
def noB : Nat → PyData → Bool
  | 0, _ => false
  | _ + 1, .bool _ => false
  | n + 1, .tuple ds => ds.all (noB n)
  | _ + 1, _ => true
def sp_is_same (K : PySem.W.Frag) (n : Nat) : Sp := fun vs H Q _ => ∃ (x y : V) (d w : PyData), vs = [x, y] ∧ DpX K H x d ∧ noB n d = true ∧ Dp K H y w ∧ wOk n w = true ∧ ∀ H', Same H H' → Q (.bl (PyData.eqv d w)) H'
theorem eqv_tlen : ∀ {ds ws : List PyData}, ds.length ≠ ws.length → PyData.eqvAll ds ws = false
  | [], [], h => absurd rfl h
  | [], _ :: _, _ => rfl
  | _ :: _, [], _ => rfl
  | d :: ds, w :: ws, h => by
    show (PyData.eqv d w && PyData.eqvAll ds ws) = false
    rw [eqv_tlen (ds := ds) (ws := ws) (fun e => h (congrArg Nat.succ e)), Bool.and_false]
theorem eqv_tall : ∀ {ds ws : List PyData}, ds.length = ws.length → PyData.eqvAll ds ws = ((ds.zip ws).map fun p => PyData.eqv p.1 p.2).all id
  | [], [], _ => rfl
  | [], _ :: _, h => by cases h
  | _ :: _, [], h => by cases h
  | d :: ds, w :: ws, h => by
    show (PyData.eqv d w && PyData.eqvAll ds ws) = (PyData.eqv d w && ((ds.zip ws).map fun p => PyData.eqv p.1 p.2).all id)
    rw [eqv_tall (Nat.succ.inj h)]
theorem eqv_noT {d : PyData} {ws : List PyData} (h : dTup d = false) : PyData.eqv d (.tuple ws) = false := by
  cases d with
  | tuple ds => cases h
  | _ => rfl
theorem eqv_noS {d : PyData} {z : Str} (h : dStr d = false) : PyData.eqv d (.str z) = false := by
  cases d with
  | str ds => cases h
  | _ => rfl
theorem eqv_int {n : Nat} {d : PyData} {i : Int} (h : noB n d = true) : PyData.eqv d (.int i) = dBtw d i i := by
  cases n with
  | zero => cases h
  | succ n =>
    cases d with
    | bool b => cases h
    | int j =>
      show (j == i) = (decide (i ≤ j) && decide (j ≤ i))
      by_cases c : j = i
      · subst c
        rw [beq_self_eq_true, decide_eq_true (Int.le_refl _)]
        rfl
      · rw [beq_eq_false_iff_ne.mpr c]
        by_cases c2 : i ≤ j
        · rw [decide_eq_true c2, decide_eq_false (by omega)]
          rfl
        · rw [decide_eq_false c2]
          rfl
    | _ => rfl
theorem dpx_num {K : PySem.W.Frag} {H : Hp} {x : V} {d : PyData} (h : DpX K H x d) : NumV K H x ∧ ∀ lo hi, btw x lo hi = dBtw d lo hi := by
  rcases h with h | ⟨rfl, ⟨a, rfl⟩, ty⟩
  · exact dp_num h
  · exact ⟨⟨"dict", ty, .inr (.inr ⟨.inr (.inr (.inr (.inr rfl))), fun _ _ => rfl⟩)⟩, fun _ _ => rfl⟩
def unitD (L : List (Str × Nat)) (en : Str ⊕ Nat) : PyData := .tuple [.str "unit", .tuple (L.map passD), endD en]
theorem wOk_unit {L : List (Str × Nat)} {en : Str ⊕ Nat} (h : L.length ≤ 5000) : wOk 6 (unitD L en) = true := by
  have h1 : wOk 5 (.tuple (L.map passD)) = true := by
    show (decide ((L.map passD).length ≤ 5000) && (L.map passD).all (wOk 4)) = true
    rw [List.length_map, decide_eq_true h, List.all_map, Bool.true_and, List.all_eq_true]
    intro x _
    rfl
  have h2 : wOk 5 (endD en) = true := by
    cases en <;> rfl
  show (decide (3 ≤ 5000) && (wOk 5 (.str "unit") && (wOk 5 (.tuple (L.map passD)) && (wOk 5 (endD en) && true)))) = true
  rw [h1, h2]
  rfl
theorem dp_unit {K : PySem.W.Frag} {H : Hp} {p t f : Addr} {ps : List V} {L : List (Str × Nat)} {en : Str ⊕ Nat} (h1 : SqT K H p [.str "unit", .ref t, .ref f]) (h2 : SqT K H t ps) (h3 : AllAt (PassR K) H ps L) (h4 : SqT K H f (endV en)) : Dp K H (.ref p) (unitD L en) :=
  .tup h1 (.cons (.str _) (.cons (.tup h2 (dp_all (R := PassR K) (fun _ _ r => dp_pass r) h3.1 h3.2)) (.cons (dp_end h4) .nil)))
def sp_judge_unit (K : PySem.W.Frag) (C : Addr) : Sp := fun vs H Q _ => ∃ (m : Addr) (M : Mkt) (e z : Str) (k : Nat) (d : Int) (x : V) (pd : PyData), vs = [.ref m, .str e, .str z, x] ∧ MktAt K C H m M ∧ TrsOk M.ins M.trs ∧ e ∈ M.evs ∧ M.ins[k]? = some z ∧ (directs M.ins M.los e)[k]? = some d ∧ DpX K H x pd ∧ noB 6 pd = true ∧
  ((fate M.ins M.trs ((directs M.ins M.los e).set k (d + 1)) false ∧ ∀ H', Same H H' → Q (.bl false) H') ∨
    (fate M.ins M.trs ((directs M.ins M.los e).set k (d + 1)) true ∧ ∃ (i : Nat) (L : List (Str × Nat)) (en : Str ⊕ Nat), i ≤ 200 ∧ row M.ins M.trs (directs M.ins M.los e) (i + 1) = row M.ins M.trs (directs M.ins M.los e) i ∧ (∀ j, j < i → row M.ins M.trs (directs M.ins M.los e) (j + 1) ≠ row M.ins M.trs (directs M.ins M.los e) j) ∧ big (row M.ins M.trs (directs M.ins M.los e) i) = false ∧
      Way M.ins M.trs (row M.ins M.trs (directs M.ins M.los e) i) z L en ∧ L.length ≤ 1000 ∧ ∀ H', Same H H' → Q (.bl (PyData.eqv pd (unitD L en))) H'))
theorem dp_rep {K : PySem.W.Frag} {H : Hp} {v : V} {d : PyData} (h : Dp K H v d) : ∀ n, DpAll K H (List.replicate n v) (List.replicate n d)
  | 0 => .nil
  | n + 1 => .cons h (dp_rep h n)
theorem gd_ints {n : Nat} {gs : List Int} (h : gs.length ≤ 5000) : gd (n + 2) (.tuple (gs.map PyData.int)) = true := by
  show (decide ((gs.map PyData.int).length ≤ 5000) && (gs.map PyData.int).all (gd (n + 1))) = true
  rw [List.length_map, decide_eq_true h, List.all_map, Bool.true_and, List.all_eq_true]
  intro x _
  rfl
theorem gd_intl {n : Nat} {gs : List Int} (h : gs.length ≤ 5000) : gd (n + 2) (.list (gs.map PyData.int)) = true := gd_ints (n := n) h
theorem gd_2 {n : Nat} {x y : PyData} (h1 : gd n x = true) (h2 : gd n y = true) : gd (n + 1) (.tuple [x, y]) = true := by
  show (decide (2 ≤ 5000) && (gd n x && (gd n y && true))) = true
  rw [h1, h2]
  rfl
theorem gd_1 {n : Nat} {x : PyData} (h1 : gd n x = true) : gd (n + 1) (.tuple [x]) = true := by
  show (decide (1 ≤ 5000) && (gd n x && true)) = true
  rw [h1]
  rfl
theorem gd_l1 {n : Nat} {x : PyData} (h1 : gd n x = true) : gd (n + 1) (.list [x]) = true := gd_1 h1
theorem noB_ints {n : Nat} {gs : List Int} : noB (n + 2) (.tuple (gs.map PyData.int)) = true := by
  show (gs.map PyData.int).all (noB (n + 1)) = true
  rw [List.all_map, List.all_eq_true]
  intro x _
  rfl
theorem gd_rep {n m : Nat} {i : Int} (h : m ≤ 5000) : gd (n + 2) (.tuple (List.replicate m (.int i))) = true := by
  show (decide ((List.replicate m (PyData.int i)).length ≤ 5000) && (List.replicate m (PyData.int i)).all (gd (n + 1))) = true
  rw [List.length_replicate, decide_eq_true h, Bool.true_and, List.all_eq_true]
  intro x hx
  rw [List.eq_of_mem_replicate hx]
  rfl
theorem way_first {ins : List Str} {ts : List Trt} {gs : List Int} {z : Str} {L : List (Str × Nat)} {en : Str ⊕ Nat} (w : Way ins ts gs z L en) : L = [] ∨ ∃ n r, L = (z, n) :: r := by
  cases w with
  | stop => exact .inl rfl
  | out => exact .inr ⟨_, _, rfl⟩
  | go => exact .inr ⟨_, _, rfl⟩
/-! ### literals, known behind whatever keeps them -/
def YR (Rl : Hp → Hp → Prop) (σ : L2.St) (te : TE) (H0 : Hp) (P : Hp → V → Prop) : Prop := ∀ (H : Hp) (Q : VK), Rl H0 H → (∀ v H', Same H H' → (∀ H2, Rl H' H2 → P H2 v) → Q v H') → te σ H Q
def YRa (Rl : Hp → Hp → Prop) (σ : L2.St) (t : TA) (H0 : Hp) (P : Hp → List V → Prop) : Prop := ∀ (H : Hp) (Q : List V → Hp → Prop), Rl H0 H → (∀ v H', Same H H' → (∀ H2, Rl H' H2 → P H2 v) → Q v H') → t σ H Q
structure RelOk (Rl : Hp → Hp → Prop) (H0 : Hp) : Prop where
  refl : ∀ H, Rl H H
  tr : ∀ {a b c}, Rl a b → Rl b c → Rl a c
  sm : ∀ {a b}, Same a b → Rl a b
  new : ∀ {H p o H2}, Rl H0 H → H p = none → Rl (upd H p o) H2 → H2 p = some o
theorem rel_same (H0 : Hp) : RelOk Same H0 := ⟨Same.refl, Same.trans, id, fun _ _ s => s _ _ upd_same⟩
/-- all but the list at l stands, which goes on to be a list -/
def RB (l : Addr) (H H2 : Hp) : Prop := Bar l H H2 ∧ ((∃ zs, H l = some (.lst zs)) → ∃ zs, H2 l = some (.lst zs))
theorem rel_list {H0 : Hp} {l : Addr} {zs : List V} (h : H0 l = some (.lst zs)) : RelOk (RB l) H0 :=
  ⟨fun H => ⟨Bar.refl H, id⟩, fun a b => ⟨a.1.trans b.1, fun x => b.2 (a.2 x)⟩, fun s => ⟨Bar.of s, fun ⟨zs, x⟩ => ⟨zs, s _ _ x⟩⟩, fun {H p o H2} r np s => by
    obtain ⟨ws, hl⟩ := r.2 ⟨_, h⟩
    have ne : p ≠ l := fun e => by
      rw [e, hl] at np
      cases np
    exact s.1 _ _ ne upd_same⟩
theorem RB.put {l : Addr} {H H2 : Hp} {ws : List V} (h : RB l H H2) : RB l H (upd H2 l (.lst ws)) := ⟨Bar.put h.1, fun _ => ⟨ws, upd_same⟩⟩
section
variable {K : PySem.W.Frag} {σ : L2.St} {H0 : Hp} {te : TE} {t : TA} {P : Hp → V → Prop} {Rl : Hp → Hp → Prop}
theorem yr_var {i : Nat} {v : V} (o : RelOk Rl H0) (h : σ[i]? = some (some v)) (hP : ∀ H, Rl H0 H → P H v) : YR Rl σ (tVar i) H0 P := fun H Q s q => ⟨v, h, q v H (Same.refl H) fun H2 s2 => hP H2 (o.tr s s2)⟩
theorem yr_int {i : Int} : YR Rl σ (tC (.int i)) H0 (fun H x => Dp K H x (.int i)) := fun H Q _ q => q _ H (Same.refl H) fun _ _ => .int i
theorem yr_str {i : Str} : YR Rl σ (tC (.str i)) H0 (fun H x => Dp K H x (.str i)) := fun H Q _ q => q _ H (Same.refl H) fun _ _ => .str i
theorem yr_non : YR Rl σ (tC .non) H0 (fun H x => Dp K H x .none) := fun H Q _ q => q _ H (Same.refl H) fun _ _ => .non
theorem yra_nil : YRa Rl σ tNil H0 (fun H x => DpAll K H x []) := fun H Q _ q => q [] H (Same.refl H) fun _ _ => .nil
theorem yra_cons (o : RelOk Rl H0) {d : PyData} {ds : List PyData} (h : YR Rl σ te H0 (fun H x => Dp K H x d)) (r : YRa Rl σ t H0 (fun H x => DpAll K H x ds)) : YRa Rl σ (tCons te t) H0 (fun H vs => DpAll K H vs (d :: ds)) := fun H Q s q =>
  h H _ s fun v H1 s1 p1 => r H1 _ (o.tr s (o.sm s1)) fun vs H2 s2 p2 => q (v :: vs) H2 (s1.trans s2) fun H3 s3 => .cons (p1 H3 (o.tr (o.sm s2) s3)) (p2 H3 s3)
theorem yr_tup (o : RelOk Rl H0) {ds : List PyData} (h : YRa Rl σ t H0 (fun H x => DpAll K H x ds)) (hz : ds.length ≤ 100000) : YR Rl σ (tTup t) H0 (fun H v => Dp K H v (.tuple ds)) := fun H Q s q =>
  h H _ s fun xs H1 s1 p1 => ⟨sz (by rw [DpAll.len (p1 H1 (o.refl _))]; exact hz), fun p np => q (.ref p) _ (s1.trans (same_new np)) fun H3 s3 => .tup (SqT.of (o.new (o.tr s (o.sm s1)) np s3)) (p1 H3 (o.tr (o.sm (same_new np)) s3))⟩
theorem yr_lst (o : RelOk Rl H0) {ds : List PyData} (h : YRa Rl σ t H0 (fun H x => DpAll K H x ds)) (hz : ds.length ≤ 100000) : YR Rl σ (tLst t) H0 (fun H v => Dp K H v (.list ds)) := fun H Q s q =>
  h H _ s fun xs H1 s1 p1 => ⟨sz (by rw [DpAll.len (p1 H1 (o.refl _))]; exact hz), fun p np => q (.ref p) _ (s1.trans (same_new np)) fun H3 s3 => .lst (SqL.of (o.new (o.tr s (o.sm s1)) np s3)) (p1 H3 (o.tr (o.sm (same_new np)) s3))⟩
/-! lists of such things, an empty dict among them -/
theorem yx_of {d : PyData} (h : YR Rl σ te H0 (fun H x => Dp K H x d)) : YR Rl σ te H0 (fun H x => DpX K H x d) := fun H Q s q => h H Q s fun v H' s' p => q v H' s' fun H2 s2 => .inl (p H2 s2)
theorem yx_dict (o : RelOk Rl H0) : YR Rl σ tDNewK H0 (fun H x => DpX K H x (.dict [])) := fun H Q s q p np =>
  q (.ref p) _ (same_new np) fun H2 s2 => .inr ⟨rfl, ⟨p, rfl⟩, .base (.dK (o.new s np s2))⟩
theorem AllAt.consX {α : Type} {R : Hp → V → α → Prop} {H : Hp} {y : V} {l : α} {ys : List V} {ls : List α} (r : R H y l) (h : AllAt R H ys ls) : AllAt R H (y :: ys) (l :: ls) := by
  refine ⟨congrArg Nat.succ h.1, fun i k hk => ?_⟩
  cases i with
  | zero =>
    cases Option.some.inj hk
    exact ⟨y, rfl, r⟩
  | succ i => exact h.2 i k hk
theorem yxa_nil : YRa Rl σ tNil H0 (fun H x => AllAt (DpX K) H x []) := fun H Q _ q => q [] H (Same.refl H) fun _ _ => AllAt.nil
theorem yxa_cons (o : RelOk Rl H0) {d : PyData} {ds : List PyData} (h : YR Rl σ te H0 (fun H x => DpX K H x d)) (r : YRa Rl σ t H0 (fun H x => AllAt (DpX K) H x ds)) : YRa Rl σ (tCons te t) H0 (fun H vs => AllAt (DpX K) H vs (d :: ds)) := fun H Q s q =>
  h H _ s fun v H1 s1 p1 => r H1 _ (o.tr s (o.sm s1)) fun vs H2 s2 p2 => q (v :: vs) H2 (s1.trans s2) fun H3 s3 => AllAt.consX (R := DpX K) (p1 H3 (o.tr (o.sm s2) s3)) (p2 H3 s3)
theorem AllAt.appX {α : Type} {R : Hp → V → α → Prop} {H : Hp} : ∀ {xs ys : List V} {ks ls : List α}, AllAt R H xs ks → AllAt R H ys ls → AllAt R H (xs ++ ys) (ks ++ ls)
  | [], _, [], _, _, h => h
  | [], _, _ :: _, _, h, _ => by cases h.1
  | _ :: _, _, [], _, h, _ => by cases h.1
  | x :: xs, ys, k :: ks, ls, h, g => by
    obtain ⟨y', h1, r⟩ := h.2 0 k rfl
    cases Option.some.inj h1
    exact AllAt.consX r (AllAt.appX (xs := xs) (ks := ks) ⟨Nat.succ.inj h.1, fun i l hl => h.2 (i + 1) l hl⟩ g)
/-- what is extended or appended, item by item -/
theorem sqt_bl {l a : Addr} {H H2 : Hp} {zs xs : List V} (b : Bar l H H2) (hl : H l = some (.lst zs)) (h : SqT K H a xs) : SqT K H2 a xs := by
  rcases h with (h | ⟨u, h⟩) | h
  · exact .inl (.inl (b _ _ (fun e => by rw [e, hl] at h; cases h) h))
  · exact .inl (.inr ⟨u, b _ _ (fun e => by rw [e, hl] at h; cases h) h⟩)
  · exact .inr h
theorem mkt_bar {C l m : Addr} {M : Mkt} {H H2 : Hp} {zs : List V} (b : Bar l H H2) (hl : H l = some (.lst zs)) (h : MktAt K C H m M) : MktAt K C H2 m M := by
  obtain ⟨dx, ai, ae, at', ad, h0, h1, h2, ⟨xs, h3, h3'⟩, h4, h5⟩ := h
  have k : ∀ {a : Addr} {ys : List V}, SqT K H a ys → SqT K H2 a ys := fun h => sqt_bl b hl h
  refine ⟨dx, ai, ae, at', ad, b _ _ (fun e => by rw [e, hl] at h0; cases h0) h0, k h1, k h2, ⟨xs, k h3, AllAt.imp (S := TrAt K) h3' fun y t r => ?_⟩, b _ _ (fun e => by rw [e, hl] at h4; cases h4) h4, h5.imp id fun ⟨o, g1, g2⟩ => ⟨o, b _ _ (fun e => by rw [e, hl] at g1; cases g1) g1, g2⟩⟩
  obtain ⟨a1, vc, vp, rfl, g1, g2, pa, px, rfl, g3, g4, g5⟩ := r
  refine ⟨a1, vc, _, rfl, k g1, k g2, pa, px, rfl, k g3, g4, fun i e he => ?_⟩
  obtain ⟨y, f1, bb, rfl, f2⟩ := g5 i e he
  exact ⟨_, f1, bb, rfl, k f2⟩
end
section
variable {K : PySem.W.Frag} {σ : L2.St} {H0 H : Hp} {t : TA} {Rl : Hp → Hp → Prop} {ds : List PyData} {Q : VK} {l : Addr}
theorem yx_list1 (h : YRa Same σ t H0 (fun H vs => AllAt (DpX K) H vs ds)) (hz : ds.length ≤ 100000) (s : Same H0 H) (q : ∀ l xs H', Same H H' → H l = none → H' l = some (.lst xs) → (∀ H2, Bar l H' H2 → AllAt (DpX K) H2 xs ds) → Q (.ref l) H') : tLst t σ H Q :=
  h H _ s fun xs H1 s1 p1 => ⟨sz (by rw [(p1 H1 (Same.refl _)).1]; exact hz), fun l nl => q l xs _ (s1.trans (same_new nl)) (s1.free nl) upd_same fun H2 b => p1 H2 (Bar.keep nl ((Bar.of (same_new nl)).trans b))⟩
theorem yx_list2 (o : RelOk (RB l) H0) (h : YRa (RB l) σ t H0 (fun H vs => AllAt (DpX K) H vs ds)) (hz : ds.length ≤ 100000) (s : RB l H0 H) (q : ∀ b zs H', Same H H' → H' b = some (.lst zs) → zs.length = ds.length → (∀ H2, RB l H' H2 → AllAt (DpX K) H2 zs ds) → Q (.ref b) H') : tLst t σ H Q :=
  h H _ s fun xs H1 s1 p1 => ⟨sz (by rw [(p1 H1 (o.refl _)).1]; exact hz), fun b nb => q b xs _ (s1.trans (same_new nb)) upd_same (p1 H1 (o.refl _)).1 fun H2 r => p1 H2 (o.tr (o.sm (same_new nb)) r)⟩
theorem yr_tupT (o : RelOk Rl H0) (h : YRa Rl σ t H0 (fun H vs => DpAll K H vs ds)) (hz : ds.length ≤ 100000) (s : Rl H0 H) (q : ∀ p xs H', Same H H' → H' p = some (.tup xs) → (∀ H2, Rl H' H2 → DpAll K H2 xs ds) → Q (.ref p) H') : tTup t σ H Q :=
  h H _ s fun xs H1 s1 p1 => ⟨sz (by rw [DpAll.len (p1 H1 (o.refl _))]; exact hz), fun p np => q p xs _ (s1.trans (same_new np)) upd_same fun H2 r => p1 H2 (o.tr (o.sm (same_new np)) r)⟩
theorem rep_gen {n : Nat} {t0 : Addr} {v : V} {Q : VK} (hT : SqT K H t0 [v]) (h1 : 1 ≤ n) (h2 : n ≤ 1000) (q : ∀ p H', Same H H' → SqT K H' p (List.replicate n v) → (H' = H ∨ (H p = none ∧ H' p = some (.tup (List.replicate n v)))) → Q (.ref p) H') :
    (∃ l xs, V.ref t0 = .ref l ∧ V.int (n : Int) = .int 1 ∧ SqT K H l xs ∧ Q (.ref l) H) ∨ rRepT K (.ref t0) (.int (n : Int)) H Q := by
  by_cases e : n = 1
  · subst e
    exact .inl ⟨t0, [v], rfl, rfl, hT, q t0 H (Same.refl _) hT (.inl rfl)⟩
  · refine .inr ⟨t0, (n : Int), [v], rfl, rfl, hT, List.cons_ne_nil _ _, by omega, by omega, by show 1 ≤ 1000; decide, fun p np => ?_⟩
    have e2 : (List.replicate (n : Int).toNat [v]).flatten = List.replicate n v := by
      rw [show (n : Int).toNat = n by omega]
      clear h1 h2 e q
      induction n with
      | zero => rfl
      | succ n ih =>
        rw [List.replicate_succ, List.flatten_cons, ih]
        rfl
    rw [e2]
    exact q p _ (same_new np) (SqT.of upd_same) (.inr ⟨np, upd_same⟩)
end
theorem for_litT {K : PySem.W.Frag} {te : TE} {g : TG} {tb : TS} {D : Ends} {σ : L2.St} {H : Hp} (h : te σ H fun x H1 => tFor (iTup K (tC x)) g tb D σ H1) : tFor (iTup K te) g tb D σ H := h
theorem for_litL {K : PySem.W.Frag} {te : TE} {g : TG} {tb : TS} {D : Ends} {σ : L2.St} {H : Hp} (h : te σ H fun x H1 => tFor (iList K (tC x)) g tb D σ H1) : tFor (iList K te) g tb D σ H := h
theorem cons_to {te : TE} {t : TA} {σ : L2.St} {H : Hp} {Q : List V → Hp → Prop} (h : te σ H fun v H1 => t σ H1 fun vs H2 => Q (v :: vs) H2) : tCons te t σ H Q := h
theorem tC_to {v : V} {σ : L2.St} {H : Hp} {Q : VK} (h : Q v H) : tC v σ H Q := h
/-! ### the law's own states -/
def sp_lw_state (K : PySem.W.Frag) (C : Addr) : Sp := fun vs H Q _ => ∃ (m : Addr) (M : Mkt) (e : Str) (c : Int), vs = [.ref m, .str e, .int c] ∧ MktAt K C H m M ∧ DgMkt M ∧ e ∈ M.evs ∧
  ∀ (p : Addr) (gs : List Int) (H' : Hp), Same H H' → SqT K H' p (gs.map V.int) → gs.length = M.ins.length → (∀ x ∈ gs, 0 ≤ x ∧ x ≤ 60000) → Q (.ref p) H'
theorem sum_276 : ∀ {xs : List Int}, (∀ x ∈ xs, 0 ≤ x ∧ x ≤ 69) → xs.sum ≤ 69 * (xs.length : Int)
  | [], _ => by simp
  | x :: r, h => by
    have h1 := h x List.mem_cons_self
    have h2 := sum_276 (xs := r) fun y hy => h y (List.mem_cons_of_mem _ hy)
    rw [List.sum_cons, List.length_cons]
    omega
theorem dg_nn {M : Mkt} (h : DgMkt M) (e : Str) : ∀ x ∈ directs M.ins M.los e, 0 ≤ x ∧ x ≤ 69 := fun x hx => by
  obtain ⟨j, hj⟩ := List.getElem?_of_mem hx
  exact dg_dir h e (k := j) (d := x) hj
/-- no round of a market by digits is great -/
theorem dg_row {M : Mkt} (h : DgMkt M) (e : Str) {i : Nat} (hi : i ≤ 200) : ∀ x ∈ row M.ins M.trs (directs M.ins M.los e) i, 0 ≤ x ∧ x ≤ 55476 := fun x hx => by
  obtain ⟨h1, h2⟩ := row_le (ins := M.ins) (ds := directs M.ins M.los e) h.ok.ok (fun y hy => (dg_nn h e y hy).1) i
  have h3 := memw_le h1 x hx
  have h4 := sum_276 (dg_nn h e)
  have hl : (directs M.ins M.los e).length = M.ins.length := List.length_map ..
  have h5 := h.il
  have h6 := sumw_nn (fun y hy => (dg_nn h e y hy).1 : ∀ y ∈ directs M.ins M.los e, 0 ≤ y)
  have h7 : ((i : Int) + 1) * (directs M.ins M.los e).sum ≤ 201 * 276 := by
    refine Int.mul_le_mul (by omega) (by omega) h6 (by decide)
  exact ⟨h1 x hx, by omega⟩
/-! ### a paper turned -/
section
variable {K : PySem.W.Frag} {σ : L2.St} {H0 H : Hp} {t : TA} {Rl : Hp → Hp → Prop} {ds : List PyData} {Q : VK}
theorem yr_lstT (o : RelOk Rl H0) (h : YRa Rl σ t H0 (fun H vs => DpAll K H vs ds)) (hz : ds.length ≤ 100000) (s : Rl H0 H) (q : ∀ l xs H', Same H H' → H l = none → H' l = some (.lst xs) → (∀ H2, Rl H' H2 → DpAll K H2 xs ds) → Q (.ref l) H') : tLst t σ H Q :=
  h H _ s fun xs H1 s1 p1 => ⟨sz (by rw [DpAll.len (p1 H1 (o.refl _))]; exact hz), fun p np => q p xs _ (s1.trans (same_new np)) (s1.free np) upd_same fun H2 r => p1 H2 (o.tr (o.sm (same_new np)) r)⟩
end
/-- data of few and short things, no lists among them -/
def gt : Nat → PyData → Bool
  | 0, _ => false
  | _ + 1, .none => true
  | _ + 1, .int _ => true
  | _ + 1, .str s => PyData.strOk s
  | n + 1, .tuple ds => decide (ds.length ≤ 5000) && ds.all (gt n)
  | _ + 1, _ => false
theorem gt_len {n : Nat} {ds : List PyData} (h : gt n (.tuple ds) = true) : ds.length ≤ 5000 ∧ ∃ m, n = m + 1 ∧ ∀ d ∈ ds, gt m d = true := by
  cases n with
  | zero => cases h
  | succ n =>
    have h : (decide (ds.length ≤ 5000) && ds.all (gt n)) = true := h
    rw [Bool.and_eq_true, List.all_eq_true] at h
    exact ⟨of_decide_eq_true h.1, n, rfl, h.2⟩
theorem gt_gd : ∀ {n : Nat} {d : PyData}, gt n d = true → gd n d = true
  | 0, _, h => by cases h
  | n + 1, .none, _ => rfl
  | n + 1, .int _, _ => rfl
  | n + 1, .str s, h => h
  | n + 1, .tuple ds, h => by
    have h : (decide (ds.length ≤ 5000) && ds.all (gt n)) = true := h
    rw [Bool.and_eq_true, List.all_eq_true] at h
    show (decide (ds.length ≤ 5000) && ds.all (gd n)) = true
    rw [h.1, Bool.true_and, List.all_eq_true]
    exact fun x hx => gt_gd (h.2 x hx)
  | n + 1, .bool _, h => by cases h
  | n + 1, .list _, h => by cases h
  | n + 1, .dict _, h => by cases h
theorem DpAll.mk {K : PySem.W.Frag} {H : Hp} : ∀ {xs : List V} {ds : List PyData}, xs.length = ds.length → (∀ (i : Nat) x d, xs[i]? = some x → ds[i]? = some d → Dp K H x d) → DpAll K H xs ds
  | [], [], _, _ => .nil
  | [], _ :: _, h, _ => by cases h
  | _ :: _, [], h, _ => by cases h
  | x :: xs, d :: ds, h, g => .cons (g 0 x d rfl rfl) (DpAll.mk (Nat.succ.inj h) fun i y e hy he => g (i + 1) y e hy he)
/-- such data does not know of a list that changes -/
theorem dp_bar {K : PySem.W.Frag} {H H2 : Hp} {l : Addr} {zs : List V} (b : Bar l H H2) (hl : H l = some (.lst zs)) : ∀ {n : Nat} {v : V} {d : PyData}, gt n d = true → Dp K H v d → Dp K H2 v d
  | 0, _, _, h, _ => by cases h
  | n + 1, v, d, h, hd => by
    cases hd with
    | non => exact .non
    | bl b => exact .bl b
    | int i => exact .int i
    | str s => exact .str s
    | lst _ _ => cases h
    | tup hS hA =>
      have h : (decide (_ ≤ 5000) && List.all _ (gt n)) = true := h
      rw [Bool.and_eq_true, List.all_eq_true] at h
      refine .tup (sqt_bl b hl hS) (DpAll.mk (DpAll.len hA) fun i x d hx hd => ?_)
      obtain ⟨d', hd', hD⟩ := DpAll.at hA hx
      rw [hd] at hd'
      have e := Option.some.inj hd'
      subst e
      exact dp_bar b hl (h.2 d (List.mem_of_getElem? hd)) hD
def PapR (K : PySem.W.Frag) (H : Hp) (y : V) (d : PyData) : Prop := Dp K H y d ∧ gt 6 d = true
theorem PapR.same {K : PySem.W.Frag} {H H' : Hp} {y : V} {d : PyData} (e : Same H H') (h : PapR K H y d) : PapR K H' y d := ⟨Dp.to e h.1, h.2⟩
theorem PapR.bar {K : PySem.W.Frag} {H H' : Hp} {l : Addr} {zs : List V} {y : V} {d : PyData} (b : Bar l H H') (hl : H l = some (.lst zs)) (h : PapR K H y d) : PapR K H' y d := ⟨dp_bar b hl h.2 h.1, h.2⟩
theorem gt_ints {n : Nat} {gs : List Int} (h : gs.length ≤ 5000) : gt (n + 2) (.tuple (gs.map PyData.int)) = true := by
  show (decide ((gs.map PyData.int).length ≤ 5000) && (gs.map PyData.int).all (gt (n + 1))) = true
  rw [List.length_map, decide_eq_true h, List.all_map, Bool.true_and, List.all_eq_true]
  intro x _
  rfl
theorem gt_rows {n : Nat} {rs : List (List Int)} (h : rs.length ≤ 5000) (h2 : ∀ r ∈ rs, r.length ≤ 5000) : gt (n + 3) (.tuple (rs.map rwD)) = true := by
  show (decide ((rs.map rwD).length ≤ 5000) && (rs.map rwD).all (gt (n + 2))) = true
  rw [List.length_map, decide_eq_true h, List.all_map, Bool.true_and, List.all_eq_true]
  intro x hx
  exact gt_ints (h2 x hx)
theorem gt_2 {n : Nat} {x y : PyData} (h1 : gt n x = true) (h2 : gt n y = true) : gt (n + 1) (.tuple [x, y]) = true := by
  show (decide (2 ≤ 5000) && (gt n x && (gt n y && true))) = true
  rw [h1, h2]
  rfl
def sp_lw_turned (K : PySem.W.Frag) (n : Nat) : Sp := fun vs H Q _ => ∃ (x : V) (o : Addr) (d : PyData) (ds : List Int) (at' : Nat), vs = [x, .ref o, .int (at' : Int)] ∧ Dp K H x d ∧ gt n d = true ∧ H o = some (.lst (ds.map V.int)) ∧ (∀ v ∈ ds, 0 ≤ v) ∧ at' + 2 ≤ ds.length ∧ ds.length ≤ 1000 ∧
  ∀ (y : V) (d' : PyData) (H' : Hp), Same H H' → Dp K H' y d' → gt n d' = true → Q y H'
theorem gt_set {n : Nat} {es : List PyData} {k : Nat} {d : PyData} (h : gt (n + 1) (.tuple es) = true) (hd : gt n d = true) (hk : k < es.length) : gt (n + 1) (.tuple (es.take k ++ [d] ++ es.drop (k + 1))) = true := by
  have h : (decide (es.length ≤ 5000) && es.all (gt n)) = true := h
  rw [Bool.and_eq_true, List.all_eq_true] at h
  have hl := of_decide_eq_true h.1
  show (decide (_ ≤ 5000) && _) = true
  rw [decide_eq_true (by rw [List.length_append, List.length_append, List.length_take, List.length_drop]; show min k es.length + 1 + (es.length - (k + 1)) ≤ 5000; omega), Bool.true_and, List.all_eq_true]
  intro x hx
  rcases List.mem_append.mp hx with hx | hx
  · rcases List.mem_append.mp hx with hx | hx
    · exact h.2 x (List.mem_of_mem_take hx)
    · rw [List.mem_singleton.mp hx]
      exact hd
  · exact h.2 x (List.mem_of_mem_drop hx)
def tnD (m p : PyData) : List PyData := [m, .int 0, .int 1, .int 7, .str "ada", .str "bob", .str "eve", .none, .tuple [], .str "external", .str "insurer", p, .int (-1), m, m]
theorem tnD_gt {n : Nat} {m p : PyData} (hm : gt (n + 1) m = true) (hp : gt (n + 1) p = true) : ∀ d ∈ tnD m p, gt (n + 1) d = true := by
  unfold tnD
  have hs : ∀ s : Str, PyData.strOk s = true → gt (n + 1) (.str s) = true := fun s h => h
  simp only [List.forall_mem_cons]
  exact ⟨hm, rfl, rfl, rfl, hs _ (by decide +kernel), hs _ (by decide +kernel), hs _ (by decide +kernel), rfl, rfl, hs _ (by decide +kernel), hs _ (by decide +kernel), hp, rfl, hm, hm, fun d hd => (nomatch hd)⟩
/-! ### the example of the digits' laws -/
theorem panOk_dec {ps : List (Option Str × Int)} (h : (decide (1 ≤ ps.length ∧ ps.length ≤ 6 ∧ (ps.map (·.2)).sum ≤ 100) && ps.all fun e => decide (1 ≤ e.2 ∧ e.2 ≤ 100) && (e.1.all fun z => isNm z && decide (z.length ≤ 1000))) = true) : PanOk ps := by
  rw [Bool.and_eq_true, List.all_eq_true] at h
  have h1 := of_decide_eq_true h.1
  refine ⟨h1.1, h1.2.1, fun e he => ?_, h1.2.2⟩
  have h2 := h.2 e he
  rw [Bool.and_eq_true] at h2
  have h3 := of_decide_eq_true h2.1
  refine ⟨fun z hz => ?_, h3.1, h3.2⟩
  have h4 := h2.2
  rw [hz] at h4
  have h4 : (isNm z && decide (z.length ≤ 1000)) = true := h4
  rw [Bool.and_eq_true] at h4
  exact ⟨h4.1, of_decide_eq_true h4.2⟩
def cvB : Cov → Bool
  | .share p => decide (1 ≤ p ∧ p ≤ 1000)
  | .layer r l => decide (0 ≤ r ∧ r ≤ 100000 ∧ 1 ≤ l ∧ l ≤ 100000)
theorem cv_dec : ∀ {c : Cov}, cvB c = true → CvOk c
  | .share p, h => (of_decide_eq_true h : 1 ≤ p ∧ p ≤ 1000)
  | .layer r l, h => (of_decide_eq_true h : 0 ≤ r ∧ r ≤ 100000 ∧ 1 ≤ l ∧ l ≤ 100000)
theorem trs_dec {ins : List Str} {ts : List Trt} (hp : ∀ t ∈ ts, PanOk t.pan) (h : (decide (ins.Nodup ∧ ts.length ≤ 1000 ∧ ins.length ≤ 1000) && ts.all fun t => cvB t.cov && t.pan.all fun e => e.1.all fun z => decide (z ∈ ins)) = true) : TrsOk ins ts := by
  rw [Bool.and_eq_true, List.all_eq_true] at h
  have h1 := of_decide_eq_true h.1
  refine ⟨h1.1, fun t ht => ?_, fun t ht e he z hz => ?_, h1.2.1, h1.2.2⟩
  · have h2 := h.2 t ht
    rw [Bool.and_eq_true] at h2
    exact ⟨cv_dec h2.1, hp t ht⟩
  · have h2 := h.2 t ht
    rw [Bool.and_eq_true, List.all_eq_true] at h2
    have h3 := h2.2 e he
    rw [hz] at h3
    exact of_decide_eq_true h3
def fixB (ins : List Str) (ts : List Trt) (ds : List Int) (i : Nat) : Bool := decide (row ins ts ds (i + 1) = row ins ts ds i) && (((List.range i).all fun j => decide (row ins ts ds (j + 1) ≠ row ins ts ds j)) && !big (row ins ts ds i))
theorem fate_dec {ins : List Str} {ts : List Trt} {ds : List Int} (h : ((List.range 201).any (fixB ins ts ds)) = true) : fate ins ts ds true := by
  obtain ⟨i, hi, h⟩ := List.any_eq_true.mp h
  have hi := List.mem_range.mp hi
  unfold fixB at h
  rw [Bool.and_eq_true, Bool.and_eq_true, List.all_eq_true, Bool.not_eq_true'] at h
  exact ⟨i, by omega, of_decide_eq_true h.1, fun j hj => of_decide_eq_true (h.2.1 j (List.mem_range.mpr hj)), h.2.2⟩
def exI : List Str := ["ada", "bob", "cyd"]
def exT0 : Trt := ⟨"ada", .layer 100 300, [(some "bob", 1)], false⟩
def exT1 : Trt := ⟨"bob", .layer 50 200, [(some "ada", 1), (none, 1)], false⟩
def exT2 : Trt := ⟨"cyd", .share 500, [(none, 2), (some "ada", 1)], false⟩
def exL : List ((Str × Str) × Int) := setL [] "storm" "ada" 160
theorem ex_p0 : PanOk exT0.pan := panOk_dec (by decide +kernel)
theorem ex_p1 : PanOk exT1.pan := panOk_dec (by decide +kernel)
theorem ex_p2 : PanOk exT2.pan := panOk_dec (by decide +kernel)
theorem ex_t0 : TrsOk exI [exT0] := trs_dec (fun t ht => by rw [List.mem_singleton.mp ht]; exact ex_p0) (by decide +kernel)
theorem ex_t1 : TrsOk exI [exT0, exT1] := trs_dec (fun t ht => by
  rcases List.mem_cons.mp ht with rfl | ht
  · exact ex_p0
  · rw [List.mem_singleton.mp ht]
    exact ex_p1) (by decide +kernel)
theorem ex_t2 : TrsOk exI [exT0, exT1, exT2] := trs_dec (fun t ht => by
  rcases List.mem_cons.mp ht with rfl | ht
  · exact ex_p0
  rcases List.mem_cons.mp ht with rfl | ht
  · exact ex_p1
  · rw [List.mem_singleton.mp ht]
    exact ex_p2) (by decide +kernel)
theorem ex_f1 : fate exI [exT0, exT1] (directs exI exL "storm") true := fate_dec (by decide +kernel)
theorem pan_all {K : PySem.W.Frag} {H : Hp} {t : Addr} {ys : List V} {ps : List (Option Str × Int)} (h : H t = some (.tup ys)) (hA : AllAt (EntAt K) H ys ps) : PanAt K H (.ref t) ps := ⟨t, ys, rfl, SqT.of h, hA.1, hA.2⟩
def sp_law_example (K : PySem.W.Frag) (C : Addr) : Sp := fun vs H Q _ => vs = [] ∧ ∀ (m : Addr) (H' : Hp), Same H H' → H m = none → MktAt K C H' m ⟨exI, ["storm"], [exT0, exT1], exL⟩ → Q (.ref m) H'
/-! ### dict of a list of pairs with keys that are tuples -/
section
variable {X : Cx}
def rDictT (K : PySem.W.Frag) : List V → Hp → VK → Prop := fun xs H Q => ∃ (a : Addr) (es : List (Addr × Addr × (List Key × V))), xs = [.ref a] ∧ SqL K H a ((es.map (·.1)).map V.ref) ∧ (∀ e ∈ es, SqT K H e.1 [.ref e.2.1, e.2.2.2] ∧ H e.2.1 = some (.tup (e.2.2.1.map kV))) ∧ (es.map fun e => e.2.2.1).Nodup ∧
  ∀ p, H p = none → Q (.ref p) (upd H p (.dT (es.map (·.2.2))))
theorem pairs_ofT {pins : List (Addr × Obj)} {σ : L2.St} {H : Hp} {s : Shared} (I : Inv X pins σ H s) : ∀ {es : List (Addr × Addr × (List Key × V))}, (∀ e ∈ es, SqT X.K H e.1 [.ref e.2.1, e.2.2.2] ∧ H e.2.1 = some (.tup (e.2.2.1.map kV))) →
    ∃ xs : List (List Key × Addr × Value), KT H (es.map (·.2.2)) xs ∧ xs.length = es.length ∧ xs.map (·.1) = es.map (fun e => e.2.2.1) ∧ ∀ (j : Nat) (x : List Key × Addr × Value), xs[j]? = some x → ∃ p, (es.map (·.1))[j]? = some p ∧ IsTup s.heap p #[.ref x.2.1, x.2.2] ∧ H x.2.1 = some (.tup (x.1.map kV))
  | [], _ => ⟨[], .nil, rfl, rfl, fun j x e => by simp at e⟩
  | e :: es, h => by
    obtain ⟨xs, r, hl, hk, hp⟩ := pairs_ofT I (es := es) fun x hx => h x (List.mem_cons_of_mem _ hx)
    obtain ⟨h1, h2⟩ := h e List.mem_cons_self
    obtain ⟨its, rv, ht, _⟩ := I.tuple h1
    obtain ⟨u, y, ei, ru, ry⟩ := vals2 rv
    subst ei
    obtain rfl : u = Value.ref e.2.1 := ru
    refine ⟨(e.2.2.1, e.2.1, y) :: xs, .cons ⟨rfl, h2, ry⟩ r, by rw [List.length_cons, List.length_cons, hl], by rw [List.map_cons, List.map_cons, hk], fun j x ex => ?_⟩
    cases j with
    | zero =>
      cases Option.some.inj ex
      exact ⟨e.1, rfl, ht, h2⟩
    | succ j => exact hp j x ex
theorem call_dictT (hu : X.A.units + 64 < cLine) (hcalm : X.calm = true) : CallR X (.type "dict") (rDictT X.K) := by
  intro pins s σ H xs us Q I r q
  obtain ⟨a, es, ex, hq, he, hnd, q⟩ := q
  subst ex
  obtain ⟨u, eu, rx⟩ := vals1 r
  subst eu
  cases rx
  obtain ⟨its, rv, pl, hz⟩ := I.list hq
  have ei := refs_at rv
  subst ei
  obtain ⟨xs, rel, hl, hk, hp⟩ := pairs_ofT I he
  obtain ⟨o, n, ho, hc, hd, hdat⟩ := pl
  have hsz : es.length ≤ sizeLine := by
    rw [List.length_map, List.length_map] at hz
    exact hz
  have P := PySem.PairArg.list (prog := X.prog) (w := X.w) a ((es.map (·.1)).map Value.ref).toArray (fun j => (es.map (·.1)).getD j 0) (xs.map fun x => (Value.ref x.2.1, x.2.2))
  have hxl : (xs.map fun x => (Value.ref x.2.1, x.2.2)).length = es.length := by rw [List.length_map, hl]
  have hx1 : ∀ j k v, (xs.map fun x => (Value.ref x.2.1, x.2.2))[j]? = some (k, v) → ∃ x : List Key × Addr × Value, xs[j]? = some x ∧ k = Value.ref x.2.1 ∧ v = x.2.2 := fun j k v h => by
    rw [List.getElem?_map] at h
    cases hx : xs[j]? with
    | none =>
      rw [hx] at h
      cases h
    | some x =>
      rw [hx] at h
      cases Option.some.inj h
      exact ⟨x, hx, rfl, rfl⟩
  refine PySem.call_dict_pairsH (knd := tupleKind (mixKind X.prog X.w)) (ps := xs) P (I.ok.hd hcalm) (by show X.A.units + 1 + 1 < cLine; omega) ⟨⟨o, n, ho, hc, hd, hdat⟩, by rw [hxl]; simp, fun j k v h => ?_⟩ ⟨by rw [List.length_map], fun i key v h => ?_⟩ (fun h' hk' x hx => ?_) (by rw [hxl]; exact hsz) fun h' tk hd' k => ?_
  · obtain ⟨x, hx, rfl, rfl⟩ := hx1 j k v h
    obtain ⟨p, e1, e2, _⟩ := hp j x hx
    have eg : (es.map (·.1)).getD j 0 = p := by
      rw [List.getD_eq_getElem?_getD, e1]
      rfl
    refine ⟨?_, .inl ?_⟩
    · show _ = some (Value.ref ((es.map (·.1)).getD j 0))
      rw [List.getElem?_toArray, List.getElem?_map, e1, eg]
      rfl
    · show (s.heap.IsTuple ((es.map (·.1)).getD j 0) _)
      rw [eg]
      obtain ⟨oo, g1, g2, m, g3⟩ := e2
      exact ⟨oo, g1, g2, m, g3⟩
  · obtain ⟨x, hx, rfl, rfl⟩ := hx1 i key v h
    exact ⟨x.1, x.2.1, hx, rfl⟩
  · obtain ⟨j, hj⟩ := List.getElem?_of_mem hx
    obtain ⟨p, _, _, e3⟩ := hp j x hj
    exact PySem.tupleKind_stays.stays (fun b ob vs n e _ => hk' b ob (Nat.ne_of_lt (Heap.lt_size e)) (by simp) e) (key_of I.hok e3)
  · rw [PySem.storedAllH_nil_of_nodup xs (by rw [hk]; exact hnd)] at hd'
    have nD : H s.heap.objs.size = none := I.hok.fresh (Nat.le_refl _)
    obtain ⟨oq, eq, ep, hq1, h2, h3, h4, _, h5⟩ := hd'
    have hm : (s.heap.objs.size == sysModules) = false := beq_eq_false_iff_ne.mpr (Nat.ne_of_gt I.big)
    refine ⟨.ref s.heap.objs.size, upd H s.heap.objs.size (.dT (es.map (·.2.2))), I.laid (t' := tk) (fun b ob e => k b ob (by simp) e) (Nat.le_refl _) ?_, rfl, q _ nD⟩
    refine ⟨by rw [List.length_map]; exact hsz, hm, xs, rel.keeps fun c ys ec => ?_, oq, eq, ep, hq1, h2, h3, h4, h5⟩
    rw [upd_ne (ne_of_none ec nD)]
    exact ec
end
/-! ### a market's copy -/
section
variable {X : Cx} {kx vx tg iter : Expr} {ifs : List Expr} {scope : Scope} {own : List (Str × Nat)} {pos : PySem.Pos} {wi : TI} {g : TG} {tt : TT} {tk tv : TE}
theorem pe_dct (hu : X.A.units + 1 < cLine) (hc : X.calm = true) (hN : X.N.Nodup) (hi : PI X tg iter wi) (ok : BlkOk X.N X.env.scope scope own)
    (hg : Blks X scope fun B => PG B tg g) (ht : Blks X scope fun B => PTs B ifs tt) (hk : Blks X scope fun B => PE B kx tk) (he : Blks X scope fun B => PE B vx tv) (hs : ∀ x, foldedSetIterable iter X.env x = pure x := by intro _; rfl) :
    PE X (.DictComp kx vx [⟨tg, iter, ifs, 0⟩] scope pos) (tDct wi g tt tk tv (own.map (·.2))) := by
  refine ⟨fun pins s σ H Q I h => ?_⟩
  rw [arm_eval_DictComp]
  refine dct_core hu hc hN I hi ok hg ht hk he hs h fun D C s' m H' I' q hn f => ⟨m, hn, fun h'' sb => ?_⟩
  obtain ⟨f0, f1, f2, f3, f4, f5⟩ := f
  exact ⟨.ref D, H', I'.turned (t' := s'.toks) (fun b o hb e => (sb.2 b hb).trans e) f0 f1 f3 f4 f5, rfl, q⟩
end
theorem mt_tup_indexK {X : Cx} {K : PySem.W.Frag} (h : X.K = K) : MtR X "tuple.index" (fun x xs H Q => ∃ p, ∃ ys : List Str, ∃ z j, x = .ref p ∧ xs = [.str z] ∧ SqT K H p (ys.map V.str) ∧ ys[j]? = some z ∧ (∀ m, m < j → ys[m]? ≠ some z) ∧ Q (.int (j : Nat)) H) := by
  subst h
  exact mt_tup_index
def sp_copy (K : PySem.W.Frag) (C : Addr) : Sp := fun vs H Q _ => ∃ (m : Addr) (M : Mkt), vs = [.ref m] ∧ MktAt K C H m M ∧ (M.los.map (·.1)).Nodup ∧ M.los.length ≤ 1000 ∧
  ∀ (o : Addr) (H' : Hp), Same H H' → H o = none → MktAt K C H' o M → Q (.ref o) H'
def sp_law_has_no_end (K : PySem.W.Frag) (C : Addr) : Sp := fun vs H Q _ => ∃ (m : Addr) (M : Mkt) (e z : Str) (k : Nat) (d : Int), vs = [.ref m, .str e, .str z] ∧ MktAt K C H m M ∧ DgMkt M ∧ e ∈ M.evs ∧ M.ins[k]? = some z ∧ (directs M.ins M.los e)[k]? = some d ∧
  fate M.ins M.trs ((directs M.ins M.los e).set k (d + 1)) false ∧ ∀ H', Same H H' → Q (.bl true) H'
/-! ### pairs for dict(..) -/
theorem mergeK_new : ∀ {more kvs : List (Key × V)}, (∀ p ∈ more, ∀ q ∈ kvs, q.1 ≠ p.1) → (more.map (·.1)).Nodup → mergeK kvs more = kvs ++ more
  | [], kvs, _, _ => (List.append_nil _).symm
  | p :: r, kvs, h, hn => by
    have hn' := List.nodup_cons.mp hn
    show mergeK (putK kvs p.1 p.2) r = _
    rw [putK_new (h p List.mem_cons_self), mergeK_new (more := r) ?_ hn'.2, List.append_assoc]
    · rfl
    intro q hq u hu
    rcases List.mem_append.mp hu with hu | hu
    · exact h q (List.mem_cons_of_mem _ hq) u hu
    · rw [List.mem_singleton.mp hu]
      exact fun e => hn'.1 (List.mem_map.mpr ⟨q, hq, e.symm⟩)
def KvR (K : PySem.W.Frag) (H : Hp) (y : V) (r : Key × V) : Prop := ∃ b : Addr, y = .ref b ∧ SqT K H b [kV r.1, r.2]
theorem KvR.same {K : PySem.W.Frag} {H H' : Hp} {y : V} {r : Key × V} (e : Same H H') (h : KvR K H y r) : KvR K H' y r :=
  let ⟨b, h1, h2⟩ := h; ⟨b, h1, same_sqt e h2⟩
theorem paired_of {K : PySem.W.Frag} {H : Hp} : ∀ {kvs : List (Key × V)} {ys : List V}, AllAt (KvR K) H ys kvs → ∃ ps : List Addr, ys = ps.map V.ref ∧ Paired (fun p kv => SqT K H p [kV kv.1, kv.2]) ps kvs
  | [], [], _ => ⟨[], rfl, .nil⟩
  | [], _ :: _, h => by cases h.1
  | _ :: _, [], h => by cases h.1
  | kv :: kvs, y :: ys, h => by
    obtain ⟨y', h1, b, rfl, h2⟩ := h.2 0 kv rfl
    have e1 : y = .ref b := Option.some.inj h1
    subst e1
    obtain ⟨ps, e, hp⟩ := paired_of (kvs := kvs) (ys := ys) ⟨Nat.succ.inj h.1, fun i l hl => h.2 (i + 1) l hl⟩
    exact ⟨b :: ps, by rw [e]; rfl, .cons h2 hp⟩
theorem pap_add {K : PySem.W.Frag} {H : Hp} {l : Addr} {ys : List V} {ds : List PyData} {y : V} {d : PyData} (hl : H l = some (.lst ys)) (h : AllAt (PapR K) H ys ds) (r : PapR K H y d) : AllAt (PapR K) (upd H l (.lst (ys ++ [y]))) (ys ++ [y]) (ds ++ [d]) :=
  AllAt.imp (S := PapR K) (AllAt.add (R := PapR K) h r) fun _ _ r => PapR.bar (Bar.put (Bar.refl _)) hl r
theorem pap_ext {K : PySem.W.Frag} {H : Hp} {l : Addr} {ys zs : List V} {ds es : List PyData} (hl : H l = some (.lst ys)) (h : AllAt (PapR K) H ys ds) (g : AllAt (PapR K) H zs es) : AllAt (PapR K) (upd H l (.lst (ys ++ zs))) (ys ++ zs) (ds ++ es) :=
  AllAt.imp (S := PapR K) (AllAt.appX (R := PapR K) h g) fun _ _ r => PapR.bar (Bar.put (Bar.refl _)) hl r
def rIsBA : R2 := fun x y H Q => ∃ b : Bool, y = .bl b ∧ ((∃ a, x = .bl a ∧ Q (.bl (decide (a = b))) H) ∨ (∃ a, x = .ref a ∧ Q (.bl false) H))
theorem op_isBlA {X : Cx} : OpR X (compareOp .Is) rIsBA := by
  intro pins s σ H x y v u Q I rx ry h
  obtain ⟨b, rfl, h⟩ := h
  cases (show u = Value.bool b from ry)
  rcases h with ⟨a, rfl, q⟩ | ⟨a, rfl, q⟩
  · cases (show v = Value.bool a from rx)
    by_cases e : a = b
    · subst e
      exact wpAny_is_self rfl ⟨.bl true, H, I, rfl, by simpa using q⟩
    · exact wpAny_is_other rfl (fun z => e (Value.bool.inj z)) ⟨.bl false, H, I, rfl, by simpa [e] using q⟩
  · cases rx
    exact wpAny_is_other rfl (fun z => nomatch z) ⟨.bl false, H, I, rfl, q⟩
theorem cutR_last (xs : List V) : cutV xs none (some (-1)) = xs.take (xs.length - 1) := by
  unfold cutV
  rw [HT.sIx_none, List.drop_zero]
  have e : HT.sIx xs.length xs.length (some (-1)) = xs.length - 1 := by
    unfold HT.sIx
    simp
    omega
  rw [e, Nat.sub_zero]
theorem way_det {ins : List Str} {ts : List Trt} (hn : ins.Nodup) {gs : List Int} {z : Str} {L : List (Str × Nat)} {en : Str ⊕ Nat} (h : Way ins ts gs z L en) : ∀ {L' : List (Str × Nat)} {en' : Str ⊕ Nat}, Way ins ts gs z L' en' → L = L' ∧ en = en' := by
  have key : ∀ {gs : List Int} {z : Str} {k k' : Nat} {x x' : Int}, ins[k]? = some z → ins[k']? = some z → gs[k]? = some x → gs[k']? = some x' → k = k' ∧ x = x' := fun {gs z k k' x x'} a b c d => by
    have := nd_at hn a b
    subst this
    rw [c] at d
    exact ⟨rfl, Option.some.inj d⟩
  induction h with
  | stop a b c =>
    intro L' en' h
    cases h with
    | stop a' b' c' => exact ⟨rfl, rfl⟩
    | out a' b' c' d' e' =>
      obtain ⟨rfl, rfl⟩ := key a a' b b'
      rw [c] at c'
      cases c'
    | go a' b' c' d' e' w =>
      obtain ⟨rfl, rfl⟩ := key a a' b b'
      rw [c] at c'
      cases c'
  | out a b c d e =>
    intro L' en' h
    cases h with
    | stop a' b' c' =>
      obtain ⟨rfl, rfl⟩ := key a a' b b'
      rw [c] at c'
      cases c'
    | out a' b' c' d' e' =>
      obtain ⟨rfl, rfl⟩ := key a a' b b'
      rw [c] at c'
      cases c'
      exact ⟨rfl, rfl⟩
    | go a' b' c' d' e' w =>
      obtain ⟨rfl, rfl⟩ := key a a' b b'
      rw [c] at c'
      cases c'
      rw [d] at d'
      cases d'
      rw [e] at e'
      cases e'
  | go a b c d e w ih =>
    intro L' en' h
    cases h with
    | stop a' b' c' =>
      obtain ⟨rfl, rfl⟩ := key a a' b b'
      rw [c] at c'
      cases c'
    | out a' b' c' d' e' =>
      obtain ⟨rfl, rfl⟩ := key a a' b b'
      rw [c] at c'
      cases c'
      rw [d] at d'
      cases d'
      rw [e] at e'
      cases e'
    | go a' b' c' d' e' w' =>
      obtain ⟨rfl, rfl⟩ := key a a' b b'
      rw [c] at c'
      cases c'
      rw [d] at d'
      cases d'
      rw [e] at e'
      cases e'
      obtain ⟨h1, h2⟩ := ih w'
      exact ⟨by rw [h1], h2⟩
theorem noB_gt : ∀ {n : Nat} {d : PyData}, gt n d = true → noB n d = true
  | 0, _, h => by cases h
  | n + 1, .none, _ => rfl
  | n + 1, .int _, _ => rfl
  | n + 1, .str s, h => rfl
  | n + 1, .tuple ds, h => by
    have h : (decide (ds.length ≤ 5000) && ds.all (gt n)) = true := h
    rw [Bool.and_eq_true, List.all_eq_true] at h
    show ds.all (noB n) = true
    rw [List.all_eq_true]
    exact fun x hx => noB_gt (h.2 x hx)
  | n + 1, .bool _, h => by cases h
  | n + 1, .list _, h => by cases h
  | n + 1, .dict _, h => by cases h
theorem dep_gt : ∀ {n : Nat} {d : PyData}, gt n d = true → d.canLay0 = true ∧ PyData.depth d ≤ n := by
  have all : ∀ (n : Nat), (∀ d, gt n d = true → d.canLay0 = true ∧ PyData.depth d ≤ n) → ∀ ds : List PyData, (∀ d ∈ ds, gt n d = true) → PyData.canLayAll0 ds = true ∧ PyData.depthAll ds ≤ n := by
    intro n ih ds
    induction ds with
    | nil => intro _; exact ⟨rfl, Nat.zero_le _⟩
    | cons d ds h =>
      intro g
      obtain ⟨h1, h2⟩ := ih d (g d List.mem_cons_self)
      obtain ⟨h3, h4⟩ := h fun x hx => g x (List.mem_cons_of_mem _ hx)
      simp [PyData.canLayAll0, PyData.depthAll, h1, h3, Nat.max_le, h2, h4]
  intro n
  induction n with
  | zero => intro d h; cases h
  | succ n ih =>
    intro d h
    cases d with
    | none => exact ⟨rfl, by simp [PyData.depth]⟩
    | int i => exact ⟨rfl, by simp [PyData.depth]⟩
    | str s => 
      have h : PyData.strOk s = true := h
      exact ⟨by simpa [PyData.canLay0] using h, by simp [PyData.depth]⟩
    | tuple ds =>
      have h : (decide (ds.length ≤ 5000) && ds.all (gt n)) = true := h
      rw [Bool.and_eq_true, List.all_eq_true] at h
      obtain ⟨h1, h2⟩ := all n (fun d => ih) ds h.2
      exact ⟨by simpa [PyData.canLay0] using h1, by simp [PyData.depth]; omega⟩
    | _ => cases h
theorem atI_one {v u : V} {l : List V} : atI (v :: u :: l) 1 = some u := by
  have h : (v :: u :: l)[1]? = some u := rfl
  exact atI_nat h
theorem AllAt.takeX {α : Type} {R : Hp → V → α → Prop} {H : Hp} {ys : List V} {ls : List α} (h : AllAt R H ys ls) (k : Nat) : AllAt R H (ys.take k) (ls.take k) :=
  ⟨by rw [List.length_take, List.length_take, h.1], fun i l hl => by
    rw [List.getElem?_take] at hl ⊢
    split at hl
    · rename_i c
      obtain ⟨y, h1, h2⟩ := h.2 i l hl
      exact ⟨y, by rw [if_pos c]; exact h1, h2⟩
    · cases hl⟩
theorem gt_3 {n : Nat} {x y z : PyData} (h1 : gt n x = true) (h2 : gt n y = true) (h3 : gt n z = true) : gt (n + 1) (.tuple [x, y, z]) = true := by
  show (decide (3 ≤ 5000) && (gt n x && (gt n y && (gt n z && true)))) = true
  rw [h1, h2, h3]
  rfl
theorem gt_up : ∀ {n : Nat} {d : PyData}, gt n d = true → gt (n + 1) d = true
  | 0, _, h => by cases h
  | n + 1, .none, _ => rfl
  | n + 1, .int _, _ => rfl
  | n + 1, .str s, h => h
  | n + 1, .tuple ds, h => by
    have h : (decide (ds.length ≤ 5000) && ds.all (gt n)) = true := h
    rw [Bool.and_eq_true, List.all_eq_true] at h
    show (decide (ds.length ≤ 5000) && ds.all (gt (n + 1))) = true
    rw [h.1, Bool.true_and, List.all_eq_true]
    exact fun x hx => gt_up (h.2 x hx)
  | n + 1, .bool _, h => by cases h
  | n + 1, .list _, h => by cases h
  | n + 1, .dict _, h => by cases h
theorem way_names {ins : List Str} {ts : List Trt} {gs : List Int} {z : Str} {L : List (Str × Nat)} {en : Str ⊕ Nat} (h : Way ins ts gs z L en) : (∀ p ∈ L, p.1 ∈ ins) ∧ ∀ u, en = .inl u → u ∈ ins := by
  induction h with
  | stop a b c => exact ⟨fun p hp => (nomatch hp), fun u hu => by cases hu; exact List.mem_of_getElem? a⟩
  | out a b c d e => exact ⟨fun p hp => by rw [List.mem_singleton.mp hp]; exact List.mem_of_getElem? a, fun u hu => by cases hu⟩
  | go a b c d e w ih =>
    refine ⟨fun p hp => ?_, ih.2⟩
    rcases List.mem_cons.mp hp with rfl | hp
    · exact List.mem_of_getElem? a
    · exact ih.1 p hp
theorem gt_way {ins : List Str} (hs : ∀ z ∈ ins, PyData.strOk z = true) {L : List (Str × Nat)} (hL : ∀ p ∈ L, p.1 ∈ ins) (hl : L.length ≤ 5000) : gt 3 (.tuple (L.map passD)) = true := by
  show (decide ((L.map passD).length ≤ 5000) && (L.map passD).all (gt 2)) = true
  rw [List.length_map, decide_eq_true hl, List.all_map, Bool.true_and, List.all_eq_true]
  intro p hp
  exact gt_2 (n := 1) (hs _ (hL p hp)) rfl
theorem gt_end {ins : List Str} (hs : ∀ z ∈ ins, PyData.strOk z = true) {en : Str ⊕ Nat} (he : ∀ u, en = .inl u → u ∈ ins) : gt 2 (endD en) = true := by
  cases en with
  | inl u => exact gt_2 (n := 1) (by decide +kernel) (hs u (he u rfl))
  | inr n => exact gt_2 (n := 1) (by decide +kernel) rfl
theorem shp_g6 {n : Nat} {d : PyData} (h : gt n d = true) (hn : n ≤ 64) : SeqAt.shaped d = true := by
  obtain ⟨h1, h2⟩ := dep_gt h
  show (d.canLay0 && decide (d.depth ≤ 64)) = true
  rw [h1, decide_eq_true (by omega)]
  rfl
def exM : Mkt := ⟨exI, ["storm"], [exT0, exT1], exL⟩
theorem ex_fix : (9 : Nat) ≤ 200 ∧ row exM.ins exM.trs (directs exM.ins exM.los "storm") (9 + 1) = row exM.ins exM.trs (directs exM.ins exM.los "storm") 9 ∧ (∀ j, j < 9 → row exM.ins exM.trs (directs exM.ins exM.los "storm") (j + 1) ≠ row exM.ins exM.trs (directs exM.ins exM.los "storm") j) ∧ big (row exM.ins exM.trs (directs exM.ins exM.los "storm") 9) = false :=
  ⟨by decide, by decide +kernel, by decide +kernel, by decide +kernel⟩
def exW : List (Str × Nat) := [("ada", 0), ("bob", 1), ("ada", 0), ("bob", 1)]
theorem ex5_r : row exM.ins exM.trs (directs exM.ins exM.los "storm") 9 = [170, 70, 0] := by decide +kernel
theorem ex5_w : Way exM.ins exM.trs (row exM.ins exM.trs (directs exM.ins exM.los "storm") 9) "ada" exW (.inr 1) := by
  rw [ex5_r]
  exact .go (k := 0) (x := 170) (n := 0) (a := 70) (t := exT0) (u := "bob") (s := 1) rfl rfl (by decide +kernel) rfl (by decide +kernel)
    (.go (k := 1) (x := 70) (n := 1) (a := 20) (t := exT1) (u := "ada") (s := 1) rfl rfl (by decide +kernel) rfl (by decide +kernel)
      (.go (k := 0) (x := 171) (n := 0) (a := 71) (t := exT0) (u := "bob") (s := 1) rfl rfl (by decide +kernel) rfl (by decide +kernel)
        (.out (k := 1) (x := 71) (n := 1) (a := 21) (t := exT1) (s := 1) rfl rfl (by decide +kernel) rfl (by decide +kernel))))
theorem ex5_c : Way exM.ins exM.trs (row exM.ins exM.trs (directs exM.ins exM.los "storm") 9) "cyd" [] (.inl "cyd") := by
  rw [ex5_r]
  exact .stop (k := 2) (x := 0) rfl rfl (by decide +kernel)
theorem ex5_f : fate exM.ins exM.trs ((directs exM.ins exM.los "storm").set 0 (160 + 1)) true := fate_dec (by decide +kernel)
theorem ex5_fc : fate exM.ins exM.trs ((directs exM.ins exM.los "storm").set 2 (0 + 1)) true := fate_dec (by decide +kernel)
def r51 : List PyData := [unitD [] (.inl "ada"), unitD (exW.take 2) (.inl "ada"), unitD exW (.inr 0)]
theorem r51_no : ∀ d ∈ r51, PyData.eqv d (unitD exW (.inr 1)) = false ∧ noB 6 d = true := by
  unfold r51
  simp only [List.forall_mem_cons]
  exact ⟨⟨by decide +kernel, by decide +kernel⟩, ⟨by decide +kernel, by decide +kernel⟩, ⟨by decide +kernel, by decide +kernel⟩, fun d hd => (nomatch hd)⟩
def flt (l : List (Nat × Int × Int)) : List Nat := (l.filter fun e => decide (e.2.1 < e.2.2)).map (·.1)
theorem flt_none : ∀ {l : List (Nat × Int × Int)}, fnd l = none → flt l = []
  | [], _ => rfl
  | e :: l, h => by
    by_cases c : e.2.1 < e.2.2
    · rw [fnd, if_pos c] at h
      cases h
    · rw [fnd, if_neg c] at h
      have := flt_none h
      unfold flt at this ⊢
      rw [List.filter_cons_of_neg (by rw [decide_eq_false c]; exact Bool.false_ne_true)]
      exact this
theorem flt_some : ∀ {l : List (Nat × Int × Int)} {n : Nat} {a : Int}, fnd l = some (n, a) → (∃ r, flt l = n :: r) ∧ ∃ (j : Nat) (b : Int), l[j]? = some (n, a, b)
  | [], _, _, h => by cases h
  | e :: l, n, a, h => by
    by_cases c : e.2.1 < e.2.2
    · rw [fnd, if_pos c] at h
      cases h
      refine ⟨⟨flt l, ?_⟩, 0, e.2.2, rfl⟩
      unfold flt
      rw [List.filter_cons_of_pos (by rw [decide_eq_true c])]
      rfl
    · rw [fnd, if_neg c] at h
      obtain ⟨⟨r, h1⟩, j, b, h2⟩ := flt_some h
      refine ⟨⟨r, ?_⟩, j + 1, b, h2⟩
      unfold flt at h1 ⊢
      rw [List.filter_cons_of_neg (by rw [decide_eq_false c]; exact Bool.false_ne_true)]
      exact h1
theorem flt_add {l : List (Nat × Int × Int)} {i : Nat} {e : Nat × Int × Int} (h : l[i]? = some e) : flt (l.take (i + 1)) = if e.2.1 < e.2.2 then flt (l.take i) ++ [e.1] else flt (l.take i) := by
  unfold flt
  rw [List.take_add_one, h]
  show ((l.take i ++ [e]).filter _).map _ = _
  rw [List.filter_append, List.map_append]
  by_cases c : e.2.1 < e.2.2
  · rw [if_pos c, List.filter_cons_of_pos (by rw [decide_eq_true c])]
    rfl
  · rw [if_neg c, List.filter_cons_of_neg (by rw [decide_eq_false c]; exact Bool.false_ne_true)]
    exact List.append_nil _
theorem way_go {ins : List Str} {ts : List Trt} (hn : ins.Nodup) {gs : List Int} {c u : Str} {L : List (Str × Nat)} {en : Str ⊕ Nat} {k n : Nat} {x a s : Int} {t : Trt} (h : Way ins ts gs c L en) (h1 : ins[k]? = some c) (h2 : gs[k]? = some x) (h3 : stepS c ts x = some (n, a)) (h4 : ts[n]? = some t) (h5 : whoS t a = some (some u, s)) : ∃ L2, L = (c, n) :: L2 ∧ Way ins ts (gs.set k (x + 1)) u L2 en := by
  have key : ∀ {k' : Nat} {x' : Int}, ins[k']? = some c → gs[k']? = some x' → k = k' ∧ x = x' := fun {k' x'} b d => by
    have := nd_at hn h1 b
    subst this
    rw [h2] at d
    exact ⟨rfl, Option.some.inj d⟩
  cases h with
  | stop a' b' c' =>
    obtain ⟨rfl, rfl⟩ := key a' b'
    rw [h3] at c'
    cases c'
  | out a' b' c' d' e' =>
    obtain ⟨rfl, rfl⟩ := key a' b'
    rw [h3] at c'
    cases c'
    rw [h4] at d'
    cases d'
    rw [h5] at e'
    cases e'
  | go a' b' c' d' e' w =>
    obtain ⟨rfl, rfl⟩ := key a' b'
    rw [h3] at c'
    cases c'
    rw [h4] at d'
    cases d'
    rw [h5] at e'
    cases e'
    exact ⟨_, rfl, w⟩
def sp_lw_way (K : PySem.W.Frag) (C : Addr) : Sp := fun vs H Q _ => ∃ (m : Addr) (M : Mkt) (e z : Str) (k i : Nat), vs = [.ref m, .str e, .str z] ∧ MktAt K C H m M ∧ DgMkt M ∧ e ∈ M.evs ∧ M.ins[k]? = some z ∧
  i ≤ 200 ∧ row M.ins M.trs (directs M.ins M.los e) (i + 1) = row M.ins M.trs (directs M.ins M.los e) i ∧ (∀ j, j < i → row M.ins M.trs (directs M.ins M.los e) (j + 1) ≠ row M.ins M.trs (directs M.ins M.los e) j) ∧ big (row M.ins M.trs (directs M.ins M.los e) i) = false ∧
  ((∀ L en, Way M.ins M.trs (row M.ins M.trs (directs M.ins M.los e) i) z L en → 400 ≤ L.length) → ∀ H', Same H H' → Q .non H') ∧
  ∀ (L : List (Str × Nat)) (en : Str ⊕ Nat), Way M.ins M.trs (row M.ins M.trs (directs M.ins M.los e) i) z L en → ∀ (p t f : Addr) (ps : List V) (H' : Hp), Same H H' → H' p = some (.tup [.ref t, .ref f]) → SqT K H' t ps → AllAt (PassR K) H' ps L → SqT K H' f (endV en) → Q (.ref p) H'
def sp_lw_explained (K : PySem.W.Frag) (C : Addr) : Sp := fun vs H Q _ => ∃ (m : Addr) (M : Mkt) (e z : Str) (k : Nat) (d : Int), vs = [.ref m, .str e, .str z] ∧ MktAt K C H m M ∧ TrsOk M.ins M.trs ∧ e ∈ M.evs ∧ M.ins[k]? = some z ∧ (directs M.ins M.los e)[k]? = some d ∧
  ((fate M.ins M.trs ((directs M.ins M.los e).set k (d + 1)) false ∧ ∀ H', Same H H' → Q (.bl true) H') ∨
  (fate M.ins M.trs ((directs M.ins M.los e).set k (d + 1)) true ∧ ∃ (i : Nat) (L : List (Str × Nat)) (en : Str ⊕ Nat), i ≤ 200 ∧ row M.ins M.trs (directs M.ins M.los e) (i + 1) = row M.ins M.trs (directs M.ins M.los e) i ∧ (∀ j, j < i → row M.ins M.trs (directs M.ins M.los e) (j + 1) ≠ row M.ins M.trs (directs M.ins M.los e) j) ∧ big (row M.ins M.trs (directs M.ins M.los e) i) = false ∧
      Way M.ins M.trs (row M.ins M.trs (directs M.ins M.los e) i) z L en ∧ L.length ≤ 1000 ∧
      ∀ p t f ps H', Same H H' → H' p = some (.tup [.str "unit", .ref t, .ref f]) → H' t = some (.tup ps) → AllAt (PassR K) H' ps L → H' f = some (.tup (endV en)) → Q (.ref p) H'))
def sp_k51_fixed (K : PySem.W.Frag) : Sp := fun vs H Q _ => vs = [] ∧ ∀ H', Same H H' → Q (.bl true) H'
def sp_law (K : PySem.W.Frag) : Sp := fun vs H Q _ => ∃ (a : Addr) (ns : List Int), vs = [.ref a] ∧ SqL K H a (ns.map V.int) ∧ ns.length ≤ 63 ∧ ∀ H', Q (.bl true) H'

end Sd
namespace Sd
open PySem PySem.Spec PyProof.Rows L2
set_option linter.all false
section
variable {P : Program} {w : World} {K : PySem.W.Frag} {mg : Str → Option Value} {base : Heap} {C_SpiralError C_BadName C_BadCover C_BadPanel C_BadAmount C_NameTaken C_NoSuchName C_Twice C_OwnPanel C_TooMany C_NoEnd C_Market : Addr}
theorem ok_NameTaken___init {f : Addr} {fd : FuncData} (D_NameTaken___init : Ini K C_NameTaken "NameTaken.__init__" s_NameTaken___init ["self", "name"] f fd) (T : Tx K mg C_SpiralError C_BadName C_BadCover C_BadPanel C_BadAmount C_NameTaken C_NoSuchName C_Twice C_OwnPanel C_TooMany C_NoEnd C_Market) :
    FnOk P w K mg base CX0 (1) f fd ["self", "name"] (sp_xi "name" C_NameTaken) := by
  refine D_NameTaken___init.F.ok sc_NameTaken___init (fun vs H Q E h => ?_) (fun cdv A outer s H vs Q E hr h => ?_)
  · obtain ⟨a, v, rfl, ha, q⟩ := h
    rfl
  obtain ⟨a, v, rfl, ha, q⟩ := h
  refine ⟨_, (pss_one (ps_ost (pv 0) (pv 1))), ?_⟩
  exact ⟨_, rfl, _, rfl, a, C_NameTaken, rfl, T.ox_NameTaken.o, T.ox_NameTaken.no, .inl ⟨ha, q⟩⟩

theorem ok_NoSuchName___init {f : Addr} {fd : FuncData} (D_NoSuchName___init : Ini K C_NoSuchName "NoSuchName.__init__" s_NoSuchName___init ["self", "name"] f fd) (T : Tx K mg C_SpiralError C_BadName C_BadCover C_BadPanel C_BadAmount C_NameTaken C_NoSuchName C_Twice C_OwnPanel C_TooMany C_NoEnd C_Market) :
    FnOk P w K mg base CX0 (1) f fd ["self", "name"] (sp_xi "name" C_NoSuchName) := by
  refine D_NoSuchName___init.F.ok sc_NoSuchName___init (fun vs H Q E h => ?_) (fun cdv A outer s H vs Q E hr h => ?_)
  · obtain ⟨a, v, rfl, ha, q⟩ := h
    rfl
  obtain ⟨a, v, rfl, ha, q⟩ := h
  refine ⟨_, (pss_one (ps_ost (pv 0) (pv 1))), ?_⟩
  exact ⟨_, rfl, _, rfl, a, C_NoSuchName, rfl, T.ox_NoSuchName.o, T.ox_NoSuchName.no, .inl ⟨ha, q⟩⟩

theorem ok_is_between {f : Addr} {fd : FuncData} (D_is_between : Dfn K mg "is_between" s_is_between ["value", "low", "high"] f fd) (T : Tx K mg C_SpiralError C_BadName C_BadCover C_BadPanel C_BadAmount C_NameTaken C_NoSuchName C_Twice C_OwnPanel C_TooMany C_NoEnd C_Market) :
    FnOk P w K mg base CX0 (1) f fd ["value", "low", "high"] (sp_is_between K) := by
  refine D_is_between.F.ok sc_is_between (fun vs H Q E h => ?_) (fun cdv A outer s H vs Q E hr h => ?_)
  · obtain ⟨x, lo, hi, rfl, hf, q⟩ := h
    rfl
  obtain ⟨x, lo, hi, rfl, hf, q⟩ := h
  obtain ⟨n, ty, k⟩ := hf
  rcases k with ⟨rfl, b, rfl⟩ | ⟨rfl, i, rfl⟩ | ⟨rfl | rfl | rfl | rfl | rfl, e⟩
  · refine ⟨_, (pss_cons (ps_if (PW.pt (pw_or (pt_val (pe_callB call_isi (by rfl) T.isinstance (by decide +kernel) (pa_cons (pv 0) (pa_cons (pe_bltn (v := .ty "bool") (by rfl) T.bool (by decide +kernel) rfl) pa_nil)))) (pw_or1 (pt_not (pt_val (pe_callB call_isi (by rfl) T.isinstance (by decide +kernel) (pa_cons (pv 0) (pa_cons (pe_bltn (v := .ty "int") (by rfl) T.int (by decide +kernel) rfl) pa_nil))))))))
      (pss_one (ps_ret pe_bl))
      pss_nil)
      (pss_one (ps_ret (pe_chain op_le op_le (pv 1) (pv 0) (pv 2))))), ?_⟩
    refine ⟨_, rfl, _, _, _, _, _, rfl, .ty _, ty, kit_ty (r := true) (by decide +kernel), _, rfl, iteT (iteT ?_)⟩
    exact q
  · refine ⟨_, (pss_cons (ps_if (PW.pt (pw_or (pt_val (pe_callB call_isi (by rfl) T.isinstance (by decide +kernel) (pa_cons (pv 0) (pa_cons (pe_bltn (v := .ty "bool") (by rfl) T.bool (by decide +kernel) rfl) pa_nil)))) (pw_or1 (pt_not (pt_val (pe_callB call_isi (by rfl) T.isinstance (by decide +kernel) (pa_cons (pv 0) (pa_cons (pe_bltn (v := .ty "int") (by rfl) T.int (by decide +kernel) rfl) pa_nil))))))))
      (pss_one (ps_ret pe_bl))
      pss_nil)
      (pss_one (ps_ret (pe_chain op_le op_le (pv 1) (pv 0) (pv 2))))), ?_⟩
    refine ⟨_, rfl, _, _, _, _, _, rfl, .ty _, ty, kit_ty (r := false) (by decide +kernel), _, rfl, iteF ?_⟩
    refine ⟨_, rfl, _, _, _, _, _, rfl, .ty _, ty, kit_ty (r := true) (by decide +kernel), _, rfl, iteF ?_⟩
    refine ⟨_, rfl, _, rfl, _, _, rfl, rfl, _, rfl, ?_⟩
    have q : Q (.bl (decide (lo ≤ i) && decide (i ≤ hi))) H := q
    refine iteB (fun c => ?_) (fun c => ?_)
    · rw [c, Bool.true_and] at q
      exact ⟨_, rfl, _, _, rfl, rfl, q⟩
    · rw [c, Bool.false_and] at q
      exact q
  · refine ⟨_, (pss_cons (ps_if (PW.pt (pw_or (pt_val (pe_callB call_isi (by rfl) T.isinstance (by decide +kernel) (pa_cons (pv 0) (pa_cons (pe_bltn (v := .ty "bool") (by rfl) T.bool (by decide +kernel) rfl) pa_nil)))) (pw_or1 (pt_not (pt_val (pe_callB call_isi (by rfl) T.isinstance (by decide +kernel) (pa_cons (pv 0) (pa_cons (pe_bltn (v := .ty "int") (by rfl) T.int (by decide +kernel) rfl) pa_nil))))))))
      (pss_one (ps_ret pe_bl))
      pss_nil)
      (pss_one (ps_ret (pe_chain op_le op_le (pv 1) (pv 0) (pv 2))))), ?_⟩
    rw [e] at q
    refine ⟨_, rfl, _, _, _, _, _, rfl, .ty _, ty, kit_ty (r := false) (by decide +kernel), _, rfl, iteF ?_⟩
    refine ⟨_, rfl, _, _, _, _, _, rfl, .ty _, ty, kit_ty (r := false) (by decide +kernel), _, rfl, iteT ?_⟩
    exact q
  · refine ⟨_, (pss_cons (ps_if (PW.pt (pw_or (pt_val (pe_callB call_isi (by rfl) T.isinstance (by decide +kernel) (pa_cons (pv 0) (pa_cons (pe_bltn (v := .ty "bool") (by rfl) T.bool (by decide +kernel) rfl) pa_nil)))) (pw_or1 (pt_not (pt_val (pe_callB call_isi (by rfl) T.isinstance (by decide +kernel) (pa_cons (pv 0) (pa_cons (pe_bltn (v := .ty "int") (by rfl) T.int (by decide +kernel) rfl) pa_nil))))))))
      (pss_one (ps_ret pe_bl))
      pss_nil)
      (pss_one (ps_ret (pe_chain op_le op_le (pv 1) (pv 0) (pv 2))))), ?_⟩
    rw [e] at q
    refine ⟨_, rfl, _, _, _, _, _, rfl, .ty _, ty, kit_ty (r := false) (by decide +kernel), _, rfl, iteF ?_⟩
    refine ⟨_, rfl, _, _, _, _, _, rfl, .ty _, ty, kit_ty (r := false) (by decide +kernel), _, rfl, iteT ?_⟩
    exact q
  · refine ⟨_, (pss_cons (ps_if (PW.pt (pw_or (pt_val (pe_callB call_isi (by rfl) T.isinstance (by decide +kernel) (pa_cons (pv 0) (pa_cons (pe_bltn (v := .ty "bool") (by rfl) T.bool (by decide +kernel) rfl) pa_nil)))) (pw_or1 (pt_not (pt_val (pe_callB call_isi (by rfl) T.isinstance (by decide +kernel) (pa_cons (pv 0) (pa_cons (pe_bltn (v := .ty "int") (by rfl) T.int (by decide +kernel) rfl) pa_nil))))))))
      (pss_one (ps_ret pe_bl))
      pss_nil)
      (pss_one (ps_ret (pe_chain op_le op_le (pv 1) (pv 0) (pv 2))))), ?_⟩
    rw [e] at q
    refine ⟨_, rfl, _, _, _, _, _, rfl, .ty _, ty, kit_ty (r := false) (by decide +kernel), _, rfl, iteF ?_⟩
    refine ⟨_, rfl, _, _, _, _, _, rfl, .ty _, ty, kit_ty (r := false) (by decide +kernel), _, rfl, iteT ?_⟩
    exact q
  · refine ⟨_, (pss_cons (ps_if (PW.pt (pw_or (pt_val (pe_callB call_isi (by rfl) T.isinstance (by decide +kernel) (pa_cons (pv 0) (pa_cons (pe_bltn (v := .ty "bool") (by rfl) T.bool (by decide +kernel) rfl) pa_nil)))) (pw_or1 (pt_not (pt_val (pe_callB call_isi (by rfl) T.isinstance (by decide +kernel) (pa_cons (pv 0) (pa_cons (pe_bltn (v := .ty "int") (by rfl) T.int (by decide +kernel) rfl) pa_nil))))))))
      (pss_one (ps_ret pe_bl))
      pss_nil)
      (pss_one (ps_ret (pe_chain op_le op_le (pv 1) (pv 0) (pv 2))))), ?_⟩
    rw [e] at q
    refine ⟨_, rfl, _, _, _, _, _, rfl, .ty _, ty, kit_ty (r := false) (by decide +kernel), _, rfl, iteF ?_⟩
    refine ⟨_, rfl, _, _, _, _, _, rfl, .ty _, ty, kit_ty (r := false) (by decide +kernel), _, rfl, iteT ?_⟩
    exact q
  · refine ⟨_, (pss_cons (ps_if (PW.pt (pw_or (pt_val (pe_callB call_isi (by rfl) T.isinstance (by decide +kernel) (pa_cons (pv 0) (pa_cons (pe_bltn (v := .ty "bool") (by rfl) T.bool (by decide +kernel) rfl) pa_nil)))) (pw_or1 (pt_not (pt_val (pe_callB call_isi (by rfl) T.isinstance (by decide +kernel) (pa_cons (pv 0) (pa_cons (pe_bltn (v := .ty "int") (by rfl) T.int (by decide +kernel) rfl) pa_nil))))))))
      (pss_one (ps_ret pe_bl))
      pss_nil)
      (pss_one (ps_ret (pe_chain op_le op_le (pv 1) (pv 0) (pv 2))))), ?_⟩
    rw [e] at q
    refine ⟨_, rfl, _, _, _, _, _, rfl, .ty _, ty, kit_ty (r := false) (by decide +kernel), _, rfl, iteF ?_⟩
    refine ⟨_, rfl, _, _, _, _, _, rfl, .ty _, ty, kit_ty (r := false) (by decide +kernel), _, rfl, iteT ?_⟩
    exact q

theorem ok_is_name {f : Addr} {fd : FuncData} (D_is_name : Dfn K mg "is_name" s_is_name ["value"] f fd) (T : Tx K mg C_SpiralError C_BadName C_BadCover C_BadPanel C_BadAmount C_NameTaken C_NoSuchName C_Twice C_OwnPanel C_TooMany C_NoEnd C_Market) :
    FnOk P w K mg base CX0 (1) f fd ["value"] (sp_is_name K) := by
  refine D_is_name.F.ok sc_is_name (fun vs H Q E h => ?_) (fun cdv A outer s H vs Q E hr h => ?_)
  · obtain ⟨x, rfl, h⟩ := h
    rfl
  obtain ⟨x, rfl, h⟩ := h
  refine ⟨_, (pss_cons (ps_if (PW.pt (pw_or (pt_not (pt_val (pe_callB call_isi (by rfl) T.isinstance (by decide +kernel) (pa_cons (pv 0) (pa_cons (pe_bltn (v := .ty "str") (by rfl) T.str (by decide +kernel) rfl) pa_nil))))) (pw_or1 (pt_not (pt_chain op_le op_le pe_int (pe_callB call_len_str (by rfl) T.len PySem.boot_len (pa_cons (pv 0) pa_nil)) (pe_gi rfl T.g_MOST_LETTERS))))))
      (pss_one (ps_ret pe_bl))
      pss_nil)
      (pss_one (ps_ret (pe_callB (cr_all rfl) (by rfl) T.all (by decide +kernel) (pa_cons (pe_lc (own := [("letter", 1)]) (g := (gName 1)) (tt := tYes) rfl sc_is_name.nd (pi_str (pv 0)) (blkOk_by (own := [("letter", 1)]) (N := (["value", "letter"] : List Str)) (sc := defScope s_is_name) (by decide +kernel)) (fun _ _ _ _ _ => (pg_name (i := 1) sc_is_name.nd rfl (by first | exact Or.inl rfl | exact Or.inr rfl))) (fun _ _ _ _ _ => pts_nil) (fun _ _ _ _ _ => (pe_cmpR op_in_sign (pv 1) (pe_gs rfl T.g_LETTERS) (by with_unfolding_all rfl)))) pa_nil))))), ?_⟩
  rcases h with ⟨⟨z, rfl, hz, hn⟩, q⟩ | ⟨⟨z, rfl, hz, hn⟩ | ⟨t, ty, hk⟩, q⟩
  · refine ⟨_, rfl, _, _, _, _, _, rfl, .ty _, .base (.str z), kit_ty (r := true) (by decide +kernel), _, rfl, iteF ?_⟩
    unfold isNm at hn
    rw [Bool.and_eq_true, Bool.and_eq_true] at hn
    obtain ⟨⟨h1, h2⟩, h3⟩ := hn
    refine ⟨_, rfl, z, rfl, sz (by omega), _, _, rfl, rfl, _, rfl, ?_⟩
    have h1' : decide ((1 : Int) ≤ (z.length : Int)) = true := decide_eq_true (by have := of_decide_eq_true h1; omega)
    rw [h1']
    refine iteT ⟨_, _, rfl, rfl, _, rfl, ?_⟩
    have h2' : decide ((z.length : Int) ≤ 12) = true := decide_eq_true (by have := of_decide_eq_true h2; omega)
    rw [h2']
    refine iteF ?_
    refine ⟨_, rfl, z, rfl, fun D nD => lc_it walk_str (fun i H' => Same H H' ∧ H' D = some (.lst (((z.cps.toList.map fun c => decide (c ∈ lets)).map V.bl).take i))) ⟨same_new nD, upd_same⟩ (fun _ _ _ _ => trivial) ?_ ?_⟩
    · rintro i x H1 H' hi ⟨sm, hD⟩ ⟨rfl, c, hc, rfl⟩
      have hy : ((z.cps.toList.map fun c => decide (c ∈ lets)).map V.bl)[i]? = some (.bl (decide (c ∈ lets))) := by
        rw [List.getElem?_map, List.getElem?_map, Array.getElem?_toList, hc]
        rfl
      exact ⟨rfl, ⟨_, rfl, c, _, rfl, rfl, acc_to nD sm hD hy (by rw [List.length_map, List.length_map]; exact Nat.le_trans hz (by decide))⟩⟩
    · rintro H' ⟨sm, hD⟩
      have hD2 := acc_all (by rw [List.length_map, List.length_map]; rfl) hD
      refine ⟨D, _, rfl, SqL.of hD2, ?_⟩
      rw [List.all_map]
      have e : (z.cps.toList.all (id ∘ fun c => decide (c ∈ lets))) = true := h3
      rw [e]
      exact q H' sm
  · refine ⟨_, rfl, _, _, _, _, _, rfl, .ty _, .base (.str z), kit_ty (r := true) (by decide +kernel), _, rfl, iteF ?_⟩
    unfold isNm at hn
    refine ⟨_, rfl, z, rfl, sz (by omega), _, _, rfl, rfl, _, rfl, ?_⟩
    have e1 : decide ((1 : Int) ≤ (z.length : Int)) = decide (1 ≤ z.length) := by
      by_cases h : 1 ≤ z.length
      · rw [decide_eq_true h, decide_eq_true (by omega)]
      · rw [decide_eq_false h, decide_eq_false (by omega)]
    rw [e1]
    refine iteB (fun h1 => ?_) (fun h1 => ?_)
    · refine ⟨_, _, rfl, rfl, _, rfl, ?_⟩
      have e2 : decide ((z.length : Int) ≤ 12) = decide (z.length ≤ 12) := by
        by_cases h : z.length ≤ 12
        · rw [decide_eq_true h, decide_eq_true (by omega)]
        · rw [decide_eq_false h, decide_eq_false (by omega)]
      rw [e2]
      cases h2 : decide (z.length ≤ 12) with
      | false => exact iteT (q H (Same.refl H))
      | true =>
        rw [h1, h2, Bool.true_and, Bool.true_and] at hn
        refine iteF ?_
        refine ⟨_, rfl, z, rfl, fun D nD => lc_it walk_str (fun i H' => Same H H' ∧ H' D = some (.lst (((z.cps.toList.map fun c => decide (c ∈ lets)).map V.bl).take i))) ⟨same_new nD, upd_same⟩ (fun _ _ _ _ => trivial) ?_ ?_⟩
        · rintro i x H1 H' hi ⟨sm, hD⟩ ⟨rfl, c, hc, rfl⟩
          have hy : ((z.cps.toList.map fun c => decide (c ∈ lets)).map V.bl)[i]? = some (.bl (decide (c ∈ lets))) := by
            rw [List.getElem?_map, List.getElem?_map, Array.getElem?_toList, hc]
            rfl
          exact ⟨rfl, ⟨_, rfl, c, _, rfl, rfl, acc_to nD sm hD hy (by rw [List.length_map, List.length_map]; exact Nat.le_trans hz (by decide))⟩⟩
        · rintro H' ⟨sm, hD⟩
          have hD2 := acc_all (by rw [List.length_map, List.length_map]; rfl) hD
          refine ⟨D, _, rfl, SqL.of hD2, ?_⟩
          rw [List.all_map]
          have e : (z.cps.toList.all (id ∘ fun c => decide (c ∈ lets))) = false := hn
          rw [e]
          exact q H' sm
    · exact ⟨_, rfl, iteT (q H (Same.refl H))⟩
  · exact ⟨_, rfl, _, _, _, _, _, rfl, .ty _, ty, hk, _, rfl, iteT (iteT (q H (Same.refl H)))⟩

theorem ok_check_name {f : Addr} {fd : FuncData} (D_check_name : Dfn K mg "check_name" s_check_name ["value"] f fd) (T : Tx K mg C_SpiralError C_BadName C_BadCover C_BadPanel C_BadAmount C_NameTaken C_NoSuchName C_Twice C_OwnPanel C_TooMany C_NoEnd C_Market) {f_is_name : Addr} {fd_is_name : FuncData} (D_is_name : Dfn K mg "is_name" s_is_name ["value"] f_is_name fd_is_name) (G_is_name : FnOk P w K mg base CX0 (1) f_is_name fd_is_name ["value"] (sp_is_name K)) :
    FnOk P w K mg base (L2.CX P w) (2) f fd ["value"] (sp_check_name K C_BadName) := by
  refine D_check_name.F.okX sc_check_name (fun vs H Q E h => ?_) (fun cdv A outer s H vs Q E hr h => ?_)
  · obtain ⟨x, rfl, h⟩ := h
    rfl
  obtain ⟨x, rfl, h⟩ := h
  refine ⟨_, (pss_one (ps_if (pt_not (pt_val (pe_call G_is_name (hr.mono (by first | decide | omega)) rfl D_is_name.m D_is_name.F.kp D_is_name.b .nil pass0 (pa_cons (pv 0) pa_nil))))
      (pss_one (ps_raise rfl (takes_of rfl rfl rfl rfl) (pmk_own PySem.F.excBase_ValueError T.exc_BadName.x T.exc_BadName.g T.exc_BadName.k (raises_own T.exc_BadName.b T.exc_BadName.t) rfl)))
      pss_nil)), ?_⟩
  rcases h with ⟨h, q⟩ | ⟨h, q⟩
  · exact ⟨_, rfl, _, rfl, .inl ⟨h, fun H' sm => ⟨_, rfl, iteF (q H' sm)⟩⟩⟩
  · exact ⟨_, rfl, _, rfl, .inr ⟨h, fun H' sm => ⟨_, rfl, iteT (q H' sm)⟩⟩⟩

theorem ok_check_known {f : Addr} {fd : FuncData} (D_check_known : Dfn K mg "check_known" s_check_known ["name", "names"] f fd) (T : Tx K mg C_SpiralError C_BadName C_BadCover C_BadPanel C_BadAmount C_NameTaken C_NoSuchName C_Twice C_OwnPanel C_TooMany C_NoEnd C_Market) {f_NoSuchName___init : Addr} {fd_NoSuchName___init : FuncData} (D_NoSuchName___init : Ini K C_NoSuchName "NoSuchName.__init__" s_NoSuchName___init ["self", "name"] f_NoSuchName___init fd_NoSuchName___init) (G_NoSuchName___init : FnOk P w K mg base CX0 (1) f_NoSuchName___init fd_NoSuchName___init ["self", "name"] (sp_xi "name" C_NoSuchName)) :
    FnOk P w K mg base (L2.CX P w) (3) f fd ["name", "names"] (sp_check_known K C_NoSuchName) := by
  refine D_check_known.F.okX sc_check_known (fun vs H Q E h => ?_) (fun cdv A outer s H vs Q E hr h => ?_)
  · obtain ⟨z, a, ys, rfl, hS, h⟩ := h
    rfl
  obtain ⟨z, a, ys, rfl, hS, h⟩ := h
  refine ⟨_, (pss_one (ps_if (pt_cmpR op_notIn_seq (pv 0) (pv 1) (by with_unfolding_all rfl))
      (pss_one (ps_raise rfl (takes_of rfl rfl rfl rfl) (pmk_oex T.ox_NoSuchName.o D_NoSuchName___init.i D_NoSuchName___init.t G_NoSuchName___init (hr.mono (by first | decide | omega)) D_NoSuchName___init.b .nil pass0 rfl T.ox_NoSuchName.g (pa_cons (pv 0) pa_nil))))
      pss_nil)), ?_⟩
  refine ⟨_, rfl, _, rfl, a, ys.map V.str, rfl, .inr hS, rfl, flat_strs ys, ?_⟩
  rw [inV_str]
  rcases h with ⟨hz, q⟩ | ⟨hz, q⟩
  · rw [decide_eq_true hz]
    exact ⟨_, rfl, iteF q⟩
  · rw [decide_eq_false hz]
    exact ⟨_, rfl, iteT ⟨_, rfl, mkO_to fun d nd => q d nd⟩⟩

theorem ok_check_names {f : Addr} {fd : FuncData} (D_check_names : Dfn K mg "check_names" s_check_names ["market", "event", "insurer"] f fd) (T : Tx K mg C_SpiralError C_BadName C_BadCover C_BadPanel C_BadAmount C_NameTaken C_NoSuchName C_Twice C_OwnPanel C_TooMany C_NoEnd C_Market) {f_check_known : Addr} {fd_check_known : FuncData} (D_check_known : Dfn K mg "check_known" s_check_known ["name", "names"] f_check_known fd_check_known) (G_check_known : FnOk P w K mg base (L2.CX P w) (3) f_check_known fd_check_known ["name", "names"] (sp_check_known K C_NoSuchName)) :
    FnOk P w K mg base (L2.CX P w) (4) f fd ["market", "event", "insurer"] (sp_check_names K C_Market C_NoSuchName) := by
  refine D_check_names.F.okX sc_check_names (fun vs H Q E h => ?_) (fun cdv A outer s H vs Q E hr h => ?_)
  · obtain ⟨m, M, e, z, rfl, hM, h⟩ := h
    rfl
  obtain ⟨m, M, e, z, rfl, hM, h⟩ := h
  refine ⟨_, (pss_cons (ps_expr (pe_call G_check_known (hr.mono (by first | decide | omega)) rfl D_check_known.m D_check_known.F.kp D_check_known.b .nil (passes_call (takes_of rfl rfl rfl rfl) (fun _ _ _ _ h => h)) (pa_cons (pv 1) (pa_cons (pe_fld (pv 0) rfl) pa_nil))))
      (pss_one (ps_expr (pe_call G_check_known (hr.mono (by first | decide | omega)) rfl D_check_known.m D_check_known.F.kp D_check_known.b .nil (passes_call (takes_of rfl rfl rfl rfl) (fun _ _ _ _ h => h)) (pa_cons (pv 2) (pa_cons (pe_fld (pv 0) rfl) pa_nil)))))), ?_⟩
  obtain ⟨dx, ai, ae, at', ad, h0, h1, h2, h3, h4, h5⟩ := id hM
  refine ⟨_, rfl, _, rfl, m, C_Market, dx, _, _, rfl, h0, T.cl_Market, T.no_Market_events, mf_e, e, ae, M.evs, rfl, h2, ?_⟩
  rcases h with ⟨he, q⟩ | ⟨he, hz, q⟩ | ⟨he, hz, q⟩
  · exact .inr ⟨he, fun d nd => q d _ (same_new nd) upd_same⟩
  · refine .inl ⟨he, ?_⟩
    exact ⟨_, rfl, _, rfl, m, C_Market, dx, _, _, rfl, h0, T.cl_Market, T.no_Market_insurers, mf_i, z, ai, M.ins, rfl, h1, .inr ⟨hz, fun d nd => q d _ (same_new nd) upd_same⟩⟩
  · refine .inl ⟨he, ?_⟩
    exact ⟨_, rfl, _, rfl, m, C_Market, dx, _, _, rfl, h0, T.cl_Market, T.no_Market_insurers, mf_i, z, ai, M.ins, rfl, h1, .inl ⟨hz, q H (Same.refl H)⟩⟩

theorem ok_is_entry {f : Addr} {fd : FuncData} (D_is_entry : Dfn K mg "is_entry" s_is_entry ["value"] f fd) (T : Tx K mg C_SpiralError C_BadName C_BadCover C_BadPanel C_BadAmount C_NameTaken C_NoSuchName C_Twice C_OwnPanel C_TooMany C_NoEnd C_Market) {f_is_name : Addr} {fd_is_name : FuncData} (D_is_name : Dfn K mg "is_name" s_is_name ["value"] f_is_name fd_is_name) (G_is_name : FnOk P w K mg base CX0 (1) f_is_name fd_is_name ["value"] (sp_is_name K)) {f_is_between : Addr} {fd_is_between : FuncData} (D_is_between : Dfn K mg "is_between" s_is_between ["value", "low", "high"] f_is_between fd_is_between) (G_is_between : FnOk P w K mg base CX0 (1) f_is_between fd_is_between ["value", "low", "high"] (sp_is_between K)) :
    FnOk P w K mg base CX0 (2) f fd ["value"] (sp_is_entry K) := by
  refine D_is_entry.F.ok sc_is_entry (fun vs H Q E h => ?_) (fun cdv A outer s H vs Q E hr h => ?_)
  · obtain ⟨x, rfl, h⟩ := h
    rfl
  obtain ⟨x, rfl, h⟩ := h
  refine ⟨_, (pss_cons (ps_if (PW.pt (pw_or (pt_not (pt_val (pe_callB call_isi (by rfl) T.isinstance (by decide +kernel) (pa_cons (pv 0) (pa_cons (pe_bltn (v := .ty "tuple") (by rfl) T.tuple (by decide +kernel) rfl) pa_nil))))) (pw_or1 (pt_cmpR op_ne (pe_callB call_len_seq (by rfl) T.len PySem.boot_len (pa_cons (pv 0) pa_nil)) pe_int (nomark _)))))
      (pss_one (ps_ret pe_bl))
      pss_nil)
      (pss_cons (ps_asg (pv 0) (pg_tup rfl (pgs_cons (pg_name (i := 1) sc_is_entry.nd rfl (by first | exact Or.inl rfl | exact Or.inr rfl)) (pgs_cons (pg_name (i := 2) sc_is_entry.nd rfl (by first | exact Or.inl rfl | exact Or.inr rfl)) pgs_nil))))
      (pss_cons (ps_if (PW.pt (pw_and (pt_cmpR op_notN (pv 1) pe_non (nomark _)) (pw_and1 (pt_not (pt_val (pe_call G_is_name (hr.mono (by first | decide | omega)) rfl D_is_name.m D_is_name.F.kp D_is_name.b .nil pass0 (pa_cons (pv 1) pa_nil)))))))
      (pss_one (ps_ret pe_bl))
      pss_nil)
      (pss_one (ps_ret (pe_call G_is_between (hr.mono (by first | decide | omega)) rfl D_is_between.m D_is_between.F.kp D_is_between.b .nil pass0 (pa_cons (pv 2) (pa_cons pe_int (pa_cons (pe_gi rfl T.g_MOST_SHARES) pa_nil))))))))), ?_⟩
  rcases h with ⟨e, ⟨a, rfl, hS⟩, ⟨hn, h1, h2⟩, q⟩ | ⟨⟨t, ty, hk⟩ | ⟨a, xs, rfl, hS, hl, h⟩, q⟩
  · refine ⟨_, rfl, _, _, _, _, _, rfl, .ty _, tyx_tup hS, kit_ty (r := true) (by decide +kernel), _, rfl, iteF ?_⟩
    refine ⟨_, rfl, a, _, rfl, .inr hS, rfl, _, rfl, iteF ?_⟩
    refine ⟨_, rfl, a, _, rfl, hS, rfl, _, _, rfl, _, _, rfl, rfl, ?_⟩
    have e2 : btw (.int e.2) 1 100 = true := by
      show (decide (1 ≤ e.2) && decide (e.2 ≤ 100)) = true
      rw [decide_eq_true h1, decide_eq_true h2]
      rfl
    rcases e with ⟨_ | z, n⟩
    · refine ⟨_, rfl, rfl, _, rfl, iteF (iteF ?_)⟩
      refine ⟨_, rfl, .int n, 1, 100, rfl, ty_flat rfl, ?_⟩
      rw [show btw (.int n) 1 100 = true from e2]
      exact q H (Same.refl H)
    · obtain ⟨hz, hz2⟩ := hn z rfl
      refine ⟨_, rfl, rfl, _, rfl, iteT ?_⟩
      refine ⟨_, rfl, _, rfl, .inl ⟨⟨z, rfl, hz2, hz⟩, fun H' sm => ⟨_, rfl, iteF ?_⟩⟩⟩
      refine ⟨_, rfl, .int n, 1, 100, rfl, ty_flat rfl, ?_⟩
      rw [show btw (.int n) 1 100 = true from e2]
      exact q H' sm
  · exact ⟨_, rfl, _, _, _, _, _, rfl, .ty _, ty, hk, _, rfl, iteT (iteT (q H (Same.refl H)))⟩
  · refine ⟨_, rfl, _, _, _, _, _, rfl, .ty _, tyx_tup hS, kit_ty (r := true) (by decide +kernel), _, rfl, iteF ?_⟩
    refine ⟨_, rfl, a, _, rfl, .inr hS, rfl, _, rfl, ?_⟩
    by_cases h2 : xs.length = 2
    · have e2 : decide (V.int ((xs.length : Nat) : Int) = V.int 2) = true := decide_eq_true (by rw [h2]; rfl)
      rw [e2]
      refine iteF ?_
      rcases h with h | ⟨p, s, rfl, fs, h⟩
      · exact absurd h2 h
      refine ⟨_, rfl, a, _, rfl, hS, rfl, _, _, rfl, _, _, rfl, rfl, ?_⟩
      have fin : ∀ H', Same H H' → btw s 1 100 = false → tRet (tCall (sp_is_between K) [] E0 (tCons (tVar 2) (tCons (tC (.int 1)) (tCons (tC (.int 100)) tNil)))) { nx := fun _ H' => Q .non H', rt := Q } [some (.ref a), some p, some s] H' := fun H' sm hb => by
        refine ⟨_, rfl, s, 1, 100, rfl, ty_flat fs, ?_⟩
        rw [hb]
        exact q H' sm
      rcases h with ⟨np, h⟩ | ⟨rfl | h, hb⟩
      · refine ⟨_, rfl, rfl, ?_⟩
        rw [decide_eq_false np]
        refine ⟨_, rfl, iteT ?_⟩
        exact ⟨_, rfl, _, rfl, .inr ⟨h, fun H' sm => ⟨_, rfl, iteT (q H' sm)⟩⟩⟩
      · exact ⟨_, rfl, rfl, _, rfl, iteF (iteF (fin H (Same.refl H) hb))⟩
      · obtain ⟨z, rfl, hz⟩ := id h
        refine ⟨_, rfl, rfl, _, rfl, iteT ?_⟩
        exact ⟨_, rfl, _, rfl, .inl ⟨h, fun H' sm => ⟨_, rfl, iteF (fin H' sm hb)⟩⟩⟩
    · have e2 : decide (V.int ((xs.length : Nat) : Int) = V.int 2) = false := decide_eq_false (fun e => h2 (by have := V.int.inj e; omega))
      rw [e2]
      exact iteT (q H (Same.refl H))

theorem ok_is_panel {f : Addr} {fd : FuncData} (D_is_panel : Dfn K mg "is_panel" s_is_panel ["value"] f fd) (T : Tx K mg C_SpiralError C_BadName C_BadCover C_BadPanel C_BadAmount C_NameTaken C_NoSuchName C_Twice C_OwnPanel C_TooMany C_NoEnd C_Market) {f_is_entry : Addr} {fd_is_entry : FuncData} (D_is_entry : Dfn K mg "is_entry" s_is_entry ["value"] f_is_entry fd_is_entry) (G_is_entry : FnOk P w K mg base CX0 (2) f_is_entry fd_is_entry ["value"] (sp_is_entry K)) :
    FnOk P w K mg base CX0 (3) f fd ["value"] (sp_is_panel K) := by
  refine D_is_panel.F.ok sc_is_panel (fun vs H Q E h => ?_) (fun cdv A outer s H vs Q E hr h => ?_)
  · obtain ⟨x, rfl, h⟩ := h
    rfl
  obtain ⟨x, rfl, h⟩ := h
  refine ⟨_, (pss_cons (ps_if (PW.pt (pw_or (pt_not (pt_val (pe_callB call_isi (by rfl) T.isinstance (by decide +kernel) (pa_cons (pv 0) (pa_cons (pe_bltn (v := .ty "tuple") (by rfl) T.tuple (by decide +kernel) rfl) pa_nil))))) (pw_or1 (pt_not (pt_chain op_le op_le pe_int (pe_callB call_len_seq (by rfl) T.len PySem.boot_len (pa_cons (pv 0) pa_nil)) (pe_gi rfl T.g_MOST_ENTRIES))))))
      (pss_one (ps_ret pe_bl))
      pss_nil)
      (pss_cons (ps_if (pt_not (pt_val (pe_callB (cr_all rfl) (by rfl) T.all (by decide +kernel) (pa_cons (pe_lc (own := [("entry", 1)]) (g := (gName 1)) (tt := tYes) rfl sc_is_panel.nd (pi_tup (pv 0)) (blkOk_by (own := [("entry", 1)]) (N := (["value", "entry", "_", "shares"] : List Str)) (sc := defScope s_is_panel) (by decide +kernel)) (fun _ _ _ _ _ => (pg_name (i := 1) sc_is_panel.nd rfl (by first | exact Or.inl rfl | exact Or.inr rfl))) (fun _ _ _ _ _ => pts_nil) (fun _ _ _ _ _ => (pe_call G_is_entry (hr.mono (by first | decide | omega)) rfl D_is_entry.m D_is_entry.F.kp D_is_entry.b .nil pass0 (pa_cons (pv 1) pa_nil)))) pa_nil))))
      (pss_one (ps_ret pe_bl))
      pss_nil)
      (pss_one (ps_ret (pe_cmpR op_le (pe_callB (cr_sumS rfl) (by rfl) T.sum (by decide +kernel) (pa_cons (pe_lc (own := [("_", 2), ("shares", 3)]) (g := (gTup K 2 (gCons (gName 2) (gCons (gName 3) gNil)))) (tt := tYes) rfl sc_is_panel.nd (pi_tup (pv 0)) (blkOk_by (own := [("_", 2), ("shares", 3)]) (N := (["value", "entry", "_", "shares"] : List Str)) (sc := defScope s_is_panel) (by decide +kernel)) (fun _ _ _ _ _ => (pg_tup rfl (pgs_cons (pg_name (i := 2) sc_is_panel.nd rfl (by first | exact Or.inl rfl | exact Or.inr rfl)) (pgs_cons (pg_name (i := 3) sc_is_panel.nd rfl (by first | exact Or.inl rfl | exact Or.inr rfl)) pgs_nil)))) (fun _ _ _ _ _ => pts_nil) (fun _ _ _ _ _ => (pv 3))) pa_nil)) (pe_gi rfl T.g_MOST_SHARES) (nomark _)))))), ?_⟩
  have U : (∃ t, TyX K H x t ∧ PySem.W.kitOne K t (.type "tuple") = some false ∧ ∀ H', Same H H' → Q (.bl false) H') ∨
      (∃ (a : Addr) (xs : List V), x = .ref a ∧ SqT K H a xs ∧ xs.length ≤ 1000 ∧ (xs.length = 0 ∨ 6 < xs.length) ∧ ∀ H', Same H H' → Q (.bl false) H') ∨
      ∃ (a : Addr) (xs : List V) (bs : List Bool), x = .ref a ∧ SqT K H a xs ∧ 1 ≤ xs.length ∧ xs.length ≤ 6 ∧ Cls6 K H xs bs ∧
        ((bs.all id = false ∧ ∀ H', Same H H' → Q (.bl false) H') ∨ (bs.all id = true ∧ ∃ ns : List Int, ns.length = xs.length ∧ (∀ (i : Nat) y, xs[i]? = some y → ∃ b p n, y = .ref b ∧ SqT K H b [p, .int n] ∧ ns[i]? = some n) ∧ ∀ H', Same H H' → Q (.bl (decide (ns.sum ≤ 100))) H')) := by
    rcases h with ⟨ps, ⟨a, xs, rfl, hS, hl, hE⟩, hok, q⟩ | ⟨⟨t, ty, hk⟩ | ⟨a, xs, bs, rfl, hS, hl, h⟩ | ⟨ps, ⟨a, xs, rfl, hS, hl, hE⟩, h1, h6, hok, hsum⟩, q⟩
    · obtain ⟨g1, g2, g3, g4⟩ := cls_good hl hE hok.ent
      have h1 := hok.lo
      have h6 := hok.hi
      refine .inr (.inr ⟨a, xs, _, rfl, hS, by omega, by omega, g1, .inr ⟨g2, _, g3, g4, ?_⟩⟩)
      rw [decide_eq_true hok.sum]
      exact q
    · exact .inl ⟨t, ty, hk, q⟩
    · by_cases h0 : xs.length = 0
      · exact .inr (.inl ⟨a, xs, rfl, hS, hl, .inl h0, q⟩)
      · by_cases h6 : 6 < xs.length
        · exact .inr (.inl ⟨a, xs, rfl, hS, hl, .inr h6, q⟩)
        · rcases h with h | h | ⟨hb, ha, hc⟩
          · exact absurd h h0
          · exact absurd h h6
          · exact .inr (.inr ⟨a, xs, bs, rfl, hS, by omega, by omega, ⟨hb, hc⟩, .inl ⟨ha, q⟩⟩)
    · obtain ⟨g1, g2, g3, g4⟩ := cls_good hl hE hok
      refine .inr (.inr ⟨a, xs, _, rfl, hS, by omega, by omega, g1, .inr ⟨g2, _, g3, g4, ?_⟩⟩)
      rw [decide_eq_false (by omega)]
      exact q
  rcases U with ⟨t, ty, hk, q⟩ | ⟨a, xs, rfl, hS, hl, h, q⟩ | ⟨a, xs, bs, rfl, hS, h1, h6, ⟨hb, hc⟩, h⟩
  · exact ⟨_, rfl, _, _, _, _, _, rfl, .ty _, ty, hk, _, rfl, iteT (iteT (q H (Same.refl H)))⟩
  · refine ⟨_, rfl, _, _, _, _, _, rfl, .ty _, tyx_tup hS, kit_ty (r := true) (by decide +kernel), _, rfl, iteF ?_⟩
    refine ⟨_, rfl, a, _, rfl, .inr hS, _, _, rfl, rfl, _, rfl, ?_⟩
    rcases h with h | h
    · rw [decide_eq_false (show ¬ (1 : Int) ≤ ((xs.length : Nat) : Int) by omega)]
      exact ⟨_, rfl, iteT (q H (Same.refl H))⟩
    · rw [decide_eq_true (show (1 : Int) ≤ ((xs.length : Nat) : Int) by omega)]
      refine iteT ⟨_, _, rfl, rfl, _, rfl, ?_⟩
      rw [decide_eq_false (show ¬ ((xs.length : Nat) : Int) ≤ 6 by omega)]
      exact iteT (q H (Same.refl H))
  · refine ⟨_, rfl, _, _, _, _, _, rfl, .ty _, tyx_tup hS, kit_ty (r := true) (by decide +kernel), _, rfl, iteF ?_⟩
    refine ⟨_, rfl, a, _, rfl, .inr hS, _, _, rfl, rfl, _, rfl, ?_⟩
    rw [decide_eq_true (show (1 : Int) ≤ ((xs.length : Nat) : Int) by omega)]
    refine iteT ⟨_, _, rfl, rfl, _, rfl, ?_⟩
    rw [decide_eq_true (show ((xs.length : Nat) : Int) ≤ 6 by omega)]
    refine iteF ?_
    have hbl : (bs.map V.bl).length = xs.length := by rw [List.length_map, hb]
    refine ⟨_, rfl, a, rfl, ⟨_, hS⟩, fun D nD => lc_tup (K := K) (a := a) (xs := xs) (fun i H' => Same H H' ∧ H' D = some (.lst ((bs.map V.bl).take i))) ⟨same_new nD, upd_same⟩ (fun i H' _ z => same_sqt z.1 hS) ?_ ?_⟩
    · rintro i y H' hi ⟨sm, hD⟩
      have hil := (List.getElem?_eq_some_iff.mp hi).1
      have hbi : bs[i]? = some bs[i] := List.getElem?_eq_getElem (by omega)
      have hy : (bs.map V.bl)[i]? = some (.bl bs[i]) := by
        rw [List.getElem?_map, hbi]
        rfl
      refine ⟨rfl, ?_⟩
      rcases hc i y _ hi hbi with ⟨eb, e, hA, hok⟩ | ⟨eb, hB⟩
      · rw [eb] at hy
        exact ⟨_, rfl, y, rfl, .inl ⟨e, EntAt.same sm hA, hok, fun H1 s1 => acc_to nD (sm.trans s1) (s1 _ _ hD) hy (by omega)⟩⟩
      · rw [eb] at hy
        exact ⟨_, rfl, y, rfl, .inr ⟨BadEnt.same sm hB, fun H1 s1 => acc_to nD (sm.trans s1) (s1 _ _ hD) hy (by omega)⟩⟩
    · rintro H' ⟨sm, hD⟩
      have hD2 := acc_all hbl.symm hD
      refine ⟨D, bs, rfl, SqL.of hD2, _, rfl, ?_⟩
      rcases h with ⟨ha, q⟩ | ⟨ha, ns, hn, hx, q⟩
      · rw [ha]
        exact iteT (q H' sm)
      · rw [ha]
        refine iteF ?_
        have hS' := same_sqt sm hS
        refine ⟨_, rfl, a, rfl, ⟨_, hS'⟩, fun G nG => lc_tup (K := K) (a := a) (xs := xs) (fun i H1 => Same H' H1 ∧ H1 G = some (.lst ((ns.map V.int).take i))) ⟨same_new nG, upd_same⟩ (fun i H1 _ z => same_sqt z.1 hS') ?_ ?_⟩
        · rintro i y H1 hi ⟨s1, hG⟩
          obtain ⟨b, p, n, rfl, hb2, hn2⟩ := hx i y hi
          refine ⟨b, _, rfl, same_sqt (sm.trans s1) hb2, rfl, _, _, rfl, _, _, rfl, rfl, rfl, ?_⟩
          exact ⟨_, rfl, acc_to nG s1 hG (at_map hn2) (by rw [List.length_map]; omega)⟩
        · rintro H1 ⟨s1, hG⟩
          have hG2 := acc_all (by rw [List.length_map, hn]) hG
          exact ⟨G, ns, rfl, .inl (SqL.of hG2), _, _, rfl, rfl, q H1 (sm.trans s1)⟩

theorem ok_check_panel {f : Addr} {fd : FuncData} (D_check_panel : Dfn K mg "check_panel" s_check_panel ["value"] f fd) (T : Tx K mg C_SpiralError C_BadName C_BadCover C_BadPanel C_BadAmount C_NameTaken C_NoSuchName C_Twice C_OwnPanel C_TooMany C_NoEnd C_Market) {f_is_panel : Addr} {fd_is_panel : FuncData} (D_is_panel : Dfn K mg "is_panel" s_is_panel ["value"] f_is_panel fd_is_panel) (G_is_panel : FnOk P w K mg base CX0 (3) f_is_panel fd_is_panel ["value"] (sp_is_panel K)) :
    FnOk P w K mg base (L2.CX P w) (4) f fd ["value"] (sp_check_panel K C_BadPanel) := by
  refine D_check_panel.F.okX sc_check_panel (fun vs H Q E h => ?_) (fun cdv A outer s H vs Q E hr h => ?_)
  · obtain ⟨x, rfl, h⟩ := h
    rfl
  obtain ⟨x, rfl, h⟩ := h
  refine ⟨_, (pss_one (ps_if (pt_not (pt_val (pe_call G_is_panel (hr.mono (by first | decide | omega)) rfl D_is_panel.m D_is_panel.F.kp D_is_panel.b .nil pass0 (pa_cons (pv 0) pa_nil))))
      (pss_one (ps_raise rfl (takes_of rfl rfl rfl rfl) (pmk_own PySem.F.excBase_ValueError T.exc_BadPanel.x T.exc_BadPanel.g T.exc_BadPanel.k (raises_own T.exc_BadPanel.b T.exc_BadPanel.t) rfl)))
      pss_nil)), ?_⟩
  rcases h with ⟨ps, h, hok, q⟩ | ⟨h, q⟩
  · exact ⟨_, rfl, _, rfl, .inl ⟨ps, h, hok, fun H' sm => ⟨_, rfl, iteF (q H' sm)⟩⟩⟩
  · exact ⟨_, rfl, _, rfl, .inr ⟨h, fun H' sm => ⟨_, rfl, iteT (q H' sm)⟩⟩⟩

theorem ok_allocate {f : Addr} {fd : FuncData} (D_allocate : Dfn K mg "allocate" s_allocate ["amount", "shares"] f fd) (T : Tx K mg C_SpiralError C_BadName C_BadCover C_BadPanel C_BadAmount C_NameTaken C_NoSuchName C_Twice C_OwnPanel C_TooMany C_NoEnd C_Market) :
    FnOk P w K mg base CX0 (1) f fd ["amount", "shares"] (sp_allocate K) := by
  refine D_allocate.F.ok sc_allocate (fun vs H Q E h => ?_) (fun cdv A outer s H vs Q E hr h => ?_)
  · obtain ⟨a, s, sh, rfl, hS, q⟩ := h
    rfl
  obtain ⟨a, s, sh, rfl, hS, q⟩ := h
  have S0 := hS.pos.sum1 hS.ne
  have small : ∀ v ∈ sh, -(2 ^ 64) < v ∧ v < 2 ^ 64 := fun v hv => by
    have h1 := hS.pos v hv
    have h2 := le_sum hS.pos v hv
    have h3 := hS.sum
    omega
  have hlen : sh.length ≤ 100000 := by
    have h1 := len_sum hS.pos
    have h3 := hS.sum
    omega
  have hsum := hS.sum
  obtain ⟨hsq, hpos, hne, _⟩ := hS
  rcases hsq with hq | hq
  · refine ⟨_, (pss_cons (ps_asg (pe_callB call_divmod (by rfl) T.divmod (by decide +kernel) (pa_cons (pv 0) (pa_cons (pe_callB (cr_sumS rfl) (by rfl) T.sum (by decide +kernel) (pa_cons (pv 1) pa_nil)) pa_nil))) (pg_tup rfl (pgs_cons (pg_name (i := 2) sc_allocate.nd rfl (by first | exact Or.inl rfl | exact Or.inr rfl)) (pgs_cons (pg_name (i := 3) sc_allocate.nd rfl (by first | exact Or.inl rfl | exact Or.inr rfl)) pgs_nil))))
      (pss_cons (ps_set (i := 4) sc_allocate.nd rfl (by first | exact Or.inl rfl | exact Or.inr rfl) (pe_lst pa_nil))
      (pss_cons (ps_for PassesOwn.never rfl (pi_list (pv 1)) (pg_name (i := 5) sc_allocate.nd rfl (by first | exact Or.inl rfl | exact Or.inr rfl))
      (pss_cons (ps_set (i := 6) sc_allocate.nd rfl (by first | exact Or.inl rfl | exact Or.inr rfl) (pe_callB (call_min2 rfl) (by rfl) T.min (by decide +kernel) (pa_cons (pv 5) (pa_cons (pv 3) pa_nil))))
      (pss_cons (ps_expr (pe_bm PySem.F.plainAttrs_list PySem.F.slot_list_append PySem.F.type_list_append mt_append (pv 4) (pa_cons (pe_op op_add (pe_op op_mul (pv 5) (pv 2)) (pv 6)) pa_nil)))
      (pss_one (ps_aug (i := 3) sc_allocate.nd rfl (by first | exact Or.inl rfl | exact Or.inr rfl) (pv 6) ip_sub)))))
      (pss_one (ps_ret (pe_callTy call_tuple_of (by rfl) T.tuple (by decide +kernel) (pa_cons (pv 4) pa_nil))))))), ?_⟩
    refine ⟨_, rfl, _, rfl, s, sh, rfl, .inl hq, _, _, rfl, ⟨S0, by omega⟩, fun p np => ⟨p, _, rfl, SqT.of upd_same, rfl, _, _, rfl, _, _, rfl, rfl, Nat.zero_le _, fun o no => ?_⟩⟩
    have s1 : Same H (upd (upd H p (.tup [.int (a / sh.sum), .int (a % sh.sum)])) o (.lst [])) := same_add (same_new np) no
    refine ⟨_, rfl, s, rfl, ⟨_, s1.seq hq⟩, for_list (K := K) (a := s) (xs := sh.map V.int) (fun i σ H' => ∃ (r : Int) (acc : List Int) (v1 v2 : Option V), σ = [some (.int a), some (.ref s), some (.int (a / sh.sum)), some (.int r), some (.ref o), v1, v2] ∧ Same H H' ∧
      H' o = some (.lst (acc.map V.int)) ∧ acc.length = i ∧ alloc a sh = acc ++ go (a / sh.sum) r (sh.drop i)) ⟨a % sh.sum, [], none, none, rfl, s1, upd_same, rfl, rfl⟩ (fun i σ H' _ ⟨_, _, _, _, _, sm, _⟩ => sm.seq hq) ?_ ?_⟩
    · rintro i y σ H' hi ⟨r, acc, v1, v2, rfl, sm, ho, hl, hal⟩
      obtain ⟨v, rfl, hv⟩ := of_at_map hi
      have hil := (List.getElem?_eq_some_iff.mp hv).1
      have hb := small v (List.mem_of_getElem? hv)
      rw [go_step hv] at hal
      refine ⟨_, rfl, _, rfl, _, _, rfl, ?_⟩
      refine ⟨_, rfl, .inl ⟨rfl, _, SqL.of ho⟩, _, rfl, _, rfl, _, _, rfl, rfl, .inl hb, _, rfl, _, _, rfl, rfl, o, _, _, rfl, rfl, ho, by rw [List.length_map]; exact szl (by omega), ?_⟩
      refine ⟨_, rfl, _, rfl, _, _, rfl, rfl, ?_⟩
      refine ⟨r - cut2 v r, acc ++ [v * (a / sh.sum) + cut2 v r], _, _, rfl, same_put sm (free2 np no), ?_, ?_, ?_⟩
      · rw [upd_same, List.map_append]
        rfl
      · rw [List.length_append, hl]
        rfl
      · rw [hal, List.append_assoc]
        rfl
    · rintro σ H' ⟨r, acc, v1, v2, rfl, sm, ho, hl, hal⟩
      rw [List.length_map] at hal
      rw [List.drop_eq_nil_of_le (Nat.le_refl _)] at hal
      have hal2 : alloc a sh = acc := hal.trans (List.append_nil _)
      refine ⟨_, rfl, o, _, rfl, .inl ⟨SqL.of ho, fun l nl => ?_⟩⟩
      exact q l _ (same_add sm nl) (sm.free nl) (by rw [upd_same, hal2])
  · refine ⟨_, (pss_cons (ps_asg (pe_callB call_divmod (by rfl) T.divmod (by decide +kernel) (pa_cons (pv 0) (pa_cons (pe_callB (cr_sumS rfl) (by rfl) T.sum (by decide +kernel) (pa_cons (pv 1) pa_nil)) pa_nil))) (pg_tup rfl (pgs_cons (pg_name (i := 2) sc_allocate.nd rfl (by first | exact Or.inl rfl | exact Or.inr rfl)) (pgs_cons (pg_name (i := 3) sc_allocate.nd rfl (by first | exact Or.inl rfl | exact Or.inr rfl)) pgs_nil))))
      (pss_cons (ps_set (i := 4) sc_allocate.nd rfl (by first | exact Or.inl rfl | exact Or.inr rfl) (pe_lst pa_nil))
      (pss_cons (ps_for PassesOwn.never rfl (pi_tup (pv 1)) (pg_name (i := 5) sc_allocate.nd rfl (by first | exact Or.inl rfl | exact Or.inr rfl))
      (pss_cons (ps_set (i := 6) sc_allocate.nd rfl (by first | exact Or.inl rfl | exact Or.inr rfl) (pe_callB (call_min2 rfl) (by rfl) T.min (by decide +kernel) (pa_cons (pv 5) (pa_cons (pv 3) pa_nil))))
      (pss_cons (ps_expr (pe_bm PySem.F.plainAttrs_list PySem.F.slot_list_append PySem.F.type_list_append mt_append (pv 4) (pa_cons (pe_op op_add (pe_op op_mul (pv 5) (pv 2)) (pv 6)) pa_nil)))
      (pss_one (ps_aug (i := 3) sc_allocate.nd rfl (by first | exact Or.inl rfl | exact Or.inr rfl) (pv 6) ip_sub)))))
      (pss_one (ps_ret (pe_callTy call_tuple_of (by rfl) T.tuple (by decide +kernel) (pa_cons (pv 4) pa_nil))))))), ?_⟩
    refine ⟨_, rfl, _, rfl, s, sh, rfl, .inr hq, _, _, rfl, ⟨S0, by omega⟩, fun p np => ⟨p, _, rfl, SqT.of upd_same, rfl, _, _, rfl, _, _, rfl, rfl, Nat.zero_le _, fun o no => ?_⟩⟩
    have s1 : Same H (upd (upd H p (.tup [.int (a / sh.sum), .int (a % sh.sum)])) o (.lst [])) := same_add (same_new np) no
    refine ⟨_, rfl, s, rfl, ⟨_, same_sqt s1 hq⟩, for_tup (K := K) (a := s) (xs := sh.map V.int) (fun i σ H' => ∃ (r : Int) (acc : List Int) (v1 v2 : Option V), σ = [some (.int a), some (.ref s), some (.int (a / sh.sum)), some (.int r), some (.ref o), v1, v2] ∧ Same H H' ∧
      H' o = some (.lst (acc.map V.int)) ∧ acc.length = i ∧ alloc a sh = acc ++ go (a / sh.sum) r (sh.drop i)) ⟨a % sh.sum, [], none, none, rfl, s1, upd_same, rfl, rfl⟩ (fun i σ H' _ ⟨_, _, _, _, _, sm, _⟩ => same_sqt sm hq) ?_ ?_⟩
    · rintro i y σ H' hi ⟨r, acc, v1, v2, rfl, sm, ho, hl, hal⟩
      obtain ⟨v, rfl, hv⟩ := of_at_map hi
      have hil := (List.getElem?_eq_some_iff.mp hv).1
      have hb := small v (List.mem_of_getElem? hv)
      rw [go_step hv] at hal
      refine ⟨_, rfl, _, rfl, _, _, rfl, ?_⟩
      refine ⟨_, rfl, .inl ⟨rfl, _, SqL.of ho⟩, _, rfl, _, rfl, _, _, rfl, rfl, .inl hb, _, rfl, _, _, rfl, rfl, o, _, _, rfl, rfl, ho, by rw [List.length_map]; exact szl (by omega), ?_⟩
      refine ⟨_, rfl, _, rfl, _, _, rfl, rfl, ?_⟩
      refine ⟨r - cut2 v r, acc ++ [v * (a / sh.sum) + cut2 v r], _, _, rfl, same_put sm (free2 np no), ?_, ?_, ?_⟩
      · rw [upd_same, List.map_append]
        rfl
      · rw [List.length_append, hl]
        rfl
      · rw [hal, List.append_assoc]
        rfl
    · rintro σ H' ⟨r, acc, v1, v2, rfl, sm, ho, hl, hal⟩
      rw [List.length_map] at hal
      rw [List.drop_eq_nil_of_le (Nat.le_refl _)] at hal
      have hal2 : alloc a sh = acc := hal.trans (List.append_nil _)
      refine ⟨_, rfl, o, _, rfl, .inl ⟨SqL.of ho, fun l nl => ?_⟩⟩
      exact q l _ (same_add sm nl) (sm.free nl) (by rw [upd_same, hal2])

theorem ok_next_unit {f : Addr} {fd : FuncData} (D_next_unit : Dfn K mg "next_unit" s_next_unit ["amount", "shares"] f fd) (T : Tx K mg C_SpiralError C_BadName C_BadCover C_BadPanel C_BadAmount C_NameTaken C_NoSuchName C_Twice C_OwnPanel C_TooMany C_NoEnd C_Market) :
    FnOk P w K mg base CX0 (1) f fd ["amount", "shares"] (sp_next_unit K) := by
  refine D_next_unit.F.ok sc_next_unit (fun vs H Q E h => ?_) (fun cdv A outer s H vs Q E hr h => ?_)
  · obtain ⟨a, s, sh, rfl, hS, q⟩ := h
    rfl
  obtain ⟨a, s, sh, rfl, hS, q⟩ := h
  refine ⟨_, (pss_cons (ps_set (i := 2) sc_next_unit.nd rfl (by first | exact Or.inl rfl | exact Or.inr rfl) (pe_op op_mod (pv 0) (pe_callB (cr_sumS rfl) (by rfl) T.sum (by decide +kernel) (pa_cons (pv 1) pa_nil))))
      (pss_cons (ps_set (i := 3) sc_next_unit.nd rfl (by first | exact Or.inl rfl | exact Or.inr rfl) pe_int)
      (pss_cons (ps_while PassesOwn.never (pt_cmpR op_ge (pv 2) (pe_ix (r := rIx K) ix_seq (pv 1) (pv 3) (fun _ _ => rfl)) (nomark _))
      (pss_cons (ps_aug (i := 2) sc_next_unit.nd rfl (by first | exact Or.inl rfl | exact Or.inr rfl) (pe_ix (r := rIx K) ix_seq (pv 1) (pv 3) (fun _ _ => rfl)) ip_sub)
      (pss_one (ps_aug (i := 3) sc_next_unit.nd rfl (by first | exact Or.inl rfl | exact Or.inr rfl) pe_int ip_add))))
      (pss_one (ps_ret (pv 3)))))), ?_⟩
  have S0 := hS.pos.sum1 hS.ne
  have r0 := Int.emod_nonneg a (show sh.sum ≠ 0 by omega)
  have r1 := Int.emod_lt_of_pos a S0
  refine ⟨_, rfl, _, rfl, s, sh, rfl, hS.sq, _, _, rfl, rfl, S0, ?_⟩
  refine ⟨fun m σ H' => ∃ (r : Int) (i : Nat), σ = [some (.int a), some (.ref s), some (.int r), some (.int (i : Int))] ∧ H' = H ∧ 0 ≤ r ∧ r < (sh.drop i).sum ∧ m = sh.length - i ∧ nxt (a % sh.sum) sh = i + nxt r (sh.drop i),
    ⟨_, a % sh.sum, 0, rfl, rfl, r0, r1, rfl, by simp⟩, ?_⟩
  rintro m σ H' ⟨r, i, rfl, rfl, h0, h1, rfl, hn⟩
  have hi : i < sh.length := by
    by_cases c : i < sh.length
    · exact c
    · rw [List.drop_eq_nil_of_le (by omega)] at h1
      simp at h1
      omega
  obtain ⟨v, hv⟩ : ∃ v, sh[i]? = some v := ⟨_, List.getElem?_eq_getElem hi⟩
  have hd : sh.drop i = v :: sh.drop (i + 1) := by
    obtain ⟨g1, g2⟩ := List.getElem?_eq_some_iff.mp hv
    rw [List.drop_eq_getElem_cons g1, g2]
  rw [hd, List.sum_cons] at h1
  refine ⟨_, rfl, _, rfl, _, rfl, sq_ix hS.sq (atI_nat (at_map hv)) ⟨_, _, rfl, rfl, _, rfl, ?_⟩⟩
  refine iteB (fun c => ?_) (fun c => ?_)
  · have c' : v ≤ r := of_decide_eq_true c
    refine ⟨fun σ' H2 => ∃ m', m' < sh.length - i ∧ _, fun _ _ h => h, ?_⟩
    refine ⟨_, rfl, _, rfl, _, rfl, sq_ix hS.sq (atI_nat (at_map hv)) ⟨_, _, rfl, rfl, ?_⟩⟩
    refine ⟨_, rfl, _, _, rfl, rfl, ?_⟩
    refine ⟨sh.length - (i + 1), by omega, r - v, i + 1, rfl, rfl, by omega, by omega, rfl, ?_⟩
    rw [hn, hd]
    show i + (if r < v then 0 else nxt (r - v) (sh.drop (i + 1)) + 1) = i + 1 + nxt (r - v) (sh.drop (i + 1))
    rw [if_neg (by omega)]
    omega
  · have c' : ¬ v ≤ r := of_decide_eq_false c
    refine ⟨_, rfl, ?_⟩
    have e : nxt (a % sh.sum) sh = i := by
      rw [hn, hd]
      show i + (if r < v then 0 else _) = i
      rw [if_pos (by omega)]
      rfl
    rw [e] at q
    exact q

theorem ok_is_cover {f : Addr} {fd : FuncData} (D_is_cover : Dfn K mg "is_cover" s_is_cover ["value"] f fd) (T : Tx K mg C_SpiralError C_BadName C_BadCover C_BadPanel C_BadAmount C_NameTaken C_NoSuchName C_Twice C_OwnPanel C_TooMany C_NoEnd C_Market) {f_is_between : Addr} {fd_is_between : FuncData} (D_is_between : Dfn K mg "is_between" s_is_between ["value", "low", "high"] f_is_between fd_is_between) (G_is_between : FnOk P w K mg base CX0 (1) f_is_between fd_is_between ["value", "low", "high"] (sp_is_between K)) :
    FnOk P w K mg base CX0 (2) f fd ["value"] (sp_is_cover K) := by
  refine D_is_cover.F.ok sc_is_cover (fun vs H Q E h => ?_) (fun cdv A outer s H vs Q E hr h => ?_)
  · obtain ⟨x, rfl, h⟩ := h
    rfl
  obtain ⟨x, rfl, h⟩ := h
  refine ⟨_, (pss_cons (ps_if (PW.pt (pw_or (pt_not (pt_val (pe_callB call_isi (by rfl) T.isinstance (by decide +kernel) (pa_cons (pv 0) (pa_cons (pe_bltn (v := .ty "tuple") (by rfl) T.tuple (by decide +kernel) rfl) pa_nil))))) (pw_or1 (pt_cmpR op_eq (pe_callB call_len_seq (by rfl) T.len PySem.boot_len (pa_cons (pv 0) pa_nil)) pe_int (nomark _)))))
      (pss_one (ps_ret pe_bl))
      pss_nil)
      (pss_cons (ps_asg (pv 0) (pg_star (n := 2) (i := 1) rfl (pgs_cons (pg_name (i := 1) sc_is_cover.nd rfl (by first | exact Or.inl rfl | exact Or.inr rfl)) (pgs_star (pg_name (i := 2) sc_is_cover.nd rfl (by first | exact Or.inl rfl | exact Or.inr rfl)) pgs_nil)) (by decide)))
      (pss_cons (ps_if (pt_cmpR op_eq (pv 1) pe_str (nomark _))
      (pss_one (ps_ret (pe_and (pe_cmpR op_eq (pe_callB call_len_seq (by rfl) T.len PySem.boot_len (pa_cons (pv 2) pa_nil)) pe_int (nomark _)) (pe_one (pe_call G_is_between (hr.mono (by first | decide | omega)) rfl D_is_between.m D_is_between.F.kp D_is_between.b .nil pass0 (pa_cons (pe_ix (r := rIxL K) ix_list (pv 2) pe_int (fun _ _ => rfl)) (pa_cons pe_int (pa_cons (pe_gi rfl T.g_WHOLE) pa_nil))))))))
      pss_nil)
      (pss_cons (ps_if (pt_cmpR op_eq (pv 1) pe_str (nomark _))
      (pss_one (ps_ret (pe_and (pe_cmpR op_eq (pe_callB call_len_seq (by rfl) T.len PySem.boot_len (pa_cons (pv 2) pa_nil)) pe_int (nomark _)) (pe_and (pe_call G_is_between (hr.mono (by first | decide | omega)) rfl D_is_between.m D_is_between.F.kp D_is_between.b .nil pass0 (pa_cons (pe_ix (r := rIxL K) ix_list (pv 2) pe_int (fun _ _ => rfl)) (pa_cons pe_int (pa_cons (pe_gi rfl T.g_MOST_RETENTION) pa_nil)))) (pe_one (pe_call G_is_between (hr.mono (by first | decide | omega)) rfl D_is_between.m D_is_between.F.kp D_is_between.b .nil pass0 (pa_cons (pe_ix (r := rIxL K) ix_list (pv 2) pe_int (fun _ _ => rfl)) (pa_cons pe_int (pa_cons (pe_gi rfl T.g_MOST_LIMIT) pa_nil)))))))))
      pss_nil)
      (pss_one (ps_ret pe_bl)))))), ?_⟩
  rcases h with ⟨t, ty, hk, q⟩ | ⟨a, xs, rfl, hS, hl, hf, q⟩
  · exact ⟨_, rfl, _, _, _, _, _, rfl, .ty _, ty, hk, _, rfl, iteT (iteT q)⟩
  · refine ⟨_, rfl, _, _, _, _, _, rfl, .ty _, tyx_tup hS, kit_ty (r := true) (by decide +kernel), _, rfl, iteF ?_⟩
    refine ⟨_, rfl, a, xs, rfl, .inr hS, rfl, _, rfl, ?_⟩
    cases xs with
    | nil =>
      refine iteT ?_
      exact q H (Same.refl H)
    | cons w r =>
      have e0 : decide (V.int (((w :: r).length : Nat) : Int) = V.int 0) = false := decide_eq_false (fun e => by
        have := V.int.inj e
        rw [List.length_cons] at this
        omega)
      rw [e0]
      refine iteF ?_
      rw [List.all_cons, Bool.and_eq_true] at hf
      rw [List.length_cons] at hl
      refine ⟨_, rfl, a, w :: r, rfl, hS, (by rw [List.length_cons]; omega), (by rw [List.length_cons]; omega), fun D nD => ?_⟩
      have hr : ((w :: r).drop 1).take ((w :: r).length + 1 - 2) = r := List.take_of_length_le (by
        rw [List.length_cons]
        show r.length ≤ r.length + 1 + 1 - 2
        omega)
      rw [hr]
      refine ⟨_, _, rfl, _, _, rfl, List.drop_eq_nil_of_le (by
        rw [List.length_cons]
        show r.length ≤ r.length + 1 + 1 - 2
        omega), ?_⟩
      have sD : Same H (upd H D (.lst r)) := same_new nD
      have hD : upd H D (.lst r) D = some (.lst r) := upd_same
      obtain ⟨H1, h1⟩ : ∃ H1, upd H D (.lst r) = H1 := ⟨_, rfl⟩
      rw [h1] at sD hD ⊢
      have q := q H1 sD
      have scw : ∀ z : Str, scal w (.str z) = true := fun z => by
        cases w <;> first | rfl | (cases hf.1)
      refine ⟨_, rfl, scw _, _, rfl, ?_⟩
      refine iteB (fun c => ?_) (fun c => ?_)
      · have ew : w = .str "share" := of_decide_eq_true c
        subst ew
        refine ⟨_, rfl, D, r, rfl, .inl (SqL.of hD), rfl, _, rfl, ?_⟩
        cases r with
        | nil => exact q
        | cons x r2 =>
          cases r2 with
          | nil =>
            refine iteT ?_
            have fx : flatV x = true := by
              have := hf.2
              rw [List.all_cons, Bool.and_eq_true] at this
              exact this.1
            refine ⟨_, rfl, D, _, _, x, rfl, rfl, SqL.of hD, rfl, x, 1, 1000, rfl, ty_flat fx, ?_⟩
            have e : isCov [.str "share", x] = btw x 1 1000 := by
              show (decide (("share" : Str) = "share") && btw x 1 1000) = btw x 1 1000
              rw [decide_eq_true rfl, Bool.true_and]
            rw [e] at q
            exact q
          | cons y r3 =>
            have e1 : decide (V.int (((x :: y :: r3).length : Nat) : Int) = V.int 1) = false := decide_eq_false (fun e => by
              have := V.int.inj e
              rw [List.length_cons, List.length_cons] at this
              omega)
            rw [e1]
            refine iteF ?_
            have e2 : isCov (.str "share" :: x :: y :: r3) = false := by
              cases r3 with
              | nil =>
                show (decide (("share" : Str) = "layer") && (btw x 0 100000 && btw y 1 100000)) = false
                rw [decide_eq_false (fun e => share_layer e.symm), Bool.false_and]
              | cons _ _ => rfl
            rw [e2] at q
            exact q
      · have nw : ¬ w = .str "share" := of_decide_eq_false c
        refine ⟨_, rfl, scw _, _, rfl, ?_⟩
        refine iteB (fun d => ?_) (fun d => ?_)
        · have ew : w = .str "layer" := of_decide_eq_true d
          subst ew
          refine ⟨_, rfl, D, r, rfl, .inl (SqL.of hD), rfl, _, rfl, ?_⟩
          match r, q, hD, hf with
          | [], q, _, _ => exact q
          | [x], q, _, _ =>
            have e2 : isCov [.str "layer", x] = false := by
              show (decide (("layer" : Str) = "share") && btw x 1 1000) = false
              rw [decide_eq_false share_layer, Bool.false_and]
            rw [e2] at q
            exact q
          | [x, y], q, hD, hf =>
            refine iteT ?_
            have f2 := hf.2
            rw [List.all_cons, List.all_cons, Bool.and_eq_true, Bool.and_eq_true] at f2
            have e : isCov [.str "layer", x, y] = (btw x 0 100000 && btw y 1 100000) := by
              show (decide (("layer" : Str) = "layer") && (btw x 0 100000 && btw y 1 100000)) = (btw x 0 100000 && btw y 1 100000)
              rw [decide_eq_true (rfl : ("layer" : Str) = "layer")]
              exact Bool.true_and _
            rw [e] at q
            refine ⟨_, rfl, D, _, _, x, rfl, rfl, SqL.of hD, rfl, x, 0, 100000, rfl, ty_flat f2.1, _, rfl, ?_⟩
            refine iteB (fun g => ?_) (fun g => ?_)
            · rw [g, Bool.true_and] at q
              exact ⟨_, rfl, D, _, _, y, rfl, rfl, SqL.of hD, rfl, y, 1, 100000, rfl, ty_flat f2.2.1, q⟩
            · rw [g, Bool.false_and] at q
              exact q
          | x :: y :: z :: r4, q, _, _ =>
            have e1 : decide (V.int (((x :: y :: z :: r4).length : Nat) : Int) = V.int 2) = false := decide_eq_false (fun e => by
              have := V.int.inj e
              rw [List.length_cons, List.length_cons, List.length_cons] at this
              omega)
            rw [e1]
            refine iteF ?_
            exact q
        · have nw2 : ¬ w = .str "layer" := of_decide_eq_false d
          have e2 : isCov (w :: r) = false := by
            cases w with
            | str z =>
              have n1 : ¬ z = "share" := fun e => nw (by rw [e])
              have n2 : ¬ z = "layer" := fun e => nw2 (by rw [e])
              match r with
              | [] => rfl
              | [x] =>
                show (decide (z = "share") && btw x 1 1000) = false
                rw [decide_eq_false n1, Bool.false_and]
              | [x, y] =>
                show (decide (z = "layer") && (btw x 0 100000 && btw y 1 100000)) = false
                rw [decide_eq_false n2, Bool.false_and]
              | _ :: _ :: _ :: _ => rfl
            | _ => rfl
          rw [e2] at q
          exact q

theorem ok_check_cover {f : Addr} {fd : FuncData} (D_check_cover : Dfn K mg "check_cover" s_check_cover ["value"] f fd) (T : Tx K mg C_SpiralError C_BadName C_BadCover C_BadPanel C_BadAmount C_NameTaken C_NoSuchName C_Twice C_OwnPanel C_TooMany C_NoEnd C_Market) {f_is_cover : Addr} {fd_is_cover : FuncData} (D_is_cover : Dfn K mg "is_cover" s_is_cover ["value"] f_is_cover fd_is_cover) (G_is_cover : FnOk P w K mg base CX0 (2) f_is_cover fd_is_cover ["value"] (sp_is_cover K)) :
    FnOk P w K mg base (L2.CX P w) (3) f fd ["value"] (sp_check_cover K C_BadCover) := by
  refine D_check_cover.F.okX sc_check_cover (fun vs H Q E h => ?_) (fun cdv A outer s H vs Q E hr h => ?_)
  · obtain ⟨x, rfl, h⟩ := h
    rfl
  obtain ⟨x, rfl, h⟩ := h
  refine ⟨_, (pss_one (ps_if (pt_not (pt_val (pe_call G_is_cover (hr.mono (by first | decide | omega)) rfl D_is_cover.m D_is_cover.F.kp D_is_cover.b .nil pass0 (pa_cons (pv 0) pa_nil))))
      (pss_one (ps_raise rfl (takes_of rfl rfl rfl rfl) (pmk_own PySem.F.excBase_ValueError T.exc_BadCover.x T.exc_BadCover.g T.exc_BadCover.k (raises_own T.exc_BadCover.b T.exc_BadCover.t) rfl)))
      pss_nil)), ?_⟩
  rcases h with ⟨⟨a, c, rfl, hS, hok⟩, q⟩ | ⟨⟨t, ty, hk⟩ | ⟨a, xs, rfl, hS, hl, hf, hc⟩, q⟩
  · refine ⟨_, rfl, _, rfl, .inr ⟨a, cvV c, rfl, hS, cv_len c, flat_cvV c, fun H' sm => ⟨_, rfl, ?_⟩⟩⟩
    rw [isCov_cvV hok]
    exact iteF (q H' sm)
  · exact ⟨_, rfl, _, rfl, .inl ⟨t, ty, hk, _, rfl, iteT (q H (Same.refl H))⟩⟩
  · refine ⟨_, rfl, _, rfl, .inr ⟨a, xs, rfl, hS, hl, hf, fun H' sm => ⟨_, rfl, ?_⟩⟩⟩
    rw [hc]
    exact iteT (q H' sm)

theorem ok_recovery {f : Addr} {fd : FuncData} (D_recovery : Dfn K mg "recovery" s_recovery ["cover", "loss"] f fd) (T : Tx K mg C_SpiralError C_BadName C_BadCover C_BadPanel C_BadAmount C_NameTaken C_NoSuchName C_Twice C_OwnPanel C_TooMany C_NoEnd C_Market) :
    FnOk P w K mg base CX0 (1) f fd ["cover", "loss"] (sp_recovery K) := by
  refine D_recovery.F.ok sc_recovery (fun vs H Q E h => ?_) (fun cdv A outer s H vs Q E hr h => ?_)
  · obtain ⟨a, c, x, rfl, hS, hc, q⟩ := h
    rfl
  obtain ⟨a, c, x, rfl, hS, hc, q⟩ := h
  refine ⟨_, (pss_cons (ps_if (pt_cmpR op_eq (pe_ix (r := rIxT K) ix_tup (pv 0) pe_int (fun _ _ => rfl)) pe_str (nomark _))
      (pss_one (ps_ret (pe_op op_fdiv (pe_op op_mul (pe_ix (r := rIxT K) ix_tup (pv 0) pe_int (fun _ _ => rfl)) (pv 1)) (pe_gi rfl T.g_WHOLE))))
      pss_nil)
      (pss_cons (ps_asg (pv 0) (pg_tup rfl (pgs_cons (pg_name (i := 2) sc_recovery.nd rfl (by first | exact Or.inl rfl | exact Or.inr rfl)) (pgs_cons (pg_name (i := 3) sc_recovery.nd rfl (by first | exact Or.inl rfl | exact Or.inr rfl)) (pgs_cons (pg_name (i := 4) sc_recovery.nd rfl (by first | exact Or.inl rfl | exact Or.inr rfl)) pgs_nil)))))
      (pss_one (ps_ret (pe_callB (call_min2 rfl) (by rfl) T.min (by decide +kernel) (pa_cons (pe_callB (call_max2 rfl) (by rfl) T.max (by decide +kernel) (pa_cons (pe_op op_sub (pv 1) (pv 3)) (pa_cons pe_int pa_nil))) (pa_cons (pv 4) pa_nil))))))), ?_⟩
  cases c with
  | share p =>
    obtain ⟨h1, h2⟩ := hc
    refine ⟨_, rfl, a, _, _, _, rfl, rfl, hS, rfl, rfl, _, rfl, ?_⟩
    refine iteT ?_
    exact ⟨_, rfl, a, _, _, _, rfl, rfl, hS, rfl, _, rfl, _, _, rfl, rfl, .inl ⟨by omega, by omega⟩, _, _, rfl, rfl, ⟨by decide, by decide⟩, q⟩
  | layer r l =>
    obtain ⟨h1, h2, h3, h4⟩ := hc
    refine ⟨_, rfl, a, _, _, _, rfl, rfl, hS, rfl, rfl, _, rfl, ?_⟩
    rw [show decide (V.str "layer" = V.str "share") = false from decide_eq_false (fun e => share_layer (V.str.inj e))]
    refine iteF ?_
    refine ⟨_, rfl, a, _, rfl, hS, rfl, _, _, rfl, _, _, rfl, _, _, rfl, rfl, ?_⟩
    refine ⟨_, rfl, _, rfl, _, _, rfl, rfl, _, _, rfl, _, rfl, _, _, rfl, ?_⟩
    rw [max_min r l x h3]
    exact q

theorem ok_programme {f : Addr} {fd : FuncData} (D_programme : Dfn K mg "programme" s_programme ["covers", "loss"] f fd) (T : Tx K mg C_SpiralError C_BadName C_BadCover C_BadPanel C_BadAmount C_NameTaken C_NoSuchName C_Twice C_OwnPanel C_TooMany C_NoEnd C_Market) {f_recovery : Addr} {fd_recovery : FuncData} (D_recovery : Dfn K mg "recovery" s_recovery ["cover", "loss"] f_recovery fd_recovery) (G_recovery : FnOk P w K mg base CX0 (1) f_recovery fd_recovery ["cover", "loss"] (sp_recovery K)) :
    FnOk P w K mg base CX0 (2) f fd ["covers", "loss"] (sp_programme K) := by
  refine D_programme.F.ok sc_programme (fun vs H Q E h => ?_) (fun cdv A outer s H vs Q E hr h => ?_)
  · obtain ⟨s, x, ys, cs, rfl, hq, hC, hl, q⟩ := h
    rfl
  obtain ⟨s, x, ys, cs, rfl, hq, hC, hl, q⟩ := h
  have hyl : ys.length = cs.length := hC.1
  rcases hq with hq | hq
  · refine ⟨_, (pss_cons (ps_set (i := 2) sc_programme.nd rfl (by first | exact Or.inl rfl | exact Or.inr rfl) (pe_lst pa_nil))
      (pss_cons (ps_set (i := 3) sc_programme.nd rfl (by first | exact Or.inl rfl | exact Or.inr rfl) (pv 1))
      (pss_cons (ps_for PassesOwn.never rfl (pi_list (pv 0)) (pg_name (i := 4) sc_programme.nd rfl (by first | exact Or.inl rfl | exact Or.inr rfl))
      (pss_cons (ps_set (i := 5) sc_programme.nd rfl (by first | exact Or.inl rfl | exact Or.inr rfl) (pe_call G_recovery (hr.mono (by first | decide | omega)) rfl D_recovery.m D_recovery.F.kp D_recovery.b .nil pass0 (pa_cons (pv 4) (pa_cons (pv 3) pa_nil))))
      (pss_cons (ps_expr (pe_bm PySem.F.plainAttrs_list PySem.F.slot_list_append PySem.F.type_list_append mt_append (pv 2) (pa_cons (pv 5) pa_nil)))
      (pss_one (ps_aug (i := 3) sc_programme.nd rfl (by first | exact Or.inl rfl | exact Or.inr rfl) (pv 5) ip_sub)))))
      (pss_one (ps_ret (pe_tup (pa_cons (pe_callTy call_tuple_of (by rfl) T.tuple (by decide +kernel) (pa_cons (pv 2) pa_nil)) (pa_cons (pv 3) pa_nil)))))))), ?_⟩
    refine ⟨Nat.zero_le _, fun o no => ?_⟩
    have s1 := same_new (o := .lst []) no
    refine ⟨_, rfl, _, rfl, s, rfl, ⟨_, s1.seq hq⟩, for_list (K := K) (a := s) (xs := ys) (fun i σ H' => ∃ (r : Int) (acc : List Int) (v1 v2 : Option V), σ = [some (.ref s), some (.int x), some (.ref o), some (.int r), v1, v2] ∧ Same H H' ∧ H' o = some (.lst (acc.map V.int)) ∧ acc.length = i ∧
      prog cs x = (acc ++ (prog (cs.drop i) r).1, (prog (cs.drop i) r).2)) ⟨x, [], none, none, rfl, s1, upd_same, rfl, rfl⟩ (fun i σ H' _ ⟨_, _, _, _, _, sm, _⟩ => sm.seq hq) ?_ ?_⟩
    · rintro i y σ H' hi ⟨r, acc, v1, v2, rfl, sm, ho, hal, hp⟩
      obtain ⟨a, c, rfl, hc, ha, hok⟩ := hC.get hi
      have hil := (List.getElem?_eq_some_iff.mp hc).1
      rw [prog_step hc] at hp
      refine ⟨_, rfl, _, rfl, a, c, r, rfl, same_sqt sm ha, hok, ?_⟩
      refine ⟨_, rfl, .inl ⟨rfl, _, SqL.of ho⟩, _, rfl, o, _, _, rfl, rfl, ho, by rw [List.length_map]; exact szl (by omega), ?_⟩
      refine ⟨_, rfl, _, rfl, _, _, rfl, rfl, ?_⟩
      refine ⟨r - pays c r, acc ++ [pays c r], _, _, rfl, same_put sm no, ?_, ?_, ?_⟩
      · rw [upd_same, List.map_append]
        rfl
      · rw [List.length_append, hal]
        rfl
      · rw [hp, List.append_assoc]
        rfl
    · rintro σ H' ⟨r, acc, v1, v2, rfl, sm, ho, hal, hp⟩
      rw [hyl, List.drop_eq_nil_of_le (Nat.le_refl _)] at hp
      have hp2 : prog cs x = (acc, r) := by
        rw [hp]
        show (acc ++ [], r) = (acc, r)
        rw [List.append_nil]
      rw [hp2] at q
      refine ⟨_, rfl, o, _, rfl, .inl ⟨SqL.of ho, fun t nt => ⟨_, rfl, sz (by show 2 ≤ 100000; decide), fun p np => ?_⟩⟩⟩
      exact q t p _ (same_add (same_add sm nt) np) (same_new np _ _ upd_same) upd_same
  · refine ⟨_, (pss_cons (ps_set (i := 2) sc_programme.nd rfl (by first | exact Or.inl rfl | exact Or.inr rfl) (pe_lst pa_nil))
      (pss_cons (ps_set (i := 3) sc_programme.nd rfl (by first | exact Or.inl rfl | exact Or.inr rfl) (pv 1))
      (pss_cons (ps_for PassesOwn.never rfl (pi_tup (pv 0)) (pg_name (i := 4) sc_programme.nd rfl (by first | exact Or.inl rfl | exact Or.inr rfl))
      (pss_cons (ps_set (i := 5) sc_programme.nd rfl (by first | exact Or.inl rfl | exact Or.inr rfl) (pe_call G_recovery (hr.mono (by first | decide | omega)) rfl D_recovery.m D_recovery.F.kp D_recovery.b .nil pass0 (pa_cons (pv 4) (pa_cons (pv 3) pa_nil))))
      (pss_cons (ps_expr (pe_bm PySem.F.plainAttrs_list PySem.F.slot_list_append PySem.F.type_list_append mt_append (pv 2) (pa_cons (pv 5) pa_nil)))
      (pss_one (ps_aug (i := 3) sc_programme.nd rfl (by first | exact Or.inl rfl | exact Or.inr rfl) (pv 5) ip_sub)))))
      (pss_one (ps_ret (pe_tup (pa_cons (pe_callTy call_tuple_of (by rfl) T.tuple (by decide +kernel) (pa_cons (pv 2) pa_nil)) (pa_cons (pv 3) pa_nil)))))))), ?_⟩
    refine ⟨Nat.zero_le _, fun o no => ?_⟩
    have s1 := same_new (o := .lst []) no
    refine ⟨_, rfl, _, rfl, s, rfl, ⟨_, same_sqt s1 hq⟩, for_tup (K := K) (a := s) (xs := ys) (fun i σ H' => ∃ (r : Int) (acc : List Int) (v1 v2 : Option V), σ = [some (.ref s), some (.int x), some (.ref o), some (.int r), v1, v2] ∧ Same H H' ∧ H' o = some (.lst (acc.map V.int)) ∧ acc.length = i ∧
      prog cs x = (acc ++ (prog (cs.drop i) r).1, (prog (cs.drop i) r).2)) ⟨x, [], none, none, rfl, s1, upd_same, rfl, rfl⟩ (fun i σ H' _ ⟨_, _, _, _, _, sm, _⟩ => same_sqt sm hq) ?_ ?_⟩
    · rintro i y σ H' hi ⟨r, acc, v1, v2, rfl, sm, ho, hal, hp⟩
      obtain ⟨a, c, rfl, hc, ha, hok⟩ := hC.get hi
      have hil := (List.getElem?_eq_some_iff.mp hc).1
      rw [prog_step hc] at hp
      refine ⟨_, rfl, _, rfl, a, c, r, rfl, same_sqt sm ha, hok, ?_⟩
      refine ⟨_, rfl, .inl ⟨rfl, _, SqL.of ho⟩, _, rfl, o, _, _, rfl, rfl, ho, by rw [List.length_map]; exact szl (by omega), ?_⟩
      refine ⟨_, rfl, _, rfl, _, _, rfl, rfl, ?_⟩
      refine ⟨r - pays c r, acc ++ [pays c r], _, _, rfl, same_put sm no, ?_, ?_, ?_⟩
      · rw [upd_same, List.map_append]
        rfl
      · rw [List.length_append, hal]
        rfl
      · rw [hp, List.append_assoc]
        rfl
    · rintro σ H' ⟨r, acc, v1, v2, rfl, sm, ho, hal, hp⟩
      rw [hyl, List.drop_eq_nil_of_le (Nat.le_refl _)] at hp
      have hp2 : prog cs x = (acc, r) := by
        rw [hp]
        show (acc ++ [], r) = (acc, r)
        rw [List.append_nil]
      rw [hp2] at q
      refine ⟨_, rfl, o, _, rfl, .inl ⟨SqL.of ho, fun t nt => ⟨_, rfl, sz (by show 2 ≤ 100000; decide), fun p np => ?_⟩⟩⟩
      exact q t p _ (same_add (same_add sm nt) np) (same_new np _ _ upd_same) upd_same

theorem ok_active_covers {f : Addr} {fd : FuncData} (D_active_covers : Dfn K mg "active_covers" s_active_covers ["treaties", "cedent"] f fd) (T : Tx K mg C_SpiralError C_BadName C_BadCover C_BadPanel C_BadAmount C_NameTaken C_NoSuchName C_Twice C_OwnPanel C_TooMany C_NoEnd C_Market) :
    FnOk P w K mg base CX0 (1) f fd ["treaties", "cedent"] (sp_active_covers K) := by
  refine D_active_covers.F.ok sc_active_covers (fun vs H Q E h => ?_) (fun cdv A outer s H vs Q E hr h => ?_)
  · obtain ⟨a, ts, ced, rfl, ⟨xs, hS, hA⟩, hl, q⟩ := h
    rfl
  obtain ⟨a, ts, ced, rfl, ⟨xs, hS, hA⟩, hl, q⟩ := h
  refine ⟨_, (pss_one (ps_ret (pe_lc (own := [("number", 2), ("owner", 3), ("cover", 4), ("_", 5), ("ended", 6)]) (g := (gTup K 2 (gCons (gName 2) (gCons (gTup K 4 (gCons (gName 3) (gCons (gName 4) (gCons (gName 5) (gCons (gName 6) gNil))))) gNil)))) rfl sc_active_covers.nd (pi_enumS true (by rfl) T.enumerate (pa_cons (pv 0) pa_nil)) (blkOk_by (own := [("number", 2), ("owner", 3), ("cover", 4), ("_", 5), ("ended", 6)]) (N := (["treaties", "cedent", "number", "owner", "cover", "_", "ended"] : List Str)) (sc := defScope s_active_covers) (by decide +kernel)) (fun _ _ _ _ _ => (pg_tup rfl (pgs_cons (pg_name (i := 2) sc_active_covers.nd rfl (by first | exact Or.inl rfl | exact Or.inr rfl)) (pgs_cons (pg_tup rfl (pgs_cons (pg_name (i := 3) sc_active_covers.nd rfl (by first | exact Or.inl rfl | exact Or.inr rfl)) (pgs_cons (pg_name (i := 4) sc_active_covers.nd rfl (by first | exact Or.inl rfl | exact Or.inr rfl)) (pgs_cons (pg_name (i := 5) sc_active_covers.nd rfl (by first | exact Or.inl rfl | exact Or.inr rfl)) (pgs_cons (pg_name (i := 6) sc_active_covers.nd rfl (by first | exact Or.inl rfl | exact Or.inr rfl)) pgs_nil))))) pgs_nil)))) (fun _ _ _ _ _ => (pts_one (PW.pt (pw_and (pt_cmpR op_eq (pv 3) (pv 1) (nomark _)) (pw_and1 (pt_not (pt_val (pv 6)))))))) (fun _ _ _ _ _ => (pe_tup (pa_cons (pv 2) (pa_cons (pv 4) pa_nil))))))), ?_⟩
  have hxl := hA.1
  refine ⟨_, rfl, a, xs, rfl, hS, fun D nD => lc_it (walk_E (tp := true) (a := a) (xs := xs)) (fun i H' => Same H H' ∧ ∃ (ys : List V) (l : List (Nat × Cov)), H' D = some (.lst ys) ∧ AllAt (ActAt K) H' ys l ∧ l.length ≤ i ∧ actv ced 0 ts = l ++ actv ced i (ts.drop i)) ⟨same_new nD, [], [], upd_same, .nil, Nat.zero_le _, rfl⟩ (fun i H' _ z => same_sqt z.1 hS) ?_ ?_⟩
  · rintro i v H1 H' hi ⟨sm, ys, l, hD, hy, hli, hac⟩ ⟨T0, x, y, rfl, nT, rfl, e1, e2⟩
    cases e1
    obtain ⟨t, ht, a1, vc, vp, rfl, g1, g2, g3⟩ := hA.get e2
    rw [actv_step ht] at hac
    have s1 : Same H (upd H1 T0 (.tup [.int (i : Nat), .ref a1])) := same_add sm nT
    have s2 : Same H1 (upd H1 T0 (.tup [.int (i : Nat), .ref a1])) := same_new nT
    generalize hw : wipe _ _ = w0
    have ew : w0 = [some (.ref a), some (.str ced), none, none, none, none, none] := by
      rw [← hw]
      kernel_rfl
    clear hw
    subst ew
    refine ⟨T0, _, rfl, SqT.of upd_same, rfl, ?_⟩
    refine ⟨_, _, rfl, _, _, rfl, ?_⟩
    refine ⟨a1, _, rfl, same_sqt s1 g1, rfl, ?_⟩
    refine ⟨_, _, rfl, ?_⟩
    refine ⟨_, _, rfl, ?_⟩
    refine ⟨_, _, rfl, ?_⟩
    refine ⟨_, _, rfl, ?_⟩
    refine ⟨rfl, ?_⟩
    refine ⟨rfl, ?_⟩
    refine ⟨by kernel_rfl, ?_⟩
    have hD1 : (upd H1 T0 (.tup [.int (i : Nat), .ref a1])) D = some (.lst ys) := s2 _ _ hD
    have hyA : AllAt (ActAt K) (upd H1 T0 (.tup [.int (i : Nat), .ref a1])) ys l := AllAt.same (R := ActAt K) (fun e r => ActAt.same e r) s2 hy
    have no : (decide (t.ced = ced) && !t.ended) = false → Same H (upd H1 T0 (.tup [.int (i : Nat), .ref a1])) ∧ ∃ (ys : List V) (l : List (Nat × Cov)), (upd H1 T0 (.tup [.int (i : Nat), .ref a1])) D = some (.lst ys) ∧ AllAt (ActAt K) (upd H1 T0 (.tup [.int (i : Nat), .ref a1])) ys l ∧ l.length ≤ i + 1 ∧ actv ced 0 ts = l ++ actv ced (i + 1) (ts.drop (i + 1)) := fun e => by
      rw [e] at hac
      exact ⟨s1, ys, l, hD1, hyA, by omega, hac⟩
    have ec : decide (V.str t.ced = V.str ced) = decide (t.ced = ced) := by
      by_cases h : t.ced = ced
      · rw [decide_eq_true h, decide_eq_true (by rw [h])]
      · rw [decide_eq_false h, decide_eq_false (fun e => h (V.str.inj e))]
    refine ⟨_, rfl, _, rfl, rfl, _, rfl, ?_⟩
    rw [ec]
    refine iteB (fun c1 => ?_) (fun c1 => ?_)
    · refine ⟨_, rfl, _, rfl, ?_⟩
      cases he : t.ended with
      | true => exact no (by rw [c1, he]; rfl)
      | false =>
        rw [c1, he] at hac
        obtain ⟨H2, h2⟩ : ∃ H2, (upd H1 T0 (.tup [.int (i : Nat), .ref a1])) = H2 := ⟨_, rfl⟩
        rw [h2] at s1 s2 hD1 hyA ⊢
        refine ⟨_, rfl, _, rfl, sz (by show 2 ≤ 100000; decide), fun b nb => ?_⟩
        have sb : Same H2 (upd H2 b (.tup [.int (i : Nat), .ref vc])) := same_new nb
        refine ⟨ys, sb _ _ hD1, szl (by rw [hyA.1]; omega), same_put (s1.trans sb) nD, ys ++ [.ref b], l ++ [(i, t.cov)], upd_same, ?_, by rw [List.length_append]; show l.length + 1 ≤ i + 1; omega, ?_⟩
        · have hDb := sb _ _ hD1
          refine AllAt.imp (AllAt.add (AllAt.same (R := ActAt K) (fun e r => ActAt.same e r) sb hyA) (y := .ref b) (l := (i, t.cov)) ⟨b, vc, rfl, SqT.of upd_same, same_sqt (s1.trans sb) g2⟩) fun y p r => ActAt.put hDb r
        · rw [hac, List.append_assoc]
          rfl
    · exact no (by rw [c1]; rfl)
  · rintro H' ⟨sm, ys, l, hD, hy, hli, hac⟩
    rw [hxl, List.drop_eq_nil_of_le (Nat.le_refl _)] at hac
    have e : actv ced 0 ts = l := hac.trans (List.append_nil _)
    exact q D H' ys sm hD (by rw [e]; exact hy)

theorem ok_cede {f : Addr} {fd : FuncData} (D_cede : Dfn K mg "cede" s_cede ["treaties", "cedent", "loss"] f fd) (T : Tx K mg C_SpiralError C_BadName C_BadCover C_BadPanel C_BadAmount C_NameTaken C_NoSuchName C_Twice C_OwnPanel C_TooMany C_NoEnd C_Market) {f_active_covers : Addr} {fd_active_covers : FuncData} (D_active_covers : Dfn K mg "active_covers" s_active_covers ["treaties", "cedent"] f_active_covers fd_active_covers) (G_active_covers : FnOk P w K mg base CX0 (1) f_active_covers fd_active_covers ["treaties", "cedent"] (sp_active_covers K)) {f_programme : Addr} {fd_programme : FuncData} (D_programme : Dfn K mg "programme" s_programme ["covers", "loss"] f_programme fd_programme) (G_programme : FnOk P w K mg base CX0 (2) f_programme fd_programme ["covers", "loss"] (sp_programme K)) :
    FnOk P w K mg base CX0 (3) f fd ["treaties", "cedent", "loss"] (sp_cede K) := by
  refine D_cede.F.ok sc_cede (fun vs H Q E h => ?_) (fun cdv A outer s H vs Q E hr h => ?_)
  · obtain ⟨a, ts, ced, x, rfl, hT, hl, hok, q⟩ := h
    rfl
  obtain ⟨a, ts, ced, x, rfl, hT, hl, hok, q⟩ := h
  refine ⟨_, (pss_cons (ps_set (i := 3) sc_cede.nd rfl (by first | exact Or.inl rfl | exact Or.inr rfl) (pe_call G_active_covers (hr.mono (by first | decide | omega)) rfl D_active_covers.m D_active_covers.F.kp D_active_covers.b .nil pass0 (pa_cons (pv 0) (pa_cons (pv 1) pa_nil))))
      (pss_cons (ps_asg (pe_call G_programme (hr.mono (by first | decide | omega)) rfl D_programme.m D_programme.F.kp D_programme.b .nil pass0 (pa_cons (pe_lc (own := [("_", 6), ("cover", 7)]) (g := (gTup K 2 (gCons (gName 6) (gCons (gName 7) gNil)))) (tt := tYes) rfl sc_cede.nd (pi_list (pv 3)) (blkOk_by (own := [("_", 6), ("cover", 7)]) (N := (["treaties", "cedent", "loss", "covers", "amounts", "net", "_", "cover", "number", "amount"] : List Str)) (sc := defScope s_cede) (by decide +kernel)) (fun _ _ _ _ _ => (pg_tup rfl (pgs_cons (pg_name (i := 6) sc_cede.nd rfl (by first | exact Or.inl rfl | exact Or.inr rfl)) (pgs_cons (pg_name (i := 7) sc_cede.nd rfl (by first | exact Or.inl rfl | exact Or.inr rfl)) pgs_nil)))) (fun _ _ _ _ _ => pts_nil) (fun _ _ _ _ _ => (pv 7))) (pa_cons (pv 2) pa_nil))) (pg_tup rfl (pgs_cons (pg_name (i := 4) sc_cede.nd rfl (by first | exact Or.inl rfl | exact Or.inr rfl)) (pgs_cons (pg_name (i := 5) sc_cede.nd rfl (by first | exact Or.inl rfl | exact Or.inr rfl)) pgs_nil))))
      (pss_one (ps_ret (pe_tup (pa_cons (pe_dc (own := [("number", 8), ("_", 6), ("amount", 9)]) (g := (gTup K 2 (gCons (gTup K 2 (gCons (gName 8) (gCons (gName 6) gNil))) (gCons (gName 9) gNil)))) (tt := tYes) rfl sc_cede.nd (pi_zipS false true (by rfl) T.zip (pa_cons (pv 3) (pa_cons (pv 4) pa_nil))) (blkOk_by (own := [("number", 8), ("_", 6), ("amount", 9)]) (N := (["treaties", "cedent", "loss", "covers", "amounts", "net", "_", "cover", "number", "amount"] : List Str)) (sc := defScope s_cede) (by decide +kernel)) (fun _ _ _ _ _ => (pg_tup rfl (pgs_cons (pg_tup rfl (pgs_cons (pg_name (i := 8) sc_cede.nd rfl (by first | exact Or.inl rfl | exact Or.inr rfl)) (pgs_cons (pg_name (i := 6) sc_cede.nd rfl (by first | exact Or.inl rfl | exact Or.inr rfl)) pgs_nil))) (pgs_cons (pg_name (i := 9) sc_cede.nd rfl (by first | exact Or.inl rfl | exact Or.inr rfl)) pgs_nil)))) (fun _ _ _ _ _ => pts_nil) (fun _ _ _ _ _ => (pv 8)) (fun _ _ _ _ _ => (pv 9))) (pa_cons (pv 5) pa_nil))))))), ?_⟩
  refine ⟨_, rfl, _, rfl, a, ts, ced, rfl, hT, hl, fun o H1 ys s1 ho hy => ?_⟩
  have hal := actv_len ced 0 ts
  obtain ⟨ac, hac⟩ : ∃ ac, actv ced 0 ts = ac := ⟨_, rfl⟩
  unfold cedeP at q
  rw [hac] at hy hal q
  have hyl := hy.1
  have acok : ∀ p ∈ ac, CvOk p.2 := fun p hp => (actv_ok (ced := ced) (n := 0) hok p (by rw [hac]; exact hp)).1
  obtain ⟨zs, hzl, hz⟩ := pick (R := fun y (p : Nat × Cov) z => ∃ b vc : Addr, y = .ref b ∧ z = .ref vc ∧ SqT K H1 b [.int (p.1 : Nat), .ref vc] ∧ SqT K H1 vc (cvV p.2)) hyl fun i p hp => by
    obtain ⟨y, h1, b, vc, e, h2, h3⟩ := hy.2 i p hp
    exact ⟨y, h1, .ref vc, b, vc, e, rfl, h2, h3⟩
  dsimp only
  refine nx_to ?_
  generalize hw : List.set _ _ _ = w0
  have ew : w0 = [some (.ref a), some (.str ced), some (.int x), some (.ref o), none, none, none, none, none, none] := by
    rw [← hw]
    kernel_rfl
  clear hw
  subst ew
  refine ⟨_, rfl, o, rfl, ⟨_, SqL.of ho⟩, fun D nD => lc_list (K := K) (a := o) (xs := ys) (fun i H' => Same H1 H' ∧ H' D = some (.lst (zs.take i))) ⟨same_new nD, upd_same⟩ (fun i H' _ z => z.1.seq (SqL.of ho)) ?_ ?_⟩
  · rintro i y H' hi ⟨sm, hD⟩
    obtain ⟨p, hp, _⟩ := hy.get hi
    obtain ⟨y2, z, h1, h2, b, vc, rfl, rfl, h3, h4⟩ := hz i p hp
    rw [hi] at h1
    cases h1
    generalize hw : wipe _ _ = w0
    have ew : w0 = [some (.ref a), some (.str ced), some (.int x), some (.ref o), none, none, none, none, none, none] := by
      rw [← hw]
      kernel_rfl
    clear hw
    subst ew
    refine ⟨b, _, rfl, same_sqt sm h3, rfl, ?_⟩
    refine ⟨_, _, rfl, _, _, rfl, rfl, by kernel_rfl, ?_⟩
    exact ⟨_, rfl, acc_to nD sm hD h2 (by omega)⟩
  · rintro H2 ⟨s2, hD⟩
    have hD2 := acc_all (by omega) hD
    have hC : CovsAt K H2 zs (ac.map (·.2)) := by
      refine ⟨by rw [hzl, List.length_map], fun i c hc => ?_⟩
      rw [List.getElem?_map] at hc
      cases hp : ac[i]? with
      | none =>
        rw [hp] at hc
        cases hc
      | some p =>
        rw [hp] at hc
        cases hc
        obtain ⟨y2, z, h1, h2, b, vc, rfl, rfl, h3, h4⟩ := hz i p hp
        exact ⟨vc, h2, same_sqt s2 h4, acok p (List.mem_of_getElem? hp)⟩
    refine ⟨_, rfl, D, x, zs, _, rfl, .inl (SqL.of hD2), hC, by rw [List.length_map]; omega, fun t p H3 s3 ht hp => ?_⟩
    refine ⟨p, _, rfl, SqT.of hp, rfl, _, _, rfl, _, _, rfl, rfl, ?_⟩
    have s13 : Same H1 H3 := s2.trans s3
    generalize hw : List.set _ _ _ = w0
    have ew : w0 = [some (.ref a), some (.str ced), some (.int x), some (.ref o), some (.ref t), some (.int (prog (ac.map (·.2)) x).2), none, none, none, none] := by
      rw [← hw]
      kernel_rfl
    clear hw
    subst ew
    have hpl : (prog (ac.map (·.2)) x).1.length = ac.length := by rw [prog_len, List.length_map]
    refine ⟨_, rfl, _, rfl, o, t, ys, _, rfl, SqL.of (s13 _ _ ho), SqT.of ht, fun G nG => dc_it (walk_Z (t1 := false) (t2 := true) (xs := ys) (ys := (prog (ac.map (·.2)) x).1.map V.int) rfl)
      (fun i H' => Same H3 H' ∧ H' G = some (.dK ((pairsK (ac.map (·.1)) (prog (ac.map (·.2)) x).1).take i))) ⟨same_new nG, upd_same⟩ (fun i H' _ z => ⟨z.1.seq (SqL.of (s13 _ _ ho)), same_sqt z.1 (SqT.of ht)⟩) ?_ ?_⟩
    · rintro i v H4 H5 hi ⟨s4, hG⟩ ⟨T0, y, w, rfl, nT, rfl, e1, e2⟩
      have e1 : ys[i]? = some y := e1
      obtain ⟨pr, hpr, _⟩ := hy.get e1
      obtain ⟨y2, z, h1, h2, b, vc, rfl, rfl, h3, h4⟩ := hz i pr hpr
      rw [e1] at h1
      cases h1
      obtain ⟨am, rfl, ham⟩ := of_at_map e2
      have s5 : Same H4 (upd H4 T0 (.tup [.ref b, .int am])) := same_new nT
      generalize hw : wipe _ _ = w0
      have ew : w0 = [some (.ref a), some (.str ced), some (.int x), some (.ref o), some (.ref t), some (.int (prog (ac.map (·.2)) x).2), none, none, none, none] := by
        rw [← hw]
        kernel_rfl
      clear hw
      subst ew
      refine ⟨T0, _, rfl, SqT.of upd_same, rfl, ?_⟩
      refine ⟨_, _, rfl, b, _, rfl, same_sqt (s13.trans (s4.trans s5)) h3, rfl, ?_⟩
      refine ⟨_, _, rfl, _, _, rfl, rfl, _, _, rfl, rfl, by kernel_rfl, ?_⟩
      have hn : (ac.map (·.1))[i]? = some pr.1 := by
        rw [List.getElem?_map, hpr]
        rfl
      refine ⟨_, rfl, _, rfl, _, .inl (pr.1 : Int), rfl, s5 _ _ hG, ?_, same_put (s4.trans s5) nG, ?_⟩
      · rw [List.length_take]
        have := (List.getElem?_eq_some_iff.mp hpr).1
        exact szl (by omega)
      · rw [upd_same, putK_new (pairsK_new (by rw [← hac]; exact actv_up) hn), List.take_add_one, pairsK_get hn ham]
        rfl
    · rintro H4 ⟨s4, hG⟩
      have hzl2 : (pairsK (ac.map (·.1)) (prog (ac.map (·.2)) x).1).length = min ys.length ((prog (ac.map (·.2)) x).1.map V.int).length := by
        unfold pairsK
        rw [List.length_map, List.length_zip, List.length_map, List.length_map]
        omega
      rw [← hzl2, List.take_of_length_le (Nat.le_refl _)] at hG
      refine ⟨_, rfl, sz (by show 2 ≤ 100000; decide), fun r nr => ?_⟩
      exact q r G _ (s1.trans (s13.trans (same_add s4 nr))) ((s1.trans s13).free nG) (same_new nr _ _ hG) upd_same

theorem ok_treaty_payments {f : Addr} {fd : FuncData} (D_treaty_payments : Dfn K mg "treaty_payments" s_treaty_payments ["insurers", "treaties", "gross"] f fd) (T : Tx K mg C_SpiralError C_BadName C_BadCover C_BadPanel C_BadAmount C_NameTaken C_NoSuchName C_Twice C_OwnPanel C_TooMany C_NoEnd C_Market) {f_cede : Addr} {fd_cede : FuncData} (D_cede : Dfn K mg "cede" s_cede ["treaties", "cedent", "loss"] f_cede fd_cede) (G_cede : FnOk P w K mg base CX0 (3) f_cede fd_cede ["treaties", "cedent", "loss"] (sp_cede K)) :
    FnOk P w K mg base CX0 (4) f fd ["insurers", "treaties", "gross"] (sp_treaty_payments K) := by
  refine D_treaty_payments.F.ok sc_treaty_payments (fun vs H Q E h => ?_) (fun cdv A outer s H vs Q E hr h => ?_)
  · obtain ⟨a, b, c, ins, ts, gross, rfl, hI, hT, hl, hok, hG, q⟩ := h
    rfl
  obtain ⟨a, b, c, ins, ts, gross, rfl, hI, hT, hl, hok, hG, q⟩ := h
  refine ⟨_, (pss_cons (ps_set (i := 3) sc_treaty_payments.nd rfl (by first | exact Or.inl rfl | exact Or.inr rfl) (pe_op op_rep (pe_lst (pa_cons pe_int pa_nil)) (pe_callB call_len_seq (by rfl) T.len PySem.boot_len (pa_cons (pv 1) pa_nil))))
      (pss_cons (ps_for PassesOwn.never rfl (pi_zipS true true (by rfl) T.zip (pa_cons (pv 0) (pa_cons (pv 2) pa_nil))) (pg_tup rfl (pgs_cons (pg_name (i := 4) sc_treaty_payments.nd rfl (by first | exact Or.inl rfl | exact Or.inr rfl)) (pgs_cons (pg_name (i := 5) sc_treaty_payments.nd rfl (by first | exact Or.inl rfl | exact Or.inr rfl)) pgs_nil)))
      (pss_cons (ps_asg (pe_call G_cede (hr.mono (by first | decide | omega)) rfl D_cede.m D_cede.F.kp D_cede.b .nil pass0 (pa_cons (pv 1) (pa_cons (pv 4) (pa_cons (pv 5) pa_nil)))) (pg_tup rfl (pgs_cons (pg_name (i := 6) sc_treaty_payments.nd rfl (by first | exact Or.inl rfl | exact Or.inr rfl)) (pgs_cons (pg_name (i := 7) sc_treaty_payments.nd rfl (by first | exact Or.inl rfl | exact Or.inr rfl)) pgs_nil))))
      (pss_one (ps_lock (ps_for PassesOwn.never rfl (pi_items (pv 6)) (pg_tup rfl (pgs_cons (pg_name (i := 8) sc_treaty_payments.nd rfl (by first | exact Or.inl rfl | exact Or.inr rfl)) (pgs_cons (pg_name (i := 9) sc_treaty_payments.nd rfl (by first | exact Or.inl rfl | exact Or.inr rfl)) pgs_nil)))
      (pss_one (ps_asg (pv 9) (pg_sub (pv 3) (pv 8) set_list))))))))
      (pss_one (ps_ret (pe_callTy call_tuple_of (by rfl) T.tuple (by decide +kernel) (pa_cons (pv 3) pa_nil)))))), ?_⟩
  obtain ⟨xs, hS, hA⟩ := id hT
  have hxl := hA.1
  refine ⟨sz (by show 1 ≤ 100000; decide), fun z nz => ⟨_, rfl, b, xs, rfl, .inr (same_sqt (same_new nz) hS), z, ((xs.length : Nat) : Int), [.int 0], rfl, rfl, upd_same, by omega, by omega, ?_, fun o no => ?_⟩⟩
  · rw [show ((xs.length : Nat) : Int).toNat = xs.length by omega]
    exact sz (by show 1 * xs.length ≤ 100000; omega)
  have nO : H o = none := free2 nz no
  have s0 : Same H (upd (upd H z (.lst [.int 0])) o (.lst (List.replicate ((xs.length : Nat) : Int).toNat [V.int 0]).flatten)) := same_add (same_new nz) no
  have h0 : (upd (upd H z (.lst [.int 0])) o (.lst (List.replicate ((xs.length : Nat) : Int).toNat [V.int 0]).flatten)) o = some (.lst ((payP ts [] (List.replicate ts.length 0)).map V.int)) := by
    rw [upd_same, show ((xs.length : Nat) : Int).toNat = xs.length by omega, rep0, hxl]
    rfl
  obtain ⟨H1, h1⟩ : ∃ H1, (upd (upd H z (.lst [.int 0])) o (.lst (List.replicate ((xs.length : Nat) : Int).toNat [V.int 0]).flatten)) = H1 := ⟨_, rfl⟩
  rw [h1] at s0 h0 ⊢
  dsimp only
  refine nx_to ?_
  generalize hw : List.set _ _ _ = w0
  have ew : w0 = [some (.ref a), some (.ref b), some (.ref c), some (.ref o), none, none, none, none, none, none] := by
    rw [← hw]
    kernel_rfl
  clear hw
  subst ew
  refine ⟨_, rfl, _, rfl, a, c, _, _, rfl, same_sqt s0 hI, same_sqt s0 hG, for_it (walk_Z (t1 := true) (t2 := true) (xs := ins.map V.str) (ys := gross.map V.int) rfl)
    (fun j σ H' => ∃ v1 v2 v3 v4 v5 v6 : Option V, σ = [some (.ref a), some (.ref b), some (.ref c), some (.ref o), v1, v2, v3, v4, v5, v6] ∧ Same H H' ∧ H' o = some (.lst ((payP ts ((ins.zip gross).take j) (List.replicate ts.length 0)).map V.int)))
    ⟨_, _, _, _, _, _, rfl, s0, h0⟩ (fun j σ H' _ ⟨_, _, _, _, _, _, _, sm, _⟩ => ⟨same_sqt sm hI, same_sqt sm hG⟩) ?_ ?_⟩
  · rintro j v σ H2 H3 hj ⟨v1, v2, v3, v4, v5, v6, rfl, sm, ho⟩ ⟨T0, y, w, rfl, nT, rfl, e1, e2⟩
    obtain ⟨x, rfl, hx⟩ := of_at_map (show (gross.map V.int)[j]? = some w from e2)
    have e1 : (ins.map V.str)[j]? = some y := e1
    rw [List.getElem?_map] at e1
    obtain ⟨ced, hc, rfl⟩ : ∃ ced, ins[j]? = some ced ∧ y = .str ced := by
      cases h : ins[j]? with
      | none =>
        rw [h] at e1
        cases e1
      | some ced =>
        rw [h] at e1
        exact ⟨ced, rfl, (Option.some.inj e1).symm⟩
    have hz : (ins.zip gross)[j]? = some (ced, x) := List.getElem?_zip_eq_some.mpr ⟨hc, hx⟩
    have s3 : Same H2 (upd H2 T0 (.tup [.str ced, .int x])) := same_new nT
    refine ⟨T0, _, rfl, SqT.of upd_same, rfl, _, _, rfl, _, _, rfl, rfl, ?_⟩
    refine ⟨_, rfl, _, rfl, _, rfl, b, ts, ced, x, rfl, TrsAt.same (sm.trans s3) hT, hl, hok, fun p d H4 s4 nd hd hp => ?_⟩
    refine ⟨p, _, rfl, SqT.of hp, rfl, _, _, rfl, _, _, rfl, rfl, ?_⟩
    have s4' : Same H2 H4 := s3.trans s4
    have ho4 := s4' _ _ ho
    have nod : o ≠ d := ne_of_none (s3 _ _ ho) nd
    obtain ⟨ns, hns⟩ : ∃ ns, (actv ced 0 ts).map (·.1) = ns := ⟨_, rfl⟩
    obtain ⟨as, has⟩ : ∃ as, (cedeP ced ts x).1 = as := ⟨_, rfl⟩
    obtain ⟨ps, hps⟩ : ∃ ps, payP ts ((ins.zip gross).take j) (List.replicate ts.length 0) = ps := ⟨_, rfl⟩
    have hpl : ps.length = ts.length := by
      rw [← hps, payP_len, List.length_replicate]
    rw [hps] at ho4
    rw [hns, has] at hd
    have nlt : ∀ n ∈ ns, n < ts.length := fun n hn => by
      rw [← hns] at hn
      obtain ⟨q, hq, rfl⟩ := List.mem_map.mp hn
      have := (actv_ok (n := 0) hok q hq).2
      omega
    refine ⟨d, _, hd, trivial, fun od => ?_⟩
    refine ⟨_, rfl, d, od, _, rfl, upd_same, for_it walk_items (fun i σ H' => ∃ v1 v2 v3 v4 v5 v6 : Option V, σ = [some (.ref a), some (.ref b), some (.ref c), some (.ref o), v1, v2, v3, v4, v5, v6] ∧ H' d = some (.frz od (.dK (pairsK ns as))) ∧ Bar2 o d H4 H' ∧ H' o = some (.lst ((putP ps ((ns.zip as).take i)).map V.int)))
      ⟨_, _, _, _, _, _, rfl, upd_same, fun b' u n1 n2 e => by rw [upd_ne n2]; exact e, by rw [upd_ne nod]; exact ho4⟩ (fun i σ H' _ ⟨_, _, _, _, _, _, _, hd', _⟩ => hd') ?_ ?_⟩
    · rintro i v σ H5 H6 hi ⟨u1, u2, u3, u4, u5, u6, rfl, hd5, b5, ho5⟩ ⟨T1, y, w, rfl, nT1, rfl, g1, g2⟩
      have g1 : ((pairsK ns as)[i]?.map fun kv => kV kv.1) = some y := g1
      have g2 : ((pairsK ns as)[i]?.map Prod.snd) = some w := g2
      unfold pairsK at g1 g2
      rw [List.getElem?_map] at g1 g2
      cases hq : (ns.zip as)[i]? with
      | none =>
        rw [hq] at g1
        cases g1
      | some q =>
        rw [hq] at g1 g2
        cases g1
        cases g2
        obtain ⟨z1, z2⟩ := List.getElem?_zip_eq_some.mp hq
        have hn := nlt _ (List.mem_of_getElem? z1)
        have nT1o : o ≠ T1 := ne_of_none ho5 nT1
        have nT1d : d ≠ T1 := ne_of_none hd5 nT1
        refine ⟨T1, _, rfl, SqT.of upd_same, rfl, _, _, rfl, _, _, rfl, rfl, ?_⟩
        refine ⟨_, rfl, _, rfl, _, rfl, o, _, (q.1 : Int), q.1, rfl, rfl, (by rw [upd_ne nT1o]; exact ho5), ixN_n (by rw [List.length_map, putP_len, hpl]; exact hn), ?_⟩
        refine ⟨_, _, _, _, _, _, rfl, ?_, fun b' u n1 n2 e => ?_, ?_⟩
        · rw [upd_ne nod.symm, upd_ne nT1d]
          exact hd5
        · have e5 := b5 b' u n1 n2 e
          rw [upd_ne n1, upd_ne (ne_of_none e5 nT1)]
          exact e5
        · rw [upd_same, List.take_add_one, hq]
          show some (HO.lst (((putP ps ((ns.zip as).take i)).map V.int).set q.1 (.int q.2))) = some (HO.lst ((putP ps ((ns.zip as).take i ++ [q])).map V.int))
          rw [putP_add, List.map_set]
    · rintro σ H5 ⟨u1, u2, u3, u4, u5, u6, rfl, hd5, b5, ho5⟩
      refine ⟨hd5, _, _, _, _, _, _, rfl, ?_, ?_⟩
      · intro b' u e
        have n1 : b' ≠ o := ne_of_none e nO
        by_cases n2 : b' = d
        · subst n2
          have := (sm.trans s4') _ _ e
          rw [hd] at this
          rw [upd_same]
          exact this
        · rw [upd_ne n2]
          exact b5 b' u n1 n2 ((sm.trans s4') _ _ e)
      · have hzl : (pairsK ns as).length = (ns.zip as).length := List.length_map ..
        rw [hzl, List.take_of_length_le (Nat.le_refl _)] at ho5
        rw [upd_ne nod, ho5, List.take_add_one, hz]
        show some (HO.lst ((putP ps (ns.zip as)).map V.int)) = some (HO.lst ((payP ts ((ins.zip gross).take j ++ [(ced, x)]) _).map V.int))
        rw [payP_add, hps, hns, has]
  · rintro σ H2 ⟨v1, v2, v3, v4, v5, v6, rfl, sm, ho⟩
    have hzl : min (ins.map V.str).length (gross.map V.int).length = (ins.zip gross).length := by
      rw [List.length_map, List.length_map, List.length_zip]
    rw [hzl, List.take_of_length_le (Nat.le_refl _)] at ho
    refine ⟨_, rfl, o, _, rfl, .inl ⟨SqL.of ho, fun p np => ?_⟩⟩
    exact q p _ (same_add sm np) (sm.free np) upd_same

theorem ok_panel_parts {f : Addr} {fd : FuncData} (D_panel_parts : Dfn K mg "panel_parts" s_panel_parts ["panel", "amount"] f fd) (T : Tx K mg C_SpiralError C_BadName C_BadCover C_BadPanel C_BadAmount C_NameTaken C_NoSuchName C_Twice C_OwnPanel C_TooMany C_NoEnd C_Market) {f_allocate : Addr} {fd_allocate : FuncData} (D_allocate : Dfn K mg "allocate" s_allocate ["amount", "shares"] f_allocate fd_allocate) (G_allocate : FnOk P w K mg base CX0 (1) f_allocate fd_allocate ["amount", "shares"] (sp_allocate K)) :
    FnOk P w K mg base CX0 (2) f fd ["panel", "amount"] (sp_panel_parts K) := by
  refine D_panel_parts.F.ok sc_panel_parts (fun vs H Q E h => ?_) (fun cdv A outer s H vs Q E hr h => ?_)
  · obtain ⟨x, ps, m, rfl, hP, hok, q⟩ := h
    rfl
  obtain ⟨x, ps, m, rfl, hP, hok, q⟩ := h
  refine ⟨_, (pss_one (ps_ret (pe_call G_allocate (hr.mono (by first | decide | omega)) rfl D_allocate.m D_allocate.F.kp D_allocate.b .nil pass0 (pa_cons (pv 1) (pa_cons (pe_lc (own := [("_", 2), ("shares", 3)]) (g := (gTup K 2 (gCons (gName 2) (gCons (gName 3) gNil)))) (tt := tYes) rfl sc_panel_parts.nd (pi_tup (pv 0)) (blkOk_by (own := [("_", 2), ("shares", 3)]) (N := (["panel", "amount", "_", "shares"] : List Str)) (sc := defScope s_panel_parts) (by decide +kernel)) (fun _ _ _ _ _ => (pg_tup rfl (pgs_cons (pg_name (i := 2) sc_panel_parts.nd rfl (by first | exact Or.inl rfl | exact Or.inr rfl)) (pgs_cons (pg_name (i := 3) sc_panel_parts.nd rfl (by first | exact Or.inl rfl | exact Or.inr rfl)) pgs_nil)))) (fun _ _ _ _ _ => pts_nil) (fun _ _ _ _ _ => (pv 3))) pa_nil))))), ?_⟩
  obtain ⟨a, xs, rfl, hS, hl, hE⟩ := PanAt.ent hP
  have h6 := hok.hi
  have hsl : (shs ps).length = ps.length := List.length_map ..
  refine ⟨_, rfl, _, rfl, a, rfl, ⟨_, hS⟩, fun D nD => lc_tup (K := K) (a := a) (xs := xs) (fun i H' => Same H H' ∧ H' D = some (.lst (((shs ps).map V.int).take i))) ⟨same_new nD, upd_same⟩ (fun i H' _ z => same_sqt z.1 hS) ?_ ?_⟩
  · rintro i y H' hi ⟨sm, hD⟩
    obtain ⟨e, b, he, rfl, hb⟩ := hE i y hi
    refine ⟨b, _, rfl, same_sqt sm hb, rfl, _, _, rfl, _, _, rfl, rfl, rfl, ?_⟩
    have hy : ((shs ps).map V.int)[i]? = some (.int e.2) := by
      refine at_map ?_
      show (ps.map (·.2))[i]? = some e.2
      rw [List.getElem?_map, he]
      rfl
    exact ⟨_, rfl, acc_to nD sm hD hy (by rw [List.length_map]; omega)⟩
  · rintro H' ⟨sm, hD⟩
    have hD2 := acc_all (by rw [List.length_map]; omega) hD
    refine ⟨m, D, shs ps, rfl, ⟨.inl (SqL.of hD2), shs_pos hok, shs_ne hok, ?_⟩, fun p H2 s2 np hp => q p H2 (sm.trans s2) (sm.free np) hp⟩
    have := hok.sum
    show (ps.map (·.2)).sum ≤ 100000
    omega

theorem ok_next_gross {f : Addr} {fd : FuncData} (D_next_gross : Dfn K mg "next_gross" s_next_gross ["insurers", "treaties", "direct", "gross"] f fd) (T : Tx K mg C_SpiralError C_BadName C_BadCover C_BadPanel C_BadAmount C_NameTaken C_NoSuchName C_Twice C_OwnPanel C_TooMany C_NoEnd C_Market) {f_treaty_payments : Addr} {fd_treaty_payments : FuncData} (D_treaty_payments : Dfn K mg "treaty_payments" s_treaty_payments ["insurers", "treaties", "gross"] f_treaty_payments fd_treaty_payments) (G_treaty_payments : FnOk P w K mg base CX0 (4) f_treaty_payments fd_treaty_payments ["insurers", "treaties", "gross"] (sp_treaty_payments K)) {f_panel_parts : Addr} {fd_panel_parts : FuncData} (D_panel_parts : Dfn K mg "panel_parts" s_panel_parts ["panel", "amount"] f_panel_parts fd_panel_parts) (G_panel_parts : FnOk P w K mg base CX0 (2) f_panel_parts fd_panel_parts ["panel", "amount"] (sp_panel_parts K)) :
    FnOk P w K mg base CX0 (5) f fd ["insurers", "treaties", "direct", "gross"] (sp_next_gross K) := by
  refine D_next_gross.F.ok sc_next_gross (fun vs H Q E h => ?_) (fun cdv A outer s H vs Q E hr h => ?_)
  · obtain ⟨a, b, c, d, ins, ts, ds, gs, rfl, hI, hT, hok, hD, hdl, hG, q⟩ := h
    rfl
  obtain ⟨a, b, c, d, ins, ts, ds, gs, rfl, hI, hT, hok, hD, hdl, hG, q⟩ := h
  refine ⟨_, (pss_cons (ps_set (i := 4) sc_next_gross.nd rfl (by first | exact Or.inl rfl | exact Or.inr rfl) (pe_dc (own := [("insurer", 14), ("loss", 15)]) (g := (gTup K 2 (gCons (gName 14) (gCons (gName 15) gNil)))) (tt := tYes) rfl sc_next_gross.nd (pi_zipS true true (by rfl) T.zip (pa_cons (pv 0) (pa_cons (pv 2) pa_nil))) (blkOk_by (own := [("insurer", 14), ("loss", 15)]) (N := (["insurers", "treaties", "direct", "gross", "losses", "paid", "cedent", "cover", "panel", "ended", "amount", "participant", "_", "part", "insurer", "loss"] : List Str)) (sc := defScope s_next_gross) (by decide +kernel)) (fun _ _ _ _ _ => (pg_tup rfl (pgs_cons (pg_name (i := 14) sc_next_gross.nd rfl (by first | exact Or.inl rfl | exact Or.inr rfl)) (pgs_cons (pg_name (i := 15) sc_next_gross.nd rfl (by first | exact Or.inl rfl | exact Or.inr rfl)) pgs_nil)))) (fun _ _ _ _ _ => pts_nil) (fun _ _ _ _ _ => (pv 14)) (fun _ _ _ _ _ => (pv 15))))
      (pss_cons (ps_set (i := 5) sc_next_gross.nd rfl (by first | exact Or.inl rfl | exact Or.inr rfl) (pe_call G_treaty_payments (hr.mono (by first | decide | omega)) rfl D_treaty_payments.m D_treaty_payments.F.kp D_treaty_payments.b .nil pass0 (pa_cons (pv 0) (pa_cons (pv 1) (pa_cons (pv 3) pa_nil)))))
      (pss_cons (ps_for PassesOwn.never rfl (pi_zipS true true (by rfl) T.zip (pa_cons (pv 1) (pa_cons (pv 5) pa_nil))) (pg_tup rfl (pgs_cons (pg_tup rfl (pgs_cons (pg_name (i := 6) sc_next_gross.nd rfl (by first | exact Or.inl rfl | exact Or.inr rfl)) (pgs_cons (pg_name (i := 7) sc_next_gross.nd rfl (by first | exact Or.inl rfl | exact Or.inr rfl)) (pgs_cons (pg_name (i := 8) sc_next_gross.nd rfl (by first | exact Or.inl rfl | exact Or.inr rfl)) (pgs_cons (pg_name (i := 9) sc_next_gross.nd rfl (by first | exact Or.inl rfl | exact Or.inr rfl)) pgs_nil))))) (pgs_cons (pg_name (i := 10) sc_next_gross.nd rfl (by first | exact Or.inl rfl | exact Or.inr rfl)) pgs_nil)))
      (pss_one (ps_for PassesOwn.never rfl (pi_zipS true true (by rfl) T.zip (pa_cons (pv 8) (pa_cons (pe_call G_panel_parts (hr.mono (by first | decide | omega)) rfl D_panel_parts.m D_panel_parts.F.kp D_panel_parts.b .nil pass0 (pa_cons (pv 8) (pa_cons (pv 10) pa_nil))) pa_nil))) (pg_tup rfl (pgs_cons (pg_tup rfl (pgs_cons (pg_name (i := 11) sc_next_gross.nd rfl (by first | exact Or.inl rfl | exact Or.inr rfl)) (pgs_cons (pg_name (i := 12) sc_next_gross.nd rfl (by first | exact Or.inl rfl | exact Or.inr rfl)) pgs_nil))) (pgs_cons (pg_name (i := 13) sc_next_gross.nd rfl (by first | exact Or.inl rfl | exact Or.inr rfl)) pgs_nil)))
      (pss_one (ps_if (pt_cmpR op_notN (pv 11) pe_non (nomark _))
      (pss_one (ps_daug (hu_of hr) (pv 4) (pv 11) (pv 13) in_add (fun _ _ _ => rfl)))
      pss_nil)))))
      (pss_one (ps_ret (pe_callTy call_tuple_of (by rfl) T.tuple (by decide +kernel) (pa_cons (pe_lc (own := [("insurer", 14)]) (g := (gName 14)) (tt := tYes) rfl sc_next_gross.nd (pi_tup (pv 0)) (blkOk_by (own := [("insurer", 14)]) (N := (["insurers", "treaties", "direct", "gross", "losses", "paid", "cedent", "cover", "panel", "ended", "amount", "participant", "_", "part", "insurer", "loss"] : List Str)) (sc := defScope s_next_gross) (by decide +kernel)) (fun _ _ _ _ _ => (pg_name (i := 14) sc_next_gross.nd rfl (by first | exact Or.inl rfl | exact Or.inr rfl))) (fun _ _ _ _ _ => pts_nil) (fun _ _ _ _ _ => (pe_dget (hu_of hr) (pv 4) (pv 14) (fun _ _ => rfl)))) pa_nil))))))), ?_⟩
  have hlI : (ins.map V.str).length = ins.length := List.length_map ..
  refine ⟨_, rfl, _, rfl, a, c, _, _, rfl, hI, hD, fun G nG => dc_it (walk_Z (t1 := true) (t2 := true) (xs := ins.map V.str) (ys := ds.map V.int) rfl) (fun i H' => Same H H' ∧ H' G = some (.dK ((pairsS ins ds).take i))) ⟨same_new nG, upd_same⟩ (fun i H' _ z => ⟨same_sqt z.1 hI, same_sqt z.1 hD⟩) ?_ ?_⟩
  · rintro i v H1 H2 hi ⟨sm, hG0⟩ ⟨T0, y, w, rfl, nT, rfl, e1, e2⟩
    obtain ⟨x, rfl, hx⟩ := of_at_map (show (ds.map V.int)[i]? = some w from e2)
    obtain ⟨z, rfl, hz⟩ := of_at_str (show (ins.map V.str)[i]? = some y from e1)
    generalize hw : wipe _ _ = w0
    have ew : w0 = [some (.ref a), some (.ref b), some (.ref c), some (.ref d), none, none, none, none, none, none, none, none, none, none, none, none] := by
      rw [← hw]
      kernel_rfl
    clear hw
    subst ew
    have s3 : Same H1 (upd H1 T0 (.tup [.str z, .int x])) := same_new nT
    refine ⟨T0, _, rfl, SqT.of upd_same, rfl, _, _, rfl, _, _, rfl, rfl, by kernel_rfl, ?_⟩
    refine ⟨_, rfl, _, rfl, _, .inr z, rfl, s3 _ _ hG0, ?_, same_put (sm.trans s3) nG, ?_⟩
    · rw [List.length_take]
      have := (List.getElem?_eq_some_iff.mp hz).1
      have := hok.few
      exact szl (by omega)
    · rw [upd_same, putK_new (pairsS_new hok.nd hz), List.take_add_one, pairsS_get hz hx]
      rfl
  · rintro H1 ⟨s1, hG1⟩
    have hzl : min (ins.map V.str).length (ds.map V.int).length = (pairsS ins ds).length := by
      unfold pairsS
      rw [List.length_map, List.length_map, List.length_map, List.length_zip]
    rw [hzl, List.take_of_length_le (Nat.le_refl _)] at hG1
    dsimp only
    refine nx_to ?_
    generalize hw : List.set _ _ _ = w0
    have ew : w0 = [some (.ref a), some (.ref b), some (.ref c), some (.ref d), some (.ref G), none, none, none, none, none, none, none, none, none, none, none] := by
      rw [← hw]
      kernel_rfl
    clear hw
    subst ew
    refine ⟨_, rfl, _, rfl, _, rfl, a, b, d, ins, ts, gs, rfl, same_sqt s1 hI, TrsAt.same s1 hT, hok.len, fun t ht => (hok.ok t ht).c, same_sqt s1 hG, fun tp H2 s2 ntp htp => ?_⟩
    obtain ⟨pay, hpay⟩ : ∃ pay, tpay ts ins gs = pay := ⟨_, rfl⟩
    have hpl : pay.length = ts.length := by
      rw [← hpay]
      unfold tpay
      rw [payP_len, List.length_replicate]
    rw [hpay] at htp
    have s12 := s1.trans s2
    have hI2 := same_sqt s12 hI
    obtain ⟨xs, hS2, hA2⟩ := TrsAt.same s12 hT
    have hG2 := s2 _ _ hG1
    have nGp : ∀ {H' : Hp}, Bar G H2 H' → Same H H' := fun e => Bar.keep nG ((Bar.of s12).trans e)
    have tG : G ≠ tp := ne_of_none hG1 ntp
    dsimp only
    refine nx_to ?_
    generalize hw : List.set _ _ _ = w0
    have ew : w0 = [some (.ref a), some (.ref b), some (.ref c), some (.ref d), some (.ref G), some (.ref tp), none, none, none, none, none, none, none, none, none, none] := by
      rw [← hw]
      kernel_rfl
    clear hw
    subst ew
    obtain ⟨xs0, hS0, hA0⟩ := id hT
    refine ⟨_, rfl, _, rfl, b, tp, xs0, _, rfl, same_sqt s12 hS0, SqT.of htp, for_it (walk_Z (t1 := true) (t2 := true) (xs := xs0) (ys := pay.map V.int) rfl)
      (fun j σ H' => ∃ v1 v2 v3 v4 v5 v6 v7 v8 v9 v0 : Option V, σ = [some (.ref a), some (.ref b), some (.ref c), some (.ref d), some (.ref G), some (.ref tp), v1, v2, v3, v4, v5, v6, v7, v8, v9, v0] ∧ Bar G H2 H' ∧ H' G = some (.dK (pairsS ins (addTrs ins ((ts.zip pay).take j) ds))))
      ⟨_, _, _, _, _, _, _, _, _, _, rfl, Bar.refl _, hG2⟩ (fun j σ H' _ ⟨_, _, _, _, _, _, _, _, _, _, _, bb, _⟩ => ⟨same_sqt (nGp bb) hS0, SqT.of (bb _ _ tG.symm htp)⟩) ?_ ?_⟩
    · rintro j v σ H3 H4 hj ⟨v1, v2, v3, v4, v5, v6, v7, v8, v9, v0, rfl, bb, hG3⟩ ⟨T0, y, w, rfl, nT, rfl, e1, e2⟩
      obtain ⟨m, rfl, hm⟩ := of_at_map (show (pay.map V.int)[j]? = some w from e2)
      have e1 : xs0[j]? = some y := e1
      obtain ⟨t, ht, a1, vc, vp, rfl, g1, g2, g3⟩ := hA0.get e1
      obtain ⟨pa, px, rfl, hpS, hpl2, hpE⟩ := PanAt.ent g3
      have htm := List.mem_of_getElem? ht
      have s4 : Same H3 (upd H3 T0 (.tup [.ref a1, .int m])) := same_new nT
      have hz : (ts.zip pay)[j]? = some (t, m) := List.getElem?_zip_eq_some.mpr ⟨ht, hm⟩
      obtain ⟨H4, h4⟩ : ∃ H4, (upd H3 T0 (.tup [.ref a1, .int m])) = H4 := ⟨_, rfl⟩
      have hT0 : H4 T0 = some (.tup [.ref a1, .int m]) := by
        rw [← h4]
        exact upd_same
      rw [h4] at s4 ⊢
      have s04 : Same H H4 := (nGp bb).trans s4
      refine ⟨T0, _, rfl, SqT.of hT0, rfl, ?_⟩
      refine ⟨_, _, rfl, a1, _, rfl, same_sqt s04 g1, rfl, ?_⟩
      refine ⟨_, _, rfl, ?_⟩
      refine ⟨_, _, rfl, ?_⟩
      refine ⟨_, _, rfl, ?_⟩
      refine ⟨_, _, rfl, rfl, ?_⟩
      refine ⟨_, _, rfl, rfl, ?_⟩
      generalize hw : List.set _ _ _ = w0
      have ew : w0 = [some (.ref a), some (.ref b), some (.ref c), some (.ref d), some (.ref G), some (.ref tp), some (.str t.ced), some (.ref vc), some (.ref pa), some (.bl t.ended), some (.int m), v6, v7, v8, v9, v0] := by
        rw [← hw]
        rfl
      clear hw
      subst ew
      refine ⟨_, rfl, _, rfl, _, rfl, .ref pa, t.pan, m, rfl, PanAt.same s04 g3, (hok.ok t htm).p, fun pp H5 s5 npp hpp => ?_⟩
      have s05 := s04.trans s5
      obtain ⟨parts, hparts⟩ : ∃ parts, alloc m (shs t.pan) = parts := ⟨_, rfl⟩
      rw [hparts] at hpp
      have hpn : parts.length = t.pan.length := by
        rw [← hparts, alloc_len]
        exact List.length_map ..
      have hG5 := (s4.trans s5) _ _ hG3
      obtain ⟨ls, hls⟩ : ∃ ls, addTrs ins ((ts.zip pay).take j) ds = ls := ⟨_, rfl⟩
      have hll : ls.length = ins.length := by rw [← hls, addTrs_len, hdl]
      rw [hls] at hG5
      have b5 : ∀ {H' : Hp}, Bar G H5 H' → Bar G H2 H' := fun e => bb.trans ((Bar.of (s4.trans s5)).trans e)
      have pG : G ≠ pp := ne_of_none (s4 _ _ hG3) npp
      refine ⟨pa, pp, px, _, rfl, same_sqt s05 hpS, SqT.of hpp, for_it (walk_Z (t1 := true) (t2 := true) (xs := px) (ys := parts.map V.int) rfl)
        (fun i σ H' => ∃ v1 v2 v3 v4 v5 v6 v7 v8 v9 v0 : Option V, σ = [some (.ref a), some (.ref b), some (.ref c), some (.ref d), some (.ref G), some (.ref tp), v1, v2, v3, v4, v5, v6, v7, v8, v9, v0] ∧ Bar G H5 H' ∧ H' G = some (.dK (pairsS ins (addPan ins ((t.pan.zip parts).take i) ls))))
        ⟨_, _, _, _, _, _, _, _, _, _, rfl, Bar.refl _, hG5⟩ (fun i σ H' _ ⟨_, _, _, _, _, _, _, _, _, _, _, be, _⟩ => ⟨same_sqt (nGp (b5 be)) hpS, SqT.of (be _ _ pG.symm hpp)⟩) ?_ ?_⟩
      · rintro i v σ H6 H7 hi ⟨u1, u2, u3, u4, u5, u6, u7, u8, u9, u0, rfl, be, hG6⟩ ⟨T1, y, w, rfl, nT1, rfl, f1, f2⟩
        obtain ⟨part, rfl, hpart⟩ := of_at_map (show (parts.map V.int)[i]? = some w from f2)
        have f1 : px[i]? = some y := f1
        obtain ⟨e, eb, he, rfl, heS⟩ := hpE i y f1
        have hzz : (t.pan.zip parts)[i]? = some (e, part) := List.getElem?_zip_eq_some.mpr ⟨he, hpart⟩
        have s7 : Same H6 (upd H6 T1 (.tup [.ref eb, .int part])) := same_new nT1
        obtain ⟨H7, h7⟩ : ∃ H7, (upd H6 T1 (.tup [.ref eb, .int part])) = H7 := ⟨_, rfl⟩
        have hT1 : H7 T1 = some (.tup [.ref eb, .int part]) := by
          rw [← h7]
          exact upd_same
        rw [h7] at s7 ⊢
        refine ⟨T1, _, rfl, SqT.of hT1, rfl, ?_⟩
        refine ⟨_, _, rfl, eb, _, rfl, same_sqt ((nGp (b5 be)).trans s7) heS, rfl, ?_⟩
        refine ⟨_, _, rfl, ?_⟩
        refine ⟨_, _, rfl, rfl, ?_⟩
        refine ⟨_, _, rfl, rfl, ?_⟩
        have hG7 := s7 _ _ hG6
        have be7 : Bar G H5 H7 := be.trans (Bar.of s7)
        obtain ⟨l2, hl2⟩ : ∃ l2, addPan ins ((t.pan.zip parts).take i) ls = l2 := ⟨_, rfl⟩
        have hl2l : l2.length = ins.length := by rw [← hl2, addPan_len, hll]
        rw [hl2] at hG7
        rcases e with ⟨_ | z, n⟩
        · refine ⟨_, rfl, rfl, _, rfl, iteF ?_⟩
          refine ⟨_, _, _, _, _, _, _, _, _, _, rfl, be7, ?_⟩
          rw [List.take_add_one, hzz]
          show H7 G = some (.dK (pairsS ins (addPan ins ((t.pan.zip parts).take i ++ [((none, n), part)]) ls)))
          rw [addPan_add, hl2]
          exact hG7
        · have hzin := hok.mem t htm (some z, n) (List.mem_of_getElem? he) z rfl
          obtain ⟨k, hk⟩ := List.getElem?_of_mem hzin
          have hkl := (List.getElem?_eq_some_iff.mp hk).1
          have hx : l2[k]? = some l2[k] := List.getElem?_eq_getElem (by omega)
          refine ⟨_, rfl, rfl, _, rfl, iteT ?_⟩
          refine ⟨_, rfl, _, rfl, G, .int l2[k], rfl, .inl ⟨_, .inr z, .inl hG7, rfl, (pairsS_val hok.nd hk hx).symm⟩, _, rfl, _, _, rfl, rfl, _, .inl ⟨_, .inr z, hG7, rfl, ?_, rfl⟩, ?_⟩
          · unfold pairsS
            rw [List.length_map, List.length_zip]
            have := hok.few
            exact szl (by omega)
          · refine ⟨_, _, _, _, _, _, _, _, _, _, rfl, Bar.put be7, ?_⟩
            rw [upd_same, List.take_add_one, hzz]
            show some (HO.dK (putK (pairsS ins l2) (.inr z) (.int (l2[k] + part)))) = some (HO.dK (pairsS ins (addPan ins ((t.pan.zip parts).take i ++ [((some z, n), part)]) ls)))
            rw [addPan_add, hl2, pairsS_put hok.nd hk hx]
            show _ = some (HO.dK (pairsS ins (addAt ins l2 z part)))
            rw [addAt_set hok.nd hk hx]
      · rintro σ H6 ⟨u1, u2, u3, u4, u5, u6, u7, u8, u9, u0, rfl, be, hG6⟩
        refine ⟨_, _, _, _, _, _, _, _, _, _, rfl, b5 be, ?_⟩
        have hzl : min px.length (parts.map V.int).length = (t.pan.zip parts).length := by
          rw [List.length_map, List.length_zip, hpl2]
        rw [hzl, List.take_of_length_le (Nat.le_refl _)] at hG6
        rw [hG6, List.take_add_one, hz]
        show _ = some (HO.dK (pairsS ins (addTrs ins ((ts.zip pay).take j ++ [(t, m)]) ds)))
        rw [addTrs_add, hls, hparts]
    · rintro σ H3 ⟨v1, v2, v3, v4, v5, v6, v7, v8, v9, v0, rfl, bb, hG3⟩
      have hzl : min xs0.length (pay.map V.int).length = (ts.zip pay).length := by
        rw [List.length_map, List.length_zip, hA0.1]
      rw [hzl, List.take_of_length_le (Nat.le_refl _)] at hG3
      have hfin : addTrs ins (ts.zip pay) ds = nextG ins ts ds gs := by
        unfold nextG
        rw [hpay]
      rw [hfin] at hG3
      obtain ⟨ls, hls⟩ : ∃ ls, nextG ins ts ds gs = ls := ⟨_, rfl⟩
      have hll : ls.length = ins.length := by
        rw [← hls]
        unfold nextG
        rw [addTrs_len, hdl]
      rw [hls] at hG3 q
      have s03 := nGp bb
      refine ⟨_, rfl, a, rfl, ⟨_, same_sqt s03 hI⟩, fun D nD => lc_tup (K := K) (a := a) (xs := ins.map V.str) (fun i H' => Same H3 H' ∧ H' D = some (.lst ((ls.map V.int).take i))) ⟨same_new nD, upd_same⟩ (fun i H' _ z => same_sqt (s03.trans z.1) hI) ?_ ?_⟩
      · rintro i y H' hi ⟨sm, hD4⟩
        obtain ⟨z, rfl, hz⟩ := of_at_str hi
        have hil := (List.getElem?_eq_some_iff.mp hz).1
        have hx : ls[i]? = some ls[i] := List.getElem?_eq_getElem (by omega)
        exact ⟨rfl, ⟨_, rfl, _, rfl, G, .int ls[i], rfl, .inl ⟨_, .inr z, .inl (sm _ _ hG3), rfl, (pairsS_val hok.nd hz hx).symm⟩, acc_to nD sm hD4 (at_map hx) (by rw [List.length_map]; have := hok.few; omega)⟩⟩
      · rintro H' ⟨sm, hD4⟩
        have hD5 := acc_all (by rw [List.length_map, List.length_map, hll]) hD4
        refine ⟨D, _, rfl, .inl ⟨SqL.of hD5, fun p np => ?_⟩⟩
        exact q p _ (same_add (s03.trans sm) np) ((s03.trans sm).free np) upd_same

theorem ok_rounds_to_end {f : Addr} {fd : FuncData} (D_rounds_to_end : Dfn K mg "rounds_to_end" s_rounds_to_end ["insurers", "treaties", "direct"] f fd) (T : Tx K mg C_SpiralError C_BadName C_BadCover C_BadPanel C_BadAmount C_NameTaken C_NoSuchName C_Twice C_OwnPanel C_TooMany C_NoEnd C_Market) {f_next_gross : Addr} {fd_next_gross : FuncData} (D_next_gross : Dfn K mg "next_gross" s_next_gross ["insurers", "treaties", "direct", "gross"] f_next_gross fd_next_gross) (G_next_gross : FnOk P w K mg base CX0 (5) f_next_gross fd_next_gross ["insurers", "treaties", "direct", "gross"] (sp_next_gross K)) :
    FnOk P w K mg base (L2.CX P w) (6) f fd ["insurers", "treaties", "direct"] (sp_rounds K C_NoEnd) := by
  refine D_rounds_to_end.F.okX sc_rounds_to_end (fun vs H Q E h => ?_) (fun cdv A outer s H vs Q E hr h => ?_)
  · obtain ⟨a, b, c, ins, ts, ds, rfl, hI, hT, hok, hD, hdl, q1, q2⟩ := h
    rfl
  obtain ⟨a, b, c, ins, ts, ds, rfl, hI, hT, hok, hD, hdl, q1, q2⟩ := h
  refine ⟨_, (pss_cons (ps_set (i := 3) sc_rounds_to_end.nd rfl (by first | exact Or.inl rfl | exact Or.inr rfl) (pe_lst (pa_cons (pv 2) pa_nil)))
      (pss_cons (ps_for (passes_of rfl) rfl (pi_range1 (by rfl) T.range (pa_cons (pe_op op_add (pe_gi rfl T.g_LAST_ROUND) pe_int) pa_nil)) (pg_name (i := 4) sc_rounds_to_end.nd rfl (by first | exact Or.inl rfl | exact Or.inr rfl))
      (pss_cons (ps_set (i := 5) sc_rounds_to_end.nd rfl (by first | exact Or.inl rfl | exact Or.inr rfl) (pe_call G_next_gross (hr.mono (by first | decide | omega)) rfl D_next_gross.m D_next_gross.F.kp D_next_gross.b .nil pass0 (pa_cons (pv 0) (pa_cons (pv 1) (pa_cons (pv 2) (pa_cons (pe_ix (r := rIxL K) ix_list (pv 3) (pe_un un_neg pe_int) (fun _ _ => rfl)) pa_nil))))))
      (pss_cons (ps_if (pt_cmpR (op_eqD hr.units) (pv 5) (pe_ix (r := rIxL K) ix_list (pv 3) (pe_un un_neg pe_int) (fun _ _ => rfl)) (nomark _))
      (pss_cons (ps_if (pt_val (pe_callB (cr_any rfl) (by rfl) T.any (by decide +kernel) (pa_cons (pe_lc (own := [("loss", 6)]) (g := (gName 6)) (tt := tYes) rfl sc_rounds_to_end.nd (pi_tup (pv 5)) (blkOk_by (own := [("loss", 6)]) (N := (["insurers", "treaties", "direct", "rows", "_", "behind", "loss"] : List Str)) (sc := defScope s_rounds_to_end) (by decide +kernel)) (fun _ _ _ _ _ => (pg_name (i := 6) sc_rounds_to_end.nd rfl (by first | exact Or.inl rfl | exact Or.inr rfl))) (fun _ _ _ _ _ => pts_nil) (fun _ _ _ _ _ => (pe_cmpR op_gt (pv 6) (pe_gi rfl T.g_MOST_GROSS) (nomark _)))) pa_nil)))
      (pss_one (ps_raise rfl (takes_of rfl rfl rfl rfl) (pmk_own PySem.F.excBase_ValueError T.exc_NoEnd.x T.exc_NoEnd.g T.exc_NoEnd.k (raises_own T.exc_NoEnd.b T.exc_NoEnd.t) rfl)))
      pss_nil)
      (pss_one (ps_ret (pe_callTy call_tuple_of (by rfl) T.tuple (by decide +kernel) (pa_cons (pv 3) pa_nil)))))
      pss_nil)
      (pss_one (ps_expr (pe_bm PySem.F.plainAttrs_list PySem.F.slot_list_append PySem.F.type_list_append mt_append (pv 3) (pa_cons (pv 5) pa_nil)))))))
      (pss_one (ps_raise rfl (takes_of rfl rfl rfl rfl) (pmk_own PySem.F.excBase_ValueError T.exc_NoEnd.x T.exc_NoEnd.g T.exc_NoEnd.k (raises_own T.exc_NoEnd.b T.exc_NoEnd.t) rfl))))), ?_⟩
  refine ⟨_, rfl, sz (by show 1 ≤ 100000; decide), fun o no => ?_⟩
  dsimp only
  refine nx_to ?_
  generalize hw : List.set _ _ _ = w0
  have ew : w0 = [some (.ref a), some (.ref b), some (.ref c), some (.ref o), none, none, none] := by
    rw [← hw]
    kernel_rfl
  clear hw
  subst ew
  refine ⟨_, _, rfl, rfl, 201, rfl, by decide, by decide, for_range (lo := 0) (n := 201) (fun i σ H' => ∃ v4 v5 v6 : Option V, σ = [some (.ref a), some (.ref b), some (.ref c), some (.ref o), v4, v5, v6] ∧ Same H H' ∧ (∀ j, j < i → row ins ts ds (j + 1) ≠ row ins ts ds j) ∧
    ∃ (ys : List V) (y : Addr), H' o = some (.lst (ys ++ [.ref y])) ∧ AllAt (RowR K) H' (ys ++ [.ref y]) ((List.range (i + 1)).map (row ins ts ds)) ∧ SqT K H' y ((row ins ts ds i).map V.int))
    ⟨_, _, _, rfl, same_new no, fun j hj => absurd hj (Nat.not_lt_zero j), [], c, upd_same, ?_, same_sqt (same_new no) hD⟩ ?_ ?_⟩
  · refine ⟨rfl, fun i r hr => ?_⟩
    cases i with
    | zero =>
      cases hr
      exact ⟨.ref c, rfl, c, rfl, same_sqt (same_new no) hD⟩
    | succ i => simp at hr
  · rintro i σ H1 hi ⟨v4, v5, v6, rfl, sm, hne, ys, y, ho, hA, hy⟩
    have hal := hA.1
    rw [List.length_append, List.length_map, List.length_range] at hal
    have hal : ys.length + 1 = i + 1 := hal
    refine ⟨_, rfl, _, rfl, _, rfl, _, rfl, 1, rfl, o, _, _, .ref y, rfl, rfl, SqL.of ho, atI_last _ _, ?_⟩
    refine ⟨a, b, c, y, ins, ts, ds, row ins ts ds i, rfl, same_sqt sm hI, TrsAt.same sm hT, hok, same_sqt sm hD, hdl, hy, fun g H2 s2 ng hg => ?_⟩
    have hg2 : H2 g = some (.tup ((row ins ts ds (i + 1)).map V.int)) := hg
    have s02 := sm.trans s2
    have hy2 := same_sqt s2 hy
    have ho2 := s2 _ _ ho
    have hA2 : AllAt (RowR K) H2 (ys ++ [.ref y]) ((List.range (i + 1)).map (row ins ts ds)) := AllAt.same (R := RowR K) (fun e r => RowR.same e r) s2 hA
    dsimp only
    refine nx_to ?_
    generalize hw : List.set _ _ _ = w0
    have ew : w0 = [some (.ref a), some (.ref b), some (.ref c), some (.ref o), some (.int (0 + (i : Int))), some (.ref g), v6] := by
      rw [← hw]
      rfl
    clear hw
    subst ew
    refine ⟨_, rfl, _, rfl, 1, rfl, o, _, _, .ref y, rfl, rfl, SqL.of ho2, atI_last _ _, ?_⟩
    refine ⟨.tuple ((row ins ts ds (i + 1)).map PyData.int), .tuple ((row ins ts ds i).map PyData.int), .tup (SqT.of hg2) (DpAll.ints _), .tup hy2 (DpAll.ints _), shp_ints _, shp_ints _, _, rfl, ?_⟩
    rw [eqv_tup]
    refine iteB (fun c1 => ?_) (fun c1 => ?_)
    · have he := of_decide_eq_true c1
      obtain ⟨qe, qr⟩ := q1 i (by omega) he hne
      have hrl := row_len (ts := ts) hdl (i + 1)
      have hfew := hok.few
      refine ⟨_, rfl, g, rfl, ⟨_, SqT.of hg2⟩, fun D nD => lc_tup (K := K) (a := g) (xs := (row ins ts ds (i + 1)).map V.int) (fun k H' => Same H2 H' ∧ H' D = some (.lst ((((row ins ts ds (i + 1)).map fun x => decide (1000000000 < x)).map V.bl).take k))) ⟨same_new nD, upd_same⟩ (fun k H' _ z => SqT.of (z.1 _ _ hg2)) ?_ ?_⟩
      · rintro k v H' hk ⟨s3, hD3⟩
        obtain ⟨x, rfl, hx⟩ := of_at_map hk
        have hb : (((row ins ts ds (i + 1)).map fun x => decide (1000000000 < x)).map V.bl)[k]? = some (.bl (decide (1000000000 < x))) := by
          rw [List.getElem?_map, List.getElem?_map, hx]
          rfl
        exact ⟨rfl, ⟨_, rfl, _, _, rfl, rfl, acc_to nD s3 hD3 hb (by rw [List.length_map, List.length_map]; omega)⟩⟩
      · rintro H' ⟨s3, hD3⟩
        have hD4 := acc_all (by rw [List.length_map, List.length_map, List.length_map]) hD3
        refine ⟨D, _, rfl, SqL.of hD4, _, rfl, ?_⟩
        rw [List.any_map]
        have eb : (row ins ts ds (i + 1)).any (id ∘ fun x => decide (1000000000 < x)) = big (row ins ts ds i) := by
          rw [he]
          rfl
        rw [eb]
        refine iteB (fun c2 => ?_) (fun c2 => ?_)
        · exact qe c2 _ (s02.trans s3)
        · refine ⟨_, rfl, o, _, rfl, .inl ⟨SqL.of (s3 _ _ ho2), fun p np => ?_⟩⟩
          have s4 : Same H2 (upd H' p (.tup (ys ++ [.ref y]))) := same_add s3 np
          exact qr c2 p _ (s02.trans s4) ⟨_, SqT.of upd_same, AllAt.same (R := RowR K) (fun e r => RowR.same e r) s4 hA2⟩
    · have hne1 := of_decide_eq_false c1
      refine ⟨_, rfl, .inl ⟨rfl, _, SqL.of ho2⟩, _, rfl, o, _, _, rfl, rfl, ho2, by rw [List.length_append]; show ys.length + 1 < sizeLine; exact szl (by omega), ?_⟩
      refine ⟨_, _, _, rfl, same_put s02 no, fun j hj => ?_, ys ++ [.ref y], g, upd_same, ?_, sqt_put ho2 (SqT.of hg2)⟩
      · by_cases e : j = i
        · rw [e]
          exact hne1
        · exact hne j (by omega)
      · rw [List.range_succ, List.map_append]
        exact AllAt.add (AllAt.imp (S := RowR K) hA2 fun v r h => RowR.put ho2 h) ⟨g, rfl, sqt_put ho2 (SqT.of hg2)⟩
  · rintro σ H1 ⟨v4, v5, v6, rfl, sm, hne, _⟩
    exact q2 (fun i hi => hne i (by omega)) _ sm

theorem ok_rounds {f : Addr} {fd : FuncData} (D_rounds : Dfn K mg "rounds" s_rounds ["market", "event"] f fd) (T : Tx K mg C_SpiralError C_BadName C_BadCover C_BadPanel C_BadAmount C_NameTaken C_NoSuchName C_Twice C_OwnPanel C_TooMany C_NoEnd C_Market) {f_rounds_to_end : Addr} {fd_rounds_to_end : FuncData} (D_rounds_to_end : Dfn K mg "rounds_to_end" s_rounds_to_end ["insurers", "treaties", "direct"] f_rounds_to_end fd_rounds_to_end) (G_rounds_to_end : FnOk P w K mg base (L2.CX P w) (6) f_rounds_to_end fd_rounds_to_end ["insurers", "treaties", "direct"] (sp_rounds K C_NoEnd)) {f_Market_direct : Addr} {fd_Market_direct : FuncData} (D_Market_direct : Mth K C_Market "direct" "Market.direct" s_Market_direct ["self", "event"] f_Market_direct fd_Market_direct) (G_Market_direct : FnOk P w K mg base (L2.CX P w) (4) f_Market_direct fd_Market_direct ["self", "event"] (sp_direct K C_Market C_NoSuchName)) :
    FnOk P w K mg base (L2.CX P w) (7) f fd ["market", "event"] (sp_rounds_of K C_Market C_NoSuchName) := by
  refine D_rounds.F.okX sc_rounds (fun vs H Q E h => ?_) (fun cdv A outer s H vs Q E hr h => ?_)
  · obtain ⟨m, M, e, rfl, hM, hok, h⟩ := h
    rfl
  obtain ⟨m, M, e, rfl, hM, hok, h⟩ := h
  refine ⟨_, (pss_one (ps_ret (pe_call G_rounds_to_end (hr.mono (by first | decide | omega)) rfl D_rounds_to_end.m D_rounds_to_end.F.kp D_rounds_to_end.b .nil (passes_call (takes_of rfl rfl rfl rfl) (fun _ _ _ _ h => h)) (pa_cons (pe_fld (pv 0) rfl) (pa_cons (pe_fld (pv 0) rfl) (pa_cons (pe_meth (pv 0) T.cl_Market D_Market_direct.m G_Market_direct (hr.mono (by first | decide | omega)) D_Market_direct.b .nil (passes_call (takes_of rfl rfl rfl rfl) (fun _ _ _ _ h => h)) (pa_cons (pv 1) pa_nil)) pa_nil)))))), ?_⟩
  obtain ⟨dx, ai, ae, at', ad, h0, h1, h2, h3, h4, h5⟩ := id hM
  refine ⟨_, rfl, m, C_Market, dx, _, _, rfl, h0, T.cl_Market, T.no_Market_insurers, mf_i, _, rfl, m, C_Market, dx, _, _, rfl, h0, T.cl_Market, T.no_Market_treaties, mf_t, _, rfl, m, dx, _, rfl, h0, mf_no (by decide +kernel), _, rfl, m, M, e, rfl, hM, hok.few, ?_⟩
  rcases h with ⟨he, q⟩ | ⟨he, i, hi, hfix, hfst, hbig, q⟩
  · exact .inr ⟨he, fun d H' s hd => q d H' s hd⟩
  refine .inl ⟨he, fun c H1 s1 nc hc => ?_⟩
  have hdl : (directs M.ins M.los e).length = M.ins.length := List.length_map ..
  refine ⟨ai, at', c, M.ins, M.trs, _, rfl, same_sqt s1 h1, TrsAt.same s1 h3, hok, SqT.of hc, hdl, fun k hk hr hf => ?_, fun hn => absurd hfix (hn i hi)⟩
  have ek : k = i := first_one (p := fun i => row M.ins M.trs (directs M.ins M.los e) (i + 1) = row M.ins M.trs (directs M.ins M.los e) i) hr hfix hf hfst
  subst ek
  exact ⟨fun hb => absurd hb (by rw [hbig]; exact Bool.false_ne_true), fun _ p H2 s2 hp => q p H2 (s1.trans s2) hp⟩

theorem ok_settled {f : Addr} {fd : FuncData} (D_settled : Dfn K mg "settled" s_settled ["market", "event"] f fd) (T : Tx K mg C_SpiralError C_BadName C_BadCover C_BadPanel C_BadAmount C_NameTaken C_NoSuchName C_Twice C_OwnPanel C_TooMany C_NoEnd C_Market) {f_rounds : Addr} {fd_rounds : FuncData} (D_rounds : Dfn K mg "rounds" s_rounds ["market", "event"] f_rounds fd_rounds) (G_rounds : FnOk P w K mg base (L2.CX P w) (7) f_rounds fd_rounds ["market", "event"] (sp_rounds_of K C_Market C_NoSuchName)) :
    FnOk P w K mg base (L2.CX P w) (8) f fd ["market", "event"] (sp_settled K C_Market C_NoSuchName) := by
  refine D_settled.F.okX sc_settled (fun vs H Q E h => ?_) (fun cdv A outer s H vs Q E hr h => ?_)
  · obtain ⟨m, M, e, rfl, hM, hok, h⟩ := h
    rfl
  obtain ⟨m, M, e, rfl, hM, hok, h⟩ := h
  refine ⟨_, (pss_one (ps_ret (pe_ix (r := rIxT K) ix_tup (pe_call G_rounds (hr.mono (by first | decide | omega)) rfl D_rounds.m D_rounds.F.kp D_rounds.b .nil (passes_call (takes_of rfl rfl rfl rfl) (fun _ _ _ _ h => h)) (pa_cons (pv 0) (pa_cons (pv 1) pa_nil))) (pe_un un_neg pe_int) (fun _ _ => rfl)))), ?_⟩
  rcases h with ⟨he, q⟩ | ⟨he, i, hi, hfix, hfst, hbig, q⟩
  · exact ⟨_, rfl, _, rfl, m, M, e, rfl, hM, hok, .inl ⟨he, q⟩⟩
  refine ⟨_, rfl, _, rfl, m, M, e, rfl, hM, hok, .inr ⟨he, i, hi, hfix, hfst, hbig, fun p H1 s1 hp => ?_⟩⟩
  obtain ⟨xs, hxS, hA⟩ := hp
  obtain ⟨y, hy, b, rfl, hb⟩ := hA.2 i (row M.ins M.trs (directs M.ins M.los e) i) (by rw [List.getElem?_map, List.getElem?_range (Nat.lt_succ_self i)]; rfl)
  have hl : xs.length = i + 1 := by rw [hA.1, List.length_map, List.length_range]
  have ex : xs = xs.take i ++ [.ref b] := by
    obtain ⟨h1, h2⟩ := List.getElem?_eq_some_iff.mp hy
    rw [← h2, List.take_append_getElem h1, List.take_of_length_le (Nat.le_of_eq hl)]
  refine ⟨1, rfl, p, xs, -1, .ref b, rfl, rfl, hxS, ?_, q b H1 s1 hb⟩
  rw [ex]
  exact atI_last _ _

theorem ok_check_unit_ends {f : Addr} {fd : FuncData} (D_check_unit_ends : Dfn K mg "check_unit_ends" s_check_unit_ends ["market", "event", "insurer"] f fd) (T : Tx K mg C_SpiralError C_BadName C_BadCover C_BadPanel C_BadAmount C_NameTaken C_NoSuchName C_Twice C_OwnPanel C_TooMany C_NoEnd C_Market) {f_Market_direct : Addr} {fd_Market_direct : FuncData} (D_Market_direct : Mth K C_Market "direct" "Market.direct" s_Market_direct ["self", "event"] f_Market_direct fd_Market_direct) (G_Market_direct : FnOk P w K mg base (L2.CX P w) (4) f_Market_direct fd_Market_direct ["self", "event"] (sp_direct K C_Market C_NoSuchName)) {f_rounds_to_end : Addr} {fd_rounds_to_end : FuncData} (D_rounds_to_end : Dfn K mg "rounds_to_end" s_rounds_to_end ["insurers", "treaties", "direct"] f_rounds_to_end fd_rounds_to_end) (G_rounds_to_end : FnOk P w K mg base (L2.CX P w) (6) f_rounds_to_end fd_rounds_to_end ["insurers", "treaties", "direct"] (sp_rounds K C_NoEnd)) :
    FnOk P w K mg base (L2.CX P w) (7) f fd ["market", "event", "insurer"] (sp_check_unit_ends K C_Market C_NoEnd) := by
  refine D_check_unit_ends.F.okX sc_check_unit_ends (fun vs H Q E h => ?_) (fun cdv A outer s H vs Q E hr h => ?_)
  · obtain ⟨m, M, e, z, k, d, rfl, hM, hok, he, hk, hd, h⟩ := h
    rfl
  obtain ⟨m, M, e, z, k, d, rfl, hM, hok, he, hk, hd, h⟩ := h
  refine ⟨_, (pss_cons (ps_setLc (i := 3) (own := [("name", 4), ("loss", 5)]) (g := (gTup K 2 (gCons (gName 4) (gCons (gName 5) gNil)))) (tt := tYes) rfl sc_check_unit_ends.nd rfl rfl (sw_true rfl rfl rfl (by decide +kernel)) (pi_zipS true true (by rfl) T.zip (pa_cons (pe_fld (pv 0) rfl) (pa_cons (pe_meth (pv 0) T.cl_Market D_Market_direct.m G_Market_direct (hr.mono (by first | decide | omega)) D_Market_direct.b .nil (passes_call (takes_of rfl rfl rfl rfl) (fun _ _ _ _ h => h)) (pa_cons (pv 1) pa_nil)) pa_nil))) (blkOk_by (own := [("name", 4), ("loss", 5)]) (N := (["market", "event", "insurer", "direct", "name", "loss"] : List Str)) (sc := defScope s_check_unit_ends) (by decide +kernel)) (fun _ _ _ _ _ => (pg_tup rfl (pgs_cons (pg_name (i := 4) sc_check_unit_ends.nd rfl (by first | exact Or.inl rfl | exact Or.inr rfl)) (pgs_cons (pg_name (i := 5) sc_check_unit_ends.nd rfl (by first | exact Or.inl rfl | exact Or.inr rfl)) pgs_nil)))) (fun _ _ _ _ _ => pts_nil) (fun _ _ _ _ _ => (pe_ifExp (pt_cmpR op_eq (pv 4) (pv 2) (nomark _)) (pe_op op_add (pv 5) pe_int) (pv 5))))
      (pss_one (ps_expr (pe_call G_rounds_to_end (hr.mono (by first | decide | omega)) rfl D_rounds_to_end.m D_rounds_to_end.F.kp D_rounds_to_end.b .nil (passes_call (takes_of rfl rfl rfl rfl) (fun _ _ _ _ h => h)) (pa_cons (pe_fld (pv 0) rfl) (pa_cons (pe_fld (pv 0) rfl) (pa_cons (pe_callTy call_tuple_of (by rfl) T.tuple (by decide +kernel) (pa_cons (pv 3) pa_nil)) pa_nil))))))), ?_⟩
  obtain ⟨dx, ai, ae, at', ad, h0, h1, h2, h3, h4, h5⟩ := id hM
  refine ⟨_, rfl, m, C_Market, dx, _, _, rfl, h0, T.cl_Market, T.no_Market_insurers, mf_i, _, rfl, m, dx, _, rfl, h0, mf_no (by decide +kernel), _, rfl, m, M, e, rfl, hM, hok.few, ?_⟩
  refine .inl ⟨he, fun c H1 s1 nc hc => ?_⟩
  have hdl : (directs M.ins M.los e).length = M.ins.length := List.length_map ..
  obtain ⟨es, hes⟩ : ∃ es, (directs M.ins M.los e).set k (d + 1) = es := ⟨_, rfl⟩
  have el : es.length = M.ins.length := by
    rw [← hes, List.length_set]
    exact hdl
  rw [hes] at h
  have hfew := hok.few
  refine ⟨ai, c, _, _, rfl, same_sqt s1 h1, SqT.of hc, fun D nD => lc_it (walk_Z (t1 := true) (t2 := true) (xs := M.ins.map V.str) (ys := (directs M.ins M.los e).map V.int) rfl)
    (fun i H' => Same H1 H' ∧ H' D = some (.lst ((es.map V.int).take i))) ⟨same_new nD, upd_same⟩ (fun i H' _ q => ⟨same_sqt (s1.trans q.1) h1, SqT.of (q.1 _ _ hc)⟩) ?_ ?_⟩
  · rintro i v H4 H5 hi ⟨s4, hG⟩ ⟨T0, y, w, rfl, nT, rfl, e1, e2⟩
    obtain ⟨x, rfl, hx⟩ := of_at_map (show ((directs M.ins M.los e).map V.int)[i]? = some w from e2)
    obtain ⟨u, rfl, hu⟩ := of_at_str (show (M.ins.map V.str)[i]? = some y from e1)
    have s5 : Same H4 (upd H4 T0 (.tup [.str u, .int x])) := same_new nT
    generalize hw : wipe _ _ = w0
    have ew : w0 = [some (.ref m), some (.str e), some (.str z), none, none, none] := by
      rw [← hw]
      kernel_rfl
    clear hw
    subst ew
    refine ⟨T0, _, rfl, SqT.of upd_same, rfl, ?_⟩
    refine ⟨_, _, rfl, _, _, rfl, rfl, by kernel_rfl, ?_⟩
    refine ⟨_, rfl, _, rfl, rfl, _, rfl, ?_⟩
    have il := (List.getElem?_eq_some_iff.mp hu).1
    refine iteB (fun c1 => ?_) (fun c1 => ?_)
    · have eu : u = z := V.str.inj (of_decide_eq_true c1)
      subst eu
      have ei := nodup_at hok.nd hu hk
      subst ei
      rw [hd] at hx
      cases Option.some.inj hx
      have hv : (es.map V.int)[i]? = some (.int (d + 1)) := at_map (by rw [← hes, List.getElem?_set_self (by omega)])
      exact ⟨_, rfl, _, _, rfl, rfl, acc_to nD (s4.trans s5) (s5 _ _ hG) hv (by rw [List.length_map]; omega)⟩
    · have ne : ¬ k = i := fun q => by
        subst q
        rw [hk] at hu
        cases Option.some.inj hu
        rw [decide_eq_true rfl] at c1
        cases c1
      have hv : (es.map V.int)[i]? = some (.int x) := at_map (by rw [← hes, List.getElem?_set_ne ne]; exact hx)
      exact ⟨_, rfl, acc_to nD (s4.trans s5) (s5 _ _ hG) hv (by rw [List.length_map]; omega)⟩
  rintro H2 ⟨s2, hG⟩
  have hm : min (M.ins.map V.str).length ((directs M.ins M.los e).map V.int).length = (es.map V.int).length := by
    rw [List.length_map, List.length_map, List.length_map]
    omega
  rw [hm, List.take_of_length_le (Nat.le_refl _)] at hG
  have s02 := s1.trans s2
  dsimp only
  refine nx_to ?_
  generalize hw : List.set _ _ _ = w0
  have ew : w0 = [some (.ref m), some (.str e), some (.str z), some (.ref D), none, none] := by
    rw [← hw]
    kernel_rfl
  clear hw
  subst ew
  refine ⟨_, rfl, m, C_Market, dx, _, _, rfl, s02 _ _ h0, T.cl_Market, T.no_Market_insurers, mf_i, _, rfl, m, C_Market, dx, _, _, rfl, s02 _ _ h0, T.cl_Market, T.no_Market_treaties, mf_t, _, rfl, D, _, rfl, .inl ⟨SqL.of hG, fun t nt => ?_⟩⟩
  have s3 := same_add (o := .tup (es.map V.int)) s02 nt
  refine ⟨ai, at', t, M.ins, M.trs, es, rfl, same_sqt s3 h1, TrsAt.same s3 h3, hok, SqT.of upd_same, el, fun i hi hr hf => ⟨fun hb H' s' => ?_, fun hb p H' s' _ => ?_⟩, fun hn H' s' => ?_⟩
  · rcases h with ⟨ht, q⟩ | ⟨_, q⟩
    · exact (fate_one ht (.inl ⟨i, hi, hr, hf, hb⟩)).elim
    · exact q H' (s3.trans s')
  · rcases h with ⟨_, q⟩ | ⟨ht, q⟩
    · exact q H' (s3.trans s')
    · exact (fate_one ⟨i, hi, hr, hf, hb⟩ ht).elim
  · rcases h with ⟨ht, q⟩ | ⟨_, q⟩
    · exact (fate_one ht (.inr hn)).elim
    · exact q H' (s3.trans s')

theorem ok_next_step {f : Addr} {fd : FuncData} (D_next_step : Dfn K mg "next_step" s_next_step ["treaties", "insurer", "loss"] f fd) (T : Tx K mg C_SpiralError C_BadName C_BadCover C_BadPanel C_BadAmount C_NameTaken C_NoSuchName C_Twice C_OwnPanel C_TooMany C_NoEnd C_Market) {f_cede : Addr} {fd_cede : FuncData} (D_cede : Dfn K mg "cede" s_cede ["treaties", "cedent", "loss"] f_cede fd_cede) (G_cede : FnOk P w K mg base CX0 (3) f_cede fd_cede ["treaties", "cedent", "loss"] (sp_cede K)) {f_next_unit : Addr} {fd_next_unit : FuncData} (D_next_unit : Dfn K mg "next_unit" s_next_unit ["amount", "shares"] f_next_unit fd_next_unit) (G_next_unit : FnOk P w K mg base CX0 (1) f_next_unit fd_next_unit ["amount", "shares"] (sp_next_unit K)) :
    FnOk P w K mg base CX0 (4) f fd ["treaties", "insurer", "loss"] (sp_next_step K) := by
  refine D_next_step.F.ok sc_next_step (fun vs H Q E h => ?_) (fun cdv A outer s H vs Q E hr h => ?_)
  · obtain ⟨a, ts, c, x, rfl, hT, hlen, hok, q1, q2⟩ := h
    rfl
  obtain ⟨a, ts, c, x, rfl, hT, hlen, hok, q1, q2⟩ := h
  refine ⟨_, (pss_cons (ps_asg (pe_call G_cede (hr.mono (by first | decide | omega)) rfl D_cede.m D_cede.F.kp D_cede.b .nil pass0 (pa_cons (pv 0) (pa_cons (pv 1) (pa_cons (pv 2) pa_nil)))) (pg_tup rfl (pgs_cons (pg_name (i := 3) sc_next_step.nd rfl (by first | exact Or.inl rfl | exact Or.inr rfl)) (pgs_cons (pg_name (i := 4) sc_next_step.nd rfl (by first | exact Or.inl rfl | exact Or.inr rfl)) pgs_nil))))
      (pss_cons (ps_asg (pe_call G_cede (hr.mono (by first | decide | omega)) rfl D_cede.m D_cede.F.kp D_cede.b .nil pass0 (pa_cons (pv 0) (pa_cons (pv 1) (pa_cons (pe_op op_add (pv 2) pe_int) pa_nil)))) (pg_tup rfl (pgs_cons (pg_name (i := 5) sc_next_step.nd rfl (by first | exact Or.inl rfl | exact Or.inr rfl)) (pgs_cons (pg_name (i := 4) sc_next_step.nd rfl (by first | exact Or.inl rfl | exact Or.inr rfl)) pgs_nil))))
      (pss_cons (ps_lock (ps_for PassesOwn.never rfl (pi_items (pv 3)) (pg_tup rfl (pgs_cons (pg_name (i := 6) sc_next_step.nd rfl (by first | exact Or.inl rfl | exact Or.inr rfl)) (pgs_cons (pg_name (i := 7) sc_next_step.nd rfl (by first | exact Or.inl rfl | exact Or.inr rfl)) pgs_nil)))
      (pss_one (ps_if (pt_cmpR op_gt (pe_dget (hu_of hr) (pv 5) (pv 6) (fun _ _ => rfl)) (pv 7) (nomark _))
      (pss_cons (ps_set (i := 8) sc_next_step.nd rfl (by first | exact Or.inl rfl | exact Or.inr rfl) (pe_ix (r := rIxT K) ix_tup (pe_ix (r := rIxT K) ix_tup (pv 0) (pv 6) (fun _ _ => rfl)) pe_int (fun _ _ => rfl)))
      (pss_cons (ps_set (i := 9) sc_next_step.nd rfl (by first | exact Or.inl rfl | exact Or.inr rfl) (pe_call G_next_unit (hr.mono (by first | decide | omega)) rfl D_next_unit.m D_next_unit.F.kp D_next_unit.b .nil pass0 (pa_cons (pv 7) (pa_cons (pe_lc (own := [("_", 4), ("shares", 10)]) (g := (gTup K 2 (gCons (gName 4) (gCons (gName 10) gNil)))) (tt := tYes) rfl sc_next_step.nd (pi_tup (pv 8)) (blkOk_by (own := [("_", 4), ("shares", 10)]) (N := (["treaties", "insurer", "loss", "ahead", "_", "behind", "number", "amount", "panel", "index", "shares"] : List Str)) (sc := defScope s_next_step) (by decide +kernel)) (fun _ _ _ _ _ => (pg_tup rfl (pgs_cons (pg_name (i := 4) sc_next_step.nd rfl (by first | exact Or.inl rfl | exact Or.inr rfl)) (pgs_cons (pg_name (i := 10) sc_next_step.nd rfl (by first | exact Or.inl rfl | exact Or.inr rfl)) pgs_nil)))) (fun _ _ _ _ _ => pts_nil) (fun _ _ _ _ _ => (pv 10))) pa_nil))))
      (pss_one (ps_ret (pe_tup (pa_cons (pv 6) (pa_cons (pe_ix (r := rIxT K) ix_tup (pe_ix (r := rIxT K) ix_tup (pv 8) (pv 9) (fun _ _ => rfl)) pe_int (fun _ _ => rfl)) pa_nil)))))))
      pss_nil))))
      (pss_one (ps_ret pe_non))))), ?_⟩
  have hcv : ∀ t ∈ ts, CvOk t.cov := fun t ht => (hok t ht).c
  refine ⟨_, rfl, _, rfl, _, rfl, a, ts, c, x, rfl, hT, hlen, hcv, fun p d H1 s1 nd hd hp => ⟨p, _, rfl, SqT.of hp, rfl, _, _, rfl, _, _, rfl, rfl, ?_⟩⟩
  dsimp only
  generalize hw : List.set _ _ _ = w0
  have ew : w0 = [some (.ref a), some (.str c), some (.int x), some (.ref d), some (.int (cedeP c ts x).2), none, none, none, none, none, none] := by
    rw [← hw]
    kernel_rfl
  clear hw
  subst ew
  refine ⟨_, rfl, _, rfl, _, rfl, _, _, rfl, rfl, a, ts, c, x + 1, rfl, TrsAt.same s1 hT, hlen, hcv, fun p2 b H2 s2 nb hb hp2 => ⟨p2, _, rfl, SqT.of hp2, rfl, _, _, rfl, _, _, rfl, rfl, ?_⟩⟩
  dsimp only
  generalize hw : List.set _ _ _ = w0
  have ew : w0 = [some (.ref a), some (.str c), some (.int x), some (.ref d), some (.int (cedeP c ts (x + 1)).2), some (.ref b), none, none, none, none, none] := by
    rw [← hw]
    kernel_rfl
  clear hw
  subst ew
  have s02 := s1.trans s2
  have hd2 := s2 _ _ hd
  have ndb : d ≠ b := ne_of_none hd nb
  have nHd : H d = none := nd
  obtain ⟨ns, hns⟩ : ∃ ns, (actv c 0 ts).map (·.1) = ns := ⟨_, rfl⟩
  obtain ⟨as, has⟩ : ∃ as, (cedeP c ts x).1 = as := ⟨_, rfl⟩
  obtain ⟨bs, hbs⟩ : ∃ bs, (cedeP c ts (x + 1)).1 = bs := ⟨_, rfl⟩
  have hup : ns.Pairwise (· < ·) := by
    rw [← hns]
    exact actv_up
  have nlt : ∀ n ∈ ns, n < ts.length := fun n hn => by
    rw [← hns] at hn
    obtain ⟨q, hq, rfl⟩ := List.mem_map.mp hn
    have := (actv_ok (n := 0) hcv q hq).2
    omega
  have lna : as.length = ns.length := by
    rw [← has, ← hns]
    unfold cedeP
    rw [prog_len, List.length_map, List.length_map]
  have lnb : bs.length = ns.length := by
    rw [← hbs, ← hns]
    unfold cedeP
    rw [prog_len, List.length_map, List.length_map]
  have hfnd : fnd (ns.zip (as.zip bs)) = stepS c ts x := by
    have h := fnd_is (c := c) (ts := ts) 0 (x := x) hcv
    unfold tri at h
    have e1 : (stepS c ts x).map (fun e => (0 + e.1, e.2)) = stepS c ts x := by
      cases stepS c ts x with
      | none => rfl
      | some w =>
        show some (0 + w.1, w.2) = some w
        rw [Nat.zero_add]
    rw [e1] at h
    rw [← hns, ← has, ← hbs]
    exact h
  rw [hns, has] at hd2
  rw [hns, hbs] at hb
  refine ⟨d, _, hd2, trivial, fun od => ?_⟩
  have kpl : (pairsK ns as).length = ns.length := by
    unfold pairsK
    rw [List.length_map, List.length_zip]
    omega
  obtain ⟨xs, hxS, hxA⟩ := TrsAt.same s02 hT
  have hxS3 : SqT K (upd H2 d (.frz od (.dK (pairsK ns as)))) a xs := sqt_dk hd2 hxS
  have hxA3 : AllAt (TrAt K) (upd H2 d (.frz od (.dK (pairsK ns as)))) xs ts := AllAt.imp (S := TrAt K) hxA fun y t r => by
    obtain ⟨a1, vc, vp, rfl, g1, g2, pa, px, rfl, g3, g4, g5⟩ := r
    exact ⟨a1, vc, _, rfl, sqt_dk hd2 g1, sqt_dk hd2 g2, pa, px, rfl, sqt_dk hd2 g3, g4, fun i e he => let ⟨y, f1, bb, f0, f2⟩ := g5 i e he; ⟨y, f1, bb, f0, sqt_dk hd2 f2⟩⟩
  have hb3 : upd H2 d (.frz od (.dK (pairsK ns as))) b = some (.dK (pairsK ns bs)) := by
    rw [upd_ne ndb.symm]
    exact hb
  have hd3 : upd H2 d (.frz od (.dK (pairsK ns as))) d = some (.frz od (.dK (pairsK ns as))) := upd_same
  have back : ∀ {H' : Hp}, Same (upd H2 d (.frz od (.dK (pairsK ns as)))) H' → Same H (upd H' d (.dK (pairsK ns as))) := fun s b' u hb' => by
    have n1 : b' ≠ d := ne_of_none hb' nHd
    rw [upd_ne n1]
    exact s _ _ (by rw [upd_ne n1]; exact s02 _ _ hb')
  obtain ⟨H3, h3⟩ : ∃ H3, upd H2 d (.frz od (.dK (pairsK ns as))) = H3 := ⟨_, rfl⟩
  rw [h3] at hxS3 hxA3 hb3 hd3
  have back : ∀ {H' : Hp}, Same H3 H' → Same H (upd H' d (.dK (pairsK ns as))) := fun s => back (by rw [h3]; exact s)
  refine ⟨_, rfl, d, od, _, rfl, upd_same, ?_⟩
  rw [h3]
  clear h3
  refine for_it walk_items (fun i σ H' => ∃ v6 v7 : Option V, σ = [some (.ref a), some (.str c), some (.int x), some (.ref d), some (.int (cedeP c ts (x + 1)).2), some (.ref b), v6, v7, none, none, none] ∧ Same H3 H' ∧ fnd (ns.zip (as.zip bs)) = fnd ((ns.zip (as.zip bs)).drop i)) ⟨_, _, rfl, Same.refl _, rfl⟩ (fun i σ H' _ ⟨_, _, _, s, _⟩ => s _ _ hd3) ?_ ?_
  · rintro i v σ H5 H6 hi ⟨v6, v7, rfl, s5, hf⟩ ⟨T1, y, w, rfl, nT1, rfl, g1, g2⟩
    rw [kpl] at hi
    obtain ⟨n, hn⟩ : ∃ n, ns[i]? = some n := ⟨_, List.getElem?_eq_getElem hi⟩
    obtain ⟨u, hu⟩ : ∃ u, as[i]? = some u := ⟨_, List.getElem?_eq_getElem (by omega)⟩
    obtain ⟨u2, hu2⟩ : ∃ u, bs[i]? = some u := ⟨_, List.getElem?_eq_getElem (by omega)⟩
    have hpk := pairsK_get hn hu
    have g1 : ((pairsK ns as)[i]?.map fun kv => kV kv.1) = some y := g1
    have g2 : ((pairsK ns as)[i]?.map Prod.snd) = some w := g2
    rw [hpk] at g1 g2
    cases Option.some.inj g1
    cases Option.some.inj g2
    have st := fnd_step (List.getElem?_zip_eq_some.mpr ⟨hn, List.getElem?_zip_eq_some.mpr ⟨hu, hu2⟩⟩ : (ns.zip (as.zip bs))[i]? = some (n, u, u2))
    have s6 : Same H5 (upd H5 T1 (.tup [.int (n : Int), .int u])) := same_new nT1
    have s36 := s5.trans s6
    refine ⟨T1, _, rfl, SqT.of upd_same, rfl, _, _, rfl, _, _, rfl, rfl, ?_⟩
    refine ⟨_, rfl, _, rfl, b, .int u2, rfl, .inl ⟨_, .inl (n : Int), .inl (s36 _ _ hb3), rfl, (pairsK_val hup hn hu2).symm⟩, _, rfl, _, _, rfl, rfl, _, rfl, ?_⟩
    refine iteB (fun c1 => ?_) (fun c1 => ?_)
    · rw [if_pos (of_decide_eq_true c1)] at st
      have hst : stepS c ts x = some (n, u) := by
        rw [← hfnd, hf, st]
      obtain ⟨t, ht⟩ : ∃ t, ts[n]? = some t := ⟨_, List.getElem?_eq_getElem (nlt n (List.mem_of_getElem? hn))⟩
      have hto := hok t (List.mem_of_getElem? ht)
      obtain ⟨e, he, hem⟩ := who_is hto.p u
      obtain ⟨yt, hyt, a1, vc, vp, rfl, g1, g2, g3⟩ := hxA3.2 n t ht
      obtain ⟨pa, px, rfl, hpS, hpl, hpE⟩ := PanAt.ent g3
      have h6 := hto.p.hi
      have hsl : (shs t.pan).length = t.pan.length := List.length_map ..
      dsimp only
      refine ⟨_, rfl, _, rfl, a, _, _, .ref a1, rfl, rfl, same_sqt s36 hxS3, atI_nat hyt, a1, _, 2, .ref pa, rfl, rfl, same_sqt s36 g1, rfl, ?_⟩
      dsimp only
      refine nx_to ?_
      refine ⟨_, rfl, _, rfl, pa, rfl, ⟨_, same_sqt s36 hpS⟩, fun G nG => lc_tup (K := K) (a := pa) (xs := px) (fun j H' => Same (upd H5 T1 (.tup [.int (n : Int), .int u])) H' ∧ H' G = some (.lst (((shs t.pan).map V.int).take j))) ⟨same_new nG, upd_same⟩ (fun j H' _ z => same_sqt (s36.trans z.1) hpS) ?_ ?_⟩
      · rintro j w H' hj ⟨sq, hGj⟩
        obtain ⟨en, eb, hen, rfl, heS⟩ := hpE j w hj
        have hev : ((shs t.pan).map V.int)[j]? = some (.int en.2) := by
          refine at_map ?_
          show (t.pan.map (·.2))[j]? = some en.2
          rw [List.getElem?_map, hen]
          rfl
        refine ⟨eb, _, rfl, same_sqt (s36.trans sq) heS, rfl, _, _, rfl, _, _, rfl, rfl, by rfl, ?_⟩
        exact ⟨_, rfl, acc_to nG sq hGj hev (by rw [List.length_map]; omega)⟩
      rintro H7 ⟨s7, hG⟩
      have hG := acc_all (by rw [List.length_map]; omega) hG
      refine ⟨u, G, shs t.pan, rfl, ⟨.inl (SqL.of hG), shs_pos hto.p, shs_ne hto.p, by have := hto.p.sum; show (t.pan.map (·.2)).sum ≤ _; omega⟩, ?_⟩
      have s37 := s36.trans s7
      obtain ⟨pe, hpe⟩ : ∃ pe, px[nxt (u % (shs t.pan).sum) (shs t.pan)]? = some pe := ⟨_, List.getElem?_eq_getElem (by rw [hpl]; exact (List.getElem?_eq_some_iff.mp he).1)⟩
      obtain ⟨e', eb, he', rfl, heS⟩ := hpE _ pe hpe
      have ee : e' = e := by
        have h := he
        unfold whoS at h
        rw [he'] at h
        exact Option.some.inj h
      subst ee
      dsimp only
      refine nx_to ?_
      refine ⟨_, rfl, _, rfl, _, rfl, pa, _, _, .ref eb, rfl, rfl, same_sqt s37 hpS, atI_nat hpe, eb, _, 0, optV e'.1, rfl, rfl, same_sqt s37 heS, rfl, sz (by show 2 ≤ 100000; decide), fun r nr => ?_⟩
      have s8 := same_new (o := .tup [.int (n : Int), optV e'.1]) nr
      refine ⟨(s37.trans s8) _ _ hd3, ?_⟩
      refine q2 n u t e' hst ht he r _ (back (s37.trans s8)) ?_
      rw [upd_ne (ne_of_none (s37 _ _ hd3) nr).symm, upd_same]
      rfl
    · rw [if_neg (of_decide_eq_false c1)] at st
      exact ⟨_, _, rfl, s36, hf.trans st⟩
  · rintro σ H5 ⟨v6, v7, rfl, s5, hf⟩
    refine ⟨s5 _ _ hd3, ?_⟩
    have hno : stepS c ts x = none := by
      rw [← hfnd, hf, List.drop_eq_nil_of_le (by rw [List.length_zip, List.length_zip, kpl]; omega)]
      rfl
    exact q1 hno _ (back s5)

theorem ok_path {f : Addr} {fd : FuncData} (D_path : Dfn K mg "path" s_path ["market", "event", "insurer"] f fd) (T : Tx K mg C_SpiralError C_BadName C_BadCover C_BadPanel C_BadAmount C_NameTaken C_NoSuchName C_Twice C_OwnPanel C_TooMany C_NoEnd C_Market) {f_check_names : Addr} {fd_check_names : FuncData} (D_check_names : Dfn K mg "check_names" s_check_names ["market", "event", "insurer"] f_check_names fd_check_names) (G_check_names : FnOk P w K mg base (L2.CX P w) (4) f_check_names fd_check_names ["market", "event", "insurer"] (sp_check_names K C_Market C_NoSuchName)) {f_check_unit_ends : Addr} {fd_check_unit_ends : FuncData} (D_check_unit_ends : Dfn K mg "check_unit_ends" s_check_unit_ends ["market", "event", "insurer"] f_check_unit_ends fd_check_unit_ends) (G_check_unit_ends : FnOk P w K mg base (L2.CX P w) (7) f_check_unit_ends fd_check_unit_ends ["market", "event", "insurer"] (sp_check_unit_ends K C_Market C_NoEnd)) {f_settled : Addr} {fd_settled : FuncData} (D_settled : Dfn K mg "settled" s_settled ["market", "event"] f_settled fd_settled) (G_settled : FnOk P w K mg base (L2.CX P w) (8) f_settled fd_settled ["market", "event"] (sp_settled K C_Market C_NoSuchName)) {f_next_step : Addr} {fd_next_step : FuncData} (D_next_step : Dfn K mg "next_step" s_next_step ["treaties", "insurer", "loss"] f_next_step fd_next_step) (G_next_step : FnOk P w K mg base CX0 (4) f_next_step fd_next_step ["treaties", "insurer", "loss"] (sp_next_step K)) :
    FnOk P w K mg base (L2.CX P w) (9) f fd ["market", "event", "insurer"] (sp_path K C_Market C_NoSuchName C_NoEnd) := by
  refine D_path.F.okX sc_path (fun vs H Q E h => ?_) (fun cdv A outer s H vs Q E hr h => ?_)
  · obtain ⟨m, M, e, z, rfl, hM, hok, h⟩ := h
    rfl
  obtain ⟨m, M, e, z, rfl, hM, hok, h⟩ := h
  refine ⟨_, (pss_cons (ps_expr (pe_call G_check_names (hr.mono (by first | decide | omega)) rfl D_check_names.m D_check_names.F.kp D_check_names.b .nil (passes_call (takes_of rfl rfl rfl rfl) (fun _ _ _ _ h => h)) (pa_cons (pv 0) (pa_cons (pv 1) (pa_cons (pv 2) pa_nil)))))
      (pss_cons (ps_expr (pe_call G_check_unit_ends (hr.mono (by first | decide | omega)) rfl D_check_unit_ends.m D_check_unit_ends.F.kp D_check_unit_ends.b .nil (passes_call (takes_of rfl rfl rfl rfl) (fun _ _ _ _ h => h)) (pa_cons (pv 0) (pa_cons (pv 1) (pa_cons (pv 2) pa_nil)))))
      (pss_cons (ps_setDc (i := 3) (own := [("name", 9), ("loss", 10)]) (g := (gTup K 2 (gCons (gName 9) (gCons (gName 10) gNil)))) (tt := tYes) rfl sc_path.nd rfl rfl (sw_dict rfl rfl rfl (by decide +kernel)) (pi_zipS true true (by rfl) T.zip (pa_cons (pe_fld (pv 0) rfl) (pa_cons (pe_call G_settled (hr.mono (by first | decide | omega)) rfl D_settled.m D_settled.F.kp D_settled.b .nil (passes_call (takes_of rfl rfl rfl rfl) (fun _ _ _ _ h => h)) (pa_cons (pv 0) (pa_cons (pv 1) pa_nil))) pa_nil))) (blkOk_by (own := [("name", 9), ("loss", 10)]) (N := (["market", "event", "insurer", "reached", "passed", "holder", "step", "number", "participant", "name", "loss"] : List Str)) (sc := defScope s_path) (by decide +kernel)) (fun _ _ _ _ _ => (pg_tup rfl (pgs_cons (pg_name (i := 9) sc_path.nd rfl (by first | exact Or.inl rfl | exact Or.inr rfl)) (pgs_cons (pg_name (i := 10) sc_path.nd rfl (by first | exact Or.inl rfl | exact Or.inr rfl)) pgs_nil)))) (fun _ _ _ _ _ => pts_nil) (fun _ _ _ _ _ => (pv 9)) (fun _ _ _ _ _ => (pv 10)))
      (pss_cons (ps_set (i := 4) sc_path.nd rfl (by first | exact Or.inl rfl | exact Or.inr rfl) (pe_lst pa_nil))
      (pss_cons (ps_set (i := 5) sc_path.nd rfl (by first | exact Or.inl rfl | exact Or.inr rfl) (pv 2))
      (pss_cons (ps_while (passes_of rfl) (pt_cmpR op_notN (pv 5) pe_non (nomark _))
      (pss_cons (ps_set (i := 6) sc_path.nd rfl (by first | exact Or.inl rfl | exact Or.inr rfl) (pe_call G_next_step (hr.mono (by first | decide | omega)) rfl D_next_step.m D_next_step.F.kp D_next_step.b .nil pass0 (pa_cons (pe_fld (pv 0) rfl) (pa_cons (pv 5) (pa_cons (pe_dget (hu_of hr) (pv 3) (pv 5) (fun _ _ => rfl)) pa_nil)))))
      (pss_cons (ps_if (pt_cmpR op_isN (pv 6) pe_non (nomark _))
      (pss_one (ps_ret (pe_tup (pa_cons (pe_callTy call_tuple_of (by rfl) T.tuple (by decide +kernel) (pa_cons (pv 4) pa_nil)) (pa_cons (pe_tup (pa_cons pe_str (pa_cons (pv 5) pa_nil))) pa_nil)))))
      pss_nil)
      (pss_cons (ps_asg (pv 6) (pg_tup rfl (pgs_cons (pg_name (i := 7) sc_path.nd rfl (by first | exact Or.inl rfl | exact Or.inr rfl)) (pgs_cons (pg_name (i := 8) sc_path.nd rfl (by first | exact Or.inl rfl | exact Or.inr rfl)) pgs_nil))))
      (pss_cons (ps_expr (pe_bm PySem.F.plainAttrs_list PySem.F.slot_list_append PySem.F.type_list_append mt_append (pv 4) (pa_cons (pe_tup (pa_cons (pv 5) (pa_cons (pv 7) pa_nil))) pa_nil)))
      (pss_cons (ps_daug (hu_of hr) (pv 3) (pv 5) pe_int in_add (fun _ _ _ => rfl))
      (pss_one (ps_set (i := 5) sc_path.nd rfl (by first | exact Or.inl rfl | exact Or.inr rfl) (pv 8)))))))))
      (pss_one (ps_ret (pe_tup (pa_cons (pe_callTy call_tuple_of (by rfl) T.tuple (by decide +kernel) (pa_cons (pv 4) pa_nil)) (pa_cons (pe_tup (pa_cons pe_str (pa_cons (pe_ix (r := rIxT K) ix_tup (pe_ix (r := rIxL K) ix_list (pv 4) (pe_un un_neg pe_int) (fun _ _ => rfl)) pe_int (fun _ _ => rfl)) pa_nil))) pa_nil))))))))))), ?_⟩
  rcases h with ⟨he, q⟩ | ⟨he, hz, q⟩ | ⟨he, k, d, hk, hd, h⟩
  · exact ⟨_, rfl, _, rfl, _, rfl, m, M, e, z, rfl, hM, .inl ⟨he, q⟩⟩
  · exact ⟨_, rfl, _, rfl, _, rfl, m, M, e, z, rfl, hM, .inr (.inl ⟨he, hz, q⟩)⟩
  refine ⟨_, rfl, _, rfl, _, rfl, m, M, e, z, rfl, hM, .inr (.inr ⟨he, List.mem_of_getElem? hk, fun H1 s1 => ?_⟩)⟩
  refine ⟨_, rfl, _, rfl, _, rfl, m, M, e, z, k, d, rfl, MktAt.same s1 hM, hok, he, hk, hd, ?_⟩
  rcases h with ⟨hf, q⟩ | ⟨hf, i, L, en, hi, hfix, hfst, hbig, hway, hLl, q⟩
  · exact .inr ⟨hf, fun H' s' => q H' (s1.trans s')⟩
  refine .inl ⟨hf, fun H2 s2 => ?_⟩
  have s02 := s1.trans s2
  obtain ⟨dx, ai, ae, at', ad, h0, h1, h2, h3, h4, h5⟩ := id hM
  obtain ⟨ds, hds⟩ : ∃ ds, directs M.ins M.los e = ds := ⟨_, rfl⟩
  have hdl : ds.length = M.ins.length := by
    rw [← hds]
    exact List.length_map ..
  obtain ⟨gs, hgs⟩ : ∃ gs, row M.ins M.trs (directs M.ins M.los e) i = gs := ⟨_, rfl⟩
  have gl : gs.length = M.ins.length := by
    rw [← hgs, hds]
    exact row_len hdl i
  have hfew := hok.few
  refine seq_to ⟨_, rfl, m, C_Market, dx, _, _, rfl, s02 _ _ h0, T.cl_Market, T.no_Market_insurers, mf_i, _, rfl, _, rfl, m, M, e, rfl, MktAt.same s02 hM, hok, .inr ⟨he, i, hi, hfix, hfst, hbig, fun p H3 s3 hp => ?_⟩⟩
  have hp : SqT K H3 p (gs.map V.int) := by
    rw [← hgs]
    exact hp
  rw [hgs] at hway
  have s03 := s02.trans s3
  refine ⟨ai, p, _, _, rfl, same_sqt s03 h1, hp, fun G nG => dc_it (walk_Z (t1 := true) (t2 := true) (xs := M.ins.map V.str) (ys := gs.map V.int) rfl) (fun j H' => Same H3 H' ∧ H' G = some (.dK ((pairsS M.ins gs).take j))) ⟨same_new nG, upd_same⟩ (fun j H' _ w => ⟨same_sqt (s03.trans w.1) h1, same_sqt w.1 hp⟩) ?_ ?_⟩
  · rintro j v H4 H5 hj ⟨sm, hG0⟩ ⟨T0, y, w, rfl, nT, rfl, e1, e2⟩
    obtain ⟨x, rfl, hx⟩ := of_at_map (show (gs.map V.int)[j]? = some w from e2)
    obtain ⟨u, rfl, hu⟩ := of_at_str (show (M.ins.map V.str)[j]? = some y from e1)
    generalize hw : wipe _ _ = w0
    have ew : w0 = [some (.ref m), some (.str e), some (.str z), none, none, none, none, none, none, none, none] := by
      rw [← hw]
      kernel_rfl
    clear hw
    subst ew
    have s5 : Same H4 (upd H4 T0 (.tup [.str u, .int x])) := same_new nT
    refine ⟨T0, _, rfl, SqT.of upd_same, rfl, _, _, rfl, _, _, rfl, rfl, by kernel_rfl, ?_⟩
    refine ⟨_, rfl, _, rfl, _, .inr u, rfl, s5 _ _ hG0, ?_, same_put (sm.trans s5) nG, ?_⟩
    · rw [List.length_take]
      have := (List.getElem?_eq_some_iff.mp hu).1
      exact szl (by omega)
    · rw [upd_same, putK_new (pairsS_new hok.nd hu), List.take_add_one, pairsS_get hu hx]
      rfl
  rintro H4 ⟨s4, hG4⟩
  have hzl : min (M.ins.map V.str).length (gs.map V.int).length = (pairsS M.ins gs).length := by
    unfold pairsS
    rw [List.length_map, List.length_map, List.length_map, List.length_zip]
  rw [hzl, List.take_of_length_le (Nat.le_refl _)] at hG4
  have s04 := s03.trans s4
  have nHG : H G = none := s03.free nG
  dsimp only
  refine nx_to ?_
  refine seq_to ⟨Nat.zero_le _, fun D nD => ?_⟩
  have nHD : H D = none := s04.free nD
  have nGD : G ≠ D := ne_of_none hG4 nD
  have s05 : Same H (upd H4 D (.lst [])) := same_add s04 nD
  have hG5 : upd H4 D (.lst []) G = some (.dK (pairsS M.ins gs)) := (same_new nD) _ _ hG4
  have hD5 : upd H4 D (.lst []) D = some (.lst []) := upd_same
  obtain ⟨H5, h5⟩ : ∃ H5, upd H4 D (.lst []) = H5 := ⟨_, rfl⟩
  rw [h5] at s05 hG5 hD5 ⊢
  clear h5
  dsimp only
  refine nx_to ?_
  refine seq_to ⟨_, rfl, ?_⟩
  dsimp only
  refine nx_to ?_
  generalize hw : List.set _ _ _ = w0
  have ew : w0 = [some (.ref m), some (.str e), some (.str z), some (.ref G), some (.ref D), some (optV (some z)), none, none, none, none, none] := by
    rw [← hw]
    kernel_rfl
  clear hw
  subst ew
  refine seq_to ⟨fun mm σ H' => ∃ (l : List (Str × Nat)) (g : List Int) (o : Option Str) (ps : List V) (v6 v7 v8 : Option V), σ = [some (.ref m), some (.str e), some (.str z), some (.ref G), some (.ref D), some (optV o), v6, v7, v8, none, none] ∧ Same H H' ∧ H' G = some (.dK (pairsS M.ins g)) ∧ g.length = M.ins.length ∧ H' D = some (.lst ps) ∧ AllAt (PassR K) H' ps l ∧
    ((∃ u r, o = some u ∧ L = l ++ r ∧ Way M.ins M.trs g u r en ∧ mm = r.length + 1) ∨ (∃ n l0 c, o = none ∧ L = l ∧ en = .inr n ∧ l = l0 ++ [(c, n)] ∧ mm = 0)),
    ⟨L.length + 1, [], gs, some z, [], none, none, none, rfl, s05, hG5, gl, hD5, AllAt.nil, .inl ⟨z, L, rfl, rfl, hway, rfl⟩⟩, ?_⟩
  rintro mm σ H' ⟨l, g, o, ps, v6, v7, v8, rfl, sm, hG, hgl, hD, hP, hc⟩
  have hpl := hP.1
  have htr := TrsAt.same sm h3
  have hm0 := sm _ _ h0
  refine ⟨_, rfl, rfl, _, rfl, ?_⟩
  rcases hc with ⟨u, r, rfl, hL, hw, rfl⟩ | ⟨n, l0, c, rfl, hL, hen, hl, rfl⟩
  · refine iteT ⟨fun σ' H2 => ∃ m', m' < r.length + 1 ∧ _, fun _ _ h => h, ?_⟩
    have hLlen : l.length + r.length = L.length := by
      rw [hL, List.length_append]
    have psz : (pairsS M.ins g).length < sizeLine := by
      unfold pairsS
      rw [List.length_map, List.length_zip]
      exact szl (by omega)
    cases hw with
    | stop hk' hx' hs' =>
      refine seq_to (asg_to ⟨_, rfl, m, C_Market, dx, _, _, rfl, hm0, T.cl_Market, T.no_Market_treaties, mf_t, _, rfl, _, rfl, _, rfl, G, _, rfl, .inl ⟨_, .inr u, .inl hG, rfl, (pairsS_val hok.nd hk' hx').symm⟩, at', M.trs, u, _, rfl, htr, hok.len, hok.ok, fun _ H6 s6 => ?_, fun n b t e' hs2 => absurd (hs'.symm.trans hs2) (fun q => nomatch q)⟩)
      dsimp only
      refine nx_to ?_
      refine seq_to ⟨_, rfl, rfl, _, rfl, iteT ⟨_, rfl, D, _, rfl, .inl ⟨SqL.of (s6 _ _ hD), fun t nt => ⟨_, rfl, sz (by show 2 ≤ 100000; decide), fun f nf => ⟨sz (by show 2 ≤ 100000; decide), fun p np => ?_⟩⟩⟩⟩⟩
      have t1 := same_new (o := .tup ps) nt
      have t2 := same_new (o := .tup [.str "insurer", optV (some u)]) nf
      have t3 := same_new (o := .tup [.ref t, .ref f]) np
      have hL2 : L = l := by rw [hL, List.append_nil]
      rw [hL2] at q
      exact q p t f ps _ (sm.trans (s6.trans (t1.trans (t2.trans t3)))) upd_same (t3 _ _ (t2 _ _ upd_same)) (AllAt.same (R := PassR K) (fun e r => PassR.same e r) (s6.trans (t1.trans (t2.trans t3))) hP) (t3 _ _ upd_same)
    | out hk' hx' hs' ht' he' =>
      rename_i k0 x0 n0 a0 t0 s0
      refine seq_to (asg_to ⟨_, rfl, m, C_Market, dx, _, _, rfl, hm0, T.cl_Market, T.no_Market_treaties, mf_t, _, rfl, _, rfl, _, rfl, G, _, rfl, .inl ⟨_, .inr u, .inl hG, rfl, (pairsS_val hok.nd hk' hx').symm⟩, at', M.trs, u, _, rfl, htr, hok.len, hok.ok, fun hno => absurd (hs'.symm.trans hno) (fun q => nomatch q), fun n b t e' hs2 ht2 he2 p6 H6 s6 hp6 => ?_⟩)
      cases Option.some.inj (hs'.symm.trans hs2)
      cases Option.some.inj (ht'.symm.trans ht2)
      cases Option.some.inj (he'.symm.trans he2)
      dsimp only
      refine nx_to ?_
      refine seq_to ⟨_, rfl, rfl, _, rfl, iteF ?_⟩
      refine next_to ?_
      dsimp only
      refine seq_to ⟨_, rfl, p6, _, rfl, SqT.of hp6, rfl, _, _, rfl, _, _, rfl, rfl, ?_⟩
      generalize hw0 : List.set _ _ _ = w0
      have ew : w0 = [some (.ref m), some (.str e), some (.str z), some (.ref G), some (.ref D), some (optV (some u)), some (.ref p6), some (.int (n0 : Int)), some (optV (none)), none, none] := by
        rw [← hw0]
        rfl
      clear hw0
      subst ew
      dsimp only
      have hD6 := s6 _ _ hD
      have hG6 := s6 _ _ hG
      refine seq_to ⟨_, rfl, .inl ⟨rfl, _, SqL.of hD6⟩, _, rfl, _, rfl, sz (by show 2 ≤ 100000; decide), fun r1 nr => ?_⟩
      have s7 := same_new (o := .tup [optV (some u), .int (n0 : Int)]) nr
      have hD7 := s7 _ _ hD6
      have hG7 := s7 _ _ hG6
      refine ⟨D, _, _, rfl, rfl, hD7, szl (by omega), ?_⟩
      have s08 := same_put (o := .lst (ps ++ [.ref r1])) (sm.trans (s6.trans s7)) nHD
      have hP8 : AllAt (PassR K) (upd (upd H6 r1 (.tup [optV (some u), .int (n0 : Int)])) D (.lst (ps ++ [.ref r1]))) (ps ++ [.ref r1]) (l ++ [(u, n0)]) := AllAt.imp (S := PassR K) (AllAt.add (AllAt.same (R := PassR K) (fun e r => PassR.same e r) (s6.trans s7) hP) (y := .ref r1) (l := (u, n0)) ⟨r1, rfl, SqT.of upd_same⟩) fun y r h => PassR.put hD7 h
      have hD8 : (upd (upd H6 r1 (.tup [optV (some u), .int (n0 : Int)])) D (.lst (ps ++ [.ref r1]))) D = some (.lst (ps ++ [.ref r1])) := upd_same
      have hG8 : (upd (upd H6 r1 (.tup [optV (some u), .int (n0 : Int)])) D (.lst (ps ++ [.ref r1]))) G = some (.dK (pairsS M.ins g)) := by
        rw [upd_ne nGD]
        exact hG7
      obtain ⟨H8, h8⟩ : ∃ H8, (upd (upd H6 r1 (.tup [optV (some u), .int (n0 : Int)])) D (.lst (ps ++ [.ref r1]))) = H8 := ⟨_, rfl⟩
      rw [h8] at s08 hP8 hD8 hG8
      dsimp only
      rw [h8]
      clear h8
      refine seq_to ⟨_, rfl, _, rfl, G, _, rfl, .inl ⟨_, .inr u, .inl hG8, rfl, (pairsS_val hok.nd hk' hx').symm⟩, _, _, rfl, rfl, _, .inl ⟨_, .inr u, hG8, rfl, psz, rfl⟩, ?_⟩
      rw [pairsS_put hok.nd hk' hx']
      refine ⟨_, rfl, 0, Nat.succ_pos _, l ++ [(u, n0)], g.set k0 (x0 + 1), none, ps ++ [.ref r1], _, _, _, rfl, same_put s08 nHG, upd_same, by rw [List.length_set]; exact hgl, by rw [upd_ne nGD.symm]; exact hD8, AllAt.imp (S := PassR K) hP8 fun y r h => PassR.dk hG8 h, .inr ⟨n0, l, u, rfl, hL, rfl, rfl, rfl⟩⟩
    | go hk' hx' hs' ht' he' hw' =>
      rename_i k0 x0 n0 a0 t0 u0 s0 r0
      refine seq_to (asg_to ⟨_, rfl, m, C_Market, dx, _, _, rfl, hm0, T.cl_Market, T.no_Market_treaties, mf_t, _, rfl, _, rfl, _, rfl, G, _, rfl, .inl ⟨_, .inr u, .inl hG, rfl, (pairsS_val hok.nd hk' hx').symm⟩, at', M.trs, u, _, rfl, htr, hok.len, hok.ok, fun hno => absurd (hs'.symm.trans hno) (fun q => nomatch q), fun n b t e' hs2 ht2 he2 p6 H6 s6 hp6 => ?_⟩)
      cases Option.some.inj (hs'.symm.trans hs2)
      cases Option.some.inj (ht'.symm.trans ht2)
      cases Option.some.inj (he'.symm.trans he2)
      dsimp only
      refine nx_to ?_
      refine seq_to ⟨_, rfl, rfl, _, rfl, iteF ?_⟩
      refine next_to ?_
      dsimp only
      refine seq_to ⟨_, rfl, p6, _, rfl, SqT.of hp6, rfl, _, _, rfl, _, _, rfl, rfl, ?_⟩
      generalize hw0 : List.set _ _ _ = w0
      have ew : w0 = [some (.ref m), some (.str e), some (.str z), some (.ref G), some (.ref D), some (optV (some u)), some (.ref p6), some (.int (n0 : Int)), some (optV (some u0)), none, none] := by
        rw [← hw0]
        rfl
      clear hw0
      subst ew
      dsimp only
      have hD6 := s6 _ _ hD
      have hG6 := s6 _ _ hG
      refine seq_to ⟨_, rfl, .inl ⟨rfl, _, SqL.of hD6⟩, _, rfl, _, rfl, sz (by show 2 ≤ 100000; decide), fun r1 nr => ?_⟩
      have s7 := same_new (o := .tup [optV (some u), .int (n0 : Int)]) nr
      have hD7 := s7 _ _ hD6
      have hG7 := s7 _ _ hG6
      refine ⟨D, _, _, rfl, rfl, hD7, szl (by omega), ?_⟩
      have s08 := same_put (o := .lst (ps ++ [.ref r1])) (sm.trans (s6.trans s7)) nHD
      have hP8 : AllAt (PassR K) (upd (upd H6 r1 (.tup [optV (some u), .int (n0 : Int)])) D (.lst (ps ++ [.ref r1]))) (ps ++ [.ref r1]) (l ++ [(u, n0)]) := AllAt.imp (S := PassR K) (AllAt.add (AllAt.same (R := PassR K) (fun e r => PassR.same e r) (s6.trans s7) hP) (y := .ref r1) (l := (u, n0)) ⟨r1, rfl, SqT.of upd_same⟩) fun y r h => PassR.put hD7 h
      have hD8 : (upd (upd H6 r1 (.tup [optV (some u), .int (n0 : Int)])) D (.lst (ps ++ [.ref r1]))) D = some (.lst (ps ++ [.ref r1])) := upd_same
      have hG8 : (upd (upd H6 r1 (.tup [optV (some u), .int (n0 : Int)])) D (.lst (ps ++ [.ref r1]))) G = some (.dK (pairsS M.ins g)) := by
        rw [upd_ne nGD]
        exact hG7
      obtain ⟨H8, h8⟩ : ∃ H8, (upd (upd H6 r1 (.tup [optV (some u), .int (n0 : Int)])) D (.lst (ps ++ [.ref r1]))) = H8 := ⟨_, rfl⟩
      rw [h8] at s08 hP8 hD8 hG8
      dsimp only
      rw [h8]
      clear h8
      refine seq_to ⟨_, rfl, _, rfl, G, _, rfl, .inl ⟨_, .inr u, .inl hG8, rfl, (pairsS_val hok.nd hk' hx').symm⟩, _, _, rfl, rfl, _, .inl ⟨_, .inr u, hG8, rfl, psz, rfl⟩, ?_⟩
      rw [pairsS_put hok.nd hk' hx']
      refine ⟨_, rfl, _, Nat.lt_succ_self _, l ++ [(u, n0)], g.set k0 (x0 + 1), some u0, ps ++ [.ref r1], _, _, _, rfl, same_put s08 nHG, upd_same, by rw [List.length_set]; exact hgl, by rw [upd_ne nGD.symm]; exact hD8, AllAt.imp (S := PassR K) hP8 fun y r h => PassR.dk hG8 h, .inl ⟨u0, _, rfl, by rw [hL, List.append_assoc]; rfl, hw', rfl⟩⟩
  · refine iteF ?_
    dsimp only
    rw [hl] at hP
    obtain ⟨yl, hyl, bl, rfl, hbl⟩ := hP.2 l0.length (c, n) (by rw [List.getElem?_append_right (Nat.le_refl _), Nat.sub_self]; rfl)
    have hpl2 : ps.length = l0.length + 1 := by
      rw [hP.1, List.length_append]
      rfl
    have eps : ps = ps.take l0.length ++ [.ref bl] := by
      obtain ⟨g1, g2⟩ := List.getElem?_eq_some_iff.mp hyl
      rw [← g2, List.take_append_getElem g1, List.take_of_length_le (Nat.le_of_eq hpl2)]
    have hat : atI ps (-1) = some (.ref bl) := by
      rw [eps]
      exact atI_last _ _
    refine ⟨_, rfl, D, _, rfl, .inl ⟨SqL.of hD, fun t nt => ?_⟩⟩
    have t1 := same_new (o := .tup ps) nt
    refine ⟨_, rfl, 1, rfl, D, _, _, .ref bl, rfl, rfl, SqL.of (t1 _ _ hD), hat, bl, _, 1, .int (n : Int), rfl, rfl, same_sqt t1 hbl, rfl, sz (by show 2 ≤ 100000; decide), fun f nf => ⟨sz (by show 2 ≤ 100000; decide), fun p np => ?_⟩⟩
    have t2 := same_new (o := .tup [.str "external", .int (n : Int)]) nf
    have t3 := same_new (o := .tup [.ref t, .ref f]) np
    subst hen
    rw [hL, hl] at q
    exact q p t f ps _ (sm.trans (t1.trans (t2.trans t3))) upd_same (t3 _ _ (t2 _ _ upd_same)) (AllAt.same (R := PassR K) (fun e r => PassR.same e r) (t1.trans (t2.trans t3)) hP) (t3 _ _ upd_same)

theorem ok_is_same {f : Addr} {fd : FuncData} (D_is_same : Dfn K mg "is_same" s_is_same ["value", "wanted"] f fd) (T : Tx K mg C_SpiralError C_BadName C_BadCover C_BadPanel C_BadAmount C_NameTaken C_NoSuchName C_Twice C_OwnPanel C_TooMany C_NoEnd C_Market) {f_is_between : Addr} {fd_is_between : FuncData} (D_is_between : Dfn K mg "is_between" s_is_between ["value", "low", "high"] f_is_between fd_is_between) (G_is_between : FnOk P w K mg base CX0 (1) f_is_between fd_is_between ["value", "low", "high"] (sp_is_between K)) {n:Nat} (IH:FnOk P w K mg base CX0 (n+2) f fd ["value","wanted"] (sp_is_same K n)) :
    FnOk P w K mg base CX0 (n+3) f fd ["value", "wanted"] (sp_is_same K (n+1)) := by
  refine D_is_same.F.ok sc_is_same (fun vs H Q E h => ?_) (fun cdv A outer s H vs Q E hr h => ?_)
  · obtain ⟨x, y, d, w, rfl, hx, hb, hy, hw, q⟩ := h
    rfl
  obtain ⟨x, y, d, w, rfl, hx, hb, hy, hw, q⟩ := h
  refine ⟨_, (pss_cons (ps_if (pt_val (pe_callB call_isi (by rfl) T.isinstance (by decide +kernel) (pa_cons (pv 1) (pa_cons (pe_bltn (v := .ty "tuple") (by rfl) T.tuple (by decide +kernel) rfl) pa_nil))))
      (pss_cons (ps_if (PW.pt (pw_or (pt_not (pt_val (pe_callB call_isi (by rfl) T.isinstance (by decide +kernel) (pa_cons (pv 0) (pa_cons (pe_bltn (v := .ty "tuple") (by rfl) T.tuple (by decide +kernel) rfl) pa_nil))))) (pw_or1 (pt_cmpR op_ne (pe_callB call_len_seq (by rfl) T.len PySem.boot_len (pa_cons (pv 0) pa_nil)) (pe_callB call_len_seq (by rfl) T.len PySem.boot_len (pa_cons (pv 1) pa_nil)) (nomark _)))))
      (pss_one (ps_ret pe_bl))
      pss_nil)
      (pss_one (ps_ret (pe_callB (cr_all rfl) (by rfl) T.all (by decide +kernel) (pa_cons (pe_lc (own := [("part", 2), ("other", 3)]) (g := (gTup K 2 (gCons (gName 2) (gCons (gName 3) gNil)))) (tt := tYes) rfl sc_is_same.nd (pi_zipS true true (by rfl) T.zip (pa_cons (pv 0) (pa_cons (pv 1) pa_nil))) (blkOk_by (own := [("part", 2), ("other", 3)]) (N := (["value", "wanted", "part", "other"] : List Str)) (sc := defScope s_is_same) (by decide +kernel)) (fun _ _ _ _ _ => (pg_tup rfl (pgs_cons (pg_name (i := 2) sc_is_same.nd rfl (by first | exact Or.inl rfl | exact Or.inr rfl)) (pgs_cons (pg_name (i := 3) sc_is_same.nd rfl (by first | exact Or.inl rfl | exact Or.inr rfl)) pgs_nil)))) (fun _ _ _ _ _ => pts_nil) (fun _ _ _ _ _ => (pe_call IH hr rfl D_is_same.m D_is_same.F.kp D_is_same.b .nil pass0 (pa_cons (pv 2) (pa_cons (pv 3) pa_nil))))) pa_nil)))))
      pss_nil)
      (pss_cons (ps_if (pt_val (pe_callB call_isi (by rfl) T.isinstance (by decide +kernel) (pa_cons (pv 1) (pa_cons (pe_bltn (v := .ty "str") (by rfl) T.str (by decide +kernel) rfl) pa_nil))))
      (pss_one (ps_ret (pe_and (pe_callB call_isi (by rfl) T.isinstance (by decide +kernel) (pa_cons (pv 0) (pa_cons (pe_bltn (v := .ty "str") (by rfl) T.str (by decide +kernel) rfl) pa_nil))) (pe_one (pe_cmpR op_eq (pv 0) (pv 1) (nomark _))))))
      pss_nil)
      (pss_one (ps_ret (pe_call G_is_between (hr.mono (by first | decide | omega)) rfl D_is_between.m D_is_between.F.kp D_is_between.b .nil pass0 (pa_cons (pv 0) (pa_cons (pv 1) (pa_cons (pv 1) pa_nil)))))))), ?_⟩
  obtain ⟨tw, tyw, kwT, kwS, _⟩ := dp_cls hy
  obtain ⟨tx, tyx, kxT, kxS⟩ := dpx_cls hx
  cases w with
  | tuple ws =>
    have hw2 : (decide (ws.length ≤ 5000) && ws.all (wOk n)) = true := hw
    rw [Bool.and_eq_true, List.all_eq_true] at hw2
    have hwl : ws.length ≤ 5000 := of_decide_eq_true hw2.1
    refine seq_to ⟨_, rfl, _, _, _, _, _, rfl, .ty _, tyw, kwT, _, rfl, iteT ?_⟩
    cases hT : dTup d with
    | false =>
      rw [hT] at kxT
      rw [eqv_noT hT] at q
      exact seq_to ⟨_, rfl, _, _, _, _, _, rfl, .ty _, tyx, kxT, _, rfl, iteT (iteT (q H (Same.refl H)))⟩
    | true =>
    rw [hT] at kxT
    obtain ⟨a, xs, ds, rfl, rfl, hS, hA⟩ := dp_tupI (dpx_dp hx hT) hT
    obtain ⟨b, ys, es, rfl, e2, hSb, hAb⟩ := dp_tupI hy rfl
    have e3 : es = ws := (PyData.tuple.inj e2).symm
    subst e3
    have hxl := DpAll.len hA
    have hyl := DpAll.len hAb
    refine seq_to ⟨_, rfl, _, _, _, _, _, rfl, .ty _, tyx, kxT, _, rfl, iteF ?_⟩
    refine ⟨_, rfl, a, xs, rfl, .inr hS, _, rfl, b, ys, rfl, .inr hSb, rfl, _, rfl, ?_⟩
    by_cases hl : ds.length = es.length
    rotate_left
    · rw [show PyData.eqv (.tuple ds) (.tuple es) = false from eqv_tlen hl] at q
      exact iteT' (by rw [decide_eq_false (fun e => hl (by have := V.int.inj e; omega))]; rfl) (q H (Same.refl H))
    refine iteF' (by rw [decide_eq_true (by rw [hxl, hyl, hl])]; rfl) ?_
    refine next_to ?_
    dsimp only
    rw [show PyData.eqv (.tuple ds) (.tuple es) = _ from eqv_tall hl] at q
    have hb2 : ds.all (noB n) = true := hb
    rw [List.all_eq_true] at hb2
    refine ⟨_, rfl, _, rfl, a, b, _, _, rfl, hS, hSb, fun D nD => lc_it (walk_Z (t1 := true) (t2 := true) (xs := xs) (ys := ys) rfl) (fun i H' => Same H H' ∧ H' D = some (.lst ((((ds.zip es).map fun p => PyData.eqv p.1 p.2).map V.bl).take i))) ⟨same_new nD, upd_same⟩ (fun i H' _ z => ⟨same_sqt z.1 hS, same_sqt z.1 hSb⟩) ?_ ?_⟩
    · rintro i v H3 H4 hi ⟨sm, hD⟩ ⟨T0, y1, w1, rfl, nT, rfl, e1, e2⟩
      have e1 : xs[i]? = some y1 := e1
      have e2 : ys[i]? = some w1 := e2
      obtain ⟨d1, hd1, hp1⟩ := DpAll.at hA e1
      obtain ⟨d2, hd2, hp2⟩ := DpAll.at hAb e2
      have sT := same_new (o := .tup [y1, w1]) nT
      generalize hw0 : wipe _ _ = w0
      have ew : w0 = [some (.ref a), some (.ref b), none, none] := by
        rw [← hw0]
        kernel_rfl
      clear hw0
      subst ew
      refine ⟨T0, _, rfl, SqT.of upd_same, rfl, ?_⟩
      refine ⟨_, _, rfl, ?_⟩
      refine ⟨_, _, rfl, rfl, by kernel_rfl, ?_⟩
      refine ⟨_, rfl, _, rfl, y1, w1, d1, d2, rfl, .inl (Dp.to (sm.trans sT) hp1), hb2 d1 (List.mem_of_getElem? hd1), Dp.to (sm.trans sT) hp2, hw2.2 d2 (List.mem_of_getElem? hd2), fun H5 s5 => acc_to nD (sm.trans (sT.trans s5)) (s5 _ _ (sT _ _ hD)) ?_ (by rw [List.length_map, List.length_map, List.length_zip]; omega)⟩
      rw [List.getElem?_map, List.getElem?_map, (List.getElem?_zip_eq_some (z := (d1, d2))).mpr ⟨hd1, hd2⟩]
      rfl
    rintro H3 ⟨s3, hD⟩
    have hD := acc_all (by rw [List.length_map, List.length_map, List.length_zip, hxl, hyl]) hD
    exact ⟨D, _, rfl, SqL.of hD, q H3 s3⟩
  | str z =>
    obtain ⟨z', rfl, e⟩ := dp_strI hy rfl
    cases e
    refine seq_to ⟨_, rfl, _, _, _, _, _, rfl, .ty _, tyw, kwT, _, rfl, iteF ?_⟩
    refine next_to ?_
    dsimp only
    refine seq_to ⟨_, rfl, _, _, _, _, _, rfl, .ty _, tyw, kwS, _, rfl, iteT ?_⟩
    cases hT : dStr d with
    | false =>
      rw [hT] at kxS
      rw [eqv_noS hT] at q
      exact ⟨_, rfl, _, _, _, _, _, rfl, .ty _, tyx, kxS, _, rfl, iteF (q H (Same.refl H))⟩
    | true =>
      rw [hT] at kxS
      obtain ⟨u, rfl, rfl⟩ : ∃ u, x = .str u ∧ d = .str u := by
        rcases hx with hx | ⟨rfl, _⟩
        · exact dp_strI hx hT
        · cases hT
      refine ⟨_, rfl, _, _, _, _, _, rfl, .ty _, tyx, kxS, _, rfl, iteT ⟨_, rfl, _, rfl, rfl, ?_⟩⟩
      have e : PyData.eqv (.str u) (.str z) = decide (V.str u = V.str z) := by
        show (u == z) = _
        by_cases c : u = z
        · rw [c, beq_self_eq_true, decide_eq_true rfl]
        · rw [beq_eq_false_iff_ne.mpr c, decide_eq_false (fun e => c (V.str.inj e))]
      rw [e] at q
      exact q H (Same.refl H)
  | int i =>
    cases hy
    refine seq_to ⟨_, rfl, _, _, _, _, _, rfl, .ty _, tyw, kwT, _, rfl, iteF ?_⟩
    refine next_to ?_
    dsimp only
    refine seq_to ⟨_, rfl, _, _, _, _, _, rfl, .ty _, tyw, kwS, _, rfl, iteF ?_⟩
    refine next_to ?_
    dsimp only
    obtain ⟨hn, hbt⟩ := dpx_num hx
    refine ⟨_, rfl, _, rfl, _, rfl, x, i, i, rfl, hn, ?_⟩
    rw [hbt, ← eqv_int hb]
    exact q H (Same.refl H)
  | none => cases hw
  | bool b => cases hw
  | list ds => cases hw
  | dict kvs => cases hw

theorem ok_judge_unit {f : Addr} {fd : FuncData} (D_judge_unit : Dfn K mg "judge_unit" s_judge_unit ["market", "event", "insurer", "paper"] f fd) (T : Tx K mg C_SpiralError C_BadName C_BadCover C_BadPanel C_BadAmount C_NameTaken C_NoSuchName C_Twice C_OwnPanel C_TooMany C_NoEnd C_Market) {f_explain_unit : Addr} {fd_explain_unit : FuncData} (D_explain_unit : Dfn K mg "explain_unit" s_explain_unit ["market", "event", "insurer"] f_explain_unit fd_explain_unit) (G_explain_unit : FnOk P w K mg base (L2.CX P w) (10) f_explain_unit fd_explain_unit ["market", "event", "insurer"] (sp_explain_unit K C_Market C_NoEnd)) {f_is_same : Addr} {fd_is_same : FuncData} (D_is_same : Dfn K mg "is_same" s_is_same ["value", "wanted"] f_is_same fd_is_same) (G_is_same : FnOk P w K mg base CX0 (8) f_is_same fd_is_same ["value", "wanted"] (sp_is_same K 6)) :
    FnOk P w K mg base CX0 (11) f fd ["market", "event", "insurer", "paper"] (sp_judge_unit K C_Market) := by
  refine D_judge_unit.F.ok sc_judge_unit (fun vs H Q E h => ?_) (fun cdv A outer s H vs Q E hr h => ?_)
  · obtain ⟨m, M, e, z, k, d, x, pd, rfl, hM, hok, he, hk, hd, hx, hb, h⟩ := h
    rfl
  obtain ⟨m, M, e, z, k, d, x, pd, rfl, hM, hok, he, hk, hd, hx, hb, h⟩ := h
  refine ⟨_, (pss_cons (ps_try_only rfl rfl ⟨rfl, by decide, .inl T.exc_NoEnd.g⟩ takes0 (fun W pn xe tk _ => (pss_one (ps_set (i := 4) sc_judge_unit.nd rfl (by first | exact Or.inl rfl | exact Or.inr rfl) (by exact (pe_callS G_explain_unit (hr.mono (by first | decide | omega)) rfl D_explain_unit.m D_explain_unit.F.kp D_explain_unit.b (fun σ => passAt tk σ) (by exact (pa_cons (pv 0) (pa_cons (pv 1) (pa_cons (pv 2) pa_nil))))))))) (fun a oe cls d pn hz hf => (pss_one (ps_ret pe_bl))))
      (pss_one (ps_ret (pe_call G_is_same (hr.mono (by first | decide | omega)) rfl D_is_same.m D_is_same.F.kp D_is_same.b .nil pass0 (pa_cons (pv 3) (pa_cons (pv 4) pa_nil)))))), ?_⟩
  rcases h with ⟨hf, q⟩ | ⟨hf, i, L, en, hi, hfix, hfst, hbig, hway, hLl, q⟩
  · exact seq_to ⟨_, rfl, _, rfl, _, rfl, m, M, e, z, k, d, rfl, hM, hok, he, hk, hd, .inl ⟨hf, fun H' s => ⟨true, T.exc_NoEnd.e, fun _ a _ => q H' s, fun z => (nomatch z)⟩⟩⟩
  · refine seq_to ⟨_, rfl, _, rfl, _, rfl, m, M, e, z, k, d, rfl, hM, hok, he, hk, hd, .inr ⟨hf, i, L, en, hi, hfix, hfst, hbig, hway, hLl, fun p t f ps H' s hp ht hA hf2 => ?_⟩⟩
    exact ⟨_, rfl, _, rfl, x, .ref p, pd, unitD L en, rfl, DpX.to s hx, hb, dp_unit (SqT.of hp) (SqT.of ht) hA (SqT.of hf2), wOk_unit (by omega), fun H2 s2 => q H2 (s.trans s2)⟩

theorem ok_explain_unit {f : Addr} {fd : FuncData} (D_explain_unit : Dfn K mg "explain_unit" s_explain_unit ["market", "event", "insurer"] f fd) (T : Tx K mg C_SpiralError C_BadName C_BadCover C_BadPanel C_BadAmount C_NameTaken C_NoSuchName C_Twice C_OwnPanel C_TooMany C_NoEnd C_Market) {f_path : Addr} {fd_path : FuncData} (D_path : Dfn K mg "path" s_path ["market", "event", "insurer"] f_path fd_path) (G_path : FnOk P w K mg base (L2.CX P w) (9) f_path fd_path ["market", "event", "insurer"] (sp_path K C_Market C_NoSuchName C_NoEnd)) :
    FnOk P w K mg base (L2.CX P w) (10) f fd ["market", "event", "insurer"] (sp_explain_unit K C_Market C_NoEnd) := by
  refine D_explain_unit.F.okX sc_explain_unit (fun vs H Q E h => ?_) (fun cdv A outer s H vs Q E hr h => ?_)
  · obtain ⟨m, M, e, z, k, d, rfl, hM, hok, he, hk, hd, h⟩ := h
    rfl
  obtain ⟨m, M, e, z, k, d, rfl, hM, hok, he, hk, hd, h⟩ := h
  refine ⟨_, (pss_cons (ps_asg (pe_call G_path (hr.mono (by first | decide | omega)) rfl D_path.m D_path.F.kp D_path.b .nil (passes_call (takes_of rfl rfl rfl rfl) (fun _ _ _ _ h => h)) (pa_cons (pv 0) (pa_cons (pv 1) (pa_cons (pv 2) pa_nil)))) (pg_tup rfl (pgs_cons (pg_name (i := 3) sc_explain_unit.nd rfl (by first | exact Or.inl rfl | exact Or.inr rfl)) (pgs_cons (pg_name (i := 4) sc_explain_unit.nd rfl (by first | exact Or.inl rfl | exact Or.inr rfl)) pgs_nil))))
      (pss_one (ps_ret (pe_tup (pa_cons pe_str (pa_cons (pv 3) (pa_cons (pv 4) pa_nil))))))), ?_⟩
  refine seq_to ⟨_, rfl, _, rfl, _, rfl, m, M, e, z, rfl, hM, hok, .inr (.inr ⟨he, k, d, hk, hd, ?_⟩)⟩
  rcases h with ⟨hf, q⟩ | ⟨hf, i, L, en, hi, hfix, hfst, hbig, hway, hLl, q⟩
  · exact .inl ⟨hf, q⟩
  · refine .inr ⟨hf, i, L, en, hi, hfix, hfst, hbig, hway, hLl, fun p t f ps H' s hp ht hA hf2 => ?_⟩
    refine ⟨p, _, rfl, SqT.of hp, rfl, _, _, rfl, _, _, rfl, rfl, _, rfl, _, rfl, sz (by show 3 ≤ 100000; decide), fun g ng => ?_⟩
    have sn := same_new (o := .tup [.str "unit", .ref t, .ref f]) ng
    exact q g t f ps _ (s.trans sn) upd_same (sn _ _ ht) (AllAt.same (R := PassR K) (fun e r => PassR.same e r) sn hA) (sn _ _ hf2)

theorem ok_check_new_name {f : Addr} {fd : FuncData} (D_check_new_name : Dfn K mg "check_new_name" s_check_new_name ["name", "names", "most"] f fd) (T : Tx K mg C_SpiralError C_BadName C_BadCover C_BadPanel C_BadAmount C_NameTaken C_NoSuchName C_Twice C_OwnPanel C_TooMany C_NoEnd C_Market) {f_check_name : Addr} {fd_check_name : FuncData} (D_check_name : Dfn K mg "check_name" s_check_name ["value"] f_check_name fd_check_name) (G_check_name : FnOk P w K mg base (L2.CX P w) (2) f_check_name fd_check_name ["value"] (sp_check_name K C_BadName)) {f_NameTaken___init : Addr} {fd_NameTaken___init : FuncData} (D_NameTaken___init : Ini K C_NameTaken "NameTaken.__init__" s_NameTaken___init ["self", "name"] f_NameTaken___init fd_NameTaken___init) (G_NameTaken___init : FnOk P w K mg base CX0 (1) f_NameTaken___init fd_NameTaken___init ["self", "name"] (sp_xi "name" C_NameTaken)) :
    FnOk P w K mg base (L2.CX P w) (3) f fd ["name", "names", "most"] (sp_check_new_name K C_BadName C_TooMany C_NameTaken) := by
  refine D_check_new_name.F.okX sc_check_new_name (fun vs H Q E h => ?_) (fun cdv A outer s H vs Q E hr h => ?_)
  · obtain ⟨x, a, ys, n, rfl, hS, h⟩ := h
    rfl
  obtain ⟨x, a, ys, n, rfl, hS, h⟩ := h
  refine ⟨_, (pss_cons (ps_expr (pe_call G_check_name (hr.mono (by first | decide | omega)) rfl D_check_name.m D_check_name.F.kp D_check_name.b .nil (passes_call (takes_of rfl rfl rfl rfl) (fun _ _ _ _ h => h)) (pa_cons (pv 0) pa_nil)))
      (pss_cons (ps_if (pt_cmpR op_ge (pe_callB call_len_seq (by rfl) T.len PySem.boot_len (pa_cons (pv 1) pa_nil)) (pv 2) (nomark _))
      (pss_one (ps_raise rfl (takes_of rfl rfl rfl rfl) (pmk_own PySem.F.excBase_ValueError T.exc_TooMany.x T.exc_TooMany.g T.exc_TooMany.k (raises_own T.exc_TooMany.b T.exc_TooMany.t) rfl)))
      pss_nil)
      (pss_one (ps_if (pt_cmpR op_in_seq (pv 0) (pv 1) (by with_unfolding_all rfl))
      (pss_one (ps_raise rfl (takes_of rfl rfl rfl rfl) (pmk_oex T.ox_NameTaken.o D_NameTaken___init.i D_NameTaken___init.t G_NameTaken___init (hr.mono (by first | decide | omega)) D_NameTaken___init.b .nil pass0 rfl T.ox_NameTaken.g (pa_cons (pv 0) pa_nil))))
      pss_nil)))), ?_⟩
  rcases h with ⟨h, q⟩ | ⟨z, rfl, h, q⟩
  · exact ⟨_, rfl, _, rfl, .inr ⟨h, q⟩⟩
  · refine ⟨_, rfl, _, rfl, .inl ⟨h, fun H' sm => ?_⟩⟩
    refine ⟨_, rfl, a, _, rfl, .inr (same_sqt sm hS), _, rfl, _, _, rfl, rfl, _, rfl, ?_⟩
    rw [List.length_map]
    rcases q with ⟨hn, q⟩ | ⟨hn, hz, q⟩ | ⟨hn, hz, q⟩
    · rw [decide_eq_true hn]
      exact iteT (q H' sm)
    · rw [decide_eq_false hn]
      refine iteF ⟨_, rfl, _, rfl, a, _, rfl, .inr (same_sqt sm hS), rfl, flat_strs ys, ?_⟩
      rw [inV_str, decide_eq_true hz]
      exact ⟨_, rfl, iteT ⟨_, rfl, mkO_to fun d nd => q _ d (same_add sm nd) upd_same⟩⟩
    · rw [decide_eq_false hn]
      refine iteF ⟨_, rfl, _, rfl, a, _, rfl, .inr (same_sqt sm hS), rfl, flat_strs ys, ?_⟩
      rw [inV_str, decide_eq_false hz]
      exact ⟨_, rfl, iteF (q H' sm)⟩

theorem ok_check_placed {f : Addr} {fd : FuncData} (D_check_placed : Dfn K mg "check_placed" s_check_placed ["cedent", "panel", "insurers"] f fd) (T : Tx K mg C_SpiralError C_BadName C_BadCover C_BadPanel C_BadAmount C_NameTaken C_NoSuchName C_Twice C_OwnPanel C_TooMany C_NoEnd C_Market) {f_check_known : Addr} {fd_check_known : FuncData} (D_check_known : Dfn K mg "check_known" s_check_known ["name", "names"] f_check_known fd_check_known) (G_check_known : FnOk P w K mg base (L2.CX P w) (3) f_check_known fd_check_known ["name", "names"] (sp_check_known K C_NoSuchName)) :
    FnOk P w K mg base (L2.CX P w) (4) f fd ["cedent", "panel", "insurers"] (sp_check_placed K C_NoSuchName C_Twice C_OwnPanel) := by
  refine D_check_placed.F.okX sc_check_placed (fun vs H Q E h => ?_) (fun cdv A outer s H vs Q E hr h => ?_)
  · obtain ⟨c, x, a, ins, ps, rfl, hP, hn, hI, q⟩ := h
    rfl
  obtain ⟨c, x, a, ins, ps, rfl, hP, hn, hI, q⟩ := h
  refine ⟨_, (pss_cons (ps_expr (pe_call G_check_known (hr.mono (by first | decide | omega)) rfl D_check_known.m D_check_known.F.kp D_check_known.b .nil (passes_call (takes_of rfl rfl rfl rfl) (fun _ _ _ _ h => h)) (pa_cons (pv 0) (pa_cons (pv 2) pa_nil))))
      (pss_cons (ps_setLc (i := 3) (own := [("participant", 4), ("_", 5)]) (g := (gTup K 2 (gCons (gName 4) (gCons (gName 5) gNil)))) (tt := tYes) rfl sc_check_placed.nd rfl rfl (sw_true rfl rfl rfl (by decide +kernel)) (pi_tup (pv 1)) (blkOk_by (own := [("participant", 4), ("_", 5)]) (N := (["cedent", "panel", "insurers", "participants", "participant", "_"] : List Str)) (sc := defScope s_check_placed) (by decide +kernel)) (fun _ _ _ _ _ => (pg_tup rfl (pgs_cons (pg_name (i := 4) sc_check_placed.nd rfl (by first | exact Or.inl rfl | exact Or.inr rfl)) (pgs_cons (pg_name (i := 5) sc_check_placed.nd rfl (by first | exact Or.inl rfl | exact Or.inr rfl)) pgs_nil)))) (fun _ _ _ _ _ => pts_nil) (fun _ _ _ _ _ => (pv 4)))
      (pss_cons (ps_for (passes_of rfl) rfl (pi_list (pv 3)) (pg_name (i := 4) sc_check_placed.nd rfl (by first | exact Or.inl rfl | exact Or.inr rfl))
      (pss_one (ps_if (pt_cmpR op_notN (pv 4) pe_non (nomark _))
      (pss_one (ps_expr (pe_call G_check_known (hr.mono (by first | decide | omega)) rfl D_check_known.m D_check_known.F.kp D_check_known.b .nil (passes_call (takes_of rfl rfl rfl rfl) (fun _ _ _ _ h => h)) (pa_cons (pv 4) (pa_cons (pv 2) pa_nil)))))
      pss_nil)))
      (pss_cons (ps_if (pt_cmpR op_lt (pe_lenSetO rfl (by rfl) T.len (by rfl) T.set (pv 3)) (pe_callB call_len_seq (by rfl) T.len PySem.boot_len (pa_cons (pv 3) pa_nil)) (nomark _))
      (pss_one (ps_raise rfl (takes_of rfl rfl rfl rfl) (pmk_own PySem.F.excBase_ValueError T.exc_Twice.x T.exc_Twice.g T.exc_Twice.k (raises_own T.exc_Twice.b T.exc_Twice.t) rfl)))
      pss_nil)
      (pss_one (ps_if (pt_cmpR op_in_seq (pv 0) (pv 3) (by with_unfolding_all rfl))
      (pss_one (ps_raise rfl (takes_of rfl rfl rfl rfl) (pmk_own PySem.F.excBase_ValueError T.exc_OwnPanel.x T.exc_OwnPanel.g T.exc_OwnPanel.k (raises_own T.exc_OwnPanel.b T.exc_OwnPanel.t) rfl)))
      pss_nil)))))), ?_⟩
  obtain ⟨pa, px, rfl, hpS, hpl, hpE⟩ := PanAt.ent hP
  refine ⟨_, rfl, _, rfl, c, a, ins, rfl, hI, ?_⟩
  by_cases hc : c ∈ ins
  rotate_left
  · refine .inr ⟨hc, fun d nd => ?_⟩
    have e : placed c ps ins = some (.known c) := if_pos hc
    rw [e] at q
    exact q _ d (same_new nd) (upd_same)
  refine .inl ⟨hc, ?_⟩
  have e : placed c ps ins = _ := if_neg (fun h => h hc)
  refine ⟨_, rfl, pa, rfl, ⟨_, hpS⟩, fun D nD => lc_tup (K := K) (a := pa) (xs := px) (fun i H' => Same H H' ∧ H' D = some (.lst (((pnames ps).map optV).take i))) ⟨same_new nD, upd_same⟩ (fun i H' _ w => same_sqt w.1 hpS) ?_ ?_⟩
  · rintro i y H' hi ⟨sm, hD⟩
    obtain ⟨en, b, he, rfl, hb⟩ := hpE i y hi
    have hi1 := (List.getElem?_eq_some_iff.mp hi).1
    generalize hw : wipe _ _ = w0
    have ew : w0 = [some (.str c), some (.ref pa), some (.ref a), none, none, none] := by
      rw [← hw]
      kernel_rfl
    clear hw
    subst ew
    refine ⟨b, _, rfl, same_sqt sm hb, rfl, ?_⟩
    refine ⟨_, _, rfl, ?_⟩
    refine ⟨_, _, rfl, rfl, by kernel_rfl, ?_⟩
    refine ⟨_, rfl, acc_to nD sm hD ?_ ?_⟩
    · rw [List.getElem?_map, pnames, List.getElem?_map, he]
      rfl
    · rw [List.length_map, pnames, List.length_map]
      omega
  · rintro H1 ⟨s1, hD⟩
    have hnl : (pnames ps).length = px.length := by rw [pnames, List.length_map, hpl]
    have hD1 : H1 D = some (.lst ((pnames ps).map optV)) := acc_all (by rw [List.length_map, hnl]) hD
    dsimp only
    refine nx_to ?_
    generalize hw : List.set _ _ _ = w0
    have ew : w0 = [some (.str c), some (.ref pa), some (.ref a), some (.ref D), none, none] := by
      rw [← hw]
      kernel_rfl
    clear hw
    subst ew
    have hI1 := same_sqt s1 hI
    refine ⟨_, rfl, D, rfl, ⟨_, SqL.of hD1⟩, for_list (K := K) (a := D) (xs := (pnames ps).map optV) (fun i σ H' => (∃ v4 v5 : Option V, σ = [some (.str c), some (.ref pa), some (.ref a), some (.ref D), v4, v5] ∧ H' = H1) ∧ firstUn ins ((pnames ps).take i) = none) ⟨⟨none, none, rfl, rfl⟩, rfl⟩ (fun i σ H' _ ⟨⟨_, _, _, e⟩, _⟩ => by rw [e]; exact SqL.of hD1) ?_ ?_⟩
    · rintro i v σ H' hi ⟨⟨v4, v5, rfl, rfl⟩, hk⟩
      rw [List.getElem?_map] at hi
      obtain ⟨o, ho, rfl⟩ := Option.map_eq_some_iff.mp hi
      cases o with
      | none => exact ⟨_, rfl, rfl, _, rfl, iteF ⟨⟨_, _, rfl, rfl⟩, firstUn_next hk ho (fun z e => by cases e)⟩⟩
      | some z =>
        refine ⟨_, rfl, rfl, _, rfl, iteT ?_⟩
        by_cases hz : z ∈ ins
        · exact ⟨_, rfl, _, rfl, z, a, ins, rfl, hI1, .inl ⟨hz, ⟨_, _, rfl, rfl⟩, firstUn_next hk ho (fun z' e => by cases e; exact hz)⟩⟩
        · refine ⟨_, rfl, _, rfl, z, a, ins, rfl, hI1, .inr ⟨hz, fun d nd => ?_⟩⟩
          rw [firstUn_at hk ho hz] at e
          rw [e] at q
          exact q _ d (same_add s1 nd) upd_same
    · rintro σ H' ⟨⟨v4, v5, rfl, rfl⟩, hk⟩
      rw [List.take_of_length_le (by rw [List.length_map]; exact Nat.le_refl _)] at hk
      rw [hk] at e
      have hnp : (pnames ps).length ≤ 1000 := by omega
      refine ⟨_, rfl, D, pnames ps, rfl, SqL.of hD1, hnp, _, rfl, D, _, rfl, .inl (SqL.of hD1), _, _, rfl, rfl, _, rfl, ?_⟩
      have lt := onces_lt ((pnames ps).map lfO)
      rw [List.length_map, lfO_nodup] at lt
      by_cases hd : (pnames ps).Nodup
      · rw [decide_eq_false (fun z => by
          rw [List.length_map] at z
          exact lt.mp (Int.ofNat_lt.mp z) hd)]
        refine iteF ?_
        refine ⟨_, rfl, _, rfl, D, _, rfl, .inl (SqL.of hD1), rfl, flat_optVs _, ?_⟩
        rw [inV_opt]
        dsimp only at e
        rw [if_neg (fun z => z hd)] at e
        by_cases ho : some c ∈ pnames ps
        · rw [if_pos ho] at e
          rw [e] at q
          rw [decide_eq_true ho]
          exact ⟨_, rfl, iteT (q _ s1)⟩
        · rw [if_neg ho] at e
          rw [e] at q
          rw [decide_eq_false ho]
          exact ⟨_, rfl, iteF (q _ s1)⟩
      · rw [decide_eq_true (by
          rw [List.length_map]
          exact Int.ofNat_lt.mpr (lt.mpr hd))]
        refine iteT ?_
        dsimp only at e
        rw [if_pos hd] at e
        rw [e] at q
        exact q _ s1

theorem ok_direct_losses {f : Addr} {fd : FuncData} (D_direct_losses : Dfn K mg "direct_losses" s_direct_losses ["insurers", "losses", "event"] f fd) (T : Tx K mg C_SpiralError C_BadName C_BadCover C_BadPanel C_BadAmount C_NameTaken C_NoSuchName C_Twice C_OwnPanel C_TooMany C_NoEnd C_Market) :
    FnOk P w K mg base CX0 (1) f fd ["insurers", "losses", "event"] (sp_direct_losses K) := by
  refine D_direct_losses.F.ok sc_direct_losses (fun vs H Q E h => ?_) (fun cdv A outer s H vs Q E hr h => ?_)
  · obtain ⟨a, d, e, ins, L, rfl, hI, hl, hL, q⟩ := h
    rfl
  obtain ⟨a, d, e, ins, L, rfl, hI, hl, hL, q⟩ := h
  refine ⟨_, (pss_one (ps_ret (pe_callTy call_tuple_of (by rfl) T.tuple (by decide +kernel) (pa_cons (pe_lc (own := [("insurer", 3)]) (g := (gName 3)) (tt := tYes) rfl sc_direct_losses.nd (pi_tup (pv 0)) (blkOk_by (own := [("insurer", 3)]) (N := (["insurers", "losses", "event", "insurer"] : List Str)) (sc := defScope s_direct_losses) (by decide +kernel)) (fun _ _ _ _ _ => (pg_name (i := 3) sc_direct_losses.nd rfl (by first | exact Or.inl rfl | exact Or.inr rfl))) (fun _ _ _ _ _ => pts_nil) (fun _ _ _ _ _ => (pe_dget2 (hu_of hr) (pv 1) (pe_tup (pa_cons (pv 2) (pa_cons (pv 3) pa_nil))) pe_int ⟨rfl, rfl, rfl, rfl⟩))) pa_nil)))), ?_⟩
  refine ⟨_, rfl, a, rfl, ⟨_, hI⟩, fun D nD => lc_tup (K := K) (a := a) (xs := ins.map V.str) (fun i H' => Same H H' ∧ H' D = some (.lst (((directs ins L e).map V.int).take i))) ⟨same_new nD, upd_same⟩ (fun i H' _ z => same_sqt z.1 hI) ?_ ?_⟩
  · rintro i y H' hi ⟨sm, hD⟩
    obtain ⟨z, rfl, hz⟩ := of_at_str hi
    have hv : ((directs ins L e).map V.int)[i]? = some (.int (lossOf L e z)) := by
      refine at_map ?_
      show (ins.map (lossOf L e))[i]? = _
      rw [List.getElem?_map, hz]
      rfl
    have hL' := rd_same sm hL
    refine ⟨rfl, ⟨_, rfl, d, rfl, isD_t hL', _, rfl, _, rfl, sz (by show 2 ≤ 100000; decide), fun k nk => ?_⟩⟩
    · have hL2 := rd_same (same_new (o := .tup [.str e, .str z]) nk) hL'
      refine ⟨_, .inr ⟨_, [.inr e, .inr z], k, hL2, rfl, upd_same, rfl⟩, ?_⟩
      rw [lkv_get]
      exact acc_to nD (same_add sm nk) ((same_new nk) _ _ hD) hv (by rw [List.length_map]; show (ins.map _).length ≤ 100000; rw [List.length_map]; omega)
  · rintro H' ⟨sm, hD⟩
    have hD2 := acc_all (by rw [List.length_map, List.length_map]; show _ = (ins.map _).length; rw [List.length_map]) hD
    exact ⟨D, _, rfl, .inl ⟨SqL.of hD2, fun p np => q p _ (same_add sm np) (sm.free np) upd_same⟩⟩

theorem ok_Market___init {f : Addr} {fd : FuncData} (D_Market___init : Mki K C_Market "Market.__init__" s_Market___init ["self"] f fd) (T : Tx K mg C_SpiralError C_BadName C_BadCover C_BadPanel C_BadAmount C_NameTaken C_NoSuchName C_Twice C_OwnPanel C_TooMany C_NoEnd C_Market) :
    FnOk P w K mg base CX0 (1) f fd ["self"] (sp_minit K C_Market) := by
  refine D_Market___init.F.ok sc_Market___init (fun vs H Q E h => ?_) (fun cdv A outer s H vs Q E hr h => ?_)
  · obtain ⟨m, dx, rfl, hm, q⟩ := h
    rfl
  obtain ⟨m, dx, rfl, hm, q⟩ := h
  refine ⟨_, (pss_cons (ps_fld (pv 0) (pe_tup pa_nil) rfl)
      (pss_cons (ps_fld (pv 0) (pe_tup pa_nil) rfl)
      (pss_cons (ps_fld (pv 0) (pe_tup pa_nil) rfl)
      (pss_one (ps_fld (pv 0) pe_dnewT rfl))))), ?_⟩
  have hlen : ∀ (f : Str) (v : V) (fs : List (Str × V)) (n : Nat), fs.length < n → n < 1000 → (putF f v fs).length < 1000 := fun f v fs n h1 h2 => by
    have := putF_le f v fs
    omega
  refine ⟨Nat.zero_le _, fun a1 n1 => ⟨_, rfl, m, C_Market, dx, [], rfl, ne_keep n1 hm, T.cl_Market, T.no_Market_insurers, by decide, ?_⟩⟩
  obtain ⟨b1, e1, m1, x1⟩ := fld_step (u := .tup []) (o' := .ins C_Market dx (putF "insurers" (.ref a1) [])) n1 hm
  obtain ⟨H1, h1⟩ : ∃ H1, upd (upd H a1 (.tup [])) m (.ins C_Market dx (putF "insurers" (.ref a1) [])) = H1 := ⟨_, rfl⟩
  rw [h1] at b1 e1 m1 ⊢
  refine ⟨Nat.zero_le _, fun a2 n2 => ⟨_, rfl, m, C_Market, dx, _, rfl, ne_keep n2 m1, T.cl_Market, T.no_Market_events, by show 1 < 1000; decide, ?_⟩⟩
  obtain ⟨b2, e2, m2, x2⟩ := fld_step (u := .tup []) (o' := .ins C_Market dx (putF "events" (.ref a2) (putF "insurers" (.ref a1) []))) n2 m1
  obtain ⟨H2, h2⟩ : ∃ H2, upd (upd H1 a2 (.tup [])) m (.ins C_Market dx (putF "events" (.ref a2) (putF "insurers" (.ref a1) []))) = H2 := ⟨_, rfl⟩
  rw [h2] at b2 e2 m2 ⊢
  refine ⟨Nat.zero_le _, fun a3 n3 => ⟨_, rfl, m, C_Market, dx, _, rfl, ne_keep n3 m2, T.cl_Market, T.no_Market_treaties, by have := putF_le "events" (.ref a2) (putF "insurers" (.ref a1) []); have : (putF "insurers" (.ref a1) []).length = 1 := rfl; omega, ?_⟩⟩
  obtain ⟨b3, e3, m3, x3⟩ := fld_step (u := .tup []) (o' := .ins C_Market dx (putF "treaties" (.ref a3) (putF "events" (.ref a2) (putF "insurers" (.ref a1) [])))) n3 m2
  obtain ⟨H3, h3⟩ : ∃ H3, upd (upd H2 a3 (.tup [])) m (.ins C_Market dx (putF "treaties" (.ref a3) (putF "events" (.ref a2) (putF "insurers" (.ref a1) [])))) = H3 := ⟨_, rfl⟩
  rw [h3] at b3 e3 m3 ⊢
  refine fun a4 n4 => ⟨_, rfl, m, C_Market, dx, _, rfl, ne_keep n4 m3, T.cl_Market, T.no_Market_losses, by have := putF_le "treaties" (.ref a3) (putF "events" (.ref a2) (putF "insurers" (.ref a1) [])); have := putF_le "events" (.ref a2) (putF "insurers" (.ref a1) []); have : (putF "insurers" (.ref a1) []).length = 1 := rfl; omega, ?_⟩
  obtain ⟨b4, e4, m4, x4⟩ := fld_step (u := .dT []) (o' := .ins C_Market dx (mf a1 a2 a3 a4)) n4 m3
  have ef : putF "losses" (.ref a4) (putF "treaties" (.ref a3) (putF "events" (.ref a2) (putF "insurers" (.ref a1) []))) = mf a1 a2 a3 a4 := by kernel_rfl
  rw [ef]
  obtain ⟨H4, h4⟩ : ∃ H4, upd (upd H3 a4 (.dT [])) m (.ins C_Market dx (mf a1 a2 a3 a4)) = H4 := ⟨_, rfl⟩
  rw [h4] at b4 e4 m4 ⊢
  refine q H4 (b1.trans (b2.trans (b3.trans b4))) ⟨dx, a1, a2, a3, a4, m4, SqT.of ?_, SqT.of ?_, ⟨[], SqT.of ?_, .nil⟩, e4, .inl rfl⟩
  · exact b4 _ _ x1 (b3 _ _ x1 (b2 _ _ x1 e1))
  · exact b4 _ _ x2 (b3 _ _ x2 e2)
  · exact b4 _ _ x3 e3

theorem ok_Market_add_insurer {f : Addr} {fd : FuncData} (D_Market_add_insurer : Mth K C_Market "add_insurer" "Market.add_insurer" s_Market_add_insurer ["self", "name"] f fd) (T : Tx K mg C_SpiralError C_BadName C_BadCover C_BadPanel C_BadAmount C_NameTaken C_NoSuchName C_Twice C_OwnPanel C_TooMany C_NoEnd C_Market) {f_check_new_name : Addr} {fd_check_new_name : FuncData} (D_check_new_name : Dfn K mg "check_new_name" s_check_new_name ["name", "names", "most"] f_check_new_name fd_check_new_name) (G_check_new_name : FnOk P w K mg base (L2.CX P w) (3) f_check_new_name fd_check_new_name ["name", "names", "most"] (sp_check_new_name K C_BadName C_TooMany C_NameTaken)) :
    FnOk P w K mg base (L2.CX P w) (4) f fd ["self", "name"] (sp_add_insurer K C_Market C_BadName C_TooMany C_NameTaken) := by
  refine D_Market_add_insurer.F.okX sc_Market_add_insurer (fun vs H Q E h => ?_) (fun cdv A outer s H vs Q E hr h => ?_)
  · obtain ⟨m, x, M, rfl, hM, h⟩ := h
    rfl
  obtain ⟨m, x, M, rfl, hM, h⟩ := h
  refine ⟨_, (pss_cons (ps_expr (pe_call G_check_new_name (hr.mono (by first | decide | omega)) rfl D_check_new_name.m D_check_new_name.F.kp D_check_new_name.b .nil (passes_call (takes_of rfl rfl rfl rfl) (fun _ _ _ _ h => h)) (pa_cons (pv 1) (pa_cons (pe_fld (pv 0) rfl) (pa_cons (pe_con (pv 0) rfl) pa_nil)))))
      (pss_cons (ps_fld (pv 0) (pe_op op_catF (pe_fld (pv 0) rfl) (pe_tupF (pa_cons (pv 1) pa_nil))) rfl)
      (pss_one (ps_ret (pe_callB call_len_seq (by rfl) T.len PySem.boot_len (pa_cons (pe_fld (pv 0) rfl) pa_nil)))))), ?_⟩
  obtain ⟨dx, ai, ae, at', ad, h0, h1, h2, h3, h4, h5⟩ := id hM
  obtain ⟨u, hcon⟩ := T.con_Market_MOST_INSURERS
  refine ⟨_, rfl, _, rfl, m, C_Market, dx, _, _, rfl, h0, T.cl_Market, T.no_Market_insurers, mf_i, _, rfl, m, C_Market, dx, _, .int 6, u, rfl, h0, T.cl_Market, hcon, mf_no (by decide +kernel), x, ai, M.ins, 6, rfl, h1, ?_⟩
  rcases h with h | ⟨z, rfl, hz, ⟨hl, q⟩ | ⟨hl, hm, q⟩ | ⟨hl, hm, q⟩⟩
  · exact .inl h
  · exact .inr ⟨z, rfl, hz, .inl ⟨by omega, q⟩⟩
  · exact .inr ⟨z, rfl, hz, .inr (.inl ⟨by omega, hm, q⟩)⟩
  · refine .inr ⟨z, rfl, hz, .inr (.inr ⟨by omega, hm, fun H1 s1 => ?_⟩)⟩
    have hM1 := MktAt.same s1 hM
    have g0 := s1 _ _ h0
    refine ⟨_, rfl, m, C_Market, dx, _, _, rfl, g0, T.cl_Market, T.no_Market_insurers, mf_i, _, rfl, sz (by show 1 ≤ 100000; decide), fun t Ht nt st htF => ?_⟩
    refine catF_any (same_sqt (s1.trans st) h1) htF (by simp) (by rw [List.length_map]; exact sz (by show M.ins.length + 1 ≤ 100000; omega)) fun p H2 s2 hpF => ?_
    have s02 := (s1.trans st).trans s2
    refine ⟨_, rfl, m, C_Market, dx, _, rfl, s02 _ _ h0, T.cl_Market, T.no_Market_insurers, by show 4 < 1000; decide, ?_⟩
    rw [mf_pi]
    have np : ∀ {a : Addr} {xs : List V}, SqT K H2 a xs → SqT K (upd H2 m (.ins C_Market dx (mf p ae at' ad))) a xs := fun h => sqt_ins (s02 _ _ h0) h
    have e1 : M.ins.map V.str ++ [V.str z] = (M.ins ++ [z]).map V.str := by
      rw [List.map_append]
      rfl
    rw [e1] at hpF
    have hp := TupF.sqt (K := K) hpF
    refine ⟨_, rfl, m, C_Market, dx, _, _, rfl, upd_same, T.cl_Market, T.no_Market_insurers, mf_i, p, _, rfl, .inr (np hp), ?_⟩
    rw [List.length_map, List.length_append]
    refine q _ (Bar.put (Bar.of s02)) ⟨dx, p, ae, at', ad, upd_same, np hp, np (same_sqt s02 h2), trs_ins (s02 _ _ h0) (TrsAt.same s02 h3), ?_, .inr (hpF.put (s02 _ _ h0) fun _ e => (nomatch e))⟩
    rw [upd_ne (fun e => by rw [e, h0] at h4; cases h4)]
    exact s02 _ _ h4

theorem ok_Market_add_event {f : Addr} {fd : FuncData} (D_Market_add_event : Mth K C_Market "add_event" "Market.add_event" s_Market_add_event ["self", "name"] f fd) (T : Tx K mg C_SpiralError C_BadName C_BadCover C_BadPanel C_BadAmount C_NameTaken C_NoSuchName C_Twice C_OwnPanel C_TooMany C_NoEnd C_Market) {f_check_new_name : Addr} {fd_check_new_name : FuncData} (D_check_new_name : Dfn K mg "check_new_name" s_check_new_name ["name", "names", "most"] f_check_new_name fd_check_new_name) (G_check_new_name : FnOk P w K mg base (L2.CX P w) (3) f_check_new_name fd_check_new_name ["name", "names", "most"] (sp_check_new_name K C_BadName C_TooMany C_NameTaken)) :
    FnOk P w K mg base (L2.CX P w) (4) f fd ["self", "name"] (sp_add_event K C_Market C_BadName C_TooMany C_NameTaken) := by
  refine D_Market_add_event.F.okX sc_Market_add_event (fun vs H Q E h => ?_) (fun cdv A outer s H vs Q E hr h => ?_)
  · obtain ⟨m, x, M, rfl, hM, h⟩ := h
    rfl
  obtain ⟨m, x, M, rfl, hM, h⟩ := h
  refine ⟨_, (pss_cons (ps_expr (pe_call G_check_new_name (hr.mono (by first | decide | omega)) rfl D_check_new_name.m D_check_new_name.F.kp D_check_new_name.b .nil (passes_call (takes_of rfl rfl rfl rfl) (fun _ _ _ _ h => h)) (pa_cons (pv 1) (pa_cons (pe_fld (pv 0) rfl) (pa_cons (pe_con (pv 0) rfl) pa_nil)))))
      (pss_cons (ps_fld (pv 0) (pe_op op_catA (pe_fld (pv 0) rfl) (pe_tup (pa_cons (pv 1) pa_nil))) rfl)
      (pss_one (ps_ret (pe_callB call_len_seq (by rfl) T.len PySem.boot_len (pa_cons (pe_fld (pv 0) rfl) pa_nil)))))), ?_⟩
  obtain ⟨dx, ai, ae, at', ad, h0, h1, h2, h3, h4, h5⟩ := id hM
  obtain ⟨u, hcon⟩ := T.con_Market_MOST_EVENTS
  refine ⟨_, rfl, _, rfl, m, C_Market, dx, _, _, rfl, h0, T.cl_Market, T.no_Market_events, mf_e, _, rfl, m, C_Market, dx, _, .int 3, u, rfl, h0, T.cl_Market, hcon, mf_no (by decide +kernel), x, ae, M.evs, 3, rfl, h2, ?_⟩
  rcases h with h | ⟨z, rfl, hz, ⟨hl, q⟩ | ⟨hl, hm, q⟩ | ⟨hl, hm, q⟩⟩
  · exact .inl h
  · exact .inr ⟨z, rfl, hz, .inl ⟨by omega, q⟩⟩
  · exact .inr ⟨z, rfl, hz, .inr (.inl ⟨by omega, hm, q⟩)⟩
  · refine .inr ⟨z, rfl, hz, .inr (.inr ⟨by omega, hm, fun H1 s1 => ?_⟩)⟩
    have g0 := s1 _ _ h0
    refine ⟨_, rfl, m, C_Market, dx, _, _, rfl, g0, T.cl_Market, T.no_Market_events, mf_e, _, rfl, sz (by show 1 ≤ 100000; decide), fun t nt => ?_⟩
    refine cat_any (same_sqt (same_add s1 nt) h2) (SqT.of upd_same) (by rw [List.length_map]; exact sz (by show M.evs.length + 1 ≤ 100000; omega)) fun p H2 s2 hp => ?_
    have s02 := (same_add s1 nt).trans s2
    refine ⟨_, rfl, m, C_Market, dx, _, rfl, s02 _ _ h0, T.cl_Market, T.no_Market_events, by show 4 < 1000; decide, ?_⟩
    rw [mf_pe]
    have np : ∀ {a : Addr} {xs : List V}, SqT K H2 a xs → SqT K (upd H2 m (.ins C_Market dx (mf ai p at' ad))) a xs := fun h => sqt_ins (s02 _ _ h0) h
    have e1 : M.evs.map V.str ++ [V.str z] = (M.evs ++ [z]).map V.str := by
      rw [List.map_append]
      rfl
    rw [e1] at hp
    refine ⟨_, rfl, m, C_Market, dx, _, _, rfl, upd_same, T.cl_Market, T.no_Market_events, mf_e, p, _, rfl, .inr (np hp), ?_⟩
    rw [List.length_map, List.length_append]
    refine q _ (Bar.put (Bar.of s02)) ⟨dx, ai, p, at', ad, upd_same, np (same_sqt s02 h1), np hp, trs_ins (s02 _ _ h0) (TrsAt.same s02 h3), ?_, (h5.same s02).ins (s02 _ _ h0)⟩
    rw [upd_ne (fun e => by rw [e, h0] at h4; cases h4)]
    exact s02 _ _ h4

theorem ok_Market_add_treaty {f : Addr} {fd : FuncData} (D_Market_add_treaty : Mth K C_Market "add_treaty" "Market.add_treaty" s_Market_add_treaty ["self", "cedent", "cover", "panel"] f fd) (T : Tx K mg C_SpiralError C_BadName C_BadCover C_BadPanel C_BadAmount C_NameTaken C_NoSuchName C_Twice C_OwnPanel C_TooMany C_NoEnd C_Market) {f_check_name : Addr} {fd_check_name : FuncData} (D_check_name : Dfn K mg "check_name" s_check_name ["value"] f_check_name fd_check_name) (G_check_name : FnOk P w K mg base (L2.CX P w) (2) f_check_name fd_check_name ["value"] (sp_check_name K C_BadName)) {f_check_cover : Addr} {fd_check_cover : FuncData} (D_check_cover : Dfn K mg "check_cover" s_check_cover ["value"] f_check_cover fd_check_cover) (G_check_cover : FnOk P w K mg base (L2.CX P w) (3) f_check_cover fd_check_cover ["value"] (sp_check_cover K C_BadCover)) {f_check_panel : Addr} {fd_check_panel : FuncData} (D_check_panel : Dfn K mg "check_panel" s_check_panel ["value"] f_check_panel fd_check_panel) (G_check_panel : FnOk P w K mg base (L2.CX P w) (4) f_check_panel fd_check_panel ["value"] (sp_check_panel K C_BadPanel)) {f_check_placed : Addr} {fd_check_placed : FuncData} (D_check_placed : Dfn K mg "check_placed" s_check_placed ["cedent", "panel", "insurers"] f_check_placed fd_check_placed) (G_check_placed : FnOk P w K mg base (L2.CX P w) (4) f_check_placed fd_check_placed ["cedent", "panel", "insurers"] (sp_check_placed K C_NoSuchName C_Twice C_OwnPanel)) {f_Market__check_ends : Addr} {fd_Market__check_ends : FuncData} (D_Market__check_ends : Mth K C_Market "_check_ends" "Market._check_ends" s_Market__check_ends ["self", "treaties", "losses"] f_Market__check_ends fd_Market__check_ends) (G_Market__check_ends : FnOk P w K mg base (L2.CX P w) (7) f_Market__check_ends fd_Market__check_ends ["self", "treaties", "losses"] (sp_check_ends K C_Market C_NoEnd)) :
    FnOk P w K mg base (L2.CX P w) (8) f fd ["self", "cedent", "cover", "panel"] (sp_add_treaty K C_Market C_BadName C_BadCover C_BadPanel C_NoSuchName C_Twice C_OwnPanel C_TooMany C_NoEnd) := by
  refine D_Market_add_treaty.F.okX sc_Market_add_treaty (fun vs H Q E h => ?_) (fun cdv A outer s H vs Q E hr h => ?_)
  · obtain ⟨m, x, y, w, M, rfl, hM, h⟩ := h
    rfl
  obtain ⟨m, x, y, w, M, rfl, hM, h⟩ := h
  refine ⟨_, (pss_cons (ps_expr (pe_call G_check_name (hr.mono (by first | decide | omega)) rfl D_check_name.m D_check_name.F.kp D_check_name.b .nil (passes_call (takes_of rfl rfl rfl rfl) (fun _ _ _ _ h => h)) (pa_cons (pv 1) pa_nil)))
      (pss_cons (ps_expr (pe_call G_check_cover (hr.mono (by first | decide | omega)) rfl D_check_cover.m D_check_cover.F.kp D_check_cover.b .nil (passes_call (takes_of rfl rfl rfl rfl) (fun _ _ _ _ h => h)) (pa_cons (pv 2) pa_nil)))
      (pss_cons (ps_expr (pe_call G_check_panel (hr.mono (by first | decide | omega)) rfl D_check_panel.m D_check_panel.F.kp D_check_panel.b .nil (passes_call (takes_of rfl rfl rfl rfl) (fun _ _ _ _ h => h)) (pa_cons (pv 3) pa_nil)))
      (pss_cons (ps_expr (pe_call G_check_placed (hr.mono (by first | decide | omega)) rfl D_check_placed.m D_check_placed.F.kp D_check_placed.b .nil (passes_call (takes_of rfl rfl rfl rfl) (fun _ _ _ _ h => h)) (pa_cons (pv 1) (pa_cons (pv 3) (pa_cons (pe_fld (pv 0) rfl) pa_nil)))))
      (pss_cons (ps_set (i := 4) sc_Market_add_treaty.nd rfl (by first | exact Or.inl rfl | exact Or.inr rfl) (pe_callB call_len_seq (by rfl) T.len PySem.boot_len (pa_cons (pe_fld (pv 0) rfl) pa_nil)))
      (pss_cons (ps_if (pt_cmpR op_ge (pv 4) (pe_con (pv 0) rfl) (nomark _))
      (pss_one (ps_raise rfl (takes_of rfl rfl rfl rfl) (pmk_own PySem.F.excBase_ValueError T.exc_TooMany.x T.exc_TooMany.g T.exc_TooMany.k (raises_own T.exc_TooMany.b T.exc_TooMany.t) rfl)))
      pss_nil)
      (pss_cons (ps_set (i := 5) sc_Market_add_treaty.nd rfl (by first | exact Or.inl rfl | exact Or.inr rfl) (pe_op op_catA (pe_fld (pv 0) rfl) (pe_tup (pa_cons (pe_tup (pa_cons (pv 1) (pa_cons (pv 2) (pa_cons (pv 3) (pa_cons pe_bl pa_nil))))) pa_nil))))
      (pss_cons (ps_expr (pe_meth (pv 0) T.cl_Market D_Market__check_ends.m G_Market__check_ends (hr.mono (by first | decide | omega)) D_Market__check_ends.b .nil (passes_call (takes_of rfl rfl rfl rfl) (fun _ _ _ _ h => h)) (pa_cons (pv 5) (pa_cons (pe_fld (pv 0) rfl) pa_nil))))
      (pss_cons (ps_fld (pv 0) (pv 5) rfl)
      (pss_one (ps_ret (pv 4)))))))))))), ?_⟩
  obtain ⟨dx, ai, ae, at', ad, h0, h1, h2, h3, h4, hI5⟩ := id hM
  rcases h with ⟨hn, q⟩ | ⟨hn, hc, q⟩ | ⟨hn, hc, hp, q⟩ | ⟨c, vc, cov, ps, rfl, hn, rfl, hS, hcv, hpA, hpO, h⟩
  · exact ⟨_, rfl, _, rfl, .inr ⟨hn, q⟩⟩
  · refine ⟨_, rfl, _, rfl, .inl ⟨hn, fun H1 s1 => ?_⟩⟩
    exact ⟨_, rfl, _, rfl, .inr ⟨NoCov.same' s1 hc, fun H2 s2 => q H2 (s1.trans s2)⟩⟩
  · refine ⟨_, rfl, _, rfl, .inl ⟨hn, fun H1 s1 => ?_⟩⟩
    refine ⟨_, rfl, _, rfl, .inl ⟨IsCovV.same' s1 hc, fun H2 s2 => ?_⟩⟩
    exact ⟨_, rfl, _, rfl, .inr ⟨NoPan.same (s1.trans s2) hp, fun H3 s3 => q H3 (s1.trans (s2.trans s3))⟩⟩
  refine ⟨_, rfl, _, rfl, .inl ⟨hn, fun H1 s1 => ?_⟩⟩
  refine ⟨_, rfl, _, rfl, .inl ⟨⟨vc, cov, rfl, same_sqt s1 hS, hcv⟩, fun H2 s2 => ?_⟩⟩
  have s02 := s1.trans s2
  refine ⟨_, rfl, _, rfl, .inl ⟨_, PanAt.same s02 hpA, hpO, fun H3 s3 => ?_⟩⟩
  have s03 := s02.trans s3
  have hps : ps.length ≤ 1000 := by
    have := hpO.hi
    omega
  refine ⟨_, rfl, _, rfl, _, rfl, m, C_Market, dx, _, _, rfl, s03 _ _ h0, T.cl_Market, T.no_Market_insurers, mf_i, c, w, ai, M.ins, ps, rfl, PanAt.same s03 hpA, hps, same_sqt s03 h1, ?_⟩
  have more : placed c ps M.ins = none → ((16 ≤ M.trs.length ∧ M.trs.length ≤ 100000 ∧ ∀ H', Same H H' → E (.ref C_TooMany) none H') ∨ (M.trs.length < 16 ∧ TrsOk M.ins (M.trs ++ [⟨c, cov, ps, false⟩]) ∧ M.evs.length ≤ 1000 ∧ Fates K C_Market C_NoEnd H m { M with trs := M.trs ++ [⟨c, cov, ps, false⟩] } (Q (.int ((M.trs.length : Nat) : Int))) E)) := fun e => by
    rcases h with ⟨x, e2, _⟩ | ⟨_, h⟩ | ⟨_, h⟩
    · rw [e] at e2
      cases e2
    · exact .inl h
    · exact .inr h
  cases hr : placed c ps M.ins with
  | some z =>
    have q : PlcEnd C_NoSuchName C_Twice C_OwnPanel H (some z) Q E := by
      rcases h with ⟨x, e2, q⟩ | ⟨e2, _⟩ | ⟨e2, _⟩
      · rw [hr] at e2
        cases e2
        exact q
      · rw [hr] at e2
        cases e2
      · rw [hr] at e2
        cases e2
    cases z with
    | known z => exact fun H' d s => q H' d (s03.trans s)
    | twice => exact fun H' s => q H' (s03.trans s)
    | own => exact fun H' s => q H' (s03.trans s)
  | none =>
  refine fun H4 s4 => ?_
  have s04 := s03.trans s4
  have g0 := s04 _ _ h0
  obtain ⟨u, hcon⟩ := T.con_Market_MOST_TREATIES
  obtain ⟨xs, hxS, hxA⟩ := TrsAt.same s04 h3
  have hxl := hxA.1
  refine ⟨_, rfl, m, C_Market, dx, _, _, rfl, g0, T.cl_Market, T.no_Market_treaties, mf_t, at', xs, rfl, .inr hxS, ?_⟩
  refine ⟨_, rfl, _, rfl, m, C_Market, dx, _, .int 16, u, rfl, g0, T.cl_Market, hcon, mf_no (by decide +kernel), _, _, rfl, rfl, _, rfl, ?_⟩
  rcases more hr with ⟨h16, h17, q⟩ | ⟨hl, hok, hev, hf⟩
  · rw [decide_eq_true (show (16 : Int) ≤ ((xs.length : Nat) : Int) by omega)]
    exact iteT (q _ s04)
  rw [decide_eq_false (show ¬ (16 : Int) ≤ ((xs.length : Nat) : Int) by omega)]
  refine iteF ?_
  refine ⟨_, rfl, m, C_Market, dx, _, _, rfl, g0, T.cl_Market, T.no_Market_treaties, mf_t, ?_⟩
  refine ⟨_, rfl, _, rfl, _, rfl, sz (by show 4 ≤ 100000; decide), fun t nt => ⟨sz (by show 1 ≤ 100000; decide), fun t2 nt2 => ?_⟩⟩
  obtain ⟨H5, h5⟩ : ∃ H5, upd H4 t (.tup [.str c, .ref vc, w, .bl false]) = H5 := ⟨_, rfl⟩
  have s45 : Same H4 H5 := by
    rw [← h5]
    exact same_new nt
  have ht : H5 t = some (.tup [.str c, .ref vc, w, .bl false]) := by
    rw [← h5]
    exact upd_same
  have nt2' : H5 t2 = none := by
    rw [← h5]
    exact nt2
  have s56 : Same H5 (upd H5 t2 (.tup [.ref t])) := same_new nt2'
  have s06 : Same H (upd H5 t2 (.tup [.ref t])) := s04.trans (s45.trans s56)
  rw [h5]
  refine cat_any (same_sqt (s45.trans s56) hxS) (SqT.of upd_same) (sz (by show xs.length + 1 ≤ 100000; omega)) fun p H7 s7 hp => ?_
  have s07 := s06.trans s7
  have k0 := s07 _ _ h0
  have htr : TrsAt K H7 p (M.trs ++ [⟨c, cov, ps, false⟩]) := by
    refine ⟨_, hp, AllAt.add (AllAt.same (R := TrAt K) (fun e r => TrAt.same e r) (s45.trans (s56.trans s7)) hxA) ?_⟩
    have hpA7 := PanAt.same s07 hpA
    exact ⟨t, vc, w, rfl, SqT.of (s7 _ _ (s56 _ _ ht)), same_sqt s07 hS, hpA7⟩
  dsimp only
  refine nx_to ?_
  refine ⟨_, rfl, m, dx, _, rfl, k0, mf_no (by decide +kernel), _, rfl, _, rfl, m, C_Market, dx, _, _, rfl, k0, T.cl_Market, T.no_Market_losses, mf_l, m, M, p, ad, _, M.los, rfl, MktAt.same s07 hM, htr, hok, s07 _ _ h4, hev, ?_⟩
  rcases hf with ⟨hf, q⟩ | ⟨hf, q⟩
  · refine .inl ⟨hf, fun H8 s8 => ?_⟩
    have s08 := s07.trans s8
    refine ⟨_, rfl, _, rfl, m, C_Market, dx, _, rfl, s08 _ _ h0, T.cl_Market, T.no_Market_treaties, by show 4 < 1000; decide, ?_⟩
    rw [mf_pt]
    refine ⟨_, rfl, ?_⟩
    rw [hxl]
    have hm8 := s08 _ _ h0
    refine q _ (Bar.put (Bar.of s08)) ⟨dx, ai, ae, p, ad, upd_same, sqt_ins hm8 (same_sqt s08 h1), sqt_ins hm8 (same_sqt s08 h2), trs_ins hm8 (TrsAt.same s8 htr), ?_, (hI5.same s08).ins hm8⟩
    rw [upd_ne (fun e => by rw [e, h0] at h4; cases h4)]
    exact s08 _ _ h4
  · exact .inr ⟨hf, fun H8 s8 => q H8 (s07.trans s8)⟩

theorem ok_Market_set_loss {f : Addr} {fd : FuncData} (D_Market_set_loss : Mth K C_Market "set_loss" "Market.set_loss" s_Market_set_loss ["self", "event", "insurer", "amount"] f fd) (T : Tx K mg C_SpiralError C_BadName C_BadCover C_BadPanel C_BadAmount C_NameTaken C_NoSuchName C_Twice C_OwnPanel C_TooMany C_NoEnd C_Market) {f_check_name : Addr} {fd_check_name : FuncData} (D_check_name : Dfn K mg "check_name" s_check_name ["value"] f_check_name fd_check_name) (G_check_name : FnOk P w K mg base (L2.CX P w) (2) f_check_name fd_check_name ["value"] (sp_check_name K C_BadName)) {f_is_between : Addr} {fd_is_between : FuncData} (D_is_between : Dfn K mg "is_between" s_is_between ["value", "low", "high"] f_is_between fd_is_between) (G_is_between : FnOk P w K mg base CX0 (1) f_is_between fd_is_between ["value", "low", "high"] (sp_is_between K)) {f_check_known : Addr} {fd_check_known : FuncData} (D_check_known : Dfn K mg "check_known" s_check_known ["name", "names"] f_check_known fd_check_known) (G_check_known : FnOk P w K mg base (L2.CX P w) (3) f_check_known fd_check_known ["name", "names"] (sp_check_known K C_NoSuchName)) {f_Market__check_ends : Addr} {fd_Market__check_ends : FuncData} (D_Market__check_ends : Mth K C_Market "_check_ends" "Market._check_ends" s_Market__check_ends ["self", "treaties", "losses"] f_Market__check_ends fd_Market__check_ends) (G_Market__check_ends : FnOk P w K mg base (L2.CX P w) (7) f_Market__check_ends fd_Market__check_ends ["self", "treaties", "losses"] (sp_check_ends K C_Market C_NoEnd)) :
    FnOk P w K mg base (L2.CX P w) (8) f fd ["self", "event", "insurer", "amount"] (sp_set_loss K C_Market C_NoEnd) := by
  refine D_Market_set_loss.F.okX sc_Market_set_loss (fun vs H Q E h => ?_) (fun cdv A outer s H vs Q E hr h => ?_)
  · obtain ⟨m, e, z, n, M, rfl, hM, hne, hnz, hn, hev, hin, hnd, hll, hok, hfew, hf⟩ := h
    rfl
  obtain ⟨m, e, z, n, M, rfl, hM, hne, hnz, hn, hev, hin, hnd, hll, hok, hfew, hf⟩ := h
  refine ⟨_, (pss_cons (ps_expr (pe_call G_check_name (hr.mono (by first | decide | omega)) rfl D_check_name.m D_check_name.F.kp D_check_name.b .nil (passes_call (takes_of rfl rfl rfl rfl) (fun _ _ _ _ h => h)) (pa_cons (pv 1) pa_nil)))
      (pss_cons (ps_expr (pe_call G_check_name (hr.mono (by first | decide | omega)) rfl D_check_name.m D_check_name.F.kp D_check_name.b .nil (passes_call (takes_of rfl rfl rfl rfl) (fun _ _ _ _ h => h)) (pa_cons (pv 2) pa_nil)))
      (pss_cons (ps_if (pt_not (pt_val (pe_call G_is_between (hr.mono (by first | decide | omega)) rfl D_is_between.m D_is_between.F.kp D_is_between.b .nil pass0 (pa_cons (pv 3) (pa_cons pe_int (pa_cons (pe_gi rfl T.g_MOST_DIRECT) pa_nil))))))
      (pss_one (ps_raise rfl (takes_of rfl rfl rfl rfl) (pmk_own PySem.F.excBase_ValueError T.exc_BadAmount.x T.exc_BadAmount.g T.exc_BadAmount.k (raises_own T.exc_BadAmount.b T.exc_BadAmount.t) rfl)))
      pss_nil)
      (pss_cons (ps_expr (pe_call G_check_known (hr.mono (by first | decide | omega)) rfl D_check_known.m D_check_known.F.kp D_check_known.b .nil (passes_call (takes_of rfl rfl rfl rfl) (fun _ _ _ _ h => h)) (pa_cons (pv 1) (pa_cons (pe_fld (pv 0) rfl) pa_nil))))
      (pss_cons (ps_expr (pe_call G_check_known (hr.mono (by first | decide | omega)) rfl D_check_known.m D_check_known.F.kp D_check_known.b .nil (passes_call (takes_of rfl rfl rfl rfl) (fun _ _ _ _ h => h)) (pa_cons (pv 2) (pa_cons (pe_fld (pv 0) rfl) pa_nil))))
      (pss_cons (ps_lock (ps_setDct (i := 4) (own := [("key", 5)]) (g := (gName 5)) (tt := tYes) (hu_of hr) rfl sc_Market_set_loss.nd rfl rfl (sw_dict rfl rfl rfl (by decide +kernel)) (pi_keys (pe_fld (pv 0) rfl)) (blkOk_by (own := [("key", 5)]) (N := (["self", "event", "insurer", "amount", "losses", "key"] : List Str)) (sc := defScope s_Market_set_loss) (by decide +kernel)) (fun _ _ _ _ _ => (pg_name (i := 5) sc_Market_set_loss.nd rfl (by first | exact Or.inl rfl | exact Or.inr rfl))) (fun _ _ _ _ _ => pts_nil) (fun _ _ _ _ _ => (pv 5)) (fun _ _ _ _ _ => (pe_dget (hu_of hr) (pe_fldK (K := K) rfl (pv 0) rfl) (pv 5) (fun _ _ => rfl)))))
      (pss_cons (ps_dput (hu_of hr) (pv 4) (pe_tup (pa_cons (pv 1) (pa_cons (pv 2) pa_nil))) (pv 3) rfl)
      (pss_cons (ps_expr (pe_meth (pv 0) T.cl_Market D_Market__check_ends.m G_Market__check_ends (hr.mono (by first | decide | omega)) D_Market__check_ends.b .nil (passes_call (takes_of rfl rfl rfl rfl) (fun _ _ _ _ h => h)) (pa_cons (pe_fld (pv 0) rfl) (pa_cons (pv 4) pa_nil))))
      (pss_one (ps_fld (pv 0) (pv 4) rfl)))))))))), ?_⟩
  obtain ⟨dx, ai, ae, at', ad, h0, h1, h2, h3, h4, hI5⟩ := id hM
  refine ⟨_, rfl, _, rfl, .inl ⟨hne, fun H1 s1 => ?_⟩⟩
  refine ⟨_, rfl, _, rfl, .inl ⟨hnz, fun H2 s2 => ?_⟩⟩
  refine ⟨_, rfl, .int n, 0, 100000, rfl, ty_flat rfl, _, rfl, ?_⟩
  rw [hn]
  refine iteF ?_
  have s02 := s1.trans s2
  have g0 := s02 _ _ h0
  refine ⟨_, rfl, _, rfl, m, C_Market, dx, _, _, rfl, g0, T.cl_Market, T.no_Market_events, mf_e, e, ae, M.evs, rfl, same_sqt s02 h2, .inl ⟨hev, ?_⟩⟩
  refine ⟨_, rfl, _, rfl, m, C_Market, dx, _, _, rfl, g0, T.cl_Market, T.no_Market_insurers, mf_i, z, ai, M.ins, rfl, same_sqt s02 h1, .inl ⟨hin, ?_⟩⟩
  have g4 := s02 _ _ h4
  have nam : m ≠ ad := fun e => by rw [e, g4] at g0; cases g0
  refine ⟨ad, _, g4, trivial, fun od => ?_⟩
  have hfz : upd H2 ad (.frz od (.dT (lkv M.los))) ad = some (.frz od (.dT (lkv M.los))) := upd_same
  have k0 : upd H2 ad (.frz od (.dT (lkv M.los))) m = some (.ins C_Market dx (mf ai ae at' ad)) := by
    rw [upd_ne nam]
    exact g0
  refine ⟨_, rfl, m, C_Market, dx, _, _, rfl, k0, T.cl_Market, T.no_Market_losses, mf_l, ad, od, rfl, .inr ⟨_, upd_same, fun D nD => ?_⟩⟩
  have nD2 : D ≠ ad := fun e => by rw [e, upd_same] at nD; cases nD
  have nDH : H2 D = none := by
    rw [upd_ne nD2] at nD
    exact nD
  refine dct_it (walk_keysT (kvs := lkv M.los)) (fun i H' => Same (upd H2 ad (.frz od (.dT (lkv M.los)))) H' ∧ H' D = some (.dT ((lkv M.los).take i))) ⟨same_new nD, upd_same⟩ (fun i H' _ w => w.1 _ _ hfz) ?_ ?_
  · rintro i x H3 H4 hi ⟨sm, hD⟩ ⟨rfl, k, v, kb, hk, rfl, hkb⟩
    generalize hw : wipe _ _ = w0
    have ew : w0 = [some (.ref m), some (.str e), some (.str z), some (.int n), none, none] := by
      rw [← hw]
      kernel_rfl
    clear hw
    subst ew
    refine ⟨by kernel_rfl, _, rfl, _, rfl, m, C_Market, dx, _, _, rfl, sm _ _ k0, T.cl_Market, T.no_Market_losses, mf_l, _, rfl, ad, v, rfl, .inr ⟨_, k, kb, .inr ⟨od, sm _ _ hfz⟩, rfl, hkb, (lkv_is hnd hk).symm⟩, _, k, kb, rfl, hD, hkb, ?_, same_put sm nD, ?_⟩
    · rw [List.length_take]
      exact szl (by unfold lkv; rw [List.length_map]; omega)
    · rw [upd_same, putT_new (lkv_nd hnd hk), List.take_add_one, hk]
      rfl
  rintro H4 ⟨s4, hD⟩
  rw [List.take_of_length_le (Nat.le_refl _)] at hD
  dsimp only
  refine nx_to ?_
  refine ⟨s4 _ _ hfz, ?_⟩
  generalize hw : List.set _ _ _ = w0
  have ew : w0 = [some (.ref m), some (.str e), some (.str z), some (.int n), some (.ref D), none] := by
    rw [← hw]
    kernel_rfl
  clear hw
  subst ew
  obtain ⟨H3, h3e⟩ : ∃ H3, upd H4 ad (.dT (lkv M.los)) = H3 := ⟨_, rfl⟩
  have s23 : Same H2 H3 := fun b u hb => by
    rw [← h3e]
    by_cases e1 : b = ad
    · subst e1
      rw [g4] at hb
      rw [upd_same]
      exact hb
    · rw [upd_ne e1]
      exact s4 _ _ (by rw [upd_ne e1]; exact hb)
  have hD3 : H3 D = some (.dT (lkv M.los)) := by
    rw [← h3e, upd_ne nD2]
    exact hD
  rw [h3e]
  refine ⟨_, rfl, _, rfl, _, rfl, _, rfl, sz (by show 2 ≤ 100000; decide), fun k nk => ?_⟩
  have nDk : D ≠ k := ne_of_none hD3 nk
  have s25 : Same H2 (upd H3 k (.tup [.str e, .str z])) := same_add s23 nk
  refine ⟨D, _, rfl, .inr ⟨lkv M.los, [.inr e, .inr z], k, ?_, rfl, upd_same, szl (by unfold lkv; rw [List.length_map]; omega), rfl⟩, ?_⟩
  · rw [upd_ne nDk]
    exact hD3
  rw [lkv_put]
  have s26 : Same H2 (upd (upd H3 k (.tup [.str e, .str z])) D (.dT (lkv (setL M.los e z n)))) := same_put s25 nDH
  have hD6 : (upd (upd H3 k (.tup [.str e, .str z])) D (.dT (lkv (setL M.los e z n)))) D = some (.dT (lkv (setL M.los e z n))) := upd_same
  obtain ⟨H6, h6⟩ : ∃ H6, (upd (upd H3 k (.tup [.str e, .str z])) D (.dT (lkv (setL M.los e z n)))) = H6 := ⟨_, rfl⟩
  rw [h6] at s26 hD6 ⊢
  have s06 := s02.trans s26
  have k6 := s06 _ _ h0
  refine ⟨_, rfl, m, dx, _, rfl, k6, mf_no (by decide +kernel), _, rfl, m, C_Market, dx, _, _, rfl, k6, T.cl_Market, T.no_Market_treaties, mf_t, _, rfl, m, M, at', D, M.trs, _, rfl, MktAt.same s06 hM, TrsAt.same s06 h3, hok, hD6, hfew, ?_⟩
  rcases hf with ⟨hf, q⟩ | ⟨hf, q⟩
  · refine .inl ⟨hf, fun H7 s7 => ?_⟩
    have s07 := s06.trans s7
    have k7 := s07 _ _ h0
    refine ⟨_, rfl, _, rfl, m, C_Market, dx, _, rfl, k7, T.cl_Market, T.no_Market_losses, by show 4 < 1000; decide, ?_⟩
    rw [mf_pl]
    refine q _ (Bar.put (Bar.of s07)) ⟨dx, ai, ae, at', D, upd_same, sqt_ins k7 (same_sqt s07 h1), sqt_ins k7 (same_sqt s07 h2), trs_ins k7 (TrsAt.same s07 h3), ?_, (hI5.same s07).ins k7⟩
    have hD7 := s7 _ _ hD6
    rw [upd_ne (fun e => by rw [e, k7] at hD7; cases hD7)]
    exact hD7
  · exact .inr ⟨hf, fun H7 s7 => q H7 (s06.trans s7)⟩

theorem ok_Market_direct {f : Addr} {fd : FuncData} (D_Market_direct : Mth K C_Market "direct" "Market.direct" s_Market_direct ["self", "event"] f fd) (T : Tx K mg C_SpiralError C_BadName C_BadCover C_BadPanel C_BadAmount C_NameTaken C_NoSuchName C_Twice C_OwnPanel C_TooMany C_NoEnd C_Market) {f_check_known : Addr} {fd_check_known : FuncData} (D_check_known : Dfn K mg "check_known" s_check_known ["name", "names"] f_check_known fd_check_known) (G_check_known : FnOk P w K mg base (L2.CX P w) (3) f_check_known fd_check_known ["name", "names"] (sp_check_known K C_NoSuchName)) {f_direct_losses : Addr} {fd_direct_losses : FuncData} (D_direct_losses : Dfn K mg "direct_losses" s_direct_losses ["insurers", "losses", "event"] f_direct_losses fd_direct_losses) (G_direct_losses : FnOk P w K mg base CX0 (1) f_direct_losses fd_direct_losses ["insurers", "losses", "event"] (sp_direct_losses K)) :
    FnOk P w K mg base (L2.CX P w) (4) f fd ["self", "event"] (sp_direct K C_Market C_NoSuchName) := by
  refine D_Market_direct.F.okX sc_Market_direct (fun vs H Q E h => ?_) (fun cdv A outer s H vs Q E hr h => ?_)
  · obtain ⟨m, M, e, rfl, hM, hl, h⟩ := h
    rfl
  obtain ⟨m, M, e, rfl, hM, hl, h⟩ := h
  refine ⟨_, (pss_cons (ps_expr (pe_call G_check_known (hr.mono (by first | decide | omega)) rfl D_check_known.m D_check_known.F.kp D_check_known.b .nil (passes_call (takes_of rfl rfl rfl rfl) (fun _ _ _ _ h => h)) (pa_cons (pv 1) (pa_cons (pe_fld (pv 0) rfl) pa_nil))))
      (pss_one (ps_ret (pe_call G_direct_losses (hr.mono (by first | decide | omega)) rfl D_direct_losses.m D_direct_losses.F.kp D_direct_losses.b .nil pass0 (pa_cons (pe_fld (pv 0) rfl) (pa_cons (pe_fld (pv 0) rfl) (pa_cons (pv 1) pa_nil))))))), ?_⟩
  obtain ⟨dx, ai, ae, at', ad, h0, h1, h2, h3, h4, h5⟩ := id hM
  refine ⟨_, rfl, _, rfl, m, C_Market, dx, _, _, rfl, h0, T.cl_Market, T.no_Market_events, mf_e, e, ae, M.evs, rfl, h2, ?_⟩
  rcases h with ⟨he, q⟩ | ⟨he, q⟩
  · refine .inl ⟨he, ?_⟩
    exact ⟨_, rfl, m, C_Market, dx, _, _, rfl, h0, T.cl_Market, T.no_Market_insurers, mf_i, _, rfl, m, C_Market, dx, _, _, rfl, h0, T.cl_Market, T.no_Market_losses, mf_l, _, rfl, ai, ad, e, M.ins, M.los, rfl, h1, hl, .inl h4, fun p H' s np hp => q p H' s np hp⟩
  · exact .inr ⟨he, fun d nd => q d _ (same_new nd) upd_same⟩

theorem ok_Market_copy {f : Addr} {fd : FuncData} (D_Market_copy : Mth K C_Market "copy" "Market.copy" s_Market_copy ["self"] f fd) (T : Tx K mg C_SpiralError C_BadName C_BadCover C_BadPanel C_BadAmount C_NameTaken C_NoSuchName C_Twice C_OwnPanel C_TooMany C_NoEnd C_Market) {f_Market___init : Addr} {fd_Market___init : FuncData} (D_Market___init : Mki K C_Market "Market.__init__" s_Market___init ["self"] f_Market___init fd_Market___init) (G_Market___init : FnOk P w K mg base CX0 (1) f_Market___init fd_Market___init ["self"] (sp_minit K C_Market)) :
    FnOk P w K mg base CX0 (3) f fd ["self"] (sp_copy K C_Market) := by
  refine D_Market_copy.F.ok sc_Market_copy (fun vs H Q E h => ?_) (fun cdv A outer s H vs Q E hr h => ?_)
  · obtain ⟨m, M, rfl, hM, hnd, hll, q⟩ := h
    rfl
  obtain ⟨m, M, rfl, hM, hnd, hll, q⟩ := h
  refine ⟨_, (pss_cons (ps_set (i := 1) sc_Market_copy.nd rfl (by first | exact Or.inl rfl | exact Or.inr rfl) (pe_make0 D_Market___init.m G_Market___init (hr.mono (by first | decide | omega)) rfl T.m_Market D_Market___init.b .nil pass0))
      (pss_cons (ps_fld (pv 1) (pe_fld (pv 0) rfl) rfl)
      (pss_cons (ps_fld (pv 1) (pe_fld (pv 0) rfl) rfl)
      (pss_cons (ps_fld (pv 1) (pe_fld (pv 0) rfl) rfl)
      (pss_cons (ps_lock (ps_fld (pv 1) (pe_dct (hu_of hr) (own := [("key", 2)]) (g := (gName 2)) (tt := tYes) rfl sc_Market_copy.nd (pi_keys (pe_fld (pv 0) rfl)) (blkOk_by (own := [("key", 2)]) (N := (["self", "other", "key"] : List Str)) (sc := defScope s_Market_copy) (by decide +kernel)) (fun _ _ _ _ _ => (pg_name (i := 2) sc_Market_copy.nd rfl (by first | exact Or.inl rfl | exact Or.inr rfl))) (fun _ _ _ _ _ => pts_nil) (fun _ _ _ _ _ => (pv 2)) (fun _ _ _ _ _ => (pe_dget (hu_of hr) (pe_fldK (K := K) rfl (pv 0) rfl) (pv 2) (fun _ _ => rfl)))) rfl))
      (pss_one (ps_ret (pv 1)))))))), ?_⟩
  obtain ⟨dx, ai, ae, at', ad, h0, h1, h2, h3, h4, h5⟩ := id hM
  refine fun o do' n1 n2 n3 => ⟨o, do', rfl, upd_same, fun H1 b1 hM1 => ⟨rfl, ?_⟩⟩
  have s1 : Same H H1 := fun b u hb => b1 b u (ne_of_none hb n1) (by rw [upd_ne (ne_of_none hb n1), upd_ne (ne_of_none hb n2)]; exact hb)
  clear b1
  obtain ⟨dy, bi, be, bt, bd, k0, _, _, _, _⟩ := id hM1
  have noad : o ≠ ad := fun e => by
    rw [e, h4] at n1
    cases n1
  dsimp only
  refine nx_to ?_
  refine seq_to ⟨_, rfl, m, C_Market, dx, _, _, rfl, s1 _ _ h0, T.cl_Market, T.no_Market_insurers, mf_i, _, rfl, o, C_Market, dy, _, rfl, k0, T.cl_Market, T.no_Market_insurers, by show 4 < 1000; decide, ?_⟩
  rw [mf_pi]
  have s2 := same_put (o := .ins C_Market dy (mf ai be bt bd)) s1 n1
  have k2 : upd H1 o (.ins C_Market dy (mf ai be bt bd)) o = some (.ins C_Market dy (mf ai be bt bd)) := upd_same
  obtain ⟨H2, e2⟩ : ∃ H2, upd H1 o (.ins C_Market dy (mf ai be bt bd)) = H2 := ⟨_, rfl⟩
  rw [e2] at s2 k2 ⊢
  clear e2 k0 hM1
  refine seq_to ⟨_, rfl, m, C_Market, dx, _, _, rfl, s2 _ _ h0, T.cl_Market, T.no_Market_events, mf_e, _, rfl, o, C_Market, dy, _, rfl, k2, T.cl_Market, T.no_Market_events, by show 4 < 1000; decide, ?_⟩
  rw [mf_pe]
  have s3 := same_put (o := .ins C_Market dy (mf ai ae bt bd)) s2 n1
  have k3 : upd H2 o (.ins C_Market dy (mf ai ae bt bd)) o = some (.ins C_Market dy (mf ai ae bt bd)) := upd_same
  obtain ⟨H3, e3⟩ : ∃ H3, upd H2 o (.ins C_Market dy (mf ai ae bt bd)) = H3 := ⟨_, rfl⟩
  rw [e3] at s3 k3 ⊢
  clear e3 k2
  refine seq_to ⟨_, rfl, m, C_Market, dx, _, _, rfl, s3 _ _ h0, T.cl_Market, T.no_Market_treaties, mf_t, _, rfl, o, C_Market, dy, _, rfl, k3, T.cl_Market, T.no_Market_treaties, by show 4 < 1000; decide, ?_⟩
  rw [mf_pt]
  have s4 := same_put (o := .ins C_Market dy (mf ai ae at' bd)) s3 n1
  have k4 : upd H3 o (.ins C_Market dy (mf ai ae at' bd)) o = some (.ins C_Market dy (mf ai ae at' bd)) := upd_same
  obtain ⟨H4, e4⟩ : ∃ H4, upd H3 o (.ins C_Market dy (mf ai ae at' bd)) = H4 := ⟨_, rfl⟩
  rw [e4] at s4 k4 ⊢
  clear e4 k3
  have g4 := s4 _ _ h4
  have g0 := s4 _ _ h0
  have nam : m ≠ ad := fun e => by rw [e, g4] at g0; cases g0
  refine seq_to ⟨ad, _, g4, trivial, fun od => ?_⟩
  have hfz : upd H4 ad (.frz od (.dT (lkv M.los))) ad = some (.frz od (.dT (lkv M.los))) := upd_same
  have z0 : upd H4 ad (.frz od (.dT (lkv M.los))) m = some (.ins C_Market dx (mf ai ae at' ad)) := by
    rw [upd_ne nam]
    exact g0
  have zo : upd H4 ad (.frz od (.dT (lkv M.los))) o = some (.ins C_Market dy (mf ai ae at' bd)) := by
    rw [upd_ne noad]
    exact k4
  refine ⟨_, rfl, m, C_Market, dx, _, _, rfl, z0, T.cl_Market, T.no_Market_losses, mf_l, ad, od, rfl, .inr ⟨_, upd_same, fun D nD => ?_⟩⟩
  have nD2 : D ≠ ad := fun e => by rw [e, upd_same] at nD; cases nD
  refine dct_it (walk_keysT (kvs := lkv M.los)) (fun i H' => Same (upd H4 ad (.frz od (.dT (lkv M.los)))) H' ∧ H' D = some (.dT ((lkv M.los).take i))) ⟨same_new nD, upd_same⟩ (fun i H' _ w => w.1 _ _ hfz) ?_ ?_
  · rintro i x Ha Hb hi ⟨sm, hD⟩ ⟨rfl, k, v, kb, hk, rfl, hkb⟩
    generalize hw : wipe _ _ = w0
    have ew : w0 = [some (.ref m), some (.ref o), none] := by
      rw [← hw]
      kernel_rfl
    clear hw
    subst ew
    refine ⟨by kernel_rfl, _, rfl, _, rfl, m, C_Market, dx, _, _, rfl, sm _ _ z0, T.cl_Market, T.no_Market_losses, mf_l, _, rfl, ad, v, rfl, .inr ⟨_, k, kb, .inr ⟨od, sm _ _ hfz⟩, rfl, hkb, (lkv_is hnd hk).symm⟩, _, k, kb, rfl, hD, hkb, ?_, same_put sm nD, ?_⟩
    · rw [List.length_take]
      exact szl (by unfold lkv; rw [List.length_map]; omega)
    · rw [upd_same, putT_new (lkv_nd hnd hk), List.take_add_one, hk]
      rfl
  rintro H5 ⟨s5, hD⟩
  rw [List.take_of_length_le (Nat.le_refl _)] at hD
  have k5 := s5 _ _ zo
  refine ⟨_, rfl, o, C_Market, dy, _, rfl, k5, T.cl_Market, T.no_Market_losses, by show 4 < 1000; decide, ?_⟩
  rw [mf_pl]
  refine ⟨by rw [upd_ne (Ne.symm noad)]; exact s5 _ _ hfz, ?_⟩
  have nDo : D ≠ o := fun e => by
    rw [e, k5] at hD
    cases hD
  have sF : Same H (upd (upd H5 o (.ins C_Market dy (mf ai ae at' D))) ad (.dT (lkv M.los))) := fun b u hb => by
    by_cases c1 : b = ad
    · subst c1
      rw [h4] at hb
      rw [upd_same]
      exact hb
    · rw [upd_ne c1, upd_ne (ne_of_none hb n1)]
      refine s5 _ _ ?_
      rw [upd_ne c1]
      exact s4 _ _ hb
  refine ⟨_, rfl, q o _ sF n1 ⟨dy, ai, ae, at', D, ?_, same_sqt sF h1, same_sqt sF h2, TrsAt.same sF h3, ?_, h5.same sF⟩⟩
  · rw [upd_ne noad, upd_same]
  · rw [upd_ne nD2, upd_ne nDo]
    exact hD

theorem ok_Market__check_ends {f : Addr} {fd : FuncData} (D_Market__check_ends : Mth K C_Market "_check_ends" "Market._check_ends" s_Market__check_ends ["self", "treaties", "losses"] f fd) (T : Tx K mg C_SpiralError C_BadName C_BadCover C_BadPanel C_BadAmount C_NameTaken C_NoSuchName C_Twice C_OwnPanel C_TooMany C_NoEnd C_Market) {f_rounds_to_end : Addr} {fd_rounds_to_end : FuncData} (D_rounds_to_end : Dfn K mg "rounds_to_end" s_rounds_to_end ["insurers", "treaties", "direct"] f_rounds_to_end fd_rounds_to_end) (G_rounds_to_end : FnOk P w K mg base (L2.CX P w) (6) f_rounds_to_end fd_rounds_to_end ["insurers", "treaties", "direct"] (sp_rounds K C_NoEnd)) {f_direct_losses : Addr} {fd_direct_losses : FuncData} (D_direct_losses : Dfn K mg "direct_losses" s_direct_losses ["insurers", "losses", "event"] f_direct_losses fd_direct_losses) (G_direct_losses : FnOk P w K mg base CX0 (1) f_direct_losses fd_direct_losses ["insurers", "losses", "event"] (sp_direct_losses K)) :
    FnOk P w K mg base (L2.CX P w) (7) f fd ["self", "treaties", "losses"] (sp_check_ends K C_Market C_NoEnd) := by
  refine D_Market__check_ends.F.okX sc_Market__check_ends (fun vs H Q E h => ?_) (fun cdv A outer s H vs Q E hr h => ?_)
  · obtain ⟨m, M, at', ad, ts, L, rfl, hM, hT, hok, hL, he, h⟩ := h
    rfl
  obtain ⟨m, M, at', ad, ts, L, rfl, hM, hT, hok, hL, he, h⟩ := h
  refine ⟨_, (pss_one (ps_for (passes_of rfl) rfl (pi_tup (pe_fld (pv 0) rfl)) (pg_name (i := 3) sc_Market__check_ends.nd rfl (by first | exact Or.inl rfl | exact Or.inr rfl))
      (pss_one (ps_expr (pe_call G_rounds_to_end (hr.mono (by first | decide | omega)) rfl D_rounds_to_end.m D_rounds_to_end.F.kp D_rounds_to_end.b .nil (passes_call (takes_of rfl rfl rfl rfl) (fun _ _ _ _ h => h)) (pa_cons (pe_fld (pv 0) rfl) (pa_cons (pv 1) (pa_cons (pe_call G_direct_losses (hr.mono (by first | decide | omega)) rfl D_direct_losses.m D_direct_losses.F.kp D_direct_losses.b .nil pass0 (pa_cons (pe_fld (pv 0) rfl) (pa_cons (pv 2) (pa_cons (pv 3) pa_nil)))) pa_nil)))))))), ?_⟩
  obtain ⟨dx, ai, ae, at0, ad0, h0, h1, h2, h3, h4, h5⟩ := id hM
  have hfew := hok.few
  refine ⟨_, rfl, m, C_Market, dx, _, _, rfl, h0, T.cl_Market, T.no_Market_events, mf_e, ae, rfl, ⟨_, h2⟩, for_tup (K := K) (a := ae) (xs := M.evs.map V.str) (fun i σ H' => ∃ v : Option V, σ = [some (.ref m), some (.ref at'), some (.ref ad), v] ∧ Same H H' ∧ ∀ j, j < i → ∀ e, M.evs[j]? = some e → fate M.ins ts (directs M.ins L e) true)
    ⟨none, rfl, Same.refl _, fun j hj => absurd hj (Nat.not_lt_zero j)⟩ (fun i σ H' _ ⟨_, _, sm, _⟩ => same_sqt sm h2) ?_ ?_⟩
  · rintro i y σ H' hi ⟨v, rfl, sm, hf⟩
    obtain ⟨e, rfl, hev⟩ := of_at_str hi
    have g0 := sm _ _ h0
    have hdl : (directs M.ins L e).length = M.ins.length := List.length_map ..
    refine ⟨_, rfl, m, C_Market, dx, _, _, rfl, g0, T.cl_Market, T.no_Market_insurers, mf_i, _, rfl, _, rfl, m, C_Market, dx, _, _, rfl, g0, T.cl_Market, T.no_Market_insurers, mf_i, _, rfl, _, rfl, ai, ad, e, M.ins, L, rfl, same_sqt sm h1, hfew, .inl (sm _ _ hL), fun c H2 s2 nc hc => ?_⟩
    have s02 := sm.trans s2
    have step : fate M.ins ts (directs M.ins L e) true → ∀ H3, Same H2 H3 → ∃ v : Option V, ([some (.ref m), some (.ref at'), some (.ref ad), some (.str e)] : L2.St) = [some (.ref m), some (.ref at'), some (.ref ad), v] ∧ Same H H3 ∧ ∀ j, j < i + 1 → ∀ e, M.evs[j]? = some e → fate M.ins ts (directs M.ins L e) true := fun ht H3 s3 => by
      refine ⟨_, rfl, s02.trans s3, fun j hj e2 he2 => ?_⟩
      by_cases ej : j = i
      · subst ej
        rw [hev] at he2
        cases he2
        exact ht
      · exact hf j (by omega) e2 he2
    have bad : fate M.ins ts (directs M.ins L e) false → ∀ H3, Same H2 H3 → E (.ref C_NoEnd) none H3 := fun hb H3 s3 => by
      rcases h with ⟨ha, _⟩ | ⟨_, q⟩
      · exact (fate_one (ha e (List.mem_of_getElem? hev)) hb).elim
      · exact q H3 (s02.trans s3)
    refine ⟨ai, at', c, M.ins, ts, _, rfl, same_sqt s02 h1, TrsAt.same s02 hT, hok, SqT.of hc, hdl, fun k hk hr hfst => ⟨fun hb H3 s3 => ?_, fun hb p H3 s3 _ => ?_⟩, fun hn H3 s3 => ?_⟩
    · exact bad (.inl ⟨k, hk, hr, hfst, hb⟩) H3 s3
    · exact step ⟨k, hk, hr, hfst, hb⟩ H3 s3
    · exact bad (.inr hn) H3 s3
  · rintro σ H' ⟨v, rfl, sm, hf⟩
    rcases h with ⟨_, q⟩ | ⟨⟨e, he2, hb⟩, _⟩
    · exact q _ sm
    · obtain ⟨j, hj⟩ := List.getElem?_of_mem he2
      have hjl := (List.getElem?_eq_some_iff.mp hj).1
      exact (fate_one (hf j (by rw [List.length_map]; exact hjl) e hj) hb).elim

theorem ok_law_cell {f : Addr} {fd : FuncData} (D_law_cell : Dfn K mg "_law_cell" s_law_cell ["script", "k"] f fd) (T : Tx K mg C_SpiralError C_BadName C_BadCover C_BadPanel C_BadAmount C_NameTaken C_NoSuchName C_Twice C_OwnPanel C_TooMany C_NoEnd C_Market) :
    FnOk P w K mg base CX0 (1) f fd ["script", "k"] (sp_law_cell K) := by
  refine D_law_cell.F.ok sc_law_cell (fun vs H Q E h => ?_) (fun cdv A outer s H vs Q E hr h => ?_)
  · obtain ⟨a, ns, j, rfl, hS, q⟩ := h
    rfl
  obtain ⟨a, ns, j, rfl, hS, q⟩ := h
  refine ⟨_, (pss_cons (ps_if (pt_cmpR op_lt (pv 1) (pe_callB call_len_seq (by rfl) T.len PySem.boot_len (pa_cons (pv 0) pa_nil)) (nomark _))
      (pss_one (ps_ret (pe_ix (r := rIxL K) ix_list (pv 0) (pv 1) (fun _ _ => rfl))))
      pss_nil)
      (pss_one (ps_ret pe_int))), ?_⟩
  refine ⟨_, rfl, _, rfl, a, _, rfl, .inl hS, _, _, rfl, rfl, _, rfl, ?_⟩
  refine iteB (fun c => ?_) (fun c => ?_)
  · have c' : (j : Int) < ((ns.map V.int).length : Nat) := of_decide_eq_true c
    rw [List.length_map] at c'
    exact ⟨_, rfl, _, rfl, a, _, _, V.int (cell ns j), rfl, rfl, hS, atI_nat (at_map (cell_in (by omega))), q⟩
  · have c' : ¬ (j : Int) < ((ns.map V.int).length : Nat) := of_decide_eq_false c
    rw [List.length_map] at c'
    have e : cell ns j = 0 := cell_out (by omega)
    rw [e] at q
    exact q

theorem ok_law_draws {f : Addr} {fd : FuncData} (D_law_draws : Dfn K mg "_law_draws" s_law_draws ["cell", "count"] f fd) (T : Tx K mg C_SpiralError C_BadName C_BadCover C_BadPanel C_BadAmount C_NameTaken C_NoSuchName C_Twice C_OwnPanel C_TooMany C_NoEnd C_Market) :
    FnOk P w K mg base CX0 (1) f fd ["cell", "count"] (sp_dg_draws K) := by
  refine D_law_draws.F.ok sc_law_draws (fun vs H Q E h => ?_) (fun cdv A outer s H vs Q E hr h => ?_)
  · obtain ⟨c, n, rfl, hn, q⟩ := h
    rfl
  obtain ⟨c, n, rfl, hn, q⟩ := h
  refine ⟨_, (pss_cons (ps_set (i := 2) sc_law_draws.nd rfl (by first | exact Or.inl rfl | exact Or.inr rfl) (pe_lst pa_nil))
      (pss_cons (ps_set (i := 3) sc_law_draws.nd rfl (by first | exact Or.inl rfl | exact Or.inr rfl) (pe_callTy call_int1 (by rfl) T.int (by decide +kernel) (pa_cons (pv 0) pa_nil)))
      (pss_cons (ps_for PassesOwn.never rfl (pi_range1 (by rfl) T.range (pa_cons (pv 1) pa_nil)) (pg_name (i := 4) sc_law_draws.nd rfl (by first | exact Or.inl rfl | exact Or.inr rfl))
      (pss_cons (ps_set (i := 5) sc_law_draws.nd rfl (by first | exact Or.inl rfl | exact Or.inr rfl) (pe_op op_mod (pe_callTy call_int1 (by rfl) T.int (by decide +kernel) (pa_cons (pe_op op_add (pe_op op_add (pe_op op_mul (pv 0) pe_int) (pe_op op_mul (pv 4) pe_int)) pe_int) pa_nil)) pe_int))
      (pss_one (ps_if (pt_cmpR op_ge (pv 0) (pe_op op_pow pe_int pe_int) (nomark _))
      (pss_cons (ps_expr (pe_bm PySem.F.plainAttrs_list PySem.F.slot_list_append PySem.F.type_list_append mt_append (pv 2) (pa_cons (pe_op op_mod (pv 3) pe_int) pa_nil)))
      (pss_one (ps_set (i := 3) sc_law_draws.nd rfl (by first | exact Or.inl rfl | exact Or.inr rfl) (pe_op op_fdiv (pv 3) pe_int))))
      (pss_one (ps_expr (pe_bm PySem.F.plainAttrs_list PySem.F.slot_list_append PySem.F.type_list_append mt_append (pv 2) (pa_cons (pe_op op_fdiv (pe_op op_mod (pe_callTy call_int1 (by rfl) T.int (by decide +kernel) (pa_cons (pe_op op_add (pe_op op_mul (pv 5) (pv 5)) (pe_op op_mul (pv 5) pe_int)) pa_nil)) pe_int) pe_int) pa_nil))))))))
      (pss_one (ps_ret (pv 2)))))), ?_⟩
  refine ⟨Nat.zero_le _, fun o no => ?_⟩
  dsimp only
  refine nx_to ?_
  refine seq_to ⟨_, rfl, .inl ⟨_, rfl, ?_⟩⟩
  refine seq_to ⟨_, rfl, (n : Int), rfl, by omega, by omega, ?_⟩
  rw [show (n : Int).toNat = n by omega]
  have pos : ∀ {ds : List Int} {z : Int}, (∀ x ∈ ds, 0 ≤ x) → 0 ≤ z → ∀ x ∈ ds ++ [z], 0 ≤ x := fun h hz x hx => by
    rcases List.mem_append.mp hx with hx | hx
    · exact h x hx
    · rw [List.mem_singleton.mp hx]
      exact hz
  refine for_range (lo := 0) (n := n) (fun i σ H' => ∃ (r : Int) (ds : List Int) (kv mv : Option V), σ = [some (.int c), some (.int (n : Int)), some (.ref o), some (.int r), kv, mv] ∧ Same H H' ∧ H' o = some (.lst (ds.map V.int)) ∧ ds.length = i ∧ ∀ x ∈ ds, 0 ≤ x) ⟨c, [], none, none, rfl, same_new no, upd_same, rfl, fun x hx => (nomatch hx)⟩ ?_ ?_
  · rintro i σ H' hi ⟨r, ds, kv, mv, rfl, sm, ho, hl, hb⟩
    have ea : ∀ z : Int, ds.map V.int ++ [V.int z] = (ds ++ [z]).map V.int := fun z => by rw [List.map_append]; rfl
    have hz : (ds.map V.int).length < sizeLine := by rw [List.length_map]; exact szl (by omega)
    refine ⟨_, rfl, _, _, rfl, rfl, .inr (by decide), _, rfl, _, _, rfl, rfl, .inr (by decide), _, _, rfl, rfl, _, _, rfl, rfl, .inl ⟨_, rfl, _, _, rfl, rfl, (by show (0 : Int) < 2147483647; decide), ?_⟩⟩
    generalize hx : ((c * 48271 + (0 + (i : Int)) * 69621 + 1) % 2147483647) = x
    have x0 : 0 ≤ x ∧ x < 2147483647 := by omega
    refine ⟨_, rfl, _, _, rfl, rfl, ⟨by decide, by decide, by decide⟩, _, _, rfl, rfl, _, rfl, ?_⟩
    refine iteB (fun c2 => ?_) (fun c2 => ?_)
    · refine ⟨_, rfl, .inl ⟨rfl, _, SqL.of ho⟩, _, rfl, _, _, rfl, rfl, (by show (0 : Int) < 1009; decide), o, _, _, rfl, rfl, ho, hz, ?_⟩
      refine ⟨_, rfl, _, _, rfl, rfl, ⟨by decide, by decide⟩, ?_⟩
      exact ⟨r / 1009, ds ++ [r % 1009], _, _, rfl, same_put sm no, by rw [upd_same, ea], by rw [List.length_append, hl]; rfl, pos hb (by omega)⟩
    · refine ⟨_, rfl, .inl ⟨rfl, _, SqL.of ho⟩, _, rfl, _, rfl, _, _, rfl, rfl, .inl (by constructor <;> omega), _, rfl, _, _, rfl, rfl, .inr (by decide), _, _, rfl, rfl, .inl ⟨_, rfl, _, _, rfl, rfl, (by show (0 : Int) < 2147483399; decide), _, _, rfl, rfl, ⟨by decide, by decide⟩, o, _, _, rfl, rfl, ho, hz, ?_⟩⟩
      refine ⟨r, ds ++ [_], _, _, rfl, same_put sm no, by rw [upd_same, ea], by rw [List.length_append, hl]; rfl, pos hb ?_⟩
      exact Int.ediv_nonneg (Int.emod_nonneg _ (by decide)) (by decide)
  · rintro σ H' ⟨r, ds, kv, mv, rfl, sm, ho, hl, hb⟩
    exact ⟨_, rfl, q o H' ds sm no ho hl hb⟩

theorem ok_law_cover {f : Addr} {fd : FuncData} (D_law_cover : Dfn K mg "_law_cover" s_law_cover ["n", "at"] f fd) (T : Tx K mg C_SpiralError C_BadName C_BadCover C_BadPanel C_BadAmount C_NameTaken C_NoSuchName C_Twice C_OwnPanel C_TooMany C_NoEnd C_Market) :
    FnOk P w K mg base CX0 (1) f fd ["n", "at"] (sp_dg_cover K) := by
  refine D_law_cover.F.ok sc_law_cover (fun vs H Q E h => ?_) (fun cdv A outer s H vs Q E hr h => ?_)
  · obtain ⟨a, ns, j, rfl, hS, hl, hn, q⟩ := h
    rfl
  obtain ⟨a, ns, j, rfl, hS, hl, hn, q⟩ := h
  refine ⟨_, (pss_cons (ps_if (pt_cmpR op_eq (pe_op op_mod (pe_ix (r := rIxL K) ix_list (pv 0) (pe_op op_mod (pv 1) (pe_callB call_len_seq (by rfl) T.len PySem.boot_len (pa_cons (pv 0) pa_nil))) (fun _ _ => rfl)) pe_int) pe_int (nomark _))
      (pss_one (ps_ret (pe_tup (pa_cons pe_str (pa_cons (pe_op op_add pe_int (pe_op op_mul pe_int (pe_op op_mod (pe_ix (r := rIxL K) ix_list (pv 0) (pe_op op_mod (pe_op op_add (pv 1) pe_int) (pe_callB call_len_seq (by rfl) T.len PySem.boot_len (pa_cons (pv 0) pa_nil))) (fun _ _ => rfl)) pe_int))) pa_nil)))))
      pss_nil)
      (pss_one (ps_ret (pe_tup (pa_cons pe_str (pa_cons (pe_op op_mod (pe_ix (r := rIxL K) ix_list (pv 0) (pe_op op_mod (pe_op op_add (pv 1) pe_int) (pe_callB call_len_seq (by rfl) T.len PySem.boot_len (pa_cons (pv 0) pa_nil))) (fun _ _ => rfl)) pe_int) (pa_cons (pe_op op_add (pe_op op_mod (pe_ix (r := rIxL K) ix_list (pv 0) (pe_op op_mod (pe_op op_add (pv 1) pe_int) (pe_callB call_len_seq (by rfl) T.len PySem.boot_len (pa_cons (pv 0) pa_nil))) (fun _ _ => rfl)) pe_int) pe_int) pa_nil))))))), ?_⟩
  have pl : (0 : Int) < (((ns.map V.int).length : Nat) : Int) := by rw [List.length_map]; omega
  obtain ⟨v0, v0n, at0⟩ := dg_at hl hn (j : Int)
  obtain ⟨v1, v1n, at1⟩ := dg_at hl hn ((j : Int) + 1)
  obtain ⟨v2, v2n, at2⟩ := dg_at hl hn ((j : Int) + 2)
  refine ⟨_, rfl, _, rfl, _, rfl, a, _, rfl, .inl hS, _, _, rfl, rfl, pl, a, _, _, _, rfl, rfl, hS, at0, _, _, rfl, rfl, (by show (0 : Int) < 2; decide), rfl, _, rfl, ?_⟩
  refine iteB (fun c2 => ?_) (fun c2 => ?_)
  · refine ⟨_, rfl, _, rfl, _, _, rfl, rfl, _, rfl, a, _, rfl, .inl hS, _, _, rfl, rfl, pl, a, _, _, _, rfl, rfl, hS, at1, _, _, rfl, rfl, (by show (0 : Int) < 6; decide), _, _, rfl, rfl, .inl (by decide), _, _, rfl, rfl, sz (by show 2 ≤ 100000; decide), fun t nt => ?_⟩
    refine q t (.share _) _ (same_new nt) nt upd_same ?_
    show 1 ≤ 100 + 50 * (v1 % 6) ∧ 100 + 50 * (v1 % 6) ≤ 1000
    omega
  · refine ⟨_, rfl, _, rfl, _, _, rfl, rfl, _, rfl, a, _, rfl, .inl hS, _, _, rfl, rfl, pl, a, _, _, _, rfl, rfl, hS, at1, _, _, rfl, rfl, (by show (0 : Int) < 40; decide), _, rfl, _, rfl, _, _, rfl, rfl, _, rfl, a, _, rfl, .inl hS, _, _, rfl, rfl, pl, a, _, _, _, rfl, rfl, hS, at2, _, _, rfl, rfl, (by show (0 : Int) < 30; decide), _, _, rfl, rfl, sz (by show 3 ≤ 100000; decide), fun t nt => ?_⟩
    refine q t (.layer _ _) _ (same_new nt) nt upd_same ?_
    refine ⟨?_, ?_, ?_, ?_⟩
    all_goals omega

theorem ok_law_panel {f : Addr} {fd : FuncData} (D_law_panel : Dfn K mg "_law_panel" s_law_panel ["n", "at", "names"] f fd) (T : Tx K mg C_SpiralError C_BadName C_BadCover C_BadPanel C_BadAmount C_NameTaken C_NoSuchName C_Twice C_OwnPanel C_TooMany C_NoEnd C_Market) :
    FnOk P w K mg base CX0 (1) f fd ["n", "at", "names"] (sp_dg_panel K) := by
  refine D_law_panel.F.ok sc_law_panel (fun vs H Q E h => ?_) (fun cdv A outer s H vs Q E hr h => ?_)
  · obtain ⟨a, b, ns, j, c, ins, os, rfl, hS, hl, hn, hB, hnd, hlen, hos, hnm, q⟩ := h
    rfl
  obtain ⟨a, b, ns, j, c, ins, os, rfl, hS, hl, hn, hB, hnd, hlen, hos, hnm, q⟩ := h
  refine ⟨_, (pss_cons (ps_set (i := 3) sc_law_panel.nd rfl (by first | exact Or.inl rfl | exact Or.inr rfl) (pe_lst pa_nil))
      (pss_cons (ps_for PassesOwn.never rfl (pi_range1 (by rfl) T.range (pa_cons (pe_callB call_len_seq (by rfl) T.len PySem.boot_len (pa_cons (pv 2) pa_nil)) pa_nil)) (pg_name (i := 4) sc_law_panel.nd rfl (by first | exact Or.inl rfl | exact Or.inr rfl))
      (pss_one (ps_if (pt_cmpR op_gt (pe_op op_mod (pe_ix (r := rIxL K) ix_list (pv 0) (pe_op op_mod (pe_op op_add (pv 1) (pv 4)) (pe_callB call_len_seq (by rfl) T.len PySem.boot_len (pa_cons (pv 0) pa_nil))) (fun _ _ => rfl)) pe_int) pe_int (nomark _))
      (pss_one (ps_expr (pe_bm PySem.F.plainAttrs_list PySem.F.slot_list_append PySem.F.type_list_append mt_append (pv 3) (pa_cons (pe_tup (pa_cons (pe_ix (r := rIxL K) ix_list (pv 2) (pv 4) (fun _ _ => rfl)) (pa_cons (pe_op op_add (pe_op op_mod (pe_ix (r := rIxL K) ix_list (pv 0) (pe_op op_mod (pe_op op_add (pe_op op_add (pv 1) (pv 4)) pe_int) (pe_callB call_len_seq (by rfl) T.len PySem.boot_len (pa_cons (pv 0) pa_nil))) (fun _ _ => rfl)) pe_int) pe_int) pa_nil))) pa_nil))))
      pss_nil)))
      (pss_cons (ps_if (PW.pt (pw_or (pt_cmpR op_eq (pe_op op_mod (pe_ix (r := rIxL K) ix_list (pv 0) (pe_op op_mod (pe_op op_add (pv 1) pe_int) (pe_callB call_len_seq (by rfl) T.len PySem.boot_len (pa_cons (pv 0) pa_nil))) (fun _ _ => rfl)) pe_int) pe_int (nomark _)) (pw_or1 (pt_cmpR op_eq (pe_callB call_len_seq (by rfl) T.len PySem.boot_len (pa_cons (pv 3) pa_nil)) pe_int (nomark _)))))
      (pss_one (ps_expr (pe_bm PySem.F.plainAttrs_list PySem.F.slot_list_append PySem.F.type_list_append mt_append (pv 3) (pa_cons (pe_tup (pa_cons pe_non (pa_cons (pe_op op_add (pe_op op_mod (pe_ix (r := rIxL K) ix_list (pv 0) (pe_op op_mod (pe_op op_add (pv 1) pe_int) (pe_callB call_len_seq (by rfl) T.len PySem.boot_len (pa_cons (pv 0) pa_nil))) (fun _ _ => rfl)) pe_int) pe_int) pa_nil))) pa_nil))))
      pss_nil)
      (pss_one (ps_ret (pe_callTy call_tuple_of (by rfl) T.tuple (by decide +kernel) (pa_cons (pv 3) pa_nil))))))), ?_⟩
  refine ⟨Nat.zero_le _, fun D nD => ?_⟩
  have s0 := same_new (o := .lst []) nD
  have hD0 : upd H D (.lst []) D = some (.lst []) := upd_same
  obtain ⟨H0, h0⟩ : ∃ H0, upd H D (.lst []) = H0 := ⟨_, rfl⟩
  rw [h0] at s0 hD0 ⊢
  clear h0
  dsimp only
  refine nx_to ?_
  have pl : (0 : Int) < (((ns.map V.int).length : Nat) : Int) := by rw [List.length_map]; omega
  have kN : ∀ {H' : Hp}, Same H H' → SqL K H' a (ns.map V.int) := fun e => e.seq hS
  have kB : ∀ {H' : Hp}, Same H H' → SqL K H' b (os.map V.str) := fun e => e.seq hB
  refine seq_to ⟨_, rfl, b, _, rfl, .inl (kB s0), ((os.length : Nat) : Int), by rw [List.length_map], by omega, by omega, ?_⟩
  rw [show ((os.length : Nat) : Int).toNat = os.length by omega]
  refine for_range (lo := 0) (n := os.length) (fun i σ H' => ∃ (ys : List V) (ps : List (Option Str × Int)) (kv : Option V), σ = [some (.ref a), some (.int (j : Int)), some (.ref b), some (.ref D), kv] ∧ Same H H' ∧ H' D = some (.lst ys) ∧ AllAt (EntAt K) H' ys ps ∧ DgSt os i ps)
    ⟨_, _, _, rfl, s0, hD0, AllAt.nil, ⟨List.nil_sublist _, fun e he => (nomatch he)⟩⟩ ?_ ?_
  · rintro i σ H' hi ⟨ys, ps, kv, rfl, sm, hD, hA, st⟩
    obtain ⟨z, hz⟩ : ∃ z, os[i]? = some z := ⟨_, List.getElem?_eq_getElem hi⟩
    obtain ⟨v0, v0n, at0⟩ := dg_at hl hn ((j : Int) + (0 + (i : Int)))
    obtain ⟨v1, v1n, at1⟩ := dg_at hl hn ((j : Int) + (0 + (i : Int)) + 1)
    refine ⟨_, rfl, _, rfl, _, rfl, _, _, rfl, rfl, _, rfl, a, _, rfl, .inl (kN sm), _, _, rfl, rfl, pl, a, _, _, _, rfl, rfl, kN sm, at0, _, _, rfl, rfl, (by show (0 : Int) < 3; decide), _, _, rfl, rfl, _, rfl, ?_⟩
    have la := hA.1
    have ls : ps.length ≤ os.length := by
      have h1 := st.sub.length_le
      rw [List.length_map, List.length_take] at h1
      have h2 : (pnames ps).length = ps.length := List.length_map ..
      omega
    refine iteB (fun c2 => ?_) (fun c2 => ?_)
    · refine ⟨_, rfl, .inl ⟨rfl, _, SqL.of hD⟩, _, rfl, _, rfl, b, _, _, .str z, rfl, rfl, kB sm, by rw [zi]; exact atI_nat (by rw [List.getElem?_map, hz]; rfl), _, rfl, _, rfl, _, rfl, _, _, rfl, rfl, _, _, rfl, rfl, _, rfl, a, _, rfl, .inl (kN sm), _, _, rfl, rfl, pl, a, _, _, _, rfl, rfl, kN sm, at1, _, _, rfl, rfl, (by show (0 : Int) < 4; decide), _, _, rfl, rfl, sz (by show 2 ≤ 100000; decide), fun t nt => ?_⟩
      have s9 := same_new (o := .tup [.str z, .int (v1 % 4 + 1)]) nt
      have hD9 := s9 _ _ hD
      have hA9 : AllAt (EntAt K) (upd H' t (.tup [.str z, .int (v1 % 4 + 1)])) (ys ++ [.ref t]) (ps ++ [(some z, v1 % 4 + 1)]) := AllAt.add (AllAt.same (R := EntAt K) (fun e r => ent_same e r) s9 hA) ⟨t, rfl, SqT.of upd_same⟩
      exact ⟨D, _, _, rfl, rfl, hD9, szl (by omega), _, _, _, rfl, same_put (sm.trans s9) nD, upd_same, AllAt.imp (S := EntAt K) hA9 fun y e r => ent_put hD9 r, st.add hz (by omega) (by omega)⟩
    · exact ⟨_, _, _, rfl, sm, hD, hA, st.up hz⟩
  rintro σ H1 ⟨ys, ps, kv, rfl, s1, hD, hA, st⟩
  dsimp only
  obtain ⟨v7, v7n, at7⟩ := dg_at hl hn ((j : Int) + 7)
  obtain ⟨v8, v8n, at8⟩ := dg_at hl hn ((j : Int) + 8)
  have la := hA.1
  have ls : ps.length ≤ os.length := by
    have h1 := st.sub.length_le
    rw [List.length_map, List.length_take] at h1
    have h2 : (pnames ps).length = ps.length := List.length_map ..
    omega
  have fin : ∀ {H' : Hp} {zs : List V} {qs : List (Option Str × Int)}, Same H H' → H' D = some (.lst zs) → AllAt (EntAt K) H' zs qs → DrawnPan ins c qs → ∀ t, H' t = none → Q (.ref t) (upd H' t (.tup zs)) := fun {H' zs qs} sm hD hA hp t nt => by
    have s6 := same_new (o := .tup zs) nt
    exact q t qs _ (sm.trans s6) ⟨t, zs, rfl, SqT.of upd_same, hA.1, (AllAt.same (R := EntAt K) (fun e r => ent_same e r) s6 hA).2⟩ hp
  refine with_rest (t := tIfS _ _ _) (u := tRet _) (fun σ' H' => ∃ (zs : List V) (qs : List (Option Str × Int)) (kw : Option V), σ' = [some (.ref a), some (.int (j : Int)), some (.ref b), some (.ref D), kw] ∧ Same H H' ∧ H' D = some (.lst zs) ∧ AllAt (EntAt K) H' zs qs ∧ DrawnPan ins c qs) ?_ (fun R0 => ?_)
  · rintro σ H2 ⟨zs, qs, kw, rfl, s2, hD2, hA2, hp⟩
    exact ⟨_, rfl, D, _, rfl, .inl ⟨SqL.of hD2, fun t nt => fin s2 hD2 hA2 hp t nt⟩⟩
  refine ⟨_, rfl, _, rfl, _, _, rfl, rfl, _, rfl, a, _, rfl, .inl (kN s1), _, _, rfl, rfl, pl, a, _, _, _, rfl, rfl, kN s1, at7, _, _, rfl, rfl, (by show (0 : Int) < 3; decide), rfl, _, rfl, ?_⟩
  refine iteB (fun c2 => iteT ?_) (fun c2 => ⟨_, rfl, D, _, rfl, .inl (SqL.of hD), rfl, _, rfl, iteB (fun c3 => ?_) (fun c3 => ?_)⟩)
  · refine ⟨_, rfl, .inl ⟨rfl, _, SqL.of hD⟩, _, rfl, _, rfl, _, _, rfl, rfl, _, rfl, a, _, rfl, .inl (kN s1), _, _, rfl, rfl, pl, a, _, _, _, rfl, rfl, kN s1, at8, _, _, rfl, rfl, (by show (0 : Int) < 4; decide), _, _, rfl, rfl, sz (by show 2 ≤ 100000; decide), fun t nt => ?_⟩
    have s9 := same_new (o := .tup [.non, .int (v8 % 4 + 1)]) nt
    have hD9 := s9 _ _ hD
    have hA9 : AllAt (EntAt K) (upd H1 t (.tup [.non, .int (v8 % 4 + 1)])) (ys ++ [.ref t]) (ps ++ [(none, v8 % 4 + 1)]) := AllAt.add (AllAt.same (R := EntAt K) (fun e r => ent_same e r) s9 hA) ⟨t, rfl, SqT.of upd_same⟩
    exact ⟨D, _, _, rfl, rfl, hD9, szl (by omega), R0 _ _ ⟨_, _, kv, rfl, same_put (s1.trans s9) nD, upd_same, AllAt.imp (S := EntAt K) hA9 fun y e r => ent_put hD9 r, st.fin hnd hlen hos hnm (.inr ⟨v8 % 4 + 1, by omega, by omega, rfl⟩) (by rw [List.length_append]; exact Nat.le_add_left _ _)⟩⟩
  · refine ⟨_, rfl, .inl ⟨rfl, _, SqL.of hD⟩, _, rfl, _, rfl, _, _, rfl, rfl, _, rfl, a, _, rfl, .inl (kN s1), _, _, rfl, rfl, pl, a, _, _, _, rfl, rfl, kN s1, at8, _, _, rfl, rfl, (by show (0 : Int) < 4; decide), _, _, rfl, rfl, sz (by show 2 ≤ 100000; decide), fun t nt => ?_⟩
    have s9 := same_new (o := .tup [.non, .int (v8 % 4 + 1)]) nt
    have hD9 := s9 _ _ hD
    have hA9 : AllAt (EntAt K) (upd H1 t (.tup [.non, .int (v8 % 4 + 1)])) (ys ++ [.ref t]) (ps ++ [(none, v8 % 4 + 1)]) := AllAt.add (AllAt.same (R := EntAt K) (fun e r => ent_same e r) s9 hA) ⟨t, rfl, SqT.of upd_same⟩
    exact ⟨D, _, _, rfl, rfl, hD9, szl (by omega), R0 _ _ ⟨_, _, kv, rfl, same_put (s1.trans s9) nD, upd_same, AllAt.imp (S := EntAt K) hA9 fun y e r => ent_put hD9 r, st.fin hnd hlen hos hnm (.inr ⟨v8 % 4 + 1, by omega, by omega, rfl⟩) (by rw [List.length_append]; exact Nat.le_add_left _ _)⟩⟩
  · have c3' : ¬ V.int (((ys.length : Nat) : Int)) = V.int 0 := of_decide_eq_false c3
    refine R0 _ _ ⟨ys, ps, kv, rfl, s1, hD, hA, st.fin hnd hlen hos hnm (.inl rfl) ?_⟩
    rcases Nat.eq_zero_or_pos ps.length with e | e
    · rw [la, e] at c3'
      exact absurd rfl c3'
    · exact e

theorem ok_law_filled {f : Addr} {fd : FuncData} (D_law_filled : Dfn K mg "_law_filled" s_law_filled ["market", "cell"] f fd) (T : Tx K mg C_SpiralError C_BadName C_BadCover C_BadPanel C_BadAmount C_NameTaken C_NoSuchName C_Twice C_OwnPanel C_TooMany C_NoEnd C_Market) {f_law_draws : Addr} {fd_law_draws : FuncData} (D_law_draws : Dfn K mg "_law_draws" s_law_draws ["cell", "count"] f_law_draws fd_law_draws) (G_law_draws : FnOk P w K mg base CX0 (1) f_law_draws fd_law_draws ["cell", "count"] (sp_dg_draws K)) {f_Market_add_insurer : Addr} {fd_Market_add_insurer : FuncData} (D_Market_add_insurer : Mth K C_Market "add_insurer" "Market.add_insurer" s_Market_add_insurer ["self", "name"] f_Market_add_insurer fd_Market_add_insurer) (G_Market_add_insurer : FnOk P w K mg base (L2.CX P w) (4) f_Market_add_insurer fd_Market_add_insurer ["self", "name"] (sp_add_insurer K C_Market C_BadName C_TooMany C_NameTaken)) {f_Market_add_event : Addr} {fd_Market_add_event : FuncData} (D_Market_add_event : Mth K C_Market "add_event" "Market.add_event" s_Market_add_event ["self", "name"] f_Market_add_event fd_Market_add_event) (G_Market_add_event : FnOk P w K mg base (L2.CX P w) (4) f_Market_add_event fd_Market_add_event ["self", "name"] (sp_add_event K C_Market C_BadName C_TooMany C_NameTaken)) {f_Market_add_treaty : Addr} {fd_Market_add_treaty : FuncData} (D_Market_add_treaty : Mth K C_Market "add_treaty" "Market.add_treaty" s_Market_add_treaty ["self", "cedent", "cover", "panel"] f_Market_add_treaty fd_Market_add_treaty) (G_Market_add_treaty : FnOk P w K mg base (L2.CX P w) (8) f_Market_add_treaty fd_Market_add_treaty ["self", "cedent", "cover", "panel"] (sp_add_treaty K C_Market C_BadName C_BadCover C_BadPanel C_NoSuchName C_Twice C_OwnPanel C_TooMany C_NoEnd)) {f_law_cover : Addr} {fd_law_cover : FuncData} (D_law_cover : Dfn K mg "_law_cover" s_law_cover ["n", "at"] f_law_cover fd_law_cover) (G_law_cover : FnOk P w K mg base CX0 (1) f_law_cover fd_law_cover ["n", "at"] (sp_dg_cover K)) {f_law_panel : Addr} {fd_law_panel : FuncData} (D_law_panel : Dfn K mg "_law_panel" s_law_panel ["n", "at", "names"] f_law_panel fd_law_panel) (G_law_panel : FnOk P w K mg base CX0 (1) f_law_panel fd_law_panel ["n", "at", "names"] (sp_dg_panel K)) {f_law_loss : Addr} {fd_law_loss : FuncData} (D_law_loss : Dfn K mg "_law_loss" s_law_loss ["market", "digit"] f_law_loss fd_law_loss) (G_law_loss : FnOk P w K mg base CX0 (9) f_law_loss fd_law_loss ["market", "digit"] (sp_dg_loss K C_Market)) :
    FnOk P w K mg base CX0 (10) f fd ["market", "cell"] (sp_dg_filled K C_Market) := by
  refine D_law_filled.F.ok sc_law_filled (fun vs H Q E h => ?_) (fun cdv A outer s H vs Q E hr h => ?_)
  · obtain ⟨m, c, rfl, hM, q⟩ := h
    rfl
  obtain ⟨m, c, rfl, hM, q⟩ := h
  refine ⟨_, (pss_cons (ps_set (i := 2) sc_law_filled.nd rfl (by first | exact Or.inl rfl | exact Or.inr rfl) (pe_call G_law_draws (hr.mono (by first | decide | omega)) rfl D_law_draws.m D_law_draws.F.kp D_law_draws.b .nil pass0 (pa_cons (pe_callTy call_int1 (by rfl) T.int (by decide +kernel) (pa_cons (pv 1) pa_nil)) (pa_cons pe_int pa_nil))))
      (pss_cons (ps_for PassesOwn.never rfl (pi_tup (pe_slice sl_tupA (pe_tup (pa_cons pe_str (pa_cons pe_str (pa_cons pe_str (pa_cons pe_str pa_nil))))) po_none (po_some (pe_op op_add (pe_op op_mod (pe_ix (r := rIxL K) ix_list (pv 2) pe_int (fun _ _ => rfl)) pe_int) pe_int)))) (pg_name (i := 3) sc_law_filled.nd rfl (by first | exact Or.inl rfl | exact Or.inr rfl))
      (pss_one (ps_expr (pe_meth (pv 0) T.cl_Market D_Market_add_insurer.m G_Market_add_insurer (hr.mono (by first | decide | omega)) D_Market_add_insurer.b .nil passL (pa_cons (pv 3) pa_nil)))))
      (pss_cons (ps_for PassesOwn.never rfl (pi_tup (pe_slice sl_tupA (pe_tup (pa_cons pe_str (pa_cons pe_str pa_nil))) po_none (po_some (pe_op op_add (pe_op op_mod (pe_ix (r := rIxL K) ix_list (pv 2) pe_int (fun _ _ => rfl)) pe_int) pe_int)))) (pg_name (i := 4) sc_law_filled.nd rfl (by first | exact Or.inl rfl | exact Or.inr rfl))
      (pss_one (ps_expr (pe_meth (pv 0) T.cl_Market D_Market_add_event.m G_Market_add_event (hr.mono (by first | decide | omega)) D_Market_add_event.b .nil passL (pa_cons (pv 4) pa_nil)))))
      (pss_cons (ps_for PassesOwn.never rfl (pi_range1 (by rfl) T.range (pa_cons (pe_op op_mod (pe_ix (r := rIxL K) ix_list (pv 2) pe_int (fun _ _ => rfl)) pe_int) pa_nil)) (pg_name (i := 5) sc_law_filled.nd rfl (by first | exact Or.inl rfl | exact Or.inr rfl))
      (pss_cons (ps_set (i := 6) sc_law_filled.nd rfl (by first | exact Or.inl rfl | exact Or.inr rfl) (pe_ix (r := rIxT K) ix_tup (pe_fld (pv 0) rfl) (pe_op op_mod (pe_ix (r := rIxL K) ix_list (pv 2) (pe_op op_add pe_int (pv 5)) (fun _ _ => rfl)) (pe_callB call_len_seq (by rfl) T.len PySem.boot_len (pa_cons (pe_fld (pv 0) rfl) pa_nil))) (fun _ _ => rfl)))
      (pss_cons (ps_setLc (i := 7) (own := [("name", 3)]) (g := (gName 3)) rfl sc_law_filled.nd rfl rfl (sw_true rfl rfl rfl (by decide +kernel)) (pi_tup (pe_fld (pv 0) rfl)) (blkOk_by (own := [("name", 3)]) (N := (["market", "cell", "n", "name", "event", "k", "cedent", "others"] : List Str)) (sc := defScope s_law_filled) (by decide +kernel)) (fun _ _ _ _ _ => (pg_name (i := 3) sc_law_filled.nd rfl (by first | exact Or.inl rfl | exact Or.inr rfl))) (fun _ _ _ _ _ => (pts_one (pt_cmpR op_ne (pv 3) (pv 6) (nomark _)))) (fun _ _ _ _ _ => (pv 3)))
      (pss_one (ps_try_only rfl rfl ⟨rfl, by decide, .inl T.exc_NoEnd.g⟩ takes0 (fun W pn xe tk _ => (pss_one (ps_expr (by exact (pe_methT (pv 0) T.cl_Market D_Market_add_treaty.m G_Market_add_treaty (hr.mono (by first | decide | omega)) D_Market_add_treaty.b (fun σ => passAt tk σ) (by exact (pa_cons (pv 6) (pa_cons (pe_call G_law_cover (hr.mono (by first | decide | omega)) rfl D_law_cover.m D_law_cover.F.kp D_law_cover.b .nil pass0 (pa_cons (pv 2) (pa_cons (pe_op op_add pe_int (pe_op op_mul pe_int (pv 5))) pa_nil))) (pa_cons (pe_call G_law_panel (hr.mono (by first | decide | omega)) rfl D_law_panel.m D_law_panel.F.kp D_law_panel.b .nil pass0 (pa_cons (pv 2) (pa_cons (pe_op op_add pe_int (pe_op op_mul pe_int (pv 5))) (pa_cons (pv 7) pa_nil)))) pa_nil))))))))) (fun a oe cls d pn hz hf => (pss_one ps_continue)))))))
      (pss_cons (ps_for PassesOwn.never rfl (pi_range1 (by rfl) T.range (pa_cons (pe_op op_mod (pe_ix (r := rIxL K) ix_list (pv 2) pe_int (fun _ _ => rfl)) pe_int) pa_nil)) (pg_name (i := 5) sc_law_filled.nd rfl (by first | exact Or.inl rfl | exact Or.inr rfl))
      (pss_one (ps_expr (pe_call G_law_loss (hr.mono (by first | decide | omega)) rfl D_law_loss.m D_law_loss.F.kp D_law_loss.b .nil pass0 (pa_cons (pv 0) (pa_cons (pe_op op_add (pe_ix (r := rIxL K) ix_list (pv 2) (pe_op op_add pe_int (pv 5)) (fun _ _ => rfl)) (pe_op op_mul pe_int (pe_ix (r := rIxL K) ix_list (pv 2) pe_int (fun _ _ => rfl)))) pa_nil))))))
      (pss_one (ps_ret (pv 0)))))))), ?_⟩
  refine seq_to (asg_to ⟨_, rfl, .inl ⟨_, rfl, c, 50, rfl, by decide, fun o H1 ns s1 no hN hl hn => ?_⟩⟩)
  dsimp only
  refine nx_to ?_
  have dg : ∀ j, j < 50 → ∃ v, 0 ≤ v ∧ atI (ns.map V.int) (j : Nat) = some (.int v) := fun j hj => ⟨ns[j]'(by omega), hn _ (List.getElem_mem _), atI_nat (at_map (List.getElem?_eq_getElem (by omega)))⟩
  have hM1 := MktAt.same s1 hM
  have hmo : ∃ dx fs, H m = some (.ins C_Market dx fs) := by
    obtain ⟨dx, ai, ae, at', ad, h0, _⟩ := hM
    exact ⟨dx, _, h0⟩
  have om : o ≠ m := fun e => by
    obtain ⟨dx, fs, h⟩ := hmo
    rw [← e, no] at h
    cases h
  have mk : ∀ {H' : Hp} {M : Mkt}, MktAt K C_Market H' m M → ∃ dx fs, H' m = some (.ins C_Market dx fs) := fun h => by
    obtain ⟨dx, ai, ae, at', ad, h0, _⟩ := h
    exact ⟨dx, _, h0⟩
  have b1 : Bar m H H1 := Bar.of s1
  -- the insurers
  obtain ⟨v0, p0, a0⟩ := dg 0 (by decide)
  obtain ⟨k0, hk0, k02, k04⟩ : ∃ k : Nat, v0 % 3 + 2 = (k : Int) ∧ 2 ≤ k ∧ k ≤ 4 := ⟨(v0 % 3 + 2).toNat, by omega, by omega, by omega⟩
  have fl : (four.take k0).length = k0 := by
    rw [List.length_take, show four.length = 4 from rfl]
    omega
  have fnd : (four.take k0).Nodup := (show four.Nodup by decide +kernel).sublist (List.take_sublist _ _)
  have fnm : ∀ z ∈ four.take k0, isNm z = true ∧ z.length ≤ 1000 := fun z hz => (show ∀ c ∈ four, isNm c = true ∧ c.length ≤ 1000 by decide +kernel) z (List.mem_of_mem_take hz)
  refine seq_to ⟨sz (by show 4 ≤ 100000; decide), fun t nt => ?_⟩
  have e1 := same_new (o := .tup [.str "ada", .str "bob", .str "cyd", .str "dan"]) nt
  refine ⟨_, rfl, o, _, _, .int v0, rfl, rfl, e1.seq (SqL.of hN), a0, _, _, rfl, rfl, (by show (0 : Int) < 3; decide), _, _, rfl, rfl, _, rfl, slA_to (SqT.of upd_same) hk0 fun A H2 s2 hA => ?_⟩
  generalize hw : List.set _ _ _ = w0
  have ew : w0 = [some (.ref m), some (.int c), some (.ref o), none, none, none, none, none] := by
    rw [← hw]
    kernel_rfl
  clear hw
  subst ew
  have s12 := e1.trans s2
  have hN2 := s12 _ _ hN
  have hM2 := MktAt.same s12 hM1
  obtain ⟨dx2, fs2, hm2⟩ := mk hM2
  have b2 : Bar m H H2 := b1.trans (Bar.of s12)
  have hA : SqT K H2 A ((four.take k0).map V.str) := by
    rw [List.map_take]
    exact hA
  refine ⟨A, rfl, ⟨_, hA⟩, for_tup (K := K) (a := A) (xs := (four.take k0).map V.str) (fun i σ H' => ∃ v3 : Option V, σ = [some (.ref m), some (.int c), some (.ref o), v3, none, none, none, none] ∧ Bar m H2 H' ∧ MktAt K C_Market H' m ⟨(four.take k0).take i, [], [], []⟩) ⟨_, rfl, Bar.refl _, hM2⟩ (fun i σ H' _ ⟨_, _, b, _⟩ => sqt_bar b hm2 hA) ?_ ?_⟩
  · rintro i v σ H' hi ⟨v3, rfl, b, hMk⟩
    obtain ⟨z, rfl, hz⟩ := of_at_str hi
    have hil := (List.getElem?_eq_some_iff.mp hz).1
    obtain ⟨dx1, ai, ae, at', ad, h0, _⟩ := id hMk
    have hn := fnm z (List.mem_of_getElem? hz)
    refine ⟨_, rfl, m, dx1, _, rfl, h0, mf_no (by decide +kernel), _, rfl, m, _, _, rfl, hMk, .inr ⟨z, rfl, ⟨z, rfl, hn.2, hn.1⟩, .inr (.inr ⟨by show ((four.take k0).take i).length < 6; rw [List.length_take]; omega, fun hm => ?_, fun H2 b2 hM2 => ?_⟩)⟩⟩
    · obtain ⟨j, hj⟩ := List.getElem?_of_mem hm
      rw [List.getElem?_take] at hj
      split at hj
      · rename_i hji
        have := nodup_at fnd hj hz
        omega
      · cases hj
    · refine ⟨_, rfl, b.trans b2, ?_⟩
      rw [List.take_add_one, hz]
      exact hM2
  rintro σ H3 ⟨v3, rfl, b23, hM3⟩
  rw [List.length_map, List.take_of_length_le (Nat.le_refl _)] at hM3
  dsimp only
  have b3 := b2.trans b23
  have hN3 := b23 _ _ om hN2
  -- the events
  obtain ⟨v1, p1, a1⟩ := dg 1 (by decide)
  obtain ⟨k1, hk1, k12, k14⟩ : ∃ k : Nat, v1 % 2 + 1 = (k : Int) ∧ 1 ≤ k ∧ k ≤ 2 := ⟨(v1 % 2 + 1).toNat, by omega, by omega, by omega⟩
  have gl : (twain.take k1).length = k1 := by
    rw [List.length_take, show twain.length = 2 from rfl]
    omega
  have gnd : (twain.take k1).Nodup := (show twain.Nodup by decide +kernel).sublist (List.take_sublist _ _)
  have gnm : ∀ z ∈ twain.take k1, isNm z = true ∧ z.length ≤ 1000 := fun z hz => (show ∀ c ∈ twain, isNm c = true ∧ c.length ≤ 1000 by decide +kernel) z (List.mem_of_mem_take hz)
  refine seq_to ⟨sz (by show 2 ≤ 100000; decide), fun t2 nt2 => ?_⟩
  have e3 := same_new (o := .tup [.str "storm", .str "flood"]) nt2
  refine ⟨_, rfl, o, _, _, .int v1, rfl, rfl, e3.seq (SqL.of hN3), a1, _, _, rfl, rfl, (by show (0 : Int) < 2; decide), _, _, rfl, rfl, _, rfl, slA_to (SqT.of upd_same) hk1 fun B H4 s4 hB => ?_⟩
  have s34 := e3.trans s4
  have hN4 := s34 _ _ hN3
  have hM4 := MktAt.same s34 hM3
  obtain ⟨dx4, fs4, hm4⟩ := mk hM4
  have b4 : Bar m H H4 := b3.trans (Bar.of s34)
  have hB : SqT K H4 B ((twain.take k1).map V.str) := by
    rw [List.map_take]
    exact hB
  refine ⟨B, rfl, ⟨_, hB⟩, for_tup (K := K) (a := B) (xs := (twain.take k1).map V.str) (fun i σ H' => ∃ v3 v4 : Option V, σ = [some (.ref m), some (.int c), some (.ref o), v3, v4, none, none, none] ∧ Bar m H4 H' ∧ MktAt K C_Market H' m ⟨four.take k0, (twain.take k1).take i, [], []⟩) ⟨_, _, rfl, Bar.refl _, hM4⟩ (fun i σ H' _ ⟨_, _, _, b, _⟩ => sqt_bar b hm4 hB) ?_ ?_⟩
  · rintro i v σ H' hi ⟨v3, v4, rfl, b, hMk⟩
    obtain ⟨z, rfl, hz⟩ := of_at_str hi
    have hil := (List.getElem?_eq_some_iff.mp hz).1
    obtain ⟨dx1, ai, ae, at', ad, h0, _⟩ := id hMk
    have hn := gnm z (List.mem_of_getElem? hz)
    refine ⟨_, rfl, m, dx1, _, rfl, h0, mf_no (by decide +kernel), _, rfl, m, _, _, rfl, hMk, .inr ⟨z, rfl, ⟨z, rfl, hn.2, hn.1⟩, .inr (.inr ⟨by show ((twain.take k1).take i).length < 3; rw [List.length_take]; omega, fun hm => ?_, fun H2 b2 hM2 => ?_⟩)⟩⟩
    · obtain ⟨j, hj⟩ := List.getElem?_of_mem hm
      rw [List.getElem?_take] at hj
      split at hj
      · rename_i hji
        have := nodup_at gnd hj hz
        omega
      · cases hj
    · refine ⟨_, _, rfl, b.trans b2, ?_⟩
      rw [List.take_add_one, hz]
      exact hM2
  rintro σ H5 ⟨v3, v4, rfl, b45, hM5⟩
  rw [List.length_map, List.take_of_length_le (Nat.le_refl _)] at hM5
  dsimp only
  have b5 := b4.trans b45
  have hN5 := b45 _ _ om hN4
  have hg5 : DgMkt ⟨four.take k0, twain.take k1, [], []⟩ := ⟨⟨k0, by omega, k04, rfl⟩, ⟨k1, k12, k14, rfl⟩, ⟨fnd, fun t h => (nomatch h), fun t h => (nomatch h), by show 0 ≤ 1000; decide, by show (four.take k0).length ≤ 1000; omega⟩, by show 0 ≤ 16; decide, fun t h => (nomatch h), .nil, fun p h => (nomatch h), fun e he => by
    show fate (four.take k0) [] (directs (four.take k0) [] e) true
    rw [directs_nil]
    exact fate_zero ⟨fnd, fun t h => (nomatch h), fun t h => (nomatch h), by decide, by omega⟩⟩
  -- the treaties
  obtain ⟨v2, p2, a2⟩ := dg 2 (by decide)
  obtain ⟨k2, hk2, k25⟩ : ∃ k : Nat, v2 % 6 = (k : Int) ∧ k ≤ 5 := ⟨(v2 % 6).toNat, by omega, by omega⟩
  refine seq_to ⟨_, rfl, o, _, _, .int v2, rfl, rfl, SqL.of hN5, a2, _, _, rfl, rfl, (by show (0 : Int) < 6; decide), (k2 : Int), congrArg (fun x => [V.int x]) hk2, by omega, by omega, ?_⟩
  rw [show ((k2 : Nat) : Int).toNat = k2 by omega]
  refine for_range (lo := 0) (n := k2) (fun i σ H' => ∃ (ts : List Trt) (v3 v4 v5 v6 v7 : Option V), σ = [some (.ref m), some (.int c), some (.ref o), v3, v4, v5, v6, v7] ∧ Bar m H5 H' ∧ MktAt K C_Market H' m ⟨four.take k0, twain.take k1, ts, []⟩ ∧ DgMkt ⟨four.take k0, twain.take k1, ts, []⟩ ∧ ts.length ≤ i) ⟨[], _, _, _, _, _, rfl, Bar.refl _, hM5, hg5, Nat.le_refl _⟩ ?_ ?_
  · rintro i σ H' hi ⟨ts, v3, v4, v5, v6, v7, rfl, b, hMk, hgk, htl⟩
    obtain ⟨dx1, ai, ae, at', ad, h0, h1, h2, h3, h4, h5⟩ := id hMk
    have hN6 := b _ _ om hN5
    obtain ⟨v8, p8, a8⟩ := dg (3 + i) (by omega)
    obtain ⟨cd, hcd, atz⟩ : ∃ e, e ∈ four.take k0 ∧ atI ((four.take k0).map V.str) (v8 % (((four.take k0).map V.str).length : Nat)) = some (.str e) := by
      rw [List.length_map]
      have e1 := Int.emod_nonneg v8 (show (((four.take k0).length : Nat) : Int) ≠ 0 by omega)
      have e2 := Int.emod_lt_of_pos v8 (show (0 : Int) < (((four.take k0).length : Nat) : Int) by omega)
      obtain ⟨k, hk⟩ : ∃ k : Nat, v8 % (((four.take k0).length : Nat) : Int) = (k : Int) := ⟨(v8 % (((four.take k0).length : Nat) : Int)).toNat, by omega⟩
      rw [hk]
      have hkl : k < (four.take k0).length := by omega
      exact ⟨(four.take k0)[k], List.getElem_mem hkl, atI_nat (by rw [List.getElem?_map, List.getElem?_eq_getElem hkl]; rfl)⟩
    have pi : (0 : Int) < ((((four.take k0).map V.str).length : Nat) : Int) := by rw [List.length_map]; omega
    refine seq_to (asg_to ⟨_, rfl, m, C_Market, dx1, _, _, rfl, h0, T.cl_Market, T.no_Market_insurers, mf_i, _, rfl, _, rfl, _, _, rfl, rfl, o, _, _, .int v8, rfl, rfl, SqL.of hN6, ?_, _, rfl, m, C_Market, dx1, _, _, rfl, h0, T.cl_Market, T.no_Market_insurers, mf_i, ai, _, rfl, .inr h1, _, _, rfl, rfl, pi, ai, _, _, .str cd, rfl, rfl, h1, atz, ?_⟩)
    · rw [show (3 : Int) + (0 + (i : Int)) = ((3 + i : Nat) : Int) by omega]
      exact a8
    dsimp only
    refine nx_to ?_
    generalize hw : List.set _ _ _ = w0
    have ew : w0 = [some (.ref m), some (.int c), some (.ref o), v3, v4, some (.int (0 + (i : Int))), some (.str cd), v7] := by
      rw [← hw]
      kernel_rfl
    clear hw
    subst ew
    refine seq_to (asg_to ⟨_, rfl, m, C_Market, dx1, _, _, rfl, h0, T.cl_Market, T.no_Market_insurers, mf_i, ai, rfl, ⟨_, h1⟩, fun G nG => lc_tup (K := K) (a := ai) (xs := (four.take k0).map V.str) (fun i H2 => Same H' H2 ∧ H2 G = some (.lst ((((four.take k0).take i).filter fun z => decide (z ≠ cd)).map V.str))) ⟨same_new nG, upd_same⟩ (fun i H2 _ h => same_sqt h.1 h1) ?_ ?_⟩)
    · rintro i y H2 hi ⟨sm, hG⟩
      obtain ⟨z, rfl, hz⟩ := of_at_str hi
      have hil := (List.getElem?_eq_some_iff.mp hz).1
      have st := filt_step (c := cd) hz
      refine ⟨rfl, _, rfl, _, rfl, rfl, _, rfl, ?_⟩
      have dd : (!decide (V.str z = V.str cd)) = decide (z ≠ cd) := by
        by_cases e : z = cd
        · subst e
          simp
        · rw [decide_eq_false (fun q => e (V.str.inj q)), decide_eq_true e]
          rfl
      rw [dd]
      have le := List.length_filter_le (fun z => decide (z ≠ cd)) ((four.take k0).take i)
      rw [List.length_take] at le
      refine iteB (fun e => ?_) (fun e => ?_)
      · rw [if_pos (of_decide_eq_true e)] at st
        refine ⟨_, rfl, _, hG, by rw [List.length_map]; exact szl (by omega), same_put sm nG, ?_⟩
        rw [upd_same, st, List.map_append]
        rfl
      · rw [if_neg (of_decide_eq_false e), List.append_nil] at st
        refine ⟨sm, ?_⟩
        rw [st]
        exact hG
    rintro H6 ⟨s6, hG⟩
    rw [List.length_map, List.take_of_length_le (Nat.le_refl _)] at hG
    dsimp only
    refine nx_to ?_
    have g0 := s6 _ _ h0
    have hN7 := s6 _ _ hN6
    have hM7 := MktAt.same s6 hMk
    have hcn := fnm cd hcd
    have os5 : ((four.take k0).filter fun z => decide (z ≠ cd)).length ≤ 5 := Nat.le_trans (List.length_filter_le _ _) (by omega)
    have osm : ∀ z ∈ (four.take k0).filter fun z => decide (z ≠ cd), z ∈ four.take k0 ∧ z ≠ cd := fun z hz => by
      obtain ⟨q1, q2⟩ := List.mem_filter.mp hz
      exact ⟨q1, of_decide_eq_true q2⟩
    refine ⟨_, rfl, m, dx1, _, rfl, g0, mf_no (by decide +kernel), _, rfl, _, rfl, _, rfl, _, _, rfl, rfl, .inl (by decide), _, _, rfl, rfl, o, ns, 9 + 5 * i, ?_, SqL.of hN7, by omega, hn, fun t cv H8 s8 nt8 ht8 hcv => ?_⟩
    · show [V.ref o, V.int (9 + 5 * (0 + (i : Int)))] = [V.ref o, V.int ((9 + 5 * i : Nat) : Int)]
      rw [show (9 : Int) + 5 * (0 + (i : Int)) = ((9 + 5 * i : Nat) : Int) by omega]
    have hN8 := s8 _ _ hN7
    refine ⟨_, rfl, _, rfl, _, _, rfl, rfl, .inl (by decide), _, _, rfl, rfl, _, rfl, o, G, ns, 11 + 6 * i, cd, four.take k0, _, ?_, SqL.of hN8, by omega, hn, SqL.of (s8 _ _ hG), filt_nd cd fnd, os5, osm, fnm, fun pt ps H9 s9 hP hDP => ?_⟩
    · show [V.ref o, V.int (11 + 6 * (0 + (i : Int))), V.ref G] = [V.ref o, V.int ((11 + 6 * i : Nat) : Int), V.ref G]
      rw [show (11 : Int) + 6 * (0 + (i : Int)) = ((11 + 6 * i : Nat) : Int) by omega]
    have s69 := s6.trans (s8.trans s9)
    have hM9 := MktAt.same s69 hMk
    have ok1 : TrsOk (four.take k0) (ts ++ [⟨cd, cv, ps, false⟩]) := trs_more hgk.ok (by omega) ⟨hcv, hDP.ok⟩ fun e he z hz => by
      rcases hDP.may e.1 (List.mem_map.mpr ⟨e, he, rfl⟩) with q | ⟨y, q, hy, _⟩
      · rw [hz] at q
        cases q
      · rw [hz] at q
        cases Option.some.inj q
        exact hy
    refine ⟨m, _, _, _, _, rfl, hM9, .inr (.inr (.inr ⟨cd, t, cv, ps, rfl, ⟨cd, rfl, hcn.2, hcn.1⟩, rfl, SqT.of (s9 _ _ ht8), hcv, hP, hDP.ok, .inr (.inr ⟨placed_drawn hcd hDP, by show ts.length < 16; omega, ok1, by show (twain.take k1).length ≤ 1000; omega, .inl ⟨fun e he => ?_, fun Hz bz hMz => ?_⟩⟩)⟩))⟩
    · show fate (four.take k0) (ts ++ [⟨cd, cv, ps, false⟩]) (directs (four.take k0) [] e) true
      rw [directs_nil]
      exact fate_zero ok1
    · exact ⟨_, _, _, _, _, _, rfl, b.trans ((Bar.of s69).trans bz), hMz, hgk.add (by omega) ok1 ⟨hcd, hDP, rfl⟩, by rw [List.length_append]; exact Nat.succ_le_succ htl⟩
  rintro σ H6 ⟨ts, v3, v4, v5, v6, v7, rfl, b56, hM6, hg6, htl⟩
  dsimp only
  have hN6 := b56 _ _ om hN5
  have b6 := b5.trans b56
  -- the losses
  obtain ⟨v9, p9, a9⟩ := dg 40 (by decide)
  obtain ⟨k3, hk3, k35⟩ : ∃ k : Nat, v9 % 6 = (k : Int) ∧ k ≤ 5 := ⟨(v9 % 6).toNat, by omega, by omega⟩
  obtain ⟨vb, pb, ab⟩ := dg 47 (by decide)
  refine seq_to ⟨_, rfl, o, _, _, .int v9, rfl, rfl, SqL.of hN6, a9, _, _, rfl, rfl, (by show (0 : Int) < 6; decide), (k3 : Int), congrArg (fun x => [V.int x]) hk3, by omega, by omega, ?_⟩
  rw [show ((k3 : Nat) : Int).toNat = k3 by omega]
  refine for_range (lo := 0) (n := k3) (fun i σ H' => ∃ (L : List ((Str × Str) × Int)) (v3 v4 v5 v6 v7 : Option V), σ = [some (.ref m), some (.int c), some (.ref o), v3, v4, v5, v6, v7] ∧ Bar m H6 H' ∧ MktAt K C_Market H' m ⟨four.take k0, twain.take k1, ts, L⟩ ∧ DgMkt ⟨four.take k0, twain.take k1, ts, L⟩) ⟨[], _, _, _, _, _, rfl, Bar.refl _, hM6, hg6⟩ ?_ ?_
  · rintro i σ H' hi ⟨L, v3, v4, v5, v6, v7, rfl, b, hMk, hgk⟩
    have hNk := b _ _ om hN6
    obtain ⟨va, pa, aa⟩ := dg (41 + i) (by omega)
    refine ⟨_, rfl, _, rfl, _, rfl, _, _, rfl, rfl, o, _, _, .int va, rfl, rfl, SqL.of hNk, ?_, _, rfl, o, _, _, .int vb, rfl, rfl, SqL.of hNk, ab, _, _, rfl, rfl, .inl (by decide), _, _, rfl, rfl, m, _, _, rfl, hMk, hgk, fun bb L' Hz bz hMz hgz => ?_⟩
    · rw [show (41 : Int) + (0 + (i : Int)) = ((41 + i : Nat) : Int) by omega]
      exact aa
    · exact ⟨L', _, _, _, _, _, rfl, b.trans bz, hMz, hgz⟩
  rintro σ H7 ⟨L, v3, v4, v5, v6, v7, rfl, b67, hM7, hg7⟩
  exact ⟨_, rfl, q _ H7 (b6.trans b67) hM7 hg7⟩

theorem ok_law_loss {f : Addr} {fd : FuncData} (D_law_loss : Dfn K mg "_law_loss" s_law_loss ["market", "digit"] f fd) (T : Tx K mg C_SpiralError C_BadName C_BadCover C_BadPanel C_BadAmount C_NameTaken C_NoSuchName C_Twice C_OwnPanel C_TooMany C_NoEnd C_Market) {f_Market_set_loss : Addr} {fd_Market_set_loss : FuncData} (D_Market_set_loss : Mth K C_Market "set_loss" "Market.set_loss" s_Market_set_loss ["self", "event", "insurer", "amount"] f_Market_set_loss fd_Market_set_loss) (G_Market_set_loss : FnOk P w K mg base (L2.CX P w) (8) f_Market_set_loss fd_Market_set_loss ["self", "event", "insurer", "amount"] (sp_set_loss K C_Market C_NoEnd)) :
    FnOk P w K mg base CX0 (9) f fd ["market", "digit"] (sp_dg_loss K C_Market) := by
  refine D_law_loss.F.ok sc_law_loss (fun vs H Q E h => ?_) (fun cdv A outer s H vs Q E hr h => ?_)
  · obtain ⟨m, d, M, rfl, hM, hg, q⟩ := h
    rfl
  obtain ⟨m, d, M, rfl, hM, hg, q⟩ := h
  refine ⟨_, (pss_cons (ps_set (i := 2) sc_law_loss.nd rfl (by first | exact Or.inl rfl | exact Or.inr rfl) (pe_ix (r := rIxT K) ix_tup (pe_fld (pv 0) rfl) (pe_op op_mod (pv 1) (pe_callB call_len_seq (by rfl) T.len PySem.boot_len (pa_cons (pe_fld (pv 0) rfl) pa_nil))) (fun _ _ => rfl)))
      (pss_cons (ps_set (i := 3) sc_law_loss.nd rfl (by first | exact Or.inl rfl | exact Or.inr rfl) (pe_ix (r := rIxT K) ix_tup (pe_fld (pv 0) rfl) (pe_op op_mod (pe_op op_fdiv (pv 1) pe_int) (pe_callB call_len_seq (by rfl) T.len PySem.boot_len (pa_cons (pe_fld (pv 0) rfl) pa_nil))) (fun _ _ => rfl)))
      (pss_cons (ps_try_only rfl rfl ⟨rfl, by decide, .inl T.exc_NoEnd.g⟩ takes0 (fun W pn xe tk _ => (pss_one (ps_expr (by exact (pe_methT (pv 0) T.cl_Market D_Market_set_loss.m G_Market_set_loss (hr.mono (by first | decide | omega)) D_Market_set_loss.b (fun σ => passAt tk σ) (by exact (pa_cons (pv 2) (pa_cons (pv 3) (pa_cons (pe_op op_mod (pe_op op_fdiv (pv 1) pe_int) pe_int) pa_nil))))))))) (fun a oe cls d pn hz hf => (pss_one (ps_ret pe_bl))))
      (pss_one (ps_ret pe_bl))))), ?_⟩
  obtain ⟨dx, ai, ae, at', ad, h0, h1, h2, h3, h4, h5⟩ := id hM
  have hil := hg.il
  have hel := hg.el
  have hll := hg.ll
  have mod : ∀ {xs : List Str} (x : Int), 1 ≤ xs.length → ∃ e, e ∈ xs ∧ atI (xs.map V.str) (x % ((xs.map V.str).length : Nat)) = some (.str e) := fun {xs} x hx => by
    rw [List.length_map]
    have e1 := Int.emod_nonneg x (show ((xs.length : Nat) : Int) ≠ 0 by omega)
    have e2 := Int.emod_lt_of_pos x (show (0 : Int) < ((xs.length : Nat) : Int) by omega)
    obtain ⟨k, hk⟩ : ∃ k : Nat, x % ((xs.length : Nat) : Int) = (k : Int) := ⟨(x % ((xs.length : Nat) : Int)).toNat, by omega⟩
    rw [hk]
    have hkl : k < xs.length := by omega
    exact ⟨xs[k], List.getElem_mem hkl, atI_nat (by rw [List.getElem?_map, List.getElem?_eq_getElem hkl]; rfl)⟩
  have pe : (0 : Int) < (((M.evs.map V.str).length : Nat) : Int) := by rw [List.length_map]; omega
  have pi : (0 : Int) < (((M.ins.map V.str).length : Nat) : Int) := by rw [List.length_map]; omega
  obtain ⟨e, he, ate⟩ := mod (xs := M.evs) d hel.1
  obtain ⟨z, hz, atz⟩ := mod (xs := M.ins) (d / 3) hil.1
  have hne := hg.enm e he
  have hnz := hg.inm z hz
  have hn : 0 ≤ d / 17 % 70 ∧ d / 17 % 70 ≤ 69 := by omega
  have hbt : btw (.int (d / 17 % 70)) 0 100000 = true := by
    show (decide (0 ≤ d / 17 % 70) && decide (d / 17 % 70 ≤ 100000)) = true
    rw [decide_eq_true hn.1, decide_eq_true (by omega)]
    rfl
  refine seq_to (asg_to ⟨_, rfl, m, C_Market, dx, _, _, rfl, h0, T.cl_Market, T.no_Market_events, mf_e, _, rfl, _, rfl, m, C_Market, dx, _, _, rfl, h0, T.cl_Market, T.no_Market_events, mf_e, ae, _, rfl, .inr h2, _, _, rfl, rfl, pe, ae, _, _, .str e, rfl, rfl, h2, ate, ?_⟩)
  dsimp only
  refine nx_to ?_
  refine seq_to (asg_to ⟨_, rfl, m, C_Market, dx, _, _, rfl, h0, T.cl_Market, T.no_Market_insurers, mf_i, _, rfl, _, _, rfl, rfl, ⟨by decide, by decide⟩, _, rfl, m, C_Market, dx, _, _, rfl, h0, T.cl_Market, T.no_Market_insurers, mf_i, ai, _, rfl, .inr h1, _, _, rfl, rfl, pi, ai, _, _, .str z, rfl, rfl, h1, atz, ?_⟩)
  dsimp only
  refine nx_to ?_
  refine seq_to ⟨_, rfl, m, dx, _, rfl, h0, mf_no (by decide +kernel), _, rfl, _, rfl, _, rfl, _, _, rfl, rfl, ⟨by decide, by decide⟩, _, _, rfl, rfl, (by show (0 : Int) < 70; decide), m, e, z, _, M, rfl, hM, ⟨_, rfl, hne.2, hne.1⟩, ⟨_, rfl, hnz.2, hnz.1⟩, hbt, he, hz, hg.lnd, by omega, hg.ok, by omega, ?_⟩
  rcases Classical.em (∀ e' ∈ M.evs, fate M.ins M.trs (directs M.ins (setL M.los e z (d / 17 % 70)) e') true) with hf | hf
  · exact .inl ⟨hf, fun H' b hM' => q true _ H' b hM' (hg.set he hz hn.1 hn.2 hf)⟩
  · refine .inr ⟨?_, fun H' s => ⟨true, T.exc_NoEnd.e, fun _ a _ => q false M.los H' (Bar.of s) (MktAt.same s hM) hg, fun z => (nomatch z)⟩⟩
    obtain ⟨e', h⟩ := Classical.not_forall.mp hf
    obtain ⟨he', h⟩ := Classical.not_imp.mp h
    exact ⟨e', he', (fate_any _ _ _).resolve_left h⟩

theorem ok_law_market {f : Addr} {fd : FuncData} (D_law_market : Dfn K mg "_law_market" s_law_market ["cell"] f fd) (T : Tx K mg C_SpiralError C_BadName C_BadCover C_BadPanel C_BadAmount C_NameTaken C_NoSuchName C_Twice C_OwnPanel C_TooMany C_NoEnd C_Market) {f_law_filled : Addr} {fd_law_filled : FuncData} (D_law_filled : Dfn K mg "_law_filled" s_law_filled ["market", "cell"] f_law_filled fd_law_filled) (G_law_filled : FnOk P w K mg base CX0 (10) f_law_filled fd_law_filled ["market", "cell"] (sp_dg_filled K C_Market)) {f_Market___init : Addr} {fd_Market___init : FuncData} (D_Market___init : Mki K C_Market "Market.__init__" s_Market___init ["self"] f_Market___init fd_Market___init) (G_Market___init : FnOk P w K mg base CX0 (1) f_Market___init fd_Market___init ["self"] (sp_minit K C_Market)) :
    FnOk P w K mg base CX0 (11) f fd ["cell"] (sp_dg_market K C_Market) := by
  refine D_law_market.F.ok sc_law_market (fun vs H Q E h => ?_) (fun cdv A outer s H vs Q E hr h => ?_)
  · obtain ⟨c, rfl, q⟩ := h
    rfl
  obtain ⟨c, rfl, q⟩ := h
  refine ⟨_, (pss_one (ps_ret (pe_call G_law_filled (hr.mono (by first | decide | omega)) rfl D_law_filled.m D_law_filled.F.kp D_law_filled.b .nil pass0 (pa_cons (pe_make0 D_Market___init.m G_Market___init (hr.mono (by first | decide | omega)) rfl T.m_Market D_Market___init.b .nil pass0) (pa_cons (pv 0) pa_nil))))), ?_⟩
  refine fun m dx n1 n2 n3 => ⟨m, dx, rfl, upd_same, fun H1 b1 hM1 => ⟨rfl, _, rfl, m, c, rfl, hM1, fun M H' b2 hM hg => ?_⟩⟩
  have s1 : Same H H1 := fun b u hb => b1 b u (ne_of_none hb n1) (by rw [upd_ne (ne_of_none hb n1), upd_ne (ne_of_none hb n2)]; exact hb)
  exact q m M H' (Bar.keep n1 ((Bar.of s1).trans b2)) n1 hM hg

theorem ok_law_allocate {f : Addr} {fd : FuncData} (D_law_allocate : Dfn K mg "_law_allocate" s_law_allocate ["amount", "shares"] f fd) (T : Tx K mg C_SpiralError C_BadName C_BadCover C_BadPanel C_BadAmount C_NameTaken C_NoSuchName C_Twice C_OwnPanel C_TooMany C_NoEnd C_Market) :
    FnOk P w K mg base CX0 (1) f fd ["amount", "shares"] (sp_lw_alloc K) := by
  refine D_law_allocate.F.ok sc_law_allocate (fun vs H Q E h => ?_) (fun cdv A outer s H vs Q E hr h => ?_)
  · obtain ⟨a, s, sh, rfl, hs, hpos, hne, hsum, ha0, ha1, q⟩ := h
    rfl
  obtain ⟨a, s, sh, rfl, hs, hpos, hne, hsum, ha0, ha1, q⟩ := h
  have S0 := hpos.sum1 hne
  have hlen : sh.length ≤ 100000 := by
    have h1 := len_sum hpos
    omega
  refine ⟨_, (pss_cons (ps_set (i := 2) sc_law_allocate.nd rfl (by first | exact Or.inl rfl | exact Or.inr rfl) (pe_op op_rep (pe_lst (pa_cons pe_int pa_nil)) (pe_callB call_len_seq (by rfl) T.len PySem.boot_len (pa_cons (pv 1) pa_nil))))
      (pss_cons (ps_set (i := 3) sc_law_allocate.nd rfl (by first | exact Or.inl rfl | exact Or.inr rfl) (pv 0))
      (pss_cons (ps_for PassesOwn.never rfl (pi_range1 (by rfl) T.range (pa_cons (pe_op op_add (pv 0) pe_int) pa_nil)) (pg_name (i := 4) sc_law_allocate.nd rfl (by first | exact Or.inl rfl | exact Or.inr rfl))
      (pss_cons (ps_for PassesOwn.never rfl (pi_range1 (by rfl) T.range (pa_cons (pe_callB call_len_seq (by rfl) T.len PySem.boot_len (pa_cons (pv 1) pa_nil)) pa_nil)) (pg_name (i := 5) sc_law_allocate.nd rfl (by first | exact Or.inl rfl | exact Or.inr rfl))
      (pss_cons (ps_set (i := 6) sc_law_allocate.nd rfl (by first | exact Or.inl rfl | exact Or.inr rfl) (pe_ifExp (pt_cmpR op_gt (pv 3) pe_int (nomark _)) (pe_callB (call_min2 rfl) (by rfl) T.min (by decide +kernel) (pa_cons (pv 3) (pa_cons (pe_ix (r := rIxL K) ix_list (pv 1) (pv 5) (fun _ _ => rfl)) pa_nil))) pe_int))
      (pss_cons (ps_asg (pe_op op_add (pe_ix (r := rIxL K) ix_list (pv 2) (pv 5) (fun _ _ => rfl)) (pv 6)) (pg_sub (pv 2) (pv 5) set_list))
      (pss_one (ps_set (i := 3) sc_law_allocate.nd rfl (by first | exact Or.inl rfl | exact Or.inr rfl) (pe_op op_sub (pv 3) (pv 6)))))))
      (pss_one (ps_if (pt_cmpR op_eq (pv 3) pe_int (nomark _))
      (pss_one (ps_ret (pv 2)))
      pss_nil))))
      (pss_one (ps_ret (pv 2)))))), ?_⟩
  refine ⟨sz (by show 1 ≤ 100000; decide), fun z nz => ⟨_, rfl, s, _, rfl, .inl (SqL.of ((same_new nz) _ _ hs)), z, (((sh.map V.int).length : Nat) : Int), [.int 0], rfl, rfl, upd_same, by omega, by rw [List.length_map]; omega, ?_, fun D nD' => ?_⟩⟩
  · rw [show (((sh.map V.int).length : Nat) : Int).toNat = sh.length by rw [List.length_map]; omega]
    exact sz (by show 1 * sh.length ≤ 100000; omega)
  have nD : H D = none := free2 nz nD'
  have s0 : Same H (upd (upd H z (.lst [.int 0])) D (.lst (List.replicate (((sh.map V.int).length : Nat) : Int).toNat [V.int 0]).flatten)) := same_add (same_new nz) nD'
  have h0 : (upd (upd H z (.lst [.int 0])) D (.lst (List.replicate (((sh.map V.int).length : Nat) : Int).toNat [V.int 0]).flatten)) D = some (.lst ((sh.map fun v => v * 0).map V.int)) := by
    rw [upd_same, show (((sh.map V.int).length : Nat) : Int).toNat = sh.length by rw [List.length_map]; omega, rep0]
    have e : (sh.map fun v => v * 0) = List.replicate sh.length (0 : Int) := by
      rw [show (fun v : Int => v * 0) = fun _ => 0 from funext fun v => Int.mul_zero v]
      exact List.map_const' ..
    rw [e]
  obtain ⟨H1, h1⟩ : ∃ H1, (upd (upd H z (.lst [.int 0])) D (.lst (List.replicate (((sh.map V.int).length : Nat) : Int).toNat [V.int 0]).flatten)) = H1 := ⟨_, rfl⟩
  rw [h1] at s0 h0 ⊢
  dsimp only
  refine nx_to ?_
  generalize hw : List.set _ _ _ = w0
  have ew : w0 = [some (.int a), some (.ref s), some (.ref D), none, none, none, none] := by
    rw [← hw]
    kernel_rfl
  clear hw
  subst ew
  refine seq_to ⟨_, rfl, ?_⟩
  dsimp only
  refine nx_to ?_
  generalize hw : List.set _ _ _ = w0
  have ew : w0 = [some (.int a), some (.ref s), some (.ref D), some (.int a), none, none, none] := by
    rw [← hw]
    kernel_rfl
  clear hw
  subst ew
  refine seq_to ⟨_, rfl, _, _, rfl, rfl, a + 1, rfl, by omega, by omega, ?_⟩
  refine for_range (lo := 0) (n := (a + 1).toNat) (fun j σ H' => ∃ (v4 v5 v6 : Option V), σ = [some (.int a), some (.ref s), some (.ref D), some (.int (a - (j : Int) * sh.sum)), v4, v5, v6] ∧ Same H H' ∧ H' D = some (.lst ((sh.map fun v => v * (j : Int)).map V.int)) ∧ (j = 0 ∨ 0 < a - (j : Int) * sh.sum))
    ⟨none, none, none, by rw [show ((0 : Nat) : Int) * sh.sum = 0 by simp, Int.sub_zero], s0, h0, .inl rfl⟩ ?_ ?_
  · rintro j σ H2 hj ⟨v4, v5, v6, rfl, sm, hD, hpo⟩
    have hr0 : 0 ≤ a - (j : Int) * sh.sum := by
      rcases hpo with rfl | h
      · rw [show ((0 : Nat) : Int) * sh.sum = 0 by simp]
        omega
      · omega
    obtain ⟨r0, hr⟩ : ∃ r0, a - (j : Int) * sh.sum = r0 := ⟨_, rfl⟩
    rw [hr] at hr0
    refine seq_to ⟨_, rfl, s, _, rfl, .inl (SqL.of (sm _ _ hs)), ((sh.length : Nat) : Int), by rw [List.length_map], by omega, by omega, ?_⟩
    rw [show ((sh.length : Nat) : Int).toNat = sh.length by omega]
    refine for_range (lo := 0) (n := sh.length) (fun k σ H3 => ∃ (r : Int) (acc : List Int) (v5 v6 : Option V), σ = [some (.int a), some (.ref s), some (.ref D), some (.int r), some (.int (0 + (j : Int))), v5, v6] ∧ Same H H3 ∧ acc.length = k ∧ 0 ≤ r ∧ go (j : Int) r0 sh = acc ++ go (j : Int) r (sh.drop k) ∧ rst r0 sh = rst r (sh.drop k) ∧
      H3 D = some (.lst ((acc ++ (sh.drop k).map fun v => v * (j : Int)).map V.int))) ⟨r0, [], _, _, by rw [hr]; rfl, sm, rfl, hr0, rfl, rfl, hD⟩ ?_ ?_
    · rintro k σ H3 hk ⟨r, acc, v5, v6, rfl, sm3, hal, h0r, hgo, hrs, hD3⟩
      obtain ⟨v, hv⟩ : ∃ v, sh[k]? = some v := ⟨_, List.getElem?_eq_getElem hk⟩
      have hd : sh.drop k = v :: sh.drop (k + 1) := by
        obtain ⟨g1, g2⟩ := List.getElem?_eq_some_iff.mp hv
        rw [List.drop_eq_getElem_cons g1]
        rw [g2]
      have hv1 := hpos v (List.mem_of_getElem? hv)
      rw [go_step hv] at hgo
      rw [hd] at hrs
      rw [hd, List.map_cons] at hD3
      have hat : atI (sh.map V.int) ((0 : Int) + (k : Int)) = some (.int v) := by
        rw [zi]
        exact atI_nat (at_map hv)
      refine seq_to (asg_to ?_)
      generalize hQ : (fun (x : V) (H1 : Hp) => gName 6 x _ H1 _) = Q0
      have fin : Q0 (.int (cut2 v r)) H3 := by
        rw [← hQ]
        refine nx_to ?_
        generalize hw : List.set _ _ _ = w0
        have ew : w0 = [some (.int a), some (.ref s), some (.ref D), some (.int r), some (.int (0 + (j : Int))), some (.int (0 + (k : Int))), some (.int (cut2 v r))] := by
          rw [← hw]
          kernel_rfl
        clear hw hQ
        subst ew
        have hat2 : atI ((acc ++ v * (j : Int) :: (sh.drop (k + 1)).map fun z => z * (j : Int)).map V.int) ((0 : Int) + (k : Int)) = some (.int (v * (j : Int))) := by
          rw [zi]
          exact atI_nat (at_map (mid_get hal))
        have hlen2 : k < ((acc ++ v * (j : Int) :: (sh.drop (k + 1)).map fun z => z * (j : Int)).map V.int).length := by
          rw [List.length_map, List.length_append, List.length_cons]
          omega
        refine seq_to ⟨_, rfl, _, rfl, D, _, _, _, rfl, rfl, SqL.of hD3, hat2, _, rfl, _, _, rfl, rfl, _, rfl, _, rfl, D, _, _, k, rfl, rfl, hD3, by rw [zi]; exact ixN_n hlen2, ?_⟩
        refine ⟨_, rfl, _, rfl, _, _, rfl, rfl, ?_⟩
        refine ⟨r - cut2 v r, acc ++ [v * (j : Int) + cut2 v r], _, _, rfl, same_put sm3 nD, ?_, ?_, ?_, hrs, ?_⟩
        · rw [List.length_append, hal]
          rfl
        · unfold cut2
          split <;> omega
        · rw [hgo, List.append_assoc]
          rfl
        · rw [upd_same, map_set, mid_set hal, List.append_assoc]
          rfl
      refine ⟨_, rfl, _, _, rfl, rfl, _, rfl, ?_⟩
      refine iteB (fun c => ?_) (fun c => ?_)
      · have c' : 0 < r := of_decide_eq_true c
        refine ⟨_, rfl, _, rfl, _, rfl, s, _, _, _, rfl, rfl, SqL.of (sm3 _ _ hs), hat, _, _, rfl, ?_⟩
        have em : (if v < r then v else r) = cut2 v r := by
          unfold cut2
          by_cases z : v < r
          · rw [if_pos z, if_neg (by omega)]
          · rw [if_neg z]
            split <;> omega
        rw [em]
        exact fin
      · have c' : ¬ 0 < r := of_decide_eq_false c
        have e0 : cut2 v r = 0 := by
          unfold cut2
          rw [if_pos (by omega)]
          omega
        rw [e0] at fin
        exact fin
    · rintro σ H3 ⟨r, acc, v5, v6, rfl, sm3, hal, h0r, hgo, hrs, hD3⟩
      rw [List.drop_eq_nil_of_le (Nat.le_refl _)] at hgo hrs hD3
      have hgo : go (j : Int) r0 sh = acc := hgo.trans (List.append_nil _)
      have hrs : rst r0 sh = r := hrs
      have hD3 : H3 D = some (.lst (acc.map V.int)) := by
        rw [hD3]
        show some (HO.lst ((acc ++ []).map V.int)) = _
        rw [List.append_nil]
      refine ⟨_, rfl, rfl, _, rfl, ?_⟩
      refine iteB (fun c => ?_) (fun c => ?_)
      · have c' : r = 0 := V.int.inj (of_decide_eq_true c)
        have hle : r0 ≤ sh.sum := by
          by_cases z : sh.sum ≤ r0
          · have := (gow_full (j : Int) hpos z).2
            omega
          · omega
        have e := alloc_turn (j := (j : Int)) hpos hne (by rw [hr]; exact hr0) (by rw [hr]; exact hle)
        rw [hr, hgo] at e
        rw [e] at hD3
        exact ⟨_, rfl, q D H3 sm3 nD hD3⟩
      · have c' : ¬ r = 0 := fun e => of_decide_eq_false c (by rw [e])
        have hge : ¬ r0 ≤ sh.sum := fun z => c' (by rw [← hrs]; exact rst_zero hpos hr0 z)
        obtain ⟨e1, e2⟩ := gow_full (j : Int) hpos (r := r0) (by omega)
        have er : r = a - ((j + 1 : Nat) : Int) * sh.sum := by
          rw [← hrs, e2, ← hr, show ((j + 1 : Nat) : Int) = (j : Int) + 1 by omega, Int.add_mul, Int.one_mul]
          omega
        refine ⟨_, _, _, by rw [← er], sm3, ?_, .inr (by omega)⟩
        rw [hD3, ← hgo, e1]
        rfl
  · rintro σ H2 ⟨v4, v5, v6, rfl, sm, hD, hpo⟩
    exfalso
    rw [show (((a + 1).toNat : Nat) : Int) = a + 1 by omega] at hpo
    rcases hpo with h | h
    · omega
    · have h2 : a + 1 ≤ (a + 1) * sh.sum := by
        have := Int.mul_le_mul_of_nonneg_left (show (1 : Int) ≤ sh.sum by omega) (show (0 : Int) ≤ a + 1 by omega)
        rw [Int.mul_one] at this
        exact this
      omega

theorem ok_law_pays {f : Addr} {fd : FuncData} (D_law_pays : Dfn K mg "_law_pays" s_law_pays ["market", "name", "loss"] f fd) (T : Tx K mg C_SpiralError C_BadName C_BadCover C_BadPanel C_BadAmount C_NameTaken C_NoSuchName C_Twice C_OwnPanel C_TooMany C_NoEnd C_Market) :
    FnOk P w K mg base CX0 (1) f fd ["market", "name", "loss"] (sp_lw_pays K C_Market) := by
  refine D_law_pays.F.ok sc_law_pays (fun vs H Q E h => ?_) (fun cdv A outer s H vs Q E hr h => ?_)
  · obtain ⟨m, M, c, x, rfl, hM, hok, q⟩ := h
    rfl
  obtain ⟨m, M, c, x, rfl, hM, hok, q⟩ := h
  refine ⟨_, (pss_cons (ps_set (i := 3) sc_law_pays.nd rfl (by first | exact Or.inl rfl | exact Or.inr rfl) pe_dnewK)
      (pss_cons (ps_set (i := 4) sc_law_pays.nd rfl (by first | exact Or.inl rfl | exact Or.inr rfl) (pv 2))
      (pss_cons (ps_for PassesOwn.never rfl (pi_range1 (by rfl) T.range (pa_cons (pe_callB call_len_seq (by rfl) T.len PySem.boot_len (pa_cons (pe_fld (pv 0) rfl) pa_nil)) pa_nil)) (pg_name (i := 5) sc_law_pays.nd rfl (by first | exact Or.inl rfl | exact Or.inr rfl))
      (pss_cons (ps_asg (pe_ix (r := rIxT K) ix_tup (pe_fld (pv 0) rfl) (pv 5) (fun _ _ => rfl)) (pg_tup rfl (pgs_cons (pg_name (i := 6) sc_law_pays.nd rfl (by first | exact Or.inl rfl | exact Or.inr rfl)) (pgs_cons (pg_name (i := 7) sc_law_pays.nd rfl (by first | exact Or.inl rfl | exact Or.inr rfl)) (pgs_cons (pg_name (i := 8) sc_law_pays.nd rfl (by first | exact Or.inl rfl | exact Or.inr rfl)) (pgs_cons (pg_name (i := 9) sc_law_pays.nd rfl (by first | exact Or.inl rfl | exact Or.inr rfl)) pgs_nil))))))
      (pss_one (ps_if (PW.pt (pw_and (pt_cmpR op_eq (pv 6) (pv 1) (nomark _)) (pw_and1 (pt_not (pt_val (pv 9))))))
      (pss_cons (ps_set (i := 10) sc_law_pays.nd rfl (by first | exact Or.inl rfl | exact Or.inr rfl) (pe_op op_fdiv (pe_op op_mul (pe_ix (r := rIxT K) ix_tup (pv 7) pe_int (fun _ _ => rfl)) (pv 4)) pe_int))
      (pss_cons (ps_if (pt_cmpR op_eq (pe_ix (r := rIxT K) ix_tup (pv 7) pe_int (fun _ _ => rfl)) pe_str (nomark _))
      (pss_cons (ps_set (i := 10) sc_law_pays.nd rfl (by first | exact Or.inl rfl | exact Or.inr rfl) (pe_ifExp (pt_cmpR op_le (pv 4) (pe_ix (r := rIxT K) ix_tup (pv 7) pe_int (fun _ _ => rfl)) (nomark _)) pe_int (pe_op op_sub (pv 4) (pe_ix (r := rIxT K) ix_tup (pv 7) pe_int (fun _ _ => rfl)))))
      (pss_one (ps_set (i := 10) sc_law_pays.nd rfl (by first | exact Or.inl rfl | exact Or.inr rfl) (pe_ifExp (pt_cmpR op_gt (pv 10) (pe_ix (r := rIxT K) ix_tup (pv 7) pe_int (fun _ _ => rfl)) (nomark _)) (pe_ix (r := rIxT K) ix_tup (pv 7) pe_int (fun _ _ => rfl)) (pv 10)))))
      pss_nil)
      (pss_cons (ps_dput (hu_of hr) (pv 3) (pv 5) (pv 10) rfl)
      (pss_one (ps_set (i := 4) sc_law_pays.nd rfl (by first | exact Or.inl rfl | exact Or.inr rfl) (pe_op op_sub (pv 4) (pv 10)))))))
      pss_nil))))
      (pss_one (ps_ret (pe_tup (pa_cons (pv 3) (pa_cons (pv 4) pa_nil)))))))), ?_⟩
  obtain ⟨dx, ai, ae, at', ad, h0, h1, h2, ⟨xs, hS, hA⟩, h4, h5⟩ := id hM
  have hxl := hA.1
  have htl := hok.len
  refine seq_to (asg_to fun D nD => ?_)
  have s0 := same_new (o := .dK []) nD
  have hD0 : upd H D (.dK []) D = some (.dK []) := upd_same
  obtain ⟨H0, e0⟩ : ∃ H0, upd H D (.dK []) = H0 := ⟨_, rfl⟩
  rw [e0] at s0 hD0 ⊢
  clear e0
  dsimp only
  refine nx_to ?_
  generalize hw : List.set _ _ _ = w0
  have ew : w0 = [some (.ref m), some (.str c), some (.int x), some (.ref D), none, none, none, none, none, none, none] := by
    rw [← hw]
    kernel_rfl
  clear hw
  subst ew
  refine seq_to ⟨_, rfl, ?_⟩
  dsimp only
  refine nx_to ?_
  generalize hw : List.set _ _ _ = w0
  have ew : w0 = [some (.ref m), some (.str c), some (.int x), some (.ref D), some (.int x), none, none, none, none, none, none] := by
    rw [← hw]
    kernel_rfl
  clear hw
  subst ew
  refine seq_to ⟨_, rfl, m, C_Market, dx, _, _, rfl, s0 _ _ h0, T.cl_Market, T.no_Market_treaties, mf_t, at', xs, rfl, .inr (same_sqt s0 hS), ((xs.length : Nat) : Int), rfl, by omega, by omega, ?_⟩
  rw [show ((xs.length : Nat) : Int).toNat = xs.length by omega]
  refine for_range (lo := 0) (n := xs.length) (fun i σ H' => ∃ (kv : List (Key × V)) (l : Int) (v5 v6 v7 v8 v9 v10 : Option V), σ = [some (.ref m), some (.str c), some (.int x), some (.ref D), some (.int l), v5, v6, v7, v8, v9, v10] ∧ Same H H' ∧ H' D = some (.dK kv) ∧ kv.length ≤ i ∧ (∀ p ∈ kv, ∃ j : Nat, j < i ∧ p.1 = .inl (j : Int)) ∧
    pairsK ((actv c 0 M.trs).map (·.1)) (cedeP c M.trs x).1 = kv ++ pairsK ((actv c i (M.trs.drop i)).map (·.1)) (prog ((actv c i (M.trs.drop i)).map (·.2)) l).1 ∧ (cedeP c M.trs x).2 = (prog ((actv c i (M.trs.drop i)).map (·.2)) l).2)
    ⟨[], x, none, none, none, none, none, none, rfl, s0, hD0, Nat.le_refl _, fun p hp => (nomatch hp), rfl, rfl⟩ ?_ ?_
  · rintro i σ H' hi ⟨kv, l, v5, v6, v7, v8, v9, v10, rfl, sm, hD, hkl, hkk, e1, e2⟩
    obtain ⟨t, ht⟩ : ∃ t, M.trs[i]? = some t := ⟨_, List.getElem?_eq_getElem (by omega)⟩
    obtain ⟨y, hy, a1, vc, vp, rfl, g1, g2, g3⟩ := hA.2 i t ht
    have hcv := (hok.ok t (List.mem_of_getElem? ht)).c
    rw [actv_step ht] at e1 e2
    refine seq_to ⟨_, rfl, m, C_Market, dx, _, _, rfl, sm _ _ h0, T.cl_Market, T.no_Market_treaties, mf_t, _, rfl, at', _, _, .ref a1, rfl, rfl, same_sqt sm hS, by rw [zi]; exact atI_nat hy, a1, _, rfl, same_sqt sm g1, rfl, ?_⟩
    refine ⟨_, _, rfl, ?_⟩
    refine ⟨_, _, rfl, ?_⟩
    refine ⟨_, _, rfl, ?_⟩
    refine ⟨_, _, rfl, ?_⟩
    refine ⟨rfl, ?_⟩
    generalize hw : List.set _ _ _ = w0
    have ew : w0 = [some (.ref m), some (.str c), some (.int x), some (.ref D), some (.int l), some (.int (0 + (i : Int))), some (.str t.ced), some (.ref vc), some vp, some (.bl t.ended), v10] := by
      rw [← hw]
      kernel_rfl
    clear hw
    subst ew
    have ec : decide (V.str t.ced = V.str c) = decide (t.ced = c) := by
      by_cases h : t.ced = c
      · rw [decide_eq_true h, decide_eq_true (by rw [h])]
      · rw [decide_eq_false h, decide_eq_false (fun e => h (V.str.inj e))]
    have up : ∀ p ∈ kv, ∃ j : Nat, j < i + 1 ∧ p.1 = .inl (j : Int) := fun p hp => let ⟨j, h1, h2⟩ := hkk p hp; ⟨j, Nat.lt_succ_of_lt h1, h2⟩
    have no : (decide (t.ced = c) && !t.ended) = false → pairsK ((actv c 0 M.trs).map (·.1)) (cedeP c M.trs x).1 = kv ++ pairsK ((actv c (i + 1) (M.trs.drop (i + 1))).map (·.1)) (prog ((actv c (i + 1) (M.trs.drop (i + 1))).map (·.2)) l).1 ∧ (cedeP c M.trs x).2 = (prog ((actv c (i + 1) (M.trs.drop (i + 1))).map (·.2)) l).2 := fun e => by
      rw [e, if_neg (by decide)] at e1 e2
      exact ⟨e1, e2⟩
    refine ⟨_, rfl, _, rfl, rfl, _, rfl, ?_⟩
    rw [ec]
    refine iteB (fun c1 => ?_) (fun c1 => iteF ⟨kv, l, _, _, _, _, _, _, rfl, sm, hD, by omega, up, no (by rw [c1]; rfl)⟩)
    refine ⟨_, rfl, _, rfl, ?_⟩
    cases he : t.ended with
    | true => exact iteF ⟨kv, l, _, _, _, _, _, _, rfl, sm, hD, by omega, up, no (by rw [c1, he]; rfl)⟩
    | false =>
      rw [c1, he, if_pos (by decide)] at e1 e2
      refine iteT ?_
      have gc := same_sqt sm g2
      have knew : ∀ a, putK kv (.inl (i : Int)) (.int a) = kv ++ [(.inl (i : Int), .int a)] := fun a => putK_new fun p hp e => by
        obtain ⟨j, hj, e2⟩ := hkk p hp
        rw [e2] at e
        have := Sum.inl.inj e
        omega
      clear no
      obtain ⟨cv, hcv0⟩ : ∃ cv, t.cov = cv := ⟨_, rfl⟩
      rw [hcv0] at e1 e2 gc hcv
      obtain ⟨k1, hk1, kb1, kb2⟩ : ∃ k1, atI (cvV cv) 1 = some (.int k1) ∧ -(2 ^ 64) < k1 ∧ k1 < 2 ^ 64 := by
        cases cv with
        | share p => exact ⟨p, rfl, by have := hcv.1; omega, by have := hcv.2; omega⟩
        | layer r n => exact ⟨r, rfl, by have := hcv.1; omega, by have := hcv.2.1; omega⟩
      refine seq_to (asg_to ⟨_, rfl, vc, _, 1, .int k1, rfl, rfl, gc, hk1, _, rfl, _, _, rfl, rfl, .inl ⟨kb1, kb2⟩, _, _, rfl, rfl, ⟨by decide, by decide⟩, ?_⟩)
      dsimp only
      refine nx_to ?_
      generalize hw : List.set _ _ _ = w0
      have ew : w0 = [some (.ref m), some (.str c), some (.int x), some (.ref D), some (.int l), some (.int (0 + (i : Int))), some (.str t.ced), some (.ref vc), some vp, some (.bl false), some (.int (k1 * l / 1000))] := by
        rw [← hw]
        kernel_rfl
      clear hw
      subst ew
      rw [zi i]
      refine with_rest (t := tIfS _ _ _) (u := tSeq _ _) (fun σ' Hp' => σ' = [some (.ref m), some (.str c), some (.int x), some (.ref D), some (.int l), some (.int (i : Int)), some (.str t.ced), some (.ref vc), some vp, some (.bl false), some (.int (pays cv l))] ∧ Hp' = H') ?_ (fun R0 => ?_)
      · rintro σ' Hp' ⟨rfl, rfl⟩
        refine seq_to ⟨_, rfl, _, rfl, _, rfl, D, _, rfl, DPut.k (k := .inl (i : Int)) hD (szl (by omega)), ?_⟩
        refine ⟨_, rfl, _, rfl, _, _, rfl, rfl, ?_⟩
        rw [knew]
        refine ⟨kv ++ [(.inl (i : Int), .int (pays cv l))], l - pays cv l, _, _, _, _, _, _, rfl, same_put sm nD, upd_same, by rw [List.length_append]; exact Nat.succ_le_succ hkl, fun p hp => ?_, ?_, e2⟩
        · rcases List.mem_append.mp hp with hp | hp
          · exact up p hp
          · rw [List.mem_singleton.mp hp]
            exact ⟨i, Nat.lt_succ_self _, rfl⟩
        · rw [e1, List.append_assoc]
          rfl
      cases cv with
      | share p =>
        have hp : p = k1 := V.int.inj (Option.some.inj hk1)
        subst hp
        exact ⟨_, rfl, vc, _, 0, .str "share", rfl, rfl, gc, rfl, rfl, _, rfl, iteF' (by decide +kernel) (R0 _ _ ⟨rfl, rfl⟩)⟩
      | layer r n =>
        obtain ⟨b1, b2, b3, b4⟩ := hcv
        refine ⟨_, rfl, vc, _, 0, .str "layer", rfl, rfl, gc, rfl, rfl, _, rfl, iteT' (by decide +kernel) ?_⟩
        refine seq_to (asg_to ⟨_, rfl, _, rfl, vc, _, 1, .int r, rfl, rfl, gc, rfl, _, _, rfl, rfl, _, rfl, iteB (fun d => ?_) (fun d => ?_)⟩)
        · have d' : l ≤ r := of_decide_eq_true d
          dsimp only
          refine nx_to ?_
          refine ⟨_, rfl, _, rfl, vc, _, 2, .int n, rfl, rfl, gc, rfl, _, _, rfl, rfl, _, rfl, iteF' (decide_eq_false (by omega)) ⟨_, rfl, R0 _ _ ⟨?_, rfl⟩⟩⟩
          rw [show pays (.layer r n) l = 0 from if_pos d']
          rfl
        · have d' : ¬ l ≤ r := of_decide_eq_false d
          refine ⟨_, rfl, _, rfl, vc, _, 1, .int r, rfl, rfl, gc, rfl, _, _, rfl, rfl, ?_⟩
          dsimp only
          refine nx_to ?_
          refine ⟨_, rfl, _, rfl, vc, _, 2, .int n, rfl, rfl, gc, rfl, _, _, rfl, rfl, _, rfl, iteB (fun f => ?_) (fun f => ?_)⟩
          · have f' : n < l - r := of_decide_eq_true f
            refine ⟨_, rfl, vc, _, 2, .int n, rfl, rfl, gc, rfl, R0 _ _ ⟨?_, rfl⟩⟩
            rw [show pays (.layer r n) l = n from (if_neg d').trans (if_pos f')]
            rfl
          · have f' : ¬ n < l - r := of_decide_eq_false f
            refine ⟨_, rfl, R0 _ _ ⟨?_, rfl⟩⟩
            rw [show pays (.layer r n) l = l - r from (if_neg d').trans (if_neg f')]
            rfl
  · rintro σ H' ⟨kv, l, v5, v6, v7, v8, v9, v10, rfl, sm, hD, hkl, hkk, e1, e2⟩
    rw [hxl, List.drop_eq_nil_of_le (Nat.le_refl _)] at e1 e2
    have e1 : pairsK ((actv c 0 M.trs).map (·.1)) (cedeP c M.trs x).1 = kv := e1.trans (List.append_nil _)
    have e2 : (cedeP c M.trs x).2 = l := e2
    refine ⟨_, rfl, _, rfl, sz (by show 2 ≤ 100000; decide), fun p np => ?_⟩
    have sp := same_new (o := .tup [.ref D, .int l]) np
    refine q p D _ (sm.trans sp) nD ?_ ?_
    · rw [e1]
      exact sp _ _ hD
    · rw [e2]
      exact upd_same

theorem ok_law_next {f : Addr} {fd : FuncData} (D_law_next : Dfn K mg "_law_next" s_law_next ["market", "event", "gross"] f fd) (T : Tx K mg C_SpiralError C_BadName C_BadCover C_BadPanel C_BadAmount C_NameTaken C_NoSuchName C_Twice C_OwnPanel C_TooMany C_NoEnd C_Market) {f_Market_direct : Addr} {fd_Market_direct : FuncData} (D_Market_direct : Mth K C_Market "direct" "Market.direct" s_Market_direct ["self", "event"] f_Market_direct fd_Market_direct) (G_Market_direct : FnOk P w K mg base (L2.CX P w) (4) f_Market_direct fd_Market_direct ["self", "event"] (sp_direct K C_Market C_NoSuchName)) {f_law_pays : Addr} {fd_law_pays : FuncData} (D_law_pays : Dfn K mg "_law_pays" s_law_pays ["market", "name", "loss"] f_law_pays fd_law_pays) (G_law_pays : FnOk P w K mg base CX0 (1) f_law_pays fd_law_pays ["market", "name", "loss"] (sp_lw_pays K C_Market)) {f_law_allocate : Addr} {fd_law_allocate : FuncData} (D_law_allocate : Dfn K mg "_law_allocate" s_law_allocate ["amount", "shares"] f_law_allocate fd_law_allocate) (G_law_allocate : FnOk P w K mg base CX0 (1) f_law_allocate fd_law_allocate ["amount", "shares"] (sp_lw_alloc K)) :
    FnOk P w K mg base CX0 (5) f fd ["market", "event", "gross"] (sp_lw_next K C_Market) := by
  refine D_law_next.F.ok sc_law_next (fun vs H Q E h => ?_) (fun cdv A outer s H vs Q E hr h => ?_)
  · obtain ⟨m, b, M, e, gs, rfl, hM, hok, he, hG, hgl, hgb, hil, q⟩ := h
    rfl
  obtain ⟨m, b, M, e, gs, rfl, hM, hok, he, hG, hgl, hgb, hil, q⟩ := h
  refine ⟨_, (pss_cons (ps_set (i := 3) sc_law_next.nd rfl (by first | exact Or.inl rfl | exact Or.inr rfl) (pe_callTy call_list_of (by rfl) T.list (by decide +kernel) (pa_cons (pe_meth (pv 0) T.cl_Market D_Market_direct.m G_Market_direct (hr.mono (by first | decide | omega)) D_Market_direct.b .nil passL (pa_cons (pv 1) pa_nil)) pa_nil)))
      (pss_cons (ps_for PassesOwn.never rfl (pi_range1 (by rfl) T.range (pa_cons (pe_callB call_len_seq (by rfl) T.len PySem.boot_len (pa_cons (pe_fld (pv 0) rfl) pa_nil)) pa_nil)) (pg_name (i := 4) sc_law_next.nd rfl (by first | exact Or.inl rfl | exact Or.inr rfl))
      (pss_cons (ps_set (i := 5) sc_law_next.nd rfl (by first | exact Or.inl rfl | exact Or.inr rfl) (pe_ix (r := rIxT K) ix_tup (pe_call G_law_pays (hr.mono (by first | decide | omega)) rfl D_law_pays.m D_law_pays.F.kp D_law_pays.b .nil pass0 (pa_cons (pv 0) (pa_cons (pe_ix (r := rIxT K) ix_tup (pe_fld (pv 0) rfl) (pv 4) (fun _ _ => rfl)) (pa_cons (pe_ix (r := rIxT K) ix_tup (pv 2) (pv 4) (fun _ _ => rfl)) pa_nil)))) pe_int (fun _ _ => rfl)))
      (pss_one (ps_lock (ps_for PassesOwn.never rfl (pi_keys (pv 5)) (pg_name (i := 6) sc_law_next.nd rfl (by first | exact Or.inl rfl | exact Or.inr rfl))
      (pss_cons (ps_set (i := 7) sc_law_next.nd rfl (by first | exact Or.inl rfl | exact Or.inr rfl) (pe_ix (r := rIxT K) ix_tup (pe_ix (r := rIxT K) ix_tup (pe_fld (pv 0) rfl) (pv 6) (fun _ _ => rfl)) pe_int (fun _ _ => rfl)))
      (pss_cons (ps_set (i := 8) sc_law_next.nd rfl (by first | exact Or.inl rfl | exact Or.inr rfl) (pe_call G_law_allocate (hr.mono (by first | decide | omega)) rfl D_law_allocate.m D_law_allocate.F.kp D_law_allocate.b .nil pass0 (pa_cons (pe_dget (hu_of hr) (pv 5) (pv 6) (fun _ _ => rfl)) (pa_cons (pe_lc (own := [("name", 10), ("shares", 11)]) (g := (gTup K 2 (gCons (gName 10) (gCons (gName 11) gNil)))) (tt := tYes) rfl sc_law_next.nd (pi_tup (pv 7)) (blkOk_by (own := [("name", 10), ("shares", 11)]) (N := (["market", "event", "gross", "found", "k", "paid", "number", "panel", "parts", "j", "name", "shares"] : List Str)) (sc := defScope s_law_next) (by decide +kernel)) (fun _ _ _ _ _ => (pg_tup rfl (pgs_cons (pg_name (i := 10) sc_law_next.nd rfl (by first | exact Or.inl rfl | exact Or.inr rfl)) (pgs_cons (pg_name (i := 11) sc_law_next.nd rfl (by first | exact Or.inl rfl | exact Or.inr rfl)) pgs_nil)))) (fun _ _ _ _ _ => pts_nil) (fun _ _ _ _ _ => (pv 11))) pa_nil))))
      (pss_one (ps_for PassesOwn.never rfl (pi_range1 (by rfl) T.range (pa_cons (pe_callB call_len_seq (by rfl) T.len PySem.boot_len (pa_cons (pv 7) pa_nil)) pa_nil)) (pg_name (i := 9) sc_law_next.nd rfl (by first | exact Or.inl rfl | exact Or.inr rfl))
      (pss_one (ps_if (pt_cmpR op_notN (pe_ix (r := rIxT K) ix_tup (pe_ix (r := rIxT K) ix_tup (pv 7) (pv 9) (fun _ _ => rfl)) pe_int (fun _ _ => rfl)) pe_non (nomark _))
      (pss_one (ps_augS (pv 3) (pe_bmT PySem.F.slot_tuple_index PySem.F.type_tuple_index mt_tup_index (pe_fld (pv 0) rfl) (pa_cons (pe_ix (r := rIxT K) ix_tup (pe_ix (r := rIxT K) ix_tup (pv 7) (pv 9) (fun _ _ => rfl)) pe_int (fun _ _ => rfl)) pa_nil)) pget_list (pe_ix (r := rIxL K) ix_list (pv 8) (pv 9) (fun _ _ => rfl)) ip_add set_list))
      pss_nil)))))))))))
      (pss_one (ps_ret (pe_callTy call_tuple_of (by rfl) T.tuple (by decide +kernel) (pa_cons (pv 3) pa_nil)))))), ?_⟩
  obtain ⟨dx, ai, ae, at', ad, h0, h1, h2, ⟨xs, hS, hA⟩, h4, h5⟩ := id hM
  have hxl := hA.1
  have htl := hok.len
  have hfl := hok.few
  have hne := ins_ne hil
  obtain ⟨ds, hds⟩ : ∃ ds, directs M.ins M.los e = ds := ⟨_, rfl⟩
  have hdl : ds.length = M.ins.length := by
    rw [← hds]
    exact List.length_map ..
  rw [hds] at q
  refine seq_to (asg_to ⟨_, rfl, m, dx, _, rfl, h0, mf_no (by decide +kernel), _, rfl, m, M, e, rfl, hM, hfl, .inl ⟨he, fun p0 H1 s1 np0 hp0 => ⟨p0, _, rfl, .inr (SqT.of hp0), fun D nD1 => ?_⟩⟩⟩)
  have nD : H D = none := s1.free nD1
  rw [hds]
  have s2 := s1.trans (same_new (o := .lst (ds.map V.int)) nD1)
  have hD2 : upd H1 D (.lst (ds.map V.int)) D = some (.lst (ds.map V.int)) := upd_same
  obtain ⟨H2, e2⟩ : ∃ H2, upd H1 D (.lst (ds.map V.int)) = H2 := ⟨_, rfl⟩
  rw [e2] at s2 hD2 ⊢
  clear e2
  dsimp only
  refine nx_to ?_
  generalize hw : List.set _ _ _ = w0
  have ew : w0 = [some (.ref m), some (.str e), some (.ref b), some (.ref D), none, none, none, none, none, none, none, none] := by
    rw [← hw]
    kernel_rfl
  clear hw
  subst ew
  refine seq_to ⟨_, rfl, m, C_Market, dx, _, _, rfl, s2 _ _ h0, T.cl_Market, T.no_Market_insurers, mf_i, ai, _, rfl, .inr (same_sqt s2 h1), ((M.ins.length : Nat) : Int), by rw [List.length_map], by omega, by omega, ?_⟩
  rw [show ((M.ins.length : Nat) : Int).toNat = M.ins.length by omega]
  refine for_range (lo := 0) (n := M.ins.length) (fun k σ H' => ∃ (v4 v5 v6 v7 v8 v9 : Option V), σ = [some (.ref m), some (.str e), some (.ref b), some (.ref D), v4, v5, v6, v7, v8, v9, none, none] ∧ Same H H' ∧ H' D = some (.lst ((addTrs M.ins (M.trs.zip (payP M.trs ((M.ins.zip gs).take k) (List.replicate M.trs.length 0))) ds).map V.int)))
    ⟨none, none, none, none, none, none, rfl, s2, by rw [hD2]; show _ = some (HO.lst ((addTrs M.ins (M.trs.zip (List.replicate M.trs.length 0)) ds).map V.int)); rw [addTrs_zero hok.ok]⟩ ?_ ?_
  · rintro k σ H' hk ⟨v4, v5, v6, v7, v8, v9, rfl, sm, hD⟩
    obtain ⟨z, hz⟩ : ∃ z, M.ins[k]? = some z := ⟨_, List.getElem?_eq_getElem hk⟩
    obtain ⟨x, hx⟩ : ∃ x, gs[k]? = some x := ⟨_, List.getElem?_eq_getElem (by omega)⟩
    obtain ⟨x0, x1⟩ := hgb x (List.mem_of_getElem? hx)
    obtain ⟨q0, hq0⟩ : ∃ q0, payP M.trs ((M.ins.zip gs).take k) (List.replicate M.trs.length 0) = q0 := ⟨_, rfl⟩
    rw [hq0] at hD
    have hq0l : q0.length = M.trs.length := by rw [← hq0, payP_len, List.length_replicate]
    obtain ⟨nn, hnn⟩ : ∃ nn, (actv z 0 M.trs).map (·.1) = nn := ⟨_, rfl⟩
    obtain ⟨as, has⟩ : ∃ as, (cedeP z M.trs x).1 = as := ⟨_, rfl⟩
    have hup : nn.Pairwise (· < ·) := by
      rw [← hnn]
      exact actv_up
    have hal : as.length = nn.length := by
      rw [← has, ← hnn]
      unfold cedeP
      rw [prog_len, List.length_map, List.length_map]
    have hasb : ∀ y ∈ as, 0 ≤ y ∧ y ≤ x := by
      rw [← has]
      exact prog_top (actv_all fun t ht => (hok.ok t ht).c) x0
    have hnb : ∀ n ∈ nn, ∃ t, M.trs[n]? = some t ∧ t.ced = z := fun n hn => by
      rw [← hnn] at hn
      exact actv_num hn
    -- what the treaties of this insurer pay
    refine seq_to (asg_to ⟨_, rfl, _, rfl, m, C_Market, dx, _, _, rfl, sm _ _ h0, T.cl_Market, T.no_Market_insurers, mf_i, _, rfl, ai, _, _, .str z, rfl, rfl, same_sqt sm h1, by rw [zi]; exact atI_nat (by rw [List.getElem?_map, hz]; rfl), _, rfl, _, rfl, b, _, _, .int x, rfl, rfl, same_sqt sm hG, by rw [zi]; exact atI_nat (at_map hx), m, M, z, x, rfl, MktAt.same sm hM, hok, fun pp DD H3 s3 nDD hDD hpp => ⟨pp, _, 0, .ref DD, rfl, rfl, SqT.of hpp, rfl, ?_⟩⟩)
    rw [hnn, has] at hDD
    have s03 := sm.trans s3
    have hD3 := s3 _ _ hD
    have nDDH : H DD = none := sm.free nDD
    have nDD' : D ≠ DD := fun q => by rw [← q, hD] at nDD; cases nDD
    dsimp only
    refine nx_to ?_
    generalize hw : List.set _ _ _ = w0
    have ew : w0 = [some (.ref m), some (.str e), some (.ref b), some (.ref D), some (.int (0 + (k : Int))), some (.ref DD), v6, v7, v8, v9, none, none] := by
      rw [← hw]
      kernel_rfl
    clear hw
    subst ew
    refine ⟨DD, _, hDD, trivial, fun od => ?_⟩
    have hfz : upd H3 DD (.frz od (.dK (pairsK nn as))) DD = some (.frz od (.dK (pairsK nn as))) := upd_same
    have sB : ∀ {c : Addr} {o : HO}, H c = some o → upd H3 DD (.frz od (.dK (pairsK nn as))) c = some o := fun h => by
      rw [upd_ne (ne_of_none h nDDH)]
      exact s03 _ _ h
    have sB' : Same H (upd H3 DD (.frz od (.dK (pairsK nn as)))) := fun c o h => sB h
    have hD4 : upd H3 DD (.frz od (.dK (pairsK nn as))) D = some (.lst ((addTrs M.ins (M.trs.zip q0) ds).map V.int)) := by
      rw [upd_ne nDD']
      exact hD3
    have kl : (pairsK nn as).length = nn.length := by
      unfold pairsK
      rw [List.length_map, List.length_zip]
      omega
    have nl : nn.length ≤ 1000 := by
      rw [← hnn, List.length_map]
      exact Nat.le_trans (actv_len z 0 M.trs) htl
    refine ⟨_, rfl, DD, od, rfl, .inl ⟨_, hfz, for_it (walk_keys (kvs := pairsK nn as)) (fun i σ H' => ∃ (v6 v7 v8 v9 : Option V), σ = [some (.ref m), some (.str e), some (.ref b), some (.ref D), some (.int (0 + (k : Int))), some (.ref DD), v6, v7, v8, v9, none, none] ∧ Same H H' ∧ H' DD = some (.frz od (.dK (pairsK nn as))) ∧ H' D = some (.lst ((addTrs M.ins (M.trs.zip (putP q0 ((nn.zip as).take i))) ds).map V.int)))
      ⟨_, _, _, _, rfl, sB', hfz, hD4⟩ (fun i σ H' _ ⟨_, _, _, _, _, _, h, _⟩ => h) ?_ ?_⟩⟩
    · rintro i y σ Ha Hb hi ⟨v6, v7, v8, v9, rfl, sm4, hfz4, hD5⟩ ⟨rfl, ky, v, hkv, rfl⟩
      obtain ⟨n, a, hn, ha, ekv⟩ := pairsKw_at hkv
      obtain ⟨rfl, rfl⟩ := Prod.mk.inj ekv
      obtain ⟨t, ht, htc⟩ := hnb n (List.mem_of_getElem? hn)
      obtain ⟨a0, a1'⟩ := hasb a (List.mem_of_getElem? ha)
      obtain ⟨yt, hyt, ta, vc, vp, rfl, g1, g2, g3⟩ := hA.2 n t ht
      obtain ⟨pa, px, rfl, hpS, hpl, hpE⟩ := PanAt.ent g3
      have htok := hok.ok t (List.mem_of_getElem? ht)
      have hpn := htok.p
      have hsl : (shs t.pan).length = t.pan.length := List.length_map ..
      have hp6 : t.pan.length ≤ 6 := hpn.hi
      have hss : (shs t.pan).sum ≤ 100000 := by
        have h := hpn.sum
        unfold shs
        omega
      refine seq_to (asg_to ⟨_, rfl, m, C_Market, dx, _, _, rfl, sm4 _ _ h0, T.cl_Market, T.no_Market_treaties, mf_t, _, rfl, at', _, _, .ref ta, rfl, rfl, same_sqt sm4 hS, atI_nat hyt, ta, _, 2, .ref pa, rfl, rfl, same_sqt sm4 g1, rfl, ?_⟩)
      dsimp only
      refine nx_to ?_
      generalize hw : List.set _ _ _ = w0
      have ew : w0 = [some (.ref m), some (.str e), some (.ref b), some (.ref D), some (.int (0 + (k : Int))), some (.ref DD), some (.int (n : Int)), some (.ref pa), v8, v9, none, none] := by
        rw [← hw]
        kernel_rfl
      clear hw
      subst ew
      refine seq_to (asg_to ⟨_, rfl, _, rfl, DD, .int a, rfl, .inl ⟨_, .inl (n : Int), .inr ⟨od, hfz4⟩, rfl, (pairsKw_val hup hn ha).symm⟩, _, rfl, pa, rfl, ⟨_, same_sqt sm4 hpS⟩, fun E1 nE1 => lc_tup (K := K) (a := pa) (xs := px) (fun i H' => Same Hb H' ∧ H' E1 = some (.lst (((shs t.pan).map V.int).take i))) ⟨same_new nE1, upd_same⟩ (fun i H' _ w => same_sqt (sm4.trans w.1) hpS) ?_ ?_⟩)
      · rintro c y H' hc ⟨sm6, hE⟩
        obtain ⟨en, bb, hen, rfl, hb⟩ := hpE c y hc
        generalize hw : wipe _ _ = w0
        have ew : w0 = [some (.ref m), some (.str e), some (.ref b), some (.ref D), some (.int (0 + (k : Int))), some (.ref DD), some (.int (n : Int)), some (.ref pa), v8, v9, none, none] := by
          rw [← hw]
          kernel_rfl
        clear hw
        subst ew
        refine ⟨bb, _, rfl, same_sqt (sm4.trans sm6) hb, rfl, ?_⟩
        refine ⟨_, _, rfl, ?_⟩
        refine ⟨_, _, rfl, rfl, by kernel_rfl, ?_⟩
        refine ⟨_, rfl, acc_to nE1 sm6 hE (at_map ?_) (by rw [List.length_map]; omega)⟩
        unfold shs
        rw [List.getElem?_map, hen]
        rfl
      rintro H6 ⟨s6, hE6⟩
      have hE6 := acc_all (by rw [List.length_map, hsl, hpl]) hE6
      refine ⟨a, E1, shs t.pan, rfl, hE6, shs_pos hpn, shs_ne hpn, hss, a0, by omega, fun PP H7 s7 nPP hPP => ?_⟩
      obtain ⟨al, hal2⟩ : ∃ al, alloc a (shs t.pan) = al := ⟨_, rfl⟩
      rw [hal2] at hPP
      have all : al.length = t.pan.length := by
        rw [← hal2, alloc_len, hsl]
      have s67 := s6.trans s7
      have sm7 := sm4.trans s67
      have hfz7 := s67 _ _ hfz4
      have hD7 := s67 _ _ hD5
      dsimp only
      refine nx_to ?_
      generalize hw : List.set _ _ _ = w0
      have ew : w0 = [some (.ref m), some (.str e), some (.ref b), some (.ref D), some (.int (0 + (k : Int))), some (.ref DD), some (.int (n : Int)), some (.ref pa), some (.ref PP), v9, none, none] := by
        rw [← hw]
        kernel_rfl
      clear hw
      subst ew
      obtain ⟨qs, hqs⟩ : ∃ qs, putP q0 ((nn.zip as).take i) = qs := ⟨_, rfl⟩
      rw [hqs] at hD7
      have hq1 : qs[n]? = some 0 := by
        have hni : n < M.trs.length := (List.getElem?_eq_some_iff.mp ht).1
        rw [← hqs, putP_get, ← hq0, payP_get ht, List.getElem?_replicate, if_pos hni]
        · rintro p hp
          obtain ⟨c, hc⟩ := List.getElem?_of_mem hp
          rw [List.getElem?_take] at hc
          split at hc
          · rename_i hck
            obtain ⟨c1, _⟩ := List.getElem?_zip_eq_some.mp hc
            intro q
            rw [htc] at q
            have := nd_at hok.nd c1 (by rw [hz, q])
            omega
          · cases hc
        · rintro p hp
          obtain ⟨c, hc⟩ := List.getElem?_of_mem hp
          rw [List.getElem?_take] at hc
          split at hc
          · rename_i hck
            obtain ⟨c1, _⟩ := List.getElem?_zip_eq_some.mp hc
            have := pw_lt hup c1 hn hck
            omega
          · cases hc
      have hnew : putP q0 ((nn.zip as).take (i + 1)) = qs.set n a := by
        rw [List.take_add_one, (List.getElem?_zip_eq_some (z := (n, a))).mpr ⟨hn, ha⟩]
        show putP q0 (_ ++ [(n, a)]) = _
        rw [putP_add, hqs]
      have hstep := addTrs_set (ins := M.ins) (q := qs) (ls := ds) (a := a) hok.ok ht hq1
      rw [hal2] at hstep
      obtain ⟨base, hbase⟩ : ∃ base, addTrs M.ins (M.trs.zip qs) ds = base := ⟨_, rfl⟩
      rw [hbase] at hD7 hstep
      have hbl : base.length = M.ins.length := by rw [← hbase, addTrs_len]; exact hdl
      refine ⟨_, rfl, pa, px, rfl, .inr (same_sqt sm7 hpS), ((px.length : Nat) : Int), rfl, by omega, by omega, ?_⟩
      rw [show ((px.length : Nat) : Int).toNat = px.length by omega]
      refine for_range (lo := 0) (n := px.length) (fun j σ H' => ∃ (v9 : Option V), σ = [some (.ref m), some (.str e), some (.ref b), some (.ref D), some (.int (0 + (k : Int))), some (.ref DD), some (.int (n : Int)), some (.ref pa), some (.ref PP), v9, none, none] ∧ Same H H' ∧ H' DD = some (.frz od (.dK (pairsK nn as))) ∧ H' PP = some (.lst (al.map V.int)) ∧ H' D = some (.lst ((addPan M.ins ((t.pan.zip al).take j) base).map V.int)))
        ⟨_, rfl, sm7, hfz7, hPP, hD7⟩ ?_ ?_
      · rintro j σ H' hj ⟨v9, rfl, sm8, hfz8, hPP8, hD8⟩
        obtain ⟨yj, hyj⟩ : ∃ yj, px[j]? = some yj := ⟨_, List.getElem?_eq_getElem hj⟩
        obtain ⟨en, bj, hen, rfl, hbj⟩ := hpE j yj hyj
        obtain ⟨pj, hpj⟩ : ∃ pj, al[j]? = some pj := ⟨_, List.getElem?_eq_getElem (by omega)⟩
        have hzj : (t.pan.zip al)[j]? = some (en, pj) := List.getElem?_zip_eq_some.mpr ⟨hen, hpj⟩
        have hpS8 := same_sqt sm8 hpS
        have hbj8 := same_sqt sm8 hbj
        have hatj : atI px ((0 : Int) + (j : Int)) = some (.ref bj) := by
          rw [zi]
          exact atI_nat hyj
        obtain ⟨o, sh⟩ := en
        refine ⟨_, rfl, _, rfl, pa, _, _, .ref bj, rfl, rfl, hpS8, hatj, bj, _, 0, optV o, rfl, rfl, hbj8, rfl, rfl, _, rfl, ?_⟩
        cases o with
        | none =>
          refine iteF' rfl ⟨_, rfl, sm8, hfz8, hPP8, ?_⟩
          rw [List.take_add_one, hzj]
          show H' D = some (.lst ((addPan M.ins ((t.pan.zip al).take j ++ [((none, sh), pj)]) base).map V.int))
          rw [addPan_add]
          exact hD8
        | some w =>
          have hwm := hok.mem t (List.mem_of_getElem? ht) _ (List.mem_of_getElem? hen) w rfl
          obtain ⟨ix, hix⟩ := List.getElem?_of_mem hwm
          have hixl := (List.getElem?_eq_some_iff.mp hix).1
          have hfst : ∀ c, c < ix → M.ins[c]? ≠ some w := fun c hc h => by
            have := nd_at hok.nd h hix
            omega
          obtain ⟨cur, hcur⟩ : ∃ cur, addPan M.ins ((t.pan.zip al).take j) base = cur := ⟨_, rfl⟩
          rw [hcur] at hD8
          have hcl : cur.length = M.ins.length := by rw [← hcur, addPan_len]; exact hbl
          obtain ⟨old, hold⟩ : ∃ old, cur[ix]? = some old := ⟨_, List.getElem?_eq_getElem (by omega)⟩
          refine iteT' rfl ⟨_, rfl, _, rfl, m, C_Market, dx, _, _, rfl, sm8 _ _ h0, T.cl_Market, T.no_Market_insurers, mf_i, ⟨ai, _, rfl, (h5.same sm8).get hne⟩, _, rfl, _, rfl, pa, _, _, .ref bj, rfl, rfl, hpS8, hatj, bj, _, 0, .str w, rfl, rfl, hbj8, rfl, ai, M.ins, w, ix, rfl, rfl, same_sqt sm8 h1, hix, hfst, D, _, _, .int old, rfl, rfl, SqL.of hD8, atI_nat (at_map hold), _, rfl, _, rfl, PP, _, _, .int pj, rfl, rfl, SqL.of hPP8, by rw [zi]; exact atI_nat (at_map hpj), _, _, rfl, rfl, D, _, _, ix, rfl, rfl, hD8, ixN_n (by rw [List.length_map]; omega), ?_⟩
          have ne1 : DD ≠ D := fun q => by rw [q, hD8] at hfz8; cases hfz8
          have ne2 : PP ≠ D := fun q => by
            have := sm4.free (s6.free nPP)
            rw [q, nD] at this
            rw [q] at nPP
            have h9 := s6 _ _ hD5
            rw [nPP] at h9
            cases h9
          refine ⟨_, rfl, same_put sm8 nD, by rw [upd_ne ne1]; exact hfz8, by rw [upd_ne ne2]; exact hPP8, ?_⟩
          rw [upd_same, map_set, List.take_add_one, hzj]
          show some (HO.lst ((cur.set ix (old + pj)).map V.int)) = some (.lst ((addPan M.ins ((t.pan.zip al).take j ++ [((some w, sh), pj)]) base).map V.int))
          rw [addPan_add, hcur]
          show _ = some (HO.lst ((addAt M.ins cur w pj).map V.int))
          rw [addAt_set hok.nd hix hold]
      · rintro σ H' ⟨v9, rfl, sm8, hfz8, hPP8, hD8⟩
        rw [List.take_of_length_le (by rw [List.length_zip]; omega), ← hstep, ← hnew] at hD8
        exact ⟨_, _, _, _, rfl, sm8, hfz8, hD8⟩
    · rintro σ H9 ⟨v6, v7, v8, v9, rfl, s9, hfz9, hD9⟩
      refine ⟨hfz9, ?_⟩
      rw [List.take_of_length_le (by rw [List.length_zip]; omega)] at hD9
      refine ⟨_, _, _, _, _, _, rfl, same_put s9 nDDH, ?_⟩
      rw [upd_ne nDD', hD9]
      have e : (M.ins.zip gs).take (k + 1) = (M.ins.zip gs).take k ++ [(z, x)] := by
        rw [List.take_add_one, (List.getElem?_zip_eq_some (z := (z, x))).mpr ⟨hz, hx⟩]
        rfl
      rw [e, payP_add, hq0, hnn, has]
  · rintro σ H' ⟨v4, v5, v6, v7, v8, v9, rfl, sm, hD⟩
    rw [List.take_of_length_le (by rw [List.length_zip]; omega)] at hD
    refine ⟨_, rfl, D, _, rfl, .inl ⟨SqL.of hD, fun p np => ?_⟩⟩
    exact q p _ (sm.trans (same_new np)) (sm.free np) upd_same

theorem ok_law_rounds {f : Addr} {fd : FuncData} (D_law_rounds : Dfn K mg "_law_rounds" s_law_rounds ["market", "event"] f fd) (T : Tx K mg C_SpiralError C_BadName C_BadCover C_BadPanel C_BadAmount C_NameTaken C_NoSuchName C_Twice C_OwnPanel C_TooMany C_NoEnd C_Market) {f_Market_direct : Addr} {fd_Market_direct : FuncData} (D_Market_direct : Mth K C_Market "direct" "Market.direct" s_Market_direct ["self", "event"] f_Market_direct fd_Market_direct) (G_Market_direct : FnOk P w K mg base (L2.CX P w) (4) f_Market_direct fd_Market_direct ["self", "event"] (sp_direct K C_Market C_NoSuchName)) {f_law_next : Addr} {fd_law_next : FuncData} (D_law_next : Dfn K mg "_law_next" s_law_next ["market", "event", "gross"] f_law_next fd_law_next) (G_law_next : FnOk P w K mg base CX0 (5) f_law_next fd_law_next ["market", "event", "gross"] (sp_lw_next K C_Market)) :
    FnOk P w K mg base CX0 (6) f fd ["market", "event"] (sp_lw_rounds K C_Market) := by
  refine D_law_rounds.F.ok sc_law_rounds (fun vs H Q E h => ?_) (fun cdv A outer s H vs Q E hr h => ?_)
  · obtain ⟨m, M, e, i, rfl, hM, hok, he, hil, hnn, hi, hfix, hfst, hbig, q⟩ := h
    rfl
  obtain ⟨m, M, e, i, rfl, hM, hok, he, hil, hnn, hi, hfix, hfst, hbig, q⟩ := h
  refine ⟨_, (pss_cons (ps_set (i := 2) sc_law_rounds.nd rfl (by first | exact Or.inl rfl | exact Or.inr rfl) (pe_lst (pa_cons (pe_meth (pv 0) T.cl_Market D_Market_direct.m G_Market_direct (hr.mono (by first | decide | omega)) D_Market_direct.b .nil passL (pa_cons (pv 1) pa_nil)) pa_nil)))
      (pss_cons (ps_for PassesOwn.never rfl (pi_range1 (by rfl) T.range (pa_cons pe_int pa_nil)) (pg_name (i := 3) sc_law_rounds.nd rfl (by first | exact Or.inl rfl | exact Or.inr rfl))
      (pss_cons (ps_set (i := 4) sc_law_rounds.nd rfl (by first | exact Or.inl rfl | exact Or.inr rfl) (pe_call G_law_next (hr.mono (by first | decide | omega)) rfl D_law_next.m D_law_next.F.kp D_law_next.b .nil pass0 (pa_cons (pv 0) (pa_cons (pv 1) (pa_cons (pe_ix (r := rIxL K) ix_list (pv 2) (pe_un un_neg pe_int) (fun _ _ => rfl)) pa_nil)))))
      (pss_cons (ps_if (pt_cmpR (op_eqD hr.units) (pv 4) (pe_ix (r := rIxL K) ix_list (pv 2) (pe_un un_neg pe_int) (fun _ _ => rfl)) (nomark _))
      (pss_one (ps_ret (pv 2)))
      pss_nil)
      (pss_one (ps_expr (pe_bm PySem.F.plainAttrs_list PySem.F.slot_list_append PySem.F.type_list_append mt_append (pv 2) (pa_cons (pv 4) pa_nil)))))))
      (pss_one (ps_ret (pv 2))))), ?_⟩
  obtain ⟨dx, ai, ae, at', ad, h0, _⟩ := id hM
  have hfl := hok.few
  obtain ⟨ds, hds⟩ : ∃ ds, directs M.ins M.los e = ds := ⟨_, rfl⟩
  have hdl : ds.length = M.ins.length := by
    rw [← hds]
    exact List.length_map ..
  have htop := row_top hok hnn hbig
  rw [hds] at q hfix hfst hbig hnn htop
  refine seq_to (asg_to ⟨_, rfl, m, dx, _, rfl, h0, mf_no (by decide +kernel), _, rfl, m, M, e, rfl, hM, hfl, .inl ⟨he, fun p0 H1 s1 np0 hp0 => ⟨sz (by show 1 ≤ 100000; decide), fun D nD1 => ?_⟩⟩⟩)
  have nD : H D = none := s1.free nD1
  have t2 := same_new (o := .lst [.ref p0]) nD1
  have s2 := s1.trans t2
  rw [hds] at hp0
  have hA2 : AllAt (RowR K) (upd H1 D (.lst [.ref p0])) [.ref p0] ((List.range (0 + 1)).map (row M.ins M.trs ds)) := AllAt.add (R := RowR K) (ys := []) (ls := []) AllAt.nil ⟨p0, rfl, SqT.of (t2 _ _ hp0)⟩
  have hD2 : upd H1 D (.lst [.ref p0]) D = some (.lst [.ref p0]) := upd_same
  obtain ⟨H2, e2⟩ : ∃ H2, upd H1 D (.lst [.ref p0]) = H2 := ⟨_, rfl⟩
  rw [e2] at s2 hD2 hA2 ⊢
  clear e2 t2
  dsimp only
  refine nx_to ?_
  generalize hw : List.set _ _ _ = w0
  have ew : w0 = [some (.ref m), some (.str e), some (.ref D), none, none] := by
    rw [← hw]
    kernel_rfl
  clear hw
  subst ew
  refine seq_to ⟨202, rfl, by decide, by decide, ?_⟩
  refine for_range (lo := 0) (n := 202) (fun j σ H' => ∃ (v3 v4 : Option V) (ys : List V), σ = [some (.ref m), some (.str e), some (.ref D), v3, v4] ∧ Same H H' ∧ H' D = some (.lst ys) ∧ AllAt (RowR K) H' ys ((List.range (j + 1)).map (row M.ins M.trs ds)) ∧ j ≤ i) ⟨none, none, _, rfl, s2, hD2, hA2, Nat.zero_le _⟩ ?_ ?_
  · rintro j σ H' hj ⟨v3, v4, ys, rfl, sm, hD, hA, hji⟩
    obtain ⟨zs, b, eys, hb⟩ := last_is hA
    have hlast : atI ys (-1) = some (.ref b) := by
      rw [eys]
      exact atI_last _ _
    have rl := row_len (ins := M.ins) (ts := M.trs) hdl j
    refine seq_to (asg_to ⟨_, rfl, _, rfl, _, rfl, 1, rfl, D, _, _, .ref b, rfl, rfl, SqL.of hD, hlast, m, b, M, e, row M.ins M.trs ds j, rfl, MktAt.same sm hM, hok, he, hb, rl, fun x hx => ?_, hil, fun p H3 s3 np hp => ?_⟩)
    · have := htop j hji x hx
      omega
    rw [hds] at hp
    have hp : H3 p = some (.tup ((row M.ins M.trs ds (j + 1)).map V.int)) := hp
    dsimp only
    refine nx_to ?_
    have hD3 := s3 _ _ hD
    refine seq_to ⟨_, rfl, _, rfl, 1, rfl, D, _, _, .ref b, rfl, rfl, SqL.of hD3, hlast, _, _, .tup (SqT.of hp) (DpAll.ints _), .tup (same_sqt s3 hb) (DpAll.ints _), shp_ints _, shp_ints _, _, rfl, ?_⟩
    rw [eqv_tup]
    refine iteB (fun c => ?_) (fun c => ?_)
    · have c' : row M.ins M.trs ds (j + 1) = row M.ins M.trs ds j := of_decide_eq_true c
      have ej : j = i := by
        by_cases h : j < i
        · exact absurd c' (hfst j h)
        · omega
      subst ej
      exact ⟨_, rfl, q D ys H3 (sm.trans s3) nD hD3 (AllAt.same (R := RowR K) (fun e r => RowR.same e r) s3 hA)⟩
    · have c' : ¬ row M.ins M.trs ds (j + 1) = row M.ins M.trs ds j := of_decide_eq_false c
      have hji' : j < i := by
        by_cases h : j = i
        · rw [h] at c'
          exact absurd hfix c'
        · omega
      have la := hA.1
      rw [List.length_map, List.length_range] at la
      refine ⟨_, rfl, .inl ⟨rfl, _, SqL.of hD3⟩, _, rfl, D, _, _, rfl, rfl, hD3, szl (by omega), ?_⟩
      refine ⟨_, _, _, rfl, same_put (sm.trans s3) nD, upd_same, ?_, by omega⟩
      rw [List.range_succ, List.map_append]
      exact AllAt.imp (S := RowR K) (AllAt.add (AllAt.same (R := RowR K) (fun e r => RowR.same e r) s3 hA) ⟨p, rfl, SqT.of hp⟩) fun y r h => RowR.put hD3 h
  · rintro σ H' ⟨v3, v4, ys, rfl, sm, hD, hA, hji⟩
    exfalso
    omega

theorem ok_law_turned {f : Addr} {fd : FuncData} (D_law_turned : Dfn K mg "_law_turned" s_law_turned ["paper", "digits", "at"] f fd) (T : Tx K mg C_SpiralError C_BadName C_BadCover C_BadPanel C_BadAmount C_NameTaken C_NoSuchName C_Twice C_OwnPanel C_TooMany C_NoEnd C_Market) {n:Nat} (IH:FnOk P w K mg base CX0 (n+1) f fd ["paper","digits","at"] (sp_lw_turned K n)) :
    FnOk P w K mg base CX0 (n+2) f fd ["paper", "digits", "at"] (sp_lw_turned K (n+1)) := by
  refine D_law_turned.F.ok sc_law_turned (fun vs H Q E h => ?_) (fun cdv A outer s H vs Q E hr h => ?_)
  · obtain ⟨x, o, d, ds, a0, rfl, hx, hgd, hN, hnn, hat, hdl, q⟩ := h
    rfl
  obtain ⟨x, o, d, ds, a0, rfl, hx, hgd, hN, hnn, hat, hdl, q⟩ := h
  refine ⟨_, (pss_cons (ps_if (PW.pt (pw_and (pt_val (pe_callB call_isi (by rfl) T.isinstance (by decide +kernel) (pa_cons (pv 0) (pa_cons (pe_bltn (v := .ty "tuple") (by rfl) T.tuple (by decide +kernel) rfl) pa_nil)))) (pw_and (pt_cmpR op_gt (pe_callB call_len_seq (by rfl) T.len PySem.boot_len (pa_cons (pv 0) pa_nil)) pe_int (nomark _)) (pw_and (pt_cmpR op_gt (pe_op op_mod (pe_ix (r := rIxL K) ix_list (pv 1) (pv 2) (fun _ _ => rfl)) pe_int) pe_int (nomark _)) (pw_and1 (pt_cmpR op_lt (pe_op op_add (pv 2) pe_int) (pe_callB call_len_seq (by rfl) T.len PySem.boot_len (pa_cons (pv 1) pa_nil)) (nomark _)))))))
      (pss_cons (ps_set (i := 3) sc_law_turned.nd rfl (by first | exact Or.inl rfl | exact Or.inr rfl) (pe_op op_mod (pe_op op_fdiv (pe_ix (r := rIxL K) ix_list (pv 1) (pv 2) (fun _ _ => rfl)) pe_int) (pe_callB call_len_seq (by rfl) T.len PySem.boot_len (pa_cons (pv 0) pa_nil))))
      (pss_one (ps_ret (pe_op op_catA (pe_op op_catA (pe_slice sl_tupA (pv 0) po_none (po_some (pv 3))) (pe_tup (pa_cons (pe_call IH hr rfl D_law_turned.m D_law_turned.F.kp D_law_turned.b .nil pass0 (pa_cons (pe_ix (r := rIxT K) ix_tup (pv 0) (pv 3) (fun _ _ => rfl)) (pa_cons (pv 1) (pa_cons (pe_op op_add (pv 2) pe_int) pa_nil)))) pa_nil))) (pe_slice sl_tupA (pv 0) (po_some (pe_op op_add (pv 3) pe_int)) po_none)))))
      pss_nil)
      (pss_cons (ps_set (i := 4) sc_law_turned.nd rfl (by first | exact Or.inl rfl | exact Or.inr rfl) (pe_ifExp (pt_val (pe_callB call_isi (by rfl) T.isinstance (by decide +kernel) (pa_cons (pv 0) (pa_cons (pe_bltn (v := .ty "int") (by rfl) T.int (by decide +kernel) rfl) pa_nil)))) (pe_op op_sub (pe_op op_add (pv 0) (pe_op op_mod (pe_ix (r := rIxL K) ix_list (pv 1) (pv 2) (fun _ _ => rfl)) pe_int)) pe_int) pe_str))
      (pss_cons (ps_set (i := 5) sc_law_turned.nd rfl (by first | exact Or.inl rfl | exact Or.inr rfl) (pe_lst (pa_cons (pv 4) (pa_cons pe_int (pa_cons pe_int (pa_cons pe_int (pa_cons pe_str (pa_cons pe_str (pa_cons pe_str (pa_cons pe_non (pa_cons (pe_tup pa_nil) (pa_cons pe_str (pa_cons pe_str (pa_cons (pv 0) (pa_cons (pe_un un_neg pe_int) (pa_cons (pv 4) (pa_cons (pv 4) pa_nil)))))))))))))))))
      (pss_one (ps_ret (pe_ix (r := rIxL K) ix_list (pv 5) (pe_op op_mod (pe_ix (r := rIxL K) ix_list (pv 1) (pe_op op_add (pv 2) pe_int) (fun _ _ => rfl)) (pe_callB call_len_seq (by rfl) T.len PySem.boot_len (pa_cons (pv 5) pa_nil))) (fun _ _ => rfl))))))), ?_⟩
  have dg : ∀ j, j < ds.length → ∃ v, 0 ≤ v ∧ atI (ds.map V.int) (j : Nat) = some (.int v) := fun j hj => ⟨ds[j], hnn _ (List.getElem_mem _), atI_nat (at_map (List.getElem?_eq_getElem hj))⟩
  obtain ⟨v0, p0, at0⟩ := dg a0 (by omega)
  obtain ⟨v1, p1, at1⟩ := dg (a0 + 1) (by omega)
  obtain ⟨t, ty, hkT, _, hkI⟩ := dp_cls hx
  refine with_rest (t := tIfS _ _ _) (u := tSeq _ _) (fun σ' H' => σ' = [some x, some (.ref o), some (.int (a0 : Int)), none, none, none] ∧ H' = H) ?_ (fun R0 => ?_)
  · rintro σ' H' ⟨rfl, rfl⟩
    refine seq_to (asg_to ?_)
    generalize hQ : (fun (x : V) (H1 : Hp) => gName 4 x _ H1 _) = Q0
    have fin : ∀ mv md, (∀ H2, Dp K H2 mv md) → gt (n + 1) md = true → Q0 mv H' := fun mv md hmv hgm => by
      rw [← hQ]
      refine nx_to ?_
      generalize hw : List.set _ _ _ = w0
      have ew : w0 = [some x, some (.ref o), some (.int (a0 : Int)), none, some mv, none] := by
        rw [← hw]
        kernel_rfl
      clear hw hQ
      subst ew
      have o1 := rel_same H'
      have ym : YR Same [some x, some (.ref o), some (.int (a0 : Int)), none, some mv, none] (tVar 4) H' (fun H x => Dp K H x md) := yr_var o1 rfl fun H _ => hmv H
      refine seq_to (asg_to (yr_lstT (ds := tnD md d) (K := K) o1 (yra_cons o1 ym (yra_cons o1 yr_int (yra_cons o1 yr_int (yra_cons o1 yr_int (yra_cons o1 yr_str (yra_cons o1 yr_str (yra_cons o1 yr_str (yra_cons o1 yr_non (yra_cons o1 (yr_tup o1 yra_nil (Nat.le_of_ble_eq_true rfl)) (yra_cons o1 yr_str (yra_cons o1 yr_str (yra_cons o1 (yr_var o1 rfl fun H r => Dp.to r hx) (yra_cons o1 (fun H Q r q => ⟨1, rfl, q (.int (-1)) H (Same.refl _) fun _ _ => .int _⟩) (yra_cons o1 ym (yra_cons o1 ym yra_nil))))))))))))))) (Nat.le_of_ble_eq_true rfl) (Same.refl _) fun l xs H1 s1 nl hl hXs => ?_))
      have hxs := hXs H1 (Same.refl _)
      have xl : xs.length = 15 := DpAll.len hxs
      dsimp only
      refine nx_to ?_
      have pos : (0 : Int) < ((xs.length : Nat) : Int) := by omega
      have e1 := Int.emod_nonneg v1 (show ((xs.length : Nat) : Int) ≠ 0 by omega)
      have e2 := Int.emod_lt_of_pos v1 pos
      obtain ⟨k, hk⟩ : ∃ k : Nat, v1 % ((xs.length : Nat) : Int) = (k : Int) := ⟨(v1 % ((xs.length : Nat) : Int)).toNat, by omega⟩
      obtain ⟨y, hy⟩ : ∃ y, xs[k]? = some y := ⟨_, List.getElem?_eq_getElem (by omega)⟩
      obtain ⟨d', hd', hD⟩ := DpAll.at hxs hy
      refine ⟨_, rfl, _, rfl, _, rfl, _, _, rfl, rfl, o, _, _, .int v1, rfl, rfl, SqL.of (s1 _ _ hN), at1, _, rfl, l, xs, rfl, .inl (SqL.of hl), _, _, rfl, rfl, pos, l, xs, _, y, rfl, rfl, SqL.of hl, by rw [hk]; exact atI_nat hy, ?_⟩
      exact q y d' H1 s1 hD (tnD_gt hgm hgd d' (List.mem_of_getElem? hd'))
    refine ⟨_, rfl, _, _, _, _, _, rfl, .ty _, ty, hkI, _, rfl, ?_⟩
    cases hI : dInt d with
    | false => exact iteF (fin (.str "ada") (.str "ada") (fun _ => .str _) (by show PyData.strOk "ada" = true; decide +kernel))
    | true =>
      cases hx with
      | int i => exact iteT ⟨_, rfl, _, rfl, _, rfl, o, _, _, .int v0, rfl, rfl, SqL.of hN, at0, _, _, rfl, rfl, (by show (0 : Int) < 5; decide), _, _, rfl, rfl, _, _, rfl, rfl, fin (.int _) (.int _) (fun _ => .int _) rfl⟩
      | bl b => cases hgd
      | non => cases hI
      | str s => cases hI
      | lst _ _ => cases hI
      | tup _ _ => cases hI
  cases hT : dTup d with
  | false =>
    rw [hT] at hkT
    exact ⟨_, rfl, _, _, _, _, _, rfl, .ty _, ty, hkT, _, rfl, iteF (R0 _ _ ⟨rfl, rfl⟩)⟩
  | true =>
  rw [hT] at hkT
  obtain ⟨a, xs, es, rfl, rfl, hS, hA⟩ := dp_tupI hx hT
  have hxl := DpAll.len hA
  refine ⟨_, rfl, _, _, _, _, _, rfl, .ty _, ty, hkT, _, rfl, iteT ⟨_, rfl, a, xs, rfl, .inr hS, _, _, rfl, rfl, _, rfl, ?_⟩⟩
  by_cases hz : es.length = 0
  · exact iteF' (decide_eq_false (by omega)) (R0 _ _ ⟨rfl, rfl⟩)
  refine iteT' (decide_eq_true (by omega)) ⟨_, rfl, _, rfl, o, _, _, .int v0, rfl, rfl, SqL.of hN, at0, _, _, rfl, rfl, (by show (0 : Int) < 6; decide), _, _, rfl, rfl, _, rfl, iteB (fun _ => ?_) (fun _ => R0 _ _ ⟨rfl, rfl⟩)⟩
  refine ⟨_, rfl, _, _, rfl, rfl, _, rfl, o, _, rfl, .inl (SqL.of hN), _, _, rfl, rfl, _, rfl, iteB (fun c => ?_) (fun _ => R0 _ _ ⟨rfl, rfl⟩)⟩
  have c' : (a0 : Int) + 2 < (((ds.map V.int).length : Nat) : Int) := of_decide_eq_true c
  rw [List.length_map] at c'
  have pos : (0 : Int) < ((xs.length : Nat) : Int) := by omega
  have e1 := Int.emod_nonneg (v0 / 6) (show ((xs.length : Nat) : Int) ≠ 0 by omega)
  have e2 := Int.emod_lt_of_pos (v0 / 6) pos
  obtain ⟨k, hk⟩ : ∃ k : Nat, (v0 / 6) % ((xs.length : Nat) : Int) = (k : Int) := ⟨((v0 / 6) % ((xs.length : Nat) : Int)).toNat, by omega⟩
  refine seq_to (asg_to ⟨_, rfl, _, rfl, o, _, _, .int v0, rfl, rfl, SqL.of hN, at0, _, _, rfl, rfl, ⟨by decide, by decide⟩, _, rfl, a, xs, rfl, .inr hS, _, _, rfl, rfl, pos, ?_⟩)
  dsimp only
  rw [hk]
  refine nx_to ?_
  generalize hw : List.set _ _ _ = w0
  have ew : w0 = [some (.ref a), some (.ref o), some (.int (a0 : Int)), some (.int (k : Int)), none, none] := by
    rw [← hw]
    kernel_rfl
  clear hw
  subst ew
  obtain ⟨y, hy⟩ : ∃ y, xs[k]? = some y := ⟨_, List.getElem?_eq_getElem (by omega)⟩
  obtain ⟨dy, hdy, hDy⟩ := DpAll.at hA hy
  obtain ⟨_, n', en, hgs⟩ := gt_len hgd
  have en : n' = n := (Nat.succ.inj en).symm
  subst en
  refine ⟨_, rfl, ?_⟩
  dsimp only [tNoPart]
  refine ⟨_, rfl, _, rfl, slA_gen hS fun A H1 s1 hA1 => ?_⟩
  rw [cut_to] at hA1
  refine ⟨_, rfl, _, rfl, a, xs, _, y, rfl, rfl, same_sqt s1 hS, atI_nat hy, _, rfl, _, rfl, _, _, rfl, rfl, y, o, dy, ds, a0 + 1, rfl, Dp.to s1 hDy, hgs dy (List.mem_of_getElem? hdy), s1 _ _ hN, hnn, by omega, hdl, fun z dz H2 s2 hDz hgz => ?_⟩
  refine ⟨sz (by show 1 ≤ 100000; decide), fun t2 nt2 => ?_⟩
  have st := same_new (o := .tup [z]) nt2
  have s12 := s2.trans st
  have hxl5 := (gt_len hgd).1
  refine cat_any (same_sqt s12 hA1) (SqT.of upd_same) (sz (by rw [List.length_take]; show min k xs.length + 1 ≤ 100000; omega)) fun A2 H3 s3 hA2 => ?_
  have s13 := s1.trans (s12.trans s3)
  refine ⟨_, rfl, _, rfl, _, _, rfl, rfl, _, rfl, ?_⟩
  dsimp only [tNoPart]
  refine slA_gen (same_sqt s13 hS) fun A4 H4 s4 hA4 => ?_
  rw [show ((k : Int) + 1) = ((k + 1 : Nat) : Int) by omega, cut_from] at hA4
  refine cat_any (same_sqt s4 hA2) hA4 (sz (by rw [List.length_append, List.length_take, List.length_drop]; show min k xs.length + 1 + (xs.length - (k + 1)) ≤ 100000; omega)) fun A5 H5 s5 hA5 => ?_
  have s15 := s13.trans (s4.trans s5)
  refine q (.ref A5) (.tuple (es.take k ++ [dz] ++ es.drop (k + 1))) H5 s15 (.tup hA5 ?_) (gt_set hgd hgz (by omega))
  exact DpAll.app (DpAll.app (DpAll.take k (DpAll.to s15 hA)) (.cons (Dp.to (st.trans (s3.trans (s4.trans s5))) hDz) .nil)) (DpAll.drop (k + 1) (DpAll.to s15 hA))

theorem ok_law_way {f : Addr} {fd : FuncData} (D_law_way : Dfn K mg "_law_way" s_law_way ["market", "event", "insurer"] f fd) (T : Tx K mg C_SpiralError C_BadName C_BadCover C_BadPanel C_BadAmount C_NameTaken C_NoSuchName C_Twice C_OwnPanel C_TooMany C_NoEnd C_Market) {f_law_rounds : Addr} {fd_law_rounds : FuncData} (D_law_rounds : Dfn K mg "_law_rounds" s_law_rounds ["market", "event"] f_law_rounds fd_law_rounds) (G_law_rounds : FnOk P w K mg base CX0 (6) f_law_rounds fd_law_rounds ["market", "event"] (sp_lw_rounds K C_Market)) {f_law_pays : Addr} {fd_law_pays : FuncData} (D_law_pays : Dfn K mg "_law_pays" s_law_pays ["market", "name", "loss"] f_law_pays fd_law_pays) (G_law_pays : FnOk P w K mg base CX0 (1) f_law_pays fd_law_pays ["market", "name", "loss"] (sp_lw_pays K C_Market)) {f_law_allocate : Addr} {fd_law_allocate : FuncData} (D_law_allocate : Dfn K mg "_law_allocate" s_law_allocate ["amount", "shares"] f_law_allocate fd_law_allocate) (G_law_allocate : FnOk P w K mg base CX0 (1) f_law_allocate fd_law_allocate ["amount", "shares"] (sp_lw_alloc K)) :
    FnOk P w K mg base CX0 (7) f fd ["market", "event", "insurer"] (sp_lw_way K C_Market) := by
  refine D_law_way.F.ok sc_law_way (fun vs H Q E h => ?_) (fun cdv A outer s H vs Q E hr h => ?_)
  · obtain ⟨m, M, e, z, k, i, rfl, hM, hg, he, hk, hi, hfix, hfst, hbig, q1, q2⟩ := h
    rfl
  obtain ⟨m, M, e, z, k, i, rfl, hM, hg, he, hk, hi, hfix, hfst, hbig, q1, q2⟩ := h
  refine ⟨_, (pss_cons (ps_set (i := 3) sc_law_way.nd rfl (by first | exact Or.inl rfl | exact Or.inr rfl) (pe_callTy (call_dictP rfl) (by rfl) T.dict (by decide +kernel) (pa_cons (pe_lc (own := [("k", 14)]) (g := (gName 14)) (tt := tYes) rfl sc_law_way.nd (pi_range1 (by rfl) T.range (pa_cons (pe_callB call_len_seq (by rfl) T.len PySem.boot_len (pa_cons (pe_fld (pv 0) rfl) pa_nil)) pa_nil)) (blkOk_by (own := [("k", 14)]) (N := (["market", "event", "insurer", "gross", "passed", "name", "turn", "before", "behind", "more", "number", "panel", "one", "two", "k", "other", "shares"] : List Str)) (sc := defScope s_law_way) (by decide +kernel)) (fun _ _ _ _ _ => (pg_name (i := 14) sc_law_way.nd rfl (by first | exact Or.inl rfl | exact Or.inr rfl))) (fun _ _ _ _ _ => pts_nil) (fun _ _ _ _ _ => (pe_tup (pa_cons (pe_ix (r := rIxT K) ix_tup (pe_fldK (K := K) rfl (pv 0) rfl) (pv 14) (fun _ _ => rfl)) (pa_cons (pe_ix (r := rIxT K) ix_tup (pe_ix (r := rIxL K) ix_list (pe_call G_law_rounds (hr.mono (by first | decide | omega)) rfl D_law_rounds.m D_law_rounds.F.kp D_law_rounds.b .nil pass0 (pa_cons (pv 0) (pa_cons (pv 1) pa_nil))) (pe_un un_neg pe_int) (fun _ _ => rfl)) (pv 14) (fun _ _ => rfl)) pa_nil))))) pa_nil)))
      (pss_cons (ps_set (i := 4) sc_law_way.nd rfl (by first | exact Or.inl rfl | exact Or.inr rfl) (pe_lst pa_nil))
      (pss_cons (ps_set (i := 5) sc_law_way.nd rfl (by first | exact Or.inl rfl | exact Or.inr rfl) (pv 2))
      (pss_cons (ps_for PassesOwn.never rfl (pi_range1 (by rfl) T.range (pa_cons pe_int pa_nil)) (pg_name (i := 6) sc_law_way.nd rfl (by first | exact Or.inl rfl | exact Or.inr rfl))
      (pss_cons (ps_set (i := 7) sc_law_way.nd rfl (by first | exact Or.inl rfl | exact Or.inr rfl) (pe_ix (r := rIxT K) ix_tup (pe_call G_law_pays (hr.mono (by first | decide | omega)) rfl D_law_pays.m D_law_pays.F.kp D_law_pays.b .nil pass0 (pa_cons (pv 0) (pa_cons (pv 5) (pa_cons (pe_dget (hu_of hr) (pv 3) (pv 5) (fun _ _ => rfl)) pa_nil)))) pe_int (fun _ _ => rfl)))
      (pss_cons (ps_set (i := 8) sc_law_way.nd rfl (by first | exact Or.inl rfl | exact Or.inr rfl) (pe_ix (r := rIxT K) ix_tup (pe_call G_law_pays (hr.mono (by first | decide | omega)) rfl D_law_pays.m D_law_pays.F.kp D_law_pays.b .nil pass0 (pa_cons (pv 0) (pa_cons (pv 5) (pa_cons (pe_op op_add (pe_dget (hu_of hr) (pv 3) (pv 5) (fun _ _ => rfl)) pe_int) pa_nil)))) pe_int (fun _ _ => rfl)))
      (pss_cons (ps_lock (ps_setLc (i := 9) (own := [("number", 10)]) (g := (gName 10)) rfl sc_law_way.nd rfl rfl (sw_true rfl rfl rfl (by decide +kernel)) (pi_keys (pv 7)) (blkOk_by (own := [("number", 10)]) (N := (["market", "event", "insurer", "gross", "passed", "name", "turn", "before", "behind", "more", "number", "panel", "one", "two", "k", "other", "shares"] : List Str)) (sc := defScope s_law_way) (by decide +kernel)) (fun _ _ _ _ _ => (pg_name (i := 10) sc_law_way.nd rfl (by first | exact Or.inl rfl | exact Or.inr rfl))) (fun _ _ _ _ _ => (pts_one (pt_cmpR op_gt (pe_dget (hu_of hr) (pv 8) (pv 10) (fun _ _ => rfl)) (pe_dget (hu_of hr) (pv 7) (pv 10) (fun _ _ => rfl)) (nomark _)))) (fun _ _ _ _ _ => (pv 10))))
      (pss_cons (ps_if (pt_cmpR op_eq (pe_callB call_len_seq (by rfl) T.len PySem.boot_len (pa_cons (pv 9) pa_nil)) pe_int (nomark _))
      (pss_one (ps_ret (pe_tup (pa_cons (pe_callTy call_tuple_of (by rfl) T.tuple (by decide +kernel) (pa_cons (pv 4) pa_nil)) (pa_cons (pe_tup (pa_cons pe_str (pa_cons (pv 5) pa_nil))) pa_nil)))))
      pss_nil)
      (pss_cons (ps_set (i := 10) sc_law_way.nd rfl (by first | exact Or.inl rfl | exact Or.inr rfl) (pe_ix (r := rIxL K) ix_list (pv 9) pe_int (fun _ _ => rfl)))
      (pss_cons (ps_dput (hu_of hr) (pv 3) (pv 5) (pe_op op_add (pe_dget (hu_of hr) (pv 3) (pv 5) (fun _ _ => rfl)) pe_int) rfl)
      (pss_cons (ps_expr (pe_bm PySem.F.plainAttrs_list PySem.F.slot_list_append PySem.F.type_list_append mt_append (pv 4) (pa_cons (pe_tup (pa_cons (pv 5) (pa_cons (pv 10) pa_nil))) pa_nil)))
      (pss_cons (ps_set (i := 11) sc_law_way.nd rfl (by first | exact Or.inl rfl | exact Or.inr rfl) (pe_ix (r := rIxT K) ix_tup (pe_ix (r := rIxT K) ix_tup (pe_fld (pv 0) rfl) (pv 10) (fun _ _ => rfl)) pe_int (fun _ _ => rfl)))
      (pss_cons (ps_set (i := 12) sc_law_way.nd rfl (by first | exact Or.inl rfl | exact Or.inr rfl) (pe_call G_law_allocate (hr.mono (by first | decide | omega)) rfl D_law_allocate.m D_law_allocate.F.kp D_law_allocate.b .nil pass0 (pa_cons (pe_dget (hu_of hr) (pv 7) (pv 10) (fun _ _ => rfl)) (pa_cons (pe_lc (own := [("other", 15), ("shares", 16)]) (g := (gTup K 2 (gCons (gName 15) (gCons (gName 16) gNil)))) (tt := tYes) rfl sc_law_way.nd (pi_tup (pv 11)) (blkOk_by (own := [("other", 15), ("shares", 16)]) (N := (["market", "event", "insurer", "gross", "passed", "name", "turn", "before", "behind", "more", "number", "panel", "one", "two", "k", "other", "shares"] : List Str)) (sc := defScope s_law_way) (by decide +kernel)) (fun _ _ _ _ _ => (pg_tup rfl (pgs_cons (pg_name (i := 15) sc_law_way.nd rfl (by first | exact Or.inl rfl | exact Or.inr rfl)) (pgs_cons (pg_name (i := 16) sc_law_way.nd rfl (by first | exact Or.inl rfl | exact Or.inr rfl)) pgs_nil)))) (fun _ _ _ _ _ => pts_nil) (fun _ _ _ _ _ => (pv 16))) pa_nil))))
      (pss_cons (ps_set (i := 13) sc_law_way.nd rfl (by first | exact Or.inl rfl | exact Or.inr rfl) (pe_call G_law_allocate (hr.mono (by first | decide | omega)) rfl D_law_allocate.m D_law_allocate.F.kp D_law_allocate.b .nil pass0 (pa_cons (pe_op op_add (pe_dget (hu_of hr) (pv 7) (pv 10) (fun _ _ => rfl)) pe_int) (pa_cons (pe_lc (own := [("other", 15), ("shares", 16)]) (g := (gTup K 2 (gCons (gName 15) (gCons (gName 16) gNil)))) (tt := tYes) rfl sc_law_way.nd (pi_tup (pv 11)) (blkOk_by (own := [("other", 15), ("shares", 16)]) (N := (["market", "event", "insurer", "gross", "passed", "name", "turn", "before", "behind", "more", "number", "panel", "one", "two", "k", "other", "shares"] : List Str)) (sc := defScope s_law_way) (by decide +kernel)) (fun _ _ _ _ _ => (pg_tup rfl (pgs_cons (pg_name (i := 15) sc_law_way.nd rfl (by first | exact Or.inl rfl | exact Or.inr rfl)) (pgs_cons (pg_name (i := 16) sc_law_way.nd rfl (by first | exact Or.inl rfl | exact Or.inr rfl)) pgs_nil)))) (fun _ _ _ _ _ => pts_nil) (fun _ _ _ _ _ => (pv 16))) pa_nil))))
      (pss_cons (ps_set (i := 5) sc_law_way.nd rfl (by first | exact Or.inl rfl | exact Or.inr rfl) (pe_ix (r := rIxL K) ix_list (pe_lc (own := [("k", 14)]) (g := (gName 14)) rfl sc_law_way.nd (pi_range1 (by rfl) T.range (pa_cons (pe_callB call_len_seq (by rfl) T.len PySem.boot_len (pa_cons (pv 11) pa_nil)) pa_nil)) (blkOk_by (own := [("k", 14)]) (N := (["market", "event", "insurer", "gross", "passed", "name", "turn", "before", "behind", "more", "number", "panel", "one", "two", "k", "other", "shares"] : List Str)) (sc := defScope s_law_way) (by decide +kernel)) (fun _ _ _ _ _ => (pg_name (i := 14) sc_law_way.nd rfl (by first | exact Or.inl rfl | exact Or.inr rfl))) (fun _ _ _ _ _ => (pts_one (pt_cmpR op_gt (pe_ix (r := rIxL K) ix_list (pv 13) (pv 14) (fun _ _ => rfl)) (pe_ix (r := rIxL K) ix_list (pv 12) (pv 14) (fun _ _ => rfl)) (nomark _)))) (fun _ _ _ _ _ => (pe_ix (r := rIxT K) ix_tup (pe_ix (r := rIxT K) ix_tup (pv 11) (pv 14) (fun _ _ => rfl)) pe_int (fun _ _ => rfl)))) pe_int (fun _ _ => rfl)))
      (pss_one (ps_if (pt_cmpR op_isN (pv 5) pe_non (nomark _))
      (pss_one (ps_ret (pe_tup (pa_cons (pe_callTy call_tuple_of (by rfl) T.tuple (by decide +kernel) (pa_cons (pv 4) pa_nil)) (pa_cons (pe_tup (pa_cons pe_str (pa_cons (pv 10) pa_nil))) pa_nil)))))
      pss_nil))))))))))))))
      (pss_one (ps_ret pe_non)))))), ?_⟩
  have hok := hg.ok
  have hil := hg.il
  have hdl : (directs M.ins M.los e).length = M.ins.length := List.length_map ..
  have hnn : NN (directs M.ins M.los e) := fun x hx => (dg_nn hg e x hx).1
  obtain ⟨fs, hfs⟩ : ∃ fs, row M.ins M.trs (directs M.ins M.los e) i = fs := ⟨_, rfl⟩
  have fl : fs.length = M.ins.length := by
    rw [← hfs]
    exact row_len hdl i
  have fb : ∀ x ∈ fs, 0 ≤ x ∧ x ≤ 55476 := fun x hx => by
    rw [← hfs] at hx
    exact dg_row hg e hi x hx
  obtain ⟨dx, ai, ae, at', ad, h0, h1, h2, h3, h4, h5⟩ := id hM
  refine seq_to (asg_to ⟨_, rfl, m, C_Market, dx, _, _, rfl, h0, T.cl_Market, T.no_Market_insurers, mf_i, ai, _, rfl, .inr h1, ((M.ins.length : Nat) : Int), by rw [List.length_map], by omega, by omega, ?_⟩)
  rw [show ((M.ins.length : Nat) : Int).toNat = M.ins.length by omega]
  intro D nD
  refine lc_range (lo := 0) (n := M.ins.length) (fun j Hx => Same H Hx ∧ ∃ us, Hx D = some (.lst us) ∧ AllAt (KvR K) Hx us ((pairsS M.ins fs).take j)) ⟨same_new nD, [], upd_same, AllAt.nil⟩ ?_ ?_
  · rintro j Hx hj ⟨sm, us, hD, hU⟩
    obtain ⟨u, hu⟩ : ∃ u, M.ins[j]? = some u := ⟨_, List.getElem?_eq_getElem hj⟩
    obtain ⟨g, hg1⟩ : ∃ g, fs[j]? = some g := ⟨_, List.getElem?_eq_getElem (by omega)⟩
    refine ⟨rfl, _, rfl, m, C_Market, dx, _, _, rfl, sm _ _ h0, T.cl_Market, T.no_Market_insurers, mf_i, _, rfl, ai, _, _, .str u, rfl, rfl, same_sqt sm h1, by rw [Int.zero_add]; exact atI_nat (by rw [List.getElem?_map, hu]; rfl), _, rfl, _, rfl, m, M, e, i, rfl, MktAt.same sm hM, hok, he, hil.1, hnn, hi, hfix, hfst, hbig, fun P ys H2 s2 nP hP hA => ?_⟩
    obtain ⟨zs, lb, eys, hlb⟩ := last_is hA
    rw [hfs] at hlb
    have hlast : atI ys (-1) = some (.ref lb) := by
      rw [eys]
      exact atI_last _ _
    have hul := hU.1
    rw [List.length_take] at hul
    refine ⟨1, rfl, P, ys, _, .ref lb, rfl, rfl, SqL.of hP, hlast, _, rfl, lb, _, _, .int g, rfl, rfl, hlb, by rw [Int.zero_add]; exact atI_nat (at_map hg1), sz (by show 2 ≤ 100000; decide), fun t nt => ?_⟩
    have e1 := s2.trans (same_new (o := .tup [.str u, .int g]) nt)
    have hD2 := e1 _ _ hD
    refine ⟨_, hD2, szl (by omega), same_put (sm.trans e1) nD, _, upd_same, ?_⟩
    rw [List.take_add_one, pairsS_get hu hg1]
    exact AllAt.imp (S := KvR K) (AllAt.add (AllAt.same (R := KvR K) (fun e r => KvR.same e r) e1 hU) (y := .ref t) (l := (.inr u, .int g)) ⟨t, rfl, SqT.of upd_same⟩) fun y r h => let ⟨b, h1, h2⟩ := h; ⟨b, h1, sqt_put hD2 h2⟩
  rintro H5 ⟨s5, us, hD5, hU5⟩
  have pl : (pairsS M.ins fs).length = M.ins.length := by
    unfold pairsS
    rw [List.length_map, List.length_zip]
    omega
  rw [List.take_of_length_le (by omega)] at hU5
  obtain ⟨as', rfl, hPr⟩ := paired_of hU5
  refine ⟨D, as', _, rfl, SqL.of hD5, hPr, fun G nG => ?_⟩
  have hmg : mergeK [] (pairsS M.ins fs) = pairsS M.ins fs := by
    rw [mergeK_new (kvs := []) (fun p _ q hq => (nomatch hq)) ?_]
    · rfl
    have e1 : (pairsS M.ins fs).map (·.1) = M.ins.map fun z => (.inr z : Key) := by
      unfold pairsS
      rw [List.map_map]
      have e2 : ((·.1) ∘ fun p : Str × Int => ((.inr p.1 : Key), V.int p.2)) = (fun z => (.inr z : Key)) ∘ Prod.fst := rfl
      rw [e2, ← List.map_map, List.map_fst_zip (by omega)]
    rw [e1]
    exact hok.nd.map (f := fun z => (.inr z : Key)) fun a b h e => h (Sum.inr.inj e)
  rw [hmg]
  have nHG : H G = none := s5.free nG
  have s6 : Same H (upd H5 G (.dK (pairsS M.ins fs))) := s5.trans (same_new nG)
  have hG6 : upd H5 G (.dK (pairsS M.ins fs)) G = some (.dK (pairsS M.ins fs)) := upd_same
  obtain ⟨H6, e6⟩ : ∃ H6, upd H5 G (.dK (pairsS M.ins fs)) = H6 := ⟨_, rfl⟩
  rw [e6] at s6 hG6 ⊢
  clear e6 hU5 hPr hD5 s5
  dsimp only
  refine nx_to ?_
  refine seq_to (asg_to ⟨sz (Nat.zero_le _), fun B nB => ?_⟩)
  have nHB : H B = none := s6.free nB
  have s7 := s6.trans (same_new (o := .lst []) nB)
  have hG7 := (same_new (o := .lst []) nB) _ _ hG6
  have hB7 : upd H6 B (.lst []) B = some (.lst []) := upd_same
  have nGB : G ≠ B := ne_of_none hG6 nB
  obtain ⟨H7, e7⟩ : ∃ H7, upd H6 B (.lst []) = H7 := ⟨_, rfl⟩
  rw [e7] at s7 hG7 hB7 ⊢
  clear e7
  dsimp only
  refine nx_to ?_
  refine seq_to (asg_to ⟨_, rfl, ?_⟩)
  dsimp only
  refine nx_to ?_
  generalize hw : List.set _ _ _ = w0
  have ew : w0 = [some (.ref m), some (.str e), some (.str z), some (.ref G), some (.ref B), some (.str z), none, none, none, none, none, none, none, none, none, none, none] := by
    rw [← hw]
    kernel_rfl
  clear hw
  subst ew
  rw [hfs] at q1 q2
  refine seq_to ⟨400, rfl, by decide, by decide, ?_⟩
  refine for_range (lo := 0) (n := 400) (fun t σ Hx => ∃ (v6 v7 v8 v9 v10 v11 v12 v13 : Option V) (gs : List Int) (c : Str) (k : Nat) (L0 : List (Str × Nat)) (us : List V), σ = [some (.ref m), some (.str e), some (.str z), some (.ref G), some (.ref B), some (.str c), v6, v7, v8, v9, v10, v11, v12, v13, none, none, none] ∧ Same H Hx ∧ Hx G = some (.dK (pairsS M.ins gs)) ∧ Hx B = some (.lst us) ∧ AllAt (PassR K) Hx us L0 ∧ L0.length = t ∧ gs.length = M.ins.length ∧ (∀ x ∈ gs, 0 ≤ x ∧ x ≤ 60000 + (t : Int)) ∧ M.ins[k]? = some c ∧
    (∀ L en, Way M.ins M.trs fs z L en → ∃ L1, L = L0 ++ L1 ∧ Way M.ins M.trs gs c L1 en) ∧ (∀ L1 en, Way M.ins M.trs gs c L1 en → Way M.ins M.trs fs z (L0 ++ L1) en)) ⟨_, _, _, _, _, _, _, _, fs, z, k, [], [], rfl, s7, hG7, hB7, AllAt.nil, rfl, fl, fun x hx => by have := fb x hx; omega, hk, fun L en h => ⟨L, rfl, h⟩, fun L1 en h => h⟩ ?_ ?_
  rotate_left
  · rintro σ Hx ⟨_, _, _, _, _, _, _, _, gs, c, k, L0, us, rfl, sx, hG, hB, hA, hl, _, _, _, w1, w2⟩
    exact q1 (fun L en h => by
      obtain ⟨L1, rfl, _⟩ := w1 L en h
      rw [List.length_append]
      omega) Hx sx
  rintro t σ Hx ht ⟨v6, v7, v8, v9, v10, v11, v12, v13, gs, c, kc, L0, us, rfl, sx, hG, hB, hA, hl, gl, gb, hkc, w1, w2⟩
  obtain ⟨x, hx⟩ : ∃ x, gs[kc]? = some x := ⟨_, List.getElem?_eq_getElem (by have := (List.getElem?_eq_some_iff.mp hkc).1; omega)⟩
  have xb := gb x (List.mem_of_getElem? hx)
  have hMx := MktAt.same sx hM
  have gval : ∀ {Hy : Hp}, Hy G = some (.dK (pairsS M.ins gs)) → DGet Hy G (.str c) (some (.int x)) := fun h => .inl ⟨_, .inr c, .inl h, rfl, (pairsS_val hok.nd hkc hx).symm⟩
  have hcv : ∀ t ∈ M.trs, CvOk t.cov := fun t ht => (hok.ok t ht).c
  refine seq_to (asg_to ⟨_, rfl, _, rfl, _, rfl, _, rfl, G, _, rfl, gval hG, m, M, c, x, rfl, hMx, hok, fun p1 d1 H1 s1 nd1 hd1 hp1 => ?_⟩)
  refine ⟨p1, _, 0, .ref d1, rfl, rfl, SqT.of hp1, atI_nat (List.getElem?_cons_zero ..), ?_⟩
  dsimp only
  refine nx_to ?_
  have hG1 := s1 _ _ hG
  refine seq_to (asg_to ⟨_, rfl, _, rfl, _, rfl, _, rfl, G, _, rfl, gval hG1, _, _, rfl, rfl, m, M, c, x + 1, rfl, MktAt.same s1 hMx, hok, fun p2 d2 H2 s2 nd2 hd2 hp2 => ?_⟩)
  refine ⟨p2, _, 0, .ref d2, rfl, rfl, SqT.of hp2, atI_nat (List.getElem?_cons_zero ..), ?_⟩
  dsimp only
  refine nx_to ?_
  generalize hw : List.set _ _ _ = w0
  have ew : w0 = [some (.ref m), some (.str e), some (.str z), some (.ref G), some (.ref B), some (.str c), some (.int (0 + (t : Int))), some (.ref d1), some (.ref d2), v9, v10, v11, v12, v13, none, none, none] := by
    rw [← hw]
    kernel_rfl
  clear hw
  subst ew
  have hd12 := s2 _ _ hd1
  obtain ⟨ns, hns⟩ : ∃ ns, (actv c 0 M.trs).map (·.1) = ns := ⟨_, rfl⟩
  obtain ⟨as, has⟩ : ∃ as, (cedeP c M.trs x).1 = as := ⟨_, rfl⟩
  obtain ⟨bs, hbs⟩ : ∃ bs, (cedeP c M.trs (x + 1)).1 = bs := ⟨_, rfl⟩
  have hup : ns.Pairwise (· < ·) := by
    rw [← hns]
    exact actv_up
  have nlt : ∀ n ∈ ns, n < M.trs.length := fun n hn => by
    rw [← hns] at hn
    obtain ⟨q, hq, rfl⟩ := List.mem_map.mp hn
    have := (actv_ok (n := 0) hcv q hq).2
    omega
  have nsl : ns.length ≤ 1000 := by
    have h1 := actv_len c 0 M.trs
    have h2 := hok.len
    rw [← hns, List.length_map]
    omega
  have lna : as.length = ns.length := by
    rw [← has, ← hns]
    unfold cedeP
    rw [prog_len, List.length_map, List.length_map]
  have lnb : bs.length = ns.length := by
    rw [← hbs, ← hns]
    unfold cedeP
    rw [prog_len, List.length_map, List.length_map]
  have hfnd : fnd (ns.zip (as.zip bs)) = stepS c M.trs x := by
    have h := fnd_is (c := c) (ts := M.trs) 0 (x := x) hcv
    unfold tri at h
    have e1 : (stepS c M.trs x).map (fun e => (0 + e.1, e.2)) = stepS c M.trs x := by
      cases stepS c M.trs x with
      | none => rfl
      | some w =>
        show some (0 + w.1, w.2) = some w
        rw [Nat.zero_add]
    rw [e1] at h
    rw [← hns, ← has, ← hbs]
    exact h
  rw [hns, has] at hd12
  rw [hns, hbs] at hd2
  have kpl : (pairsK ns as).length = ns.length := by
    unfold pairsK
    rw [List.length_map, List.length_zip]
    omega
  have ndd : d1 ≠ d2 := ne_of_none hd1 nd2
  have nXd1 : Hx d1 = none := nd1
  have s02 := s1.trans s2
  refine seq_to ⟨d1, _, hd12, trivial, fun od => ?_⟩
  have hf1 : upd H2 d1 (.frz od (.dK (pairsK ns as))) d1 = some (.frz od (.dK (pairsK ns as))) := upd_same
  have hf2 : upd H2 d1 (.frz od (.dK (pairsK ns as))) d2 = some (.dK (pairsK ns bs)) := by
    rw [upd_ne ndd.symm]
    exact hd2
  have hk2 : ∀ b u, b ≠ d1 → H2 b = some u → upd H2 d1 (.frz od (.dK (pairsK ns as))) b = some u := fun b u n h => by
    rw [upd_ne n]
    exact h
  obtain ⟨H3, e3⟩ : ∃ H3, upd H2 d1 (.frz od (.dK (pairsK ns as))) = H3 := ⟨_, rfl⟩
  rw [e3] at hf1 hf2 hk2 ⊢
  clear e3
  refine asg_to ⟨_, rfl, d1, od, rfl, .inl ⟨_, hf1, fun F nF => lc_it (walk_keys (kvs := pairsK ns as)) (fun j Hy => Same H3 Hy ∧ Hy F = some (.lst ((flt ((ns.zip (as.zip bs)).take j)).map fun n : Nat => V.int (n : Int)))) ⟨same_new nF, upd_same⟩ (fun j Hy _ z => z.1 _ _ hf1) ?_ ?_⟩⟩
  · rintro j v Hy Hz hj ⟨sy, hF⟩ ⟨rfl, kk, vv, hkv, rfl⟩
    rw [kpl] at hj
    obtain ⟨n, hn⟩ : ∃ n, ns[j]? = some n := ⟨_, List.getElem?_eq_getElem hj⟩
    obtain ⟨u, hu⟩ : ∃ u, as[j]? = some u := ⟨_, List.getElem?_eq_getElem (by omega)⟩
    obtain ⟨u2, hu2⟩ : ∃ u, bs[j]? = some u := ⟨_, List.getElem?_eq_getElem (by omega)⟩
    rw [pairsK_get hn hu] at hkv
    cases Option.some.inj hkv
    have hl3 : (ns.zip (as.zip bs))[j]? = some (n, u, u2) := List.getElem?_zip_eq_some.mpr ⟨hn, List.getElem?_zip_eq_some.mpr ⟨hu, hu2⟩⟩
    have hfa := flt_add hl3
    have hfl : (flt ((ns.zip (as.zip bs)).take j)).length ≤ j := by
      unfold flt
      rw [List.length_map]
      exact Nat.le_trans (List.length_filter_le ..) (by rw [List.length_take]; omega)
    refine ⟨by kernel_rfl, _, rfl, _, rfl, d2, .int u2, rfl, .inl ⟨_, .inl (n : Int), .inl (sy _ _ hf2), rfl, (pairsK_val hup hn hu2).symm⟩, _, rfl, _, rfl, d1, .int u, rfl, .inl ⟨_, .inl (n : Int), .inr ⟨od, sy _ _ hf1⟩, rfl, (pairsK_val hup hn hu).symm⟩, _, _, rfl, rfl, _, rfl, iteB (fun c => ?_) (fun c => ?_)⟩
    · rw [if_pos (of_decide_eq_true c)] at hfa
      refine ⟨_, rfl, _, hF, by rw [List.length_map]; exact szl (by omega), same_put sy nF, ?_⟩
      rw [upd_same, hfa, List.map_append]
      rfl
    · rw [if_neg (of_decide_eq_false c)] at hfa
      refine ⟨sy, ?_⟩
      rw [hfa]
      exact hF
  rintro H4 ⟨s4, hF⟩
  rw [kpl, List.take_of_length_le (by rw [List.length_zip]; omega)] at hF
  refine ⟨s4 _ _ hf1, ?_⟩
  dsimp only
  have s5 : Same Hx (upd H4 d1 (.dK (pairsK ns as))) := fun b u hb => by
    have n1 : b ≠ d1 := ne_of_none hb nXd1
    rw [upd_ne n1]
    exact s4 _ _ (hk2 b u n1 (s02 _ _ hb))
  have nFd : F ≠ d1 := (ne_of_none hf1 nF).symm
  have hF5 : upd H4 d1 (.dK (pairsK ns as)) F = some (.lst ((flt (ns.zip (as.zip bs))).map fun n : Nat => V.int (n : Int))) := by
    rw [upd_ne nFd]
    exact hF
  have hd5 : upd H4 d1 (.dK (pairsK ns as)) d1 = some (.dK (pairsK ns as)) := upd_same
  obtain ⟨H5, e5⟩ : ∃ H5, upd H4 d1 (.dK (pairsK ns as)) = H5 := ⟨_, rfl⟩
  rw [e5] at s5 hF5 hd5 ⊢
  clear e5 hF hf1 hf2 hk2 s4 hd12 hd2 hG1 hd1 hp1 hp2 s02 s1 s2
  have hG5 := s5 _ _ hG
  have hB5 := s5 _ _ hB
  have hA5 := AllAt.same (R := PassR K) (fun e r => PassR.same e r) s5 hA
  have hM5 := MktAt.same s5 hMx
  have usl : us.length = t := by rw [hA.1, hl]
  refine seq_to ⟨_, rfl, F, _, rfl, .inl (SqL.of hF5), rfl, _, rfl, ?_⟩
  cases hst : stepS c M.trs x with
  | none =>
    rw [hst] at hfnd
    refine iteT' (decide_eq_true (by rw [flt_none hfnd]; rfl)) ⟨_, rfl, B, us, rfl, .inl ⟨SqL.of hB5, fun P nP => ⟨_, rfl, sz (Nat.le_of_ble_eq_true rfl), fun f nf => ⟨sz (Nat.le_of_ble_eq_true rfl), fun r nr => ?_⟩⟩⟩⟩
    have u1 := same_new (o := .tup us) nP
    have u2 := same_new (o := .tup [.str "insurer", .str c]) nf
    have u3 := same_new (o := .tup [.ref P, .ref f]) nr
    have hw2 := w2 [] (.inl c) (.stop hkc hx hst)
    rw [List.append_nil] at hw2
    exact q2 L0 (.inl c) hw2 r P f us _ (sx.trans (s5.trans (u1.trans (u2.trans u3)))) upd_same (SqT.of (u3 _ _ (u2 _ _ upd_same))) (AllAt.same (R := PassR K) (fun e r => PassR.same e r) (u1.trans (u2.trans u3)) hA5) (SqT.of (u3 _ _ upd_same))
  | some na =>
  obtain ⟨n, av⟩ := na
  rw [hst] at hfnd
  obtain ⟨⟨fr, hfr⟩, jn, bv, hjn⟩ := flt_some hfnd
  obtain ⟨hjn1, hjn2⟩ := List.getElem?_zip_eq_some.mp hjn
  obtain ⟨hjn3, _⟩ := List.getElem?_zip_eq_some.mp hjn2
  rw [hfr] at hF5 ⊢
  refine iteF' (decide_eq_false fun h => by have := V.int.inj h; rw [List.length_map, List.length_cons] at this; omega) ?_
  refine next_to ?_
  dsimp only
  refine seq_to (asg_to ⟨_, rfl, F, _, 0, .int (n : Int), rfl, rfl, SqL.of hF5, atI_nat (List.getElem?_cons_zero ..), ?_⟩)
  dsimp only
  refine nx_to ?_
  have aval : ∀ {Hy : Hp}, Hy d1 = some (.dK (pairsK ns as)) → DGet Hy d1 (.int (n : Int)) (some (.int av)) := fun h => .inl ⟨_, .inl (n : Int), .inl h, rfl, (pairsK_val hup hjn1 hjn3).symm⟩
  have psz : (pairsS M.ins gs).length < sizeLine := szl (by unfold pairsS; rw [List.length_map, List.length_zip]; omega)
  refine seq_to ⟨_, rfl, _, rfl, G, _, rfl, gval hG5, _, _, rfl, rfl, _, rfl, _, rfl, G, _, rfl, .inl ⟨_, .inr c, hG5, rfl, psz, rfl⟩, ?_⟩
  rw [pairsS_put hok.nd hkc hx]
  dsimp only
  have nGd : G ≠ d1 := ne_of_none hG nXd1
  have nBd : B ≠ d1 := ne_of_none hB nXd1
  have s6' : Same H (upd H5 G (.dK (pairsS M.ins (gs.set kc (x + 1))))) := same_put (sx.trans s5) nHG
  have hG6' : upd H5 G (.dK (pairsS M.ins (gs.set kc (x + 1)))) G = some (.dK (pairsS M.ins (gs.set kc (x + 1)))) := upd_same
  have hB6 : upd H5 G (.dK (pairsS M.ins (gs.set kc (x + 1)))) B = some (.lst us) := by
    rw [upd_ne nGB.symm]
    exact hB5
  have hd6 : upd H5 G (.dK (pairsS M.ins (gs.set kc (x + 1)))) d1 = some (.dK (pairsK ns as)) := by
    rw [upd_ne nGd.symm]
    exact hd5
  have hA6 : AllAt (PassR K) (upd H5 G (.dK (pairsS M.ins (gs.set kc (x + 1))))) us L0 := AllAt.imp (S := PassR K) hA5 fun y r h => PassR.dk hG5 h
  obtain ⟨H6', e6⟩ : ∃ H6', upd H5 G (.dK (pairsS M.ins (gs.set kc (x + 1)))) = H6' := ⟨_, rfl⟩
  rw [e6] at s6' hG6' hB6 hd6 hA6 ⊢
  clear e6
  refine seq_to ⟨_, rfl, .inl ⟨rfl, _, SqL.of hB6⟩, _, rfl, _, rfl, sz (Nat.le_of_ble_eq_true rfl), fun t1 nt1 => ?_⟩
  have u1 := same_new (o := .tup [.str c, .int (n : Int)]) nt1
  have hB7' := u1 _ _ hB6
  refine ⟨B, us, .ref t1, rfl, rfl, hB7', szl (by omega), ?_⟩
  have hA7 : AllAt (PassR K) (upd (upd H6' t1 (.tup [.str c, .int (n : Int)])) B (.lst (us ++ [.ref t1]))) (us ++ [.ref t1]) (L0 ++ [(c, n)]) := AllAt.imp (S := PassR K) (AllAt.add (AllAt.same (R := PassR K) (fun e r => PassR.same e r) u1 hA6) (y := .ref t1) (l := (c, n)) ⟨t1, rfl, SqT.of upd_same⟩) fun y r h => let ⟨b, h1, h2⟩ := h; ⟨b, h1, sqt_put hB7' h2⟩
  have s7' : Same H (upd (upd H6' t1 (.tup [.str c, .int (n : Int)])) B (.lst (us ++ [.ref t1]))) := same_put (s6'.trans u1) nHB
  have hG8 : upd (upd H6' t1 (.tup [.str c, .int (n : Int)])) B (.lst (us ++ [.ref t1])) G = some (.dK (pairsS M.ins (gs.set kc (x + 1)))) := by
    rw [upd_ne nGB]
    exact u1 _ _ hG6'
  have hB8 : upd (upd H6' t1 (.tup [.str c, .int (n : Int)])) B (.lst (us ++ [.ref t1])) B = some (.lst (us ++ [.ref t1])) := upd_same
  have hd8 : upd (upd H6' t1 (.tup [.str c, .int (n : Int)])) B (.lst (us ++ [.ref t1])) d1 = some (.dK (pairsK ns as)) := by
    rw [upd_ne nBd.symm]
    exact u1 _ _ hd6
  obtain ⟨H8, e8⟩ : ∃ H8, upd (upd H6' t1 (.tup [.str c, .int (n : Int)])) B (.lst (us ++ [.ref t1])) = H8 := ⟨_, rfl⟩
  rw [e8] at hA7 s7' hG8 hB8 hd8 ⊢
  clear e8 hB7' hA6 hd6 hB6 hG6' s6' u1 hA5 hB5 hG5 hd5
  have hM8 := MktAt.same s7' hM
  obtain ⟨dx8, ai8, ae8, at8, ad8, g0, g1, g2, g3, g4, g5⟩ := id hM8
  obtain ⟨xs, hxS, hxA⟩ := g3
  obtain ⟨tr, htr⟩ : ∃ tr, M.trs[n]? = some tr := ⟨_, List.getElem?_eq_getElem (nlt n (List.mem_of_getElem? hjn1))⟩
  have hto := hok.ok tr (List.mem_of_getElem? htr)
  obtain ⟨en, hen, henm⟩ := who_is hto.p av
  obtain ⟨yt, hyt, a1, vc, vp, rfl, k1, k2, k3⟩ := hxA.2 n tr htr
  obtain ⟨pa, px, rfl, hpS, hpl, hpE⟩ := PanAt.ent k3
  dsimp only
  refine seq_to (asg_to ⟨_, rfl, m, C_Market, dx8, _, _, rfl, g0, T.cl_Market, T.no_Market_treaties, mf_t, _, rfl, at8, xs, _, .ref a1, rfl, rfl, hxS, atI_nat hyt, a1, _, 2, .ref pa, rfl, rfl, k1, rfl, ?_⟩)
  dsimp only
  refine nx_to ?_
  generalize hw : List.set _ _ _ = w0
  have ew : w0 = [some (.ref m), some (.str e), some (.str z), some (.ref G), some (.ref B), some (.str c), some (.int (0 + (t : Int))), some (.ref d1), some (.ref d2), some (.ref F), some (.int (n : Int)), some (.ref pa), v12, v13, none, none, none] := by
    rw [← hw]
    kernel_rfl
  clear hw
  subst ew
  have h6p := hto.p.hi
  have hsl : (shs tr.pan).length = tr.pan.length := List.length_map ..
  have avb : 0 ≤ av ∧ av ≤ 100000 := by
    have h1 := prog_top (cs := (actv c 0 M.trs).map (·.2)) (x := x) (fun u hu => by
      obtain ⟨q, hq, rfl⟩ := List.mem_map.mp hu
      exact (actv_ok (n := 0) hcv q hq).1) xb.1
    have h2 := h1 av (by
      have h3 := List.mem_of_getElem? hjn3
      rw [← has] at h3
      exact h3)
    omega
  have pos := shs_pos hto.p
  have sne := shs_ne hto.p
  have sum : (shs tr.pan).sum ≤ 100000 := by
    have := hto.p.sum
    show (tr.pan.map (·.2)).sum ≤ _
    omega
  refine seq_to (asg_to ⟨_, rfl, _, rfl, d1, .int av, rfl, aval hd8, _, rfl, pa, rfl, ⟨_, hpS⟩, fun S1 nS1 => lc_tup (K := K) (a := pa) (xs := px) (fun j Hy => Same H8 Hy ∧ Hy S1 = some (.lst (((shs tr.pan).map V.int).take j))) ⟨same_new nS1, upd_same⟩ (fun j Hy _ z => same_sqt z.1 hpS) ?_ ?_⟩)
  · rintro j w Hy hj ⟨sq, hGj⟩
    obtain ⟨ent, eb, hent, rfl, heS⟩ := hpE j w hj
    have hev : ((shs tr.pan).map V.int)[j]? = some (.int ent.2) := by
      refine at_map ?_
      show (tr.pan.map (·.2))[j]? = some ent.2
      rw [List.getElem?_map, hent]
      rfl
    refine ⟨eb, _, rfl, same_sqt sq heS, rfl, _, _, rfl, _, _, rfl, rfl, by kernel_rfl, ?_⟩
    exact ⟨_, rfl, acc_to nS1 sq hGj hev (by rw [List.length_map]; omega)⟩
  rintro H9 ⟨s9, hS9⟩
  have hS9 := acc_all (by rw [List.length_map]; omega) hS9
  refine ⟨av, S1, shs tr.pan, rfl, hS9, pos, sne, sum, avb.1, by omega, fun O1 H10 s10 nO1 hO1 => ?_⟩
  have s810 := s9.trans s10
  dsimp only
  refine nx_to ?_
  refine seq_to (asg_to ⟨_, rfl, _, rfl, d1, .int av, rfl, aval (s810 _ _ hd8), _, _, rfl, rfl, _, rfl, pa, rfl, ⟨_, same_sqt s810 hpS⟩, fun S2 nS2 => lc_tup (K := K) (a := pa) (xs := px) (fun j Hy => Same H10 Hy ∧ Hy S2 = some (.lst (((shs tr.pan).map V.int).take j))) ⟨same_new nS2, upd_same⟩ (fun j Hy _ z => same_sqt (s810.trans z.1) hpS) ?_ ?_⟩)
  · rintro j w Hy hj ⟨sq, hGj⟩
    obtain ⟨ent, eb, hent, rfl, heS⟩ := hpE j w hj
    have hev : ((shs tr.pan).map V.int)[j]? = some (.int ent.2) := by
      refine at_map ?_
      show (tr.pan.map (·.2))[j]? = some ent.2
      rw [List.getElem?_map, hent]
      rfl
    refine ⟨eb, _, rfl, same_sqt (s810.trans sq) heS, rfl, _, _, rfl, _, _, rfl, rfl, by kernel_rfl, ?_⟩
    exact ⟨_, rfl, acc_to nS2 sq hGj hev (by rw [List.length_map]; omega)⟩
  rintro H11 ⟨s11, hS11⟩
  have hS11 := acc_all (by rw [List.length_map]; omega) hS11
  refine ⟨av + 1, S2, shs tr.pan, rfl, hS11, pos, sne, sum, by omega, by omega, fun O2 H12 s12 nO2 hO2 => ?_⟩
  have s812 := s810.trans (s11.trans s12)
  have hO1' := (s11.trans s12) _ _ hO1
  rw [alloc_succ av (shs tr.pan) pos sne] at hO2
  dsimp only
  refine nx_to ?_
  generalize hw : List.set _ _ _ = w0
  have ew : w0 = [some (.ref m), some (.str e), some (.str z), some (.ref G), some (.ref B), some (.str c), some (.int (0 + (t : Int))), some (.ref d1), some (.ref d2), some (.ref F), some (.int (n : Int)), some (.ref pa), some (.ref O1), some (.ref O2), none, none, none] := by
    rw [← hw]
    kernel_rfl
  clear hw
  subst ew
  obtain ⟨w0, hw0⟩ : ∃ w0, nxt (av % (shs tr.pan).sum) (shs tr.pan) = w0 := ⟨_, rfl⟩
  have hen' : tr.pan[w0]? = some en := by
    rw [← hw0]
    exact hen
  have hw0l := (List.getElem?_eq_some_iff.mp hen').1
  rw [hw0] at hO2
  have hall : (alloc av (shs tr.pan)).length = tr.pan.length := by rw [alloc_len, hsl]
  have hpS12 := same_sqt s812 hpS
  have hpl2 : px.length = tr.pan.length := hpl
  refine seq_to (asg_to ⟨_, rfl, pa, px, rfl, .inr hpS12, ((tr.pan.length : Nat) : Int), by rw [hpl2], by omega, by omega, ?_⟩)
  rw [show ((tr.pan.length : Nat) : Int).toNat = tr.pan.length by omega]
  intro F2 nF2
  refine lc_range (lo := 0) (n := tr.pan.length) (fun j Hy => Same H12 Hy ∧ Hy F2 = some (.lst (if w0 < j then [optV en.1] else []))) ⟨same_new nF2, upd_same⟩ ?_ ?_
  · rintro j Hy hj ⟨sy, hF2⟩
    obtain ⟨v1, hv1⟩ : ∃ v, (alloc av (shs tr.pan))[j]? = some v := ⟨_, List.getElem?_eq_getElem (by omega)⟩
    have hv2 : (bump w0 (alloc av (shs tr.pan)))[j]? = some (if j = w0 then v1 + 1 else v1) := by
      rw [bump_get, hv1]
      rfl
    obtain ⟨pe, hpe⟩ : ∃ pe, px[j]? = some pe := ⟨_, List.getElem?_eq_getElem (by omega)⟩
    obtain ⟨ent, eb, hent, rfl, heS⟩ := hpE j pe hpe
    refine ⟨rfl, _, rfl, _, rfl, O2, _, _, .int (if j = w0 then v1 + 1 else v1), rfl, rfl, SqL.of (sy _ _ hO2), by rw [Int.zero_add]; exact atI_nat (at_map hv2), _, rfl, _, rfl, O1, _, _, .int v1, rfl, rfl, SqL.of (sy _ _ hO1'), by rw [Int.zero_add]; exact atI_nat (at_map hv1), _, _, rfl, rfl, _, rfl, iteB (fun cc => ?_) (fun cc => ?_)⟩
    · have ej : j = w0 := by
        have := of_decide_eq_true cc
        by_cases e : j = w0
        · exact e
        · rw [if_neg e] at this
          omega
      subst ej
      rw [hen'] at hent
      cases hent
      refine ⟨_, rfl, _, rfl, pa, px, _, .ref eb, rfl, rfl, same_sqt sy hpS12, by rw [Int.zero_add]; exact atI_nat hpe, eb, _, 0, optV en.1, rfl, rfl, same_sqt (s812.trans sy) heS, rfl, _, hF2, ?_, same_put sy nF2, ?_⟩
      · rw [if_neg (Nat.lt_irrefl _)]
        exact szl (by show 0 < 100000; decide)
      · rw [upd_same, if_neg (Nat.lt_irrefl _), if_pos (Nat.lt_succ_self _)]
        rfl
    · have ej : j ≠ w0 := fun e => by
        have := of_decide_eq_false cc
        rw [if_pos e] at this
        omega
      refine ⟨sy, ?_⟩
      rw [hF2]
      by_cases c2 : w0 < j
      · rw [if_pos c2, if_pos (by omega)]
      · rw [if_neg c2, if_neg (by omega)]
  rintro H13 ⟨s13, hF2⟩
  rw [if_pos hw0l] at hF2
  have s813 := s812.trans s13
  refine ⟨F2, _, 0, optV en.1, rfl, rfl, SqL.of hF2, atI_nat (List.getElem?_cons_zero ..), ?_⟩
  dsimp only
  refine nx_to ?_
  generalize hw : List.set _ _ _ = w0'
  have ew : w0' = [some (.ref m), some (.str e), some (.str z), some (.ref G), some (.ref B), some (optV en.1), some (.int (0 + (t : Int))), some (.ref d1), some (.ref d2), some (.ref F), some (.int (n : Int)), some (.ref pa), some (.ref O1), some (.ref O2), none, none, none] := by
    rw [← hw]
    kernel_rfl
  clear hw
  subst ew
  have sH13 := s7'.trans s813
  have hB13 := s813 _ _ hB8
  have hA13 := AllAt.same (R := PassR K) (fun e r => PassR.same e r) s813 hA7
  have hG13 := s813 _ _ hG8
  obtain ⟨eo, es⟩ := en
  cases eo with
  | none =>
    refine ⟨_, rfl, rfl, _, rfl, iteT' rfl ⟨_, rfl, B, _, rfl, .inl ⟨SqL.of hB13, fun P nP => ⟨_, rfl, sz (Nat.le_of_ble_eq_true rfl), fun f nf => ⟨sz (Nat.le_of_ble_eq_true rfl), fun r nr => ?_⟩⟩⟩⟩⟩
    have u1 := same_new (o := .tup (us ++ [.ref t1])) nP
    have u2 := same_new (o := .tup [.str "external", .int (n : Int)]) nf
    have u3 := same_new (o := .tup [.ref P, .ref f]) nr
    exact q2 (L0 ++ [(c, n)]) (.inr n) (w2 _ _ (.out hkc hx hst htr hen)) r P f _ _ (sH13.trans (u1.trans (u2.trans u3))) upd_same (SqT.of (u3 _ _ (u2 _ _ upd_same))) (AllAt.same (R := PassR K) (fun e r => PassR.same e r) (u1.trans (u2.trans u3)) hA13) (SqT.of (u3 _ _ upd_same))
  | some u =>
  obtain ⟨k2, hk2'⟩ := List.getElem?_of_mem (hok.mem tr (List.mem_of_getElem? htr) _ henm u rfl)
  refine ⟨_, rfl, rfl, _, rfl, iteF' rfl ?_⟩
  refine ⟨_, _, _, _, _, _, _, _, gs.set kc (x + 1), u, k2, L0 ++ [(c, n)], us ++ [.ref t1], rfl, sH13, hG13, hB13, hA13, by rw [List.length_append, hl]; rfl, by rw [List.length_set]; exact gl, fun y hy => ?_, hk2', fun L en2 h => ?_, fun L1 en2 h => ?_⟩
  · rcases List.mem_or_eq_of_mem_set hy with hy | rfl
    · have := gb y hy
      omega
    · omega
  · obtain ⟨L1, rfl, wL⟩ := w1 L en2 h
    obtain ⟨L2, rfl, w3⟩ := way_go hok.nd wL hkc hx hst htr hen
    exact ⟨L2, by rw [List.append_assoc]; rfl, w3⟩
  · have := w2 ((c, n) :: L1) en2 (.go hkc hx hst htr hen h)
    rw [List.append_assoc]
    exact this

theorem ok_law_explained {f : Addr} {fd : FuncData} (D_law_explained : Dfn K mg "_law_explained" s_law_explained ["market", "event", "insurer"] f fd) (T : Tx K mg C_SpiralError C_BadName C_BadCover C_BadPanel C_BadAmount C_NameTaken C_NoSuchName C_Twice C_OwnPanel C_TooMany C_NoEnd C_Market) {f_explain_unit : Addr} {fd_explain_unit : FuncData} (D_explain_unit : Dfn K mg "explain_unit" s_explain_unit ["market", "event", "insurer"] f_explain_unit fd_explain_unit) (G_explain_unit : FnOk P w K mg base (L2.CX P w) (10) f_explain_unit fd_explain_unit ["market", "event", "insurer"] (sp_explain_unit K C_Market C_NoEnd)) :
    FnOk P w K mg base CX0 (11) f fd ["market", "event", "insurer"] (sp_lw_explained K C_Market) := by
  refine D_law_explained.F.ok sc_law_explained (fun vs H Q E h => ?_) (fun cdv A outer s H vs Q E hr h => ?_)
  · obtain ⟨m, M, e, z, k, d, rfl, hM, hok, he, hk, hd, h⟩ := h
    rfl
  obtain ⟨m, M, e, z, k, d, rfl, hM, hok, he, hk, hd, h⟩ := h
  refine ⟨_, (pss_one (ps_try_as (i := 3) rfl rfl sc_law_explained.nd rfl rfl ⟨rfl, by decide, .inl T.exc_NoEnd.g⟩ takes0 (fun W pn xe tk _ => (pss_one (ps_ret (by exact (pe_callS G_explain_unit (hr.mono (by first | decide | omega)) rfl D_explain_unit.m D_explain_unit.F.kp D_explain_unit.b (fun σ => passAt tk σ) (by exact (pa_cons (pv 0) (pa_cons (pv 1) (pa_cons (pv 2) pa_nil))))))))) (fun a oe cls d pn hz hf => (pss_one (ps_ret (pe_callB (call_isEx hz hf) (by rfl) T.isinstance (by decide +kernel) (pa_cons (pv 3) (pa_cons (pe_glob (v := .ref C_SpiralError) rfl T.exc_SpiralError.g rfl) pa_nil)))))))), ?_⟩
  refine ⟨_, rfl, _, rfl, _, rfl, m, M, e, z, k, d, rfl, hM, hok, he, hk, hd, ?_⟩
  rcases h with ⟨hf, q1⟩ | h
  rotate_left
  · exact .inr h
  · refine .inl ⟨hf, fun H' s' => ?_⟩
    refine ⟨true, T.exc_NoEnd.e, fun _ a na => ?_, fun z => (nomatch z)⟩
    exact ⟨_, rfl, _, rfl, rfl, T.isx_NoEnd, .ref C_SpiralError, .ref C_SpiralError, true, rfl, fun u r => r, T.kitS, q1 H' s'⟩

theorem ok_law_example {f : Addr} {fd : FuncData} (D_law_example : Dfn K mg "_law_example" s_law_example [] f fd) (T : Tx K mg C_SpiralError C_BadName C_BadCover C_BadPanel C_BadAmount C_NameTaken C_NoSuchName C_Twice C_OwnPanel C_TooMany C_NoEnd C_Market) {f_Market___init : Addr} {fd_Market___init : FuncData} (D_Market___init : Mki K C_Market "Market.__init__" s_Market___init ["self"] f_Market___init fd_Market___init) (G_Market___init : FnOk P w K mg base CX0 (1) f_Market___init fd_Market___init ["self"] (sp_minit K C_Market)) {f_Market_add_insurer : Addr} {fd_Market_add_insurer : FuncData} (D_Market_add_insurer : Mth K C_Market "add_insurer" "Market.add_insurer" s_Market_add_insurer ["self", "name"] f_Market_add_insurer fd_Market_add_insurer) (G_Market_add_insurer : FnOk P w K mg base (L2.CX P w) (4) f_Market_add_insurer fd_Market_add_insurer ["self", "name"] (sp_add_insurer K C_Market C_BadName C_TooMany C_NameTaken)) {f_Market_add_event : Addr} {fd_Market_add_event : FuncData} (D_Market_add_event : Mth K C_Market "add_event" "Market.add_event" s_Market_add_event ["self", "name"] f_Market_add_event fd_Market_add_event) (G_Market_add_event : FnOk P w K mg base (L2.CX P w) (4) f_Market_add_event fd_Market_add_event ["self", "name"] (sp_add_event K C_Market C_BadName C_TooMany C_NameTaken)) {f_Market_add_treaty : Addr} {fd_Market_add_treaty : FuncData} (D_Market_add_treaty : Mth K C_Market "add_treaty" "Market.add_treaty" s_Market_add_treaty ["self", "cedent", "cover", "panel"] f_Market_add_treaty fd_Market_add_treaty) (G_Market_add_treaty : FnOk P w K mg base (L2.CX P w) (8) f_Market_add_treaty fd_Market_add_treaty ["self", "cedent", "cover", "panel"] (sp_add_treaty K C_Market C_BadName C_BadCover C_BadPanel C_NoSuchName C_Twice C_OwnPanel C_TooMany C_NoEnd)) {f_Market_set_loss : Addr} {fd_Market_set_loss : FuncData} (D_Market_set_loss : Mth K C_Market "set_loss" "Market.set_loss" s_Market_set_loss ["self", "event", "insurer", "amount"] f_Market_set_loss fd_Market_set_loss) (G_Market_set_loss : FnOk P w K mg base (L2.CX P w) (8) f_Market_set_loss fd_Market_set_loss ["self", "event", "insurer", "amount"] (sp_set_loss K C_Market C_NoEnd)) :
    FnOk P w K mg base CX0 (9) f fd [] (sp_law_example K C_Market) := by
  refine D_law_example.F.ok sc_law_example (fun vs H Q E h => ?_) (fun cdv A outer s H vs Q E hr h => ?_)
  · obtain ⟨rfl, q⟩ := h
    rfl
  obtain ⟨rfl, q⟩ := h
  refine ⟨_, (pss_cons (ps_set (i := 0) sc_law_example.nd rfl (by first | exact Or.inl rfl | exact Or.inr rfl) (pe_make0 D_Market___init.m G_Market___init (hr.mono (by first | decide | omega)) rfl T.m_Market D_Market___init.b .nil pass0))
      (pss_cons (ps_for PassesOwn.never rfl (pi_tup (pe_tup (pa_cons pe_str (pa_cons pe_str (pa_cons pe_str pa_nil))))) (pg_name (i := 1) sc_law_example.nd rfl (by first | exact Or.inl rfl | exact Or.inr rfl))
      (pss_one (ps_expr (pe_meth (pv 0) T.cl_Market D_Market_add_insurer.m G_Market_add_insurer (hr.mono (by first | decide | omega)) D_Market_add_insurer.b .nil passL (pa_cons (pv 1) pa_nil)))))
      (pss_cons (ps_expr (pe_meth (pv 0) T.cl_Market D_Market_add_event.m G_Market_add_event (hr.mono (by first | decide | omega)) D_Market_add_event.b .nil passL (pa_cons pe_str pa_nil)))
      (pss_cons (ps_expr (pe_meth (pv 0) T.cl_Market D_Market_add_treaty.m G_Market_add_treaty (hr.mono (by first | decide | omega)) D_Market_add_treaty.b .nil passL (pa_cons pe_str (pa_cons (pe_tup (pa_cons pe_str (pa_cons pe_int (pa_cons pe_int pa_nil)))) (pa_cons (pe_tup (pa_cons (pe_tup (pa_cons pe_str (pa_cons pe_int pa_nil))) pa_nil)) pa_nil)))))
      (pss_cons (ps_expr (pe_meth (pv 0) T.cl_Market D_Market_add_treaty.m G_Market_add_treaty (hr.mono (by first | decide | omega)) D_Market_add_treaty.b .nil passL (pa_cons pe_str (pa_cons (pe_tup (pa_cons pe_str (pa_cons pe_int (pa_cons pe_int pa_nil)))) (pa_cons (pe_tup (pa_cons (pe_tup (pa_cons pe_str (pa_cons pe_int pa_nil))) (pa_cons (pe_tup (pa_cons pe_non (pa_cons pe_int pa_nil))) pa_nil))) pa_nil)))))
      (pss_cons (ps_expr (pe_meth (pv 0) T.cl_Market D_Market_set_loss.m G_Market_set_loss (hr.mono (by first | decide | omega)) D_Market_set_loss.b .nil passL (pa_cons pe_str (pa_cons pe_str (pa_cons pe_int pa_nil)))))
      (pss_one (ps_ret (pv 0))))))))), ?_⟩
  refine fun m dx n1 n2 n3 => ⟨m, dx, rfl, upd_same, fun H1 b1 hM1 => ⟨rfl, ?_⟩⟩
  have s1 : Same H H1 := fun b u hb => b1 b u (ne_of_none hb n1) (by rw [upd_ne (ne_of_none hb n1), upd_ne (ne_of_none hb n2)]; exact hb)
  clear b1
  refine nx_to ?_
  dsimp only
  generalize hw0 : List.set _ _ _ = w0
  have ew : w0 = [some (.ref m), none] := by
    rw [← hw0]
    kernel_rfl
  clear hw0
  subst ew
  have keep : ∀ {Ha Hb : Hp}, Same H Ha → Bar m Ha Hb → Same H Hb := fun s b => Bar.keep n1 ((Bar.of s).trans b)
  refine seq_to ⟨sz (by show 3 ≤ 100000; decide), fun t nt => ?_⟩
  have ht1 : upd H1 t (.tup [.str "ada", .str "bob", .str "cyd"]) t = some (.tup (exI.map V.str)) := upd_same
  have nHt : H t = none := s1.free nt
  have ntm : t ≠ m := by
    obtain ⟨_, _, _, _, _, h0, _⟩ := id hM1
    exact (ne_of_none h0 nt).symm
  have s2 := same_add (o := .tup [.str "ada", .str "bob", .str "cyd"]) s1 nt
  have hM2 := MktAt.same (same_new (o := .tup [.str "ada", .str "bob", .str "cyd"]) nt) hM1
  obtain ⟨H2, h2⟩ : ∃ H2, upd H1 t (.tup [.str "ada", .str "bob", .str "cyd"]) = H2 := ⟨_, rfl⟩
  rw [h2] at ht1 s2 hM2 ⊢
  clear h2
  refine ⟨t, rfl, ⟨_, SqT.of ht1⟩, for_tup (K := K) (a := t) (xs := exI.map V.str) (fun i σ H' => ∃ v1 : Option V, σ = [some (.ref m), v1] ∧ Same H H' ∧ H' t = some (.tup (exI.map V.str)) ∧ MktAt K C_Market H' m ⟨exI.take i, [], [], []⟩) ⟨_, rfl, s2, ht1, hM2⟩ (fun i σ H' _ ⟨_, _, _, e, _⟩ => SqT.of e) ?_ ?_⟩
  · rintro i v σ H' hi ⟨v1, rfl, sm, ht, hMk⟩
    obtain ⟨c, rfl, hc⟩ := of_at_str hi
    have hil := (List.getElem?_eq_some_iff.mp hc).1
    have hil2 : i < 3 := hil
    obtain ⟨dx1, ai, ae, at', ad, h0, _⟩ := id hMk
    have hcn := (show ∀ c ∈ exI, (decide (c.length ≤ 1000) && isNm c) = true by decide +kernel) c (List.mem_of_getElem? hc)
    refine ⟨_, rfl, m, dx1, _, rfl, h0, mf_no (by decide +kernel), _, rfl, m, _, _, rfl, hMk, .inr ⟨c, rfl, isN24 hcn, .inr (.inr ⟨by rw [List.length_take]; omega, fun hm => ?_, fun H3 b3 hM3 => ?_⟩)⟩⟩
    · obtain ⟨j, hj⟩ := List.getElem?_of_mem hm
      rw [List.getElem?_take] at hj
      split at hj
      · rename_i hji
        have := nodup_at (show exI.Nodup by decide +kernel) hj hc
        omega
      · cases hj
    · refine ⟨_, rfl, keep sm b3, b3 _ _ ntm ht, ?_⟩
      rw [List.take_add_one, hc]
      exact hM3
  rintro σ H3 ⟨v1, rfl, s3, ht3, hM3⟩
  have hM3 : MktAt K C_Market H3 m ⟨exI, [], [], []⟩ := hM3
  dsimp only
  obtain ⟨dx3, ai3, ae3, at3, ad3, h03, _⟩ := id hM3
  refine seq_to ⟨_, rfl, m, dx3, _, rfl, h03, mf_no (by decide +kernel), m, _, _, rfl, hM3, .inr ⟨_, rfl, isN24 (by decide +kernel), .inr (.inr ⟨(show 0 < 3 by decide), (fun h => nomatch h), fun H4 b4 hM4 => ?_⟩)⟩⟩
  have s4 : Same H H4 := keep s3 b4
  have hM4 : MktAt K C_Market H4 m ⟨exI, ["storm"], [], []⟩ := hM4
  dsimp only
  clear hM3 hM2 hM1
  -- the first treaty
  obtain ⟨dx4, ai4, ae4, at4, ad4, h04, _⟩ := id hM4
  refine seq_to ⟨_, rfl, m, dx4, _, rfl, h04, mf_no (by decide +kernel), sz (by show 3 ≤ 100000; decide), fun vc nvc => ⟨sz (by show 2 ≤ 100000; decide), fun e1 ne1 => ⟨sz (by show 1 ≤ 100000; decide), fun w1 nw1 => ?_⟩⟩⟩
  have t1 := same_new (o := .tup [.str "layer", .int 100, .int 300]) nvc
  have t2 := same_new (o := .tup [.str "bob", .int 1]) ne1
  have t3 := same_new (o := .tup [.ref e1]) nw1
  have hvc := t3 _ _ (t2 _ _ (upd_same (H := H4) (a := vc) (o := .tup (cvV (.layer 100 300)))))
  refine ⟨m, _, _, _, _, rfl, MktAt.same (t1.trans (t2.trans t3)) hM4, .inr (.inr (.inr ⟨"ada", vc, .layer 100 300, exT0.pan, rfl, isN24 (by decide +kernel), rfl, SqT.of hvc, cv_dec (by decide +kernel), pan_all (ys := [.ref e1]) upd_same (AllAt.add (R := EntAt K) (ys := []) (ls := []) AllAt.nil ⟨e1, rfl, SqT.of (t3 _ _ upd_same)⟩), ex_p0, .inr (.inr ⟨by kernel_rfl, by show 0 < 16; decide, ex_t0, by show 1 ≤ 1000; decide, .inl ⟨fun e he => ?_, fun H5 b5 hM5 => ?_⟩⟩)⟩))⟩
  · show fate exI [exT0] (directs exI [] e) true
    rw [directs_nil]
    exact fate_zero ex_t0
  have s5 : Same H H5 := keep (s4.trans (t1.trans (t2.trans t3))) b5
  have hM5 : MktAt K C_Market H5 m ⟨exI, ["storm"], [exT0], []⟩ := hM5
  clear hvc t1 t2 t3 hM4
  dsimp only
  -- the second
  obtain ⟨dx5, ai5, ae5, at5, ad5, h05, _⟩ := id hM5
  refine seq_to ⟨_, rfl, m, dx5, _, rfl, h05, mf_no (by decide +kernel), sz (by show 3 ≤ 100000; decide), fun vd nvd => ⟨sz (by show 2 ≤ 100000; decide), fun e2 ne2 => ⟨sz (by show 2 ≤ 100000; decide), fun e3 ne3 => ⟨sz (by show 2 ≤ 100000; decide), fun w2 nw2 => ?_⟩⟩⟩⟩
  have t1 := same_new (o := .tup [.str "layer", .int 50, .int 200]) nvd
  have t2 := same_new (o := .tup [.str "ada", .int 1]) ne2
  have t3 := same_new (o := .tup [.non, .int 1]) ne3
  have t4 := same_new (o := .tup [.ref e2, .ref e3]) nw2
  have hvd := t4 _ _ (t3 _ _ (t2 _ _ (upd_same (H := H5) (a := vd) (o := .tup (cvV (.layer 50 200))))))
  refine ⟨m, _, _, _, _, rfl, MktAt.same (t1.trans (t2.trans (t3.trans t4))) hM5, .inr (.inr (.inr ⟨"bob", vd, .layer 50 200, exT1.pan, rfl, isN24 (by decide +kernel), rfl, SqT.of hvd, cv_dec (by decide +kernel), pan_all (ys := [.ref e2, .ref e3]) upd_same (AllAt.add (R := EntAt K) (ys := [.ref e2]) (ls := [(some "ada", 1)]) (AllAt.add (R := EntAt K) (ys := []) (ls := []) AllAt.nil ⟨e2, rfl, SqT.of (t4 _ _ (t3 _ _ upd_same))⟩) ⟨e3, rfl, SqT.of (t4 _ _ upd_same)⟩), ex_p1, .inr (.inr ⟨by kernel_rfl, by show 1 < 16; decide, ex_t1, by show 1 ≤ 1000; decide, .inl ⟨fun e he => ?_, fun H6 b6 hM6 => ?_⟩⟩)⟩))⟩
  · show fate exI [exT0, exT1] (directs exI [] e) true
    rw [directs_nil]
    exact fate_zero ex_t1
  have s6 : Same H H6 := keep (s5.trans (t1.trans (t2.trans (t3.trans t4)))) b6
  have hM6 : MktAt K C_Market H6 m ⟨exI, ["storm"], [exT0, exT1], []⟩ := hM6
  clear hvd t1 t2 t3 t4 hM5
  dsimp only
  obtain ⟨dxa, aia, aea, ata, ada, ha0, _⟩ := id hM6
  refine seq_to ⟨_, rfl, m, dxa, _, rfl, ha0, mf_no (by decide +kernel), m, "storm", "ada", 160, _, rfl, hM6, isN24 (by decide +kernel), isN24 (by decide +kernel), by decide +kernel, List.mem_cons_self, by decide +kernel, by decide +kernel, by decide +kernel, ex_t1, by show 1 ≤ 1000; decide, .inl ⟨fun e he => ?_, fun H7 b7 hM7 => ?_⟩⟩
  · have ee : e = ("storm" : Str) := List.mem_singleton.mp he
    subst ee
    exact ex_f1
  exact ⟨_, rfl, q m H7 (keep s6 b7) n1 hM7⟩

theorem ok_law_fixed {f : Addr} {fd : FuncData} (D_law_fixed : Dfn K mg "_law_fixed" s_law_fixed [] f fd) (T : Tx K mg C_SpiralError C_BadName C_BadCover C_BadPanel C_BadAmount C_NameTaken C_NoSuchName C_Twice C_OwnPanel C_TooMany C_NoEnd C_Market) {f_law_example : Addr} {fd_law_example : FuncData} (D_law_example : Dfn K mg "_law_example" s_law_example [] f_law_example fd_law_example) (G_law_example : FnOk P w K mg base CX0 (9) f_law_example fd_law_example [] (sp_law_example K C_Market)) {f_explain_unit : Addr} {fd_explain_unit : FuncData} (D_explain_unit : Dfn K mg "explain_unit" s_explain_unit ["market", "event", "insurer"] f_explain_unit fd_explain_unit) (G_explain_unit : FnOk P w K mg base (L2.CX P w) (10) f_explain_unit fd_explain_unit ["market", "event", "insurer"] (sp_explain_unit K C_Market C_NoEnd)) {f_judge_unit : Addr} {fd_judge_unit : FuncData} (D_judge_unit : Dfn K mg "judge_unit" s_judge_unit ["market", "event", "insurer", "paper"] f_judge_unit fd_judge_unit) (G_judge_unit : FnOk P w K mg base CX0 (11) f_judge_unit fd_judge_unit ["market", "event", "insurer", "paper"] (sp_judge_unit K C_Market)) :
    FnOk P w K mg base CX0 (12) f fd [] (sp_k51_fixed K) := by
  refine D_law_fixed.F.ok sc_law_fixed (fun vs H Q E h => ?_) (fun cdv A outer s H vs Q E hr h => ?_)
  · obtain ⟨rfl, q⟩ := h
    rfl
  obtain ⟨rfl, q⟩ := h
  refine ⟨_, (pss_cons (ps_set (i := 0) sc_law_fixed.nd rfl (by first | exact Or.inl rfl | exact Or.inr rfl) (pe_call0 G_law_example (hr.mono (by first | decide | omega)) rfl D_law_example.m D_law_example.F.kp D_law_example.b .nil pass0))
      (pss_cons (ps_set (i := 1) sc_law_fixed.nd rfl (by first | exact Or.inl rfl | exact Or.inr rfl) (pe_tup (pa_cons pe_str (pa_cons (pe_tup (pa_cons (pe_tup (pa_cons pe_str (pa_cons pe_int pa_nil))) (pa_cons (pe_tup (pa_cons pe_str (pa_cons pe_int pa_nil))) (pa_cons (pe_tup (pa_cons pe_str (pa_cons pe_int pa_nil))) (pa_cons (pe_tup (pa_cons pe_str (pa_cons pe_int pa_nil))) pa_nil))))) (pa_cons (pe_tup (pa_cons pe_str (pa_cons pe_int pa_nil))) pa_nil)))))
      (pss_cons (ps_if (PW.pt (pw_or (pt_cmpR (op_neD hr.units) (pe_call G_explain_unit (hr.mono (by first | decide | omega)) rfl D_explain_unit.m D_explain_unit.F.kp D_explain_unit.b .nil passL (pa_cons (pv 0) (pa_cons pe_str (pa_cons pe_str pa_nil)))) (pv 1) (nomark _)) (pw_or1 (pt_not (pt_val (pe_call G_judge_unit (hr.mono (by first | decide | omega)) rfl D_judge_unit.m D_judge_unit.F.kp D_judge_unit.b .nil pass0 (pa_cons (pv 0) (pa_cons pe_str (pa_cons pe_str (pa_cons (pv 1) pa_nil))))))))))
      (pss_one (ps_ret pe_bl))
      pss_nil)
      (pss_cons (ps_for PassesOwn.never rfl (pi_tup (pe_tup (pa_cons (pe_tup (pa_cons pe_str (pa_cons (pe_tup pa_nil) (pa_cons (pe_tup (pa_cons pe_str (pa_cons pe_str pa_nil))) pa_nil)))) (pa_cons (pe_tup (pa_cons pe_str (pa_cons (pe_slice sl_tupA (pe_ix (r := rIxT K) ix_tup (pv 1) pe_int (fun _ _ => rfl)) po_none (po_some pe_int)) (pa_cons (pe_tup (pa_cons pe_str (pa_cons pe_str pa_nil))) pa_nil)))) (pa_cons (pe_tup (pa_cons pe_str (pa_cons (pe_ix (r := rIxT K) ix_tup (pv 1) pe_int (fun _ _ => rfl)) (pa_cons (pe_tup (pa_cons pe_str (pa_cons pe_int pa_nil))) pa_nil)))) pa_nil))))) (pg_name (i := 2) sc_law_fixed.nd rfl (by first | exact Or.inl rfl | exact Or.inr rfl))
      (pss_one (ps_if (pt_val (pe_call G_judge_unit (hr.mono (by first | decide | omega)) rfl D_judge_unit.m D_judge_unit.F.kp D_judge_unit.b .nil pass0 (pa_cons (pv 0) (pa_cons pe_str (pa_cons pe_str (pa_cons (pv 2) pa_nil))))))
      (pss_one (ps_ret pe_bl))
      pss_nil)))
      (pss_one (ps_ret (pe_call G_judge_unit (hr.mono (by first | decide | omega)) rfl D_judge_unit.m D_judge_unit.F.kp D_judge_unit.b .nil pass0 (pa_cons (pv 0) (pa_cons pe_str (pa_cons pe_str (pa_cons (pe_tup (pa_cons pe_str (pa_cons (pe_tup pa_nil) (pa_cons (pe_tup (pa_cons pe_str (pa_cons pe_str pa_nil))) pa_nil)))) pa_nil))))))))))), ?_⟩
  refine seq_to (asg_to ⟨rfl, fun m H1 s1 nm hM1 => ?_⟩)
  have hM1 : MktAt K C_Market H1 m exM := hM1
  have hst : ("storm" : Str) ∈ exM.evs := List.mem_cons_self
  have hU : SeqAt.shaped (unitD exW (.inr 1)) = true := by decide +kernel
  have eU : PyData.eqv (unitD exW (.inr 1)) (unitD exW (.inr 1)) = true := by decide +kernel
  have nU : noB 6 (unitD exW (.inr 1)) = true := by decide +kernel
  dsimp only
  refine nx_to ?_
  have o1 := rel_same H1
  have pr : ∀ {x : Str} {n : Int} {σ : L2.St} {Hb : Hp} (o : RelOk Same Hb), YR Same σ (tTup (tCons (tC (.str x)) (tCons (tC (.int n)) tNil))) Hb (fun H y => Dp K H y (.tuple [.str x, .int n])) := fun o => yr_tup o (yra_cons o yr_str (yra_cons o yr_int yra_nil)) (Nat.le_of_ble_eq_true rfl)
  have ps : ∀ {x y : Str} {σ : L2.St} {Hb : Hp} (o : RelOk Same Hb), YR Same σ (tTup (tCons (tC (.str x)) (tCons (tC (.str y)) tNil))) Hb (fun H v => Dp K H v (.tuple [.str x, .str y])) := fun o => yr_tup o (yra_cons o yr_str (yra_cons o yr_str yra_nil)) (Nat.le_of_ble_eq_true rfl)
  refine seq_to (asg_to (yr_tup (K := K) (ds := [.str "unit", .tuple [.tuple [.str "ada", .int 0], .tuple [.str "bob", .int 1], .tuple [.str "ada", .int 0], .tuple [.str "bob", .int 1]], .tuple [.str "external", .int 1]]) o1 (yra_cons o1 yr_str (yra_cons o1 (yr_tup o1 (yra_cons o1 (pr o1) (yra_cons o1 (pr o1) (yra_cons o1 (pr o1) (yra_cons o1 (pr o1) yra_nil)))) (Nat.le_of_ble_eq_true rfl)) (yra_cons o1 (pr o1) yra_nil))) (Nat.le_of_ble_eq_true rfl) H1 _ (Same.refl _) fun v H2 s2 hv => ?_))
  have hv : ∀ Hx, Same H2 Hx → Dp K Hx v (unitD exW (.inr 1)) := hv
  obtain ⟨p, xs, es, rfl, e1, hpS, hpA⟩ := dp_tupI (hv H2 (Same.refl _)) rfl
  cases e1
  cases hpA with
  | cons a1 a2 =>
  cases a2 with
  | cons a3 a4 =>
  rename_i x0 x1 xr
  obtain ⟨t, ts, ets, rfl, e2, htS, htA⟩ := dp_tupI a3 rfl
  cases e2
  have hM2 := MktAt.same s2 hM1
  have s12 := s1.trans s2
  dsimp only
  refine nx_to ?_
  generalize hw : List.set _ _ _ = w0
  have ew : w0 = [some (.ref m), some (.ref p), none] := by
    rw [← hw]
    kernel_rfl
  clear hw
  subst ew
  refine seq_to ⟨_, rfl, m, exM, "storm", "ada", 0, 160, rfl, hM2, ex_t1, hst, rfl, by decide +kernel, .inr ⟨ex5_f, 9, exW, .inr 1, ex_fix.1, ex_fix.2.1, ex_fix.2.2.1, ex_fix.2.2.2, ex5_w, by decide, fun p3 t3 f3 ps3 H3 s3 hp3 ht3 hA3 hf3 => ?_⟩⟩
  refine ⟨_, rfl, _, _, dp_unit (SqT.of hp3) (SqT.of ht3) hA3 (SqT.of hf3), hv H3 s3, hU, hU, _, rfl, iteF' (by rw [eU]; rfl) ?_⟩
  refine ⟨_, rfl, _, rfl, m, exM, "storm", "ada", 0, 160, .ref p, unitD exW (.inr 1), rfl, MktAt.same s3 hM2, ex_t1, hst, rfl, by decide +kernel, .inl (hv H3 s3), nU, .inr ⟨ex5_f, 9, exW, .inr 1, ex_fix.1, ex_fix.2.1, ex_fix.2.2.1, ex_fix.2.2.2, ex5_w, by decide, fun H4 s4 => ⟨_, rfl, ?_⟩⟩⟩
  rw [eU]
  refine iteF ?_
  refine next_to ?_
  dsimp only
  have s34 := s3.trans s4
  have hM4 := MktAt.same s34 hM2
  have hp4 := same_sqt s34 hpS
  have ht4 := same_sqt s34 htS
  have ht4A : DpAll K H4 ts (exW.map passD) := DpAll.mk (DpAll.len htA) fun i x d hx hd => by
    obtain ⟨d', hd', hD⟩ := DpAll.at htA hx
    rw [hd] at hd'
    cases hd'
    exact Dp.to s34 hD
  have o4 := rel_same H4
  refine seq_to (for_litT (yr_tupT (ds := r51) (K := K) (H0 := H4) o4 ?_ (Nat.le_of_ble_eq_true rfl) (Same.refl _) fun W ws H5 s5 hW hWs => ⟨W, rfl, ⟨_, SqT.of hW⟩, for_tup (K := K) (a := W) (xs := ws) (fun i σ H' => ∃ v2 : Option V, σ = [some (.ref m), some (.ref p), v2] ∧ Same H5 H') ⟨_, rfl, Same.refl _⟩ (fun i σ H' _ ⟨_, _, w⟩ => SqT.of (w _ _ hW)) ?_ ?_⟩))
  · refine yra_cons o4 (yr_tup o4 (yra_cons o4 yr_str (yra_cons o4 (yr_tup o4 yra_nil (Nat.le_of_ble_eq_true rfl)) (yra_cons o4 (ps o4) yra_nil))) (Nat.le_of_ble_eq_true rfl)) (yra_cons o4 (yr_tup (ds := [.str "unit", .tuple ((exW.take 2).map passD), endD (.inl "ada")]) o4 (yra_cons o4 yr_str (yra_cons o4 ?_ (yra_cons o4 (ps o4) yra_nil))) (Nat.le_of_ble_eq_true rfl)) (yra_cons o4 (yr_tup (ds := [.str "unit", .tuple (exW.map passD), endD (.inr 0)]) o4 (yra_cons o4 yr_str (yra_cons o4 ?_ (yra_cons o4 (pr o4) yra_nil))) (Nat.le_of_ble_eq_true rfl)) yra_nil))
    · intro H Q r q
      refine ⟨_, rfl, p, _, 1, .ref t, rfl, rfl, same_sqt r hp4, atI_one, ?_⟩
      dsimp only [tNoPart]
      refine ⟨_, rfl, slA_gen (same_sqt r ht4) fun A H' s' hA => ?_⟩
      rw [show (2 : Int) = ((2 : Nat) : Int) from rfl, cut_to] at hA
      refine q (.ref A) H' s' fun H2 r2 => .tup (same_sqt r2 hA) ?_
      rw [List.map_take]
      refine DpAll.mk (by rw [List.length_take, List.length_take, DpAll.len ht4A]) fun i x d hx hd => ?_
      rw [List.getElem?_take] at hx hd
      split at hx
      · rename_i c
        rw [if_pos c] at hd
        obtain ⟨d', hd', hD⟩ := DpAll.at ht4A hx
        rw [hd] at hd'
        cases hd'
        exact Dp.to (r.trans (s'.trans r2)) hD
      · cases hx
    · intro H Q r q
      refine ⟨_, rfl, p, _, 1, .ref t, rfl, rfl, same_sqt r hp4, atI_one, q (.ref t) H (Same.refl _) fun H2 r2 => .tup (same_sqt (r.trans r2) ht4) (DpAll.mk (DpAll.len ht4A) fun i x d hx hd => ?_)⟩
      obtain ⟨d', hd', hD⟩ := DpAll.at ht4A hx
      rw [hd] at hd'
      cases hd'
      exact Dp.to (r.trans r2) hD
  · rintro i y σ H' hi2 ⟨v2, rfl, sm⟩
    obtain ⟨d, hd, hy⟩ := DpAll.at (hWs H' sm) hi2
    obtain ⟨hno, hnb⟩ := r51_no d (List.mem_of_getElem? hd)
    exact ⟨_, rfl, _, rfl, m, exM, "storm", "ada", 0, 160, y, d, rfl, MktAt.same (s5.trans sm) hM4, ex_t1, hst, rfl, by decide +kernel, .inl hy, hnb, .inr ⟨ex5_f, 9, exW, .inr 1, ex_fix.1, ex_fix.2.1, ex_fix.2.2.1, ex_fix.2.2.2, ex5_w, by decide, fun H6 s6 => ⟨_, rfl, iteF' hno ⟨_, rfl, sm.trans s6⟩⟩⟩⟩
  rintro σ H6 ⟨v2, rfl, s6⟩
  have s16 := s12.trans (s34.trans (s5.trans s6))
  have hM6 := MktAt.same (s5.trans s6) hM4
  have o6 := rel_same H6
  dsimp only
  refine ⟨_, rfl, ?_⟩
  refine cons_to (tC_to (cons_to (tC_to (cons_to ?_))))
  refine yr_tup (K := K) (ds := [.str "unit", .tuple [], .tuple [.str "insurer", .str "cyd"]]) o6 (yra_cons o6 yr_str (yra_cons o6 (yr_tup o6 yra_nil (Nat.le_of_ble_eq_true rfl)) (yra_cons o6 (ps o6) yra_nil))) (Nat.le_of_ble_eq_true rfl) H6 _ (Same.refl _) fun v7 H7 s7 hv7 => ?_
  refine ⟨m, exM, "storm", "cyd", 2, 0, v7, unitD [] (.inl "cyd"), rfl, MktAt.same s7 hM6, ex_t1, hst, rfl, by decide +kernel, .inl (hv7 H7 (Same.refl _)), by decide +kernel, .inr ⟨ex5_fc, 9, [], .inl "cyd", ex_fix.1, ex_fix.2.1, ex_fix.2.2.1, ex_fix.2.2.2, ex5_c, by decide, fun H8 s8 => ?_⟩⟩
  rw [show PyData.eqv (unitD [] (.inl "cyd")) (unitD [] (.inl "cyd")) = true by decide +kernel]
  exact q H8 (s16.trans (s7.trans s8))

theorem ok_law_has_no_end {f : Addr} {fd : FuncData} (D_law_has_no_end : Dfn K mg "_law_has_no_end" s_law_has_no_end ["market", "event", "insurer"] f fd) (T : Tx K mg C_SpiralError C_BadName C_BadCover C_BadPanel C_BadAmount C_NameTaken C_NoSuchName C_Twice C_OwnPanel C_TooMany C_NoEnd C_Market) {f_Market_copy : Addr} {fd_Market_copy : FuncData} (D_Market_copy : Mth K C_Market "copy" "Market.copy" s_Market_copy ["self"] f_Market_copy fd_Market_copy) (G_Market_copy : FnOk P w K mg base CX0 (3) f_Market_copy fd_Market_copy ["self"] (sp_copy K C_Market)) {f_Market_set_loss : Addr} {fd_Market_set_loss : FuncData} (D_Market_set_loss : Mth K C_Market "set_loss" "Market.set_loss" s_Market_set_loss ["self", "event", "insurer", "amount"] f_Market_set_loss fd_Market_set_loss) (G_Market_set_loss : FnOk P w K mg base (L2.CX P w) (8) f_Market_set_loss fd_Market_set_loss ["self", "event", "insurer", "amount"] (sp_set_loss K C_Market C_NoEnd)) {f_Market_direct : Addr} {fd_Market_direct : FuncData} (D_Market_direct : Mth K C_Market "direct" "Market.direct" s_Market_direct ["self", "event"] f_Market_direct fd_Market_direct) (G_Market_direct : FnOk P w K mg base (L2.CX P w) (4) f_Market_direct fd_Market_direct ["self", "event"] (sp_direct K C_Market C_NoSuchName)) :
    FnOk P w K mg base CX0 (9) f fd ["market", "event", "insurer"] (sp_law_has_no_end K C_Market) := by
  refine D_law_has_no_end.F.ok sc_law_has_no_end (fun vs H Q E h => ?_) (fun cdv A outer s H vs Q E hr h => ?_)
  · obtain ⟨m, M, e, z, k, d, rfl, hM, hg, he, hk, hd, hf, q⟩ := h
    rfl
  obtain ⟨m, M, e, z, k, d, rfl, hM, hg, he, hk, hd, hf, q⟩ := h
  refine ⟨_, (pss_cons (ps_set (i := 3) sc_law_has_no_end.nd rfl (by first | exact Or.inl rfl | exact Or.inr rfl) (pe_meth0 (pv 0) T.cl_Market D_Market_copy.m G_Market_copy (hr.mono (by first | decide | omega)) D_Market_copy.b .nil pass0))
      (pss_cons (ps_try_only rfl rfl ⟨rfl, by decide, .inl T.exc_NoEnd.g⟩ takes0 (fun W pn xe tk _ => (pss_one (ps_expr (by exact (pe_methT (pv 3) T.cl_Market D_Market_set_loss.m G_Market_set_loss (hr.mono (by first | decide | omega)) D_Market_set_loss.b (fun σ => passAt tk σ) (by exact (pa_cons (pv 1) (pa_cons (pv 2) (pa_cons (pe_op op_add (pe_ix (r := rIxT K) ix_tup (by exact (pe_methT (pv 3) T.cl_Market D_Market_direct.m G_Market_direct (hr.mono (by first | decide | omega)) D_Market_direct.b (fun σ => passAt tk σ) (by exact (pa_cons (pv 1) pa_nil)))) (pe_bmT PySem.F.slot_tuple_index PySem.F.type_tuple_index (mt_tup_indexK (K := K) rfl) (pe_fldK (K := K) rfl (pv 3) rfl) (pa_cons (pv 2) pa_nil)) (fun _ _ => rfl)) pe_int) pa_nil))))))))) (fun a oe cls d pn hz hf => (pss_one (ps_ret pe_bl))))
      (pss_one (ps_ret pe_bl)))), ?_⟩
  have hdb := dg_dir hg e hd
  have hil := hg.il
  have hel := hg.el
  have hll := hg.ll
  have hne := hg.enm e he
  have hz := List.mem_of_getElem? hk
  have hnz := hg.inm z hz
  obtain ⟨dx, ai, ae, at', ad, h0, _⟩ := id hM
  refine seq_to (asg_to ⟨_, rfl, m, dx, _, rfl, h0, mf_no (by decide +kernel), m, M, rfl, hM, hg.lnd, by omega, fun o H1 s1 no hO => ?_⟩)
  dsimp only
  refine nx_to ?_
  obtain ⟨dy, bi, be, bt, bd, k0, k1, k2, k3, k4, k5⟩ := id hO
  refine seq_to ⟨_, rfl, o, dy, _, rfl, k0, mf_no (by decide +kernel), _, rfl, _, rfl, _, rfl, o, dy, _, rfl, k0, mf_no (by decide +kernel), _, rfl, o, M, e, rfl, hO, by omega, .inl ⟨he, fun p H2 s2 np hp => ?_⟩⟩
  have hbt : btw (.int (d + 1)) 0 100000 = true := by
    show (decide (0 ≤ d + 1) && decide (d + 1 ≤ 100000)) = true
    rw [decide_eq_true (by omega), decide_eq_true (by omega)]
    rfl
  have hfst : ∀ j, j < k → M.ins[j]? ≠ some z := fun j hj h => by
    have := nd_at hg.ok.nd h hk
    omega
  refine ⟨_, rfl, o, C_Market, dy, _, _, rfl, s2 _ _ k0, T.cl_Market, T.no_Market_insurers, mf_i, ⟨bi, _, rfl, (k5.same s2).get (ins_ne hil.1)⟩, _, rfl, bi, M.ins, z, k, rfl, rfl, same_sqt s2 k1, hk, hfst, p, _, _, .int d, rfl, rfl, SqT.of hp, atI_nat (at_map hd), _, _, rfl, rfl, o, e, z, d + 1, M, rfl, MktAt.same s2 hO, ⟨_, rfl, hne.2, hne.1⟩, ⟨_, rfl, hnz.2, hnz.1⟩, hbt, he, hz, hg.lnd, by omega, hg.ok, by omega, .inr ⟨⟨e, he, ?_⟩, fun H' s3 => ⟨true, T.exc_NoEnd.e, fun _ a _ => q H' (s1.trans (s2.trans s3)), fun z => (nomatch z)⟩⟩⟩
  show fate M.ins M.trs (directs M.ins (setL M.los e z (d + 1)) e) false
  rw [directs_set hg.ok.nd M.los e (d + 1) hk]
  exact hf

theorem ok_law {f : Addr} {fd : FuncData} (D_law : Dfn K mg "law" s_law ["script"] f fd) (T : Tx K mg C_SpiralError C_BadName C_BadCover C_BadPanel C_BadAmount C_NameTaken C_NoSuchName C_Twice C_OwnPanel C_TooMany C_NoEnd C_Market) {f_law_fixed : Addr} {fd_law_fixed : FuncData} (D_law_fixed : Dfn K mg "_law_fixed" s_law_fixed [] f_law_fixed fd_law_fixed) (G_law_fixed : FnOk P w K mg base CX0 (12) f_law_fixed fd_law_fixed [] (sp_k51_fixed K)) {f_law_market : Addr} {fd_law_market : FuncData} (D_law_market : Dfn K mg "_law_market" s_law_market ["cell"] f_law_market fd_law_market) (G_law_market : FnOk P w K mg base CX0 (11) f_law_market fd_law_market ["cell"] (sp_dg_market K C_Market)) {f_law_cell : Addr} {fd_law_cell : FuncData} (D_law_cell : Dfn K mg "_law_cell" s_law_cell ["script", "k"] f_law_cell fd_law_cell) (G_law_cell : FnOk P w K mg base CX0 (1) f_law_cell fd_law_cell ["script", "k"] (sp_law_cell K)) {f_law_way : Addr} {fd_law_way : FuncData} (D_law_way : Dfn K mg "_law_way" s_law_way ["market", "event", "insurer"] f_law_way fd_law_way) (G_law_way : FnOk P w K mg base CX0 (7) f_law_way fd_law_way ["market", "event", "insurer"] (sp_lw_way K C_Market)) {f_law_explained : Addr} {fd_law_explained : FuncData} (D_law_explained : Dfn K mg "_law_explained" s_law_explained ["market", "event", "insurer"] f_law_explained fd_law_explained) (G_law_explained : FnOk P w K mg base CX0 (11) f_law_explained fd_law_explained ["market", "event", "insurer"] (sp_lw_explained K C_Market)) {f_law_has_no_end : Addr} {fd_law_has_no_end : FuncData} (D_law_has_no_end : Dfn K mg "_law_has_no_end" s_law_has_no_end ["market", "event", "insurer"] f_law_has_no_end fd_law_has_no_end) (G_law_has_no_end : FnOk P w K mg base CX0 (9) f_law_has_no_end fd_law_has_no_end ["market", "event", "insurer"] (sp_law_has_no_end K C_Market)) {f_judge_unit : Addr} {fd_judge_unit : FuncData} (D_judge_unit : Dfn K mg "judge_unit" s_judge_unit ["market", "event", "insurer", "paper"] f_judge_unit fd_judge_unit) (G_judge_unit : FnOk P w K mg base CX0 (11) f_judge_unit fd_judge_unit ["market", "event", "insurer", "paper"] (sp_judge_unit K C_Market)) {f_law_turned : Addr} {fd_law_turned : FuncData} (D_law_turned : Dfn K mg "_law_turned" s_law_turned ["paper", "digits", "at"] f_law_turned fd_law_turned) (G_law_turned : FnOk P w K mg base CX0 (7) f_law_turned fd_law_turned ["paper", "digits", "at"] (sp_lw_turned K 6)) {f_law_draws : Addr} {fd_law_draws : FuncData} (D_law_draws : Dfn K mg "_law_draws" s_law_draws ["cell", "count"] f_law_draws fd_law_draws) (G_law_draws : FnOk P w K mg base CX0 (1) f_law_draws fd_law_draws ["cell", "count"] (sp_dg_draws K)) :
    FnOk P w K mg base CX0 (13) f fd ["script"] (sp_law K) := by
  refine D_law.F.ok sc_law (fun vs H Q E h => ?_) (fun cdv A outer s H vs Q E hr h => ?_)
  · obtain ⟨a, cs, rfl, hS, h63, q⟩ := h
    rfl
  obtain ⟨a, cs, rfl, hS, h63, q⟩ := h
  refine ⟨_, (pss_cons (ps_if (pt_not (pt_val (pe_call0 G_law_fixed (hr.mono (by first | decide | omega)) rfl D_law_fixed.m D_law_fixed.F.kp D_law_fixed.b .nil pass0)))
      (pss_one (ps_ret pe_bl))
      pss_nil)
      (pss_cons (ps_set (i := 1) sc_law.nd rfl (by first | exact Or.inl rfl | exact Or.inr rfl) (pe_call G_law_market (hr.mono (by first | decide | omega)) rfl D_law_market.m D_law_market.F.kp D_law_market.b .nil pass0 (pa_cons (pe_call G_law_cell (hr.mono (by first | decide | omega)) rfl D_law_cell.m D_law_cell.F.kp D_law_cell.b .nil pass0 (pa_cons (pv 0) (pa_cons pe_int pa_nil))) pa_nil)))
      (pss_cons (ps_set (i := 2) sc_law.nd rfl (by first | exact Or.inl rfl | exact Or.inr rfl) (pe_ix (r := rIxT K) ix_tup (pe_fld (pv 1) rfl) (pe_op op_mod (pe_callTy call_int1 (by rfl) T.int (by decide +kernel) (pa_cons (pe_call G_law_cell (hr.mono (by first | decide | omega)) rfl D_law_cell.m D_law_cell.F.kp D_law_cell.b .nil pass0 (pa_cons (pv 0) (pa_cons pe_int pa_nil))) pa_nil)) (pe_callB call_len_seq (by rfl) T.len PySem.boot_len (pa_cons (pe_fld (pv 1) rfl) pa_nil))) (fun _ _ => rfl)))
      (pss_cons (ps_set (i := 3) sc_law.nd rfl (by first | exact Or.inl rfl | exact Or.inr rfl) (pe_ix (r := rIxT K) ix_tup (pe_fld (pv 1) rfl) (pe_op op_mod (pe_callTy call_int1 (by rfl) T.int (by decide +kernel) (pa_cons (pe_call G_law_cell (hr.mono (by first | decide | omega)) rfl D_law_cell.m D_law_cell.F.kp D_law_cell.b .nil pass0 (pa_cons (pv 0) (pa_cons pe_int pa_nil))) pa_nil)) (pe_callB call_len_seq (by rfl) T.len PySem.boot_len (pa_cons (pe_fld (pv 1) rfl) pa_nil))) (fun _ _ => rfl)))
      (pss_cons (ps_set (i := 4) sc_law.nd rfl (by first | exact Or.inl rfl | exact Or.inr rfl) (pe_call G_law_way (hr.mono (by first | decide | omega)) rfl D_law_way.m D_law_way.F.kp D_law_way.b .nil pass0 (pa_cons (pv 1) (pa_cons (pv 2) (pa_cons (pv 3) pa_nil)))))
      (pss_cons (ps_set (i := 5) sc_law.nd rfl (by first | exact Or.inl rfl | exact Or.inr rfl) (pe_call G_law_explained (hr.mono (by first | decide | omega)) rfl D_law_explained.m D_law_explained.F.kp D_law_explained.b .nil pass0 (pa_cons (pv 1) (pa_cons (pv 2) (pa_cons (pv 3) pa_nil)))))
      (pss_cons (ps_if (pt_cmpR op_isBlA (pv 5) pe_bl (nomark _))
      (pss_one (ps_ret (pe_call G_law_has_no_end (hr.mono (by first | decide | omega)) rfl D_law_has_no_end.m D_law_has_no_end.F.kp D_law_has_no_end.b .nil pass0 (pa_cons (pv 1) (pa_cons (pv 2) (pa_cons (pv 3) pa_nil))))))
      pss_nil)
      (pss_cons (ps_if (PW.pt (pw_or (pt_cmpR op_isN (pv 4) pe_non (nomark _)) (pw_or (pt_cmpR (op_neD hr.units) (pv 5) (pe_tup (pa_cons pe_str (pa_cons (pe_ix (r := rIxT K) ix_tup (pv 4) pe_int (fun _ _ => rfl)) (pa_cons (pe_ix (r := rIxT K) ix_tup (pv 4) pe_int (fun _ _ => rfl)) pa_nil)))) (nomark _)) (pw_or1 (pt_not (pt_val (pe_call G_judge_unit (hr.mono (by first | decide | omega)) rfl D_judge_unit.m D_judge_unit.F.kp D_judge_unit.b .nil pass0 (pa_cons (pv 1) (pa_cons (pv 2) (pa_cons (pv 3) (pa_cons (pv 5) pa_nil)))))))))))
      (pss_one (ps_ret pe_bl))
      pss_nil)
      (pss_cons (ps_set (i := 6) sc_law.nd rfl (by first | exact Or.inl rfl | exact Or.inr rfl) (pe_lst (pa_cons (pe_tup (pa_cons pe_str (pa_cons (pe_tup pa_nil) (pa_cons (pe_tup (pa_cons pe_str (pa_cons (pv 3) pa_nil))) pa_nil)))) (pa_cons (pe_tup (pa_cons pe_str (pa_cons (pe_ix (r := rIxT K) ix_tup (pv 4) pe_int (fun _ _ => rfl)) (pa_cons pe_non pa_nil)))) (pa_cons (pe_tup (pa_cons pe_str (pa_cons (pe_slice sl_tupA (pe_ix (r := rIxT K) ix_tup (pv 4) pe_int (fun _ _ => rfl)) po_none (po_some (pe_un un_neg pe_int))) (pa_cons (pe_ix (r := rIxT K) ix_tup (pv 4) pe_int (fun _ _ => rfl)) pa_nil)))) pa_nil)))))
      (pss_cons (ps_for PassesOwn.never rfl (pi_range1 (by rfl) T.range (pa_cons pe_int pa_nil)) (pg_name (i := 7) sc_law.nd rfl (by first | exact Or.inl rfl | exact Or.inr rfl))
      (pss_one (ps_expr (pe_bm PySem.F.plainAttrs_list PySem.F.slot_list_append PySem.F.type_list_append mt_append (pv 6) (pa_cons (pe_call G_law_turned (hr.mono (by first | decide | omega)) rfl D_law_turned.m D_law_turned.F.kp D_law_turned.b .nil pass0 (pa_cons (pv 5) (pa_cons (pe_call G_law_draws (hr.mono (by first | decide | omega)) rfl D_law_draws.m D_law_draws.F.kp D_law_draws.b .nil pass0 (pa_cons (pe_callTy call_int1 (by rfl) T.int (by decide +kernel) (pa_cons (pe_call G_law_cell (hr.mono (by first | decide | omega)) rfl D_law_cell.m D_law_cell.F.kp D_law_cell.b .nil pass0 (pa_cons (pv 0) (pa_cons (pe_op op_add pe_int (pv 7)) pa_nil))) pa_nil)) (pa_cons pe_int pa_nil))) (pa_cons pe_int pa_nil)))) pa_nil)))))
      (pss_cons (ps_for PassesOwn.never rfl (pi_list (pv 6)) (pg_name (i := 8) sc_law.nd rfl (by first | exact Or.inl rfl | exact Or.inr rfl))
      (pss_one (ps_if (pt_cmpR op_ne (pe_call G_judge_unit (hr.mono (by first | decide | omega)) rfl D_judge_unit.m D_judge_unit.F.kp D_judge_unit.b .nil pass0 (pa_cons (pv 1) (pa_cons (pv 2) (pa_cons (pv 3) (pa_cons (pv 8) pa_nil))))) (pe_cmpR (op_eqD hr.units) (pv 8) (pv 5) (nomark _)) (nomark _))
      (pss_one (ps_ret pe_bl))
      pss_nil)))
      (pss_one (ps_ret pe_bl))))))))))))), ?_⟩
  refine seq_to ⟨rfl, fun H0 s0 => ⟨_, rfl, iteF ?_⟩⟩
  refine next_to ?_
  dsimp only
  refine seq_to (asg_to ⟨_, rfl, a, cs, 0, rfl, s0.seq hS, cell cs 0, rfl, fun m M H1 s1 nm hM1 hg => ?_⟩)
  dsimp only
  refine nx_to ?_
  have hS1 := (s0.trans s1).seq hS
  have hil := hg.il
  have hel := hg.el
  have hll := hg.ll
  have hok := hg.ok
  obtain ⟨dx, ai, ae, at', ad, h0, h1, h2, h3, h4, h5⟩ := id hM1
  obtain ⟨ke, e, hke, ate, pe⟩ := pick_name (xs := M.evs) (cell cs 1) hel.1
  obtain ⟨k, z, hk, atz, pz⟩ := pick_name (xs := M.ins) (cell cs 2) hil.1
  have he : e ∈ M.evs := List.mem_of_getElem? hke
  refine seq_to (asg_to ⟨_, rfl, m, C_Market, dx, _, _, rfl, h0, T.cl_Market, T.no_Market_events, mf_e, _, rfl, a, cs, 1, rfl, hS1, .inl ⟨_, rfl, _, rfl, m, C_Market, dx, _, _, rfl, h0, T.cl_Market, T.no_Market_events, mf_e, ae, _, rfl, .inr h2, _, _, rfl, rfl, pe, ae, _, _, .str e, rfl, rfl, h2, ate, ?_⟩⟩)
  dsimp only
  refine nx_to ?_
  refine seq_to (asg_to ⟨_, rfl, m, C_Market, dx, _, _, rfl, h0, T.cl_Market, T.no_Market_insurers, mf_i, _, rfl, a, cs, 2, rfl, hS1, .inl ⟨_, rfl, _, rfl, m, C_Market, dx, _, _, rfl, h0, T.cl_Market, T.no_Market_insurers, mf_i, ai, _, rfl, .inr h1, _, _, rfl, rfl, pz, ai, _, _, .str z, rfl, rfl, h1, atz, ?_⟩⟩)
  dsimp only
  refine nx_to ?_
  generalize hw : List.set _ _ _ = w0
  have ew : w0 = [some (.ref a), some (.ref m), some (.str e), some (.str z), none, none, none, none, none] := by
    rw [← hw]
    kernel_rfl
  clear hw
  subst ew
  have hkl := (List.getElem?_eq_some_iff.mp hk).1
  have hdl : (directs M.ins M.los e).length = M.ins.length := List.length_map ..
  obtain ⟨d, hd⟩ : ∃ d, (directs M.ins M.los e)[k]? = some d := ⟨_, List.getElem?_eq_getElem (by omega)⟩
  have hdb := dg_dir hg e hd
  have hnn : NN (directs M.ins M.los e) := fun x hx => by
    obtain ⟨j, hj⟩ := List.getElem?_of_mem hx
    exact (dg_dir hg e (k := j) (d := x) hj).1
  obtain ⟨i, hi, hfix, hfst, hbig⟩ := (hg.ends e he : ∃ i, i ≤ 200 ∧ row M.ins M.trs (directs M.ins M.los e) (i + 1) = row M.ins M.trs (directs M.ins M.los e) i ∧ (∀ j, j < i → row M.ins M.trs (directs M.ins M.los e) (j + 1) ≠ row M.ins M.trs (directs M.ins M.los e) j) ∧ big (row M.ins M.trs (directs M.ins M.los e) i) = false)
  rcases fate_any M.ins M.trs ((directs M.ins M.los e).set k (d + 1)) with hf | hf
  rotate_left
  · -- a unit without end
    refine seq_to (asg_to ⟨_, rfl, _, rfl, _, rfl, m, M, e, z, k, i, rfl, hM1, hg, he, hk, hi, hfix, hfst, hbig, fun _ H2 s2 => ?_, fun _ _ _ p t f ps H2 s2 _ _ _ _ => ?_⟩)
    · dsimp only
      refine nx_to ?_
      refine seq_to (asg_to ⟨_, rfl, _, rfl, _, rfl, m, M, e, z, k, d, rfl, MktAt.same s2 hM1, hok, he, hk, hd, .inl ⟨hf, fun H3 s3 => ?_⟩⟩)
      dsimp only
      refine nx_to ?_
      exact seq_to ⟨_, rfl, true, rfl, .inl ⟨true, rfl, _, rfl, iteT' rfl ⟨_, rfl, _, rfl, _, rfl, m, M, e, z, k, d, rfl, MktAt.same (s2.trans s3) hM1, hg, he, hk, hd, hf, fun H4 _ => q H4⟩⟩⟩
    · dsimp only
      refine nx_to ?_
      refine seq_to (asg_to ⟨_, rfl, _, rfl, _, rfl, m, M, e, z, k, d, rfl, MktAt.same s2 hM1, hok, he, hk, hd, .inl ⟨hf, fun H3 s3 => ?_⟩⟩)
      dsimp only
      refine nx_to ?_
      exact seq_to ⟨_, rfl, true, rfl, .inl ⟨true, rfl, _, rfl, iteT' rfl ⟨_, rfl, _, rfl, _, rfl, m, M, e, z, k, d, rfl, MktAt.same (s2.trans s3) hM1, hg, he, hk, hd, hf, fun H4 _ => q H4⟩⟩⟩
  obtain ⟨j, hj, hjfix, hjfst, hjbig⟩ := (id hf : ∃ j, j ≤ 200 ∧ row M.ins M.trs ((directs M.ins M.los e).set k (d + 1)) (j + 1) = row M.ins M.trs ((directs M.ins M.los e).set k (d + 1)) j ∧ (∀ i, i < j → row M.ins M.trs ((directs M.ins M.los e).set k (d + 1)) (i + 1) ≠ row M.ins M.trs ((directs M.ins M.los e).set k (d + 1)) i) ∧ big (row M.ins M.trs ((directs M.ins M.los e).set k (d + 1)) j) = false)
  obtain ⟨L, en, hw, hwl⟩ := way_is hok hdl hnn hk hd hfix hjfix
  refine seq_to (asg_to ⟨_, rfl, _, rfl, _, rfl, m, M, e, z, k, i, rfl, hM1, hg, he, hk, hi, hfix, hfst, hbig, fun hno => absurd (hno L en hw) (by omega), fun L2 en2 hw2 wp wt wf wps H2 s2 hwp hwt hwA hwf => ?_⟩)
  obtain ⟨e1, e2⟩ := way_det hok.nd hw2 hw
  subst e1
  subst e2
  dsimp only
  refine nx_to ?_
  refine seq_to (asg_to ⟨_, rfl, _, rfl, _, rfl, m, M, e, z, k, d, rfl, MktAt.same s2 hM1, hok, he, hk, hd, .inr ⟨hf, i, L2, en2, hi, hfix, hfst, hbig, hw2, by omega, fun p t f ps H3 s3 hp ht hA hfE => ?_⟩⟩)
  dsimp only
  refine nx_to ?_
  generalize hw : List.set _ _ _ = w0
  have ew : w0 = [some (.ref a), some (.ref m), some (.str e), some (.str z), some (.ref wp), some (.ref p), none, none, none] := by
    rw [← hw]
    kernel_rfl
  clear hw
  subst ew
  refine seq_to ⟨_, rfl, true, rfl, .inr ⟨p, rfl, _, rfl, iteF ?_⟩⟩
  refine next_to ?_
  dsimp only
  obtain ⟨wn1, wn2⟩ := way_names hw2
  have gL := gt_way hg.sok wn1 (by omega : L2.length ≤ 5000)
  have gE := gt_end hg.sok wn2
  have gU : gt 5 (unitD L2 en2) = true := gt_3 (by decide +kernel) (gt_up gL) (gt_up (gt_up gE))
  have sU : SeqAt.shaped (unitD L2 en2) = true := shp_g6 gU (by decide)
  have eU : PyData.eqv (unitD L2 en2) (unitD L2 en2) = true := SeqAt.eqv_refl _ (SeqAt.canLay_of_shaped sU)
  have hwp3 := s3 _ _ hwp
  have hwt3 := same_sqt s3 hwt
  have hwf3 := same_sqt s3 hwf
  have hwA3 := AllAt.same (R := PassR K) (fun e r => PassR.same e r) s3 hwA
  have dU := dp_unit (SqT.of hp) (SqT.of ht) hA (SqT.of hfE) (K := K)
  have hM3 := MktAt.same (s2.trans s3) hM1
  have hS3 := (s2.trans s3).seq hS1
  refine seq_to ⟨_, rfl, rfl, _, rfl, iteF ?_⟩
  refine ⟨_, rfl, _, rfl, wp, _, 0, .ref wt, rfl, rfl, SqT.of hwp3, atI_nat (List.getElem?_cons_zero ..), _, rfl, wp, _, 1, .ref wf, rfl, rfl, SqT.of hwp3, atI_one, sz (Nat.le_of_ble_eq_true rfl), fun T nT => ?_⟩
  have u1 := same_new (o := .tup [.str "unit", .ref wt, .ref wf]) nT
  refine ⟨_, _, Dp.to u1 dU, dp_unit (SqT.of upd_same) (same_sqt u1 hwt3) (AllAt.same (R := PassR K) (fun e r => PassR.same e r) u1 hwA3) (same_sqt u1 hwf3), sU, sU, _, rfl, iteF' (by rw [eU]; rfl) ?_⟩
  refine ⟨_, rfl, _, rfl, _, rfl, _, rfl, m, M, e, z, k, d, .ref p, unitD L2 en2, rfl, MktAt.same u1 hM3, hok, he, hk, hd, .inl (Dp.to u1 dU), noB_gt (gt_up gU), .inr ⟨hf, i, L2, en2, hi, hfix, hfst, hbig, hw2, by omega, fun H4 s4 => ⟨_, rfl, ?_⟩⟩⟩
  rw [eU]
  refine iteF ?_
  refine next_to ?_
  dsimp only
  have s34 := u1.trans s4
  have dU4 := Dp.to s34 dU
  have hwp4 := s34 _ _ hwp3
  have hwt4 := same_sqt s34 hwt3
  have hwf4 := same_sqt s34 hwf3
  have hwA4 := AllAt.same (R := PassR K) (fun e r => PassR.same e r) s34 hwA3
  have hM4 := MktAt.same s34 hM3
  have hS4 := s34.seq hS3
  have wl : wps.length = L2.length := hwA.1
  clear hwp3 hwt3 hwf3 hwA3 hM3 hS3 dU hp ht hA hfE hM1 hS1 hwp hwt hwf h0 h1 h2 h3 h4 h5 s34 s2 s3 s4
  have gT : ∀ L : List (Str × Nat), (∀ p ∈ L, p ∈ L2) → L.length ≤ L2.length → gt 3 (.tuple (L.map passD)) = true := fun L h1 h2 => gt_way hg.sok (fun p hp => wn1 p (h1 p hp)) (by omega)
  -- the papers
  refine seq_to (asg_to ?_)
  refine cons_to ⟨sz (Nat.zero_le _), fun a0 n0 => ⟨_, rfl, sz (Nat.le_of_ble_eq_true rfl), fun a1 n1 => ⟨sz (Nat.le_of_ble_eq_true rfl), fun a2 n2 => ?_⟩⟩⟩
  have v0 := same_new (o := .tup []) n0
  have v1 := same_new (o := .tup [.str "insurer", .str z]) n1
  have v2 := same_new (o := .tup [.str "unit", .ref a0, .ref a1]) n2
  have v02 := v0.trans (v1.trans v2)
  have P1 : PapR K _ (.ref a2) (.tuple [.str "unit", .tuple [], .tuple [.str "insurer", .str z]]) := ⟨.tup (SqT.of (upd_same (H := upd (upd H4 a0 (.tup [])) a1 (.tup [.str "insurer", .str z])) (a := a2) (o := .tup [.str "unit", .ref a0, .ref a1]))) (.cons (.str _) (.cons (.tup (SqT.of (v2 _ _ (v1 _ _ upd_same))) .nil) (.cons (.tup (SqT.of (v2 _ _ upd_same)) (.cons (.str _) (.cons (.str _) .nil))) .nil))), gt_3 (by decide +kernel) rfl (gt_2 (by decide +kernel) (hg.sok z (List.mem_of_getElem? hk)))⟩
  obtain ⟨H5, e5⟩ : ∃ H5, upd (upd (upd H4 a0 (.tup [])) a1 (.tup [.str "insurer", .str z])) a2 (.tup [.str "unit", .ref a0, .ref a1]) = H5 := ⟨_, rfl⟩
  rw [e5] at v02 P1 ⊢
  clear e5 v0 v1 v2 n0 n1 n2
  refine cons_to ⟨_, rfl, wp, _, 0, .ref wt, rfl, rfl, SqT.of (v02 _ _ hwp4), atI_nat (List.getElem?_cons_zero ..), sz (Nat.le_of_ble_eq_true rfl), fun a3 n3 => ?_⟩
  have v3 := same_new (o := .tup [.str "unit", .ref wt, .non]) n3
  have v03 := v02.trans v3
  have dW : ∀ {H' : Hp}, Same H4 H' → Dp K H' (.ref wt) (.tuple (L2.map passD)) := fun s' => .tup (same_sqt s' hwt4) (dp_all (R := PassR K) (fun _ _ r => dp_pass r) (AllAt.same (R := PassR K) (fun e r => PassR.same e r) s' hwA4).1 (AllAt.same (R := PassR K) (fun e r => PassR.same e r) s' hwA4).2)
  have P2 : PapR K _ (.ref a3) (.tuple [.str "unit", .tuple (L2.map passD), .none]) := ⟨.tup (SqT.of (upd_same (H := H5) (a := a3) (o := .tup [.str "unit", .ref wt, .non]))) (.cons (.str _) (.cons (dW v03) (.cons .non .nil))), gt_3 (by decide +kernel) (gt_up (gt_up gL)) rfl⟩
  obtain ⟨H6, e6⟩ : ∃ H6, upd H5 a3 (.tup [.str "unit", .ref wt, .non]) = H6 := ⟨_, rfl⟩
  rw [e6] at v3 v03 P2 ⊢
  clear e6 n3
  refine cons_to ⟨_, rfl, wp, _, 0, .ref wt, rfl, rfl, SqT.of (v03 _ _ hwp4), atI_nat (List.getElem?_cons_zero ..), ?_⟩
  dsimp only [tNoPart]
  refine ⟨1, rfl, _, rfl, slA_gen (same_sqt v03 hwt4) fun A3 H7 s7 hA3 => ?_⟩
  rw [cutR_last, wl] at hA3
  have v37 := v03.trans s7
  refine ⟨_, rfl, wp, _, 1, .ref wf, rfl, rfl, SqT.of (v37 _ _ hwp4), atI_one, sz (Nat.le_of_ble_eq_true rfl), fun a4 n4 => ⟨sz (Nat.le_of_ble_eq_true rfl), fun l nl => ?_⟩⟩
  have v4 := same_new (o := .tup [.str "unit", .ref A3, .ref wf]) n4
  have sG := v37.trans v4
  have dT : Dp K (upd H7 a4 (.tup [.str "unit", .ref A3, .ref wf])) (.ref A3) (.tuple ((L2.take (L2.length - 1)).map passD)) := .tup (same_sqt v4 hA3) (dp_all (R := PassR K) (fun _ _ r => dp_pass r) (AllAt.takeX (AllAt.same (R := PassR K) (fun e r => PassR.same e r) sG hwA4) (L2.length - 1)).1 (AllAt.takeX (AllAt.same (R := PassR K) (fun e r => PassR.same e r) sG hwA4) (L2.length - 1)).2)
  have P3 : PapR K (upd H7 a4 (.tup [.str "unit", .ref A3, .ref wf])) (.ref a4) (.tuple [.str "unit", .tuple ((L2.take (L2.length - 1)).map passD), endD en2]) := ⟨.tup (SqT.of upd_same) (.cons (.str _) (.cons dT (.cons (dp_end (same_sqt sG hwf4)) .nil))), gt_3 (by decide +kernel) (gt_up (gt_up (gT _ (fun p hp => List.mem_of_mem_take hp) (by rw [List.length_take]; omega)))) (gt_up (gt_up (gt_up gE)))⟩
  have P1G := PapR.same (v3.trans (s7.trans v4)) P1
  have P2G := PapR.same (s7.trans v4) P2
  obtain ⟨G, eG⟩ : ∃ G, upd H7 a4 (.tup [.str "unit", .ref A3, .ref wf]) = G := ⟨_, rfl⟩
  rw [eG] at nl P3 P1G P2G sG ⊢
  have u4 := same_new (o := .lst [.ref a2, .ref a3, .ref a4]) nl
  have hl : upd G l (.lst [.ref a2, .ref a3, .ref a4]) l = some (.lst [.ref a2, .ref a3, .ref a4]) := upd_same
  have fin : AllAt (PapR K) (upd G l (.lst [.ref a2, .ref a3, .ref a4])) [.ref a2, .ref a3, .ref a4] [.tuple [.str "unit", .tuple [], .tuple [.str "insurer", .str z]], .tuple [.str "unit", .tuple (L2.map passD), .none], .tuple [.str "unit", .tuple ((L2.take (L2.length - 1)).map passD), endD en2]] :=
    AllAt.consX (R := PapR K) (PapR.same u4 P1G) (AllAt.consX (R := PapR K) (PapR.same u4 P2G) (AllAt.consX (R := PapR K) (PapR.same u4 P3) AllAt.nil))
  obtain ⟨G1, eG1⟩ : ∃ G1, upd G l (.lst [.ref a2, .ref a3, .ref a4]) = G1 := ⟨_, rfl⟩
  rw [eG1] at fin hl u4 ⊢
  have dUG := Dp.to sG dU4
  have hMG := MktAt.same sG hM4
  have hSG := sG.seq hS4
  clear eG1 eG P1 P2 P3 P1G P2G dT v4 v37 v3 v03 v02 s7 dU4 hM4 hS4 hwp4 hwt4 hwf4 hwA4 dW sG
  refine nx_to ?_
  generalize hw : List.set _ _ _ = w0
  have ew : w0 = [some (.ref a), some (.ref m), some (.str e), some (.str z), some (.ref wp), some (.ref p), some (.ref l), none, none] := by
    rw [← hw]
    kernel_rfl
  clear hw
  subst ew
  refine seq_to ⟨8, rfl, by decide, by decide, ?_⟩
  refine for_range (lo := 0) (n := 8) (fun k σ Hy => ∃ (v7 : Option V) (xs : List V) (ds : List PyData), σ = [some (.ref a), some (.ref m), some (.str e), some (.str z), some (.ref wp), some (.ref p), some (.ref l), v7, none] ∧ Same G Hy ∧ Hy l = some (.lst xs) ∧ AllAt (PapR K) Hy xs ds ∧ xs.length = 3 + k) ⟨_, _, _, rfl, u4, hl, fin, rfl⟩ ?_ ?_
  · rintro k2 σ Hy hk2 ⟨v7, xs, ds, rfl, sy, hly, hAy, xl⟩
    refine ⟨_, rfl, .inl ⟨rfl, _, SqL.of hly⟩, _, rfl, _, rfl, _, rfl, _, _, rfl, rfl, a, cs, 3 + k2, congrArg (fun z => [V.ref a, V.int z]) (by omega), sy.seq hSG, .inl ⟨_, rfl, _, 8, rfl, by decide, fun o Ha ns sa no hN hnl hn => ?_⟩⟩
    refine ⟨.ref p, o, unitD L2 en2, ns, 0, rfl, Dp.to (sy.trans sa) dUG, gt_up gU, hN, hn, by omega, by omega, fun y d Hb sb hy hgd => ?_⟩
    have sab := sa.trans sb
    have hlb2 := sab _ _ hly
    refine ⟨l, xs, y, rfl, rfl, hlb2, szl (by omega), ?_⟩
    exact ⟨_, xs ++ [y], ds ++ [d], rfl, same_put (sy.trans sab) nl, upd_same, pap_add hlb2 (AllAt.same (R := PapR K) (fun e r => PapR.same e r) sab hAy) ⟨hy, hgd⟩, by rw [List.length_append, xl]; rfl⟩
  clear fin hl u4
  rintro σ H9 ⟨v7, xs, ds, rfl, s9, hl9, hA9, xl⟩
  have hM9 := MktAt.same s9 hMG
  have dU9 := Dp.to s9 dUG
  dsimp only
  refine seq_to ⟨_, rfl, l, rfl, ⟨_, SqL.of hl9⟩, for_list (K := K) (a := l) (xs := xs) (fun j σ Hz => ∃ v8 : Option V, σ = [some (.ref a), some (.ref m), some (.str e), some (.str z), some (.ref wp), some (.ref p), some (.ref l), v7, v8] ∧ Same H9 Hz) ⟨_, rfl, Same.refl _⟩ (fun j σ Hz _ ⟨_, _, w⟩ => SqL.of (w _ _ hl9)) ?_ ?_⟩
  rotate_left
  · rintro σ Hz ⟨_, rfl, _⟩
    exact q Hz
  rintro j2 y σ Hz hj2 ⟨v8, rfl, sz9⟩
  obtain ⟨dy, hdy, hy, hgd⟩ := hA9.get hj2
  have hyz := Dp.to sz9 hy
  refine ⟨_, rfl, _, rfl, _, rfl, _, rfl, m, M, e, z, k, d, y, dy, rfl, MktAt.same sz9 hM9, hok, he, hk, hd, .inl hyz, noB_gt hgd, .inr ⟨hf, i, L2, en2, hi, hfix, hfst, hbig, hw2, by omega, fun Ha sa => ?_⟩⟩
  refine ⟨_, rfl, _, rfl, dy, unitD L2 en2, Dp.to sa hyz, Dp.to (sz9.trans sa) dU9, shp_g6 hgd (by decide), sU, rfl, _, rfl, iteF' (by rw [decide_eq_true rfl]; rfl) ⟨_, rfl, sz9.trans sa⟩⟩

theorem issame_all {f : Addr} {fd : FuncData} (D_is_same : Dfn K mg "is_same" s_is_same ["value", "wanted"] f fd) (T : Tx K mg C_SpiralError C_BadName C_BadCover C_BadPanel C_BadAmount C_NameTaken C_NoSuchName C_Twice C_OwnPanel C_TooMany C_NoEnd C_Market) {f_is_between : Addr} {fd_is_between : FuncData} (D_is_between : Dfn K mg "is_between" s_is_between ["value", "low", "high"] f_is_between fd_is_between)
    (G_is_between : FnOk P w K mg base CX0 1 f_is_between fd_is_between ["value", "low", "high"] (sp_is_between K)) : ∀ n : Nat, FnOk P w K mg base CX0 (n + 2) f fd ["value", "wanted"] (sp_is_same K n)
  | 0 => by
    have no : ∀ vs H Q E, ¬ sp_is_same K 0 vs H Q E := fun vs H Q E h => by
      obtain ⟨x, y, d, w, _, _, h1, _⟩ := h
      cases h1
    exact ⟨fun vs H Q E h => absurd h (no vs H Q E), fun A outer s H args us vs Q E _ _ _ _ h => absurd h (no vs H Q E)⟩
  | n + 1 => ok_is_same D_is_same T D_is_between G_is_between (issame_all D_is_same T D_is_between G_is_between n)
theorem turned_all {f : Addr} {fd : FuncData} (D_law_turned : Dfn K mg "_law_turned" s_law_turned ["paper", "digits", "at"] f fd) (T : Tx K mg C_SpiralError C_BadName C_BadCover C_BadPanel C_BadAmount C_NameTaken C_NoSuchName C_Twice C_OwnPanel C_TooMany C_NoEnd C_Market) : ∀ n : Nat, FnOk P w K mg base CX0 (n + 1) f fd ["paper", "digits", "at"] (sp_lw_turned K n)
  | 0 => by
    have no : ∀ vs H Q E, ¬ sp_lw_turned K 0 vs H Q E := fun vs H Q E h => by
      obtain ⟨_, _, _, _, _, _, _, h1, _⟩ := h
      cases h1
    exact ⟨fun vs H Q E h => absurd h (no vs H Q E), fun A outer s H args us vs Q E _ _ _ _ h => absurd h (no vs H Q E)⟩
  | n + 1 => ok_law_turned D_law_turned T (turned_all D_law_turned T n)
end
end Sd
/-! ### the end -/
namespace Sd
open PySem PySem.Spec PyProof.Rows L2
theorem all_mk {l : PySem.W.OpenLaw} {w : World} {K : PySem.W.Frag} {h : Heap} {mg : Str → Option Value} {fa f1 f2 f3 f4 f5 f6 f7 f8 f9 f10 f11 f12 f13 f14 f15 f16 f17 f18 f19 f20 f21 f22 f23 f24 f25 f26 f27 f28 f29 f30 f31 f32 f33 f34 f35 f36 f37 f38 f39 f40 f41 f42 f43 f44 f45 f46 f47 f48 f49 f50 f51 f52 f53 f54 f55 f56 f57 f58 f59 C_SpiralError C_BadName C_BadCover C_BadPanel C_BadAmount C_NameTaken C_NoSuchName C_Twice C_OwnPanel C_TooMany C_NoEnd C_Market : Addr} (X : K.In h) (G : h.Ns mainGlobals mg) (hfa : mg "law" = some (.ref fa))
    {od1 an1 : Option Addr} {sl1 : Array (Option Value)} {oc1 kV1 dc1 pm1 cd1 ct1 : Value}
    {od2 an2 : Option Addr} {sl2 : Array (Option Value)} {oc2 kV2 dc2 pm2 cd2 ct2 : Value}
    {od3 an3 : Option Addr} {sl3 : Array (Option Value)} {oc3 kV3 dc3 pm3 cd3 ct3 : Value}
    {od4 an4 : Option Addr} {sl4 : Array (Option Value)} {oc4 kV4 dc4 pm4 cd4 ct4 : Value}
    {od5 an5 : Option Addr} {sl5 : Array (Option Value)} {oc5 kV5 dc5 pm5 cd5 ct5 : Value}
    {od6 an6 : Option Addr} {sl6 : Array (Option Value)} {oc6 kV6 dc6 pm6 cd6 ct6 : Value}
    {od7 an7 : Option Addr} {sl7 : Array (Option Value)} {oc7 kV7 dc7 pm7 cd7 ct7 : Value}
    {od8 an8 : Option Addr} {sl8 : Array (Option Value)} {oc8 kV8 dc8 pm8 cd8 ct8 : Value}
    {od9 an9 : Option Addr} {sl9 : Array (Option Value)} {oc9 kV9 dc9 pm9 cd9 ct9 : Value}
    {od10 an10 : Option Addr} {sl10 : Array (Option Value)} {oc10 kV10 dc10 pm10 cd10 ct10 : Value}
    {od11 an11 : Option Addr} {sl11 : Array (Option Value)} {oc11 kV11 dc11 pm11 cd11 ct11 : Value}
    {od12 an12 : Option Addr} {sl12 : Array (Option Value)} {oc12 kV12 dc12 pm12 cd12 ct12 : Value}
    {od13 an13 : Option Addr} {sl13 : Array (Option Value)} {oc13 kV13 dc13 pm13 cd13 ct13 : Value}
    {od14 an14 : Option Addr} {sl14 : Array (Option Value)} {oc14 kV14 dc14 pm14 cd14 ct14 : Value}
    {od15 an15 : Option Addr} {sl15 : Array (Option Value)} {oc15 kV15 dc15 pm15 cd15 ct15 : Value}
    {od16 an16 : Option Addr} {sl16 : Array (Option Value)} {oc16 kV16 dc16 pm16 cd16 ct16 : Value}
    {od17 an17 : Option Addr} {sl17 : Array (Option Value)} {oc17 kV17 dc17 pm17 cd17 ct17 : Value}
    {od18 an18 : Option Addr} {sl18 : Array (Option Value)} {oc18 kV18 dc18 pm18 cd18 ct18 : Value}
    {od19 an19 : Option Addr} {sl19 : Array (Option Value)} {oc19 kV19 dc19 pm19 cd19 ct19 : Value}
    {od20 an20 : Option Addr} {sl20 : Array (Option Value)} {oc20 kV20 dc20 pm20 cd20 ct20 : Value}
    {od21 an21 : Option Addr} {sl21 : Array (Option Value)} {oc21 kV21 dc21 pm21 cd21 ct21 : Value}
    {od22 an22 : Option Addr} {sl22 : Array (Option Value)} {oc22 kV22 dc22 pm22 cd22 ct22 : Value}
    {od23 an23 : Option Addr} {sl23 : Array (Option Value)} {oc23 kV23 dc23 pm23 cd23 ct23 : Value}
    {od24 an24 : Option Addr} {sl24 : Array (Option Value)} {oc24 kV24 dc24 pm24 cd24 ct24 : Value}
    {od25 an25 : Option Addr} {sl25 : Array (Option Value)} {oc25 kV25 dc25 pm25 cd25 ct25 : Value}
    {od26 an26 : Option Addr} {sl26 : Array (Option Value)} {oc26 kV26 dc26 pm26 cd26 ct26 : Value}
    {od27 an27 : Option Addr} {sl27 : Array (Option Value)} {oc27 kV27 dc27 pm27 cd27 ct27 : Value}
    {od28 an28 : Option Addr} {sl28 : Array (Option Value)} {oc28 kV28 dc28 pm28 cd28 ct28 : Value}
    {od29 an29 : Option Addr} {sl29 : Array (Option Value)} {oc29 kV29 dc29 pm29 cd29 ct29 : Value}
    {od30 an30 : Option Addr} {sl30 : Array (Option Value)} {oc30 kV30 dc30 pm30 cd30 ct30 : Value}
    {od31 an31 : Option Addr} {sl31 : Array (Option Value)} {oc31 kV31 dc31 pm31 cd31 ct31 : Value}
    {od32 an32 : Option Addr} {sl32 : Array (Option Value)} {oc32 kV32 dc32 pm32 cd32 ct32 : Value}
    {od33 an33 : Option Addr} {sl33 : Array (Option Value)} {oc33 kV33 dc33 pm33 cd33 ct33 : Value}
    {od34 an34 : Option Addr} {sl34 : Array (Option Value)} {oc34 kV34 dc34 pm34 cd34 ct34 : Value}
    {od35 an35 : Option Addr} {sl35 : Array (Option Value)} {oc35 kV35 dc35 pm35 cd35 ct35 : Value}
    {od36 an36 : Option Addr} {sl36 : Array (Option Value)} {oc36 kV36 dc36 pm36 cd36 ct36 : Value}
    {od37 an37 : Option Addr} {sl37 : Array (Option Value)} {oc37 kV37 dc37 pm37 cd37 ct37 : Value}
    {od38 an38 : Option Addr} {sl38 : Array (Option Value)} {oc38 kV38 dc38 pm38 cd38 ct38 : Value}
    {od39 an39 : Option Addr} {sl39 : Array (Option Value)} {oc39 kV39 dc39 pm39 cd39 ct39 : Value}
    {od40 an40 : Option Addr} {sl40 : Array (Option Value)} {oc40 kV40 dc40 pm40 cd40 ct40 : Value}
    {od41 an41 : Option Addr} {sl41 : Array (Option Value)} {oc41 kV41 dc41 pm41 cd41 ct41 : Value}
    {od42 an42 : Option Addr} {sl42 : Array (Option Value)} {oc42 kV42 dc42 pm42 cd42 ct42 : Value}
    {od43 an43 : Option Addr} {sl43 : Array (Option Value)} {oc43 kV43 dc43 pm43 cd43 ct43 : Value}
    {od44 an44 : Option Addr} {sl44 : Array (Option Value)} {oc44 kV44 dc44 pm44 cd44 ct44 : Value}
    {od45 an45 : Option Addr} {sl45 : Array (Option Value)} {oc45 kV45 dc45 pm45 cd45 ct45 : Value}
    {od46 an46 : Option Addr} {sl46 : Array (Option Value)} {oc46 kV46 dc46 pm46 cd46 ct46 : Value}
    {od47 an47 : Option Addr} {sl47 : Array (Option Value)} {oc47 kV47 dc47 pm47 cd47 ct47 : Value}
    {od48 an48 : Option Addr} {sl48 : Array (Option Value)} {oc48 kV48 dc48 pm48 cd48 ct48 : Value}
    {od49 an49 : Option Addr} {sl49 : Array (Option Value)} {oc49 kV49 dc49 pm49 cd49 ct49 : Value}
    {od50 an50 : Option Addr} {sl50 : Array (Option Value)} {oc50 kV50 dc50 pm50 cd50 ct50 : Value}
    {od51 an51 : Option Addr} {sl51 : Array (Option Value)} {oc51 kV51 dc51 pm51 cd51 ct51 : Value}
    {od52 an52 : Option Addr} {sl52 : Array (Option Value)} {oc52 kV52 dc52 pm52 cd52 ct52 : Value}
    {od53 an53 : Option Addr} {sl53 : Array (Option Value)} {oc53 kV53 dc53 pm53 cd53 ct53 : Value}
    {od54 an54 : Option Addr} {sl54 : Array (Option Value)} {oc54 kV54 dc54 pm54 cd54 ct54 : Value}
    {od55 an55 : Option Addr} {sl55 : Array (Option Value)} {oc55 kV55 dc55 pm55 cd55 ct55 : Value}
    {od56 an56 : Option Addr} {sl56 : Array (Option Value)} {oc56 kV56 dc56 pm56 cd56 ct56 : Value}
    {od57 an57 : Option Addr} {sl57 : Array (Option Value)} {oc57 kV57 dc57 pm57 cd57 ct57 : Value}
    {od58 an58 : Option Addr} {sl58 : Array (Option Value)} {oc58 kV58 dc58 pm58 cd58 ct58 : Value}
    {od59 an59 : Option Addr} {sl59 : Array (Option Value)} {oc59 kV59 dc59 pm59 cd59 ct59 : Value}
    (a1 : PySem.W.findIn K (.ref C_NameTaken) "__init__" = some (some (.ref f1))) (i1 : PySem.W.typeIn K (.ref f1) = some (.type "function")) (l1 : K.lookup f1 = some ⟨oc1, od1, .func (PySem.W.fnOf "__init__" "NameTaken.__init__" (defArgs s_NameTaken___init) (defBody s_NameTaken___init) (defScope s_NameTaken___init) .none kV1 dc1 pm1 an1 cd1 ct1), sl1⟩) (c1 : PySem.W.codeIn K cd1 "NameTaken.__init__" = true) (k1 : PySem.W.keepIn K (.ref f1) = true)
    (a2 : PySem.W.findIn K (.ref C_NoSuchName) "__init__" = some (some (.ref f2))) (i2 : PySem.W.typeIn K (.ref f2) = some (.type "function")) (l2 : K.lookup f2 = some ⟨oc2, od2, .func (PySem.W.fnOf "__init__" "NoSuchName.__init__" (defArgs s_NoSuchName___init) (defBody s_NoSuchName___init) (defScope s_NoSuchName___init) .none kV2 dc2 pm2 an2 cd2 ct2), sl2⟩) (c2 : PySem.W.codeIn K cd2 "NoSuchName.__init__" = true) (k2 : PySem.W.keepIn K (.ref f2) = true)
    (a3 : PySem.W.nsIn K mainGlobals "is_between" = some (some (.ref f3))) (l3 : K.lookup f3 = some ⟨oc3, od3, .func (PySem.W.fnOf "is_between" "is_between" (defArgs s_is_between) (defBody s_is_between) (defScope s_is_between) .none kV3 dc3 pm3 an3 cd3 ct3), sl3⟩) (c3 : PySem.W.codeIn K cd3 "is_between" = true) (k3 : PySem.W.keepIn K (.ref f3) = true)
    (a4 : PySem.W.nsIn K mainGlobals "is_name" = some (some (.ref f4))) (l4 : K.lookup f4 = some ⟨oc4, od4, .func (PySem.W.fnOf "is_name" "is_name" (defArgs s_is_name) (defBody s_is_name) (defScope s_is_name) .none kV4 dc4 pm4 an4 cd4 ct4), sl4⟩) (c4 : PySem.W.codeIn K cd4 "is_name" = true) (k4 : PySem.W.keepIn K (.ref f4) = true)
    (a5 : PySem.W.nsIn K mainGlobals "check_name" = some (some (.ref f5))) (l5 : K.lookup f5 = some ⟨oc5, od5, .func (PySem.W.fnOf "check_name" "check_name" (defArgs s_check_name) (defBody s_check_name) (defScope s_check_name) .none kV5 dc5 pm5 an5 cd5 ct5), sl5⟩) (c5 : PySem.W.codeIn K cd5 "check_name" = true) (k5 : PySem.W.keepIn K (.ref f5) = true)
    (a6 : PySem.W.nsIn K mainGlobals "check_known" = some (some (.ref f6))) (l6 : K.lookup f6 = some ⟨oc6, od6, .func (PySem.W.fnOf "check_known" "check_known" (defArgs s_check_known) (defBody s_check_known) (defScope s_check_known) .none kV6 dc6 pm6 an6 cd6 ct6), sl6⟩) (c6 : PySem.W.codeIn K cd6 "check_known" = true) (k6 : PySem.W.keepIn K (.ref f6) = true)
    (a7 : PySem.W.nsIn K mainGlobals "check_names" = some (some (.ref f7))) (l7 : K.lookup f7 = some ⟨oc7, od7, .func (PySem.W.fnOf "check_names" "check_names" (defArgs s_check_names) (defBody s_check_names) (defScope s_check_names) .none kV7 dc7 pm7 an7 cd7 ct7), sl7⟩) (c7 : PySem.W.codeIn K cd7 "check_names" = true) (k7 : PySem.W.keepIn K (.ref f7) = true)
    (a8 : PySem.W.nsIn K mainGlobals "is_entry" = some (some (.ref f8))) (l8 : K.lookup f8 = some ⟨oc8, od8, .func (PySem.W.fnOf "is_entry" "is_entry" (defArgs s_is_entry) (defBody s_is_entry) (defScope s_is_entry) .none kV8 dc8 pm8 an8 cd8 ct8), sl8⟩) (c8 : PySem.W.codeIn K cd8 "is_entry" = true) (k8 : PySem.W.keepIn K (.ref f8) = true)
    (a9 : PySem.W.nsIn K mainGlobals "is_panel" = some (some (.ref f9))) (l9 : K.lookup f9 = some ⟨oc9, od9, .func (PySem.W.fnOf "is_panel" "is_panel" (defArgs s_is_panel) (defBody s_is_panel) (defScope s_is_panel) .none kV9 dc9 pm9 an9 cd9 ct9), sl9⟩) (c9 : PySem.W.codeIn K cd9 "is_panel" = true) (k9 : PySem.W.keepIn K (.ref f9) = true)
    (a10 : PySem.W.nsIn K mainGlobals "check_panel" = some (some (.ref f10))) (l10 : K.lookup f10 = some ⟨oc10, od10, .func (PySem.W.fnOf "check_panel" "check_panel" (defArgs s_check_panel) (defBody s_check_panel) (defScope s_check_panel) .none kV10 dc10 pm10 an10 cd10 ct10), sl10⟩) (c10 : PySem.W.codeIn K cd10 "check_panel" = true) (k10 : PySem.W.keepIn K (.ref f10) = true)
    (a11 : PySem.W.nsIn K mainGlobals "allocate" = some (some (.ref f11))) (l11 : K.lookup f11 = some ⟨oc11, od11, .func (PySem.W.fnOf "allocate" "allocate" (defArgs s_allocate) (defBody s_allocate) (defScope s_allocate) .none kV11 dc11 pm11 an11 cd11 ct11), sl11⟩) (c11 : PySem.W.codeIn K cd11 "allocate" = true) (k11 : PySem.W.keepIn K (.ref f11) = true)
    (a12 : PySem.W.nsIn K mainGlobals "next_unit" = some (some (.ref f12))) (l12 : K.lookup f12 = some ⟨oc12, od12, .func (PySem.W.fnOf "next_unit" "next_unit" (defArgs s_next_unit) (defBody s_next_unit) (defScope s_next_unit) .none kV12 dc12 pm12 an12 cd12 ct12), sl12⟩) (c12 : PySem.W.codeIn K cd12 "next_unit" = true) (k12 : PySem.W.keepIn K (.ref f12) = true)
    (a13 : PySem.W.nsIn K mainGlobals "is_cover" = some (some (.ref f13))) (l13 : K.lookup f13 = some ⟨oc13, od13, .func (PySem.W.fnOf "is_cover" "is_cover" (defArgs s_is_cover) (defBody s_is_cover) (defScope s_is_cover) .none kV13 dc13 pm13 an13 cd13 ct13), sl13⟩) (c13 : PySem.W.codeIn K cd13 "is_cover" = true) (k13 : PySem.W.keepIn K (.ref f13) = true)
    (a14 : PySem.W.nsIn K mainGlobals "check_cover" = some (some (.ref f14))) (l14 : K.lookup f14 = some ⟨oc14, od14, .func (PySem.W.fnOf "check_cover" "check_cover" (defArgs s_check_cover) (defBody s_check_cover) (defScope s_check_cover) .none kV14 dc14 pm14 an14 cd14 ct14), sl14⟩) (c14 : PySem.W.codeIn K cd14 "check_cover" = true) (k14 : PySem.W.keepIn K (.ref f14) = true)
    (a15 : PySem.W.nsIn K mainGlobals "recovery" = some (some (.ref f15))) (l15 : K.lookup f15 = some ⟨oc15, od15, .func (PySem.W.fnOf "recovery" "recovery" (defArgs s_recovery) (defBody s_recovery) (defScope s_recovery) .none kV15 dc15 pm15 an15 cd15 ct15), sl15⟩) (c15 : PySem.W.codeIn K cd15 "recovery" = true) (k15 : PySem.W.keepIn K (.ref f15) = true)
    (a16 : PySem.W.nsIn K mainGlobals "programme" = some (some (.ref f16))) (l16 : K.lookup f16 = some ⟨oc16, od16, .func (PySem.W.fnOf "programme" "programme" (defArgs s_programme) (defBody s_programme) (defScope s_programme) .none kV16 dc16 pm16 an16 cd16 ct16), sl16⟩) (c16 : PySem.W.codeIn K cd16 "programme" = true) (k16 : PySem.W.keepIn K (.ref f16) = true)
    (a17 : PySem.W.nsIn K mainGlobals "active_covers" = some (some (.ref f17))) (l17 : K.lookup f17 = some ⟨oc17, od17, .func (PySem.W.fnOf "active_covers" "active_covers" (defArgs s_active_covers) (defBody s_active_covers) (defScope s_active_covers) .none kV17 dc17 pm17 an17 cd17 ct17), sl17⟩) (c17 : PySem.W.codeIn K cd17 "active_covers" = true) (k17 : PySem.W.keepIn K (.ref f17) = true)
    (a18 : PySem.W.nsIn K mainGlobals "cede" = some (some (.ref f18))) (l18 : K.lookup f18 = some ⟨oc18, od18, .func (PySem.W.fnOf "cede" "cede" (defArgs s_cede) (defBody s_cede) (defScope s_cede) .none kV18 dc18 pm18 an18 cd18 ct18), sl18⟩) (c18 : PySem.W.codeIn K cd18 "cede" = true) (k18 : PySem.W.keepIn K (.ref f18) = true)
    (a19 : PySem.W.nsIn K mainGlobals "treaty_payments" = some (some (.ref f19))) (l19 : K.lookup f19 = some ⟨oc19, od19, .func (PySem.W.fnOf "treaty_payments" "treaty_payments" (defArgs s_treaty_payments) (defBody s_treaty_payments) (defScope s_treaty_payments) .none kV19 dc19 pm19 an19 cd19 ct19), sl19⟩) (c19 : PySem.W.codeIn K cd19 "treaty_payments" = true) (k19 : PySem.W.keepIn K (.ref f19) = true)
    (a20 : PySem.W.nsIn K mainGlobals "panel_parts" = some (some (.ref f20))) (l20 : K.lookup f20 = some ⟨oc20, od20, .func (PySem.W.fnOf "panel_parts" "panel_parts" (defArgs s_panel_parts) (defBody s_panel_parts) (defScope s_panel_parts) .none kV20 dc20 pm20 an20 cd20 ct20), sl20⟩) (c20 : PySem.W.codeIn K cd20 "panel_parts" = true) (k20 : PySem.W.keepIn K (.ref f20) = true)
    (a21 : PySem.W.nsIn K mainGlobals "next_gross" = some (some (.ref f21))) (l21 : K.lookup f21 = some ⟨oc21, od21, .func (PySem.W.fnOf "next_gross" "next_gross" (defArgs s_next_gross) (defBody s_next_gross) (defScope s_next_gross) .none kV21 dc21 pm21 an21 cd21 ct21), sl21⟩) (c21 : PySem.W.codeIn K cd21 "next_gross" = true) (k21 : PySem.W.keepIn K (.ref f21) = true)
    (a22 : PySem.W.nsIn K mainGlobals "rounds_to_end" = some (some (.ref f22))) (l22 : K.lookup f22 = some ⟨oc22, od22, .func (PySem.W.fnOf "rounds_to_end" "rounds_to_end" (defArgs s_rounds_to_end) (defBody s_rounds_to_end) (defScope s_rounds_to_end) .none kV22 dc22 pm22 an22 cd22 ct22), sl22⟩) (c22 : PySem.W.codeIn K cd22 "rounds_to_end" = true) (k22 : PySem.W.keepIn K (.ref f22) = true)
    (a23 : PySem.W.nsIn K mainGlobals "rounds" = some (some (.ref f23))) (l23 : K.lookup f23 = some ⟨oc23, od23, .func (PySem.W.fnOf "rounds" "rounds" (defArgs s_rounds) (defBody s_rounds) (defScope s_rounds) .none kV23 dc23 pm23 an23 cd23 ct23), sl23⟩) (c23 : PySem.W.codeIn K cd23 "rounds" = true) (k23 : PySem.W.keepIn K (.ref f23) = true)
    (a24 : PySem.W.nsIn K mainGlobals "settled" = some (some (.ref f24))) (l24 : K.lookup f24 = some ⟨oc24, od24, .func (PySem.W.fnOf "settled" "settled" (defArgs s_settled) (defBody s_settled) (defScope s_settled) .none kV24 dc24 pm24 an24 cd24 ct24), sl24⟩) (c24 : PySem.W.codeIn K cd24 "settled" = true) (k24 : PySem.W.keepIn K (.ref f24) = true)
    (a25 : PySem.W.nsIn K mainGlobals "check_unit_ends" = some (some (.ref f25))) (l25 : K.lookup f25 = some ⟨oc25, od25, .func (PySem.W.fnOf "check_unit_ends" "check_unit_ends" (defArgs s_check_unit_ends) (defBody s_check_unit_ends) (defScope s_check_unit_ends) .none kV25 dc25 pm25 an25 cd25 ct25), sl25⟩) (c25 : PySem.W.codeIn K cd25 "check_unit_ends" = true) (k25 : PySem.W.keepIn K (.ref f25) = true)
    (a26 : PySem.W.nsIn K mainGlobals "next_step" = some (some (.ref f26))) (l26 : K.lookup f26 = some ⟨oc26, od26, .func (PySem.W.fnOf "next_step" "next_step" (defArgs s_next_step) (defBody s_next_step) (defScope s_next_step) .none kV26 dc26 pm26 an26 cd26 ct26), sl26⟩) (c26 : PySem.W.codeIn K cd26 "next_step" = true) (k26 : PySem.W.keepIn K (.ref f26) = true)
    (a27 : PySem.W.nsIn K mainGlobals "path" = some (some (.ref f27))) (l27 : K.lookup f27 = some ⟨oc27, od27, .func (PySem.W.fnOf "path" "path" (defArgs s_path) (defBody s_path) (defScope s_path) .none kV27 dc27 pm27 an27 cd27 ct27), sl27⟩) (c27 : PySem.W.codeIn K cd27 "path" = true) (k27 : PySem.W.keepIn K (.ref f27) = true)
    (a28 : PySem.W.nsIn K mainGlobals "is_same" = some (some (.ref f28))) (l28 : K.lookup f28 = some ⟨oc28, od28, .func (PySem.W.fnOf "is_same" "is_same" (defArgs s_is_same) (defBody s_is_same) (defScope s_is_same) .none kV28 dc28 pm28 an28 cd28 ct28), sl28⟩) (c28 : PySem.W.codeIn K cd28 "is_same" = true) (k28 : PySem.W.keepIn K (.ref f28) = true)
    (a29 : PySem.W.nsIn K mainGlobals "judge_unit" = some (some (.ref f29))) (l29 : K.lookup f29 = some ⟨oc29, od29, .func (PySem.W.fnOf "judge_unit" "judge_unit" (defArgs s_judge_unit) (defBody s_judge_unit) (defScope s_judge_unit) .none kV29 dc29 pm29 an29 cd29 ct29), sl29⟩) (c29 : PySem.W.codeIn K cd29 "judge_unit" = true) (k29 : PySem.W.keepIn K (.ref f29) = true)
    (a30 : PySem.W.nsIn K mainGlobals "explain_unit" = some (some (.ref f30))) (l30 : K.lookup f30 = some ⟨oc30, od30, .func (PySem.W.fnOf "explain_unit" "explain_unit" (defArgs s_explain_unit) (defBody s_explain_unit) (defScope s_explain_unit) .none kV30 dc30 pm30 an30 cd30 ct30), sl30⟩) (c30 : PySem.W.codeIn K cd30 "explain_unit" = true) (k30 : PySem.W.keepIn K (.ref f30) = true)
    (a31 : PySem.W.nsIn K mainGlobals "check_new_name" = some (some (.ref f31))) (l31 : K.lookup f31 = some ⟨oc31, od31, .func (PySem.W.fnOf "check_new_name" "check_new_name" (defArgs s_check_new_name) (defBody s_check_new_name) (defScope s_check_new_name) .none kV31 dc31 pm31 an31 cd31 ct31), sl31⟩) (c31 : PySem.W.codeIn K cd31 "check_new_name" = true) (k31 : PySem.W.keepIn K (.ref f31) = true)
    (a32 : PySem.W.nsIn K mainGlobals "check_placed" = some (some (.ref f32))) (l32 : K.lookup f32 = some ⟨oc32, od32, .func (PySem.W.fnOf "check_placed" "check_placed" (defArgs s_check_placed) (defBody s_check_placed) (defScope s_check_placed) .none kV32 dc32 pm32 an32 cd32 ct32), sl32⟩) (c32 : PySem.W.codeIn K cd32 "check_placed" = true) (k32 : PySem.W.keepIn K (.ref f32) = true)
    (a33 : PySem.W.nsIn K mainGlobals "direct_losses" = some (some (.ref f33))) (l33 : K.lookup f33 = some ⟨oc33, od33, .func (PySem.W.fnOf "direct_losses" "direct_losses" (defArgs s_direct_losses) (defBody s_direct_losses) (defScope s_direct_losses) .none kV33 dc33 pm33 an33 cd33 ct33), sl33⟩) (c33 : PySem.W.codeIn K cd33 "direct_losses" = true) (k33 : PySem.W.keepIn K (.ref f33) = true)
    (a34 : PySem.W.findIn K (.ref C_Market) "__init__" = some (some (.ref f34))) (i34 : PySem.W.isFn K (.ref f34) = true) (l34 : K.lookup f34 = some ⟨oc34, od34, .func (PySem.W.fnOf "__init__" "Market.__init__" (defArgs s_Market___init) (defBody s_Market___init) (defScope s_Market___init) .none kV34 dc34 pm34 an34 cd34 ct34), sl34⟩) (c34 : PySem.W.codeIn K cd34 "Market.__init__" = true) (k34 : PySem.W.keepIn K (.ref f34) = true)
    (a35 : PySem.W.findIn K (.ref C_Market) "add_insurer" = some (some (.ref f35))) (i35 : PySem.W.isFn K (.ref f35) = true) (l35 : K.lookup f35 = some ⟨oc35, od35, .func (PySem.W.fnOf "add_insurer" "Market.add_insurer" (defArgs s_Market_add_insurer) (defBody s_Market_add_insurer) (defScope s_Market_add_insurer) .none kV35 dc35 pm35 an35 cd35 ct35), sl35⟩) (c35 : PySem.W.codeIn K cd35 "Market.add_insurer" = true) (k35 : PySem.W.keepIn K (.ref f35) = true)
    (a36 : PySem.W.findIn K (.ref C_Market) "add_event" = some (some (.ref f36))) (i36 : PySem.W.isFn K (.ref f36) = true) (l36 : K.lookup f36 = some ⟨oc36, od36, .func (PySem.W.fnOf "add_event" "Market.add_event" (defArgs s_Market_add_event) (defBody s_Market_add_event) (defScope s_Market_add_event) .none kV36 dc36 pm36 an36 cd36 ct36), sl36⟩) (c36 : PySem.W.codeIn K cd36 "Market.add_event" = true) (k36 : PySem.W.keepIn K (.ref f36) = true)
    (a37 : PySem.W.findIn K (.ref C_Market) "add_treaty" = some (some (.ref f37))) (i37 : PySem.W.isFn K (.ref f37) = true) (l37 : K.lookup f37 = some ⟨oc37, od37, .func (PySem.W.fnOf "add_treaty" "Market.add_treaty" (defArgs s_Market_add_treaty) (defBody s_Market_add_treaty) (defScope s_Market_add_treaty) .none kV37 dc37 pm37 an37 cd37 ct37), sl37⟩) (c37 : PySem.W.codeIn K cd37 "Market.add_treaty" = true) (k37 : PySem.W.keepIn K (.ref f37) = true)
    (a38 : PySem.W.findIn K (.ref C_Market) "set_loss" = some (some (.ref f38))) (i38 : PySem.W.isFn K (.ref f38) = true) (l38 : K.lookup f38 = some ⟨oc38, od38, .func (PySem.W.fnOf "set_loss" "Market.set_loss" (defArgs s_Market_set_loss) (defBody s_Market_set_loss) (defScope s_Market_set_loss) .none kV38 dc38 pm38 an38 cd38 ct38), sl38⟩) (c38 : PySem.W.codeIn K cd38 "Market.set_loss" = true) (k38 : PySem.W.keepIn K (.ref f38) = true)
    (a39 : PySem.W.findIn K (.ref C_Market) "direct" = some (some (.ref f39))) (i39 : PySem.W.isFn K (.ref f39) = true) (l39 : K.lookup f39 = some ⟨oc39, od39, .func (PySem.W.fnOf "direct" "Market.direct" (defArgs s_Market_direct) (defBody s_Market_direct) (defScope s_Market_direct) .none kV39 dc39 pm39 an39 cd39 ct39), sl39⟩) (c39 : PySem.W.codeIn K cd39 "Market.direct" = true) (k39 : PySem.W.keepIn K (.ref f39) = true)
    (a40 : PySem.W.findIn K (.ref C_Market) "copy" = some (some (.ref f40))) (i40 : PySem.W.isFn K (.ref f40) = true) (l40 : K.lookup f40 = some ⟨oc40, od40, .func (PySem.W.fnOf "copy" "Market.copy" (defArgs s_Market_copy) (defBody s_Market_copy) (defScope s_Market_copy) .none kV40 dc40 pm40 an40 cd40 ct40), sl40⟩) (c40 : PySem.W.codeIn K cd40 "Market.copy" = true) (k40 : PySem.W.keepIn K (.ref f40) = true)
    (a41 : PySem.W.findIn K (.ref C_Market) "_check_ends" = some (some (.ref f41))) (i41 : PySem.W.isFn K (.ref f41) = true) (l41 : K.lookup f41 = some ⟨oc41, od41, .func (PySem.W.fnOf "_check_ends" "Market._check_ends" (defArgs s_Market__check_ends) (defBody s_Market__check_ends) (defScope s_Market__check_ends) .none kV41 dc41 pm41 an41 cd41 ct41), sl41⟩) (c41 : PySem.W.codeIn K cd41 "Market._check_ends" = true) (k41 : PySem.W.keepIn K (.ref f41) = true)
    (a42 : PySem.W.nsIn K mainGlobals "_law_cell" = some (some (.ref f42))) (l42 : K.lookup f42 = some ⟨oc42, od42, .func (PySem.W.fnOf "_law_cell" "_law_cell" (defArgs s_law_cell) (defBody s_law_cell) (defScope s_law_cell) .none kV42 dc42 pm42 an42 cd42 ct42), sl42⟩) (c42 : PySem.W.codeIn K cd42 "_law_cell" = true) (k42 : PySem.W.keepIn K (.ref f42) = true)
    (a43 : PySem.W.nsIn K mainGlobals "_law_draws" = some (some (.ref f43))) (l43 : K.lookup f43 = some ⟨oc43, od43, .func (PySem.W.fnOf "_law_draws" "_law_draws" (defArgs s_law_draws) (defBody s_law_draws) (defScope s_law_draws) .none kV43 dc43 pm43 an43 cd43 ct43), sl43⟩) (c43 : PySem.W.codeIn K cd43 "_law_draws" = true) (k43 : PySem.W.keepIn K (.ref f43) = true)
    (a44 : PySem.W.nsIn K mainGlobals "_law_cover" = some (some (.ref f44))) (l44 : K.lookup f44 = some ⟨oc44, od44, .func (PySem.W.fnOf "_law_cover" "_law_cover" (defArgs s_law_cover) (defBody s_law_cover) (defScope s_law_cover) .none kV44 dc44 pm44 an44 cd44 ct44), sl44⟩) (c44 : PySem.W.codeIn K cd44 "_law_cover" = true) (k44 : PySem.W.keepIn K (.ref f44) = true)
    (a45 : PySem.W.nsIn K mainGlobals "_law_panel" = some (some (.ref f45))) (l45 : K.lookup f45 = some ⟨oc45, od45, .func (PySem.W.fnOf "_law_panel" "_law_panel" (defArgs s_law_panel) (defBody s_law_panel) (defScope s_law_panel) .none kV45 dc45 pm45 an45 cd45 ct45), sl45⟩) (c45 : PySem.W.codeIn K cd45 "_law_panel" = true) (k45 : PySem.W.keepIn K (.ref f45) = true)
    (a46 : PySem.W.nsIn K mainGlobals "_law_filled" = some (some (.ref f46))) (l46 : K.lookup f46 = some ⟨oc46, od46, .func (PySem.W.fnOf "_law_filled" "_law_filled" (defArgs s_law_filled) (defBody s_law_filled) (defScope s_law_filled) .none kV46 dc46 pm46 an46 cd46 ct46), sl46⟩) (c46 : PySem.W.codeIn K cd46 "_law_filled" = true) (k46 : PySem.W.keepIn K (.ref f46) = true)
    (a47 : PySem.W.nsIn K mainGlobals "_law_loss" = some (some (.ref f47))) (l47 : K.lookup f47 = some ⟨oc47, od47, .func (PySem.W.fnOf "_law_loss" "_law_loss" (defArgs s_law_loss) (defBody s_law_loss) (defScope s_law_loss) .none kV47 dc47 pm47 an47 cd47 ct47), sl47⟩) (c47 : PySem.W.codeIn K cd47 "_law_loss" = true) (k47 : PySem.W.keepIn K (.ref f47) = true)
    (a48 : PySem.W.nsIn K mainGlobals "_law_market" = some (some (.ref f48))) (l48 : K.lookup f48 = some ⟨oc48, od48, .func (PySem.W.fnOf "_law_market" "_law_market" (defArgs s_law_market) (defBody s_law_market) (defScope s_law_market) .none kV48 dc48 pm48 an48 cd48 ct48), sl48⟩) (c48 : PySem.W.codeIn K cd48 "_law_market" = true) (k48 : PySem.W.keepIn K (.ref f48) = true)
    (a49 : PySem.W.nsIn K mainGlobals "_law_allocate" = some (some (.ref f49))) (l49 : K.lookup f49 = some ⟨oc49, od49, .func (PySem.W.fnOf "_law_allocate" "_law_allocate" (defArgs s_law_allocate) (defBody s_law_allocate) (defScope s_law_allocate) .none kV49 dc49 pm49 an49 cd49 ct49), sl49⟩) (c49 : PySem.W.codeIn K cd49 "_law_allocate" = true) (k49 : PySem.W.keepIn K (.ref f49) = true)
    (a50 : PySem.W.nsIn K mainGlobals "_law_pays" = some (some (.ref f50))) (l50 : K.lookup f50 = some ⟨oc50, od50, .func (PySem.W.fnOf "_law_pays" "_law_pays" (defArgs s_law_pays) (defBody s_law_pays) (defScope s_law_pays) .none kV50 dc50 pm50 an50 cd50 ct50), sl50⟩) (c50 : PySem.W.codeIn K cd50 "_law_pays" = true) (k50 : PySem.W.keepIn K (.ref f50) = true)
    (a51 : PySem.W.nsIn K mainGlobals "_law_next" = some (some (.ref f51))) (l51 : K.lookup f51 = some ⟨oc51, od51, .func (PySem.W.fnOf "_law_next" "_law_next" (defArgs s_law_next) (defBody s_law_next) (defScope s_law_next) .none kV51 dc51 pm51 an51 cd51 ct51), sl51⟩) (c51 : PySem.W.codeIn K cd51 "_law_next" = true) (k51 : PySem.W.keepIn K (.ref f51) = true)
    (a52 : PySem.W.nsIn K mainGlobals "_law_rounds" = some (some (.ref f52))) (l52 : K.lookup f52 = some ⟨oc52, od52, .func (PySem.W.fnOf "_law_rounds" "_law_rounds" (defArgs s_law_rounds) (defBody s_law_rounds) (defScope s_law_rounds) .none kV52 dc52 pm52 an52 cd52 ct52), sl52⟩) (c52 : PySem.W.codeIn K cd52 "_law_rounds" = true) (k52 : PySem.W.keepIn K (.ref f52) = true)
    (a53 : PySem.W.nsIn K mainGlobals "_law_turned" = some (some (.ref f53))) (l53 : K.lookup f53 = some ⟨oc53, od53, .func (PySem.W.fnOf "_law_turned" "_law_turned" (defArgs s_law_turned) (defBody s_law_turned) (defScope s_law_turned) .none kV53 dc53 pm53 an53 cd53 ct53), sl53⟩) (c53 : PySem.W.codeIn K cd53 "_law_turned" = true) (k53 : PySem.W.keepIn K (.ref f53) = true)
    (a54 : PySem.W.nsIn K mainGlobals "_law_way" = some (some (.ref f54))) (l54 : K.lookup f54 = some ⟨oc54, od54, .func (PySem.W.fnOf "_law_way" "_law_way" (defArgs s_law_way) (defBody s_law_way) (defScope s_law_way) .none kV54 dc54 pm54 an54 cd54 ct54), sl54⟩) (c54 : PySem.W.codeIn K cd54 "_law_way" = true) (k54 : PySem.W.keepIn K (.ref f54) = true)
    (a55 : PySem.W.nsIn K mainGlobals "_law_explained" = some (some (.ref f55))) (l55 : K.lookup f55 = some ⟨oc55, od55, .func (PySem.W.fnOf "_law_explained" "_law_explained" (defArgs s_law_explained) (defBody s_law_explained) (defScope s_law_explained) .none kV55 dc55 pm55 an55 cd55 ct55), sl55⟩) (c55 : PySem.W.codeIn K cd55 "_law_explained" = true) (k55 : PySem.W.keepIn K (.ref f55) = true)
    (a56 : PySem.W.nsIn K mainGlobals "_law_example" = some (some (.ref f56))) (l56 : K.lookup f56 = some ⟨oc56, od56, .func (PySem.W.fnOf "_law_example" "_law_example" (defArgs s_law_example) (defBody s_law_example) (defScope s_law_example) .none kV56 dc56 pm56 an56 cd56 ct56), sl56⟩) (c56 : PySem.W.codeIn K cd56 "_law_example" = true) (k56 : PySem.W.keepIn K (.ref f56) = true)
    (a57 : PySem.W.nsIn K mainGlobals "_law_fixed" = some (some (.ref f57))) (l57 : K.lookup f57 = some ⟨oc57, od57, .func (PySem.W.fnOf "_law_fixed" "_law_fixed" (defArgs s_law_fixed) (defBody s_law_fixed) (defScope s_law_fixed) .none kV57 dc57 pm57 an57 cd57 ct57), sl57⟩) (c57 : PySem.W.codeIn K cd57 "_law_fixed" = true) (k57 : PySem.W.keepIn K (.ref f57) = true)
    (a58 : PySem.W.nsIn K mainGlobals "_law_has_no_end" = some (some (.ref f58))) (l58 : K.lookup f58 = some ⟨oc58, od58, .func (PySem.W.fnOf "_law_has_no_end" "_law_has_no_end" (defArgs s_law_has_no_end) (defBody s_law_has_no_end) (defScope s_law_has_no_end) .none kV58 dc58 pm58 an58 cd58 ct58), sl58⟩) (c58 : PySem.W.codeIn K cd58 "_law_has_no_end" = true) (k58 : PySem.W.keepIn K (.ref f58) = true)
    (a59 : PySem.W.nsIn K mainGlobals "law" = some (some (.ref f59))) (l59 : K.lookup f59 = some ⟨oc59, od59, .func (PySem.W.fnOf "law" "law" (defArgs s_law) (defBody s_law) (defScope s_law) .none kV59 dc59 pm59 an59 cd59 ct59), sl59⟩) (c59 : PySem.W.codeIn K cd59 "law" = true) (k59 : PySem.W.keepIn K (.ref f59) = true)
    (z_isinstance : PySem.W.nsIn K mainGlobals "isinstance" = some none) (z_bool : PySem.W.nsIn K mainGlobals "bool" = some none) (z_int : PySem.W.nsIn K mainGlobals "int" = some none) (z_str : PySem.W.nsIn K mainGlobals "str" = some none) (z_len : PySem.W.nsIn K mainGlobals "len" = some none) (z_all : PySem.W.nsIn K mainGlobals "all" = some none) (z_tuple : PySem.W.nsIn K mainGlobals "tuple" = some none) (z_sum : PySem.W.nsIn K mainGlobals "sum" = some none) (z_divmod : PySem.W.nsIn K mainGlobals "divmod" = some none) (z_min : PySem.W.nsIn K mainGlobals "min" = some none) (z_max : PySem.W.nsIn K mainGlobals "max" = some none) (z_enumerate : PySem.W.nsIn K mainGlobals "enumerate" = some none) (z_zip : PySem.W.nsIn K mainGlobals "zip" = some none) (z_range : PySem.W.nsIn K mainGlobals "range" = some none) (z_any : PySem.W.nsIn K mainGlobals "any" = some none) (z_set : PySem.W.nsIn K mainGlobals "set" = some none) (z_list : PySem.W.nsIn K mainGlobals "list" = some none) (z_dict : PySem.W.nsIn K mainGlobals "dict" = some none) {t_MOST_LETTERS : Tok} (z_MOST_LETTERS : PySem.W.nsIn K mainGlobals "MOST_LETTERS" = some (some (.int 12 t_MOST_LETTERS))) {t_LETTERS : Tok} (z_LETTERS : PySem.W.nsIn K mainGlobals "LETTERS" = some (some (.str "abcdefghijklmnopqrstuvwxyz" t_LETTERS))) {t_MOST_SHARES : Tok} (z_MOST_SHARES : PySem.W.nsIn K mainGlobals "MOST_SHARES" = some (some (.int 100 t_MOST_SHARES))) {t_MOST_ENTRIES : Tok} (z_MOST_ENTRIES : PySem.W.nsIn K mainGlobals "MOST_ENTRIES" = some (some (.int 6 t_MOST_ENTRIES))) {t_WHOLE : Tok} (z_WHOLE : PySem.W.nsIn K mainGlobals "WHOLE" = some (some (.int 1000 t_WHOLE))) {t_MOST_RETENTION : Tok} (z_MOST_RETENTION : PySem.W.nsIn K mainGlobals "MOST_RETENTION" = some (some (.int 100000 t_MOST_RETENTION))) {t_MOST_LIMIT : Tok} (z_MOST_LIMIT : PySem.W.nsIn K mainGlobals "MOST_LIMIT" = some (some (.int 100000 t_MOST_LIMIT))) {t_LAST_ROUND : Tok} (z_LAST_ROUND : PySem.W.nsIn K mainGlobals "LAST_ROUND" = some (some (.int 200 t_LAST_ROUND))) {t_MOST_GROSS : Tok} (z_MOST_GROSS : PySem.W.nsIn K mainGlobals "MOST_GROSS" = some (some (.int 1000000000 t_MOST_GROSS))) {t_MOST_DIRECT : Tok} (z_MOST_DIRECT : PySem.W.nsIn K mainGlobals "MOST_DIRECT" = some (some (.int 100000 t_MOST_DIRECT)))
    (xg_SpiralError : PySem.W.nsIn K mainGlobals "SpiralError" = some (some (.ref C_SpiralError))) (xx_SpiralError : PySem.W.excIn K C_SpiralError [.type "ValueError", .type "Exception", .type "BaseException", .type "object"] "ValueError.__new__" = true) (xk_SpiralError : PySem.W.keepIn K (.ref C_SpiralError) = true) (xb_SpiralError : PySem.W.subIn K (.ref C_SpiralError) (.type "BaseException") = some true) (xt_SpiralError : PySem.W.typeIn K (.ref C_SpiralError) = some (.type "type")) (xd_SpiralError : PySem.W.hasDictIn K C_SpiralError = true) (xs_SpiralError : PySem.W.subIn K (.ref C_SpiralError) (.ref C_SpiralError) = some true)
    (xg_BadName : PySem.W.nsIn K mainGlobals "BadName" = some (some (.ref C_BadName))) (xx_BadName : PySem.W.excIn K C_BadName [.type "ValueError", .type "Exception", .type "BaseException", .type "object"] "ValueError.__new__" = true) (xk_BadName : PySem.W.keepIn K (.ref C_BadName) = true) (xb_BadName : PySem.W.subIn K (.ref C_BadName) (.type "BaseException") = some true) (xt_BadName : PySem.W.typeIn K (.ref C_BadName) = some (.type "type")) (xd_BadName : PySem.W.hasDictIn K C_BadName = true) (xs_BadName : PySem.W.subIn K (.ref C_BadName) (.ref C_BadName) = some true)
    (xg_BadCover : PySem.W.nsIn K mainGlobals "BadCover" = some (some (.ref C_BadCover))) (xx_BadCover : PySem.W.excIn K C_BadCover [.type "ValueError", .type "Exception", .type "BaseException", .type "object"] "ValueError.__new__" = true) (xk_BadCover : PySem.W.keepIn K (.ref C_BadCover) = true) (xb_BadCover : PySem.W.subIn K (.ref C_BadCover) (.type "BaseException") = some true) (xt_BadCover : PySem.W.typeIn K (.ref C_BadCover) = some (.type "type")) (xd_BadCover : PySem.W.hasDictIn K C_BadCover = true) (xs_BadCover : PySem.W.subIn K (.ref C_BadCover) (.ref C_BadCover) = some true)
    (xg_BadPanel : PySem.W.nsIn K mainGlobals "BadPanel" = some (some (.ref C_BadPanel))) (xx_BadPanel : PySem.W.excIn K C_BadPanel [.type "ValueError", .type "Exception", .type "BaseException", .type "object"] "ValueError.__new__" = true) (xk_BadPanel : PySem.W.keepIn K (.ref C_BadPanel) = true) (xb_BadPanel : PySem.W.subIn K (.ref C_BadPanel) (.type "BaseException") = some true) (xt_BadPanel : PySem.W.typeIn K (.ref C_BadPanel) = some (.type "type")) (xd_BadPanel : PySem.W.hasDictIn K C_BadPanel = true) (xs_BadPanel : PySem.W.subIn K (.ref C_BadPanel) (.ref C_BadPanel) = some true)
    (xg_BadAmount : PySem.W.nsIn K mainGlobals "BadAmount" = some (some (.ref C_BadAmount))) (xx_BadAmount : PySem.W.excIn K C_BadAmount [.type "ValueError", .type "Exception", .type "BaseException", .type "object"] "ValueError.__new__" = true) (xk_BadAmount : PySem.W.keepIn K (.ref C_BadAmount) = true) (xb_BadAmount : PySem.W.subIn K (.ref C_BadAmount) (.type "BaseException") = some true) (xt_BadAmount : PySem.W.typeIn K (.ref C_BadAmount) = some (.type "type")) (xd_BadAmount : PySem.W.hasDictIn K C_BadAmount = true) (xs_BadAmount : PySem.W.subIn K (.ref C_BadAmount) (.ref C_BadAmount) = some true)
    (xg_Twice : PySem.W.nsIn K mainGlobals "Twice" = some (some (.ref C_Twice))) (xx_Twice : PySem.W.excIn K C_Twice [.type "ValueError", .type "Exception", .type "BaseException", .type "object"] "ValueError.__new__" = true) (xk_Twice : PySem.W.keepIn K (.ref C_Twice) = true) (xb_Twice : PySem.W.subIn K (.ref C_Twice) (.type "BaseException") = some true) (xt_Twice : PySem.W.typeIn K (.ref C_Twice) = some (.type "type")) (xd_Twice : PySem.W.hasDictIn K C_Twice = true) (xs_Twice : PySem.W.subIn K (.ref C_Twice) (.ref C_Twice) = some true)
    (xg_OwnPanel : PySem.W.nsIn K mainGlobals "OwnPanel" = some (some (.ref C_OwnPanel))) (xx_OwnPanel : PySem.W.excIn K C_OwnPanel [.type "ValueError", .type "Exception", .type "BaseException", .type "object"] "ValueError.__new__" = true) (xk_OwnPanel : PySem.W.keepIn K (.ref C_OwnPanel) = true) (xb_OwnPanel : PySem.W.subIn K (.ref C_OwnPanel) (.type "BaseException") = some true) (xt_OwnPanel : PySem.W.typeIn K (.ref C_OwnPanel) = some (.type "type")) (xd_OwnPanel : PySem.W.hasDictIn K C_OwnPanel = true) (xs_OwnPanel : PySem.W.subIn K (.ref C_OwnPanel) (.ref C_OwnPanel) = some true)
    (xg_TooMany : PySem.W.nsIn K mainGlobals "TooMany" = some (some (.ref C_TooMany))) (xx_TooMany : PySem.W.excIn K C_TooMany [.type "ValueError", .type "Exception", .type "BaseException", .type "object"] "ValueError.__new__" = true) (xk_TooMany : PySem.W.keepIn K (.ref C_TooMany) = true) (xb_TooMany : PySem.W.subIn K (.ref C_TooMany) (.type "BaseException") = some true) (xt_TooMany : PySem.W.typeIn K (.ref C_TooMany) = some (.type "type")) (xd_TooMany : PySem.W.hasDictIn K C_TooMany = true) (xs_TooMany : PySem.W.subIn K (.ref C_TooMany) (.ref C_TooMany) = some true)
    (xg_NoEnd : PySem.W.nsIn K mainGlobals "NoEnd" = some (some (.ref C_NoEnd))) (xx_NoEnd : PySem.W.excIn K C_NoEnd [.type "ValueError", .type "Exception", .type "BaseException", .type "object"] "ValueError.__new__" = true) (xk_NoEnd : PySem.W.keepIn K (.ref C_NoEnd) = true) (xb_NoEnd : PySem.W.subIn K (.ref C_NoEnd) (.type "BaseException") = some true) (xt_NoEnd : PySem.W.typeIn K (.ref C_NoEnd) = some (.type "type")) (xd_NoEnd : PySem.W.hasDictIn K C_NoEnd = true) (xs_NoEnd : PySem.W.subIn K (.ref C_NoEnd) (.ref C_NoEnd) = some true)
    (yg_NoEnd : PySem.W.findIn K (.ref C_NoEnd) "__getattribute__" = some (some (.builtin "BaseException.__getattribute__"))) (yk_NoEnd : PySem.W.findIn K (.ref C_NoEnd) "__getattr__" = some none) (ya_NoEnd : PySem.W.findIn K (.ref C_NoEnd) "__class__" = some (some (.builtin "object.__class__"))) (yn_NoEnd : PySem.W.specialIn K (.builtin "object.__class__") "__get__" = some (some (.builtin "getset_descriptor.__get__"))) (yt_NoEnd : PySem.W.takesIn K (.builtin "object.__class__") = some true) (ym_NoEnd : PySem.W.mroIn K C_NoEnd (.type "object") = some true)
    {nm_NameTaken q_NameTaken : Str} {N_NameTaken : Addr} {bs_NameTaken bm_NameTaken : List Value} {sn_NameTaken : List Str} {sub_NameTaken : List Value} {ab_NameTaken : Bool} {col_NameTaken : Option Bool} {dd_NameTaken : Option Addr} {m0_NameTaken m1_NameTaken m2_NameTaken m3_NameTaken m5_NameTaken : Option Value}
    (og_NameTaken : PySem.W.nsIn K mainGlobals "NameTaken" = some (some (.ref C_NameTaken))) (ol_NameTaken : K.lookup C_NameTaken = some (excClassObj nm_NameTaken q_NameTaken C_NameTaken N_NameTaken bs_NameTaken bm_NameTaken true sn_NameTaken sub_NameTaken ab_NameTaken col_NameTaken dd_NameTaken m0_NameTaken m1_NameTaken m2_NameTaken m3_NameTaken m5_NameTaken "ValueError.__new__")) (or_NameTaken : PySem.HandSPX.refsVE bm_NameTaken = true) (os_NameTaken : PySem.W.findIn K (.ref C_NameTaken) "__setattr__" = some (some (.builtin "object.__setattr__"))) (on_NameTaken : PySem.W.findIn K (.ref C_NameTaken) "name" = some none) (ok_NameTaken : PySem.W.keepIn K (.ref C_NameTaken) = true) (ob_NameTaken : PySem.W.subIn K (.ref C_NameTaken) (.type "BaseException") = some true) (ot_NameTaken : PySem.W.typeIn K (.ref C_NameTaken) = some (.type "type")) (od_NameTaken : PySem.W.hasDictIn K C_NameTaken = true) (oi_NameTaken : PySem.W.subIn K (.ref C_NameTaken) (.ref C_NameTaken) = some true)
    {nm_NoSuchName q_NoSuchName : Str} {N_NoSuchName : Addr} {bs_NoSuchName bm_NoSuchName : List Value} {sn_NoSuchName : List Str} {sub_NoSuchName : List Value} {ab_NoSuchName : Bool} {col_NoSuchName : Option Bool} {dd_NoSuchName : Option Addr} {m0_NoSuchName m1_NoSuchName m2_NoSuchName m3_NoSuchName m5_NoSuchName : Option Value}
    (og_NoSuchName : PySem.W.nsIn K mainGlobals "NoSuchName" = some (some (.ref C_NoSuchName))) (ol_NoSuchName : K.lookup C_NoSuchName = some (excClassObj nm_NoSuchName q_NoSuchName C_NoSuchName N_NoSuchName bs_NoSuchName bm_NoSuchName true sn_NoSuchName sub_NoSuchName ab_NoSuchName col_NoSuchName dd_NoSuchName m0_NoSuchName m1_NoSuchName m2_NoSuchName m3_NoSuchName m5_NoSuchName "ValueError.__new__")) (or_NoSuchName : PySem.HandSPX.refsVE bm_NoSuchName = true) (os_NoSuchName : PySem.W.findIn K (.ref C_NoSuchName) "__setattr__" = some (some (.builtin "object.__setattr__"))) (on_NoSuchName : PySem.W.findIn K (.ref C_NoSuchName) "name" = some none) (ok_NoSuchName : PySem.W.keepIn K (.ref C_NoSuchName) = true) (ob_NoSuchName : PySem.W.subIn K (.ref C_NoSuchName) (.type "BaseException") = some true) (ot_NoSuchName : PySem.W.typeIn K (.ref C_NoSuchName) = some (.type "type")) (od_NoSuchName : PySem.W.hasDictIn K C_NoSuchName = true) (oi_NoSuchName : PySem.W.subIn K (.ref C_NoSuchName) (.ref C_NoSuchName) = some true)
    (cg_Market : PySem.W.nsIn K mainGlobals "Market" = some (some (.ref C_Market))) (cp_Market : PySem.W.plainGet K C_Market Str.empty = true) (ch_Market : PySem.W.hasDictIn K C_Market = true) (co_Market : PySem.W.plainOver K C_Market = true) (cs_Market : PySem.W.findIn K (.ref C_Market) "__setattr__" = some (some (.builtin "object.__setattr__"))) (cm_Market : PySem.W.makesIn K C_Market = true) (ck_Market : PySem.W.keepIn K (.ref C_Market) = true)
    (cn_Market_insurers : PySem.W.findIn K (.ref C_Market) "insurers" = some none)    (cn_Market_events : PySem.W.findIn K (.ref C_Market) "events" = some none)    (cn_Market_treaties : PySem.W.findIn K (.ref C_Market) "treaties" = some none)    (cn_Market_losses : PySem.W.findIn K (.ref C_Market) "losses" = some none)    {ct_Market_MOST_INSURERS : Tok} (cc_Market_MOST_INSURERS : PySem.W.findIn K (.ref C_Market) "MOST_INSURERS" = some (some (.int 6 ct_Market_MOST_INSURERS))) (cd_Market_MOST_INSURERS : PySem.W.specialIn K (.int 6 ct_Market_MOST_INSURERS) "__get__" = some none)    {ct_Market_MOST_EVENTS : Tok} (cc_Market_MOST_EVENTS : PySem.W.findIn K (.ref C_Market) "MOST_EVENTS" = some (some (.int 3 ct_Market_MOST_EVENTS))) (cd_Market_MOST_EVENTS : PySem.W.specialIn K (.int 3 ct_Market_MOST_EVENTS) "__get__" = some none)    {ct_Market_MOST_TREATIES : Tok} (cc_Market_MOST_TREATIES : PySem.W.findIn K (.ref C_Market) "MOST_TREATIES" = some (some (.int 16 ct_Market_MOST_TREATIES))) (cd_Market_MOST_TREATIES : PySem.W.specialIn K (.int 16 ct_Market_MOST_TREATIES) "__get__" = some none)    (f_kitS : PySem.W.kitOne K (.ref C_NoEnd) (.ref C_SpiralError) = some true)
    :
    ∃ fd : FuncData, (∀ (s : Shared) (v : Value), BindsTo s fd ⟨[v], []⟩ [("script", v)]) ∧ ∀ base : Heap, K.In base → base.Ns mainGlobals mg → FnOk l.prog w K mg base CX0 13 fa fd ["script"] (sp_law K) := by
  have e := hfa.symm.trans (PySem.W.mg_of X G a59)
  cases e
  have T : Tx K mg C_SpiralError C_BadName C_BadCover C_BadPanel C_BadAmount C_NameTaken C_NoSuchName C_Twice C_OwnPanel C_TooMany C_NoEnd C_Market := ⟨PySem.W.mg_none_of X G z_isinstance, PySem.W.mg_none_of X G z_bool, PySem.W.mg_none_of X G z_int, PySem.W.mg_none_of X G z_str, PySem.W.mg_none_of X G z_len, PySem.W.mg_none_of X G z_all, PySem.W.mg_none_of X G z_tuple, PySem.W.mg_none_of X G z_sum, PySem.W.mg_none_of X G z_divmod, PySem.W.mg_none_of X G z_min, PySem.W.mg_none_of X G z_max, PySem.W.mg_none_of X G z_enumerate, PySem.W.mg_none_of X G z_zip, PySem.W.mg_none_of X G z_range, PySem.W.mg_none_of X G z_any, PySem.W.mg_none_of X G z_set, PySem.W.mg_none_of X G z_list, PySem.W.mg_none_of X G z_dict, ⟨_, PySem.W.mg_of X G z_MOST_LETTERS⟩, ⟨_, PySem.W.mg_of X G z_LETTERS⟩, ⟨_, PySem.W.mg_of X G z_MOST_SHARES⟩, ⟨_, PySem.W.mg_of X G z_MOST_ENTRIES⟩, ⟨_, PySem.W.mg_of X G z_WHOLE⟩, ⟨_, PySem.W.mg_of X G z_MOST_RETENTION⟩, ⟨_, PySem.W.mg_of X G z_MOST_LIMIT⟩, ⟨_, PySem.W.mg_of X G z_LAST_ROUND⟩, ⟨_, PySem.W.mg_of X G z_MOST_GROSS⟩, ⟨_, PySem.W.mg_of X G z_MOST_DIRECT⟩, ⟨PySem.W.mg_of X G og_NameTaken, ⟨⟨_, _, _, _, _, _, _, _, _, _, _, _, _, _, _, ol_NameTaken, or_NameTaken⟩, os_NameTaken, ob_NameTaken, ot_NameTaken, ok_NameTaken⟩, on_NameTaken, PySem.W.exm_ref ob_NameTaken od_NameTaken ot_NameTaken oi_NameTaken⟩, ⟨PySem.W.mg_of X G og_NoSuchName, ⟨⟨_, _, _, _, _, _, _, _, _, _, _, _, _, _, _, ol_NoSuchName, or_NoSuchName⟩, os_NoSuchName, ob_NoSuchName, ot_NoSuchName, ok_NoSuchName⟩, on_NoSuchName, PySem.W.exm_ref ob_NoSuchName od_NoSuchName ot_NoSuchName oi_NoSuchName⟩, ⟨cp_Market, ch_Market, co_Market, cs_Market⟩, PySem.W.mg_of X G cg_Market, cn_Market_insurers, cn_Market_events, cn_Market_treaties, cn_Market_losses, ⟨_, cc_Market_MOST_INSURERS, ⟨_, rfl⟩, cd_Market_MOST_INSURERS, by decide +kernel⟩, ⟨_, cc_Market_MOST_EVENTS, ⟨_, rfl⟩, cd_Market_MOST_EVENTS, by decide +kernel⟩, ⟨_, cc_Market_MOST_TREATIES, ⟨_, rfl⟩, cd_Market_MOST_TREATIES, by decide +kernel⟩, ⟨PySem.W.mg_of X G xg_SpiralError, xx_SpiralError, xk_SpiralError, xb_SpiralError, xt_SpiralError, PySem.W.exm_ref xb_SpiralError xd_SpiralError xt_SpiralError xs_SpiralError⟩, ⟨PySem.W.mg_of X G xg_BadName, xx_BadName, xk_BadName, xb_BadName, xt_BadName, PySem.W.exm_ref xb_BadName xd_BadName xt_BadName xs_BadName⟩, ⟨PySem.W.mg_of X G xg_BadCover, xx_BadCover, xk_BadCover, xb_BadCover, xt_BadCover, PySem.W.exm_ref xb_BadCover xd_BadCover xt_BadCover xs_BadCover⟩, ⟨PySem.W.mg_of X G xg_BadPanel, xx_BadPanel, xk_BadPanel, xb_BadPanel, xt_BadPanel, PySem.W.exm_ref xb_BadPanel xd_BadPanel xt_BadPanel xs_BadPanel⟩, ⟨PySem.W.mg_of X G xg_BadAmount, xx_BadAmount, xk_BadAmount, xb_BadAmount, xt_BadAmount, PySem.W.exm_ref xb_BadAmount xd_BadAmount xt_BadAmount xs_BadAmount⟩, ⟨PySem.W.mg_of X G xg_Twice, xx_Twice, xk_Twice, xb_Twice, xt_Twice, PySem.W.exm_ref xb_Twice xd_Twice xt_Twice xs_Twice⟩, ⟨PySem.W.mg_of X G xg_OwnPanel, xx_OwnPanel, xk_OwnPanel, xb_OwnPanel, xt_OwnPanel, PySem.W.exm_ref xb_OwnPanel xd_OwnPanel xt_OwnPanel xs_OwnPanel⟩, ⟨PySem.W.mg_of X G xg_TooMany, xx_TooMany, xk_TooMany, xb_TooMany, xt_TooMany, PySem.W.exm_ref xb_TooMany xd_TooMany xt_TooMany xs_TooMany⟩, ⟨PySem.W.mg_of X G xg_NoEnd, xx_NoEnd, xk_NoEnd, xb_NoEnd, xt_NoEnd, PySem.W.exm_ref xb_NoEnd xd_NoEnd xt_NoEnd xs_NoEnd⟩, ⟨yg_NoEnd, yk_NoEnd, xb_NoEnd, xd_NoEnd, ya_NoEnd, yn_NoEnd, yt_NoEnd, ym_NoEnd⟩, f_kitS⟩
  have F1 := fun_mk (st := s_NameTaken___init) l1 c1 k1
  have D_NameTaken___init : Ini K C_NameTaken "NameTaken.__init__" s_NameTaken___init ["self", "name"] f1 _ := ⟨F1, F1.binds (ps := ["self", "name"]) fun _ _ _ _ _ _ us hl => match us, hl with | [_, _], _ => rfl, a1, i1⟩
  have F2 := fun_mk (st := s_NoSuchName___init) l2 c2 k2
  have D_NoSuchName___init : Ini K C_NoSuchName "NoSuchName.__init__" s_NoSuchName___init ["self", "name"] f2 _ := ⟨F2, F2.binds (ps := ["self", "name"]) fun _ _ _ _ _ _ us hl => match us, hl with | [_, _], _ => rfl, a2, i2⟩
  have F3 := fun_mk (st := s_is_between) l3 c3 k3
  have D_is_between : Dfn K mg "is_between" s_is_between ["value", "low", "high"] f3 _ := ⟨F3, F3.binds (ps := ["value", "low", "high"]) fun _ _ _ _ _ _ us hl => match us, hl with | [_, _, _], _ => rfl, PySem.W.mg_of X G a3⟩
  have F4 := fun_mk (st := s_is_name) l4 c4 k4
  have D_is_name : Dfn K mg "is_name" s_is_name ["value"] f4 _ := ⟨F4, F4.binds (ps := ["value"]) fun _ _ _ _ _ _ us hl => match us, hl with | [_], _ => rfl, PySem.W.mg_of X G a4⟩
  have F5 := fun_mk (st := s_check_name) l5 c5 k5
  have D_check_name : Dfn K mg "check_name" s_check_name ["value"] f5 _ := ⟨F5, F5.binds (ps := ["value"]) fun _ _ _ _ _ _ us hl => match us, hl with | [_], _ => rfl, PySem.W.mg_of X G a5⟩
  have F6 := fun_mk (st := s_check_known) l6 c6 k6
  have D_check_known : Dfn K mg "check_known" s_check_known ["name", "names"] f6 _ := ⟨F6, F6.binds (ps := ["name", "names"]) fun _ _ _ _ _ _ us hl => match us, hl with | [_, _], _ => rfl, PySem.W.mg_of X G a6⟩
  have F7 := fun_mk (st := s_check_names) l7 c7 k7
  have D_check_names : Dfn K mg "check_names" s_check_names ["market", "event", "insurer"] f7 _ := ⟨F7, F7.binds (ps := ["market", "event", "insurer"]) fun _ _ _ _ _ _ us hl => match us, hl with | [_, _, _], _ => rfl, PySem.W.mg_of X G a7⟩
  have F8 := fun_mk (st := s_is_entry) l8 c8 k8
  have D_is_entry : Dfn K mg "is_entry" s_is_entry ["value"] f8 _ := ⟨F8, F8.binds (ps := ["value"]) fun _ _ _ _ _ _ us hl => match us, hl with | [_], _ => rfl, PySem.W.mg_of X G a8⟩
  have F9 := fun_mk (st := s_is_panel) l9 c9 k9
  have D_is_panel : Dfn K mg "is_panel" s_is_panel ["value"] f9 _ := ⟨F9, F9.binds (ps := ["value"]) fun _ _ _ _ _ _ us hl => match us, hl with | [_], _ => rfl, PySem.W.mg_of X G a9⟩
  have F10 := fun_mk (st := s_check_panel) l10 c10 k10
  have D_check_panel : Dfn K mg "check_panel" s_check_panel ["value"] f10 _ := ⟨F10, F10.binds (ps := ["value"]) fun _ _ _ _ _ _ us hl => match us, hl with | [_], _ => rfl, PySem.W.mg_of X G a10⟩
  have F11 := fun_mk (st := s_allocate) l11 c11 k11
  have D_allocate : Dfn K mg "allocate" s_allocate ["amount", "shares"] f11 _ := ⟨F11, F11.binds (ps := ["amount", "shares"]) fun _ _ _ _ _ _ us hl => match us, hl with | [_, _], _ => rfl, PySem.W.mg_of X G a11⟩
  have F12 := fun_mk (st := s_next_unit) l12 c12 k12
  have D_next_unit : Dfn K mg "next_unit" s_next_unit ["amount", "shares"] f12 _ := ⟨F12, F12.binds (ps := ["amount", "shares"]) fun _ _ _ _ _ _ us hl => match us, hl with | [_, _], _ => rfl, PySem.W.mg_of X G a12⟩
  have F13 := fun_mk (st := s_is_cover) l13 c13 k13
  have D_is_cover : Dfn K mg "is_cover" s_is_cover ["value"] f13 _ := ⟨F13, F13.binds (ps := ["value"]) fun _ _ _ _ _ _ us hl => match us, hl with | [_], _ => rfl, PySem.W.mg_of X G a13⟩
  have F14 := fun_mk (st := s_check_cover) l14 c14 k14
  have D_check_cover : Dfn K mg "check_cover" s_check_cover ["value"] f14 _ := ⟨F14, F14.binds (ps := ["value"]) fun _ _ _ _ _ _ us hl => match us, hl with | [_], _ => rfl, PySem.W.mg_of X G a14⟩
  have F15 := fun_mk (st := s_recovery) l15 c15 k15
  have D_recovery : Dfn K mg "recovery" s_recovery ["cover", "loss"] f15 _ := ⟨F15, F15.binds (ps := ["cover", "loss"]) fun _ _ _ _ _ _ us hl => match us, hl with | [_, _], _ => rfl, PySem.W.mg_of X G a15⟩
  have F16 := fun_mk (st := s_programme) l16 c16 k16
  have D_programme : Dfn K mg "programme" s_programme ["covers", "loss"] f16 _ := ⟨F16, F16.binds (ps := ["covers", "loss"]) fun _ _ _ _ _ _ us hl => match us, hl with | [_, _], _ => rfl, PySem.W.mg_of X G a16⟩
  have F17 := fun_mk (st := s_active_covers) l17 c17 k17
  have D_active_covers : Dfn K mg "active_covers" s_active_covers ["treaties", "cedent"] f17 _ := ⟨F17, F17.binds (ps := ["treaties", "cedent"]) fun _ _ _ _ _ _ us hl => match us, hl with | [_, _], _ => rfl, PySem.W.mg_of X G a17⟩
  have F18 := fun_mk (st := s_cede) l18 c18 k18
  have D_cede : Dfn K mg "cede" s_cede ["treaties", "cedent", "loss"] f18 _ := ⟨F18, F18.binds (ps := ["treaties", "cedent", "loss"]) fun _ _ _ _ _ _ us hl => match us, hl with | [_, _, _], _ => rfl, PySem.W.mg_of X G a18⟩
  have F19 := fun_mk (st := s_treaty_payments) l19 c19 k19
  have D_treaty_payments : Dfn K mg "treaty_payments" s_treaty_payments ["insurers", "treaties", "gross"] f19 _ := ⟨F19, F19.binds (ps := ["insurers", "treaties", "gross"]) fun _ _ _ _ _ _ us hl => match us, hl with | [_, _, _], _ => rfl, PySem.W.mg_of X G a19⟩
  have F20 := fun_mk (st := s_panel_parts) l20 c20 k20
  have D_panel_parts : Dfn K mg "panel_parts" s_panel_parts ["panel", "amount"] f20 _ := ⟨F20, F20.binds (ps := ["panel", "amount"]) fun _ _ _ _ _ _ us hl => match us, hl with | [_, _], _ => rfl, PySem.W.mg_of X G a20⟩
  have F21 := fun_mk (st := s_next_gross) l21 c21 k21
  have D_next_gross : Dfn K mg "next_gross" s_next_gross ["insurers", "treaties", "direct", "gross"] f21 _ := ⟨F21, F21.binds (ps := ["insurers", "treaties", "direct", "gross"]) fun _ _ _ _ _ _ us hl => match us, hl with | [_, _, _, _], _ => rfl, PySem.W.mg_of X G a21⟩
  have F22 := fun_mk (st := s_rounds_to_end) l22 c22 k22
  have D_rounds_to_end : Dfn K mg "rounds_to_end" s_rounds_to_end ["insurers", "treaties", "direct"] f22 _ := ⟨F22, F22.binds (ps := ["insurers", "treaties", "direct"]) fun _ _ _ _ _ _ us hl => match us, hl with | [_, _, _], _ => rfl, PySem.W.mg_of X G a22⟩
  have F23 := fun_mk (st := s_rounds) l23 c23 k23
  have D_rounds : Dfn K mg "rounds" s_rounds ["market", "event"] f23 _ := ⟨F23, F23.binds (ps := ["market", "event"]) fun _ _ _ _ _ _ us hl => match us, hl with | [_, _], _ => rfl, PySem.W.mg_of X G a23⟩
  have F24 := fun_mk (st := s_settled) l24 c24 k24
  have D_settled : Dfn K mg "settled" s_settled ["market", "event"] f24 _ := ⟨F24, F24.binds (ps := ["market", "event"]) fun _ _ _ _ _ _ us hl => match us, hl with | [_, _], _ => rfl, PySem.W.mg_of X G a24⟩
  have F25 := fun_mk (st := s_check_unit_ends) l25 c25 k25
  have D_check_unit_ends : Dfn K mg "check_unit_ends" s_check_unit_ends ["market", "event", "insurer"] f25 _ := ⟨F25, F25.binds (ps := ["market", "event", "insurer"]) fun _ _ _ _ _ _ us hl => match us, hl with | [_, _, _], _ => rfl, PySem.W.mg_of X G a25⟩
  have F26 := fun_mk (st := s_next_step) l26 c26 k26
  have D_next_step : Dfn K mg "next_step" s_next_step ["treaties", "insurer", "loss"] f26 _ := ⟨F26, F26.binds (ps := ["treaties", "insurer", "loss"]) fun _ _ _ _ _ _ us hl => match us, hl with | [_, _, _], _ => rfl, PySem.W.mg_of X G a26⟩
  have F27 := fun_mk (st := s_path) l27 c27 k27
  have D_path : Dfn K mg "path" s_path ["market", "event", "insurer"] f27 _ := ⟨F27, F27.binds (ps := ["market", "event", "insurer"]) fun _ _ _ _ _ _ us hl => match us, hl with | [_, _, _], _ => rfl, PySem.W.mg_of X G a27⟩
  have F28 := fun_mk (st := s_is_same) l28 c28 k28
  have D_is_same : Dfn K mg "is_same" s_is_same ["value", "wanted"] f28 _ := ⟨F28, F28.binds (ps := ["value", "wanted"]) fun _ _ _ _ _ _ us hl => match us, hl with | [_, _], _ => rfl, PySem.W.mg_of X G a28⟩
  have F29 := fun_mk (st := s_judge_unit) l29 c29 k29
  have D_judge_unit : Dfn K mg "judge_unit" s_judge_unit ["market", "event", "insurer", "paper"] f29 _ := ⟨F29, F29.binds (ps := ["market", "event", "insurer", "paper"]) fun _ _ _ _ _ _ us hl => match us, hl with | [_, _, _, _], _ => rfl, PySem.W.mg_of X G a29⟩
  have F30 := fun_mk (st := s_explain_unit) l30 c30 k30
  have D_explain_unit : Dfn K mg "explain_unit" s_explain_unit ["market", "event", "insurer"] f30 _ := ⟨F30, F30.binds (ps := ["market", "event", "insurer"]) fun _ _ _ _ _ _ us hl => match us, hl with | [_, _, _], _ => rfl, PySem.W.mg_of X G a30⟩
  have F31 := fun_mk (st := s_check_new_name) l31 c31 k31
  have D_check_new_name : Dfn K mg "check_new_name" s_check_new_name ["name", "names", "most"] f31 _ := ⟨F31, F31.binds (ps := ["name", "names", "most"]) fun _ _ _ _ _ _ us hl => match us, hl with | [_, _, _], _ => rfl, PySem.W.mg_of X G a31⟩
  have F32 := fun_mk (st := s_check_placed) l32 c32 k32
  have D_check_placed : Dfn K mg "check_placed" s_check_placed ["cedent", "panel", "insurers"] f32 _ := ⟨F32, F32.binds (ps := ["cedent", "panel", "insurers"]) fun _ _ _ _ _ _ us hl => match us, hl with | [_, _, _], _ => rfl, PySem.W.mg_of X G a32⟩
  have F33 := fun_mk (st := s_direct_losses) l33 c33 k33
  have D_direct_losses : Dfn K mg "direct_losses" s_direct_losses ["insurers", "losses", "event"] f33 _ := ⟨F33, F33.binds (ps := ["insurers", "losses", "event"]) fun _ _ _ _ _ _ us hl => match us, hl with | [_, _, _], _ => rfl, PySem.W.mg_of X G a33⟩
  have F34 := fun_mk (st := s_Market___init) l34 c34 k34
  have D_Market___init : Mki K C_Market "Market.__init__" s_Market___init ["self"] f34 _ := ⟨F34, F34.binds (ps := ["self"]) fun _ _ _ _ _ _ us hl => match us, hl with | [_], _ => rfl, ⟨cm_Market, a34, i34, ck_Market⟩⟩
  have F35 := fun_mk (st := s_Market_add_insurer) l35 c35 k35
  have D_Market_add_insurer : Mth K C_Market "add_insurer" "Market.add_insurer" s_Market_add_insurer ["self", "name"] f35 _ := ⟨F35, F35.binds (ps := ["self", "name"]) fun _ _ _ _ _ _ us hl => match us, hl with | [_, _], _ => rfl, ⟨a35, i35, k35⟩⟩
  have F36 := fun_mk (st := s_Market_add_event) l36 c36 k36
  have D_Market_add_event : Mth K C_Market "add_event" "Market.add_event" s_Market_add_event ["self", "name"] f36 _ := ⟨F36, F36.binds (ps := ["self", "name"]) fun _ _ _ _ _ _ us hl => match us, hl with | [_, _], _ => rfl, ⟨a36, i36, k36⟩⟩
  have F37 := fun_mk (st := s_Market_add_treaty) l37 c37 k37
  have D_Market_add_treaty : Mth K C_Market "add_treaty" "Market.add_treaty" s_Market_add_treaty ["self", "cedent", "cover", "panel"] f37 _ := ⟨F37, F37.binds (ps := ["self", "cedent", "cover", "panel"]) fun _ _ _ _ _ _ us hl => match us, hl with | [_, _, _, _], _ => rfl, ⟨a37, i37, k37⟩⟩
  have F38 := fun_mk (st := s_Market_set_loss) l38 c38 k38
  have D_Market_set_loss : Mth K C_Market "set_loss" "Market.set_loss" s_Market_set_loss ["self", "event", "insurer", "amount"] f38 _ := ⟨F38, F38.binds (ps := ["self", "event", "insurer", "amount"]) fun _ _ _ _ _ _ us hl => match us, hl with | [_, _, _, _], _ => rfl, ⟨a38, i38, k38⟩⟩
  have F39 := fun_mk (st := s_Market_direct) l39 c39 k39
  have D_Market_direct : Mth K C_Market "direct" "Market.direct" s_Market_direct ["self", "event"] f39 _ := ⟨F39, F39.binds (ps := ["self", "event"]) fun _ _ _ _ _ _ us hl => match us, hl with | [_, _], _ => rfl, ⟨a39, i39, k39⟩⟩
  have F40 := fun_mk (st := s_Market_copy) l40 c40 k40
  have D_Market_copy : Mth K C_Market "copy" "Market.copy" s_Market_copy ["self"] f40 _ := ⟨F40, F40.binds (ps := ["self"]) fun _ _ _ _ _ _ us hl => match us, hl with | [_], _ => rfl, ⟨a40, i40, k40⟩⟩
  have F41 := fun_mk (st := s_Market__check_ends) l41 c41 k41
  have D_Market__check_ends : Mth K C_Market "_check_ends" "Market._check_ends" s_Market__check_ends ["self", "treaties", "losses"] f41 _ := ⟨F41, F41.binds (ps := ["self", "treaties", "losses"]) fun _ _ _ _ _ _ us hl => match us, hl with | [_, _, _], _ => rfl, ⟨a41, i41, k41⟩⟩
  have F42 := fun_mk (st := s_law_cell) l42 c42 k42
  have D_law_cell : Dfn K mg "_law_cell" s_law_cell ["script", "k"] f42 _ := ⟨F42, F42.binds (ps := ["script", "k"]) fun _ _ _ _ _ _ us hl => match us, hl with | [_, _], _ => rfl, PySem.W.mg_of X G a42⟩
  have F43 := fun_mk (st := s_law_draws) l43 c43 k43
  have D_law_draws : Dfn K mg "_law_draws" s_law_draws ["cell", "count"] f43 _ := ⟨F43, F43.binds (ps := ["cell", "count"]) fun _ _ _ _ _ _ us hl => match us, hl with | [_, _], _ => rfl, PySem.W.mg_of X G a43⟩
  have F44 := fun_mk (st := s_law_cover) l44 c44 k44
  have D_law_cover : Dfn K mg "_law_cover" s_law_cover ["n", "at"] f44 _ := ⟨F44, F44.binds (ps := ["n", "at"]) fun _ _ _ _ _ _ us hl => match us, hl with | [_, _], _ => rfl, PySem.W.mg_of X G a44⟩
  have F45 := fun_mk (st := s_law_panel) l45 c45 k45
  have D_law_panel : Dfn K mg "_law_panel" s_law_panel ["n", "at", "names"] f45 _ := ⟨F45, F45.binds (ps := ["n", "at", "names"]) fun _ _ _ _ _ _ us hl => match us, hl with | [_, _, _], _ => rfl, PySem.W.mg_of X G a45⟩
  have F46 := fun_mk (st := s_law_filled) l46 c46 k46
  have D_law_filled : Dfn K mg "_law_filled" s_law_filled ["market", "cell"] f46 _ := ⟨F46, F46.binds (ps := ["market", "cell"]) fun _ _ _ _ _ _ us hl => match us, hl with | [_, _], _ => rfl, PySem.W.mg_of X G a46⟩
  have F47 := fun_mk (st := s_law_loss) l47 c47 k47
  have D_law_loss : Dfn K mg "_law_loss" s_law_loss ["market", "digit"] f47 _ := ⟨F47, F47.binds (ps := ["market", "digit"]) fun _ _ _ _ _ _ us hl => match us, hl with | [_, _], _ => rfl, PySem.W.mg_of X G a47⟩
  have F48 := fun_mk (st := s_law_market) l48 c48 k48
  have D_law_market : Dfn K mg "_law_market" s_law_market ["cell"] f48 _ := ⟨F48, F48.binds (ps := ["cell"]) fun _ _ _ _ _ _ us hl => match us, hl with | [_], _ => rfl, PySem.W.mg_of X G a48⟩
  have F49 := fun_mk (st := s_law_allocate) l49 c49 k49
  have D_law_allocate : Dfn K mg "_law_allocate" s_law_allocate ["amount", "shares"] f49 _ := ⟨F49, F49.binds (ps := ["amount", "shares"]) fun _ _ _ _ _ _ us hl => match us, hl with | [_, _], _ => rfl, PySem.W.mg_of X G a49⟩
  have F50 := fun_mk (st := s_law_pays) l50 c50 k50
  have D_law_pays : Dfn K mg "_law_pays" s_law_pays ["market", "name", "loss"] f50 _ := ⟨F50, F50.binds (ps := ["market", "name", "loss"]) fun _ _ _ _ _ _ us hl => match us, hl with | [_, _, _], _ => rfl, PySem.W.mg_of X G a50⟩
  have F51 := fun_mk (st := s_law_next) l51 c51 k51
  have D_law_next : Dfn K mg "_law_next" s_law_next ["market", "event", "gross"] f51 _ := ⟨F51, F51.binds (ps := ["market", "event", "gross"]) fun _ _ _ _ _ _ us hl => match us, hl with | [_, _, _], _ => rfl, PySem.W.mg_of X G a51⟩
  have F52 := fun_mk (st := s_law_rounds) l52 c52 k52
  have D_law_rounds : Dfn K mg "_law_rounds" s_law_rounds ["market", "event"] f52 _ := ⟨F52, F52.binds (ps := ["market", "event"]) fun _ _ _ _ _ _ us hl => match us, hl with | [_, _], _ => rfl, PySem.W.mg_of X G a52⟩
  have F53 := fun_mk (st := s_law_turned) l53 c53 k53
  have D_law_turned : Dfn K mg "_law_turned" s_law_turned ["paper", "digits", "at"] f53 _ := ⟨F53, F53.binds (ps := ["paper", "digits", "at"]) fun _ _ _ _ _ _ us hl => match us, hl with | [_, _, _], _ => rfl, PySem.W.mg_of X G a53⟩
  have F54 := fun_mk (st := s_law_way) l54 c54 k54
  have D_law_way : Dfn K mg "_law_way" s_law_way ["market", "event", "insurer"] f54 _ := ⟨F54, F54.binds (ps := ["market", "event", "insurer"]) fun _ _ _ _ _ _ us hl => match us, hl with | [_, _, _], _ => rfl, PySem.W.mg_of X G a54⟩
  have F55 := fun_mk (st := s_law_explained) l55 c55 k55
  have D_law_explained : Dfn K mg "_law_explained" s_law_explained ["market", "event", "insurer"] f55 _ := ⟨F55, F55.binds (ps := ["market", "event", "insurer"]) fun _ _ _ _ _ _ us hl => match us, hl with | [_, _, _], _ => rfl, PySem.W.mg_of X G a55⟩
  have F56 := fun_mk (st := s_law_example) l56 c56 k56
  have D_law_example : Dfn K mg "_law_example" s_law_example [] f56 _ := ⟨F56, F56.binds (ps := []) fun _ _ _ _ _ _ us hl => match us, hl with | [], _ => rfl, PySem.W.mg_of X G a56⟩
  have F57 := fun_mk (st := s_law_fixed) l57 c57 k57
  have D_law_fixed : Dfn K mg "_law_fixed" s_law_fixed [] f57 _ := ⟨F57, F57.binds (ps := []) fun _ _ _ _ _ _ us hl => match us, hl with | [], _ => rfl, PySem.W.mg_of X G a57⟩
  have F58 := fun_mk (st := s_law_has_no_end) l58 c58 k58
  have D_law_has_no_end : Dfn K mg "_law_has_no_end" s_law_has_no_end ["market", "event", "insurer"] f58 _ := ⟨F58, F58.binds (ps := ["market", "event", "insurer"]) fun _ _ _ _ _ _ us hl => match us, hl with | [_, _, _], _ => rfl, PySem.W.mg_of X G a58⟩
  have DL : Dfn K mg "law" s_law ["script"] fa _ := ⟨fun_mk (st := s_law) l59 c59 k59, (fun_mk (st := s_law) l59 c59 k59).binds (ps := ["script"]) fun _ _ _ _ _ _ us hl => match us, hl with | [_], _ => rfl, PySem.W.mg_of X G a59⟩
  refine ⟨PySem.W.fnOf "law" "law" (defArgs s_law) (defBody s_law) (defScope s_law) .none kV59 dc59 pm59 an59 cd59 ct59, fun s v => .of_eq rfl, fun base _ _ => ?_⟩
  have G_NameTaken___init := ok_NameTaken___init (P := l.prog) (w := w) (base := base) D_NameTaken___init T
  have G_NoSuchName___init := ok_NoSuchName___init (P := l.prog) (w := w) (base := base) D_NoSuchName___init T
  have G_is_between := ok_is_between (P := l.prog) (w := w) (base := base) D_is_between T
  have G_is_name := ok_is_name (P := l.prog) (w := w) (base := base) D_is_name T
  have G_check_name := ok_check_name (P := l.prog) (w := w) (base := base) D_check_name T D_is_name G_is_name
  have G_check_known := ok_check_known (P := l.prog) (w := w) (base := base) D_check_known T D_NoSuchName___init G_NoSuchName___init
  have G_check_names := ok_check_names (P := l.prog) (w := w) (base := base) D_check_names T D_check_known G_check_known
  have G_is_entry := ok_is_entry (P := l.prog) (w := w) (base := base) D_is_entry T D_is_name G_is_name D_is_between G_is_between
  have G_is_panel := ok_is_panel (P := l.prog) (w := w) (base := base) D_is_panel T D_is_entry G_is_entry
  have G_check_panel := ok_check_panel (P := l.prog) (w := w) (base := base) D_check_panel T D_is_panel G_is_panel
  have G_allocate := ok_allocate (P := l.prog) (w := w) (base := base) D_allocate T
  have G_next_unit := ok_next_unit (P := l.prog) (w := w) (base := base) D_next_unit T
  have G_is_cover := ok_is_cover (P := l.prog) (w := w) (base := base) D_is_cover T D_is_between G_is_between
  have G_check_cover := ok_check_cover (P := l.prog) (w := w) (base := base) D_check_cover T D_is_cover G_is_cover
  have G_recovery := ok_recovery (P := l.prog) (w := w) (base := base) D_recovery T
  have G_programme := ok_programme (P := l.prog) (w := w) (base := base) D_programme T D_recovery G_recovery
  have G_active_covers := ok_active_covers (P := l.prog) (w := w) (base := base) D_active_covers T
  have G_cede := ok_cede (P := l.prog) (w := w) (base := base) D_cede T D_active_covers G_active_covers D_programme G_programme
  have G_treaty_payments := ok_treaty_payments (P := l.prog) (w := w) (base := base) D_treaty_payments T D_cede G_cede
  have G_panel_parts := ok_panel_parts (P := l.prog) (w := w) (base := base) D_panel_parts T D_allocate G_allocate
  have G_next_gross := ok_next_gross (P := l.prog) (w := w) (base := base) D_next_gross T D_treaty_payments G_treaty_payments D_panel_parts G_panel_parts
  have G_rounds_to_end := ok_rounds_to_end (P := l.prog) (w := w) (base := base) D_rounds_to_end T D_next_gross G_next_gross
  have G_next_step := ok_next_step (P := l.prog) (w := w) (base := base) D_next_step T D_cede G_cede D_next_unit G_next_unit
  have G_is_same := issame_all (P:=l.prog) (w:=w) (base:=base) D_is_same T D_is_between G_is_between 6
  have G_check_new_name := ok_check_new_name (P := l.prog) (w := w) (base := base) D_check_new_name T D_check_name G_check_name D_NameTaken___init G_NameTaken___init
  have G_check_placed := ok_check_placed (P := l.prog) (w := w) (base := base) D_check_placed T D_check_known G_check_known
  have G_direct_losses := ok_direct_losses (P := l.prog) (w := w) (base := base) D_direct_losses T
  have G_Market___init := ok_Market___init (P := l.prog) (w := w) (base := base) D_Market___init T
  have G_Market_add_insurer := ok_Market_add_insurer (P := l.prog) (w := w) (base := base) D_Market_add_insurer T D_check_new_name G_check_new_name
  have G_Market_add_event := ok_Market_add_event (P := l.prog) (w := w) (base := base) D_Market_add_event T D_check_new_name G_check_new_name
  have G_Market_direct := ok_Market_direct (P := l.prog) (w := w) (base := base) D_Market_direct T D_check_known G_check_known D_direct_losses G_direct_losses
  have G_rounds := ok_rounds (P := l.prog) (w := w) (base := base) D_rounds T D_rounds_to_end G_rounds_to_end D_Market_direct G_Market_direct
  have G_settled := ok_settled (P := l.prog) (w := w) (base := base) D_settled T D_rounds G_rounds
  have G_check_unit_ends := ok_check_unit_ends (P := l.prog) (w := w) (base := base) D_check_unit_ends T D_Market_direct G_Market_direct D_rounds_to_end G_rounds_to_end
  have G_path := ok_path (P := l.prog) (w := w) (base := base) D_path T D_check_names G_check_names D_check_unit_ends G_check_unit_ends D_settled G_settled D_next_step G_next_step
  have G_explain_unit := ok_explain_unit (P := l.prog) (w := w) (base := base) D_explain_unit T D_path G_path
  have G_judge_unit := ok_judge_unit (P := l.prog) (w := w) (base := base) D_judge_unit T D_explain_unit G_explain_unit D_is_same G_is_same
  have G_Market_copy := ok_Market_copy (P := l.prog) (w := w) (base := base) D_Market_copy T D_Market___init G_Market___init
  have G_Market__check_ends := ok_Market__check_ends (P := l.prog) (w := w) (base := base) D_Market__check_ends T D_rounds_to_end G_rounds_to_end D_direct_losses G_direct_losses
  have G_Market_add_treaty := ok_Market_add_treaty (P := l.prog) (w := w) (base := base) D_Market_add_treaty T D_check_name G_check_name D_check_cover G_check_cover D_check_panel G_check_panel D_check_placed G_check_placed D_Market__check_ends G_Market__check_ends
  have G_Market_set_loss := ok_Market_set_loss (P := l.prog) (w := w) (base := base) D_Market_set_loss T D_check_name G_check_name D_is_between G_is_between D_check_known G_check_known D_Market__check_ends G_Market__check_ends
  have G_law_cell := ok_law_cell (P := l.prog) (w := w) (base := base) D_law_cell T
  have G_law_draws := ok_law_draws (P := l.prog) (w := w) (base := base) D_law_draws T
  have G_law_cover := ok_law_cover (P := l.prog) (w := w) (base := base) D_law_cover T
  have G_law_panel := ok_law_panel (P := l.prog) (w := w) (base := base) D_law_panel T
  have G_law_loss := ok_law_loss (P := l.prog) (w := w) (base := base) D_law_loss T D_Market_set_loss G_Market_set_loss
  have G_law_filled := ok_law_filled (P := l.prog) (w := w) (base := base) D_law_filled T D_law_draws G_law_draws D_Market_add_insurer G_Market_add_insurer D_Market_add_event G_Market_add_event D_Market_add_treaty G_Market_add_treaty D_law_cover G_law_cover D_law_panel G_law_panel D_law_loss G_law_loss
  have G_law_market := ok_law_market (P := l.prog) (w := w) (base := base) D_law_market T D_law_filled G_law_filled D_Market___init G_Market___init
  have G_law_allocate := ok_law_allocate (P := l.prog) (w := w) (base := base) D_law_allocate T
  have G_law_pays := ok_law_pays (P := l.prog) (w := w) (base := base) D_law_pays T
  have G_law_next := ok_law_next (P := l.prog) (w := w) (base := base) D_law_next T D_Market_direct G_Market_direct D_law_pays G_law_pays D_law_allocate G_law_allocate
  have G_law_rounds := ok_law_rounds (P := l.prog) (w := w) (base := base) D_law_rounds T D_Market_direct G_Market_direct D_law_next G_law_next
  have G_law_turned := turned_all (P:=l.prog) (w:=w) (base:=base) D_law_turned T 6
  have G_law_way := ok_law_way (P := l.prog) (w := w) (base := base) D_law_way T D_law_rounds G_law_rounds D_law_pays G_law_pays D_law_allocate G_law_allocate
  have G_law_explained := ok_law_explained (P := l.prog) (w := w) (base := base) D_law_explained T D_explain_unit G_explain_unit
  have G_law_example := ok_law_example (P := l.prog) (w := w) (base := base) D_law_example T D_Market___init G_Market___init D_Market_add_insurer G_Market_add_insurer D_Market_add_event G_Market_add_event D_Market_add_treaty G_Market_add_treaty D_Market_set_loss G_Market_set_loss
  have G_law_fixed := ok_law_fixed (P := l.prog) (w := w) (base := base) D_law_fixed T D_law_example G_law_example D_explain_unit G_explain_unit D_judge_unit G_judge_unit
  have G_law_has_no_end := ok_law_has_no_end (P := l.prog) (w := w) (base := base) D_law_has_no_end T D_Market_copy G_Market_copy D_Market_set_loss G_Market_set_loss D_Market_direct G_Market_direct
  exact ok_law DL T D_law_fixed G_law_fixed D_law_market G_law_market D_law_cell G_law_cell D_law_way G_law_way D_law_explained G_law_explained D_law_has_no_end G_law_has_no_end D_judge_unit G_judge_unit D_law_turned G_law_turned D_law_draws G_law_draws
theorem walk {l : PySem.W.OpenLaw} {q : Program} {loose : List Str} {XP : (Str → Option Value) → Heap → Prop} {YP : World → Heap → Prop} {d : DefRec} {K : Params → PySem.W.Frag} (hn : l.most = some 63) (hdf : d.params.defaults = [])
    (hY : ∀ (w : World) (h : Heap), YP w h → (K w.params).In h)
    (F : ∀ (w : World) (mg : Str → Option Value) (fa : Addr) (h : Heap), (K w.params).In h → h.Ns mainGlobals mg → mg d.name = some (.ref fa) →
      ∃ fd : FuncData, (∀ (s : Shared) (u : Value), BindsTo s fd ⟨[u], []⟩ [("script", u)]) ∧ ∀ base : Heap, (K w.params).In base → base.Ns mainGlobals mg → FnOk l.prog w (K w.params) mg base CX0 13 fa fd ["script"] (sp_law (K w.params))) :
    PySem.W.WalkO q loose XP YP l.row.toRowW d [] (fun f vs => PySem.call f vs) :=
  L2.walk_of (n := 63) (k := 13) (x := "script") (CX := fun _ => CX0) (sp := fun w => sp_law (K w.params)) hn (by decide) hdf ⟨rfl, by decide, by decide⟩ hY F (fun _ _ a ns hl _ hS => ⟨a, ns, rfl, hS, hl, fun _ => rfl⟩) fun _ _ _ _ _ z => z
end Sd

open PySem PySem.W PyProof.Rows in
set_option maxRecDepth 100000 in
set_option maxHeartbeats 0 in
theorem PySem.Challenge.cw_spiraldue_k51_judge_of_units_holds : PySem.Challenge.rw_spiraldue_k51_judge_of_units.Holds := by
  w_on; o_law; k_head; (case hw => w_witness2)
  k_fill
  refine Sd.walk (l := PySem.Challenge.rw_spiraldue_k51_judge_of_units) rfl rfl (fun w h Y => PySem.W.kIn_of Y) ?F
  case F =>
    intro w mg fa h KX G hmg
    refine' Sd.all_mk KX G hmg ?a1 ?i1 ?l1 ?c1 ?k1 ?a2 ?i2 ?l2 ?c2 ?k2 ?a3 ?l3 ?c3 ?k3 ?a4 ?l4 ?c4 ?k4 ?a5 ?l5 ?c5 ?k5 ?a6 ?l6 ?c6 ?k6 ?a7 ?l7 ?c7 ?k7 ?a8 ?l8 ?c8 ?k8 ?a9 ?l9 ?c9 ?k9 ?a10 ?l10 ?c10 ?k10 ?a11 ?l11 ?c11 ?k11 ?a12 ?l12 ?c12 ?k12 ?a13 ?l13 ?c13 ?k13 ?a14 ?l14 ?c14 ?k14 ?a15 ?l15 ?c15 ?k15 ?a16 ?l16 ?c16 ?k16 ?a17 ?l17 ?c17 ?k17 ?a18 ?l18 ?c18 ?k18 ?a19 ?l19 ?c19 ?k19 ?a20 ?l20 ?c20 ?k20 ?a21 ?l21 ?c21 ?k21 ?a22 ?l22 ?c22 ?k22 ?a23 ?l23 ?c23 ?k23 ?a24 ?l24 ?c24 ?k24 ?a25 ?l25 ?c25 ?k25 ?a26 ?l26 ?c26 ?k26 ?a27 ?l27 ?c27 ?k27 ?a28 ?l28 ?c28 ?k28 ?a29 ?l29 ?c29 ?k29 ?a30 ?l30 ?c30 ?k30 ?a31 ?l31 ?c31 ?k31 ?a32 ?l32 ?c32 ?k32 ?a33 ?l33 ?c33 ?k33 ?a34 ?i34 ?l34 ?c34 ?k34 ?a35 ?i35 ?l35 ?c35 ?k35 ?a36 ?i36 ?l36 ?c36 ?k36 ?a37 ?i37 ?l37 ?c37 ?k37 ?a38 ?i38 ?l38 ?c38 ?k38 ?a39 ?i39 ?l39 ?c39 ?k39 ?a40 ?i40 ?l40 ?c40 ?k40 ?a41 ?i41 ?l41 ?c41 ?k41 ?a42 ?l42 ?c42 ?k42 ?a43 ?l43 ?c43 ?k43 ?a44 ?l44 ?c44 ?k44 ?a45 ?l45 ?c45 ?k45 ?a46 ?l46 ?c46 ?k46 ?a47 ?l47 ?c47 ?k47 ?a48 ?l48 ?c48 ?k48 ?a49 ?l49 ?c49 ?k49 ?a50 ?l50 ?c50 ?k50 ?a51 ?l51 ?c51 ?k51 ?a52 ?l52 ?c52 ?k52 ?a53 ?l53 ?c53 ?k53 ?a54 ?l54 ?c54 ?k54 ?a55 ?l55 ?c55 ?k55 ?a56 ?l56 ?c56 ?k56 ?a57 ?l57 ?c57 ?k57 ?a58 ?l58 ?c58 ?k58 ?a59 ?l59 ?c59 ?k59 ?z_isinstance ?z_bool ?z_int ?z_str ?z_len ?z_all ?z_tuple ?z_sum ?z_divmod ?z_min ?z_max ?z_enumerate ?z_zip ?z_range ?z_any ?z_set ?z_list ?z_dict ?z_MOST_LETTERS ?z_LETTERS ?z_MOST_SHARES ?z_MOST_ENTRIES ?z_WHOLE ?z_MOST_RETENTION ?z_MOST_LIMIT ?z_LAST_ROUND ?z_MOST_GROSS ?z_MOST_DIRECT ?xg_SpiralError ?xx_SpiralError ?xk_SpiralError ?xb_SpiralError ?xt_SpiralError ?xd_SpiralError ?xs_SpiralError ?xg_BadName ?xx_BadName ?xk_BadName ?xb_BadName ?xt_BadName ?xd_BadName ?xs_BadName ?xg_BadCover ?xx_BadCover ?xk_BadCover ?xb_BadCover ?xt_BadCover ?xd_BadCover ?xs_BadCover ?xg_BadPanel ?xx_BadPanel ?xk_BadPanel ?xb_BadPanel ?xt_BadPanel ?xd_BadPanel ?xs_BadPanel ?xg_BadAmount ?xx_BadAmount ?xk_BadAmount ?xb_BadAmount ?xt_BadAmount ?xd_BadAmount ?xs_BadAmount ?xg_Twice ?xx_Twice ?xk_Twice ?xb_Twice ?xt_Twice ?xd_Twice ?xs_Twice ?xg_OwnPanel ?xx_OwnPanel ?xk_OwnPanel ?xb_OwnPanel ?xt_OwnPanel ?xd_OwnPanel ?xs_OwnPanel ?xg_TooMany ?xx_TooMany ?xk_TooMany ?xb_TooMany ?xt_TooMany ?xd_TooMany ?xs_TooMany ?xg_NoEnd ?xx_NoEnd ?xk_NoEnd ?xb_NoEnd ?xt_NoEnd ?xd_NoEnd ?xs_NoEnd ?yg_NoEnd ?yk_NoEnd ?ya_NoEnd ?yn_NoEnd ?yt_NoEnd ?ym_NoEnd ?og_NameTaken ?ol_NameTaken ?or_NameTaken ?os_NameTaken ?on_NameTaken ?ok_NameTaken ?ob_NameTaken ?ot_NameTaken ?od_NameTaken ?oi_NameTaken ?og_NoSuchName ?ol_NoSuchName ?or_NoSuchName ?os_NoSuchName ?on_NoSuchName ?ok_NoSuchName ?ob_NoSuchName ?ot_NoSuchName ?od_NoSuchName ?oi_NoSuchName ?cg_Market ?cp_Market ?ch_Market ?co_Market ?cs_Market ?cm_Market ?ck_Market ?cn_Market_insurers ?cn_Market_events ?cn_Market_treaties ?cn_Market_losses ?cc_Market_MOST_INSURERS ?cd_Market_MOST_INSURERS ?cc_Market_MOST_EVENTS ?cd_Market_MOST_EVENTS ?cc_Market_MOST_TREATIES ?cd_Market_MOST_TREATIES ?f_kitS
    (case xg_SpiralError => first | k_is | kit_is)
    (case xg_BadName => first | k_is | kit_is)
    (case xg_BadCover => first | k_is | kit_is)
    (case xg_BadPanel => first | k_is | kit_is)
    (case xg_BadAmount => first | k_is | kit_is)
    (case xg_Twice => first | k_is | kit_is)
    (case xg_OwnPanel => first | k_is | kit_is)
    (case xg_TooMany => first | k_is | kit_is)
    (case xg_NoEnd => first | k_is | kit_is)
    (case og_NameTaken => first | k_is | kit_is)
    (case og_NoSuchName => first | k_is | kit_is)
    (case cg_Market => first | k_is | kit_is)
    (case a1 => k_is)
    (case i1 => k_is)
    (case l1 => k_is)
    (case c1 => k_is)
    (case k1 => k_is)
    (case a2 => k_is)
    (case i2 => k_is)
    (case l2 => k_is)
    (case c2 => k_is)
    (case k2 => k_is)
    (case a3 => k_is)
    (case l3 => k_is)
    (case c3 => k_is)
    (case k3 => k_is)
    (case a4 => k_is)
    (case l4 => k_is)
    (case c4 => k_is)
    (case k4 => k_is)
    (case a5 => k_is)
    (case l5 => k_is)
    (case c5 => k_is)
    (case k5 => k_is)
    (case a6 => k_is)
    (case l6 => k_is)
    (case c6 => k_is)
    (case k6 => k_is)
    (case a7 => k_is)
    (case l7 => k_is)
    (case c7 => k_is)
    (case k7 => k_is)
    (case a8 => k_is)
    (case l8 => k_is)
    (case c8 => k_is)
    (case k8 => k_is)
    (case a9 => k_is)
    (case l9 => k_is)
    (case c9 => k_is)
    (case k9 => k_is)
    (case a10 => k_is)
    (case l10 => k_is)
    (case c10 => k_is)
    (case k10 => k_is)
    (case a11 => k_is)
    (case l11 => k_is)
    (case c11 => k_is)
    (case k11 => k_is)
    (case a12 => k_is)
    (case l12 => k_is)
    (case c12 => k_is)
    (case k12 => k_is)
    (case a13 => k_is)
    (case l13 => k_is)
    (case c13 => k_is)
    (case k13 => k_is)
    (case a14 => k_is)
    (case l14 => k_is)
    (case c14 => k_is)
    (case k14 => k_is)
    (case a15 => k_is)
    (case l15 => k_is)
    (case c15 => k_is)
    (case k15 => k_is)
    (case a16 => k_is)
    (case l16 => k_is)
    (case c16 => k_is)
    (case k16 => k_is)
    (case a17 => k_is)
    (case l17 => k_is)
    (case c17 => k_is)
    (case k17 => k_is)
    (case a18 => k_is)
    (case l18 => k_is)
    (case c18 => k_is)
    (case k18 => k_is)
    (case a19 => k_is)
    (case l19 => k_is)
    (case c19 => k_is)
    (case k19 => k_is)
    (case a20 => k_is)
    (case l20 => k_is)
    (case c20 => k_is)
    (case k20 => k_is)
    (case a21 => k_is)
    (case l21 => k_is)
    (case c21 => k_is)
    (case k21 => k_is)
    (case a22 => k_is)
    (case l22 => k_is)
    (case c22 => k_is)
    (case k22 => k_is)
    (case a23 => k_is)
    (case l23 => k_is)
    (case c23 => k_is)
    (case k23 => k_is)
    (case a24 => k_is)
    (case l24 => k_is)
    (case c24 => k_is)
    (case k24 => k_is)
    (case a25 => k_is)
    (case l25 => k_is)
    (case c25 => k_is)
    (case k25 => k_is)
    (case a26 => k_is)
    (case l26 => k_is)
    (case c26 => k_is)
    (case k26 => k_is)
    (case a27 => k_is)
    (case l27 => k_is)
    (case c27 => k_is)
    (case k27 => k_is)
    (case a28 => k_is)
    (case l28 => k_is)
    (case c28 => k_is)
    (case k28 => k_is)
    (case a29 => k_is)
    (case l29 => k_is)
    (case c29 => k_is)
    (case k29 => k_is)
    (case a30 => k_is)
    (case l30 => k_is)
    (case c30 => k_is)
    (case k30 => k_is)
    (case a31 => k_is)
    (case l31 => k_is)
    (case c31 => k_is)
    (case k31 => k_is)
    (case a32 => k_is)
    (case l32 => k_is)
    (case c32 => k_is)
    (case k32 => k_is)
    (case a33 => k_is)
    (case l33 => k_is)
    (case c33 => k_is)
    (case k33 => k_is)
    (case a34 => k_is)
    (case i34 => k_is)
    (case l34 => k_is)
    (case c34 => k_is)
    (case k34 => k_is)
    (case a35 => k_is)
    (case i35 => k_is)
    (case l35 => k_is)
    (case c35 => k_is)
    (case k35 => k_is)
    (case a36 => k_is)
    (case i36 => k_is)
    (case l36 => k_is)
    (case c36 => k_is)
    (case k36 => k_is)
    (case a37 => k_is)
    (case i37 => k_is)
    (case l37 => k_is)
    (case c37 => k_is)
    (case k37 => k_is)
    (case a38 => k_is)
    (case i38 => k_is)
    (case l38 => k_is)
    (case c38 => k_is)
    (case k38 => k_is)
    (case a39 => k_is)
    (case i39 => k_is)
    (case l39 => k_is)
    (case c39 => k_is)
    (case k39 => k_is)
    (case a40 => k_is)
    (case i40 => k_is)
    (case l40 => k_is)
    (case c40 => k_is)
    (case k40 => k_is)
    (case a41 => k_is)
    (case i41 => k_is)
    (case l41 => k_is)
    (case c41 => k_is)
    (case k41 => k_is)
    (case a42 => k_is)
    (case l42 => k_is)
    (case c42 => k_is)
    (case k42 => k_is)
    (case a43 => k_is)
    (case l43 => k_is)
    (case c43 => k_is)
    (case k43 => k_is)
    (case a44 => k_is)
    (case l44 => k_is)
    (case c44 => k_is)
    (case k44 => k_is)
    (case a45 => k_is)
    (case l45 => k_is)
    (case c45 => k_is)
    (case k45 => k_is)
    (case a46 => k_is)
    (case l46 => k_is)
    (case c46 => k_is)
    (case k46 => k_is)
    (case a47 => k_is)
    (case l47 => k_is)
    (case c47 => k_is)
    (case k47 => k_is)
    (case a48 => k_is)
    (case l48 => k_is)
    (case c48 => k_is)
    (case k48 => k_is)
    (case a49 => k_is)
    (case l49 => k_is)
    (case c49 => k_is)
    (case k49 => k_is)
    (case a50 => k_is)
    (case l50 => k_is)
    (case c50 => k_is)
    (case k50 => k_is)
    (case a51 => k_is)
    (case l51 => k_is)
    (case c51 => k_is)
    (case k51 => k_is)
    (case a52 => k_is)
    (case l52 => k_is)
    (case c52 => k_is)
    (case k52 => k_is)
    (case a53 => k_is)
    (case l53 => k_is)
    (case c53 => k_is)
    (case k53 => k_is)
    (case a54 => k_is)
    (case l54 => k_is)
    (case c54 => k_is)
    (case k54 => k_is)
    (case a55 => k_is)
    (case l55 => k_is)
    (case c55 => k_is)
    (case k55 => k_is)
    (case a56 => k_is)
    (case l56 => k_is)
    (case c56 => k_is)
    (case k56 => k_is)
    (case a57 => k_is)
    (case l57 => k_is)
    (case c57 => k_is)
    (case k57 => k_is)
    (case a58 => k_is)
    (case l58 => k_is)
    (case c58 => k_is)
    (case k58 => k_is)
    (case a59 => k_is)
    (case l59 => k_is)
    (case c59 => k_is)
    (case k59 => k_is)
    (case z_isinstance => k_is)
    (case z_bool => k_is)
    (case z_int => k_is)
    (case z_str => k_is)
    (case z_len => k_is)
    (case z_all => k_is)
    (case z_tuple => k_is)
    (case z_sum => k_is)
    (case z_divmod => k_is)
    (case z_min => k_is)
    (case z_max => k_is)
    (case z_enumerate => k_is)
    (case z_zip => k_is)
    (case z_range => k_is)
    (case z_any => k_is)
    (case z_set => k_is)
    (case z_list => k_is)
    (case z_dict => k_is)
    (case z_MOST_LETTERS => k_is)
    (case z_LETTERS => k_is)
    (case z_MOST_SHARES => k_is)
    (case z_MOST_ENTRIES => k_is)
    (case z_WHOLE => k_is)
    (case z_MOST_RETENTION => k_is)
    (case z_MOST_LIMIT => k_is)
    (case z_LAST_ROUND => k_is)
    (case z_MOST_GROSS => k_is)
    (case z_MOST_DIRECT => k_is)
    (case xx_SpiralError => first | k_exc | k_is | rfl)
    (case xk_SpiralError => first | k_is | kit_is)
    (case xb_SpiralError => first | k_is | kit_is)
    (case xt_SpiralError => first | k_is | kit_is)
    (case xd_SpiralError => first | k_is | kit_is)
    (case xs_SpiralError => first | rfl | k_is)
    (case xx_BadName => first | k_exc | k_is | rfl)
    (case xk_BadName => first | k_is | kit_is)
    (case xb_BadName => first | k_is | kit_is)
    (case xt_BadName => first | k_is | kit_is)
    (case xd_BadName => first | k_is | kit_is)
    (case xs_BadName => first | rfl | k_is)
    (case xx_BadCover => first | k_exc | k_is | rfl)
    (case xk_BadCover => first | k_is | kit_is)
    (case xb_BadCover => first | k_is | kit_is)
    (case xt_BadCover => first | k_is | kit_is)
    (case xd_BadCover => first | k_is | kit_is)
    (case xs_BadCover => first | rfl | k_is)
    (case xx_BadPanel => first | k_exc | k_is | rfl)
    (case xk_BadPanel => first | k_is | kit_is)
    (case xb_BadPanel => first | k_is | kit_is)
    (case xt_BadPanel => first | k_is | kit_is)
    (case xd_BadPanel => first | k_is | kit_is)
    (case xs_BadPanel => first | rfl | k_is)
    (case xx_BadAmount => first | k_exc | k_is | rfl)
    (case xk_BadAmount => first | k_is | kit_is)
    (case xb_BadAmount => first | k_is | kit_is)
    (case xt_BadAmount => first | k_is | kit_is)
    (case xd_BadAmount => first | k_is | kit_is)
    (case xs_BadAmount => first | rfl | k_is)
    (case xx_Twice => first | k_exc | k_is | rfl)
    (case xk_Twice => first | k_is | kit_is)
    (case xb_Twice => first | k_is | kit_is)
    (case xt_Twice => first | k_is | kit_is)
    (case xd_Twice => first | k_is | kit_is)
    (case xs_Twice => first | rfl | k_is)
    (case xx_OwnPanel => first | k_exc | k_is | rfl)
    (case xk_OwnPanel => first | k_is | kit_is)
    (case xb_OwnPanel => first | k_is | kit_is)
    (case xt_OwnPanel => first | k_is | kit_is)
    (case xd_OwnPanel => first | k_is | kit_is)
    (case xs_OwnPanel => first | rfl | k_is)
    (case xx_TooMany => first | k_exc | k_is | rfl)
    (case xk_TooMany => first | k_is | kit_is)
    (case xb_TooMany => first | k_is | kit_is)
    (case xt_TooMany => first | k_is | kit_is)
    (case xd_TooMany => first | k_is | kit_is)
    (case xs_TooMany => first | rfl | k_is)
    (case xx_NoEnd => first | k_exc | k_is | rfl)
    (case xk_NoEnd => first | k_is | kit_is)
    (case xb_NoEnd => first | k_is | kit_is)
    (case xt_NoEnd => first | k_is | kit_is)
    (case xd_NoEnd => first | k_is | kit_is)
    (case xs_NoEnd => first | rfl | k_is)
    (case yg_NoEnd => first | k_is | kit_is)
    (case yk_NoEnd => first | k_is | kit_is)
    (case ya_NoEnd => first | k_is | kit_is)
    (case yn_NoEnd => first | k_is | kit_is)
    (case yt_NoEnd => first | k_is | kit_is)
    (case ym_NoEnd => first | k_is | kit_is)
    (case ol_NameTaken => first | k_is | kit_is)
    (case or_NameTaken => first | rfl | decide +kernel)
    (case os_NameTaken => first | k_is | kit_is)
    (case on_NameTaken => first | k_is | kit_is)
    (case ok_NameTaken => first | k_is | kit_is)
    (case ob_NameTaken => first | k_is | kit_is)
    (case ot_NameTaken => first | k_is | kit_is)
    (case od_NameTaken => first | k_is | kit_is)
    (case oi_NameTaken => first | rfl | k_is)
    (case ol_NoSuchName => first | k_is | kit_is)
    (case or_NoSuchName => first | rfl | decide +kernel)
    (case os_NoSuchName => first | k_is | kit_is)
    (case on_NoSuchName => first | k_is | kit_is)
    (case ok_NoSuchName => first | k_is | kit_is)
    (case ob_NoSuchName => first | k_is | kit_is)
    (case ot_NoSuchName => first | k_is | kit_is)
    (case od_NoSuchName => first | k_is | kit_is)
    (case oi_NoSuchName => first | rfl | k_is)
    (case cp_Market => first | k_is | kit_is)
    (case ch_Market => first | k_is | kit_is)
    (case co_Market => first | k_is | kit_is)
    (case cs_Market => first | k_is | kit_is)
    (case cm_Market => first | k_is | kit_is)
    (case ck_Market => first | k_is | kit_is)
    (case cn_Market_insurers => first | k_is | kit_is)
    (case cn_Market_events => first | k_is | kit_is)
    (case cn_Market_treaties => first | k_is | kit_is)
    (case cn_Market_losses => first | k_is | kit_is)
    (case cc_Market_MOST_INSURERS => first | k_is | kit_is)
    (case cd_Market_MOST_INSURERS => first | k_is | kit_is)
    (case cc_Market_MOST_EVENTS => first | k_is | kit_is)
    (case cd_Market_MOST_EVENTS => first | k_is | kit_is)
    (case cc_Market_MOST_TREATIES => first | k_is | kit_is)
    (case cd_Market_MOST_TREATIES => first | k_is | kit_is)
    (case f_kitS => first | k_is | kit_is)
