import PyProof.Rows.All
import Wide.All
import OpenK.AllK
import Wide.FinOn
import HandS.ForMost
import HandS.Flow
import HandS.IsInst
import HandS.Wide
import HandS.WideBits
import HandS.TupAny
import HandS.Exc
import HandS.TryOnly
import HandS.ExcOwn
import HandS.WordsExc
import HandS.ExcIs
import KE.KUnpackStar
import KE.GoesNew
import KE.GoesEnum
import KE.GoesMore
import HandS.Walk
import HandS.ExcInit
import HandS.ExcField
import HandS.TryMany
import HandS.DictComp
import HandS.Strs
import PySem.Challenge.RW_spiraldue_k11_values_of_wrong_kinds
set_option Elab.async false
set_option maxRecDepth 100000
set_option maxHeartbeats 4000000
/-! ### P1. heaps -/
namespace Sd
open PySem PySem.Spec PyProof.Rows L2
set_option linter.all false
theorem same_new {H : Hp} {p : Addr} {o : HO} (h : H p = none) : Same H (upd H p o) := fun b u q => by
  rw [upd_ne (ne_of_none q h)]
  exact q
theorem same_put {H H' : Hp} {p : Addr} {o : HO} (s : Same H H') (h : H p = none) : Same H (upd H' p o) := fun b u q => by
  rw [upd_ne (ne_of_none q h)]
  exact s b u q
theorem same_add {H H' : Hp} {p : Addr} {o : HO} (s : Same H H') (h : H' p = none) : Same H (upd H' p o) := s.trans (same_new h)
theorem same_sqt {K : PySem.W.Frag} {H H' : Hp} {a : Addr} {xs : List V} (e : Same H H') (h : SqT K H a xs) : SqT K H' a xs := by
  rcases h with (h | ⟨o, h⟩) | h
  · exact .inl (.inl (e _ _ h))
  · exact .inl (.inr ⟨o, e _ _ h⟩)
  · exact .inr h
/-- a list or a tuple of xs -/
def Sq (K : PySem.W.Frag) (H : Hp) (a : Addr) (xs : List V) : Prop := SqL K H a xs ∨ SqT K H a xs
theorem same_sq {K : PySem.W.Frag} {H H' : Hp} {a : Addr} {xs : List V} (e : Same H H') (h : Sq K H a xs) : Sq K H' a xs := by
  rcases h with h | h
  · exact .inl (e.seq h)
  · exact .inr (same_sqt e h)
/-- all but p stands as it stood -/
def Bar (p : Addr) (H H' : Hp) : Prop := ∀ b o, b ≠ p → H b = some o → H' b = some o
theorem Bar.refl {p : Addr} (H : Hp) : Bar p H H := fun _ _ _ h => h
theorem Bar.trans {p : Addr} {H H1 H2 : Hp} (a : Bar p H H1) (b : Bar p H1 H2) : Bar p H H2 := fun c o n h => b c o n (a c o n h)
theorem Bar.of {p : Addr} {H H' : Hp} (s : Same H H') : Bar p H H' := fun b o _ h => s b o h
theorem Bar.put {p : Addr} {H H' : Hp} {o : HO} (s : Bar p H H') : Bar p H (upd H' p o) := fun b u n q => by
  rw [upd_ne n]
  exact s b u n q
theorem Bar.add {p q : Addr} {H H' : Hp} {o : HO} (s : Bar p H H') (h : H' q = none) : Bar p H (upd H' q o) := s.trans (Bar.of (same_new h))
theorem Bar.keep {p : Addr} {H0 H : Hp} (h : H0 p = none) (s : Bar p H0 H) : Same H0 H := fun b o q => s b o (ne_of_none q h) q
theorem Bar.free {p q : Addr} {H H' : Hp} (s : Bar p H H') (n : q ≠ p) (h : H' q = none) : H q = none := by
  cases e : H q with
  | none => rfl
  | some o =>
    rw [s q o n e] at h
    cases h
theorem Bar.new {p q : Addr} {H : Hp} {o : HO} (hp : H p = some o) (h : H q = none) : q ≠ p := (ne_of_none hp h).symm

theorem free2 {H : Hp} {p o : Addr} {u : HO} (np : H p = none) (no : upd H p u o = none) : H o = none := (same_new np).free no

/-! ### P2. rules -/
/-- sum(xs) of a list or a tuple of ints -/
def rSumS (K : PySem.W.Frag) : List V → Hp → VK → Prop := fun vs H Q => ∃ (a : Addr) (ns : List Int), vs = [V.ref a] ∧ Sq K H a (ns.map V.int) ∧ Q (.int ns.sum) H
theorem cr_sumS {X : Cx} (hc : X.calm = true) : CallR X (.builtin "sum") (rSumS X.K) := by
  intro pins s σ H vs us Q I r h
  obtain ⟨a, ns, rfl, hs | hs, q⟩ := h
  · exact cr_sum hc pins s σ H _ us Q I r ⟨a, ns, rfl, hs, q⟩
  · obtain ⟨its, rv, ⟨ob, ho, hcl, n, hd⟩, _⟩ := I.tuple hs
    rw [Vals.ref1 r]
    have hi := rv.ints
    have ht : s.heap.IsTuple a its.toArray := ⟨ob, ho, hcl, n, hd⟩
    obtain ⟨xs, e⟩ := hi.allInts.items
    have hn : numsOf (intItems xs).toList = ns := by rw [← e]; exact hi.numsOf
    rw [nums_intItems] at hn
    rw [e] at ht
    refine PySem.W.ktm_sumG (I.ok.hd hc) ht fun h' tk t' hk => ?_
    rw [preSum_eq, List.take_of_length_le (by simp), hn]
    exact ⟨.int _, H, I.kept hk, ⟨_, rfl⟩, q⟩
/-- what isinstance asks -/
theorem tyx_lst {K : PySem.W.Frag} {H : Hp} {a : Addr} {xs : List V} (h : SqL K H a xs) : TyX K H (.ref a) (.type "list") := by
  rcases h with (h | ⟨o, h⟩) | ⟨o, its, n, hk, hc, _⟩
  · exact .base (.lst h)
  · exact .base (.frz h)
  · exact .kList hk hc
theorem tyx_tup {K : PySem.W.Frag} {H : Hp} {a : Addr} {xs : List V} (h : SqT K H a xs) : TyX K H (.ref a) (.type "tuple") := by
  rcases h with (h | ⟨o, h⟩) | ⟨o, its, n, hk, hc, _⟩
  · exact .base (.tup h)
  · exact .fTuple h
  · exact .kTuple hk hc
/-- tuple + tuple, whichever is empty -/
theorem cat_any {K : PySem.W.Frag} {H : Hp} {a b : Addr} {xs ys : List V} {Q : VK} (ha : SqT K H a xs) (hb : SqT K H b ys) (hz : xs.length + ys.length ≤ sizeLine) (q : ∀ p H', Same H H' → SqT K H' p (xs ++ ys) → Q (.ref p) H') : rCatA K (.ref a) (.ref b) H Q := by
  refine ⟨a, b, xs, ys, rfl, rfl, ha, hb, hz, fun e => ?_, fun _ e => ?_, fun _ _ p np => q p _ (same_new np) (SqT.of upd_same)⟩
  · subst e
    exact q b H (Same.refl H) hb
  · subst e
    rw [List.append_nil] at q
    exact q a H (Same.refl H) ha
theorem pe_gi {X : Cx} {x : Str} {n : Int} {pos : Pos} (hg : Gl X x) (h : ∃ t, X.mg x = some (Value.int n t)) (hd : (x == ("__debug__" : Str)) = false := by decide) : PE X (.Name x pos) (tC (.int n)) :=
  let ⟨t, e⟩ := h
  pe_glob (v := .int n) hg e ⟨t, rfl⟩ hd
theorem pe_gs {X : Cx} {x : Str} {n : Str} {pos : Pos} (hg : Gl X x) (h : ∃ t, X.mg x = some (Value.str n t)) (hd : (x == ("__debug__" : Str)) = false := by decide) : PE X (.Name x pos) (tC (.str n)) :=
  let ⟨t, e⟩ := h
  pe_glob (v := .str n) hg e ⟨t, rfl⟩ hd
/-- an own error: a class over ValueError without a making of its own -/
structure ExF (K : PySem.W.Frag) (mg : Str → Option Value) (x : Str) (C : Addr) : Prop where
  g : mg x = some (.ref C)
  x : PySem.W.excIn K C [.type "ValueError", .type "Exception", .type "BaseException", .type "object"] "ValueError.__new__" = true
  k : PySem.W.keepIn K (.ref C) = true
  b : PySem.W.subIn K (.ref C) (.type "BaseException") = some true
  t : PySem.W.typeIn K (.ref C) = some (.type "type")
  e : PySem.W.exmOne K (.ref C) (.ref C) = some true
/-- isinstance of the error that a suite holds -/
theorem call_isEx {X : Cx} {a : Addr} {oe : Obj} {cls : Value} {d : Option Addr} {pn : List (Addr × Obj)} (hz : Zc cls d oe) (hf : ∃ vs, oe.data = .fields vs) :
    CallR (X.suite a ((a, oe) :: pn)) (.builtin "isinstance") (fun xs H Q => ∃ D, cls = .ref D ∧ d = none ∧ ExcC X.K D ∧ rIsE X.K D a xs H Q) := by
  intro pins s σ H xs us Q I r h
  obtain ⟨D, rfl, rfl, C, h⟩ := h
  exact call_isE C hz hf pins s σ H xs us Q I r h
/-- a def of the module: where it stands, how it binds, its name -/
structure Dfn (K : PySem.W.Frag) (mg : Str → Option Value) (x : Str) (st : Stmt) (ps : List Str) (f : Addr) (fd : FuncData) : Prop where
  F : Fun K x x st f fd
  b : Binds K fd ps []
  m : mg x = some (.ref f)
theorem at_map {ns : List Int} {j : Nat} {v : Int} (h : ns[j]? = some v) : (ns.map V.int)[j]? = some (V.int v) := by
  rw [List.getElem?_map, h] <;> rfl
theorem of_at_map {ns : List Int} {j : Nat} {y : V} (h : (ns.map V.int)[j]? = some y) : ∃ v, y = V.int v ∧ ns[j]? = some v := by
  rw [List.getElem?_map] at h
  cases e : ns[j]? with
  | none =>
    rw [e] at h
    cases h
  | some v =>
    rw [e] at h
    exact ⟨v, (Option.some.inj h).symm, rfl⟩
theorem sz {n : Nat} (h : n ≤ 100000) : n ≤ sizeLine := Nat.le_trans h (by decide)
theorem szl {n : Nat} (h : n < 100000) : n < sizeLine := Nat.lt_of_lt_of_le h (by decide)
theorem iteB {A B : Prop} {b : Bool} (h1 : b = true → A) (h2 : b = false → B) : if b = true then A else B := by
  cases b with
  | true => exact iteT (h1 rfl)
  | false => exact iteF (h2 rfl)
/-- behind a statement with several ways: what holds there in all of them -/
theorem with_rest {t u : TS} {D : Ends} {σ : L2.St} {H : Hp} (M : L2.St → Hp → Prop) (h2 : ∀ σ' H', M σ' H' → u D σ' H') (h1 : (∀ σ' H', M σ' H' → u D σ' H') → t { D with nx := u D } σ H) : tSeq t u D σ H := h1 h2
theorem nx_to {i : Nat} {v : V} {σ : L2.St} {H : Hp} {Q : L2.St → Hp → Prop} (h : Q (σ.set i (some v)) H) : gName i v σ H Q := h
theorem next_to {D : Ends} {σ : L2.St} {H : Hp} (h : D.nx σ H) : tNext D σ H := h
theorem seq_to {t u : TS} {D : Ends} {σ : L2.St} {H : Hp} (h : t { D with nx := u D } σ H) : tSeq t u D σ H := h
theorem asg_to {te : TE} {g : TG} {D : Ends} {σ : L2.St} {H : Hp} (h : te σ H fun x H1 => g x σ H1 D.nx) : tAsg te g D σ H := h
theorem op_to {r : R2} {ta tb : TE} {σ : L2.St} {H : Hp} {Q : VK} (h : ta σ H fun x H1 => tb σ H1 fun y H2 => r x y H2 Q) : tOp r ta tb σ H Q := h
theorem sq_ix {K : PySem.W.Frag} {H : Hp} {a : Addr} {xs : List V} {i : Int} {v : V} {Q : VK} (h : Sq K H a xs) (ha : atI xs i = some v) (q : Q v H) : rIx K (.ref a) (.int i) H Q := by
  rcases h with h | h
  · exact .inl ⟨a, xs, i, v, rfl, rfl, h, ha, q⟩
  · exact .inr (.inl ⟨a, xs, i, v, rfl, rfl, h, ha, q⟩)
end Sd

namespace Sd
open PySem PySem.Spec PyProof.Rows L2
set_option linter.all false
/-- a method: where it stands, how it binds -/
structure Mth (K : PySem.W.Frag) (C : Addr) (x q : Str) (st : Stmt) (ps : List Str) (f : Addr) (fd : FuncData) : Prop where
  F : Fun K x q st f fd
  b : Binds K fd ps []
  m : Meth K C x f
/-- an instance's __init__ -/
structure Mki (K : PySem.W.Frag) (C : Addr) (q : Str) (st : Stmt) (ps : List Str) (f : Addr) (fd : FuncData) : Prop where
  F : Fun K "__init__" q st f fd
  b : Binds K fd ps []
  m : Mk K C f
/-- an error's __init__ -/
structure Ini (K : PySem.W.Frag) (C : Addr) (q : Str) (st : Stmt) (ps : List Str) (f : Addr) (fd : FuncData) : Prop where
  F : Fun K "__init__" q st f fd
  b : Binds K fd ps []
  i : PySem.W.findIn K (.ref C) "__init__" = some (some (.ref f))
  t : PySem.W.typeIn K (.ref f) = some (.type "function")
/-- an error's class with such an __init__ -/
structure OxF (K : PySem.W.Frag) (mg : Str → Option Value) (x n : Str) (C : Addr) : Prop where
  g : mg x = some (.ref C)
  o : OexC K C
  no : PySem.W.findIn K (.ref C) n = some none
  e : PySem.W.exmOne K (.ref C) (.ref C) = some true
/-! ### the places -/
def top (i : Nat) : Stmt := PySem.Challenge.pw_spiraldue_k11_values_of_wrong_kinds.main.body.getD i (.Pass ⟨0, 0, 0, 0⟩)
abbrev s_NameTaken___init : Stmt := inClass (top 7) 0
abbrev s_NoSuchName___init : Stmt := inClass (top 8) 0
abbrev s_is_between : Stmt := top 18
abbrev s_is_name : Stmt := top 19
abbrev s_check_name : Stmt := top 20
abbrev s_check_known : Stmt := top 21
abbrev s_is_entry : Stmt := top 22
abbrev s_is_panel : Stmt := top 23
abbrev s_check_panel : Stmt := top 24
abbrev s_is_cover : Stmt := top 29
abbrev s_check_cover : Stmt := top 30
abbrev s_recovery : Stmt := top 31
abbrev s_programme : Stmt := top 32
abbrev s_allocate : Stmt := top 34
abbrev s_active_covers : Stmt := top 38
abbrev s_cede : Stmt := top 39
abbrev s_treaty_payments : Stmt := top 40
abbrev s_panel_parts : Stmt := top 41
abbrev s_next_gross : Stmt := top 42
abbrev s_rounds_to_end : Stmt := top 43
abbrev s_check_new_name : Stmt := top 46
abbrev s_check_placed : Stmt := top 47
abbrev s_direct_losses : Stmt := top 48
abbrev s_Market___init : Stmt := inClass (top 49) 3
abbrev s_Market_add_insurer : Stmt := inClass (top 49) 4
abbrev s_Market_add_event : Stmt := inClass (top 49) 5
abbrev s_Market_add_treaty : Stmt := inClass (top 49) 6
abbrev s_Market_set_loss : Stmt := inClass (top 49) 8
abbrev s_Market_direct : Stmt := inClass (top 49) 9
abbrev s_Market__check_ends : Stmt := inClass (top 49) 11
abbrev s_law_cell : Stmt := top 51
abbrev s_law_is_integer : Stmt := top 52
abbrev s_law_same : Stmt := top 53
abbrev s_law_kind : Stmt := top 54
abbrev s_law : Stmt := top 55
structure Tx (K : PySem.W.Frag) (mg : Str → Option Value) (C_BadName C_BadCover C_BadPanel C_BadAmount C_NameTaken C_NoSuchName C_Twice C_OwnPanel C_TooMany C_NoEnd C_Market : Addr) : Prop where
  isinstance : mg "isinstance" = none
  bool : mg "bool" = none
  int : mg "int" = none
  str : mg "str" = none
  len : mg "len" = none
  all : mg "all" = none
  tuple : mg "tuple" = none
  sum : mg "sum" = none
  min : mg "min" = none
  max : mg "max" = none
  divmod : mg "divmod" = none
  enumerate : mg "enumerate" = none
  zip : mg "zip" = none
  range : mg "range" = none
  any : mg "any" = none
  set : mg "set" = none
  list : mg "list" = none
  g_MOST_LETTERS : ∃ t, mg "MOST_LETTERS" = some (Value.int 12 t)
  g_LETTERS : ∃ t, mg "LETTERS" = some (Value.str "abcdefghijklmnopqrstuvwxyz" t)
  g_MOST_SHARES : ∃ t, mg "MOST_SHARES" = some (Value.int 100 t)
  g_MOST_ENTRIES : ∃ t, mg "MOST_ENTRIES" = some (Value.int 6 t)
  g_WHOLE : ∃ t, mg "WHOLE" = some (Value.int 1000 t)
  g_MOST_RETENTION : ∃ t, mg "MOST_RETENTION" = some (Value.int 100000 t)
  g_MOST_LIMIT : ∃ t, mg "MOST_LIMIT" = some (Value.int 100000 t)
  g_LAST_ROUND : ∃ t, mg "LAST_ROUND" = some (Value.int 200 t)
  g_MOST_GROSS : ∃ t, mg "MOST_GROSS" = some (Value.int 1000000000 t)
  g_MOST_DIRECT : ∃ t, mg "MOST_DIRECT" = some (Value.int 100000 t)
  ox_NameTaken : OxF K mg "NameTaken" "name" C_NameTaken
  ox_NoSuchName : OxF K mg "NoSuchName" "name" C_NoSuchName
  cl_Market : Cls K C_Market
  m_Market : mg "Market" = some (.ref C_Market)
  no_Market_insurers : NoAttr K C_Market "insurers"
  no_Market_events : NoAttr K C_Market "events"
  no_Market_treaties : NoAttr K C_Market "treaties"
  no_Market_losses : NoAttr K C_Market "losses"
  con_Market_MOST_INSURERS : ∃ u, Con K C_Market "MOST_INSURERS" (.int 6) u
  con_Market_MOST_EVENTS : ∃ u, Con K C_Market "MOST_EVENTS" (.int 3) u
  con_Market_MOST_TREATIES : ∃ u, Con K C_Market "MOST_TREATIES" (.int 16) u
  exc_BadName : ExF K mg "BadName" C_BadName
  isx_BadName : ExcC K C_BadName
  exc_BadCover : ExF K mg "BadCover" C_BadCover
  isx_BadCover : ExcC K C_BadCover
  exc_BadPanel : ExF K mg "BadPanel" C_BadPanel
  isx_BadPanel : ExcC K C_BadPanel
  exc_BadAmount : ExF K mg "BadAmount" C_BadAmount
  isx_BadAmount : ExcC K C_BadAmount
  exc_Twice : ExF K mg "Twice" C_Twice
  exc_OwnPanel : ExF K mg "OwnPanel" C_OwnPanel
  exc_TooMany : ExF K mg "TooMany" C_TooMany
  exc_NoEnd : ExF K mg "NoEnd" C_NoEnd
  exCN : PySem.W.exmOne K (.ref C_BadCover) (.ref C_BadName) = some false
  exPN : PySem.W.exmOne K (.ref C_BadPanel) (.ref C_BadName) = some false
  exPC : PySem.W.exmOne K (.ref C_BadPanel) (.ref C_BadCover) = some false
  exAN : PySem.W.exmOne K (.ref C_BadAmount) (.ref C_BadName) = some false
  exAC : PySem.W.exmOne K (.ref C_BadAmount) (.ref C_BadCover) = some false
  exAP : PySem.W.exmOne K (.ref C_BadAmount) (.ref C_BadPanel) = some false
theorem sc_NameTaken___init : FnScope ["self", "name"] ["self", "name"] (defScope s_NameTaken___init) := ⟨rfl, rfl, rfl, by decide +kernel, rfl, by decide +kernel, by decide +kernel⟩
theorem sc_NoSuchName___init : FnScope ["self", "name"] ["self", "name"] (defScope s_NoSuchName___init) := ⟨rfl, rfl, rfl, by decide +kernel, rfl, by decide +kernel, by decide +kernel⟩
theorem sc_is_between : FnScope ["value", "low", "high"] ["value", "low", "high"] (defScope s_is_between) := ⟨rfl, rfl, rfl, by decide +kernel, rfl, by decide +kernel, by decide +kernel⟩
theorem sc_is_name : FnScope ["value", "letter"] ["value"] (defScope s_is_name) := ⟨rfl, rfl, rfl, by decide +kernel, rfl, by decide +kernel, by decide +kernel⟩
theorem sc_check_name : FnScope ["value"] ["value"] (defScope s_check_name) := ⟨rfl, rfl, rfl, by decide +kernel, rfl, by decide +kernel, by decide +kernel⟩
theorem sc_check_known : FnScope ["name", "names"] ["name", "names"] (defScope s_check_known) := ⟨rfl, rfl, rfl, by decide +kernel, rfl, by decide +kernel, by decide +kernel⟩
theorem sc_is_entry : FnScope ["value", "participant", "shares"] ["value"] (defScope s_is_entry) := ⟨rfl, rfl, rfl, by decide +kernel, rfl, by decide +kernel, by decide +kernel⟩
theorem sc_is_panel : FnScope ["value", "entry", "_", "shares"] ["value"] (defScope s_is_panel) := ⟨rfl, rfl, rfl, by decide +kernel, rfl, by decide +kernel, by decide +kernel⟩
theorem sc_check_panel : FnScope ["value"] ["value"] (defScope s_check_panel) := ⟨rfl, rfl, rfl, by decide +kernel, rfl, by decide +kernel, by decide +kernel⟩
theorem sc_is_cover : FnScope ["value", "word", "numbers"] ["value"] (defScope s_is_cover) := ⟨rfl, rfl, rfl, by decide +kernel, rfl, by decide +kernel, by decide +kernel⟩
theorem sc_check_cover : FnScope ["value"] ["value"] (defScope s_check_cover) := ⟨rfl, rfl, rfl, by decide +kernel, rfl, by decide +kernel, by decide +kernel⟩
theorem sc_recovery : FnScope ["cover", "loss", "_", "retention", "limit"] ["cover", "loss"] (defScope s_recovery) := ⟨rfl, rfl, rfl, by decide +kernel, rfl, by decide +kernel, by decide +kernel⟩
theorem sc_programme : FnScope ["covers", "loss", "paid", "rest", "cover", "amount"] ["covers", "loss"] (defScope s_programme) := ⟨rfl, rfl, rfl, by decide +kernel, rfl, by decide +kernel, by decide +kernel⟩
theorem sc_allocate : FnScope ["amount", "shares", "cycles", "rest", "parts", "share", "extra"] ["amount", "shares"] (defScope s_allocate) := ⟨rfl, rfl, rfl, by decide +kernel, rfl, by decide +kernel, by decide +kernel⟩
theorem sc_active_covers : FnScope ["treaties", "cedent", "number", "owner", "cover", "_", "ended"] ["treaties", "cedent"] (defScope s_active_covers) := ⟨rfl, rfl, rfl, by decide +kernel, rfl, by decide +kernel, by decide +kernel⟩
theorem sc_cede : FnScope ["treaties", "cedent", "loss", "covers", "amounts", "net", "_", "cover", "number", "amount"] ["treaties", "cedent", "loss"] (defScope s_cede) := ⟨rfl, rfl, rfl, by decide +kernel, rfl, by decide +kernel, by decide +kernel⟩
theorem sc_treaty_payments : FnScope ["insurers", "treaties", "gross", "paid", "cedent", "loss", "amounts", "_", "number", "amount"] ["insurers", "treaties", "gross"] (defScope s_treaty_payments) := ⟨rfl, rfl, rfl, by decide +kernel, rfl, by decide +kernel, by decide +kernel⟩
theorem sc_panel_parts : FnScope ["panel", "amount", "_", "shares"] ["panel", "amount"] (defScope s_panel_parts) := ⟨rfl, rfl, rfl, by decide +kernel, rfl, by decide +kernel, by decide +kernel⟩
theorem sc_next_gross : FnScope ["insurers", "treaties", "direct", "gross", "losses", "paid", "cedent", "cover", "panel", "ended", "amount", "participant", "_", "part", "insurer", "loss"] ["insurers", "treaties", "direct", "gross"] (defScope s_next_gross) := ⟨rfl, rfl, rfl, by decide +kernel, rfl, by decide +kernel, by decide +kernel⟩
theorem sc_rounds_to_end : FnScope ["insurers", "treaties", "direct", "rows", "_", "behind", "loss"] ["insurers", "treaties", "direct"] (defScope s_rounds_to_end) := ⟨rfl, rfl, rfl, by decide +kernel, rfl, by decide +kernel, by decide +kernel⟩
theorem sc_check_new_name : FnScope ["name", "names", "most"] ["name", "names", "most"] (defScope s_check_new_name) := ⟨rfl, rfl, rfl, by decide +kernel, rfl, by decide +kernel, by decide +kernel⟩
theorem sc_check_placed : FnScope ["cedent", "panel", "insurers", "participants", "participant", "_"] ["cedent", "panel", "insurers"] (defScope s_check_placed) := ⟨rfl, rfl, rfl, by decide +kernel, rfl, by decide +kernel, by decide +kernel⟩
theorem sc_direct_losses : FnScope ["insurers", "losses", "event", "insurer"] ["insurers", "losses", "event"] (defScope s_direct_losses) := ⟨rfl, rfl, rfl, by decide +kernel, rfl, by decide +kernel, by decide +kernel⟩
theorem sc_Market___init : FnScope ["self"] ["self"] (defScope s_Market___init) := ⟨rfl, rfl, rfl, by decide +kernel, rfl, by decide +kernel, by decide +kernel⟩
theorem sc_Market_add_insurer : FnScope ["self", "name"] ["self", "name"] (defScope s_Market_add_insurer) := ⟨rfl, rfl, rfl, by decide +kernel, rfl, by decide +kernel, by decide +kernel⟩
theorem sc_Market_add_event : FnScope ["self", "name"] ["self", "name"] (defScope s_Market_add_event) := ⟨rfl, rfl, rfl, by decide +kernel, rfl, by decide +kernel, by decide +kernel⟩
theorem sc_Market_add_treaty : FnScope ["self", "cedent", "cover", "panel", "number", "treaties"] ["self", "cedent", "cover", "panel"] (defScope s_Market_add_treaty) := ⟨rfl, rfl, rfl, by decide +kernel, rfl, by decide +kernel, by decide +kernel⟩
theorem sc_Market_set_loss : FnScope ["self", "event", "insurer", "amount", "losses", "key"] ["self", "event", "insurer", "amount"] (defScope s_Market_set_loss) := ⟨rfl, rfl, rfl, by decide +kernel, rfl, by decide +kernel, by decide +kernel⟩
theorem sc_Market_direct : FnScope ["self", "event"] ["self", "event"] (defScope s_Market_direct) := ⟨rfl, rfl, rfl, by decide +kernel, rfl, by decide +kernel, by decide +kernel⟩
theorem sc_Market__check_ends : FnScope ["self", "treaties", "losses", "event"] ["self", "treaties", "losses"] (defScope s_Market__check_ends) := ⟨rfl, rfl, rfl, by decide +kernel, rfl, by decide +kernel, by decide +kernel⟩
theorem sc_law_cell : FnScope ["script", "k"] ["script", "k"] (defScope s_law_cell) := ⟨rfl, rfl, rfl, by decide +kernel, rfl, by decide +kernel, by decide +kernel⟩
theorem sc_law_is_integer : FnScope ["actual"] ["actual"] (defScope s_law_is_integer) := ⟨rfl, rfl, rfl, by decide +kernel, rfl, by decide +kernel, by decide +kernel⟩
theorem sc_law_same : FnScope ["actual", "expected", "k"] ["actual", "expected"] (defScope s_law_same) := ⟨rfl, rfl, rfl, by decide +kernel, rfl, by decide +kernel, by decide +kernel⟩
theorem sc_law_kind : FnScope ["market", "deed"] ["market", "deed"] (defScope s_law_kind) := ⟨rfl, rfl, rfl, by decide +kernel, rfl, by decide +kernel, by decide +kernel⟩
theorem sc_law : FnScope ["script", "market", "names", "name", "panels", "panel", "amount", "cover", "good", "one", "deeds", "deed", "due", "full", "k"] ["script"] (defScope s_law) := ⟨rfl, rfl, rfl, by decide +kernel, rfl, by decide +kernel, by decide +kernel⟩
/-! ### C1. a cell of the script -/
def cell (ns : List Int) (j : Nat) : Int := ns.getD j 0
theorem cell_in {ns : List Int} {j : Nat} (h : j < ns.length) : ns[j]? = some (cell ns j) := by
  unfold cell
  rw [List.getElem?_eq_getElem h, List.getD_eq_getElem?_getD, List.getElem?_eq_getElem h]
  rfl
theorem cell_out {ns : List Int} {j : Nat} (h : ¬ j < ns.length) : cell ns j = 0 := by
  unfold cell
  rw [List.getD_eq_getElem?_getD, List.getElem?_eq_none (by omega)]
  rfl
def sp_law_cell (K : PySem.W.Frag) : Sp := fun vs H Q _ => ∃ (a : Addr) (ns : List Int) (j : Nat), vs = [.ref a, .int (j : Int)] ∧ SqL K H a (ns.map V.int) ∧ Q (.int (cell ns j)) H
/-! ### C2. digits of a cell: as many as are asked, each from 0 to 59 -/
def Digs (n : Nat) (ds : List Int) : Prop := ds.length = n ∧ ∀ x ∈ ds, 0 ≤ x ∧ x < 60
def sp_law_draws (K : PySem.W.Frag) : Sp := fun vs H Q _ => ∃ (c : Int) (n : Nat), vs = [.int c, .int (n : Int)] ∧ n ≤ 60 ∧
  ∀ (o : Addr) (H' : Hp) (ds : List Int), Same H H' → H o = none → H' o = some (.lst (ds.map V.int)) → Digs n ds → Q (.ref o) H'
theorem digs_add {ds : List Int} {z : Int} (h : ∀ x ∈ ds, 0 ≤ x ∧ x < 60) : ∀ x ∈ ds ++ [z % 60], 0 ≤ x ∧ x < 60 := by
  intro x hx
  rcases List.mem_append.mp hx with hx | hx
  · exact h x hx
  · have e := List.mem_singleton.mp hx
    omega
/-! ### C3. a stream of digits: the digits and the place; only the place changes -/
structure Strm (s p : Addr) (H : Hp) : Prop where
  ex : ∃ (d : Addr) (ds : List Int) (n : Nat), H s = some (.lst [.ref d, .ref p]) ∧ H d = some (.lst (ds.map V.int)) ∧ 0 < ds.length ∧ H p = some (.lst [.int (n : Int)]) ∧ s ≠ p ∧ d ≠ p
theorem Strm.same {s p : Addr} {H H' : Hp} (S : Strm s p H) (e : Same H H') : Strm s p H' := by
  obtain ⟨d, ds, n, a1, a2, a3, a4, a5, a6⟩ := S.ex
  exact ⟨d, ds, n, e _ _ a1, e _ _ a2, a3, e _ _ a4, a5, a6⟩
theorem Strm.p {s p : Addr} {H : Hp} (S : Strm s p H) : ∃ o, H p = some o := by
  obtain ⟨d, ds, n, a1, a2, a3, a4, a5, a6⟩ := S.ex
  exact ⟨_, a4⟩
theorem Strm.ne {s p q : Addr} {H : Hp} (S : Strm s p H) (h : H q = none) : q ≠ p := by
  obtain ⟨o, e⟩ := S.p
  exact Bar.new e h
/-- the stream goes on: what was read stands, the place is a number -/
theorem Strm.go {s p : Addr} {H H' H2 : Hp} (S : Strm s p H) (b : Bar p H H') (S2 : Strm s p H2) (e : H' p = H2 p) : Strm s p H' := by
  obtain ⟨d, ds, n, a1, a2, a3, a4, a5, a6⟩ := S.ex
  obtain ⟨_, _, m, _, _, _, b4, _, _⟩ := S2.ex
  exact ⟨d, ds, m, b s _ a5 a1, b d _ a6 a2, a3, e.trans b4, a5, a6⟩
/-- an object that was new behind the stream's making is changed -/
theorem Strm.put {s p D : Addr} {H H' : Hp} {o : HO} (S : Strm s p H) (b : Bar p H H') (S2 : Strm s p H') (h : H D = none) (n : D ≠ p) : Strm s p (upd H' D o) :=
  S.go (fun c u ne q => by rw [upd_ne (ne_of_none q h)]; exact b c u ne q) S2 (upd_ne n.symm)
theorem Bar.put2 {p D : Addr} {H H' : Hp} {o : HO} (b : Bar p H H') (h : H D = none) : Bar p H (upd H' D o) := fun c u ne q => by
  rw [upd_ne (ne_of_none q h)]
  exact b c u ne q
def sp_law_stream (K : PySem.W.Frag) : Sp := fun vs H Q _ => ∃ (a : Addr) (ns : List Int) (j n : Nat), vs = [.ref a, .int (j : Int), .int (n : Int)] ∧ SqL K H a (ns.map V.int) ∧ 0 < n ∧ n ≤ 63 ∧
  ∀ (s p : Addr) (H' : Hp), Same H H' → H p = none → Strm s p H' → Q (.ref s) H'
def sp_law_next (K : PySem.W.Frag) : Sp := fun vs H Q _ => ∃ (s p : Addr) (m : Int), vs = [.ref s, .int m] ∧ 0 < m ∧ Strm s p H ∧
  ∀ (z : Int) (H' : Hp), 0 ≤ z → z < m → Bar p H H' → Strm s p H' → Q (.int z) H'
theorem mod_at {ds : List Int} {n : Nat} (h : 0 < ds.length) : ∃ v, atI (ds.map V.int) ((n : Int) % ((ds.map V.int).length : Nat)) = some (V.int v) := by
  rw [List.length_map]
  have e : (n : Int) % (ds.length : Int) = ((n % ds.length : Nat) : Int) := by omega
  have hlt : n % ds.length < ds.length := Nat.mod_lt _ h
  rw [e]
  exact ⟨ds[n % ds.length], atI_nat (at_map (List.getElem?_eq_getElem hlt))⟩
/-! ### C4. the same data -/
def dOk : Nat → PyData → Bool
  | 0, _ => false
  | _ + 1, .none => true
  | _ + 1, .bool _ => true
  | _ + 1, .int _ => true
  | _ + 1, .str _ => true
  | n + 1, .list ds => decide (ds.length ≤ 5000) && ds.all (dOk n)
  | n + 1, .tuple ds => decide (ds.length ≤ 5000) && ds.all (dOk n)
  | _ + 1, _ => false
def sp_law_is_integer (K : PySem.W.Frag) : Sp := fun vs H Q _ => ∃ i : Int, vs = [.int i] ∧ Q (.bl true) H
def sp_law_same (K : PySem.W.Frag) (n : Nat) : Sp := fun vs H Q _ => ∃ (x y : V) (d : PyData), vs = [x, y] ∧ dOk n d = true ∧ Dp K H x d ∧ Dp K H y d ∧ Q (.bl true) H
theorem DpAll.len {K : PySem.W.Frag} {H : Hp} : ∀ {xs : List V} {ds : List PyData}, DpAll K H xs ds → xs.length = ds.length
  | _, _, .nil => rfl
  | _, _, .cons _ t => congrArg Nat.succ (DpAll.len t)
theorem DpAll.get {K : PySem.W.Frag} {H : Hp} : ∀ {xs : List V} {ds : List PyData} {i : Nat} {d : PyData}, DpAll K H xs ds → ds[i]? = some d → ∃ v, xs[i]? = some v ∧ Dp K H v d
  | _, _, _, _, .nil, h => by simp at h
  | _, _, 0, _, .cons r _, h => by
    have e := Option.some.inj h
    subst e
    exact ⟨_, rfl, r⟩
  | _, _, i + 1, _, .cons _ t, h => DpAll.get (i := i) t h
theorem DpAll.ints {K : PySem.W.Frag} {H : Hp} : ∀ ns : List Int, DpAll K H (ns.map V.int) (ns.map PyData.int)
  | [] => .nil
  | n :: r => .cons (.int n) (DpAll.ints r)
theorem dOk_ints (n : Nat) (ns : List Int) : (ns.map PyData.int).all (dOk (n + 1)) = true := by
  rw [List.all_eq_true]
  intro d hd
  obtain ⟨i, _, e⟩ := List.mem_map.mp hd
  subst e
  rfl
/-- isinstance of a value by its data -/
theorem dp_ty {K : PySem.W.Frag} {H : Hp} {x : V} {d : PyData} (h : Dp K H x d) : ∃ t, TyX K H x t ∧ (match d with | .none => t = .type "NoneType" | .bool _ => t = .type "bool" | .int _ => t = .type "int" | .str _ => t = .type "str" | .list _ => t = .type "list" | .tuple _ => t = .type "tuple" | _ => True) := by
  cases h with
  | non => exact ⟨_, .base .non, rfl⟩
  | bl b => exact ⟨_, .base (.bl b), rfl⟩
  | int i => exact ⟨_, .base (.int i), rfl⟩
  | str s => exact ⟨_, .base (.str s), rfl⟩
  | lst h _ => exact ⟨_, tyx_lst h, rfl⟩
  | tup h _ => exact ⟨_, tyx_tup h, rfl⟩
/-! ### A1. the division -/
def cut2 (s r : Int) : Int := if r < s then r else s
def go (c : Int) : Int → List Int → List Int
  | _, [] => []
  | r, s :: t => (s * c + cut2 s r) :: go c (r - cut2 s r) t
def alloc (a : Int) (sh : List Int) : List Int := go (a / sh.sum) (a % sh.sum) sh
def nxt : Int → List Int → Nat
  | _, [] => 0
  | r, s :: t => if r < s then 0 else nxt (r - s) t + 1
/-- one more at the j-th -/
def bump : Nat → List Int → List Int
  | _, [] => []
  | 0, x :: t => (x + 1) :: t
  | j + 1, x :: t => x :: bump j t
theorem go_len (c : Int) : ∀ (r : Int) (sh : List Int), (go c r sh).length = sh.length
  | _, [] => rfl
  | r, s :: t => congrArg Nat.succ (go_len c _ t)
theorem alloc_len (a : Int) (sh : List Int) : (alloc a sh).length = sh.length := go_len _ _ _
theorem bump_len : ∀ (j : Nat) (xs : List Int), (bump j xs).length = xs.length
  | 0, [] => rfl
  | _ + 1, [] => rfl
  | 0, _ :: _ => rfl
  | j + 1, _ :: t => congrArg Nat.succ (bump_len j t)
theorem bump_get : ∀ (j : Nat) (xs : List Int) (k : Nat), (bump j xs)[k]? = (xs[k]?).map fun x => if k = j then x + 1 else x
  | 0, [], k => by simp [bump]
  | _ + 1, [], k => by simp [bump]
  | 0, x :: t, 0 => by simp [bump]
  | 0, x :: t, k + 1 => by
    simp only [bump, List.getElem?_cons_succ]
    cases t[k]? <;> simp
  | j + 1, x :: t, 0 => by simp [bump]
  | j + 1, x :: t, k + 1 => by
    simp only [bump, List.getElem?_cons_succ]
    rw [bump_get j t k]
    cases t[k]? <;> simp
theorem bump_set : ∀ (j : Nat) (xs : List Int) (x : Int), xs[j]? = some x → xs.set j (x + 1) = bump j xs
  | 0, [], _, h => by simp at h
  | _ + 1, [], _, h => by simp at h
  | 0, y :: t, x, h => by
    have e : y = x := Option.some.inj h
    subst e
    rfl
  | j + 1, y :: t, x, h => by
    show y :: t.set j (x + 1) = y :: bump j t
    rw [bump_set j t x h]
def Pos (sh : List Int) : Prop := ∀ s ∈ sh, 1 ≤ s
theorem Pos.tail {s : Int} {t : List Int} (h : Pos (s :: t)) : Pos t := fun x hx => h x (List.mem_cons_of_mem _ hx)
theorem Pos.head {s : Int} {t : List Int} (h : Pos (s :: t)) : 1 ≤ s := h s List.mem_cons_self
theorem Pos.sum0 : ∀ {sh : List Int}, Pos sh → 0 ≤ sh.sum
  | [], _ => by simp
  | s :: t, h => by
    have h1 := h.head
    have h2 := Pos.sum0 h.tail
    rw [List.sum_cons]
    omega
theorem Pos.sum1 {sh : List Int} (h : Pos sh) (hn : sh ≠ []) : 0 < sh.sum := by
  cases sh with
  | nil => exact absurd rfl hn
  | cons s t =>
    have h1 := h.head
    have h2 := Pos.sum0 h.tail
    rw [List.sum_cons]
    omega
theorem go_succ (c : Int) : ∀ (r : Int) (sh : List Int), Pos sh → 0 ≤ r → r < sh.sum → go c (r + 1) sh = bump (nxt r sh) (go c r sh)
  | r, [], _, h0, h1 => by
    simp at h1
    omega
  | r, s :: t, hp, h0, h1 => by
    rw [List.sum_cons] at h1
    by_cases h : r < s
    · have e2 : cut2 s r = r := by unfold cut2; rw [if_pos h]
      have e1 : cut2 s (r + 1) = r + 1 := by
        unfold cut2
        split <;> omega
      have en : nxt r (s :: t) = 0 := by
        unfold nxt
        rw [if_pos h]
      rw [en]
      show (s * c + cut2 s (r + 1)) :: go c (r + 1 - cut2 s (r + 1)) t = (s * c + cut2 s r + 1) :: go c (r - cut2 s r) t
      rw [e1, e2, Int.sub_self, Int.sub_self, Int.add_assoc]
    · have e2 : cut2 s r = s := by unfold cut2; rw [if_neg h]
      have e1 : cut2 s (r + 1) = s := by
        unfold cut2
        rw [if_neg (by omega)]
      have en : nxt r (s :: t) = nxt (r - s) t + 1 := by
        show (if r < s then 0 else nxt (r - s) t + 1) = _
        rw [if_neg h]
      rw [en]
      show (s * c + cut2 s (r + 1)) :: go c (r + 1 - cut2 s (r + 1)) t = (s * c + cut2 s r) :: bump (nxt (r - s) t) (go c (r - cut2 s r) t)
      rw [e1, e2, show r + 1 - s = (r - s) + 1 by omega, go_succ c (r - s) t hp.tail (by omega) (by omega)]
theorem go_full (c : Int) : ∀ (r : Int) (sh : List Int), Pos sh → r = sh.sum → go c r sh = go (c + 1) 0 sh
  | r, [], _, _ => rfl
  | r, s :: t, hp, hr => by
    rw [List.sum_cons] at hr
    have h1 := hp.head
    have h2 := Pos.sum0 hp.tail
    have e1 : cut2 s r = s := by
      unfold cut2
      rw [if_neg (by omega)]
    have e0 : cut2 s 0 = 0 := by
      unfold cut2
      rw [if_pos (by omega)]
    show (s * c + cut2 s r) :: go c (r - cut2 s r) t = (s * (c + 1) + cut2 s 0) :: go (c + 1) (0 - cut2 s 0) t
    rw [e1, e0, go_full c (r - s) t hp.tail (by omega), Int.mul_add, Int.mul_one, Int.add_zero, Int.sub_self]
theorem go_zero_sum (c : Int) : ∀ (r : Int) (sh : List Int), Pos sh → 0 ≤ r → r ≤ sh.sum → (go c r sh).sum = sh.sum * c + r
  | r, [], _, h0, h1 => by
    simp at h1
    have e : r = 0 := by omega
    subst e
    simp [go]
  | r, s :: t, hp, h0, h1 => by
    rw [List.sum_cons] at h1
    have h2 := Pos.sum0 hp.tail
    have h3 := hp.head
    show ((s * c + cut2 s r) :: go c (r - cut2 s r) t).sum = (s :: t).sum * c + r
    have hc : 0 ≤ r - cut2 s r ∧ r - cut2 s r ≤ t.sum := by
      unfold cut2
      split <;> omega
    rw [List.sum_cons, List.sum_cons, go_zero_sum c _ t hp.tail hc.1 hc.2, Int.add_mul]
    omega
theorem alloc_sum (a : Int) (sh : List Int) (hp : Pos sh) (hn : sh ≠ []) : (alloc a sh).sum = a := by
  have h1 := hp.sum1 hn
  have h2 := Int.emod_nonneg a (show sh.sum ≠ 0 by omega)
  have h3 := Int.emod_lt_of_pos a h1
  unfold alloc
  rw [go_zero_sum _ _ _ hp h2 (by omega)]
  exact Int.mul_ediv_add_emod a sh.sum
theorem div_succ {a S : Int} (hS : 0 < S) (h : a % S + 1 < S) : (a + 1) / S = a / S ∧ (a + 1) % S = a % S + 1 := by
  have e := Int.mul_ediv_add_emod a S
  have h0 := Int.emod_nonneg a (show S ≠ 0 by omega)
  have e2 : a + 1 = (a % S + 1) + S * (a / S) := by omega
  rw [e2, Int.add_mul_ediv_left _ _ (by omega), Int.add_mul_emod_self_left, Int.ediv_eq_zero_of_lt (by omega) h, Int.emod_eq_of_lt (by omega) h]
  omega
theorem div_wrap {a S : Int} (hS : 0 < S) (h : a % S + 1 = S) : (a + 1) / S = a / S + 1 ∧ (a + 1) % S = 0 := by
  have e := Int.mul_ediv_add_emod a S
  have e2 : a + 1 = 0 + S * (a / S + 1) := by
    rw [Int.mul_add, Int.mul_one]
    omega
  rw [e2, Int.add_mul_ediv_left _ _ (by omega), Int.add_mul_emod_self_left, Int.zero_ediv, Int.zero_emod]
  omega
/-- one unit more goes to the next one -/
theorem alloc_succ (a : Int) (sh : List Int) (hp : Pos sh) (hn : sh ≠ []) : alloc (a + 1) sh = bump (nxt (a % sh.sum) sh) (alloc a sh) := by
  have h1 := hp.sum1 hn
  have h2 := Int.emod_nonneg a (show sh.sum ≠ 0 by omega)
  have h3 := Int.emod_lt_of_pos a h1
  unfold alloc
  by_cases h : a % sh.sum + 1 < sh.sum
  · obtain ⟨e1, e2⟩ := div_succ h1 h
    rw [e1, e2, go_succ _ _ _ hp h2 h3]
  · obtain ⟨e1, e2⟩ := div_wrap h1 (show a % sh.sum + 1 = sh.sum by omega)
    rw [e1, e2, ← go_full _ (a % sh.sum + 1) _ hp (by omega), go_succ _ _ _ hp h2 h3]
theorem nxt_lt : ∀ (r : Int) (sh : List Int), r < sh.sum → 0 ≤ r → nxt r sh < sh.length
  | r, [], h, h0 => by
    simp at h
    omega
  | r, s :: t, h, h0 => by
    rw [List.sum_cons] at h
    show (if r < s then 0 else nxt (r - s) t + 1) < t.length + 1
    split
    · omega
    · have := nxt_lt (r - s) t (by omega) (by omega)
      omega
theorem alloc_zero (sh : List Int) (hp : Pos sh) : alloc 0 sh = sh.map fun _ => 0 := by
  unfold alloc
  rw [Int.zero_ediv, Int.zero_emod]
  induction sh with
  | nil => rfl
  | cons s t ih =>
    have h := hp.head
    have e0 : cut2 s 0 = 0 := by
      unfold cut2
      rw [if_pos (by omega)]
    show (s * 0 + cut2 s 0) :: go 0 (0 - cut2 s 0) t = 0 :: t.map fun _ => 0
    rw [e0, Int.mul_zero, Int.sub_self, ih hp.tail]
    rfl
theorem alloc_nonneg {a : Int} {sh : List Int} (hp : Pos sh) (h0 : 0 ≤ a) : ∀ x ∈ alloc a sh, 0 ≤ x ∧ x ≤ a := by
  by_cases hn : sh = []
  · subst hn
    intro x hx
    exact (nomatch hx)
  have pos : ∀ (c r : Int) (sh : List Int), Pos sh → 0 ≤ c → 0 ≤ r → ∀ x ∈ go c r sh, 0 ≤ x := by
    intro c r sh
    induction sh generalizing r with
    | nil =>
      intro _ _ _ x hx
      exact (nomatch hx)
    | cons s t ih =>
      intro hp hc hr x hx
      have h1 := hp.head
      have hm : 0 ≤ s * c := Int.mul_nonneg (by omega) hc
      have hcut : 0 ≤ cut2 s r ∧ 0 ≤ r - cut2 s r := by
        unfold cut2
        split <;> omega
      rcases List.mem_cons.mp hx with e | hx
      · omega
      · exact ih _ hp.tail hc hcut.2 x hx
  have hS := hp.sum1 hn
  have h1 : ∀ x ∈ alloc a sh, 0 ≤ x := pos _ _ sh hp (Int.ediv_nonneg h0 (by omega)) (Int.emod_nonneg _ (by omega))
  have le : ∀ (xs : List Int), (∀ x ∈ xs, 0 ≤ x) → 0 ≤ xs.sum ∧ ∀ x ∈ xs, x ≤ xs.sum := by
    intro xs
    induction xs with
    | nil => exact fun _ => ⟨by simp, fun x hx => nomatch hx⟩
    | cons y t ih =>
      intro h
      obtain ⟨i1, i2⟩ := ih fun x hx => h x (List.mem_cons_of_mem _ hx)
      have h2 := h y List.mem_cons_self
      rw [List.sum_cons]
      refine ⟨by omega, fun x hx => ?_⟩
      rcases List.mem_cons.mp hx with e | hx
      · omega
      · have := i2 x hx
        omega
  intro x hx
  have := (le _ h1).2 x hx
  rw [alloc_sum a sh hp hn] at this
  exact ⟨h1 x hx, this⟩
/-! ### the program's two defs -/
structure Shs (K : PySem.W.Frag) (H : Hp) (s : Addr) (sh : List Int) : Prop where
  sq : Sq K H s (sh.map V.int)
  pos : Pos sh
  ne : sh ≠ []
  sum : sh.sum ≤ 100000
theorem le_sum : ∀ {sh : List Int}, Pos sh → ∀ x ∈ sh, x ≤ sh.sum
  | [], _, x, hx => nomatch hx
  | s :: t, hp, x, hx => by
    have h1 := hp.head
    have h2 := Pos.sum0 hp.tail
    rw [List.sum_cons]
    rcases List.mem_cons.mp hx with e | hx
    · omega
    · have := le_sum hp.tail x hx
      omega
theorem len_sum : ∀ {sh : List Int}, Pos sh → (sh.length : Int) ≤ sh.sum
  | [], _ => by simp
  | s :: t, hp => by
    have h1 := hp.head
    have h2 := len_sum hp.tail
    rw [List.sum_cons, List.length_cons]
    omega
def sp_allocate (K : PySem.W.Frag) : Sp := fun vs H Q _ => ∃ (a : Int) (s : Addr) (sh : List Int), vs = [.int a, .ref s] ∧ Shs K H s sh ∧
  ∀ (p : Addr) (H' : Hp), Same H H' → H p = none → H' p = some (.tup ((alloc a sh).map V.int)) → Q (.ref p) H'
def sp_next_unit (K : PySem.W.Frag) : Sp := fun vs H Q _ => ∃ (a : Int) (s : Addr) (sh : List Int), vs = [.int a, .ref s] ∧ Shs K H s sh ∧ Q (.int ((nxt (a % sh.sum) sh : Nat) : Int)) H
theorem go_step {c r : Int} {sh : List Int} {i : Nat} {v : Int} (h : sh[i]? = some v) : go c r (sh.drop i) = (v * c + cut2 v r) :: go c (r - cut2 v r) (sh.drop (i + 1)) := by
  obtain ⟨h1, h2⟩ := List.getElem?_eq_some_iff.mp h
  rw [List.drop_eq_getElem_cons h1, h2]
  rfl
theorem nxt_step {r : Int} {sh : List Int} {i : Nat} {v : Int} (h : sh[i]? = some v) : nxt r (sh.drop i) = if r < v then 0 else nxt (r - v) (sh.drop (i + 1)) + 1 := by
  obtain ⟨h1, h2⟩ := List.getElem?_eq_some_iff.mp h
  rw [List.drop_eq_getElem_cons h1, h2]
  rfl
/-! ### V1. covers -/
inductive Cov where
  | share (p : Int)
  | layer (r l : Int)
def cvV : Cov → List V
  | .share p => [.str "share", .int p]
  | .layer r l => [.str "layer", .int r, .int l]
def CvOk : Cov → Prop
  | .share p => 1 ≤ p ∧ p ≤ 1000
  | .layer r l => 0 ≤ r ∧ r ≤ 100000 ∧ 1 ≤ l ∧ l ≤ 100000
def pays : Cov → Int → Int
  | .share p, x => p * x / 1000
  | .layer r l, x => if x ≤ r then 0 else if x - r > l then l else x - r
theorem share_layer : ¬ ("layer" : Str) = "share" := by decide +kernel
theorem pays_step {c : Cov} (h : CvOk c) (x : Int) : pays c (x + 1) = pays c x ∨ pays c (x + 1) = pays c x + 1 := by
  cases c with
  | share p =>
    obtain ⟨h1, h2⟩ := h
    show p * (x + 1) / 1000 = p * x / 1000 ∨ p * (x + 1) / 1000 = p * x / 1000 + 1
    rw [Int.mul_add, Int.mul_one]
    omega
  | layer r l =>
    obtain ⟨h1, h2, h3, h4⟩ := h
    show (if x + 1 ≤ r then 0 else if x + 1 - r > l then l else x + 1 - r) = (if x ≤ r then 0 else if x - r > l then l else x - r) ∨ (if x + 1 ≤ r then 0 else if x + 1 - r > l then l else x + 1 - r) = (if x ≤ r then 0 else if x - r > l then l else x - r) + 1
    by_cases a : x + 1 ≤ r
    · rw [if_pos a, if_pos (by omega)]
      exact .inl rfl
    · rw [if_neg a]
      by_cases b : x ≤ r
      · rw [if_pos b, if_neg (by omega)]
        right
        omega
      · rw [if_neg b]
        by_cases d : x - r > l
        · rw [if_pos d, if_pos (by omega)]
          exact .inl rfl
        · rw [if_neg d]
          by_cases e : x + 1 - r > l
          · rw [if_pos e]
            left
            omega
          · rw [if_neg e]
            right
            omega
theorem pays_range {c : Cov} (h : CvOk c) {x : Int} (h0 : 0 ≤ x) : 0 ≤ pays c x ∧ pays c x ≤ x := by
  cases c with
  | share p =>
    obtain ⟨h1, h2⟩ := h
    show 0 ≤ p * x / 1000 ∧ p * x / 1000 ≤ x
    have a : 0 ≤ p * x := Int.mul_nonneg (by omega) h0
    have b : p * x ≤ 1000 * x := Int.mul_le_mul_of_nonneg_right h2 h0
    omega
  | layer r l =>
    obtain ⟨h1, h2, h3, h4⟩ := h
    show 0 ≤ (if x ≤ r then 0 else if x - r > l then l else x - r) ∧ (if x ≤ r then 0 else if x - r > l then l else x - r) ≤ x
    by_cases b : x ≤ r
    · rw [if_pos b]
      omega
    · rw [if_neg b]
      by_cases d : x - r > l
      · rw [if_pos d]
        omega
      · rw [if_neg d]
        omega
def sp_recovery (K : PySem.W.Frag) : Sp := fun vs H Q _ => ∃ (a : Addr) (c : Cov) (x : Int), vs = [.ref a, .int x] ∧ SqT K H a (cvV c) ∧ CvOk c ∧ Q (.int (pays c x)) H
def sp_law_pays (K : PySem.W.Frag) : Sp := sp_recovery K
theorem max_min (r l x : Int) (h : 1 ≤ l) : (if l < (if (0 : Int) > x - r then 0 else x - r) then l else (if (0 : Int) > x - r then 0 else x - r)) = (if x ≤ r then 0 else if x - r > l then l else x - r) := by
  by_cases b : x ≤ r
  · rw [if_pos b]
    by_cases c : (0 : Int) > x - r
    · rw [if_pos c, if_neg (by omega)]
    · rw [if_neg c, if_neg (by omega)]
      omega
  · rw [if_neg b, if_neg (show ¬ (0 : Int) > x - r by omega)]
def sp_law_cover (K : PySem.W.Frag) : Sp := fun vs H Q _ => ∃ (s p : Addr), vs = [.ref s] ∧ Strm s p H ∧
  ∀ (t : Addr) (c : Cov) (H' : Hp), Bar p H H' → Strm s p H' → H t = none → H' t = some (.tup (cvV c)) → CvOk c → Q (.ref t) H'
/-- an item of a written list of ints at a drawn place -/
theorem pick_at {ns : List Int} {z : Int} (h0 : 0 ≤ z) (h1 : z < (ns.length : Int)) : ∃ v, v ∈ ns ∧ atI (ns.map V.int) z = some (.int v) := by
  obtain ⟨j, rfl⟩ : ∃ j : Nat, z = (j : Int) := ⟨z.toNat, by omega⟩
  have hj : j < ns.length := by omega
  exact ⟨ns[j], List.getElem_mem hj, atI_nat (at_map (List.getElem?_eq_getElem hj))⟩
/-! ### a, *b = a tuple -/
section
open PySem.W PySem.Calls
variable {prog : Program} {w : World} {A : Around} {E : Value → Shared → Prop} {s : Shared}
theorem star_items {l : Addr} {its : Array Value} {n i : Nat} {Q : List Value → Shared → Prop} (ht : IsTup s.heap l its)
    (calm : A.handled = none) (hin : i < n) (hni : n ≤ its.size + 1) (few : its.size ≤ 16384)
    (q : ∀ (h2 : Heap) (tk : Nat), (∀ b o, s.heap.get? b = some o → h2.get? b = some o) →
      Q (its.toList.take i ++ [.ref h2.objs.size] ++ (its.toList.drop i).drop (its.size + 1 - n))
        { s with heap := h2.push { cls := .type "list", data := .seq ((its.toList.drop i).take (its.size + 1 - n)).toArray }, toks := tk }) :
    wpAny (model prog w) A (unpackItems (.ref l) n (some i)) Q E s := by
  have below : l < s.heap.objs.size := by
    obtain ⟨o, e, _⟩ := ht
    exact Heap.lt_size e
  have apart : l ≠ s.heap.objs.size := Nat.ne_of_lt below
  unfold unpackItems notIterableAtAll
  refine wpAny_bind (wpAny_bind (wpAny_specialOf ht.typeIs
    slot_tuple_iter.lookup (wpAny_pure ?_)))
  rw [if_neg Bool.false_ne_true]
  refine wpAny_bind (wpAny_holding
    (iter_tuple ht ?_))
  have ahead : (its.toList.take i).length = i := by
    rw [List.length_take, Array.length_toList]
    omega
  have behind : (its.toList.drop i).length = its.size - i := by
    rw [List.length_drop, Array.length_toList]
  refine wpAny_bind (wpAny_holding (draw_tuple apart i 0 _ _
    ⟨_, Heap.get?_push_size _ rfl, rfl, rfl⟩ (ht.push _) (by omega) fun h1 at1 same1 => ?_))
  have tup1 : IsTup h1 l its :=
    (ht.push _).extBut same1.extBut apart
  rw [Nat.zero_add] at at1
  have there : ∃ o, h1.get? s.heap.objs.size = some o := by
    obtain ⟨o, e, _⟩ := at1
    exact ⟨o, e⟩
  have there2 : ∃ o, h1.get? l = some o := by
    obtain ⟨o, e, _⟩ := tup1
    exact ⟨o, e⟩
  obtain ⟨o1, e1⟩ := there
  obtain ⟨o2, e2⟩ := there2
  rw [List.drop_zero, if_neg (show ¬ (its.toList.take i).length < i by omega)]
  refine wpAny_bind (wpAny_holding (kun_collect (s := { s with heap := h1 })
    (T := "tuple_iterator") (.inr (.inr (.inr rfl)))
    (Walks.tuple (A := A.in1) calm s.heap.objs.size l apart its)
    (fun _ _ st => st.1.typeIs) (k := i) (by omega) ⟨at1, tup1⟩
    (Heap.lt_size e1) (Heap.lt_size e2) (fun h2 tk keep2 => ?_)
    (by rw [sizeLine_eq]; omega)))
  have mid : (its.toList.drop i).length - (n - 1 - i) = its.size + 1 - n := by
    omega
  show wpAny _ _ (if _ < n - 1 - i then _ else _) _ _ _
  rw [if_neg (show ¬ (its.toList.drop i).length < n - 1 - i by omega)]
  have kept : ∀ b o, s.heap.get? b = some o → h2.get? b = some o := fun b o e =>
    have nb : b ≠ s.heap.objs.size := Nat.ne_of_lt (Heap.lt_size e)
    keep2 b o nb (same1.extBut b o nb (Heap.get?_push_of_some _ e))
  show wpAny _ _ (newList _ >>= _) _ _ _
  rw [mid]
  exact wpAny_bind (wpAny_newList (wpAny_pure
    (q h2 tk kept))
    (by rw [List.length_take, sizeLine_eq]; omega))
end
def gStar (K : PySem.W.Frag) (n i : Nat) (t : TGs) : TG := fun v σ H Q => ∃ a xs, v = .ref a ∧ SqT K H a xs ∧ n ≤ xs.length + 1 ∧ xs.length ≤ 16384 ∧
  ∀ D, H D = none → t (xs.take i ++ [.ref D] ++ (xs.drop i).drop (xs.length + 1 - n)) σ (upd H D (.lst ((xs.drop i).take (xs.length + 1 - n)))) Q
section
variable {X : Cx}
theorem pgs_star {e : Expr} {es : List Expr} {p : PySem.Pos} {t : TG} {u : TGs} (h1 : PG X e t) (h2 : PGs X es u)
    (hs : (assignEach (.Starred e p :: es) X.env).map (·.2) = assign e X.env :: (assignEach es X.env).map (·.2) := by rfl) : PGs X (.Starred e p :: es) (gCons t u) := by
  refine ⟨fun pins s σ H vs us Q I r h => ?_⟩
  obtain ⟨v, vr, rfl, h⟩ := h
  cases r with
  | cons r rr =>
    rw [hs]
    exact assignInOrder_cons (thn (h1.run pins s σ H _ _ _ I r h) fun _ s1 ⟨σ1, H1, I1, q1⟩ => h2.run pins s1 σ1 H1 _ _ Q I1 rr q1)
theorem pg_star {es : List Expr} {k : Nat} {pos : PySem.Pos} {t : TGs} {n i : Nat} (hc : X.calm = true) (h : PGs X es t) (hi : i < n)
    (hn : (assignEach es X.env).length = n := by rfl) (hst : (assignEach es X.env).findIdx? (·.1) = some i := by rfl) : PG X (.Tuple es k pos) (gStar X.K n i t) := by
  refine ⟨fun pins s σ H v u Q I r hw => ?_⟩
  obtain ⟨a, xs, rfl, hq, hl, hz, hw⟩ := hw
  cases r
  obtain ⟨its, rv, ht, _⟩ := I.tuple hq
  have el := rv.length
  rw [assign_Tuple]
  refine wpAny_bind (wpAny_standAt ?_)
  unfold unpack
  rw [hn, hst]
  refine wpAny_bind (wpAny_holding (star_items ht (I.ok.hd hc) hi (by rw [List.size_toArray]; omega) (by rw [List.size_toArray]; omega) fun h2 tk kept => ?_))
  have I2 : Inv X pins σ H { s with heap := h2 } := I.kept (t' := s.toks) kept
  have nD : H h2.objs.size = none := I2.hok.fresh (Nat.le_refl _)
  have hw := hw _ nD
  have esz : its.toArray.size = xs.length := by rw [List.size_toArray]; exact el.symm
  rw [esz]
  have ok : ObjOk X.prog X.w (upd H h2.objs.size (.lst ((xs.drop i).take (xs.length + 1 - n)))) (h2.push { cls := .type "list", data := .seq ((its.drop i).take (xs.length + 1 - n)).toArray }) h2.objs.size (.lst ((xs.drop i).take (xs.length + 1 - n))) :=
    ⟨by rw [List.length_take, List.length_drop, sizeLine_eq]; omega, _, _, (rv.drop i).take _, Heap.get?_push_size _ rfl⟩
  have I3 := I2.laid (t' := tk) (fun b o e => Heap.get?_push_of_some _ e) (Nat.le_refl _) ok
  exact h.run pins _ σ _ _ _ Q I3 (((rv.take i).append (.cons (show RelV (V.ref h2.objs.size) (Value.ref h2.objs.size) from rfl) .nil)).append ((rv.drop i).drop _)) hw
end
/-! ### what is a cover -/
def btw : V → Int → Int → Bool
  | .int i, lo, hi => decide (lo ≤ i) && decide (i ≤ hi)
  | _, _, _ => false
def isCov : List V → Bool
  | [.str w, x] => decide (w = "share") && btw x 1 1000
  | [.str w, x, y] => decide (w = "layer") && (btw x 0 100000 && btw y 1 100000)
  | _ => false
/-- a value that is no cover: no tuple, or a tuple of flat things -/
def NoCov (K : PySem.W.Frag) (H : Hp) (x : V) : Prop :=
  (∃ t, TyX K H x t ∧ PySem.W.kitOne K t (.type "tuple") = some false) ∨ ∃ (a : Addr) (xs : List V), x = .ref a ∧ SqT K H a xs ∧ xs.length ≤ 1000 ∧ xs.all flatV = true ∧ isCov xs = false
/-- a value that is one -/
def IsCovV (K : PySem.W.Frag) (H : Hp) (x : V) : Prop := ∃ (a : Addr) (c : Cov), x = .ref a ∧ SqT K H a (cvV c) ∧ CvOk c
theorem isCov_cvV {c : Cov} (h : CvOk c) : isCov (cvV c) = true := by
  cases c with
  | share p =>
    obtain ⟨h1, h2⟩ := h
    show (decide (("share" : Str) = "share") && (decide (1 ≤ p) && decide (p ≤ 1000))) = true
    rw [decide_eq_true rfl, decide_eq_true h1, decide_eq_true h2]
    rfl
  | layer r l =>
    obtain ⟨h1, h2, h3, h4⟩ := h
    show (decide (("layer" : Str) = "layer") && ((decide (0 ≤ r) && decide (r ≤ 100000)) && (decide (1 ≤ l) && decide (l ≤ 100000)))) = true
    rw [decide_eq_true rfl, decide_eq_true h1, decide_eq_true h2, decide_eq_true h3, decide_eq_true h4]
    rfl
theorem cv_len (c : Cov) : (cvV c).length ≤ 1000 := by
  cases c with
  | share p => exact (show 2 ≤ 1000 by decide)
  | layer r l => exact (show 3 ≤ 1000 by decide)
theorem flat_cvV (c : Cov) : (cvV c).all flatV = true := by
  cases c <;> rfl
def sp_is_between (K : PySem.W.Frag) : Sp := fun vs H Q _ => ∃ (x : V) (lo hi : Int), vs = [x, .int lo, .int hi] ∧ flatV x = true ∧ Q (.bl (btw x lo hi)) H
def sp_is_cover (K : PySem.W.Frag) : Sp := fun vs H Q _ => ∃ x : V, vs = [x] ∧
  ((∃ t, TyX K H x t ∧ PySem.W.kitOne K t (.type "tuple") = some false ∧ Q (.bl false) H) ∨
    ∃ (a : Addr) (xs : List V), x = .ref a ∧ SqT K H a xs ∧ xs.length ≤ 1000 ∧ xs.all flatV = true ∧ ∀ H', Same H H' → Q (.bl (isCov xs)) H')
theorem ty_flat {K : PySem.W.Frag} {H : Hp} {x : V} (h : flatV x = true) : ∃ n, TyX K H x (.type n) ∧ ((n = "bool" ∧ ∃ b, x = .bl b) ∨ (n = "int" ∧ ∃ i, x = .int i) ∨ ((n = "str" ∨ n = "NoneType") ∧ ∀ lo hi, btw x lo hi = false)) := by
  cases x with
  | non => exact ⟨_, .base .non, .inr (.inr ⟨.inr rfl, fun _ _ => rfl⟩)⟩
  | bl b => exact ⟨_, .base (.bl b), .inl ⟨rfl, b, rfl⟩⟩
  | int i => exact ⟨_, .base (.int i), .inr (.inl ⟨rfl, i, rfl⟩)⟩
  | str z => exact ⟨_, .base (.str z), .inr (.inr ⟨.inl rfl, fun _ _ => rfl⟩)⟩
  | byt _ => cases h
  | flt _ => cases h
  | ref _ => cases h
  | ty _ => cases h
def sp_check_cover (K : PySem.W.Frag) (C : Addr) : Sp := fun vs H Q E => ∃ x : V, vs = [x] ∧ ((IsCovV K H x ∧ ∀ H', Same H H' → Q .non H') ∨ (NoCov K H x ∧ ∀ H', Same H H' → E (.ref C) none H'))
/-! ### programmes -/
def prog : List Cov → Int → List Int × Int
  | [], x => ([], x)
  | c :: t, x => (pays c x :: (prog t (x - pays c x)).1, (prog t (x - pays c x)).2)
theorem prog_len : ∀ (cs : List Cov) (x : Int), (prog cs x).1.length = cs.length
  | [], _ => rfl
  | _ :: t, _ => congrArg Nat.succ (prog_len t _)
theorem prog_sum : ∀ (cs : List Cov) (x : Int), (prog cs x).1.sum + (prog cs x).2 = x
  | [], x => by
    show ([] : List Int).sum + x = x
    rw [List.sum_nil]
    omega
  | c :: t, x => by
    have ih := prog_sum t (x - pays c x)
    show (pays c x :: (prog t (x - pays c x)).1).sum + (prog t (x - pays c x)).2 = x
    rw [List.sum_cons]
    omega
theorem prog_append : ∀ (cs ds : List Cov) (x : Int), prog (cs ++ ds) x = ((prog cs x).1 ++ (prog ds (prog cs x).2).1, (prog ds (prog cs x).2).2)
  | [], _, _ => rfl
  | c :: t, ds, x => by
    show (pays c x :: (prog (t ++ ds) (x - pays c x)).1, (prog (t ++ ds) (x - pays c x)).2) = _
    rw [prog_append t ds]
    rfl
def AllOk (cs : List Cov) : Prop := ∀ c ∈ cs, CvOk c
/-- by how much each pays more, and what is left, if the loss is one greater: just one is 1 -/
theorem prog_more : ∀ (cs : List Cov) (x : Int), AllOk cs → ∃ j, List.zipWith (fun a b => a - b) ((prog cs (x + 1)).1 ++ [(prog cs (x + 1)).2]) ((prog cs x).1 ++ [(prog cs x).2]) = List.replicate j 0 ++ 1 :: List.replicate (cs.length - j) 0 ∧ j ≤ cs.length
  | [], x, _ => ⟨0, by
    show [x + 1 - x] = [1]
    rw [show x + 1 - x = 1 by omega], Nat.le_refl 0⟩
  | c :: t, x, h => by
    have same : ∀ y : Int, ∀ l : List Cov, List.zipWith (fun a b => a - b) ((prog l y).1 ++ [(prog l y).2]) ((prog l y).1 ++ [(prog l y).2]) = List.replicate (l.length + 1) 0 := by
      intro y l
      have e : ∀ xs : List Int, List.zipWith (fun a b => a - b) xs xs = List.replicate xs.length 0 := by
        intro xs
        induction xs with
        | nil => rfl
        | cons z zs ih =>
          show (z - z) :: List.zipWith (fun a b => a - b) zs zs = 0 :: List.replicate zs.length 0
          rw [ih, Int.sub_self]
      rw [e, List.length_append, prog_len]
      rfl
    rcases pays_step (h c List.mem_cons_self) x with e | e
    · obtain ⟨j, hj, hle⟩ := prog_more t (x - pays c x) fun d hd => h d (List.mem_cons_of_mem _ hd)
      refine ⟨j + 1, ?_, Nat.succ_le_succ hle⟩
      show (pays c (x + 1) - pays c x) :: List.zipWith (fun a b => a - b) ((prog t (x + 1 - pays c (x + 1))).1 ++ [(prog t (x + 1 - pays c (x + 1))).2]) ((prog t (x - pays c x)).1 ++ [(prog t (x - pays c x)).2]) = 0 :: (List.replicate j 0 ++ 1 :: List.replicate (t.length + 1 - (j + 1)) 0)
      rw [e, Int.sub_self, show x + 1 - pays c x = x - pays c x + 1 by omega, hj, show t.length + 1 - (j + 1) = t.length - j by omega]
    · refine ⟨0, ?_, Nat.zero_le _⟩
      show (pays c (x + 1) - pays c x) :: List.zipWith (fun a b => a - b) ((prog t (x + 1 - pays c (x + 1))).1 ++ [(prog t (x + 1 - pays c (x + 1))).2]) ((prog t (x - pays c x)).1 ++ [(prog t (x - pays c x)).2]) = 1 :: List.replicate (t.length + 1) 0
      rw [e, show x + 1 - (pays c x + 1) = x - pays c x by omega, same, show pays c x + 1 - pays c x = 1 by omega]
/-- a list of covers stands there -/
def CovsAt (K : PySem.W.Frag) (H : Hp) (vs : List V) (cs : List Cov) : Prop := vs.length = cs.length ∧ ∀ (i : Nat) (c : Cov), cs[i]? = some c → ∃ a : Addr, vs[i]? = some (V.ref a) ∧ SqT K H a (cvV c) ∧ CvOk c
theorem CovsAt.same {K : PySem.W.Frag} {H H' : Hp} {vs : List V} {cs : List Cov} (h : CovsAt K H vs cs) (e : Same H H') : CovsAt K H' vs cs :=
  ⟨h.1, fun i c hi => let ⟨a, h1, h2, h3⟩ := h.2 i c hi; ⟨a, h1, same_sqt e h2, h3⟩⟩
theorem CovsAt.ok {K : PySem.W.Frag} {H : Hp} {vs : List V} {cs : List Cov} (h : CovsAt K H vs cs) : AllOk cs := fun c hc => by
  obtain ⟨i, hi⟩ := List.mem_iff_getElem?.mp hc
  obtain ⟨_, _, _, r⟩ := h.2 i c hi
  exact r
theorem CovsAt.get {K : PySem.W.Frag} {H : Hp} {vs : List V} {cs : List Cov} (h : CovsAt K H vs cs) {i : Nat} {y : V} (e : vs[i]? = some y) : ∃ a c, y = .ref a ∧ cs[i]? = some c ∧ SqT K H a (cvV c) ∧ CvOk c := by
  have hi := (List.getElem?_eq_some_iff.mp e).1
  have hlt : i < cs.length := by
    rw [← h.1]
    exact hi
  have hc : cs[i]? = some cs[i] := List.getElem?_eq_getElem hlt
  obtain ⟨a, h1, h2, h3⟩ := h.2 i _ hc
  rw [e] at h1
  exact ⟨a, _, Option.some.inj h1, hc, h2, h3⟩
theorem CovsAt.take {K : PySem.W.Frag} {H : Hp} {vs : List V} {cs : List Cov} (h : CovsAt K H vs cs) (n : Nat) : CovsAt K H (vs.take n) (cs.take n) := by
  refine ⟨by rw [List.length_take, List.length_take, h.1], fun i c hi => ?_⟩
  rw [List.getElem?_take] at hi ⊢
  split at hi
  · rename_i hl
    rw [if_pos hl]
    exact h.2 i c hi
  · cases hi
theorem CovsAt.drop {K : PySem.W.Frag} {H : Hp} {vs : List V} {cs : List Cov} (h : CovsAt K H vs cs) (n : Nat) : CovsAt K H (vs.drop n) (cs.drop n) := by
  refine ⟨by rw [List.length_drop, List.length_drop, h.1], fun i c hi => ?_⟩
  rw [List.getElem?_drop] at hi ⊢
  exact h.2 _ c hi
def sp_programme (K : PySem.W.Frag) : Sp := fun vs H Q _ => ∃ (s : Addr) (x : Int) (ys : List V) (cs : List Cov), vs = [.ref s, .int x] ∧ Sq K H s ys ∧ CovsAt K H ys cs ∧ cs.length ≤ 1000 ∧
  ∀ (t p : Addr) (H' : Hp), Same H H' → H' t = some (.tup ((prog cs x).1.map V.int)) → H' p = some (.tup [.ref t, .int (prog cs x).2]) → Q (.ref p) H'
theorem prog_step {cs : List Cov} {i : Nat} {c : Cov} {r : Int} (h : cs[i]? = some c) : prog (cs.drop i) r = (pays c r :: (prog (cs.drop (i + 1)) (r - pays c r)).1, (prog (cs.drop (i + 1)) (r - pays c r)).2) := by
  obtain ⟨h1, h2⟩ := List.getElem?_eq_some_iff.mp h
  rw [List.drop_eq_getElem_cons h1, h2]
  rfl
/-! ### I1. enumerate(v), whatever v is -/
section
variable {prog : Program} {w : World} {A : Around} {E : Value → Shared → Prop} {s : Shared}
set_option maxHeartbeats 1000000 in
theorem enum_new1 {v : Value} {o : Obj} {S : Heap → Prop} (B : Begins v o S) :
    Meets (Builtin.«enumerate.__new__» ⟨[.type "enumerate", v], []⟩) (fun _ R s => S s.heap ∧
      R (.ok (.ret (.ref (s.heap.push o).objs.size)))
        { s with heap := (s.heap.push o).push { cls := .type "enumerate", data := .fields #[.none, .bool false, .ref s.heap.objs.size, rawInt 0, .none, .none] } }) :=
  .of_wp fun prog w A R s h => by
    obtain ⟨hp, gs, dr, tk, os⟩ := s
    obtain ⟨src, h⟩ := h
    have hsub := sub_enumerate
    have first : ∀ {A' : Around} {E' : Value → Shared → Prop} {Q' : Value → Shared → Prop},
        Q' (.ref hp.objs.size) ⟨hp.push o, gs, dr, tk, os⟩ → wpAny (model prog w) A' (pyIter v) Q' E' ⟨hp, gs, dr, tk, os⟩ :=
      fun q => B.iter prog w _ _ ⟨hp, gs, dr, tk, os⟩ _ src q
    wp_walk using first
    refine wpAny_stack_any fun _ =>
      wpAny_pure ?_
    split
    · rename_i c _ _ _ _ _
      cases (c == Value.type "enumerate") <;>
        (wp_walk using first; exact ⟨_, rfl, h⟩)
    · wp_walk using first
      exact ⟨_, rfl, h⟩
theorem enum_begins1 {v : Value} {o : Obj} {S : Heap → Prop} {Q : Value → Shared → Prop} (B : Begins v o S) (src : S s.heap)
    (q : ∀ h', IsEnum h' (s.heap.objs.size + 1) s.heap.objs.size 0 .none → h'.get? s.heap.objs.size = some o →
      (∀ b u, s.heap.get? b = some u → h'.get? b = some u) → Q (.ref (s.heap.objs.size + 1)) { s with heap := h' }) :
    wpAny (model prog w) A (call (.type "enumerate") [v]) Q E s := by
  refine callType_new F.called_enumerate (by decide) (F.typeCall_enumerate_1 _)
    (F.newCall_enumerate_1 _) (fun obj => F.args_object_init_2 obj _) F.entry_enumerate_new (enum_new1 B) ⟨src, ?_⟩
  have size1 : (s.heap.push o).objs.size = s.heap.objs.size + 1 := Heap.size_push ..
  show _ ∧ _
  rw [size1]
  have made : IsEnum ((s.heap.push o).push { cls := .type "enumerate", data := .fields #[.none, .bool false, .ref s.heap.objs.size, rawInt 0, .none, .none] })
      (s.heap.objs.size + 1) s.heap.objs.size 0 .none := by
    have z := Heap.get?_push_size (s.heap.push o)
      (o := { cls := .type "enumerate", data := .fields #[.none, .bool false, .ref s.heap.objs.size, rawInt 0, .none, .none] }) rfl
    rw [size1] at z
    exact z
  exact ⟨⟨_, made, rfl⟩, q _ made (Heap.get?_push_of_some _ (Heap.get?_push_size _ B.free))
    fun b u e => Heap.get?_push_of_some _ (Heap.get?_push_of_some _ e)⟩
end
/-! ### I2. a list or a tuple that is walked; tp: is it a tuple -/
def SqK (tp : Bool) (K : PySem.W.Frag) (H : Hp) (a : Addr) (xs : List V) : Prop := match tp with
  | true => SqT K H a xs
  | false => SqL K H a xs
def SAt (tp : Bool) (h : Heap) (a : Addr) (its : Array Value) : Prop := match tp with
  | true => h.IsTuple a its
  | false => h.IsList a its
def SIt (tp : Bool) (h : Heap) (it a : Addr) (i : Nat) : Prop := match tp with
  | true => h.IsTupleIter it a i
  | false => h.IsListIter it a i
def sObj (tp : Bool) (a : Addr) : Obj := match tp with
  | true => { cls := .type "tuple_iterator", data := .fields #[.ref a, .int 0 0] }
  | false => { cls := .type "list_iterator", data := .fields #[.ref a, .int 0 0] }
theorem s_begins (tp : Bool) (a : Addr) (its : Array Value) : Begins (.ref a) (sObj tp a) fun h => SAt tp h a its := by
  cases tp with
  | true => exact begins_tuple a its
  | false => exact begins_list a its
theorem s_it0 {tp : Bool} {h : Heap} {it a : Addr} (e : h.get? it = some (sObj tp a)) : SIt tp h it a 0 := by
  cases tp with
  | true => exact ⟨_, e, rfl, rfl⟩
  | false => exact ⟨_, e, rfl, rfl⟩
theorem s_obj {tp : Bool} {h : Heap} {it a : Addr} {i : Nat} (x : SIt tp h it a i) : ∃ o, h.get? it = some o ∧ ∀ v, o.data ≠ .cell v := by
  cases tp with
  | true =>
    obtain ⟨o, e, _, d⟩ := x
    exact ⟨o, e, fun v q => by rw [d] at q; cases q⟩
  | false =>
    obtain ⟨o, e, _, d⟩ := x
    exact ⟨o, e, fun v q => by rw [d] at q; cases q⟩
theorem s_keep {tp : Bool} {h h' : Heap} {it a : Addr} {i : Nat} (x : SIt tp h it a i) (k : ∀ o, h.get? it = some o → h'.get? it = some o) : SIt tp h' it a i := by
  cases tp with
  | true => exact Heap.IsTupleIter.at x k
  | false => exact Heap.IsListIter.at x k
theorem s_draws {prog : Program} {w : World} {A : Around} (tp : Bool) (calm : A.handled = none) (it a : Addr) (ne : a ≠ it) (its : Array Value) :
    Draws prog w A it [it, a] its.size (fun i v => its[i]? = some v) (fun i h => SIt tp h it a i ∧ SAt tp h a its) := by
  cases tp with
  | true => exact Draws.tuple calm it a ne its
  | false => exact Draws.list calm it a ne its
section
variable {X : Cx} {pins : List (Addr × Obj)} {σ : L2.St} {H : Hp} {s : Shared}
theorem src_of {tp : Bool} {a : Addr} {xs : List V} (I : Inv X pins σ H s) (h : SqK tp X.K H a xs) : ∃ its : List Value, Vals xs its ∧ SAt tp s.heap a its.toArray ∧ a < s.heap.objs.size := by
  cases tp with
  | true =>
    obtain ⟨its, rv, p, _⟩ := I.tuple h
    obtain ⟨o, e, _⟩ := id p
    exact ⟨its, rv, p, Heap.lt_size e⟩
  | false =>
    obtain ⟨its, rv, p, _⟩ := I.list h
    exact ⟨its, rv, p.isList, p.lt⟩
theorem src_inj {tp : Bool} {a : Addr} {xs ys : List V} (I : Inv X pins σ H s) (h : SqK tp X.K H a xs) (h' : SqK tp X.K H a ys) : xs = ys := by
  cases tp with
  | true => exact I.tuple_inj h h'
  | false => exact I.list_inj h h'
/-- a turn that hands out a new pair -/
theorem item_pair {tg : Expr} {it : Addr} {fp' wr fp : List Addr} {n i : Nat} {Y : Nat → Heap → Value → Heap → Prop} {St : Nat → Heap → Prop} {E : Value → Shared → Prop} {x y : V} {tn : Nat → Heap → Prop}
    (W : GoesN X.prog X.w X.A tg it fp' wr n Y St) (I : Inv X pins σ H s) (hf : ∀ b ∈ fp, FpOk X pins H b) (hw : ∀ b ∈ wr, b ∈ fp) (old : ∀ b ∈ fp, b < s.heap.objs.size) (hi : i < n) (st : St i s.heap)
    (hY : ∀ v h', Y i s.heap v h' → ∃ T u1 u2, v = .ref T ∧ s.heap.objs.size ≤ T ∧ h'.IsTuple T #[u1, u2] ∧ RelV x u1 ∧ RelV y u2) (ht : ∀ h', St (i + 1) h' → tn (i + 1) h') :
    wpAny (model X.prog X.w) X.A (pyNext (.ref it)) (fun r s1 => ∃ u, r = some u ∧ wpAny (model X.prog X.w) X.A (letOwnedTupleGo tg (.ref it) u)
      (fun _ s2 => ∃ v H', Inv X pins σ H' s2 ∧ RelV v u ∧ (∃ T, v = .ref T ∧ H T = none ∧ H' = upd H T (.tup [x, y])) ∧ tn (i + 1) s2.heap ∧ ∀ b ∈ fp, H' b = none) E s1) E s := by
  refine W.goes i s _ E hi st fun v h' tk hy st' hk _ => ?_
  obtain ⟨T, u1, u2, rfl, big, ⟨o, ho, hc, m, hd⟩, r1, r2⟩ := hY v h' hy
  have new : ObjOk X.prog X.w (upd H T (.tup [x, y])) h' T (.tup [x, y]) := ⟨by show 2 ≤ sizeLine; decide, [u1, u2], .cons r1 (.cons r2 .nil), ⟨o, ho, hc, m, hd⟩⟩
  have J : Inv X pins σ (upd H T (.tup [x, y])) { s with heap := h', toks := tk } := I.turnedNew (t' := tk) (ch := fp) (fun b u hb e => hk b u (fun z => hb (hw b z)) e) hf big new
  refine ⟨.ref T, _, J, rfl, ⟨T, rfl, I.hok.fresh big, rfl⟩, ht _ st', fun b hb => ?_⟩
  rw [upd_ne (Nat.ne_of_lt (Nat.lt_of_lt_of_le (old b hb) big))]
  exact (hf b hb).1
theorem item_done {it : Addr} {tg : Expr} {fp' wr fp : List Addr} {n : Nat} {Y : Nat → Heap → Value → Heap → Prop} {St : Nat → Heap → Prop} {E : Value → Shared → Prop}
    (W : GoesN X.prog X.w X.A tg it fp' wr n Y St) (I : Inv X pins σ H s) (hf : ∀ b ∈ fp, FpOk X pins H b) (hw : ∀ b ∈ wr, b ∈ fp) (st : St n s.heap) :
    wpAny (model X.prog X.w) X.A (pyNext (.ref it)) (fun r s1 => r = none ∧ Inv X pins σ H s1) E s :=
  W.stops s _ E st fun h' tk hk _ => I.turnedL (t' := tk) (ch := fp) (fun b u hb e => hk b u (fun z => hb (hw b z)) e) hf
end
/-! ### I3. for i, x in enumerate(list or tuple) -/
def ItE (K : PySem.W.Frag) (tp : Bool) (a : Addr) : It :=
  ⟨fun i H => ∃ (xs : List V) (x : V), SqK tp K H a xs ∧ xs[i]? = some x,
    fun i H v H' => ∃ T x, v = .ref T ∧ H T = none ∧ H' = upd H T (.tup [.int (i : Nat), x]) ∧ ∀ xs, SqK tp K H a xs → xs[i]? = some x,
    fun i H => ∃ xs : List V, SqK tp K H a xs ∧ xs.length = i⟩
theorem turn_E {P : Program} {w : World} {K : PySem.W.Frag} {elts : List Expr} {kk : Nat} {tpos : PySem.Pos} {tp : Bool} {a e it : Addr} (h1 : e ≠ it) (h2 : e ≠ a) (h3 : a ≠ it) :
    Turn P w K (.Tuple elts kk tpos) (ItE K tp a) [e, it] e (fun i h => (∃ old, IsEnum h e it (0 + (i : Int)) old) ∧ SIt tp h it a i) where
  mem := List.mem_cons_self
  obj := fun i h st b hb => by
    obtain ⟨⟨old, he⟩, hi⟩ := st
    rcases List.mem_cons.mp hb with rfl | hb
    · exact ⟨_, he, fun v q => nomatch q⟩
    · cases List.mem_singleton.mp hb
      exact s_obj hi
  keep := fun i h h' st k => by
    obtain ⟨⟨old, he⟩, hi⟩ := st
    exact ⟨⟨old, k e List.mem_cons_self _ he⟩, s_keep hi fun o q => k it (List.mem_cons_of_mem _ List.mem_cons_self) o q⟩
  item := by
    intro X hP hw hK hc i pins s σ H E I hf st hg
    subst hP hw hK
    obtain ⟨xs, x, hq, hx⟩ := hg
    obtain ⟨its, rv, src, _⟩ := src_of I hq
    obtain ⟨u, hu, ru⟩ := rv.get hx
    have D := s_draws (prog := X.prog) (w := X.w) (A := X.A.in1) tp (I.ok.hd hc) it a h3 its.toArray
    have W := GoesN.enumFrom (elts := elts) (x1 := kk) (pos := tpos) 0 D e h1 (by simp [h1, h2]) List.mem_cons_self
    obtain ⟨⟨old, he⟩, hi⟩ := id st
    have old2 : ∀ b ∈ [e, it], b < s.heap.objs.size := fun b hb => by
      rcases List.mem_cons.mp hb with rfl | hb
      · exact Heap.lt_size he
      · cases List.mem_singleton.mp hb
        obtain ⟨o, eo, _⟩ := s_obj hi
        exact Heap.lt_size eo
    have hlt : i < its.toArray.size := by
      have := (List.getElem?_eq_some_iff.mp hu).1
      rw [List.size_toArray]
      exact this
    refine thn (item_pair (tn := fun i h => (∃ old, IsEnum h e it (0 + (i : Int)) old) ∧ SIt tp h it a i) (x := .int (i : Nat)) (y := x) W I hf (fun b hb => hb) old2 hlt ⟨st.1, st.2, src⟩ ?_ (fun h' z => (⟨z.1, z.2.1⟩ : (∃ old, IsEnum h' e it (0 + ((i + 1 : Nat) : Int)) old) ∧ SIt tp h' it a (i + 1)))) fun r s1 h => ?_
    · rintro v h' ⟨T, t, y, rfl, big, hy, hT⟩
      refine ⟨T, _, _, rfl, big, hT, ⟨t, ?_⟩, ?_⟩
      · rw [Int.zero_add]
      · have hy2 : its[i]? = some y := by simpa using hy
        rw [hu] at hy2
        cases hy2
        exact ru
    · obtain ⟨u', hr, h⟩ := h
      refine ⟨u', hr, thn h fun _ s2 h => ?_⟩
      obtain ⟨v, H', J, rvu, ⟨T, e1, e2, e3⟩, t1, t2⟩ := h
      exact ⟨v, H', J, rvu, ⟨T, x, e1, e2, e3, fun ys hys => by rw [src_inj I hys hq]; exact hx⟩, t1, t2⟩
  done := by
    intro X hP hw hK hc i pins s σ H E I hf st hg
    subst hP hw hK
    obtain ⟨xs, hq, hl⟩ := hg
    obtain ⟨its, rv, src, _⟩ := src_of I hq
    have D := s_draws (prog := X.prog) (w := X.w) (A := X.A.in1) tp (I.ok.hd hc) it a h3 its.toArray
    have W := GoesN.enumFrom (elts := elts) (x1 := kk) (pos := tpos) 0 D e h1 (by simp [h1, h2]) List.mem_cons_self
    have en : its.toArray.size = i := by rw [List.size_toArray, ← rv.length, hl]
    refine item_done W I hf (fun b hb => hb) ?_
    rw [en]
    exact ⟨st.1, st.2, src⟩
  self := fun A i s Q E st h => by
    obtain ⟨⟨old, he⟩, _⟩ := st
    exact wpAny_pyIter_enum he h
def iEnumS (K : PySem.W.Frag) (tp : Bool) (ta : TA) : TI := fun σ H R => ta σ H fun vs H1 => ∃ a xs, vs = [.ref a] ∧ SqK tp K H1 a xs ∧ R (ItE K tp a) H1
theorem pi_enumS (tp : Bool) {X : Cx} {e : Expr} {ta : TA} {p pos tpos : PySem.Pos} {elts : List Expr} {kk : Nat} (hg : Gl X "enumerate") (hm : X.mg "enumerate" = none) (ha : PA X [e] ta) (hs : starEach [e] X.env = [(false, eval e X.env)] := by rfl) :
    PI X (.Tuple elts kk tpos) (.Call (.Name "enumerate" p) [e] [] pos) (iEnumS X.K tp ta) := by
  refine ⟨fun pins s σ H R I h => ?_⟩
  refine Call_ (ld_blt I hg hm boot_enumerate (PyProof.Rows.callWith_type1 (thn (ha.run pos pins s σ H _ I h) fun us s1 ⟨vs, H1, I1, r1, q1⟩ => ?_) hs rfl))
  obtain ⟨a, xs, rfl, hq, q⟩ := q1
  cases r1 with
  | cons r rr =>
    cases rr
    cases r
    obtain ⟨its, rv, src, lt⟩ := src_of I1 hq
    refine enum_begins1 (s_begins tp a its.toArray) src fun h' he hit hk => wpAny_pyIter_enum he ?_
    have I2 : Inv X pins σ H1 { s1 with heap := h' } := I1.kept (t' := s1.toks) hk
    refine ⟨s1.heap.objs.size + 1, [s1.heap.objs.size + 1, s1.heap.objs.size], _, _, H1, rfl, I2, turn_E (tp := tp) (a := a) (Nat.succ_ne_self _) (Nat.ne_of_gt (Nat.lt_succ_of_lt lt)) (Nat.ne_of_lt lt), ⟨⟨.none, he⟩, s_it0 hit⟩, fun b hb => ?_, q⟩
    have hle : s1.heap.objs.size ≤ b := by
      rcases List.mem_cons.mp hb with rfl | hb
      · exact Nat.le_succ _
      · cases List.mem_singleton.mp hb
        exact Nat.le_refl _
    exact I1.fpOk hle (I1.hok.fresh hle)
theorem walk_E {K : PySem.W.Frag} {tp : Bool} {a : Addr} {xs : List V} : Walk (ItE K tp a) xs.length (fun H => SqK tp K H a xs) (YPair (fun i => some (.int (i : Nat))) (fun i => xs[i]?)) := by
  refine ⟨fun i H hi q => ⟨xs, xs[i], q, by simp [hi]⟩, fun H q => ⟨xs, q, rfl⟩, fun i H v H' hi q y => ?_⟩
  obtain ⟨T, x, e1, e2, e3, e4⟩ := y
  exact ⟨T, _, x, e1, e2, e3, rfl, e4 xs q⟩
/-! ### I4. for x, y in zip(list or tuple, list or tuple) -/
def ItZ (K : PySem.W.Frag) (t1 t2 : Bool) (a b : Addr) : It :=
  ⟨fun i H => ∃ (xs ys : List V) (x y : V), SqK t1 K H a xs ∧ SqK t2 K H b ys ∧ xs[i]? = some x ∧ ys[i]? = some y,
    fun i H v H' => ∃ T x y, v = .ref T ∧ H T = none ∧ H' = upd H T (.tup [x, y]) ∧ (∀ xs, SqK t1 K H a xs → xs[i]? = some x) ∧ ∀ ys, SqK t2 K H b ys → ys[i]? = some y,
    fun i H => ∃ xs ys : List V, SqK t1 K H a xs ∧ SqK t2 K H b ys ∧ min xs.length ys.length = i⟩
theorem turn_Z {P : Program} {w : World} {K : PySem.W.Frag} {elts : List Expr} {kk : Nat} {tpos : PySem.Pos} {t1 t2 : Bool} {a b z TI TO i1 i2 : Addr} (S : ZipSep2 z TI TO i1 i2 [i1, a] [i2, b]) (n1 : a ≠ i1) (n2 : b ≠ i2) :
    Turn P w K (.Tuple elts kk tpos) (ItZ K t1 t2 a b) [z, TI, TO, i1, i2] z (fun i h => IsZip h z TI TO .none ∧ IsTupOf2 h TI (.ref i1) (.ref i2) ∧ (∃ a1 a2, IsTupOf2 h TO a1 a2) ∧ SIt t1 h i1 a i ∧ SIt t2 h i2 b i) where
  mem := List.mem_cons_self
  obj := fun i h st c hc => by
    obtain ⟨hz, hTI, ⟨x, y, hTO⟩, g1, g2⟩ := st
    simp only [List.mem_cons, List.not_mem_nil, or_false] at hc
    rcases hc with rfl | rfl | rfl | rfl | rfl
    · exact ⟨_, hz, fun v q => nomatch q⟩
    · exact ⟨_, hTI, fun v q => nomatch q⟩
    · exact ⟨_, hTO, fun v q => nomatch q⟩
    · exact s_obj g1
    · exact s_obj g2
  keep := fun i h h' st k => by
    obtain ⟨hz, hTI, ⟨x, y, hTO⟩, g1, g2⟩ := st
    exact ⟨k z (by simp) _ hz, k TI (by simp) _ hTI, ⟨x, y, k TO (by simp) _ hTO⟩, s_keep g1 fun o q => k i1 (by simp) o q, s_keep g2 fun o q => k i2 (by simp) o q⟩
  item := by
    intro X hP hw hK hc i pins s σ H E I hf st hg
    subst hP hw hK
    obtain ⟨xs, ys, x, y, hqx, hqy, hx, hy⟩ := hg
    obtain ⟨its, rv, src, _⟩ := src_of I hqx
    obtain ⟨its2, rv2, src2, _⟩ := src_of I hqy
    obtain ⟨u, hu, ru⟩ := rv.get hx
    obtain ⟨u2, hu2, ru2⟩ := rv2.get hy
    have D1 := s_draws (prog := X.prog) (w := X.w) (A := X.A.in1) t1 (I.ok.hd hc) i1 a n1 its.toArray
    have D2 := s_draws (prog := X.prog) (w := X.w) (A := X.A.in1) t2 (I.ok.hd hc) i2 b n2 its2.toArray
    have W := GoesN.zip2 (elts := elts) (x1 := kk) (pos := tpos) S D1 D2
    obtain ⟨hz, hTI, ⟨x0, y0, hTO⟩, g1, g2⟩ := id st
    have old2 : ∀ c ∈ [z, TI, TO, i1, i2], c < s.heap.objs.size := fun c hc => by
      simp only [List.mem_cons, List.not_mem_nil, or_false] at hc
      rcases hc with rfl | rfl | rfl | rfl | rfl
      · exact Heap.lt_size hz
      · exact Heap.lt_size hTI
      · exact Heap.lt_size hTO
      · obtain ⟨o, eo, _⟩ := s_obj g1
        exact Heap.lt_size eo
      · obtain ⟨o, eo, _⟩ := s_obj g2
        exact Heap.lt_size eo
    have hlt : i < min its.toArray.size its2.toArray.size := by
      have e1 := (List.getElem?_eq_some_iff.mp hu).1
      have e2 := (List.getElem?_eq_some_iff.mp hu2).1
      rw [List.size_toArray, List.size_toArray]
      omega
    have sub : ∀ c ∈ [z, TO, i1, i2], c ∈ [z, TI, TO, i1, i2] := fun c hc => by
      simp only [List.mem_cons, List.not_mem_nil, or_false] at hc ⊢
      rcases hc with h | h | h | h
      · exact .inl h
      · exact .inr (.inr (.inl h))
      · exact .inr (.inr (.inr (.inl h)))
      · exact .inr (.inr (.inr (.inr h)))
    refine thn (item_pair (tn := fun i h => IsZip h z TI TO .none ∧ IsTupOf2 h TI (.ref i1) (.ref i2) ∧ (∃ a1 a2, IsTupOf2 h TO a1 a2) ∧ SIt t1 h i1 a i ∧ SIt t2 h i2 b i) (x := x) (y := y) W I hf sub old2 hlt ⟨hz, hTI, ⟨x0, y0, hTO⟩, ⟨g1, src⟩, ⟨g2, src2⟩⟩ ?_ (fun h' q => (⟨q.1, q.2.1, q.2.2.1, q.2.2.2.1.1, q.2.2.2.2.1⟩ : IsZip h' z TI TO .none ∧ IsTupOf2 h' TI (.ref i1) (.ref i2) ∧ (∃ a1 a2, IsTupOf2 h' TO a1 a2) ∧ SIt t1 h' i1 a (i + 1) ∧ SIt t2 h' i2 b (i + 1)))) fun r s1 h => ?_
    · rintro v h' ⟨T, y1, y2, rfl, big, hy1, hy2, hT⟩
      refine ⟨T, _, _, rfl, big, hT, ?_, ?_⟩
      · have e : its[i]? = some y1 := by simpa using hy1
        rw [hu] at e
        cases e
        exact ru
      · have e : its2[i]? = some y2 := by simpa using hy2
        rw [hu2] at e
        cases e
        exact ru2
    · obtain ⟨u', hr, h⟩ := h
      refine ⟨u', hr, thn h fun _ s2 h => ?_⟩
      obtain ⟨v, H', J, rvu, ⟨T, e1, e2, e3⟩, q1, q2⟩ := h
      exact ⟨v, H', J, rvu, ⟨T, x, y, e1, e2, e3, fun l hl => by rw [src_inj I hl hqx]; exact hx, fun l hl => by rw [src_inj I hl hqy]; exact hy⟩, q1, q2⟩
  done := by
    intro X hP hw hK hc i pins s σ H E I hf st hg
    subst hP hw hK
    obtain ⟨xs, ys, hqx, hqy, hl⟩ := hg
    obtain ⟨its, rv, src, _⟩ := src_of I hqx
    obtain ⟨its2, rv2, src2, _⟩ := src_of I hqy
    have D1 := s_draws (prog := X.prog) (w := X.w) (A := X.A.in1) t1 (I.ok.hd hc) i1 a n1 its.toArray
    have D2 := s_draws (prog := X.prog) (w := X.w) (A := X.A.in1) t2 (I.ok.hd hc) i2 b n2 its2.toArray
    have W := GoesN.zip2 (elts := elts) (x1 := kk) (pos := tpos) S D1 D2
    have en : min its.toArray.size its2.toArray.size = i := by rw [List.size_toArray, List.size_toArray, ← rv.length, ← rv2.length, hl]
    have sub : ∀ c ∈ [z, TO, i1, i2], c ∈ [z, TI, TO, i1, i2] := fun c hc => by
      simp only [List.mem_cons, List.not_mem_nil, or_false] at hc ⊢
      rcases hc with h | h | h | h
      · exact .inl h
      · exact .inr (.inr (.inl h))
      · exact .inr (.inr (.inr (.inl h)))
      · exact .inr (.inr (.inr (.inr h)))
    refine item_done W I hf sub ?_
    rw [en]
    obtain ⟨hz, hTI, hTO, g1, g2⟩ := st
    exact ⟨hz, hTI, hTO, ⟨g1, src⟩, ⟨g2, src2⟩⟩
  self := fun A i s Q E st h => wpAny_pyIter_zip st.1 h
def iZipS (K : PySem.W.Frag) (t1 t2 : Bool) (ta : TA) : TI := fun σ H R => ta σ H fun vs H1 => ∃ a b xs ys, vs = [.ref a, .ref b] ∧ SqK t1 K H1 a xs ∧ SqK t2 K H1 b ys ∧ R (ItZ K t1 t2 a b) H1
theorem pi_zipS (t1 t2 : Bool) {X : Cx} {e e2 : Expr} {ta : TA} {p pos tpos : PySem.Pos} {elts : List Expr} {kk : Nat} (hg : Gl X "zip") (hm : X.mg "zip" = none) (ha : PA X [e, e2] ta)
    (hs : starEach [e, e2] X.env = (false, eval e X.env) :: starEach [e2] X.env := by rfl) (hpl : (backTo pos (starEach [e2] X.env)).any (·.1) = false := by rfl) :
    PI X (.Tuple elts kk tpos) (.Call (.Name "zip" p) [e, e2] [] pos) (iZipS X.K t1 t2 ta) := by
  refine ⟨fun pins s σ H R I h => ?_⟩
  refine Call_ (ld_blt I hg hm PyProof.Rows.boot_zip (PyProof.Rows.callWith_type1 (thn (ha.run pos pins s σ H _ I h) fun us s1 ⟨vs, H1, I1, r1, q1⟩ => ?_) hs hpl))
  obtain ⟨a, b, xs, ys, rfl, hqx, hqy, q⟩ := q1
  cases r1 with
  | cons r rr =>
    cases rr with
    | cons r' rr =>
      cases rr
      cases r
      cases r'
      obtain ⟨its, rv, src, lt⟩ := src_of I1 hqx
      obtain ⟨its2, rv2, src2, lt2⟩ := src_of I1 hqy
      refine zip_begins2 (s_begins t1 a its.toArray) (s_begins t2 b its2.toArray) src src2 fun h' hz hTI hTO g1 g2 _ hk => wpAny_pyIter_zip hz ?_
      have I2 : Inv X pins σ H1 { s1 with heap := h' } := I1.kept (t' := s1.toks) hk
      have S := zip_sep2 (N := s1.heap.objs.size) (fp1 := [a]) (fp2 := [b]) (fun c hc => by cases List.mem_singleton.mp hc; exact lt) (fun c hc => by cases List.mem_singleton.mp hc; exact lt2)
      refine ⟨s1.heap.objs.size + 4, [s1.heap.objs.size + 4, s1.heap.objs.size + 2, s1.heap.objs.size + 3, s1.heap.objs.size, s1.heap.objs.size + 1], _, _, H1, rfl, I2,
        turn_Z (t1 := t1) (t2 := t2) S (Nat.ne_of_lt lt) (Nat.ne_of_lt (Nat.lt_succ_of_lt lt2)), ⟨hz, hTI, ⟨_, _, hTO⟩, s_it0 g1, s_it0 g2⟩, fun c hc => ?_, q⟩
      have hle : s1.heap.objs.size ≤ c := by
        simp only [List.mem_cons, List.not_mem_nil, or_false] at hc
        rcases hc with rfl | rfl | rfl | rfl | rfl
        · exact Nat.le_add_right _ _
        · exact Nat.le_add_right _ _
        · exact Nat.le_add_right _ _
        · exact Nat.le_refl _
        · exact Nat.le_add_right _ _
      exact I1.fpOk hle (I1.hok.fresh hle)
theorem walk_Z {K : PySem.W.Frag} {t1 t2 : Bool} {a b : Addr} {xs ys : List V} {n : Nat} (hn : n = min xs.length ys.length) :
    Walk (ItZ K t1 t2 a b) n (fun H => SqK t1 K H a xs ∧ SqK t2 K H b ys) (YPair (fun i => xs[i]?) (fun i => ys[i]?)) := by
  subst hn
  refine ⟨fun i H hi q => ?_, fun H q => ⟨xs, ys, q.1, q.2, rfl⟩, fun i H v H' hi q y => ?_⟩
  · have e1 : i < xs.length := by omega
    have e2 : i < ys.length := by omega
    exact ⟨xs, ys, xs[i], ys[i], q.1, q.2, by simp [e1], by simp [e2]⟩
  · obtain ⟨T, x, y, e1, e2, e3, e4, e5⟩ := y
    exact ⟨T, x, y, e1, e2, e3, e4 xs q.1, e5 ys q.2⟩
/-! ### O1. methods, makings; an error with one field -/
/-- a method's call in a suite that catches -/
def tMethT (C : Addr) (m : Str) (sp : Sp) (E : L2.St → XK) (ta : TE) (t : TA) : TE := fun σ H Q => ta σ H fun x H1 => ∃ a dx fs, x = .ref a ∧ H1 a = some (.ins C dx fs) ∧ fs.lookup m = none ∧ t σ H1 fun vs H2 => sp (x :: vs) H2 Q (E σ)
section
variable {X : Cx} {CX : CXT} {k : Nat} {f C : Addr} {fd : FuncData} {ps : List Str} {sp : Sp} {E : L2.St → XK} {m : Str} {pos apos : PySem.Pos} {e o : Expr} {es : List Expr} {ta : TE} {t : TA}
theorem pe_methT {pl : Sem Bool} (he : PE X o ta) (c : Cls X.K C) (hm : Meth X.K C m f) (F : FnOk X.prog X.w X.K X.mg X.base CX k f fd ps sp) (hr : Room k X.A) (hb : Binds X.K fd ps []) (hx : ∀ σ, PassesAt CX X σ (E σ)) (ha : PA X (e :: es) t)
    (hst : starEach (e :: es) X.env = (false, eval e X.env) :: starEach es X.env := by rfl) (hpl : (backTo pos (starEach es X.env)).any (·.1) = false := by rfl)
    (ht : eval (.Call (.Attribute o m apos) (e :: es) [] pos) X.env = (do
      let ov ← eval o X.env
      standAt apos.atName
      let (f, first) ← holding [ov] (getMethod ov m pl)
      callWith pos f first (backTo pos (starEach (e :: es) X.env)) (backToKw pos (keywordEach [] X.env))) := by rfl) :
    PE X (.Call (.Attribute o m apos) (e :: es) [] pos) (tMethT C m sp E ta t) := by
  refine ⟨fun pins s σ H Q I h => ?_⟩
  refine PySem.W.methodCall_KW (pl := pl) (thn (he.run pins s σ H _ I h) fun u s1 ⟨x, H1, I1, rx, a, dx, fs, ex, ea, l, q⟩ => ?_) ht
  subst ex
  obtain rfl : u = Value.ref a := rx
  refine getmeth_ok I1 ea c hm l ?_
  refine PySem.W.callWith_K (first := [.ref a]) (h₀ := X.base) I.ok.mod.kin hm.kp (thn (ha.run pos pins s1 σ H1 _ I1 q) fun us s2 ⟨vs, H2, I2, r, q2⟩ => ⟨I2.kIn, ?_⟩) hst hpl
  exact run_fnS F hr hb (hx σ) (us := .ref a :: us) (vs := .ref a :: vs) I2 (.cons rfl r) q2
end
/-- a field read where the heap's frame is written as K -/
theorem pe_fldK {X : Cx} {K : PySem.W.Frag} {e : Expr} {f : Str} {ta : TE} {pos : PySem.Pos} (hK : X.K = K) (he : PE X e ta) (hb : attributeBase e f X.env (eval e X.env) = eval e X.env) : PE X (.Attribute e f pos) (tFld K ta f) := by
  subst hK
  exact pe_fld he hb
/-- an error that is being made is given its field n -/
def sp_xi (n : Str) (C : Addr) : Sp := fun vs H Q _ => ∃ (a : Addr) (v : V), vs = [.ref a, v] ∧ H a = some (exo a C none) ∧ ∀ dx, H dx = none → dx ≠ a → Q .non (upd (upd H dx (exd dx [(n, v)])) a (exo a C (some dx)))
theorem mkO_to {n : Str} {C : Addr} {v : V} {H1 : Hp} {Q : XK} (q : ∀ d, H1 d = none → Q (.ref C) (some d) (upd H1 d (.xd [(n, v)]))) :
    [v].length ≤ 1000 ∧ ∀ a, H1 a = none → sp_xi n C (.ref a :: ([v] ++ [])) (upd H1 a (exo a C none))
      (fun u H2 => u = .non ∧ ∃ (d : Addr) (fs : List (Str × V)), H2 a = some (exo a C (some d)) ∧ H2 d = some (exd d fs) ∧ H1 d = none ∧ Q (.ref C) (some d) (upd (del H2 a) d (.xd fs))) (fun _ _ _ => False) := by
  refine ⟨(by decide : 1 ≤ 1000), fun a na => ⟨a, v, rfl, upd_same, fun dx ndx nea => ⟨rfl, dx, [(n, v)], upd_same, ?_, ?_, ?_⟩⟩⟩
  · rw [upd_ne nea, upd_same]
  · rw [upd_ne nea] at ndx
    exact ndx
  · rw [upd_ne nea] at ndx
    have e : upd (del (upd (upd (upd H1 a (exo a C none)) dx (exd dx [(n, v)])) a (exo a C (some dx))) a) dx (.xd [(n, v)]) = upd H1 dx (.xd [(n, v)]) := by
      funext b
      by_cases hb : b = dx
      · rw [hb, upd_same, upd_same]
      · rw [upd_ne hb, upd_ne hb]
        by_cases ha : b = a
        · rw [ha, del_same, na]
        · rw [del_ne ha, upd_ne ha, upd_ne hb, upd_ne ha]
    rw [e]
    exact q dx ndx
/-! ### x = {k: v for ..} -/
section
variable {X : Cx} {kx vx tg iter : Expr} {ifs : List Expr} {scope : Scope} {own : List (Str × Nat)} {pos spos py : PySem.Pos} {wi : TI} {g : TG} {tt : TT} {tk tv : TE} {i : Nat} {y : Str}
/-- in each block of the comprehension -/
abbrev Blks (X : Cx) (scope : Scope) (G : Cx → Prop) : Prop := ∀ (s : Shared) (H : Hp) (C : Addr) (cl : List (Str × Addr)) (fp : List Addr), G (X.blk s H scope (compEnvC scope cl C X.env) fp)
abbrev dcx (kx vx tg iter : Expr) (ifs : List Expr) (scope : Scope) (pos : PySem.Pos) : Expr := .DictComp kx vx [⟨tg, iter, ifs, 0⟩] scope pos
theorem sw_dict {gs : List Comprehension} {l : Nat} {env : Env} (hk : env.scope.kind = .function) (hy : env.scope.names.lookup y = some .local) (hl : (py.line == pos.line) = true) (ha : (scope.names.any fun p => p.1 == y && (p.2 == .local || p.2 == .cell)) = false) :
    swapsWith (.DictComp kx vx gs scope pos) (some (.Name y py)) l env = pure true := by
  have k1 : env.kindOf y = some .local := hy
  have k2 : env.blockKind = .function := (by unfold Env.blockKind; rw [hk]; rfl)
  unfold swapsWith
  simp only [k1, k2, ha, hl, Expr.pos]; rfl
theorem ps_setDc (hc : X.calm = true) (hN : X.N.Nodup) (hy : X.N[i]? = some y) (hyl : X.env.scope.names.lookup y = some .local) (hsw : swapsWith (dcx kx vx tg iter ifs scope pos) (some (.Name y py)) spos.line X.env = pure true) (hi : PI X tg iter wi) (ok : BlkOk X.N X.env.scope scope own)
    (hg : Blks X scope fun B => PG B tg g) (ht : Blks X scope fun B => PTs B ifs tt) (hk : Blks X scope fun B => PE B kx tk) (he : Blks X scope fun B => PE B vx tv) (hs : ∀ x, foldedSetIterable iter X.env x = pure x := by intro _; rfl) :
    PS X (.Assign [.Name y py] (dcx kx vx tg iter ifs scope pos) spos) (tAsg (tDc wi g tt tk tv (own.map (·.2))) (gName i)) := ⟨fun pins s σ H D I h => by
  rw [exec_Assign_Name_used _ _ _ _ hsw]; refine wpAny_bind (wpAny_standAt (wpAny_bind ?_))
  show wpAny _ X.A (do
    let _ ← comprehension (dcx kx vx tg iter ifs scope pos) scope X.env (firstIterPos [⟨tg, iter, ifs, 0⟩] pos) newDict false (eval iter X.env) (some (assign (.Name y py) X.env))) _ _ s
  have h1 : tDc wi g tt tk tv (own.map (·.2)) σ H (fun x H1 => gName i x σ H1 D.nx) := h
  refine wpAny_bind (thn (dc_core (Qf := fun _ t => SP X pins D .next t) hc hN I hi ok hg ht hk he hs h1 fun L C t m H1 I1 q hn fp => ?_) fun _ t hq => wpAny_pure (wpAny_pure hq))
  obtain ⟨e0, e1, e2, e3, e4, e5⟩ := fp
  show wpAny _ _ (assign (.Name y py) X.env (.ref L)) _ _ _
  refine wpAny_assign_Name (store_ok2 (v := V.ref L) I1 hN hy (.inl hyl) rfl (fun u I2 ⟨b, sb, hb⟩ => ?_) (.inr hyl))
  have ne : C ≠ b := hb.elim (fun z => by rw [z]; exact e1) fun z w => e4 y b z w.symm
  exact ⟨m, hn.sameBut sb ne, fun h3 sb3 => ⟨_, H1, I2.turned (t' := u.toks) (fun c o hcb e => (sb3.2 c hcb).trans e) e0 e1 e3 e4 e5, q⟩⟩⟩
end
/-! ### names, panels -/
/-- a comprehension into a dict over what is walked -/
theorem dc_it {J : It} {n : Nat} {G : Hp → Prop} {Y : Nat → Hp → V → Hp → Prop} (w : L2.Walk J n G Y) {g : TG} {tt : TT} {tk tv : TE} {vs : List Nat} {σ : L2.St} {H1 : Hp} {D : Addr} {Qd : Hp → Prop} (Pv : Nat → Hp → Prop) (h0 : Pv 0 (upd H1 D (.dK []))) (hG : ∀ i H, i ≤ n → Pv i H → G H)
    (hs : ∀ i x H H', i < n → Pv i H → Y i H x H' → g x (wipe σ vs) H' fun σ2 H2 => wipe σ2 vs = wipe σ vs ∧ tt σ2 H2 fun b H3 =>
      if b = true then tk σ2 H3 fun y H4 => tv σ2 H4 fun z H5 => ∃ kvs k, y = kV k ∧ H5 D = some (.dK kvs) ∧ kvs.length < sizeLine ∧ Pv (i + 1) (upd H5 D (.dK (putK kvs k z))) else Pv (i + 1) H3) (hd : ∀ H, Pv n H → Qd H) :
    ∃ W : Nat → Nat → Hp → Prop, (∃ m, W 0 m (upd H1 D (.dK []))) ∧ ∀ i m H, W i m H →
      (J.stop i H ∧ Qd H) ∨ (J.go i H ∧ ∃ Nx : Hp → Prop, (∀ H', Nx H' → ∃ m', m' < m ∧ W (i + 1) m' H') ∧ ∀ x H', J.yld i H x H' → g x (wipe σ vs) H' fun σ2 H2 => wipe σ2 vs = wipe σ vs ∧ tt σ2 H2 fun b H3 =>
        if b = true then tk σ2 H3 fun y H4 => tv σ2 H4 fun z H5 => ∃ kvs k, y = kV k ∧ H5 D = some (.dK kvs) ∧ kvs.length < sizeLine ∧ Nx (upd H5 D (.dK (putK kvs k z))) else Nx H3) := by
  refine ⟨fun i m H => m = n - i ∧ i ≤ n ∧ Pv i H, ⟨n, by simp, Nat.zero_le _, h0⟩, ?_⟩
  rintro i m H ⟨rfl, hi, p⟩
  have q := hG i H hi p
  by_cases hlt : i < n
  · exact .inr ⟨w.goes i H hlt q, Pv (i + 1), fun H' p' => ⟨n - (i + 1), by omega, rfl, hlt, p'⟩, fun x H' y => hs i x H H' hlt p (w.yields i H x H' hlt q y)⟩
  · have e : i = n := by omega
    subst e
    exact .inl ⟨w.stops H q, hd H p⟩
def lets : List Nat := ("abcdefghijklmnopqrstuvwxyz" : Str).cps.toList
/-- a name's text -/
def isNm (z : Str) : Bool := (decide (1 ≤ z.length) && decide (z.length ≤ 12)) && z.cps.toList.all fun c => decide (c ∈ lets)
/-- no text -/
def NoStr (K : PySem.W.Frag) (H : Hp) (x : V) : Prop := ∃ t, TyX K H x t ∧ PySem.W.kitOne K t (.type "str") = some false
def IsName (x : V) : Prop := ∃ z, x = .str z ∧ z.length ≤ 1000 ∧ isNm z = true
def NoName (K : PySem.W.Frag) (H : Hp) (x : V) : Prop := (∃ z, x = .str z ∧ z.length ≤ 1000 ∧ isNm z = false) ∨ NoStr K H x
def sp_is_name (K : PySem.W.Frag) : Sp := fun vs H Q _ => ∃ x : V, vs = [x] ∧ ((IsName x ∧ ∀ H', Same H H' → Q (.bl true) H') ∨ (NoName K H x ∧ ∀ H', Same H H' → Q (.bl false) H'))
def sp_check_name (K : PySem.W.Frag) (C : Addr) : Sp := fun vs H Q E => ∃ x : V, vs = [x] ∧ ((IsName x ∧ ∀ H', Same H H' → Q .non H') ∨ (NoName K H x ∧ ∀ H', Same H H' → E (.ref C) none H'))
theorem inV_str {z : Str} {ys : List Str} : inV (.str z) (ys.map V.str) = decide (z ∈ ys) := by
  unfold inV
  rw [List.any_map]
  by_cases h : z ∈ ys
  · rw [decide_eq_true h, List.any_eq_true]
    exact ⟨z, h, by simp [eqV]⟩
  · rw [decide_eq_false h, List.any_eq_false]
    intro y hy e
    refine h ?_
    have e2 : y = z := by simpa [eqV] using e
    rw [← e2]
    exact hy
theorem flat_strs (ys : List Str) : (ys.map V.str).all flatV = true := by
  rw [List.all_map, List.all_eq_true]
  intro y _
  rfl
def sp_check_known (K : PySem.W.Frag) (C : Addr) : Sp := fun vs H Q E => ∃ (z : Str) (a : Addr) (ys : List Str), vs = [.str z, .ref a] ∧ SqT K H a (ys.map V.str) ∧
  ((z ∈ ys ∧ Q .non H) ∨ (z ∉ ys ∧ ∀ d, H d = none → E (.ref C) (some d) (upd H d (.xd [("name", .str z)]))))
def sp_check_new_name (K : PySem.W.Frag) (CB CM CT : Addr) : Sp := fun vs H Q E => ∃ (x : V) (a : Addr) (ys : List Str) (n : Int), vs = [x, .ref a, .int n] ∧ SqT K H a (ys.map V.str) ∧
  ((NoName K H x ∧ ∀ H', Same H H' → E (.ref CB) none H') ∨ ∃ z, x = .str z ∧ IsName x ∧
    (((n ≤ (ys.length : Int)) ∧ ∀ H', Same H H' → E (.ref CM) none H') ∨ (¬ (n ≤ (ys.length : Int)) ∧ z ∈ ys ∧ ∀ H' d, Same H H' → H' d = some (.xd [("name", .str z)]) → E (.ref CT) (some d) H') ∨
      (¬ (n ≤ (ys.length : Int)) ∧ z ∉ ys ∧ ∀ H', Same H H' → Q .non H')))
/-- one turn of a comprehension whose items are ys -/
theorem acc_to {ys : List V} {D : Addr} {H1 H4 : Hp} {i : Nat} {y : V} (nD : H1 D = none) (sm : Same H1 H4) (hD : H4 D = some (.lst (ys.take i))) (hy : ys[i]? = some y) (hz : ys.length ≤ 100000) :
    ∃ acc, H4 D = some (.lst acc) ∧ acc.length < sizeLine ∧ (Same H1 (upd H4 D (.lst (acc ++ [y]))) ∧ upd H4 D (.lst (acc ++ [y])) D = some (.lst (ys.take (i + 1)))) := by
  have hi := (List.getElem?_eq_some_iff.mp hy).1
  refine ⟨_, hD, ?_, same_put sm nD, ?_⟩
  · rw [List.length_take]
    exact szl (by omega)
  · rw [upd_same, List.take_add_one, hy]
    rfl
theorem acc_all {ys : List V} {D : Addr} {H : Hp} {n : Nat} (hn : n = ys.length) (h : H D = some (.lst (ys.take n))) : H D = some (.lst ys) := by
  rw [h, hn, List.take_of_length_le (Nat.le_refl _)]
/-! a panel's entries -/
def optV : Option Str → V
  | none => .non
  | some z => .str z
def EntOk (e : Option Str × Int) : Prop := (∀ z, e.1 = some z → isNm z = true ∧ z.length ≤ 1000) ∧ 1 ≤ e.2 ∧ e.2 ≤ 100
def EntAt (K : PySem.W.Frag) (H : Hp) (x : V) (e : Option Str × Int) : Prop := ∃ a, x = .ref a ∧ SqT K H a [optV e.1, .int e.2]
def BadEnt (K : PySem.W.Frag) (H : Hp) (x : V) : Prop := (∃ t, TyX K H x t ∧ PySem.W.kitOne K t (.type "tuple") = some false) ∨
  ∃ (a : Addr) (xs : List V), x = .ref a ∧ SqT K H a xs ∧ xs.length ≤ 1000 ∧ (xs.length ≠ 2 ∨ ∃ p s, xs = [p, s] ∧ flatV s = true ∧ ((p ≠ .non ∧ NoName K H p) ∨ ((p = .non ∨ IsName p) ∧ btw s 1 100 = false)))
def sp_is_entry (K : PySem.W.Frag) : Sp := fun vs H Q _ => ∃ x : V, vs = [x] ∧ ((∃ e, EntAt K H x e ∧ EntOk e ∧ ∀ H', Same H H' → Q (.bl true) H') ∨ (BadEnt K H x ∧ ∀ H', Same H H' → Q (.bl false) H'))
theorem tyx_same' {K : PySem.W.Frag} {H H' : Hp} {x : V} {t : Value} (e : Same H H') (h : TyX K H x t) : TyX K H' x t := by
  cases h with
  | base b =>
    refine .base ?_
    cases b with
    | non => exact .non
    | bl y => exact .bl y
    | int i => exact .int i
    | str y => exact .str y
    | flt y => exact .flt y
    | lst ea => exact .lst (e _ _ ea)
    | frz ea => exact .frz (e _ _ ea)
    | tup ea => exact .tup (e _ _ ea)
    | dK ea => exact .dK (e _ _ ea)
    | dT ea => exact .dT (e _ _ ea)
    | ins ea cl ha hn htk hm => exact .ins (e _ _ ea) cl ha hn htk hm
  | byt b => exact .byt b
  | set ea => exact .set (e _ _ ea)
  | kList k c => exact .kList k c
  | kTuple k c => exact .kTuple k c
  | kDict k c => exact .kDict k c
  | fTuple ea => exact .fTuple (e _ _ ea)
  | fDict ea => exact .fDict (e _ _ ea)
theorem NoName.same {K : PySem.W.Frag} {H H' : Hp} {x : V} (e : Same H H') (h : NoName K H x) : NoName K H' x := by
  rcases h with h | ⟨t, ty, k⟩
  · exact .inl h
  · exact .inr ⟨t, tyx_same' e ty, k⟩
theorem EntAt.same {K : PySem.W.Frag} {H H' : Hp} {x : V} {p : Option Str × Int} (e : Same H H') (h : EntAt K H x p) : EntAt K H' x p := by
  obtain ⟨a, rfl, hS⟩ := h
  exact ⟨a, rfl, same_sqt e hS⟩
theorem BadEnt.same {K : PySem.W.Frag} {H H' : Hp} {x : V} (e : Same H H') (h : BadEnt K H x) : BadEnt K H' x := by
  rcases h with ⟨t, ty, k⟩ | ⟨a, xs, rfl, hS, hl, h⟩
  · exact .inl ⟨t, tyx_same' e ty, k⟩
  · refine .inr ⟨a, xs, rfl, same_sqt e hS, hl, ?_⟩
    rcases h with h | ⟨p, s, rfl, fs, h⟩
    · exact .inl h
    · refine .inr ⟨p, s, rfl, fs, ?_⟩
      rcases h with ⟨np, h⟩ | h
      · exact .inl ⟨np, NoName.same e h⟩
      · exact .inr h
/-! panels -/
def PanAt (K : PySem.W.Frag) (H : Hp) (x : V) (ps : List (Option Str × Int)) : Prop := ∃ (a : Addr) (xs : List V), x = .ref a ∧ SqT K H a xs ∧ xs.length = ps.length ∧ ∀ (i : Nat) e, ps[i]? = some e → ∃ y, xs[i]? = some y ∧ EntAt K H y e
structure PanOk (ps : List (Option Str × Int)) : Prop where
  lo : 1 ≤ ps.length
  hi : ps.length ≤ 6
  ent : ∀ e ∈ ps, EntOk e
  sum : (ps.map (·.2)).sum ≤ 100
theorem PanAt.same {K : PySem.W.Frag} {H H' : Hp} {x : V} {ps : List (Option Str × Int)} (e : Same H H') (h : PanAt K H x ps) : PanAt K H' x ps := by
  obtain ⟨a, xs, rfl, hS, hl, h⟩ := h
  refine ⟨a, xs, rfl, same_sqt e hS, hl, fun i p hp => ?_⟩
  obtain ⟨y, h1, h2⟩ := h i p hp
  exact ⟨y, h1, EntAt.same e h2⟩
def NoPan (K : PySem.W.Frag) (H : Hp) (x : V) : Prop := (∃ t, TyX K H x t ∧ PySem.W.kitOne K t (.type "tuple") = some false) ∨
  (∃ (a : Addr) (xs : List V) (bs : List Bool), x = .ref a ∧ SqT K H a xs ∧ xs.length ≤ 1000 ∧ (xs.length = 0 ∨ 6 < xs.length ∨
    (bs.length = xs.length ∧ bs.all id = false ∧ ∀ (i : Nat) y b, xs[i]? = some y → bs[i]? = some b → (b = true ∧ ∃ e, EntAt K H y e ∧ EntOk e) ∨ (b = false ∧ BadEnt K H y)))) ∨
  ∃ ps : List (Option Str × Int), PanAt K H x ps ∧ 1 ≤ ps.length ∧ ps.length ≤ 6 ∧ (∀ e ∈ ps, EntOk e) ∧ 100 < (ps.map (·.2)).sum
def sp_is_panel (K : PySem.W.Frag) : Sp := fun vs H Q _ => ∃ x : V, vs = [x] ∧ ((∃ ps, PanAt K H x ps ∧ PanOk ps ∧ ∀ H', Same H H' → Q (.bl true) H') ∨ (NoPan K H x ∧ ∀ H', Same H H' → Q (.bl false) H'))
def sp_check_panel (K : PySem.W.Frag) (C : Addr) : Sp := fun vs H Q E => ∃ x : V, vs = [x] ∧ ((∃ ps, PanAt K H x ps ∧ PanOk ps ∧ ∀ H', Same H H' → Q .non H') ∨ (NoPan K H x ∧ ∀ H', Same H H' → E (.ref C) none H'))
/-- a panel's entries, one by one -/
def Cls6 (K : PySem.W.Frag) (H : Hp) (xs : List V) (bs : List Bool) : Prop := bs.length = xs.length ∧ ∀ (i : Nat) y b, xs[i]? = some y → bs[i]? = some b → (b = true ∧ ∃ e, EntAt K H y e ∧ EntOk e) ∨ (b = false ∧ BadEnt K H y)
theorem cls_good {K : PySem.W.Frag} {H : Hp} {xs : List V} {ps : List (Option Str × Int)} (hl : xs.length = ps.length) (hE : ∀ (i : Nat) e, ps[i]? = some e → ∃ y, xs[i]? = some y ∧ EntAt K H y e) (hok : ∀ e ∈ ps, EntOk e) :
    Cls6 K H xs (ps.map fun _ => true) ∧ (ps.map fun _ => true).all id = true ∧ (ps.map (·.2)).length = xs.length ∧ ∀ (i : Nat) y, xs[i]? = some y → ∃ b p n, y = .ref b ∧ SqT K H b [p, .int n] ∧ (ps.map (·.2))[i]? = some n := by
  have key : ∀ (i : Nat) y, xs[i]? = some y → ∃ e, ps[i]? = some e ∧ EntAt K H y e := fun i y hy => by
    have hi := (List.getElem?_eq_some_iff.mp hy).1
    have he : ps[i]? = some ps[i] := List.getElem?_eq_getElem (by omega)
    obtain ⟨y2, h1, h2⟩ := hE i _ he
    rw [hy] at h1
    cases h1
    exact ⟨_, he, h2⟩
  refine ⟨⟨by rw [List.length_map, hl], fun i y b hy hb => ?_⟩, ?_, by rw [List.length_map, hl], fun i y hy => ?_⟩
  · obtain ⟨e, he, hA⟩ := key i y hy
    rw [List.getElem?_map, he] at hb
    cases hb
    exact .inl ⟨rfl, e, hA, hok e (List.mem_of_getElem? he)⟩
  · rw [List.all_map, List.all_eq_true]
    intro e _
    rfl
  · obtain ⟨e, he, a, rfl, hS⟩ := key i y hy
    exact ⟨a, _, _, rfl, hS, by rw [List.getElem?_map, he]; rfl⟩
/-! ### treaties -/
structure Trt where
  ced : Str
  cov : Cov
  pan : List (Option Str × Int)
  ended : Bool
structure TrtOk (t : Trt) : Prop where
  c : CvOk t.cov
  p : PanOk t.pan
def TrAt (K : PySem.W.Frag) (H : Hp) (x : V) (t : Trt) : Prop := ∃ (a vc : Addr) (vp : V), x = .ref a ∧ SqT K H a [.str t.ced, .ref vc, vp, .bl t.ended] ∧ SqT K H vc (cvV t.cov) ∧ PanAt K H vp t.pan
theorem TrAt.same {K : PySem.W.Frag} {H H' : Hp} {x : V} {t : Trt} (e : Same H H') (h : TrAt K H x t) : TrAt K H' x t := by
  obtain ⟨a, vc, vp, rfl, h1, h2, h3⟩ := h
  exact ⟨a, vc, vp, rfl, same_sqt e h1, same_sqt e h2, PanAt.same e h3⟩
/-- the values ys, one by one, are what R says of the data ls -/
def AllAt {α : Type} (R : Hp → V → α → Prop) (H : Hp) (ys : List V) (ls : List α) : Prop := ys.length = ls.length ∧ ∀ (i : Nat) l, ls[i]? = some l → ∃ y, ys[i]? = some y ∧ R H y l
section
variable {α : Type} {R : Hp → V → α → Prop} {H H' : Hp} {ys : List V} {ls : List α}
theorem AllAt.same (m : ∀ {H H' : Hp} {x : V} {t : α}, Same H H' → R H x t → R H' x t) (e : Same H H') (h : AllAt R H ys ls) : AllAt R H' ys ls :=
  ⟨h.1, fun i l hl => let ⟨y, h1, h2⟩ := h.2 i l hl; ⟨y, h1, m e h2⟩⟩
theorem AllAt.nil : AllAt R H [] [] := ⟨rfl, fun i l hl => by simp at hl⟩
theorem AllAt.add (h : AllAt R H ys ls) {y : V} {l : α} (r : R H y l) : AllAt R H (ys ++ [y]) (ls ++ [l]) := by
  refine ⟨by rw [List.length_append, List.length_append, h.1]; rfl, fun i k hk => ?_⟩
  rw [List.getElem?_append] at hk ⊢
  rw [h.1]
  by_cases hi : i < ls.length
  · rw [if_pos hi] at hk ⊢
    exact h.2 i k hk
  · rw [if_neg hi] at hk ⊢
    obtain ⟨e1, e2⟩ := List.getElem?_eq_some_iff.mp hk
    have e3 : i - ls.length = 0 := by simpa using e1
    rw [e3] at hk ⊢
    cases hk
    exact ⟨y, rfl, r⟩
theorem AllAt.get (h : AllAt R H ys ls) {i : Nat} {y : V} (hy : ys[i]? = some y) : ∃ l, ls[i]? = some l ∧ R H y l := by
  have hi := (List.getElem?_eq_some_iff.mp hy).1
  have hi2 : i < ls.length := by
    rw [← h.1]
    exact hi
  have hl : ls[i]? = some ls[i] := List.getElem?_eq_getElem hi2
  obtain ⟨y2, h1, h2⟩ := h.2 i _ hl
  rw [hy] at h1
  cases h1
  exact ⟨_, hl, h2⟩
end
theorem AllAt.imp {α : Type} {R S : Hp → V → α → Prop} {H H' : Hp} {ys : List V} {ls : List α} (h : AllAt R H ys ls) (f : ∀ y l, R H y l → S H' y l) : AllAt S H' ys ls :=
  ⟨h.1, fun i l hl => let ⟨y, h1, h2⟩ := h.2 i l hl; ⟨y, h1, f _ _ h2⟩⟩
theorem sqt_put {K : PySem.W.Frag} {H : Hp} {D a : Addr} {zs xs : List V} {o : HO} (hD : H D = some (.lst zs)) (h : SqT K H a xs) : SqT K (upd H D o) a xs := by
  rcases h with (h | ⟨u, h⟩) | h
  · refine .inl (.inl ?_)
    rw [upd_ne (fun e => by rw [e, hD] at h; cases h)]
    exact h
  · refine .inl (.inr ⟨u, ?_⟩)
    rw [upd_ne (fun e => by rw [e, hD] at h; cases h)]
    exact h
  · exact .inr h
def TrsAt (K : PySem.W.Frag) (H : Hp) (a : Addr) (ts : List Trt) : Prop := ∃ xs, SqT K H a xs ∧ AllAt (TrAt K) H xs ts
theorem TrsAt.same {K : PySem.W.Frag} {H H' : Hp} {a : Addr} {ts : List Trt} (e : Same H H') (h : TrsAt K H a ts) : TrsAt K H' a ts :=
  let ⟨xs, h1, h2⟩ := h; ⟨xs, same_sqt e h1, AllAt.same (R := TrAt K) (fun e r => TrAt.same e r) e h2⟩
/-- a cedent's covers that have not ended, each with its number -/
def actv (ced : Str) : Nat → List Trt → List (Nat × Cov)
  | _, [] => []
  | n, t :: r => if (decide (t.ced = ced) && !t.ended) = true then (n, t.cov) :: actv ced (n + 1) r else actv ced (n + 1) r
theorem actv_len (ced : Str) : ∀ (n : Nat) (ts : List Trt), (actv ced n ts).length ≤ ts.length
  | _, [] => Nat.le_refl _
  | n, t :: r => by
    have ih := actv_len ced (n + 1) r
    unfold actv
    split
    · rw [List.length_cons, List.length_cons]
      omega
    · rw [List.length_cons]
      omega
theorem actv_step {ced : Str} {ts : List Trt} {i : Nat} {t : Trt} (h : ts[i]? = some t) : actv ced i (ts.drop i) = if (decide (t.ced = ced) && !t.ended) = true then (i, t.cov) :: actv ced (i + 1) (ts.drop (i + 1)) else actv ced (i + 1) (ts.drop (i + 1)) := by
  obtain ⟨h1, h2⟩ := List.getElem?_eq_some_iff.mp h
  rw [List.drop_eq_getElem_cons h1, h2]
  rfl
theorem actv_ok {ced : Str} : ∀ {n : Nat} {ts : List Trt}, (∀ t ∈ ts, CvOk t.cov) → ∀ p ∈ actv ced n ts, CvOk p.2 ∧ p.1 < n + ts.length
  | n, [], _, p, hp => nomatch hp
  | n, t :: r, h, p, hp => by
    have ih := actv_ok (ced := ced) (n := n + 1) (ts := r) fun u hu => h u (List.mem_cons_of_mem _ hu)
    unfold actv at hp
    rw [List.length_cons]
    split at hp
    · rcases List.mem_cons.mp hp with rfl | hp
      · exact ⟨h t List.mem_cons_self, by show n < n + (r.length + 1); omega⟩
      · have := ih p hp
        exact ⟨this.1, by omega⟩
    · have := ih p hp
      exact ⟨this.1, by omega⟩
def ActAt (K : PySem.W.Frag) (H : Hp) (y : V) (p : Nat × Cov) : Prop := ∃ b vc : Addr, y = .ref b ∧ SqT K H b [.int (p.1 : Nat), .ref vc] ∧ SqT K H vc (cvV p.2)
theorem ActAt.same {K : PySem.W.Frag} {H H' : Hp} {x : V} {t : Nat × Cov} (e : Same H H') (h : ActAt K H x t) : ActAt K H' x t := by
  obtain ⟨b, vc, rfl, h1, h2⟩ := h
  exact ⟨b, vc, rfl, same_sqt e h1, same_sqt e h2⟩
theorem ActAt.put {K : PySem.W.Frag} {H : Hp} {D : Addr} {zs : List V} {o : HO} {y : V} {p : Nat × Cov} (hD : H D = some (.lst zs)) (h : ActAt K H y p) : ActAt K (upd H D o) y p := by
  obtain ⟨b, vc, rfl, h1, h2⟩ := h
  exact ⟨b, vc, rfl, sqt_put hD h1, sqt_put hD h2⟩
def sp_active_covers (K : PySem.W.Frag) : Sp := fun vs H Q _ => ∃ (a : Addr) (ts : List Trt) (ced : Str), vs = [.ref a, .str ced] ∧ TrsAt K H a ts ∧ ts.length ≤ 1000 ∧
  ∀ (o : Addr) (H' : Hp) (ys : List V), Same H H' → H' o = some (.lst ys) → AllAt (ActAt K) H' ys (actv ced 0 ts) → Q (.ref o) H'
/-! ### what a treaty pays: one cedent's programme -/
def cedeP (ced : Str) (ts : List Trt) (x : Int) : List Int × Int := prog ((actv ced 0 ts).map (·.2)) x
def pairsK (ns : List Nat) (as : List Int) : List (Key × V) := (ns.zip as).map fun p => (.inl (p.1 : Int), .int p.2)
def sp_cede (K : PySem.W.Frag) : Sp := fun vs H Q _ => ∃ (a : Addr) (ts : List Trt) (ced : Str) (x : Int), vs = [.ref a, .str ced, .int x] ∧ TrsAt K H a ts ∧ ts.length ≤ 1000 ∧ (∀ t ∈ ts, CvOk t.cov) ∧
  ∀ (p d : Addr) (H' : Hp), Same H H' → H d = none → H' d = some (.dK (pairsK ((actv ced 0 ts).map (·.1)) (cedeP ced ts x).1)) → H' p = some (.tup [.ref d, .int (cedeP ced ts x).2]) → Q (.ref p) H'
theorem pick {α : Type} {R : V → α → V → Prop} : ∀ {ys : List V} {ls : List α}, ys.length = ls.length → (∀ (i : Nat) l, ls[i]? = some l → ∃ y, ys[i]? = some y ∧ ∃ z, R y l z) →
    ∃ zs : List V, zs.length = ls.length ∧ ∀ (i : Nat) l, ls[i]? = some l → ∃ y z, ys[i]? = some y ∧ zs[i]? = some z ∧ R y l z
  | [], [], _, _ => ⟨[], rfl, fun i l hl => by simp at hl⟩
  | [], _ :: _, h, _ => by cases h
  | _ :: _, [], h, _ => by cases h
  | y :: ys, l :: ls, h, k => by
    obtain ⟨y0, e0, z, r⟩ := k 0 l rfl
    cases e0
    obtain ⟨zs, hz, k2⟩ := pick (R := R) (ys := ys) (ls := ls) (Nat.succ.inj h) fun i m hm => k (i + 1) m hm
    refine ⟨z :: zs, congrArg Nat.succ hz, fun i m hm => ?_⟩
    cases i with
    | zero =>
      cases hm
      exact ⟨y, z, rfl, rfl, r⟩
    | succ i => exact k2 i m hm
theorem actv_ge {ced : Str} : ∀ {n : Nat} {ts : List Trt}, ∀ p ∈ actv ced n ts, n ≤ p.1
  | n, [], p, hp => nomatch hp
  | n, t :: r, p, hp => by
    have ih := actv_ge (ced := ced) (n := n + 1) (ts := r)
    unfold actv at hp
    split at hp
    · rcases List.mem_cons.mp hp with rfl | hp
      · exact Nat.le_refl _
      · have := ih p hp
        omega
    · have := ih p hp
      omega
theorem actv_up {ced : Str} : ∀ {n : Nat} {ts : List Trt}, ((actv ced n ts).map (·.1)).Pairwise (· < ·)
  | n, [] => .nil
  | n, t :: r => by
    have ih := actv_up (ced := ced) (n := n + 1) (ts := r)
    unfold actv
    split
    · rw [List.map_cons, List.pairwise_cons]
      refine ⟨fun m hm => ?_, ih⟩
      obtain ⟨p, hp, rfl⟩ := List.mem_map.mp hm
      have := actv_ge p hp
      show n < p.1
      omega
    · exact ih
theorem putK_new {kvs : List (Key × V)} {k : Key} {v : V} (h : ∀ p ∈ kvs, p.1 ≠ k) : putK kvs k v = kvs ++ [(k, v)] := by
  unfold putK
  rw [if_neg]
  intro e
  obtain ⟨p, hp, e2⟩ := List.any_eq_true.mp e
  exact h p hp (of_decide_eq_true e2)
theorem pairsK_get {ns : List Nat} {as : List Int} {i n : Nat} {a : Int} (h1 : ns[i]? = some n) (h2 : as[i]? = some a) : (pairsK ns as)[i]? = some (.inl (n : Int), .int a) := by
  unfold pairsK
  have e : (ns.zip as)[i]? = some (n, a) := List.getElem?_zip_eq_some.mpr ⟨h1, h2⟩
  rw [List.getElem?_map, e]
  rfl
theorem pairsK_new {ns : List Nat} {as : List Int} (hp : ns.Pairwise (· < ·)) {i n : Nat} (h : ns[i]? = some n) : ∀ p ∈ (pairsK ns as).take i, p.1 ≠ .inl (n : Int) := by
  intro p hp2 e
  obtain ⟨j, hj⟩ := List.getElem?_of_mem hp2
  rw [List.getElem?_take] at hj
  split at hj
  · rename_i hji
    unfold pairsK at hj
    rw [List.getElem?_map] at hj
    cases hz : (ns.zip as)[j]? with
    | none =>
      rw [hz] at hj
      cases hj
    | some q =>
      rw [hz] at hj
      obtain ⟨z1, z2⟩ := List.getElem?_zip_eq_some.mp hz
      cases hj
      obtain ⟨g1, g2⟩ := List.getElem?_eq_some_iff.mp h
      obtain ⟨g3, g4⟩ := List.getElem?_eq_some_iff.mp z1
      have := List.pairwise_iff_getElem.mp hp j i g3 g1 hji
      have e3 : ((q.1 : Nat) : Int) = (n : Int) := Sum.inl.inj e
      omega
  · cases hj
/-! ### all payments of a round -/
def putP (ps : List Int) : List (Nat × Int) → List Int
  | [] => ps
  | p :: r => putP (ps.set p.1 p.2) r
theorem putP_len : ∀ (ps : List Int) (l : List (Nat × Int)), (putP ps l).length = ps.length
  | _, [] => rfl
  | ps, p :: r => by
    unfold putP
    rw [putP_len, List.length_set]
def payP (ts : List Trt) : List (Str × Int) → List Int → List Int
  | [], ps => ps
  | (c, x) :: r, ps => payP ts r (putP ps (((actv c 0 ts).map (·.1)).zip (cedeP c ts x).1))
/-- what each treaty pays -/
def tpay (ts : List Trt) (ins : List Str) (gross : List Int) : List Int := payP ts (ins.zip gross) (List.replicate ts.length 0)
theorem putP_add (ps : List Int) : ∀ (l : List (Nat × Int)) (p : Nat × Int), putP ps (l ++ [p]) = (putP ps l).set p.1 p.2 := fun l => by
  induction l generalizing ps with
  | nil => intro p; rfl
  | cons q r ih => intro p; exact ih _ p
theorem payP_len (ts : List Trt) : ∀ (l : List (Str × Int)) (ps : List Int), (payP ts l ps).length = ps.length
  | [], _ => rfl
  | (c, x) :: r, ps => by
    unfold payP
    rw [payP_len ts r, putP_len]
theorem payP_add (ts : List Trt) : ∀ (l : List (Str × Int)) (ps : List Int) (c : Str) (x : Int), payP ts (l ++ [(c, x)]) ps = putP (payP ts l ps) (((actv c 0 ts).map (·.1)).zip (cedeP c ts x).1)
  | [], _, _, _ => rfl
  | (d, y) :: r, ps, c, x => payP_add ts r _ c x
theorem ixN_n {n j : Nat} (hj : j < n) : ixN n (j : Int) = some j := by
  unfold ixN
  rw [if_pos (by omega), if_pos (by omega)]
  simp
theorem rep0 (n : Nat) : (List.replicate n [V.int 0]).flatten = (List.replicate n (0 : Int)).map V.int := by
  induction n with
  | zero => rfl
  | succ n ih =>
    rw [List.replicate_succ, List.flatten_cons, ih, List.replicate_succ]
    rfl
/-- all but p and d stands -/
def Bar2 (p d : Addr) (H H' : Hp) : Prop := ∀ b u, b ≠ p → b ≠ d → H b = some u → H' b = some u
def sp_treaty_payments (K : PySem.W.Frag) : Sp := fun vs H Q _ => ∃ (a b c : Addr) (ins : List Str) (ts : List Trt) (gross : List Int), vs = [.ref a, .ref b, .ref c] ∧ SqT K H a (ins.map V.str) ∧ TrsAt K H b ts ∧ ts.length ≤ 1000 ∧ (∀ t ∈ ts, CvOk t.cov) ∧ SqT K H c (gross.map V.int) ∧
  ∀ (p : Addr) (H' : Hp), Same H H' → H p = none → H' p = some (.tup ((tpay ts ins gross).map V.int)) → Q (.ref p) H'
/-! ### parts, gross losses -/
def shs (ps : List (Option Str × Int)) : List Int := ps.map (·.2)
theorem PanAt.ent {K : PySem.W.Frag} {H : Hp} {x : V} {ps : List (Option Str × Int)} (h : PanAt K H x ps) : ∃ (a : Addr) (xs : List V), x = .ref a ∧ SqT K H a xs ∧ xs.length = ps.length ∧
    ∀ (i : Nat) y, xs[i]? = some y → ∃ e b, ps[i]? = some e ∧ y = .ref b ∧ SqT K H b [optV e.1, .int e.2] := by
  obtain ⟨a, xs, rfl, hS, hl, hE⟩ := h
  refine ⟨a, xs, rfl, hS, hl, fun i y hy => ?_⟩
  have hi := (List.getElem?_eq_some_iff.mp hy).1
  have he : ps[i]? = some ps[i] := List.getElem?_eq_getElem (by omega)
  obtain ⟨y2, h1, b, rfl, h2⟩ := hE i _ he
  rw [hy] at h1
  cases h1
  exact ⟨_, b, he, rfl, h2⟩
theorem shs_pos {ps : List (Option Str × Int)} (h : PanOk ps) : Pos (shs ps) := fun s hs => by
  obtain ⟨e, he, rfl⟩ := List.mem_map.mp hs
  exact (h.ent e he).2.1
theorem shs_ne {ps : List (Option Str × Int)} (h : PanOk ps) : shs ps ≠ [] := fun e => by
  have h1 := h.lo
  have h2 : (shs ps).length = ps.length := List.length_map ..
  rw [e] at h2
  have h3 : 0 = ps.length := h2
  omega
def sp_panel_parts (K : PySem.W.Frag) : Sp := fun vs H Q _ => ∃ (x : V) (ps : List (Option Str × Int)) (m : Int), vs = [x, .int m] ∧ PanAt K H x ps ∧ PanOk ps ∧
  ∀ (p : Addr) (H' : Hp), Same H H' → H p = none → H' p = some (.tup ((alloc m (shs ps)).map V.int)) → Q (.ref p) H'
theorem of_at_str {ns : List Str} {j : Nat} {y : V} (h : (ns.map V.str)[j]? = some y) : ∃ v, y = V.str v ∧ ns[j]? = some v := by
  rw [List.getElem?_map] at h
  cases e : ns[j]? with
  | none =>
    rw [e] at h
    cases h
  | some v =>
    rw [e] at h
    exact ⟨v, (Option.some.inj h).symm, rfl⟩
def pairsS (ins : List Str) (ls : List Int) : List (Key × V) := (ins.zip ls).map fun p => (.inr p.1, .int p.2)
theorem pairsS_get {ins : List Str} {ls : List Int} {i : Nat} {z : Str} {x : Int} (h1 : ins[i]? = some z) (h2 : ls[i]? = some x) : (pairsS ins ls)[i]? = some (.inr z, .int x) := by
  have e : (ins.zip ls)[i]? = some (z, x) := List.getElem?_zip_eq_some.mpr ⟨h1, h2⟩
  unfold pairsS
  rw [List.getElem?_map, e]
  rfl
theorem pairsS_at {ins : List Str} {ls : List Int} {j : Nat} {p : Key × V} (h : (pairsS ins ls)[j]? = some p) : ∃ z x, ins[j]? = some z ∧ ls[j]? = some x ∧ p = (.inr z, .int x) := by
  unfold pairsS at h
  rw [List.getElem?_map] at h
  cases hz : (ins.zip ls)[j]? with
  | none =>
    rw [hz] at h
    cases h
  | some q =>
    rw [hz] at h
    obtain ⟨z1, z2⟩ := List.getElem?_zip_eq_some.mp hz
    exact ⟨_, _, z1, z2, (Option.some.inj h).symm⟩
theorem nodup_at {ins : List Str} (hn : ins.Nodup) {i j : Nat} {z : Str} (h1 : ins[i]? = some z) (h2 : ins[j]? = some z) : i = j := by
  obtain ⟨g1, g2⟩ := List.getElem?_eq_some_iff.mp h1
  obtain ⟨g3, g4⟩ := List.getElem?_eq_some_iff.mp h2
  have pw := List.pairwise_iff_getElem.mp hn
  by_cases e : i = j
  · exact e
  · by_cases l : i < j
    · exact absurd (g2.trans g4.symm) (pw i j g1 g3 l)
    · exact absurd (g4.trans g2.symm) (pw j i g3 g1 (by omega))
theorem pairsS_new {ins : List Str} {ls : List Int} (hn : ins.Nodup) {i : Nat} {z : Str} (h : ins[i]? = some z) : ∀ p ∈ (pairsS ins ls).take i, p.1 ≠ .inr z := by
  intro p hp e
  obtain ⟨j, hj⟩ := List.getElem?_of_mem hp
  rw [List.getElem?_take] at hj
  split at hj
  · rename_i hji
    obtain ⟨w, x, h1, h2, rfl⟩ := pairsS_at hj
    have e2 : w = z := Sum.inr.inj e
    subst e2
    have := nodup_at hn h h1
    omega
  · cases hj
theorem valV_mem {kvs : List (Key × V)} {k : Key} {v : V} {i : Nat} (h : kvs[i]? = some (k, v)) (u : ∀ (j : Nat) w, kvs[j]? = some (k, w) → j = i) : valV kvs k = some v := by
  induction kvs generalizing i with
  | nil => simp at h
  | cons p r ih =>
    by_cases e : p.1 = k
    · rw [valV_pos e]
      have h0 : (p :: r)[0]? = some (k, p.2) := by rw [← e]; rfl
      have := u 0 _ h0
      subst this
      cases h
      rfl
    · rw [valV_neg e]
      cases i with
      | zero =>
        cases h
        exact absurd rfl e
      | succ i => exact ih (i := i) h fun j w hj => Nat.succ.inj (u (j + 1) w hj)
theorem pairsS_val {ins : List Str} {ls : List Int} (hn : ins.Nodup) {i : Nat} {z : Str} {x : Int} (h1 : ins[i]? = some z) (h2 : ls[i]? = some x) : valV (pairsS ins ls) (.inr z) = some (.int x) := by
  refine valV_mem (pairsS_get h1 h2) fun j w hj => ?_
  obtain ⟨z2, x2, g1, g2, e⟩ := pairsS_at hj
  cases e
  exact nodup_at hn g1 h1
theorem pairsS_put {ins : List Str} {ls : List Int} (hn : ins.Nodup) {i : Nat} {z : Str} {x y : Int} (h1 : ins[i]? = some z) (h2 : ls[i]? = some x) : putK (pairsS ins ls) (.inr z) (.int y) = pairsS ins (ls.set i y) := by
  have ha : ((pairsS ins ls).any fun kv => decide (kv.1 = .inr z)) = true := List.any_eq_true.mpr ⟨_, List.mem_of_getElem? (pairsS_get h1 h2), decide_eq_true rfl⟩
  unfold putK
  rw [if_pos ha]
  apply List.ext_getElem?
  intro j
  rw [List.getElem?_map]
  cases hj : (pairsS ins ls)[j]? with
  | none =>
    have hl : (pairsS ins (ls.set i y)).length = (pairsS ins ls).length := by
      unfold pairsS
      rw [List.length_map, List.length_map, List.length_zip, List.length_zip, List.length_set]
    have := List.getElem?_eq_none_iff.mp hj
    rw [List.getElem?_eq_none (by omega)]
    rfl
  | some p =>
    obtain ⟨w, x2, g1, g2, rfl⟩ := pairsS_at hj
    by_cases e : w = z
    · subst e
      have := nodup_at hn g1 h1
      subst this
      have hlt := (List.getElem?_eq_some_iff.mp g2).1
      rw [pairsS_get g1 (by rw [List.getElem?_set_self hlt])]
      show some (if (Sum.inr w : Key) = .inr w then _ else _) = _
      rw [if_pos rfl]
    · have nij : i ≠ j := fun q => e (by subst q; rw [h1] at g1; exact (Option.some.inj g1).symm)
      rw [pairsS_get g1 (by rw [List.getElem?_set_ne nij]; exact g2)]
      show some (if (Sum.inr w : Key) = .inr z then _ else _) = _
      rw [if_neg (fun q => e (Sum.inr.inj q))]
/-- z's loss grows by p -/
def addAt : List Str → List Int → Str → Int → List Int
  | i :: r, x :: xs, z, p => if i = z then (x + p) :: xs else x :: addAt r xs z p
  | _, ls, _, _ => ls
theorem addAt_len : ∀ (ins : List Str) (ls : List Int) (z : Str) (p : Int), (addAt ins ls z p).length = ls.length
  | [], _, _, _ => rfl
  | _ :: _, [], _, _ => rfl
  | i :: r, x :: xs, z, p => by
    unfold addAt
    split
    · rfl
    · exact congrArg Nat.succ (addAt_len r xs z p)
theorem addAt_set {z : Str} {p : Int} : ∀ {ins : List Str} {ls : List Int} {i : Nat} {x : Int}, ins.Nodup → ins[i]? = some z → ls[i]? = some x → addAt ins ls z p = ls.set i (x + p)
  | [], _, _, _, _, h, _ => by simp at h
  | _ :: _, [], _, _, _, _, h => by simp at h
  | a :: r, y :: ys, 0, x, _, h1, h2 => by
    cases h1
    cases h2
    unfold addAt
    rw [if_pos rfl]
    rfl
  | a :: r, y :: ys, i + 1, x, hn, h1, h2 => by
    have hm : z ∈ r := List.mem_of_getElem? (show r[i]? = some z from h1)
    have ne : ¬ a = z := fun e => (List.nodup_cons.mp hn).1 (by rw [e]; exact hm)
    unfold addAt
    rw [if_neg ne, addAt_set (List.nodup_cons.mp hn).2 h1 h2]
    rfl
def addPan (ins : List Str) : List ((Option Str × Int) × Int) → List Int → List Int
  | [], ls => ls
  | ((none, _), _) :: r, ls => addPan ins r ls
  | ((some z, _), p) :: r, ls => addPan ins r (addAt ins ls z p)
theorem addPan_len (ins : List Str) : ∀ (l : List ((Option Str × Int) × Int)) (ls : List Int), (addPan ins l ls).length = ls.length
  | [], _ => rfl
  | ((none, _), _) :: r, ls => addPan_len ins r ls
  | ((some z, _), p) :: r, ls => (addPan_len ins r _).trans (addAt_len ..)
theorem addPan_add (ins : List Str) : ∀ (l : List ((Option Str × Int) × Int)) (ls : List Int) (e : (Option Str × Int) × Int), addPan ins (l ++ [e]) ls = addPan ins [e] (addPan ins l ls)
  | [], _, _ => rfl
  | ((none, _), _) :: r, ls, e => addPan_add ins r ls e
  | ((some z, _), p) :: r, ls, e => addPan_add ins r _ e
def addTrs (ins : List Str) : List (Trt × Int) → List Int → List Int
  | [], ls => ls
  | (t, m) :: r, ls => addTrs ins r (addPan ins (t.pan.zip (alloc m (shs t.pan))) ls)
theorem addTrs_len (ins : List Str) : ∀ (l : List (Trt × Int)) (ls : List Int), (addTrs ins l ls).length = ls.length
  | [], _ => rfl
  | (t, m) :: r, ls => (addTrs_len ins r _).trans (addPan_len ..)
theorem addTrs_add (ins : List Str) : ∀ (l : List (Trt × Int)) (ls : List Int) (t : Trt) (m : Int), addTrs ins (l ++ [(t, m)]) ls = addPan ins (t.pan.zip (alloc m (shs t.pan))) (addTrs ins l ls)
  | [], _, _, _ => rfl
  | (u, k) :: r, ls, t, m => addTrs_add ins r _ t m
/-- the gross losses of the round behind -/
def nextG (ins : List Str) (ts : List Trt) (ds gs : List Int) : List Int := addTrs ins (ts.zip (tpay ts ins gs)) ds
structure TrsOk (ins : List Str) (ts : List Trt) : Prop where
  nd : ins.Nodup
  ok : ∀ t ∈ ts, TrtOk t
  mem : ∀ t ∈ ts, ∀ e ∈ t.pan, ∀ z, e.1 = some z → z ∈ ins
  len : ts.length ≤ 1000
  few : ins.length ≤ 1000
def sp_next_gross (K : PySem.W.Frag) : Sp := fun vs H Q _ => ∃ (a b c d : Addr) (ins : List Str) (ts : List Trt) (ds gs : List Int), vs = [.ref a, .ref b, .ref c, .ref d] ∧ SqT K H a (ins.map V.str) ∧ TrsAt K H b ts ∧ TrsOk ins ts ∧ SqT K H c (ds.map V.int) ∧ ds.length = ins.length ∧ SqT K H d (gs.map V.int) ∧
  ∀ (p : Addr) (H' : Hp), Same H H' → H p = none → H' p = some (.tup ((nextG ins ts ds gs).map V.int)) → Q (.ref p) H'
/-! ### the rounds -/
def row (ins : List Str) (ts : List Trt) (ds : List Int) : Nat → List Int
  | 0 => ds
  | n + 1 => nextG ins ts ds (row ins ts ds n)
theorem row_len {ins : List Str} {ts : List Trt} {ds : List Int} (h : ds.length = ins.length) : ∀ n, (row ins ts ds n).length = ins.length
  | 0 => h
  | n + 1 => by
    show (nextG ins ts ds _).length = _
    unfold nextG
    rw [addTrs_len, h]
def RowR (K : PySem.W.Frag) (H : Hp) (y : V) (r : List Int) : Prop := ∃ b : Addr, y = .ref b ∧ SqT K H b (r.map V.int)
theorem RowR.same {K : PySem.W.Frag} {H H' : Hp} {y : V} {r : List Int} (e : Same H H') (h : RowR K H y r) : RowR K H' y r := by
  obtain ⟨b, rfl, h⟩ := h
  exact ⟨b, rfl, same_sqt e h⟩
theorem RowR.put {K : PySem.W.Frag} {H : Hp} {D : Addr} {zs : List V} {o : HO} {y : V} {r : List Int} (hD : H D = some (.lst zs)) (h : RowR K H y r) : RowR K (upd H D o) y r := by
  obtain ⟨b, rfl, h⟩ := h
  exact ⟨b, rfl, sqt_put hD h⟩
def RowsAt (K : PySem.W.Frag) (H : Hp) (p : Addr) (rs : List (List Int)) : Prop := ∃ xs, SqT K H p xs ∧ AllAt (RowR K) H xs rs
theorem lay_ints : ∀ ns : List Int, PyData.canLayAll0 (ns.map PyData.int) = true
  | [] => rfl
  | n :: r => by
    rw [List.map_cons]
    simp only [PyData.canLayAll0, PyData.canLay0, Bool.true_and]
    exact lay_ints r
theorem dep_ints : ∀ ns : List Int, PyData.depthAll (ns.map PyData.int) = 0
  | [] => rfl
  | n :: r => by
    rw [List.map_cons]
    simp only [PyData.depthAll, PyData.depth]
    rw [dep_ints r]
    rfl
theorem shp_ints (ns : List Int) : SeqAt.shaped (.tuple (ns.map PyData.int)) = true := by
  show (PyData.canLay0 (.tuple (ns.map PyData.int)) && decide (PyData.depth (.tuple (ns.map PyData.int)) ≤ 64)) = true
  rw [Bool.and_eq_true]
  refine ⟨?_, decide_eq_true ?_⟩
  · simp only [PyData.canLay0]
    exact lay_ints ns
  · simp only [PyData.depth]
    rw [dep_ints]
    decide
theorem eqv_ints : ∀ as bs : List Int, PyData.eqvAll (as.map PyData.int) (bs.map PyData.int) = decide (as = bs)
  | [], [] => rfl
  | [], _ :: _ => rfl
  | _ :: _, [] => rfl
  | a :: as, b :: bs => by
    rw [List.map_cons, List.map_cons]
    simp only [PyData.eqvAll, PyData.eqv]
    rw [eqv_ints as bs]
    by_cases h : a = b
    · subst h
      by_cases h2 : as = bs
      · subst h2
        simp
      · rw [decide_eq_false h2, decide_eq_false (fun e => h2 (List.cons.inj e).2)]
        simp
    · rw [decide_eq_false (fun e => h (List.cons.inj e).1)]
      have : (a == b) = false := by simpa using h
      rw [this]
      rfl
theorem eqv_tup (as bs : List Int) : PyData.eqv (.tuple (as.map PyData.int)) (.tuple (bs.map PyData.int)) = decide (as = bs) := by
  simp only [PyData.eqv]
  exact eqv_ints as bs
def big (r : List Int) : Bool := r.any fun x => decide (1000000000 < x)
def sp_rounds (K : PySem.W.Frag) (C : Addr) : Sp := fun vs H Q E => ∃ (a b c : Addr) (ins : List Str) (ts : List Trt) (ds : List Int), vs = [.ref a, .ref b, .ref c] ∧ SqT K H a (ins.map V.str) ∧ TrsAt K H b ts ∧ TrsOk ins ts ∧ SqT K H c (ds.map V.int) ∧ ds.length = ins.length ∧
  (∀ i, i ≤ 200 → row ins ts ds (i + 1) = row ins ts ds i → (∀ j, j < i → row ins ts ds (j + 1) ≠ row ins ts ds j) →
    (big (row ins ts ds i) = true → ∀ H', Same H H' → E (.ref C) none H') ∧ (big (row ins ts ds i) = false → ∀ p H', Same H H' → RowsAt K H' p ((List.range (i + 1)).map (row ins ts ds)) → Q (.ref p) H')) ∧
  ((∀ i, i ≤ 200 → row ins ts ds (i + 1) ≠ row ins ts ds i) → ∀ H', Same H H' → E (.ref C) none H')
/-! ### the market -/
/-- the losses: event and insurer, and how much -/
def lkv (L : List ((Str × Str) × Int)) : List (List Key × V) := L.map fun p => ([.inr p.1.1, .inr p.1.2], .int p.2)
def lossOf (L : List ((Str × Str) × Int)) (e z : Str) : Int := ((L.find? fun p => decide (p.1 = (e, z))).map (·.2)).getD 0
theorem key2 {e z e' z' : Str} : (([.inr e, .inr z] : List Key) = [.inr e', .inr z']) ↔ (e, z) = (e', z') := by
  constructor
  · intro h
    have h1 := List.cons.inj h
    have h2 := List.cons.inj h1.2
    have e1 : e = e' := Sum.inr.inj h1.1
    have e2 : z = z' := Sum.inr.inj h2.1
    rw [e1, e2]
  · intro h
    have h1 := Prod.mk.inj h
    rw [h1.1, h1.2]
theorem lkv_val (L : List ((Str × Str) × Int)) (e z : Str) : valV (lkv L) [.inr e, .inr z] = ((L.find? fun p => decide (p.1 = (e, z))).map (·.2)).map V.int := by
  induction L with
  | nil => rfl
  | cons p r ih =>
    by_cases h : p.1 = (e, z)
    · show valV (([.inr p.1.1, .inr p.1.2], V.int p.2) :: lkv r) _ = _
      rw [valV_pos (key2.mpr h), List.find?_cons, decide_eq_true h]
      rfl
    · show valV (([.inr p.1.1, .inr p.1.2], V.int p.2) :: lkv r) _ = _
      rw [valV_neg (fun q => h (key2.mp q)), ih, List.find?_cons, decide_eq_false h]
theorem lkv_get (L : List ((Str × Str) × Int)) (e z : Str) : (valV (lkv L) [.inr e, .inr z]).getD (.int 0) = .int (lossOf L e z) := by
  rw [lkv_val]
  unfold lossOf
  cases (L.find? fun p => decide (p.1 = (e, z))) <;> rfl
def directs (ins : List Str) (L : List ((Str × Str) × Int)) (e : Str) : List Int := ins.map (lossOf L e)
def sp_direct_losses (K : PySem.W.Frag) : Sp := fun vs H Q _ => ∃ (a d : Addr) (e : Str) (ins : List Str) (L : List ((Str × Str) × Int)), vs = [.ref a, .ref d, .str e] ∧ SqT K H a (ins.map V.str) ∧ ins.length ≤ 1000 ∧ Rd H d (.dT (lkv L)) ∧
  ∀ (p : Addr) (H' : Hp), Same H H' → H p = none → H' p = some (.tup ((directs ins L e).map V.int)) → Q (.ref p) H'
theorem rd_same {H H' : Hp} {a : Addr} {u : HO} (e : Same H H') (h : Rd H a u) : Rd H' a u := by
  rcases h with h | ⟨o, h⟩
  · exact .inl (e _ _ h)
  · exact .inr ⟨o, e _ _ h⟩
def mf (ai ae at' ad : Addr) : List (Str × V) := [("insurers", .ref ai), ("events", .ref ae), ("treaties", .ref at'), ("losses", .ref ad)]
section
variable {ai ae at' ad x : Addr}
theorem mf_i : (mf ai ae at' ad).lookup ("insurers" : Str) = some (.ref ai) := by kernel_rfl
theorem mf_e : (mf ai ae at' ad).lookup ("events" : Str) = some (.ref ae) := by kernel_rfl
theorem mf_t : (mf ai ae at' ad).lookup ("treaties" : Str) = some (.ref at') := by kernel_rfl
theorem mf_l : (mf ai ae at' ad).lookup ("losses" : Str) = some (.ref ad) := by kernel_rfl
theorem mf_pi : putF "insurers" (.ref x) (mf ai ae at' ad) = mf x ae at' ad := by kernel_rfl
theorem mf_pe : putF "events" (.ref x) (mf ai ae at' ad) = mf ai x at' ad := by kernel_rfl
theorem mf_pt : putF "treaties" (.ref x) (mf ai ae at' ad) = mf ai ae x ad := by kernel_rfl
theorem mf_pl : putF "losses" (.ref x) (mf ai ae at' ad) = mf ai ae at' x := by kernel_rfl
theorem mf_no {m : Str} (h : (["insurers", "events", "treaties", "losses"] : List Str).contains m = false) : (mf ai ae at' ad).lookup m = none := by
  have h2 : ∀ x ∈ (["insurers", "events", "treaties", "losses"] : List Str), (m == x) = false := fun x hx => by
    cases e : (m == x) with
    | false => rfl
    | true =>
      have : (["insurers", "events", "treaties", "losses"] : List Str).contains m = true := List.contains_iff_mem.mpr (by rw [eq_of_beq e]; exact hx)
      rw [h] at this
      cases this
  unfold mf
  rw [List.lookup_cons, h2 _ (by simp), List.lookup_cons, h2 _ (by simp), List.lookup_cons, h2 _ (by simp), List.lookup_cons, h2 _ (by simp)]
  rfl
end
theorem isD_t {H : Hp} {d : Addr} {kvs : List (List Key × V)} (h : Rd H d (.dT kvs)) : IsD H d := by
  unfold IsD
  first
    | exact .inr ⟨_, h⟩
    | exact ⟨_, h⟩
theorem ne_keep {H : Hp} {a m : Addr} {o u : HO} (n : H a = none) (h : H m = some o) : upd H a u m = some o := by
  rw [upd_ne (ne_of_none h n)]
  exact h
theorem sqt_ins {K : PySem.W.Frag} {H : Hp} {m a : Addr} {C dx : Addr} {fs gs : List (Str × V)} {xs : List V} (hm : H m = some (.ins C dx fs)) (h : SqT K H a xs) : SqT K (upd H m (.ins C dx gs)) a xs := by
  rcases h with (h | ⟨u, h⟩) | h
  · refine .inl (.inl ?_)
    rw [upd_ne (fun e => by rw [e, hm] at h; cases h)]
    exact h
  · refine .inl (.inr ⟨u, ?_⟩)
    rw [upd_ne (fun e => by rw [e, hm] at h; cases h)]
    exact h
  · exact .inr h
theorem trs_ins {K : PySem.W.Frag} {H : Hp} {m a : Addr} {C dx : Addr} {fs gs : List (Str × V)} {ts : List Trt} (hm : H m = some (.ins C dx fs)) (h : TrsAt K H a ts) : TrsAt K (upd H m (.ins C dx gs)) a ts := by
  obtain ⟨xs, h1, h2⟩ := h
  refine ⟨xs, sqt_ins hm h1, AllAt.imp (S := TrAt K) h2 fun y t r => ?_⟩
  obtain ⟨a1, vc, vp, rfl, g1, g2, pa, px, rfl, g3, g4, g5⟩ := r
  refine ⟨a1, vc, _, rfl, sqt_ins hm g1, sqt_ins hm g2, pa, px, rfl, sqt_ins hm g3, g4, fun i e he => ?_⟩
  obtain ⟨y, f1, b, rfl, f2⟩ := g5 i e he
  exact ⟨_, f1, b, rfl, sqt_ins hm f2⟩
theorem fld_step {H : Hp} {a m : Addr} {o u o' : HO} (n : H a = none) (hm : H m = some o) : Bar m H (upd (upd H a u) m o') ∧ upd (upd H a u) m o' a = some u ∧ upd (upd H a u) m o' m = some o' ∧ a ≠ m := by
  have ne : a ≠ m := Bar.new hm n
  refine ⟨Bar.put (Bar.add (Bar.refl H) n), ?_, upd_same, ne⟩
  rw [upd_ne ne, upd_same]
theorem putF_le (f : Str) (v : V) : ∀ fs : List (Str × V), (putF f v fs).length ≤ fs.length + 1
  | [] => Nat.le_refl _
  | (g, x) :: r => by
    unfold putF
    split
    · rw [List.length_cons, List.length_cons]
      omega
    · rw [List.length_cons, List.length_cons]
      have := putF_le f v r
      omega
structure Mkt where
  ins : List Str
  evs : List Str
  trs : List Trt
  los : List ((Str × Str) × Int)
def MktAt (K : PySem.W.Frag) (C : Addr) (H : Hp) (m : Addr) (M : Mkt) : Prop := ∃ dx ai ae at' ad : Addr, H m = some (.ins C dx (mf ai ae at' ad)) ∧ SqT K H ai (M.ins.map V.str) ∧ SqT K H ae (M.evs.map V.str) ∧ TrsAt K H at' M.trs ∧ H ad = some (.dT (lkv M.los))
theorem MktAt.same {K : PySem.W.Frag} {C : Addr} {H H' : Hp} {m : Addr} {M : Mkt} (e : Same H H') (h : MktAt K C H m M) : MktAt K C H' m M := by
  obtain ⟨dx, ai, ae, at', ad, h0, h1, h2, h3, h4⟩ := h
  exact ⟨dx, ai, ae, at', ad, e _ _ h0, same_sqt e h1, same_sqt e h2, TrsAt.same e h3, e _ _ h4⟩
def sp_minit (K : PySem.W.Frag) (C : Addr) : Sp := fun vs H Q _ => ∃ m dx : Addr, vs = [.ref m] ∧ H m = some (.ins C dx []) ∧ ∀ H', Bar m H H' → MktAt K C H' m ⟨[], [], [], []⟩ → Q .non H'
def sp_add_event (K : PySem.W.Frag) (C CB CM CT : Addr) : Sp := fun vs H Q E => ∃ (m : Addr) (x : V) (M : Mkt), vs = [.ref m, x] ∧ MktAt K C H m M ∧
  ((NoName K H x ∧ ∀ H', Same H H' → E (.ref CB) none H') ∨ ∃ z, x = .str z ∧ IsName x ∧
    ((3 ≤ M.evs.length ∧ ∀ H', Same H H' → E (.ref CM) none H') ∨ (M.evs.length < 3 ∧ z ∈ M.evs ∧ ∀ H' d, Same H H' → H' d = some (.xd [("name", .str z)]) → E (.ref CT) (some d) H') ∨
      (M.evs.length < 3 ∧ z ∉ M.evs ∧ ∀ H', Bar m H H' → MktAt K C H' m { M with evs := M.evs ++ [z] } → Q (.int ((M.evs.length + 1 : Nat) : Int)) H')))
def sp_add_insurer (K : PySem.W.Frag) (C CB CM CT : Addr) : Sp := fun vs H Q E => ∃ (m : Addr) (x : V) (M : Mkt), vs = [.ref m, x] ∧ MktAt K C H m M ∧
  ((NoName K H x ∧ ∀ H', Same H H' → E (.ref CB) none H') ∨ ∃ z, x = .str z ∧ IsName x ∧
    ((6 ≤ M.ins.length ∧ ∀ H', Same H H' → E (.ref CM) none H') ∨ (M.ins.length < 6 ∧ z ∈ M.ins ∧ ∀ H' d, Same H H' → H' d = some (.xd [("name", .str z)]) → E (.ref CT) (some d) H') ∨
      (M.ins.length < 6 ∧ z ∉ M.ins ∧ ∀ H', Bar m H H' → MktAt K C H' m { M with ins := M.ins ++ [z] } → Q (.int ((M.ins.length + 1 : Nat) : Int)) H')))
/-- do an event's rounds end, with no loss too great -/
def fate (ins : List Str) (ts : List Trt) (ds : List Int) (b : Bool) : Prop :=
  if b = true then ∃ i, i ≤ 200 ∧ row ins ts ds (i + 1) = row ins ts ds i ∧ (∀ j, j < i → row ins ts ds (j + 1) ≠ row ins ts ds j) ∧ big (row ins ts ds i) = false
  else (∃ i, i ≤ 200 ∧ row ins ts ds (i + 1) = row ins ts ds i ∧ (∀ j, j < i → row ins ts ds (j + 1) ≠ row ins ts ds j) ∧ big (row ins ts ds i) = true) ∨ ∀ i, i ≤ 200 → row ins ts ds (i + 1) ≠ row ins ts ds i
theorem first_one {p : Nat → Prop} {i j : Nat} (hi : p i) (hj : p j) (fi : ∀ k, k < i → ¬ p k) (fj : ∀ k, k < j → ¬ p k) : i = j := by
  by_cases h : i < j
  · exact absurd hi (fj i h)
  · by_cases h2 : j < i
    · exact absurd hj (fi j h2)
    · omega
theorem first_is {p : Nat → Prop} : ∀ {n : Nat}, p n → ∃ i, i ≤ n ∧ p i ∧ ∀ k, k < i → ¬ p k := fun {n} => by
  induction n using Nat.strongRecOn with
  | _ n ih =>
    intro h
    by_cases e : ∃ k, k < n ∧ p k
    · obtain ⟨k, hk, pk⟩ := e
      obtain ⟨i, h1, h2, h3⟩ := ih k hk pk
      exact ⟨i, by omega, h2, h3⟩
    · exact ⟨n, Nat.le_refl _, h, fun k hk pk => e ⟨k, hk, pk⟩⟩
theorem fate_any (ins : List Str) (ts : List Trt) (ds : List Int) : fate ins ts ds true ∨ fate ins ts ds false := by
  by_cases e : ∃ i, i ≤ 200 ∧ row ins ts ds (i + 1) = row ins ts ds i
  · obtain ⟨n, hn, h⟩ := e
    obtain ⟨i, h1, h2, h3⟩ := first_is (p := fun i => row ins ts ds (i + 1) = row ins ts ds i) h
    cases hb : big (row ins ts ds i) with
    | false => exact .inl ⟨i, by omega, h2, h3, hb⟩
    | true => exact .inr (.inl ⟨i, by omega, h2, h3, hb⟩)
  · exact .inr (.inr fun i hi h => e ⟨i, hi, h⟩)
theorem fate_one {ins : List Str} {ts : List Trt} {ds : List Int} (h1 : fate ins ts ds true) (h2 : fate ins ts ds false) : False := by
  obtain ⟨i, a1, a2, a3, a4⟩ := (h1 : ∃ i, i ≤ 200 ∧ row ins ts ds (i + 1) = row ins ts ds i ∧ (∀ j, j < i → row ins ts ds (j + 1) ≠ row ins ts ds j) ∧ big (row ins ts ds i) = false)
  rcases (h2 : (∃ i, i ≤ 200 ∧ row ins ts ds (i + 1) = row ins ts ds i ∧ (∀ j, j < i → row ins ts ds (j + 1) ≠ row ins ts ds j) ∧ big (row ins ts ds i) = true) ∨ ∀ i, i ≤ 200 → row ins ts ds (i + 1) ≠ row ins ts ds i) with ⟨j, b1, b2, b3, b4⟩ | h
  · have e := first_one (p := fun i => row ins ts ds (i + 1) = row ins ts ds i) a2 b2 a3 b3
    subst e
    rw [a4] at b4
    cases b4
  · exact h i a1 a2
def sp_check_ends (K : PySem.W.Frag) (C CN : Addr) : Sp := fun vs H Q E => ∃ (m : Addr) (M : Mkt) (at' ad : Addr) (ts : List Trt) (L : List ((Str × Str) × Int)), vs = [.ref m, .ref at', .ref ad] ∧ MktAt K C H m M ∧ TrsAt K H at' ts ∧ TrsOk M.ins ts ∧ H ad = some (.dT (lkv L)) ∧ M.evs.length ≤ 1000 ∧
  (((∀ e ∈ M.evs, fate M.ins ts (directs M.ins L e) true) ∧ ∀ H', Same H H' → Q .non H') ∨ ((∃ e ∈ M.evs, fate M.ins ts (directs M.ins L e) false) ∧ ∀ H', Same H H' → E (.ref CN) none H'))
def sp_direct (K : PySem.W.Frag) (C CS : Addr) : Sp := fun vs H Q E => ∃ (m : Addr) (M : Mkt) (e : Str), vs = [.ref m, .str e] ∧ MktAt K C H m M ∧ M.ins.length ≤ 1000 ∧
  ((e ∈ M.evs ∧ ∀ p H', Same H H' → H p = none → H' p = some (.tup ((directs M.ins M.los e).map V.int)) → Q (.ref p) H') ∨
    (e ∉ M.evs ∧ ∀ d H', Same H H' → H' d = some (.xd [("name", .str e)]) → E (.ref CS) (some d) H'))
/-! ### placing a treaty whose panel is one insurer's -/
def sp_check_placed (K : PySem.W.Frag) : Sp := fun vs H Q _ => ∃ (c z : Str) (x : V) (a : Addr) (ins : List Str) (n : Int), vs = [.str c, x, .ref a] ∧ PanAt K H x [(some z, n)] ∧ SqT K H a (ins.map V.str) ∧ c ∈ ins ∧ z ∈ ins ∧ c ≠ z ∧ ∀ H', Same H H' → Q .non H'
theorem NoCov.same' {K : PySem.W.Frag} {H H' : Hp} {x : V} (e : Same H H') (h : NoCov K H x) : NoCov K H' x := by
  rcases h with ⟨t, ty, k⟩ | ⟨a, xs, rfl, hS, r⟩
  · exact .inl ⟨t, tyx_same' e ty, k⟩
  · exact .inr ⟨a, xs, rfl, same_sqt e hS, r⟩
theorem IsCovV.same' {K : PySem.W.Frag} {H H' : Hp} {x : V} (e : Same H H') (h : IsCovV K H x) : IsCovV K H' x := by
  obtain ⟨a, c, rfl, hS, r⟩ := h
  exact ⟨a, c, rfl, same_sqt e hS, r⟩
theorem NoPan.same {K : PySem.W.Frag} {H H' : Hp} {x : V} (e : Same H H') (h : NoPan K H x) : NoPan K H' x := by
  rcases h with ⟨t, ty, k⟩ | ⟨a, xs, bs, rfl, hS, hl, h⟩ | ⟨ps, hP, r⟩
  · exact .inl ⟨t, tyx_same' e ty, k⟩
  · refine .inr (.inl ⟨a, xs, bs, rfl, same_sqt e hS, hl, ?_⟩)
    rcases h with h | h | ⟨h1, h2, h3⟩
    · exact .inl h
    · exact .inr (.inl h)
    · refine .inr (.inr ⟨h1, h2, fun i y b hy hb => ?_⟩)
      rcases h3 i y b hy hb with ⟨eb, en, hA, ho⟩ | ⟨eb, hB⟩
      · exact .inl ⟨eb, en, EntAt.same e hA, ho⟩
      · exact .inr ⟨eb, BadEnt.same e hB⟩
  · exact .inr (.inr ⟨ps, PanAt.same e hP, r⟩)
/-- a treaty's deed, with values of any kind -/
def sp_add_treaty (K : PySem.W.Frag) (C CB CC CP : Addr) : Sp := fun vs H Q E => ∃ (m : Addr) (x y w : V) (M : Mkt), vs = [.ref m, x, y, w] ∧ MktAt K C H m M ∧
  ((NoName K H x ∧ ∀ H', Same H H' → E (.ref CB) none H') ∨ (IsName x ∧ NoCov K H y ∧ ∀ H', Same H H' → E (.ref CC) none H') ∨ (IsName x ∧ IsCovV K H y ∧ NoPan K H w ∧ ∀ H', Same H H' → E (.ref CP) none H') ∨
    ∃ (c z : Str) (vc : Addr) (cov : Cov) (n : Int), x = .str c ∧ IsName x ∧ y = .ref vc ∧ SqT K H vc (cvV cov) ∧ CvOk cov ∧ PanAt K H w [(some z, n)] ∧ PanOk [(some z, n)] ∧ c ∈ M.ins ∧ z ∈ M.ins ∧ c ≠ z ∧ M.trs.length < 16 ∧ TrsOk M.ins (M.trs ++ [⟨c, cov, [(some z, n)], false⟩]) ∧ M.evs.length ≤ 1000 ∧
      (∀ e ∈ M.evs, fate M.ins (M.trs ++ [⟨c, cov, [(some z, n)], false⟩]) (directs M.ins M.los e) true) ∧
      ∀ H', Bar m H H' → MktAt K C H' m { M with trs := M.trs ++ [⟨c, cov, [(some z, n)], false⟩] } → Q (.int ((M.trs.length : Nat) : Int)) H')
/-- an empty dict may hold keys that are tuples -/
theorem inv_tt {X : Cx} {pins : List (Addr × Obj)} {σ : L2.St} {H : Hp} {s : Shared} {d : Addr} (I : Inv X pins σ H s) (h : H d = some (.dK [])) : Inv X pins σ (upd H d (.dT [])) s := by
  obtain ⟨z, hs, vs, kv, dd⟩ := dk_of I.hok h
  cases kv
  obtain ⟨o, es, ep, ho, hx, hd, _, hp, _⟩ := dd
  have he : es.toList = [] := by
    generalize es.toList = l at hp
    cases hp
    rfl
  have ok : ObjOk X.prog X.w (upd H d (.dT [])) s.heap d (.dT []) := ⟨Nat.zero_le _, hs, [], .nil, o, es, ep, ho, hx, hd, (by rw [he]; rfl), List.nodup_nil⟩
  exact I.write (t' := s.toks) (x := d) (e := d) (by rw [h]; exact True.intro) (.inl rfl) (fun _ _ _ q => q) ⟨o, ho⟩ ok
def tTt (t : TS) : TS := fun D σ H => ∃ d, H d = some (.dK []) ∧ t D σ (upd H d (.dT []))
theorem ps_tt {X : Cx} {st : Stmt} {t : TS} (h : PS X st t) : PS X st (tTt t) :=
  ⟨fun pins s σ H D I ⟨_, hd, hw⟩ => h.run pins s σ _ D (inv_tt I hd) hw⟩
def sp_set_loss (K : PySem.W.Frag) (C CB CA : Addr) : Sp := fun vs H Q E => ∃ (m : Addr) (x y w : V) (M : Mkt), vs = [.ref m, x, y, w] ∧ MktAt K C H m M ∧
  ((NoName K H x ∧ ∀ H', Same H H' → E (.ref CB) none H') ∨ (IsName x ∧ NoName K H y ∧ ∀ H', Same H H' → E (.ref CB) none H') ∨ (IsName x ∧ IsName y ∧ flatV w = true ∧ btw w 0 100000 = false ∧ ∀ H', Same H H' → E (.ref CA) none H') ∨
    ∃ (e z : Str) (n : Int), x = .str e ∧ IsName x ∧ y = .str z ∧ IsName y ∧ w = .int n ∧ btw w 0 100000 = true ∧ e ∈ M.evs ∧ z ∈ M.ins ∧ M.los = [] ∧ TrsOk M.ins M.trs ∧ M.evs.length ≤ 1000 ∧
      (∀ v ∈ M.evs, fate M.ins M.trs (directs M.ins [((e, z), n)] v) true) ∧ ∀ H', Bar m H H' → MktAt K C H' m { M with los := [((e, z), n)] } → Q .non H')
/-! ### literals: what an expression gives in any heap behind H0, and what stays known of it -/
def Yl (σ : L2.St) (te : TE) (H0 : Hp) (P : Hp → V → Prop) : Prop := ∀ (H : Hp) (Q : VK), Same H0 H → (∀ v H', Same H H' → (∀ H2, Same H' H2 → P H2 v) → Q v H') → te σ H Q
def Ya (σ : L2.St) (t : TA) (H0 : Hp) (P : Hp → List V → Prop) : Prop := ∀ (H : Hp) (Q : List V → Hp → Prop), Same H0 H → (∀ v H', Same H H' → (∀ H2, Same H' H2 → P H2 v) → Q v H') → t σ H Q
section
variable {K : PySem.W.Frag} {σ : L2.St} {H0 : Hp} {te : TE} {t : TA} {P : Hp → V → Prop} {R : Hp → List V → Prop}
theorem yl_c {v : V} : Yl σ (tC v) H0 (fun _ x => x = v) := fun H Q _ q => q v H (Same.refl H) fun _ _ => rfl
theorem yl_var {i : Nat} {v : V} (h : σ[i]? = some (some v)) (hP : ∀ H, Same H0 H → P H v) : Yl σ (tVar i) H0 P := fun H Q s q => ⟨v, h, q v H (Same.refl H) fun H2 s2 => hP H2 (s.trans s2)⟩
theorem ya_nil : Ya σ tNil H0 (fun _ x => x = []) := fun H Q _ q => q [] H (Same.refl H) fun _ _ => rfl
theorem ya_cons (h : Yl σ te H0 P) (r : Ya σ t H0 R) : Ya σ (tCons te t) H0 (fun H vs => ∃ x xs, vs = x :: xs ∧ P H x ∧ R H xs) := fun H Q s q =>
  h H _ s fun v H1 s1 p1 => r H1 _ (s.trans s1) fun vs H2 s2 p2 => q (v :: vs) H2 (s1.trans s2) fun H3 s3 => ⟨v, vs, rfl, p1 H3 (s2.trans s3), p2 H3 s3⟩
theorem yl_tup (h : Ya σ t H0 R) (hz : ∀ H vs, R H vs → vs.length ≤ 100000) : Yl σ (tTup t) H0 (fun H v => ∃ p xs, v = .ref p ∧ H p = some (.tup xs) ∧ R H xs) := fun H Q s q =>
  h H _ s fun xs H1 s1 p1 => ⟨sz (hz H1 xs (p1 H1 (Same.refl _))), fun p np => q (.ref p) _ (s1.trans (same_new np)) fun H3 s3 => ⟨p, xs, rfl, s3 _ _ upd_same, p1 H3 ((same_new np).trans s3)⟩⟩
theorem yl_lst (h : Ya σ t H0 R) (hz : ∀ H vs, R H vs → vs.length ≤ 100000) : Yl σ (tLst t) H0 (fun H v => ∃ p xs, v = .ref p ∧ H p = some (.lst xs) ∧ R H xs) := fun H Q s q =>
  h H _ s fun xs H1 s1 p1 => ⟨sz (hz H1 xs (p1 H1 (Same.refl _))), fun p np => q (.ref p) _ (s1.trans (same_new np)) fun H3 s3 => ⟨p, xs, rfl, s3 _ _ upd_same, p1 H3 ((same_new np).trans s3)⟩⟩
/-! written data -/
theorem yd_int {i : Int} : Yl σ (tC (.int i)) H0 (fun H x => Dp K H x (.int i)) := fun H Q _ q => q _ H (Same.refl H) fun _ _ => .int i
theorem yd_str {i : Str} : Yl σ (tC (.str i)) H0 (fun H x => Dp K H x (.str i)) := fun H Q _ q => q _ H (Same.refl H) fun _ _ => .str i
theorem yd_non : Yl σ (tC .non) H0 (fun H x => Dp K H x .none) := fun H Q _ q => q _ H (Same.refl H) fun _ _ => .non
theorem yda_nil : Ya σ tNil H0 (fun H x => DpAll K H x []) := fun H Q _ q => q [] H (Same.refl H) fun _ _ => .nil
theorem yda_cons {d : PyData} {ds : List PyData} (h : Yl σ te H0 (fun H x => Dp K H x d)) (r : Ya σ t H0 (fun H x => DpAll K H x ds)) : Ya σ (tCons te t) H0 (fun H vs => DpAll K H vs (d :: ds)) := fun H Q s q =>
  h H _ s fun v H1 s1 p1 => r H1 _ (s.trans s1) fun vs H2 s2 p2 => q (v :: vs) H2 (s1.trans s2) fun H3 s3 => .cons (p1 H3 (s2.trans s3)) (p2 H3 s3)
theorem yd_tup {ds : List PyData} (h : Ya σ t H0 (fun H x => DpAll K H x ds)) (hz : ds.length ≤ 100000) : Yl σ (tTup t) H0 (fun H v => Dp K H v (.tuple ds)) := fun H Q s q =>
  h H _ s fun xs H1 s1 p1 => ⟨sz (by rw [DpAll.len (p1 H1 (Same.refl _))]; exact hz), fun p np => q (.ref p) _ (s1.trans (same_new np)) fun H3 s3 => .tup (SqT.of (s3 _ _ upd_same)) (p1 H3 ((same_new np).trans s3))⟩
theorem yd_lst {ds : List PyData} (h : Ya σ t H0 (fun H x => DpAll K H x ds)) (hz : ds.length ≤ 100000) : Yl σ (tLst t) H0 (fun H v => ∃ p xs, v = .ref p ∧ H p = some (.lst xs) ∧ DpAll K H xs ds) := fun H Q s q =>
  h H _ s fun xs H1 s1 p1 => ⟨sz (by rw [DpAll.len (p1 H1 (Same.refl _))]; exact hz), fun p np => q (.ref p) _ (s1.trans (same_new np)) fun H3 s3 => ⟨p, xs, rfl, s3 _ _ upd_same, p1 H3 ((same_new np).trans s3)⟩⟩
theorem yd_lst' {ds : List PyData} (h : Ya σ t H0 (fun H x => DpAll K H x ds)) (hz : ds.length ≤ 100000) : Yl σ (tLst t) H0 (fun H v => Dp K H v (.list ds)) := fun H Q s q =>
  h H _ s fun xs H1 s1 p1 => ⟨sz (by rw [DpAll.len (p1 H1 (Same.refl _))]; exact hz), fun p np => q (.ref p) _ (s1.trans (same_new np)) fun H3 s3 => .lst (SqL.of (s3 _ _ upd_same)) (p1 H3 ((same_new np).trans s3))⟩
end
mutual
theorem Dp.to {K : PySem.W.Frag} {H H' : Hp} (e : Same H H') : ∀ {v : V} {d : PyData}, Dp K H v d → Dp K H' v d
  | _, _, .non => .non
  | _, _, .bl b => .bl b
  | _, _, .int i => .int i
  | _, _, .str z => .str z
  | _, _, .lst h a => .lst (e.seq h) (DpAll.to e a)
  | _, _, .tup h a => .tup (same_sqt e h) (DpAll.to e a)
theorem DpAll.to {K : PySem.W.Frag} {H H' : Hp} (e : Same H H') : ∀ {vs : List V} {ds : List PyData}, DpAll K H vs ds → DpAll K H' vs ds
  | _, _, .nil => .nil
  | _, _, .cons a b => .cons (Dp.to e a) (DpAll.to e b)
end
/-! what is no name, no cover, no panel, told by the data -/
def flatD : PyData → Bool
  | .none => true
  | .int _ => true
  | .str _ => true
  | .bool _ => true
  | _ => false
def vD : PyData → V
  | .int i => .int i
  | .str z => .str z
  | .bool b => .bl b
  | _ => .non
theorem vD_of {K : PySem.W.Frag} {H : Hp} {x : V} {d : PyData} (h : Dp K H x d) (f : flatD d = true) : x = vD d ∧ flatV x = true := by
  cases h <;> first | exact ⟨rfl, rfl⟩ | cases f
theorem vD_all {K : PySem.W.Frag} {H : Hp} : ∀ {xs : List V} {ds : List PyData}, DpAll K H xs ds → ds.all flatD = true → xs = ds.map vD ∧ xs.all flatV = true
  | _, _, .nil, _ => ⟨rfl, rfl⟩
  | _, _, .cons a b, f => by
    rw [List.all_cons, Bool.and_eq_true] at f
    obtain ⟨e1, e2⟩ := vD_of a f.1
    obtain ⟨e3, e4⟩ := vD_all b f.2
    rw [List.map_cons, ← e1, ← e3, List.all_cons, e2, e4]
    exact ⟨rfl, rfl⟩
/-- data that is no tuple -/
def noTup : PyData → Bool
  | .none => true
  | .int _ => true
  | .str _ => true
  | .bool _ => true
  | .list _ => true
  | _ => false
theorem noTup_of {K : PySem.W.Frag} {H : Hp} {x : V} {d : PyData} (h : Dp K H x d) (f : noTup d = true) : ∃ t, TyX K H x t ∧ PySem.W.kitOne K t (.type "tuple") = some false := by
  cases h with
  | non => exact ⟨_, .base .non, kit_ty (r := false) (by decide +kernel)⟩
  | bl b => exact ⟨_, .base (.bl b), kit_ty (r := false) (by decide +kernel)⟩
  | int i => exact ⟨_, .base (.int i), kit_ty (r := false) (by decide +kernel)⟩
  | str z => exact ⟨_, .base (.str z), kit_ty (r := false) (by decide +kernel)⟩
  | lst h _ => exact ⟨_, tyx_lst h, kit_ty (r := false) (by decide +kernel)⟩
  | tup h _ => cases f
def noNameD : PyData → Bool
  | .str z => decide (z.length ≤ 1000) && !isNm z
  | .none => true
  | .int _ => true
  | .bool _ => true
  | .list _ => true
  | .tuple _ => true
  | _ => false
theorem noName_of {K : PySem.W.Frag} {H : Hp} {x : V} {d : PyData} (h : Dp K H x d) (f : noNameD d = true) : NoName K H x := by
  cases h with
  | non => exact .inr ⟨_, .base .non, kit_ty (r := false) (by decide +kernel)⟩
  | bl b => exact .inr ⟨_, .base (.bl b), kit_ty (r := false) (by decide +kernel)⟩
  | int i => exact .inr ⟨_, .base (.int i), kit_ty (r := false) (by decide +kernel)⟩
  | str z =>
    have f : (decide (z.length ≤ 1000) && !isNm z) = true := f
    rw [Bool.and_eq_true, Bool.not_eq_true'] at f
    exact .inl ⟨z, rfl, of_decide_eq_true f.1, f.2⟩
  | lst h _ => exact .inr ⟨_, tyx_lst h, kit_ty (r := false) (by decide +kernel)⟩
  | tup h _ => exact .inr ⟨_, tyx_tup h, kit_ty (r := false) (by decide +kernel)⟩
def noCovD : PyData → Bool
  | .tuple ds => decide (ds.length ≤ 1000) && (ds.all flatD && !isCov (ds.map vD))
  | d => noTup d
theorem noCov_of {K : PySem.W.Frag} {H : Hp} {x : V} {d : PyData} (h : Dp K H x d) (f : noCovD d = true) : NoCov K H x := by
  cases h with
  | tup h a =>
    rename_i ad xs ds
    have f : (decide (ds.length ≤ 1000) && (ds.all flatD && !isCov (ds.map vD))) = true := f
    rw [Bool.and_eq_true, Bool.and_eq_true, Bool.not_eq_true'] at f
    obtain ⟨f1, f2, f3⟩ := f
    obtain ⟨e1, e2⟩ := vD_all a f2
    exact .inr ⟨_, xs, rfl, h, by rw [DpAll.len a]; exact of_decide_eq_true f1, e2, by rw [e1]; exact f3⟩
  | non => exact .inl (noTup_of (K := K) (H := H) .non rfl)
  | bl b => exact .inl (noTup_of (K := K) (H := H) (.bl b) rfl)
  | int i => exact .inl (noTup_of (K := K) (H := H) (.int i) rfl)
  | str z => exact .inl (noTup_of (K := K) (H := H) (.str z) rfl)
  | lst h a => exact .inl (noTup_of (K := K) (H := H) (.lst h a) rfl)
def numOk (n : Int) : Bool := decide (1 ≤ n) && decide (n ≤ 100)
/-- a good entry -/
def entD : PyData → Option (Option Str × Int)
  | .tuple [.none, .int n] => if numOk n = true then some (none, n) else none
  | .tuple [.str z, .int n] => if (isNm z && decide (z.length ≤ 1000) && numOk n) = true then some (some z, n) else none
  | _ => none
def partD : PyData → Bool
  | .none => true
  | .str z => isNm z && decide (z.length ≤ 1000)
  | _ => false
/-- a bad one -/
def badD : PyData → Bool
  | .tuple [p, s] => flatD s && ((decide (vD p ≠ .non) && flatD p && noNameD p) || (partD p && !btw (vD s) 1 100))
  | .tuple ds => decide (ds.length ≤ 1000) && decide (ds.length ≠ 2)
  | d => noTup d
theorem ent_of {K : PySem.W.Frag} {H : Hp} {x : V} {d : PyData} {e : Option Str × Int} (h : Dp K H x d) (f : entD d = some e) : EntAt K H x e ∧ EntOk e := by
  unfold entD at f
  split at f
  · rename_i n
    cases h with
    | tup h a =>
      cases a with
      | cons a1 a =>
        cases a with
        | cons a2 a =>
          cases a
          cases a1
          cases a2
          split at f
          · rename_i hn
            cases Option.some.inj f
            unfold numOk at hn
            rw [Bool.and_eq_true] at hn
            exact ⟨⟨_, rfl, h⟩, fun z hz => (nomatch hz), of_decide_eq_true hn.1, of_decide_eq_true hn.2⟩
          · cases f
  · rename_i z n
    cases h with
    | tup h a =>
      cases a with
      | cons a1 a =>
        cases a with
        | cons a2 a =>
          cases a
          cases a1
          cases a2
          split at f
          · rename_i hn
            cases Option.some.inj f
            unfold numOk at hn
            rw [Bool.and_eq_true, Bool.and_eq_true, Bool.and_eq_true] at hn
            refine ⟨⟨_, rfl, h⟩, fun y hy => ?_, of_decide_eq_true hn.2.1, of_decide_eq_true hn.2.2⟩
            cases Option.some.inj hy
            exact ⟨hn.1.1, of_decide_eq_true hn.1.2⟩
          · cases f
  · cases f
theorem bad_of {K : PySem.W.Frag} {H : Hp} {x : V} {d : PyData} (h : Dp K H x d) (f : badD d = true) : BadEnt K H x := by
  unfold badD at f
  split at f
  · rename_i p s
    cases h with
    | tup h a =>
      cases a with
      | cons a1 a =>
        cases a with
        | cons a2 a =>
          cases a
          rw [Bool.and_eq_true] at f
          obtain ⟨e2, g2⟩ := vD_of a2 f.1
          refine .inr ⟨_, _, rfl, h, by show 2 ≤ 1000; decide, .inr ⟨_, _, rfl, g2, ?_⟩⟩
          rcases Bool.or_eq_true_iff.mp f.2 with f | f
          · rw [Bool.and_eq_true, Bool.and_eq_true] at f
            obtain ⟨e1, g1⟩ := vD_of a1 f.1.2
            exact .inl ⟨by rw [e1]; exact of_decide_eq_true f.1.1, noName_of a1 f.2⟩
          · rw [Bool.and_eq_true, Bool.not_eq_true'] at f
            refine .inr ⟨?_, by rw [e2]; exact f.2⟩
            cases a1 with
            | non => exact .inl rfl
            | str z =>
              have f1 : (isNm z && decide (z.length ≤ 1000)) = true := f.1
              rw [Bool.and_eq_true] at f1
              exact .inr ⟨z, rfl, of_decide_eq_true f1.2, f1.1⟩
            | bl b => cases f.1
            | int i => cases f.1
            | lst _ _ => cases f.1
            | tup _ _ => cases f.1
  · rename_i ds _
    cases h with
    | tup h a =>
      rw [Bool.and_eq_true] at f
      exact .inr ⟨_, _, rfl, h, by rw [DpAll.len a]; exact of_decide_eq_true f.1, .inl (by rw [DpAll.len a]; exact of_decide_eq_true f.2)⟩
  · exact .inl (noTup_of h f)
def noPanD : PyData → Bool
  | .tuple ds => decide (ds.length ≤ 1000) && (decide (ds.length = 0) || decide (6 < ds.length) || (ds.all (fun d => (entD d).isSome || badD d) && !ds.all (fun d => (entD d).isSome)) ||
      (ds.all (fun d => (entD d).isSome) && decide (1 ≤ ds.length) && decide (ds.length ≤ 6) && decide (100 < ((ds.filterMap entD).map (·.2)).sum)))
  | d => noTup d
theorem DpAll.at {K : PySem.W.Frag} {H : Hp} : ∀ {xs : List V} {ds : List PyData} {i : Nat} {x : V}, DpAll K H xs ds → xs[i]? = some x → ∃ d, ds[i]? = some d ∧ Dp K H x d
  | _, _, _, _, .nil, h => by simp at h
  | _, _, 0, _, .cons r _, h => by
    have e := Option.some.inj h
    subst e
    exact ⟨_, rfl, r⟩
  | _, _, i + 1, _, .cons _ t, h => DpAll.at (i := i) t h
theorem ents_of {K : PySem.W.Frag} {H : Hp} : ∀ {xs : List V} {ds : List PyData}, DpAll K H xs ds → ds.all (fun d => (entD d).isSome) = true →
    xs.length = (ds.filterMap entD).length ∧ (∀ (i : Nat) e, (ds.filterMap entD)[i]? = some e → ∃ y, xs[i]? = some y ∧ EntAt K H y e) ∧ ∀ e ∈ ds.filterMap entD, EntOk e
  | _, _, .nil, _ => ⟨rfl, fun i e h => by simp at h, fun e h => (nomatch h)⟩
  | _, _, .cons (d := d) a b, f => by
    rw [List.all_cons, Bool.and_eq_true] at f
    obtain ⟨e, he⟩ := Option.isSome_iff_exists.mp f.1
    obtain ⟨h1, h2, h3⟩ := ents_of b f.2
    obtain ⟨g1, g2⟩ := ent_of a he
    rw [List.filterMap_cons_some he]
    refine ⟨by rw [List.length_cons, List.length_cons, h1], fun i y hy => ?_, fun y hy => ?_⟩
    · cases i with
      | zero =>
        cases Option.some.inj hy
        exact ⟨_, rfl, g1⟩
      | succ j => exact h2 j y hy
    · rcases List.mem_cons.mp hy with rfl | hy
      · exact g2
      · exact h3 y hy
theorem noPan_of {K : PySem.W.Frag} {H : Hp} {x : V} {d : PyData} (h : Dp K H x d) (f : noPanD d = true) : NoPan K H x := by
  cases h with
  | tup h a =>
    rename_i ad xs ds
    have f : (decide (ds.length ≤ 1000) && (decide (ds.length = 0) || decide (6 < ds.length) || (ds.all (fun d => (entD d).isSome || badD d) && !ds.all (fun d => (entD d).isSome)) ||
      (ds.all (fun d => (entD d).isSome) && decide (1 ≤ ds.length) && decide (ds.length ≤ 6) && decide (100 < ((ds.filterMap entD).map (·.2)).sum)))) = true := f
    rw [Bool.and_eq_true] at f
    have hl : xs.length ≤ 1000 := by rw [DpAll.len a]; exact of_decide_eq_true f.1
    rcases Bool.or_eq_true_iff.mp f.2 with f | f
    · rcases Bool.or_eq_true_iff.mp f with f | f
      · rcases Bool.or_eq_true_iff.mp f with f | f
        · exact .inr (.inl ⟨_, xs, [], rfl, h, hl, .inl (by rw [DpAll.len a]; exact of_decide_eq_true f)⟩)
        · exact .inr (.inl ⟨_, xs, [], rfl, h, hl, .inr (.inl (by rw [DpAll.len a]; exact of_decide_eq_true f))⟩)
      · rw [Bool.and_eq_true, Bool.not_eq_true'] at f
        refine .inr (.inl ⟨_, xs, ds.map (fun d => (entD d).isSome), rfl, h, hl, .inr (.inr ⟨by rw [List.length_map, DpAll.len a], by rw [List.all_map]; exact f.2, fun i y b hy hb => ?_⟩)⟩)
        obtain ⟨d, hd, hD⟩ := DpAll.at a hy
        rw [List.getElem?_map, hd] at hb
        have hb : (entD d).isSome = b := Option.some.inj hb
        have fd := List.all_eq_true.mp f.1 d (List.mem_of_getElem? hd)
        cases he : entD d with
        | some e =>
          rw [he] at hb
          obtain ⟨g1, g2⟩ := ent_of hD he
          exact .inl ⟨hb.symm, e, g1, g2⟩
        | none =>
          rw [he] at hb fd
          have fd : badD d = true := fd
          exact .inr ⟨hb.symm, bad_of hD fd⟩
    · rw [Bool.and_eq_true, Bool.and_eq_true, Bool.and_eq_true] at f
      obtain ⟨⟨⟨f1, f2⟩, f3⟩, f4⟩ := f
      obtain ⟨h1, h2, h3⟩ := ents_of a f1
      have e0 := DpAll.len a
      exact .inr (.inr ⟨ds.filterMap entD, ⟨_, xs, rfl, h, h1, h2⟩, by rw [← h1, e0]; exact of_decide_eq_true f2, by rw [← h1, e0]; exact of_decide_eq_true f3, h3, of_decide_eq_true f4⟩)
  | non => exact .inl (noTup_of (K := K) (H := H) .non rfl)
  | bl b => exact .inl (noTup_of (K := K) (H := H) (.bl b) rfl)
  | int i => exact .inl (noTup_of (K := K) (H := H) (.int i) rfl)
  | str z => exact .inl (noTup_of (K := K) (H := H) (.str z) rfl)
  | lst h a => exact .inl (noTup_of (K := K) (H := H) (.lst h a) rfl)
/-- an item at an index within the bounds -/
theorem pick_v {xs : List V} {P : V → Prop} {z : Int} (h0 : 0 ≤ z) (h1 : z < (xs.length : Int)) (h : ∀ x ∈ xs, P x) : ∃ v, atI xs z = some v ∧ P v := by
  obtain ⟨n, rfl⟩ : ∃ n : Nat, z = (n : Int) := ⟨z.toNat, by omega⟩
  have hn : n < xs.length := by omega
  exact ⟨xs[n], atI_nat (List.getElem?_eq_getElem hn), h _ (List.getElem_mem hn)⟩
theorem DpAll.mem {K : PySem.W.Frag} {H : Hp} {xs : List V} {ds : List PyData} (h : DpAll K H xs ds) {p : PyData → Bool} (hp : ds.all p = true) : ∀ x ∈ xs, ∃ d, p d = true ∧ Dp K H x d := fun x hx => by
  obtain ⟨i, hi⟩ := List.mem_iff_getElem?.mp hx
  obtain ⟨d, hd, hD⟩ := DpAll.at h hi
  exact ⟨d, List.all_eq_true.mp hp d (List.mem_of_getElem? hd), hD⟩
/-- what a deed is told -/
def KindSp (K : PySem.W.Frag) (C : Addr) (H : Hp) (m : Addr) (M : Mkt) (xs : List V) (Q : VK) : Prop :=
  ((∃ x, xs = [.str "insurer", x] ∧ NoName K H x ∧ ∀ H', Same H H' → Q (.str "name") H') ∨ (∃ x, xs = [.str "event", x] ∧ NoName K H x ∧ ∀ H', Same H H' → Q (.str "name") H') ∨
    (∃ x y w, xs = [.str "treaty", x, y, w] ∧ ((NoName K H x ∧ ∀ H', Same H H' → Q (.str "name") H') ∨ (IsName x ∧ NoCov K H y ∧ ∀ H', Same H H' → Q (.str "cover") H') ∨ (IsName x ∧ IsCovV K H y ∧ NoPan K H w ∧ ∀ H', Same H H' → Q (.str "panel") H') ∨
      ∃ (c z : Str) (vc : Addr) (cov : Cov) (n : Int), x = .str c ∧ IsName x ∧ y = .ref vc ∧ SqT K H vc (cvV cov) ∧ CvOk cov ∧ PanAt K H w [(some z, n)] ∧ PanOk [(some z, n)] ∧ c ∈ M.ins ∧ z ∈ M.ins ∧ c ≠ z ∧ M.trs.length < 16 ∧ TrsOk M.ins (M.trs ++ [⟨c, cov, [(some z, n)], false⟩]) ∧ M.evs.length ≤ 1000 ∧
        (∀ e ∈ M.evs, fate M.ins (M.trs ++ [⟨c, cov, [(some z, n)], false⟩]) (directs M.ins M.los e) true) ∧
        ∀ H', Bar m H H' → MktAt K C H' m { M with trs := M.trs ++ [⟨c, cov, [(some z, n)], false⟩] } → Q (.str "done") H')) ∨
    (∃ x y w, xs = [.str "loss", x, y, w] ∧ ((NoName K H x ∧ ∀ H', Same H H' → Q (.str "name") H') ∨ (IsName x ∧ NoName K H y ∧ ∀ H', Same H H' → Q (.str "name") H') ∨ (IsName x ∧ IsName y ∧ flatV w = true ∧ btw w 0 100000 = false ∧ ∀ H', Same H H' → Q (.str "amount") H') ∨
      ∃ (e z : Str) (n : Int), x = .str e ∧ IsName x ∧ y = .str z ∧ IsName y ∧ w = .int n ∧ btw w 0 100000 = true ∧ e ∈ M.evs ∧ z ∈ M.ins ∧ M.los = [] ∧ TrsOk M.ins M.trs ∧ M.evs.length ≤ 1000 ∧
        (∀ v ∈ M.evs, fate M.ins M.trs (directs M.ins [((e, z), n)] v) true) ∧ ∀ H', Bar m H H' → MktAt K C H' m { M with los := [((e, z), n)] } → Q (.str "done") H')))
def sp_law_kind (K : PySem.W.Frag) (C : Addr) : Sp := fun vs H Q _ => ∃ (m d : Addr) (M : Mkt) (xs : List V), vs = [.ref m, .ref d] ∧ MktAt K C H m M ∧ SqT K H d xs ∧ KindSp K C H m M xs Q
theorem no_str {a b : Str} (h : a ≠ b) : decide (V.str a = V.str b) = false := decide_eq_false (fun e => h (V.str.inj e))
theorem yes_v {a : V} : decide (a = a) = true := decide_eq_true rfl
/-- a deed that is refused, and what it is told -/
def KindOf (K : PySem.W.Frag) (H : Hp) (xs : List V) (r : Str) : Prop :=
  (∃ x, xs = [.str "insurer", x] ∧ NoName K H x ∧ r = "name") ∨ (∃ x, xs = [.str "event", x] ∧ NoName K H x ∧ r = "name") ∨
  (∃ x y w, xs = [.str "treaty", x, y, w] ∧ ((NoName K H x ∧ r = "name") ∨ (IsName x ∧ NoCov K H y ∧ r = "cover") ∨ (IsName x ∧ IsCovV K H y ∧ NoPan K H w ∧ r = "panel"))) ∨
  (∃ x y w, xs = [.str "loss", x, y, w] ∧ ((NoName K H x ∧ r = "name") ∨ (IsName x ∧ NoName K H y ∧ r = "name") ∨ (IsName x ∧ IsName y ∧ flatV w = true ∧ btw w 0 100000 = false ∧ r = "amount")))
theorem kind_to {K : PySem.W.Frag} {C : Addr} {H : Hp} {m : Addr} {M : Mkt} {xs : List V} {r : Str} {Q : VK} (h : KindOf K H xs r) (q : ∀ H', Same H H' → Q (.str r) H') : KindSp K C H m M xs Q := by
  rcases h with ⟨x, rfl, hn, rfl⟩ | ⟨x, rfl, hn, rfl⟩ | ⟨x, y, w, rfl, h⟩ | ⟨x, y, w, rfl, h⟩
  · exact .inl ⟨x, rfl, hn, q⟩
  · exact .inr (.inl ⟨x, rfl, hn, q⟩)
  · refine .inr (.inr (.inl ⟨x, y, w, rfl, ?_⟩))
    rcases h with ⟨hn, rfl⟩ | ⟨hn, hc, rfl⟩ | ⟨hn, hc, hp, rfl⟩
    · exact .inl ⟨hn, q⟩
    · exact .inr (.inl ⟨hn, hc, q⟩)
    · exact .inr (.inr (.inl ⟨hn, hc, hp, q⟩))
  · refine .inr (.inr (.inr ⟨x, y, w, rfl, ?_⟩))
    rcases h with ⟨hn, rfl⟩ | ⟨hn, hc, rfl⟩ | ⟨hn, hc, hf, hb, rfl⟩
    · exact .inl ⟨hn, q⟩
    · exact .inr (.inl ⟨hn, hc, q⟩)
    · exact .inr (.inr (.inl ⟨hn, hc, hf, hb, q⟩))
theorem KindOf.len {K : PySem.W.Frag} {H : Hp} {xs : List V} {r : Str} (h : KindOf K H xs r) : xs.length ≤ 100000 := by
  rcases h with ⟨x, rfl, _⟩ | ⟨x, rfl, _⟩ | ⟨x, y, w, rfl, h⟩ | ⟨x, y, w, rfl, h⟩ <;> simp
theorem Ya.imp {σ : L2.St} {t : TA} {H0 : Hp} {P R : Hp → List V → Prop} (h : Ya σ t H0 P) (f : ∀ H vs, P H vs → R H vs) : Ya σ t H0 R := fun H Q s q => h H Q s fun v H1 s1 p1 => q v H1 s1 fun H2 s2 => f H2 v (p1 H2 s2)
/-- a pair of a deed and what it is told -/
def PairDeed (r : Str) (R : Hp → List V → Prop) (H : Hp) (v : V) : Prop := ∃ (p d : Addr) (xs : List V), v = .ref p ∧ H p = some (.tup [.ref d, .str r]) ∧ H d = some (.tup xs) ∧ R H xs
theorem yl_deed {σ : L2.St} {t : TA} {H0 : Hp} {r : Str} {R : Hp → List V → Prop} (h : Ya σ t H0 R) (hz : ∀ H vs, R H vs → vs.length ≤ 100000) : Yl σ (tTup (tCons (tTup t) (tCons (tC (.str r)) tNil))) H0 (PairDeed r R) := fun H Q s q =>
  yl_tup (ya_cons (yl_tup h hz) (ya_cons yl_c ya_nil)) (fun H vs z => by
    obtain ⟨x, xs, rfl, _, y, ys, rfl, _, rfl⟩ := z
    exact (show 2 ≤ 100000 by decide)) H Q s fun v H1 s1 p1 => q v H1 s1 fun H2 s2 => by
      obtain ⟨p, xs, rfl, hp, x, ys, rfl, ⟨d, zs, rfl, hd, k⟩, y, ws, rfl, rfl, rfl⟩ := p1 H2 s2
      exact ⟨p, d, zs, rfl, hp, hd, k⟩
def AllP : List (Hp → V → Prop) → Hp → List V → Prop
  | [], _, vs => vs = []
  | P :: Ps, H, vs => ∃ x xs, vs = x :: xs ∧ P H x ∧ AllP Ps H xs
theorem yp_nil {σ : L2.St} {H0 : Hp} : Ya σ tNil H0 (AllP []) := ya_nil
theorem yp_cons {σ : L2.St} {H0 : Hp} {te : TE} {t : TA} {P : Hp → V → Prop} {Ps : List (Hp → V → Prop)} (h : Yl σ te H0 P) (r : Ya σ t H0 (AllP Ps)) : Ya σ (tCons te t) H0 (AllP (P :: Ps)) := ya_cons h r
theorem AllP.len {H : Hp} : ∀ {Ps : List (Hp → V → Prop)} {vs : List V}, AllP Ps H vs → vs.length = Ps.length
  | [], _, h => by
    have h : _ = [] := h
    rw [h]
    rfl
  | _ :: _, _, ⟨x, xs, e, _, r⟩ => by
    rw [e, List.length_cons, List.length_cons, AllP.len r]
theorem AllP.at {H : Hp} : ∀ {Ps : List (Hp → V → Prop)} {vs : List V} {i : Nat} {x : V}, AllP Ps H vs → vs[i]? = some x → ∃ P, Ps[i]? = some P ∧ P H x
  | [], _, _, _, h, g => by
    have h : _ = [] := h
    rw [h] at g
    simp at g
  | P :: _, _, 0, _, ⟨x, xs, e, p, _⟩, g => by
    rw [e] at g
    cases Option.some.inj g
    exact ⟨P, rfl, p⟩
  | _ :: _, _, i + 1, _, ⟨x, xs, e, _, r⟩, g => by
    rw [e] at g
    exact AllP.at (i := i) r g
theorem ya_2 {σ : L2.St} {H0 : Hp} {ta tb : TE} {P R : Hp → V → Prop} (h1 : Yl σ ta H0 P) (h2 : Yl σ tb H0 R) : Ya σ (tCons ta (tCons tb tNil)) H0 (fun H vs => ∃ x y, vs = [x, y] ∧ P H x ∧ R H y) :=
  (ya_cons h1 (ya_cons h2 ya_nil)).imp fun H vs z => by
    obtain ⟨x, xs, rfl, h, y, ys, rfl, g, rfl⟩ := z
    exact ⟨x, y, rfl, h, g⟩
theorem ya_4 {σ : L2.St} {H0 : Hp} {ta tb tc td : TE} {P1 P2 P3 P4 : Hp → V → Prop} (h1 : Yl σ ta H0 P1) (h2 : Yl σ tb H0 P2) (h3 : Yl σ tc H0 P3) (h4 : Yl σ td H0 P4) : Ya σ (tCons ta (tCons tb (tCons tc (tCons td tNil)))) H0 (fun H vs => ∃ x y z w, vs = [x, y, z, w] ∧ P1 H x ∧ P2 H y ∧ P3 H z ∧ P4 H w) :=
  (ya_cons h1 (ya_cons h2 (ya_cons h3 (ya_cons h4 ya_nil)))).imp fun H vs z => by
    obtain ⟨x, _, rfl, g1, y, _, rfl, g2, z, _, rfl, g3, w, _, rfl, g4, rfl⟩ := z
    exact ⟨x, y, z, w, rfl, g1, g2, g3, g4⟩
theorem isN {z : Str} (h : (decide (z.length ≤ 1000) && isNm z) = true) : IsName (.str z) := by
  rw [Bool.and_eq_true] at h
  exact ⟨z, rfl, of_decide_eq_true h.1, h.2⟩
def amtD (d : PyData) : Bool := flatD d && !btw (vD d) 0 100000
def Amt (x : V) : Prop := flatV x = true ∧ btw x 0 100000 = false
theorem amt_of {K : PySem.W.Frag} {H : Hp} {x : V} {d : PyData} (h : Dp K H x d) (f : amtD d = true) : Amt x := by
  unfold amtD at f
  rw [Bool.and_eq_true, Bool.not_eq_true'] at f
  obtain ⟨e, g⟩ := vD_of h f.1
  exact ⟨g, by rw [e]; exact f.2⟩
theorem yd_neg {K : PySem.W.Frag} {σ : L2.St} {H0 : Hp} {n : Int} : Yl σ (tUn (rU fun i => V.int (-i)) (tC (.int n))) H0 (fun H x => Dp K H x (.int (-n))) := fun H Q _ q => ⟨_, rfl, q _ H (Same.refl H) fun _ _ => .int _⟩
theorem yd_pow {K : PySem.W.Frag} {σ : L2.St} {H0 : Hp} {a b : Int} (h : CPow a b) : Yl σ (tOp (rI CPow fun i j => V.int (i ^ j.toNat)) (tC (.int a)) (tC (.int b))) H0 (fun H x => Dp K H x (.int (a ^ b.toNat))) := fun H Q _ q => ⟨_, _, rfl, rfl, h, q _ H (Same.refl H) fun _ _ => .int _⟩
/-- one of a list, by a cell of the script -/
theorem draw_to {K : PySem.W.Frag} {σ : L2.St} {H : Hp} {a p : Addr} {ns : List Int} {xs : List V} {P : V → Prop} {c m : Int} {Q : VK} (j : Nat) (hc : c = (j : Int)) (h0 : σ[0]? = some (some (.ref a))) (hS : SqL K H a (ns.map V.int)) (hp : SqL K H p xs) (hm : m = (xs.length : Int)) (h1 : 0 < m) (h : ∀ x ∈ xs, P x) (q : ∀ v, P v → Q v H) :
    tOp (rI (fun x j => 0 < j) fun i j => V.int (i % j)) (tCall (sp_law_cell K) [] E0 (tCons (tVar 0) (tCons (tC (V.int c)) tNil))) (tC (V.int m)) σ H (fun y H2 => rIxL K (.ref p) y H2 Q) := by
  subst hc
  refine ⟨_, h0, a, ns, j, rfl, hS, _, _, rfl, rfl, h1, ?_⟩
  obtain ⟨v, hv, hP⟩ := pick_v (z := cell ns j % m) (Int.emod_nonneg _ (by omega)) (by rw [← hm]; exact Int.emod_lt_of_pos _ h1) h
  exact ⟨p, xs, _, v, rfl, rfl, hp, hv, q v hP⟩
theorem for_lit {K : PySem.W.Frag} {te : TE} {g : TG} {tb : TS} {D : Ends} {σ : L2.St} {H : Hp} (h : te σ H fun x H1 => tFor (iList K (tC x)) g tb D σ H1) : tFor (iList K te) g tb D σ H := h
def M2 : Mkt := ⟨["a", "abcdefghijkl"], ["e"], [], []⟩
def t4 : Trt := ⟨"abcdefghijkl", .layer 100000 100000, [(some "a", 1)], false⟩
def M3 : Mkt := ⟨["a", "abcdefghijkl"], ["e"], [], [(("e", "a"), 100000)]⟩
def M4 : Mkt := ⟨["a", "abcdefghijkl"], ["e"], [t4], [(("e", "a"), 100000)]⟩
def Mi : Nat → Mkt
  | 10 => M3
  | 11 => M4
  | _ => M2
theorem nd2 : M2.ins.Nodup := by decide +kernel
theorem ok3 : TrsOk M2.ins [] := ⟨nd2, fun t h => (nomatch h), fun t h => (nomatch h), by decide, by decide⟩
theorem pan1 : PanOk [(some ("a" : Str), (1 : Int))] := ⟨by decide, by decide, fun e h => by
  cases List.mem_singleton.mp h
  refine ⟨fun z hz => ?_, by decide, by decide⟩
  cases Option.some.inj hz
  exact ⟨by decide +kernel, by decide +kernel⟩, by decide⟩
theorem ok4 : TrsOk M2.ins [t4] := ⟨nd2, fun t h => by
  cases List.mem_singleton.mp h
  exact ⟨(⟨by decide, by decide, by decide, by decide⟩ : (0 : Int) ≤ 100000 ∧ (100000 : Int) ≤ 100000 ∧ (1 : Int) ≤ 100000 ∧ (100000 : Int) ≤ 100000), pan1⟩, fun t h e he z hz => by
  cases List.mem_singleton.mp h
  cases List.mem_singleton.mp he
  cases Option.some.inj hz
  exact List.mem_cons_self, by decide, by decide⟩
theorem fate3 : ∀ v ∈ M2.evs, fate M2.ins M2.trs (directs M2.ins [(("e", "a"), 100000)] v) true := fun v h => by
  cases List.mem_singleton.mp h
  exact ⟨0, by decide, by decide +kernel, fun j hj => absurd hj (Nat.not_lt_zero j), by decide +kernel⟩
theorem fate4 : ∀ v ∈ M3.evs, fate M3.ins (M3.trs ++ [t4]) (directs M3.ins M3.los v) true := fun v h => by
  cases List.mem_singleton.mp h
  exact ⟨0, by decide, by decide +kernel, fun j hj => absurd hj (Nat.not_lt_zero j), by decide +kernel⟩
def deedPs (K : PySem.W.Frag) (pg : Addr) : List (Hp → V → Prop) :=
  [PairDeed "name" (fun H vs => KindOf K H vs "name"), PairDeed "name" (fun H vs => KindOf K H vs "name"), PairDeed "name" (fun H vs => KindOf K H vs "name"), PairDeed "cover" (fun H vs => KindOf K H vs "cover"), PairDeed "panel" (fun H vs => KindOf K H vs "panel"), PairDeed "cover" (fun H vs => KindOf K H vs "cover"),
    PairDeed "name" (fun H vs => KindOf K H vs "name"), PairDeed "name" (fun H vs => KindOf K H vs "name"), PairDeed "amount" (fun H vs => KindOf K H vs "amount"), PairDeed "done" (fun _ vs => vs = [.str "loss", .str "e", .str "a", .int 100000]),
    PairDeed "done" (fun H vs => ∃ c, vs = [.str "treaty", .str "abcdefghijkl", .ref c, .ref pg] ∧ SqT K H c (cvV (.layer 100000 100000)))]
theorem deed_lo {K : PySem.W.Frag} {pg : Addr} {P : Hp → V → Prop} (i : Nat) (hi : i ≤ 8) (h : (deedPs K pg)[i]? = some P) : ∃ r, P = PairDeed r (fun H vs => KindOf K H vs r) :=
  match i, hi, h with
  | 0, _, h => ⟨_, (Option.some.inj h).symm⟩
  | 1, _, h => ⟨_, (Option.some.inj h).symm⟩
  | 2, _, h => ⟨_, (Option.some.inj h).symm⟩
  | 3, _, h => ⟨_, (Option.some.inj h).symm⟩
  | 4, _, h => ⟨_, (Option.some.inj h).symm⟩
  | 5, _, h => ⟨_, (Option.some.inj h).symm⟩
  | 6, _, h => ⟨_, (Option.some.inj h).symm⟩
  | 7, _, h => ⟨_, (Option.some.inj h).symm⟩
  | 8, _, h => ⟨_, (Option.some.inj h).symm⟩
theorem mi_lo : ∀ i : Nat, i ≤ 9 → Mi i = M2
  | 0, _ => rfl
  | 1, _ => rfl
  | 2, _ => rfl
  | 3, _ => rfl
  | 4, _ => rfl
  | 5, _ => rfl
  | 6, _ => rfl
  | 7, _ => rfl
  | 8, _ => rfl
  | 9, _ => rfl
theorem sqt_bar {K : PySem.W.Frag} {H H' : Hp} {m a : Addr} {C dx : Addr} {fs : List (Str × V)} {xs : List V} (b : Bar m H H') (hm : H m = some (.ins C dx fs)) (h : SqT K H a xs) : SqT K H' a xs := by
  rcases h with (h | ⟨u, h⟩) | h
  · exact .inl (.inl (b a _ (ne_of h hm (by intro z; cases z)) h))
  · exact .inl (.inr ⟨u, b a _ (ne_of h hm (by intro z; cases z)) h⟩)
  · exact .inr h
theorem pan_bar {K : PySem.W.Frag} {H H' : Hp} {m : Addr} {C dx : Addr} {fs : List (Str × V)} {x : V} {ps : List (Option Str × Int)} (b : Bar m H H') (hm : H m = some (.ins C dx fs)) (h : PanAt K H x ps) : PanAt K H' x ps := by
  obtain ⟨a, xs, rfl, hS, hl, h⟩ := h
  refine ⟨a, xs, rfl, sqt_bar b hm hS, hl, fun i p hp => ?_⟩
  obtain ⟨y, h1, c, rfl, h2⟩ := h i p hp
  exact ⟨_, h1, c, rfl, sqt_bar b hm h2⟩
theorem isC {c : Cov} {K : PySem.W.Frag} {H : Hp} {x : V} {ds : List PyData} (h : Dp K H x (.tuple ds)) (f : ds.all flatD = true) (e : ds.map vD = cvV c) : ∃ a, x = .ref a ∧ SqT K H a (cvV c) := by
  cases h with
  | tup h a =>
    obtain ⟨e1, _⟩ := vD_all a f
    rw [e] at e1
    subst e1
    exact ⟨_, rfl, h⟩
def sp_law (K : PySem.W.Frag) : Sp := fun vs H Q _ => ∃ (a : Addr) (ns : List Int), vs = [.ref a] ∧ SqL K H a (ns.map V.int) ∧ ns.length ≤ 63 ∧ ∀ H', Q (.bl true) H'
def fl : List Str := ["a", "b", "c", "d", "e", "f"]
def xl3 : List Str := ["xa", "xb", "xc"]
def FM (i : Nat) : Mkt := ⟨fl.take i, xl3.take i, [], []⟩
theorem fl_facts : ∀ (i : Nat) (z : Str), fl[i]? = some z → (decide (z.length ≤ 1000) && isNm z) = true ∧ (fl.take i).length < 6 ∧ z ∉ fl.take i ∧ fl.take i ++ [z] = fl.take (i + 1) ∧
    ∃ c : Nat, z = ⟨#[c]⟩ ∧ ((decide (c ∈ ("abc" : Str).cps.toList) = true ∧ (("x" : Str).length + z.length ≤ 100000) ∧ (decide ((("x" : Str) ++ z).length ≤ 1000) && isNm ("x" ++ z)) = true ∧ (xl3.take i).length < 3 ∧ (("x" : Str) ++ z) ∉ xl3.take i ∧ xl3.take i ++ [("x" : Str) ++ z] = xl3.take (i + 1)) ∨
      (decide (c ∈ ("abc" : Str).cps.toList) = false ∧ xl3.take i = xl3.take (i + 1)))
  | 0, _, h => by
    cases Option.some.inj h
    exact ⟨by decide +kernel, by decide +kernel, by decide +kernel, by decide +kernel, 97, by decide +kernel, .inl ⟨by decide +kernel, by decide +kernel, by decide +kernel, by decide +kernel, by decide +kernel, by decide +kernel⟩⟩
  | 1, _, h => by
    cases Option.some.inj h
    exact ⟨by decide +kernel, by decide +kernel, by decide +kernel, by decide +kernel, 98, by decide +kernel, .inl ⟨by decide +kernel, by decide +kernel, by decide +kernel, by decide +kernel, by decide +kernel, by decide +kernel⟩⟩
  | 2, _, h => by
    cases Option.some.inj h
    exact ⟨by decide +kernel, by decide +kernel, by decide +kernel, by decide +kernel, 99, by decide +kernel, .inl ⟨by decide +kernel, by decide +kernel, by decide +kernel, by decide +kernel, by decide +kernel, by decide +kernel⟩⟩
  | 3, _, h => by
    cases Option.some.inj h
    exact ⟨by decide +kernel, by decide +kernel, by decide +kernel, by decide +kernel, 100, by decide +kernel, .inr ⟨by decide +kernel, by decide +kernel⟩⟩
  | 4, _, h => by
    cases Option.some.inj h
    exact ⟨by decide +kernel, by decide +kernel, by decide +kernel, by decide +kernel, 101, by decide +kernel, .inr ⟨by decide +kernel, by decide +kernel⟩⟩
  | 5, _, h => by
    cases Option.some.inj h
    exact ⟨by decide +kernel, by decide +kernel, by decide +kernel, by decide +kernel, 102, by decide +kernel, .inr ⟨by decide +kernel, by decide +kernel⟩⟩
  | n + 6, _, h => by
    have e : fl[n + 6]? = none := List.getElem?_eq_none (by show 6 ≤ n + 6; omega)
    rw [e] at h
    cases h
theorem dp_strs {K : PySem.W.Frag} {H : Hp} : ∀ zs : List Str, DpAll K H (zs.map V.str) (zs.map PyData.str)
  | [] => .nil
  | z :: r => .cons (.str z) (dp_strs r)

end Sd
namespace Sd
open PySem PySem.Spec PyProof.Rows L2
set_option linter.all false
section
variable {P : Program} {w : World} {K : PySem.W.Frag} {mg : Str → Option Value} {base : Heap} {C_BadName C_BadCover C_BadPanel C_BadAmount C_NameTaken C_NoSuchName C_Twice C_OwnPanel C_TooMany C_NoEnd C_Market : Addr}
theorem ok_NameTaken___init {f : Addr} {fd : FuncData} (D_NameTaken___init : Ini K C_NameTaken "NameTaken.__init__" s_NameTaken___init ["self", "name"] f fd) (T : Tx K mg C_BadName C_BadCover C_BadPanel C_BadAmount C_NameTaken C_NoSuchName C_Twice C_OwnPanel C_TooMany C_NoEnd C_Market) :
    FnOk P w K mg base CX0 (1) f fd ["self", "name"] (sp_xi "name" C_NameTaken) := by
  refine D_NameTaken___init.F.ok sc_NameTaken___init (fun vs H Q E h => ?_) (fun cdv A outer s H vs Q E hr h => ?_)
  · obtain ⟨a, v, rfl, ha, q⟩ := h
    rfl
  obtain ⟨a, v, rfl, ha, q⟩ := h
  refine ⟨_, (pss_one (ps_ost (pv 0) (pv 1))), ?_⟩
  exact ⟨_, rfl, _, rfl, a, C_NameTaken, rfl, T.ox_NameTaken.o, T.ox_NameTaken.no, .inl ⟨ha, q⟩⟩

theorem ok_NoSuchName___init {f : Addr} {fd : FuncData} (D_NoSuchName___init : Ini K C_NoSuchName "NoSuchName.__init__" s_NoSuchName___init ["self", "name"] f fd) (T : Tx K mg C_BadName C_BadCover C_BadPanel C_BadAmount C_NameTaken C_NoSuchName C_Twice C_OwnPanel C_TooMany C_NoEnd C_Market) :
    FnOk P w K mg base CX0 (1) f fd ["self", "name"] (sp_xi "name" C_NoSuchName) := by
  refine D_NoSuchName___init.F.ok sc_NoSuchName___init (fun vs H Q E h => ?_) (fun cdv A outer s H vs Q E hr h => ?_)
  · obtain ⟨a, v, rfl, ha, q⟩ := h
    rfl
  obtain ⟨a, v, rfl, ha, q⟩ := h
  refine ⟨_, (pss_one (ps_ost (pv 0) (pv 1))), ?_⟩
  exact ⟨_, rfl, _, rfl, a, C_NoSuchName, rfl, T.ox_NoSuchName.o, T.ox_NoSuchName.no, .inl ⟨ha, q⟩⟩

theorem ok_is_between {f : Addr} {fd : FuncData} (D_is_between : Dfn K mg "is_between" s_is_between ["value", "low", "high"] f fd) (T : Tx K mg C_BadName C_BadCover C_BadPanel C_BadAmount C_NameTaken C_NoSuchName C_Twice C_OwnPanel C_TooMany C_NoEnd C_Market) :
    FnOk P w K mg base CX0 (1) f fd ["value", "low", "high"] (sp_is_between K) := by
  refine D_is_between.F.ok sc_is_between (fun vs H Q E h => ?_) (fun cdv A outer s H vs Q E hr h => ?_)
  · obtain ⟨x, lo, hi, rfl, hf, q⟩ := h
    rfl
  obtain ⟨x, lo, hi, rfl, hf, q⟩ := h
  obtain ⟨n, ty, k⟩ := ty_flat (K := K) (H := H) hf
  rcases k with ⟨rfl, b, rfl⟩ | ⟨rfl, i, rfl⟩ | ⟨rfl | rfl, e⟩
  · refine ⟨_, (pss_cons (ps_if (PW.pt (pw_or (pt_val (pe_callB call_isi (by rfl) T.isinstance (by decide +kernel) (pa_cons (pv 0) (pa_cons (pe_bltn (v := .ty "bool") (by rfl) T.bool (by decide +kernel) rfl) pa_nil)))) (pw_or1 (pt_not (pt_val (pe_callB call_isi (by rfl) T.isinstance (by decide +kernel) (pa_cons (pv 0) (pa_cons (pe_bltn (v := .ty "int") (by rfl) T.int (by decide +kernel) rfl) pa_nil))))))))
      (pss_one (ps_ret pe_bl))
      pss_nil)
      (pss_one (ps_ret (pe_chain op_le op_le (pv 1) (pv 0) (pv 2))))), ?_⟩
    refine ⟨_, rfl, _, _, _, _, _, rfl, .ty _, ty, kit_ty (r := true) (by decide +kernel), _, rfl, iteT (iteT ?_)⟩
    exact q
  · refine ⟨_, (pss_cons (ps_if (PW.pt (pw_or (pt_val (pe_callB call_isi (by rfl) T.isinstance (by decide +kernel) (pa_cons (pv 0) (pa_cons (pe_bltn (v := .ty "bool") (by rfl) T.bool (by decide +kernel) rfl) pa_nil)))) (pw_or1 (pt_not (pt_val (pe_callB call_isi (by rfl) T.isinstance (by decide +kernel) (pa_cons (pv 0) (pa_cons (pe_bltn (v := .ty "int") (by rfl) T.int (by decide +kernel) rfl) pa_nil))))))))
      (pss_one (ps_ret pe_bl))
      pss_nil)
      (pss_one (ps_ret (pe_chain op_le op_le (pv 1) (pv 0) (pv 2))))), ?_⟩
    refine ⟨_, rfl, _, _, _, _, _, rfl, .ty _, ty, kit_ty (r := false) (by decide +kernel), _, rfl, iteF ?_⟩
    refine ⟨_, rfl, _, _, _, _, _, rfl, .ty _, ty, kit_ty (r := true) (by decide +kernel), _, rfl, iteF ?_⟩
    refine ⟨_, rfl, _, rfl, _, _, rfl, rfl, _, rfl, ?_⟩
    have q : Q (.bl (decide (lo ≤ i) && decide (i ≤ hi))) H := q
    refine iteB (fun c => ?_) (fun c => ?_)
    · rw [c, Bool.true_and] at q
      exact ⟨_, rfl, _, _, rfl, rfl, q⟩
    · rw [c, Bool.false_and] at q
      exact q
  · refine ⟨_, (pss_cons (ps_if (PW.pt (pw_or (pt_val (pe_callB call_isi (by rfl) T.isinstance (by decide +kernel) (pa_cons (pv 0) (pa_cons (pe_bltn (v := .ty "bool") (by rfl) T.bool (by decide +kernel) rfl) pa_nil)))) (pw_or1 (pt_not (pt_val (pe_callB call_isi (by rfl) T.isinstance (by decide +kernel) (pa_cons (pv 0) (pa_cons (pe_bltn (v := .ty "int") (by rfl) T.int (by decide +kernel) rfl) pa_nil))))))))
      (pss_one (ps_ret pe_bl))
      pss_nil)
      (pss_one (ps_ret (pe_chain op_le op_le (pv 1) (pv 0) (pv 2))))), ?_⟩
    rw [e] at q
    refine ⟨_, rfl, _, _, _, _, _, rfl, .ty _, ty, kit_ty (r := false) (by decide +kernel), _, rfl, iteF ?_⟩
    refine ⟨_, rfl, _, _, _, _, _, rfl, .ty _, ty, kit_ty (r := false) (by decide +kernel), _, rfl, iteT ?_⟩
    exact q
  · refine ⟨_, (pss_cons (ps_if (PW.pt (pw_or (pt_val (pe_callB call_isi (by rfl) T.isinstance (by decide +kernel) (pa_cons (pv 0) (pa_cons (pe_bltn (v := .ty "bool") (by rfl) T.bool (by decide +kernel) rfl) pa_nil)))) (pw_or1 (pt_not (pt_val (pe_callB call_isi (by rfl) T.isinstance (by decide +kernel) (pa_cons (pv 0) (pa_cons (pe_bltn (v := .ty "int") (by rfl) T.int (by decide +kernel) rfl) pa_nil))))))))
      (pss_one (ps_ret pe_bl))
      pss_nil)
      (pss_one (ps_ret (pe_chain op_le op_le (pv 1) (pv 0) (pv 2))))), ?_⟩
    rw [e] at q
    refine ⟨_, rfl, _, _, _, _, _, rfl, .ty _, ty, kit_ty (r := false) (by decide +kernel), _, rfl, iteF ?_⟩
    refine ⟨_, rfl, _, _, _, _, _, rfl, .ty _, ty, kit_ty (r := false) (by decide +kernel), _, rfl, iteT ?_⟩
    exact q

theorem ok_is_name {f : Addr} {fd : FuncData} (D_is_name : Dfn K mg "is_name" s_is_name ["value"] f fd) (T : Tx K mg C_BadName C_BadCover C_BadPanel C_BadAmount C_NameTaken C_NoSuchName C_Twice C_OwnPanel C_TooMany C_NoEnd C_Market) :
    FnOk P w K mg base CX0 (1) f fd ["value"] (sp_is_name K) := by
  refine D_is_name.F.ok sc_is_name (fun vs H Q E h => ?_) (fun cdv A outer s H vs Q E hr h => ?_)
  · obtain ⟨x, rfl, h⟩ := h
    rfl
  obtain ⟨x, rfl, h⟩ := h
  refine ⟨_, (pss_cons (ps_if (PW.pt (pw_or (pt_not (pt_val (pe_callB call_isi (by rfl) T.isinstance (by decide +kernel) (pa_cons (pv 0) (pa_cons (pe_bltn (v := .ty "str") (by rfl) T.str (by decide +kernel) rfl) pa_nil))))) (pw_or1 (pt_not (pt_chain op_le op_le pe_int (pe_callB call_len_str (by rfl) T.len PySem.boot_len (pa_cons (pv 0) pa_nil)) (pe_gi rfl T.g_MOST_LETTERS))))))
      (pss_one (ps_ret pe_bl))
      pss_nil)
      (pss_one (ps_ret (pe_callB (cr_all rfl) (by rfl) T.all (by decide +kernel) (pa_cons (pe_lc (own := [("letter", 1)]) (g := (gName 1)) (tt := tYes) rfl sc_is_name.nd (pi_str (pv 0)) (blkOk_by (own := [("letter", 1)]) (N := (["value", "letter"] : List Str)) (sc := defScope s_is_name) (by decide +kernel)) (fun _ _ _ _ _ => (pg_name (i := 1) sc_is_name.nd rfl (by first | exact Or.inl rfl | exact Or.inr rfl))) (fun _ _ _ _ _ => pts_nil) (fun _ _ _ _ _ => (pe_cmpR op_in_sign (pv 1) (pe_gs rfl T.g_LETTERS) (by with_unfolding_all rfl)))) pa_nil))))), ?_⟩
  rcases h with ⟨⟨z, rfl, hz, hn⟩, q⟩ | ⟨⟨z, rfl, hz, hn⟩ | ⟨t, ty, hk⟩, q⟩
  · refine ⟨_, rfl, _, _, _, _, _, rfl, .ty _, .base (.str z), kit_ty (r := true) (by decide +kernel), _, rfl, iteF ?_⟩
    unfold isNm at hn
    rw [Bool.and_eq_true, Bool.and_eq_true] at hn
    obtain ⟨⟨h1, h2⟩, h3⟩ := hn
    refine ⟨_, rfl, z, rfl, sz (by omega), _, _, rfl, rfl, _, rfl, ?_⟩
    have h1' : decide ((1 : Int) ≤ (z.length : Int)) = true := decide_eq_true (by have := of_decide_eq_true h1; omega)
    rw [h1']
    refine iteT ⟨_, _, rfl, rfl, _, rfl, ?_⟩
    have h2' : decide ((z.length : Int) ≤ 12) = true := decide_eq_true (by have := of_decide_eq_true h2; omega)
    rw [h2']
    refine iteF ?_
    refine ⟨_, rfl, z, rfl, fun D nD => lc_it walk_str (fun i H' => Same H H' ∧ H' D = some (.lst (((z.cps.toList.map fun c => decide (c ∈ lets)).map V.bl).take i))) ⟨same_new nD, upd_same⟩ (fun _ _ _ _ => trivial) ?_ ?_⟩
    · rintro i x H1 H' hi ⟨sm, hD⟩ ⟨rfl, c, hc, rfl⟩
      have hy : ((z.cps.toList.map fun c => decide (c ∈ lets)).map V.bl)[i]? = some (.bl (decide (c ∈ lets))) := by
        rw [List.getElem?_map, List.getElem?_map, Array.getElem?_toList, hc]
        rfl
      exact ⟨rfl, ⟨_, rfl, c, _, rfl, rfl, acc_to nD sm hD hy (by rw [List.length_map, List.length_map]; exact Nat.le_trans hz (by decide))⟩⟩
    · rintro H' ⟨sm, hD⟩
      have hD2 := acc_all (by rw [List.length_map, List.length_map]; rfl) hD
      refine ⟨D, _, rfl, SqL.of hD2, ?_⟩
      rw [List.all_map]
      have e : (z.cps.toList.all (id ∘ fun c => decide (c ∈ lets))) = true := h3
      rw [e]
      exact q H' sm
  · refine ⟨_, rfl, _, _, _, _, _, rfl, .ty _, .base (.str z), kit_ty (r := true) (by decide +kernel), _, rfl, iteF ?_⟩
    unfold isNm at hn
    refine ⟨_, rfl, z, rfl, sz (by omega), _, _, rfl, rfl, _, rfl, ?_⟩
    have e1 : decide ((1 : Int) ≤ (z.length : Int)) = decide (1 ≤ z.length) := by
      by_cases h : 1 ≤ z.length
      · rw [decide_eq_true h, decide_eq_true (by omega)]
      · rw [decide_eq_false h, decide_eq_false (by omega)]
    rw [e1]
    refine iteB (fun h1 => ?_) (fun h1 => ?_)
    · refine ⟨_, _, rfl, rfl, _, rfl, ?_⟩
      have e2 : decide ((z.length : Int) ≤ 12) = decide (z.length ≤ 12) := by
        by_cases h : z.length ≤ 12
        · rw [decide_eq_true h, decide_eq_true (by omega)]
        · rw [decide_eq_false h, decide_eq_false (by omega)]
      rw [e2]
      cases h2 : decide (z.length ≤ 12) with
      | false => exact iteT (q H (Same.refl H))
      | true =>
        rw [h1, h2, Bool.true_and, Bool.true_and] at hn
        refine iteF ?_
        refine ⟨_, rfl, z, rfl, fun D nD => lc_it walk_str (fun i H' => Same H H' ∧ H' D = some (.lst (((z.cps.toList.map fun c => decide (c ∈ lets)).map V.bl).take i))) ⟨same_new nD, upd_same⟩ (fun _ _ _ _ => trivial) ?_ ?_⟩
        · rintro i x H1 H' hi ⟨sm, hD⟩ ⟨rfl, c, hc, rfl⟩
          have hy : ((z.cps.toList.map fun c => decide (c ∈ lets)).map V.bl)[i]? = some (.bl (decide (c ∈ lets))) := by
            rw [List.getElem?_map, List.getElem?_map, Array.getElem?_toList, hc]
            rfl
          exact ⟨rfl, ⟨_, rfl, c, _, rfl, rfl, acc_to nD sm hD hy (by rw [List.length_map, List.length_map]; exact Nat.le_trans hz (by decide))⟩⟩
        · rintro H' ⟨sm, hD⟩
          have hD2 := acc_all (by rw [List.length_map, List.length_map]; rfl) hD
          refine ⟨D, _, rfl, SqL.of hD2, ?_⟩
          rw [List.all_map]
          have e : (z.cps.toList.all (id ∘ fun c => decide (c ∈ lets))) = false := hn
          rw [e]
          exact q H' sm
    · exact ⟨_, rfl, iteT (q H (Same.refl H))⟩
  · exact ⟨_, rfl, _, _, _, _, _, rfl, .ty _, ty, hk, _, rfl, iteT (iteT (q H (Same.refl H)))⟩

theorem ok_check_name {f : Addr} {fd : FuncData} (D_check_name : Dfn K mg "check_name" s_check_name ["value"] f fd) (T : Tx K mg C_BadName C_BadCover C_BadPanel C_BadAmount C_NameTaken C_NoSuchName C_Twice C_OwnPanel C_TooMany C_NoEnd C_Market) {f_is_name : Addr} {fd_is_name : FuncData} (D_is_name : Dfn K mg "is_name" s_is_name ["value"] f_is_name fd_is_name) (G_is_name : FnOk P w K mg base CX0 (1) f_is_name fd_is_name ["value"] (sp_is_name K)) :
    FnOk P w K mg base (L2.CX P w) (2) f fd ["value"] (sp_check_name K C_BadName) := by
  refine D_check_name.F.okX sc_check_name (fun vs H Q E h => ?_) (fun cdv A outer s H vs Q E hr h => ?_)
  · obtain ⟨x, rfl, h⟩ := h
    rfl
  obtain ⟨x, rfl, h⟩ := h
  refine ⟨_, (pss_one (ps_if (pt_not (pt_val (pe_call G_is_name (hr.mono (by first | decide | omega)) rfl D_is_name.m D_is_name.F.kp D_is_name.b .nil pass0 (pa_cons (pv 0) pa_nil))))
      (pss_one (ps_raise rfl (takes_of rfl rfl rfl rfl) (pmk_own PySem.F.excBase_ValueError T.exc_BadName.x T.exc_BadName.g T.exc_BadName.k (raises_own T.exc_BadName.b T.exc_BadName.t) rfl)))
      pss_nil)), ?_⟩
  rcases h with ⟨h, q⟩ | ⟨h, q⟩
  · exact ⟨_, rfl, _, rfl, .inl ⟨h, fun H' sm => ⟨_, rfl, iteF (q H' sm)⟩⟩⟩
  · exact ⟨_, rfl, _, rfl, .inr ⟨h, fun H' sm => ⟨_, rfl, iteT (q H' sm)⟩⟩⟩

theorem ok_check_known {f : Addr} {fd : FuncData} (D_check_known : Dfn K mg "check_known" s_check_known ["name", "names"] f fd) (T : Tx K mg C_BadName C_BadCover C_BadPanel C_BadAmount C_NameTaken C_NoSuchName C_Twice C_OwnPanel C_TooMany C_NoEnd C_Market) {f_NoSuchName___init : Addr} {fd_NoSuchName___init : FuncData} (D_NoSuchName___init : Ini K C_NoSuchName "NoSuchName.__init__" s_NoSuchName___init ["self", "name"] f_NoSuchName___init fd_NoSuchName___init) (G_NoSuchName___init : FnOk P w K mg base CX0 (1) f_NoSuchName___init fd_NoSuchName___init ["self", "name"] (sp_xi "name" C_NoSuchName)) :
    FnOk P w K mg base (L2.CX P w) (3) f fd ["name", "names"] (sp_check_known K C_NoSuchName) := by
  refine D_check_known.F.okX sc_check_known (fun vs H Q E h => ?_) (fun cdv A outer s H vs Q E hr h => ?_)
  · obtain ⟨z, a, ys, rfl, hS, h⟩ := h
    rfl
  obtain ⟨z, a, ys, rfl, hS, h⟩ := h
  refine ⟨_, (pss_one (ps_if (pt_cmpR op_notIn_seq (pv 0) (pv 1) (by with_unfolding_all rfl))
      (pss_one (ps_raise rfl (takes_of rfl rfl rfl rfl) (pmk_oex T.ox_NoSuchName.o D_NoSuchName___init.i D_NoSuchName___init.t G_NoSuchName___init (hr.mono (by first | decide | omega)) D_NoSuchName___init.b .nil pass0 rfl T.ox_NoSuchName.g (pa_cons (pv 0) pa_nil))))
      pss_nil)), ?_⟩
  refine ⟨_, rfl, _, rfl, a, ys.map V.str, rfl, .inr hS, rfl, flat_strs ys, ?_⟩
  rw [inV_str]
  rcases h with ⟨hz, q⟩ | ⟨hz, q⟩
  · rw [decide_eq_true hz]
    exact ⟨_, rfl, iteF q⟩
  · rw [decide_eq_false hz]
    exact ⟨_, rfl, iteT ⟨_, rfl, mkO_to fun d nd => q d nd⟩⟩

theorem ok_is_entry {f : Addr} {fd : FuncData} (D_is_entry : Dfn K mg "is_entry" s_is_entry ["value"] f fd) (T : Tx K mg C_BadName C_BadCover C_BadPanel C_BadAmount C_NameTaken C_NoSuchName C_Twice C_OwnPanel C_TooMany C_NoEnd C_Market) {f_is_name : Addr} {fd_is_name : FuncData} (D_is_name : Dfn K mg "is_name" s_is_name ["value"] f_is_name fd_is_name) (G_is_name : FnOk P w K mg base CX0 (1) f_is_name fd_is_name ["value"] (sp_is_name K)) {f_is_between : Addr} {fd_is_between : FuncData} (D_is_between : Dfn K mg "is_between" s_is_between ["value", "low", "high"] f_is_between fd_is_between) (G_is_between : FnOk P w K mg base CX0 (1) f_is_between fd_is_between ["value", "low", "high"] (sp_is_between K)) :
    FnOk P w K mg base CX0 (2) f fd ["value"] (sp_is_entry K) := by
  refine D_is_entry.F.ok sc_is_entry (fun vs H Q E h => ?_) (fun cdv A outer s H vs Q E hr h => ?_)
  · obtain ⟨x, rfl, h⟩ := h
    rfl
  obtain ⟨x, rfl, h⟩ := h
  refine ⟨_, (pss_cons (ps_if (PW.pt (pw_or (pt_not (pt_val (pe_callB call_isi (by rfl) T.isinstance (by decide +kernel) (pa_cons (pv 0) (pa_cons (pe_bltn (v := .ty "tuple") (by rfl) T.tuple (by decide +kernel) rfl) pa_nil))))) (pw_or1 (pt_cmpR op_ne (pe_callB call_len_seq (by rfl) T.len PySem.boot_len (pa_cons (pv 0) pa_nil)) pe_int (nomark _)))))
      (pss_one (ps_ret pe_bl))
      pss_nil)
      (pss_cons (ps_asg (pv 0) (pg_tup rfl (pgs_cons (pg_name (i := 1) sc_is_entry.nd rfl (by first | exact Or.inl rfl | exact Or.inr rfl)) (pgs_cons (pg_name (i := 2) sc_is_entry.nd rfl (by first | exact Or.inl rfl | exact Or.inr rfl)) pgs_nil))))
      (pss_cons (ps_if (PW.pt (pw_and (pt_cmpR op_notN (pv 1) pe_non (nomark _)) (pw_and1 (pt_not (pt_val (pe_call G_is_name (hr.mono (by first | decide | omega)) rfl D_is_name.m D_is_name.F.kp D_is_name.b .nil pass0 (pa_cons (pv 1) pa_nil)))))))
      (pss_one (ps_ret pe_bl))
      pss_nil)
      (pss_one (ps_ret (pe_call G_is_between (hr.mono (by first | decide | omega)) rfl D_is_between.m D_is_between.F.kp D_is_between.b .nil pass0 (pa_cons (pv 2) (pa_cons pe_int (pa_cons (pe_gi rfl T.g_MOST_SHARES) pa_nil))))))))), ?_⟩
  rcases h with ⟨e, ⟨a, rfl, hS⟩, ⟨hn, h1, h2⟩, q⟩ | ⟨⟨t, ty, hk⟩ | ⟨a, xs, rfl, hS, hl, h⟩, q⟩
  · refine ⟨_, rfl, _, _, _, _, _, rfl, .ty _, tyx_tup hS, kit_ty (r := true) (by decide +kernel), _, rfl, iteF ?_⟩
    refine ⟨_, rfl, a, _, rfl, .inr hS, rfl, _, rfl, iteF ?_⟩
    refine ⟨_, rfl, a, _, rfl, hS, rfl, _, _, rfl, _, _, rfl, rfl, ?_⟩
    have e2 : btw (.int e.2) 1 100 = true := by
      show (decide (1 ≤ e.2) && decide (e.2 ≤ 100)) = true
      rw [decide_eq_true h1, decide_eq_true h2]
      rfl
    rcases e with ⟨_ | z, n⟩
    · refine ⟨_, rfl, rfl, _, rfl, iteF (iteF ?_)⟩
      refine ⟨_, rfl, .int n, 1, 100, rfl, rfl, ?_⟩
      rw [show btw (.int n) 1 100 = true from e2]
      exact q H (Same.refl H)
    · obtain ⟨hz, hz2⟩ := hn z rfl
      refine ⟨_, rfl, rfl, _, rfl, iteT ?_⟩
      refine ⟨_, rfl, _, rfl, .inl ⟨⟨z, rfl, hz2, hz⟩, fun H' sm => ⟨_, rfl, iteF ?_⟩⟩⟩
      refine ⟨_, rfl, .int n, 1, 100, rfl, rfl, ?_⟩
      rw [show btw (.int n) 1 100 = true from e2]
      exact q H' sm
  · exact ⟨_, rfl, _, _, _, _, _, rfl, .ty _, ty, hk, _, rfl, iteT (iteT (q H (Same.refl H)))⟩
  · refine ⟨_, rfl, _, _, _, _, _, rfl, .ty _, tyx_tup hS, kit_ty (r := true) (by decide +kernel), _, rfl, iteF ?_⟩
    refine ⟨_, rfl, a, _, rfl, .inr hS, rfl, _, rfl, ?_⟩
    by_cases h2 : xs.length = 2
    · have e2 : decide (V.int ((xs.length : Nat) : Int) = V.int 2) = true := decide_eq_true (by rw [h2]; rfl)
      rw [e2]
      refine iteF ?_
      rcases h with h | ⟨p, s, rfl, fs, h⟩
      · exact absurd h2 h
      refine ⟨_, rfl, a, _, rfl, hS, rfl, _, _, rfl, _, _, rfl, rfl, ?_⟩
      have fin : ∀ H', Same H H' → btw s 1 100 = false → tRet (tCall (sp_is_between K) [] E0 (tCons (tVar 2) (tCons (tC (.int 1)) (tCons (tC (.int 100)) tNil)))) { nx := fun _ H' => Q .non H', rt := Q } [some (.ref a), some p, some s] H' := fun H' sm hb => by
        refine ⟨_, rfl, s, 1, 100, rfl, fs, ?_⟩
        rw [hb]
        exact q H' sm
      rcases h with ⟨np, h⟩ | ⟨rfl | h, hb⟩
      · refine ⟨_, rfl, rfl, ?_⟩
        rw [decide_eq_false np]
        refine ⟨_, rfl, iteT ?_⟩
        exact ⟨_, rfl, _, rfl, .inr ⟨h, fun H' sm => ⟨_, rfl, iteT (q H' sm)⟩⟩⟩
      · exact ⟨_, rfl, rfl, _, rfl, iteF (iteF (fin H (Same.refl H) hb))⟩
      · obtain ⟨z, rfl, hz⟩ := id h
        refine ⟨_, rfl, rfl, _, rfl, iteT ?_⟩
        exact ⟨_, rfl, _, rfl, .inl ⟨h, fun H' sm => ⟨_, rfl, iteF (fin H' sm hb)⟩⟩⟩
    · have e2 : decide (V.int ((xs.length : Nat) : Int) = V.int 2) = false := decide_eq_false (fun e => h2 (by have := V.int.inj e; omega))
      rw [e2]
      exact iteT (q H (Same.refl H))

theorem ok_is_panel {f : Addr} {fd : FuncData} (D_is_panel : Dfn K mg "is_panel" s_is_panel ["value"] f fd) (T : Tx K mg C_BadName C_BadCover C_BadPanel C_BadAmount C_NameTaken C_NoSuchName C_Twice C_OwnPanel C_TooMany C_NoEnd C_Market) {f_is_entry : Addr} {fd_is_entry : FuncData} (D_is_entry : Dfn K mg "is_entry" s_is_entry ["value"] f_is_entry fd_is_entry) (G_is_entry : FnOk P w K mg base CX0 (2) f_is_entry fd_is_entry ["value"] (sp_is_entry K)) :
    FnOk P w K mg base CX0 (3) f fd ["value"] (sp_is_panel K) := by
  refine D_is_panel.F.ok sc_is_panel (fun vs H Q E h => ?_) (fun cdv A outer s H vs Q E hr h => ?_)
  · obtain ⟨x, rfl, h⟩ := h
    rfl
  obtain ⟨x, rfl, h⟩ := h
  refine ⟨_, (pss_cons (ps_if (PW.pt (pw_or (pt_not (pt_val (pe_callB call_isi (by rfl) T.isinstance (by decide +kernel) (pa_cons (pv 0) (pa_cons (pe_bltn (v := .ty "tuple") (by rfl) T.tuple (by decide +kernel) rfl) pa_nil))))) (pw_or1 (pt_not (pt_chain op_le op_le pe_int (pe_callB call_len_seq (by rfl) T.len PySem.boot_len (pa_cons (pv 0) pa_nil)) (pe_gi rfl T.g_MOST_ENTRIES))))))
      (pss_one (ps_ret pe_bl))
      pss_nil)
      (pss_cons (ps_if (pt_not (pt_val (pe_callB (cr_all rfl) (by rfl) T.all (by decide +kernel) (pa_cons (pe_lc (own := [("entry", 1)]) (g := (gName 1)) (tt := tYes) rfl sc_is_panel.nd (pi_tup (pv 0)) (blkOk_by (own := [("entry", 1)]) (N := (["value", "entry", "_", "shares"] : List Str)) (sc := defScope s_is_panel) (by decide +kernel)) (fun _ _ _ _ _ => (pg_name (i := 1) sc_is_panel.nd rfl (by first | exact Or.inl rfl | exact Or.inr rfl))) (fun _ _ _ _ _ => pts_nil) (fun _ _ _ _ _ => (pe_call G_is_entry (hr.mono (by first | decide | omega)) rfl D_is_entry.m D_is_entry.F.kp D_is_entry.b .nil pass0 (pa_cons (pv 1) pa_nil)))) pa_nil))))
      (pss_one (ps_ret pe_bl))
      pss_nil)
      (pss_one (ps_ret (pe_cmpR op_le (pe_callB (cr_sumS rfl) (by rfl) T.sum (by decide +kernel) (pa_cons (pe_lc (own := [("_", 2), ("shares", 3)]) (g := (gTup K 2 (gCons (gName 2) (gCons (gName 3) gNil)))) (tt := tYes) rfl sc_is_panel.nd (pi_tup (pv 0)) (blkOk_by (own := [("_", 2), ("shares", 3)]) (N := (["value", "entry", "_", "shares"] : List Str)) (sc := defScope s_is_panel) (by decide +kernel)) (fun _ _ _ _ _ => (pg_tup rfl (pgs_cons (pg_name (i := 2) sc_is_panel.nd rfl (by first | exact Or.inl rfl | exact Or.inr rfl)) (pgs_cons (pg_name (i := 3) sc_is_panel.nd rfl (by first | exact Or.inl rfl | exact Or.inr rfl)) pgs_nil)))) (fun _ _ _ _ _ => pts_nil) (fun _ _ _ _ _ => (pv 3))) pa_nil)) (pe_gi rfl T.g_MOST_SHARES) (nomark _)))))), ?_⟩
  have U : (∃ t, TyX K H x t ∧ PySem.W.kitOne K t (.type "tuple") = some false ∧ ∀ H', Same H H' → Q (.bl false) H') ∨
      (∃ (a : Addr) (xs : List V), x = .ref a ∧ SqT K H a xs ∧ xs.length ≤ 1000 ∧ (xs.length = 0 ∨ 6 < xs.length) ∧ ∀ H', Same H H' → Q (.bl false) H') ∨
      ∃ (a : Addr) (xs : List V) (bs : List Bool), x = .ref a ∧ SqT K H a xs ∧ 1 ≤ xs.length ∧ xs.length ≤ 6 ∧ Cls6 K H xs bs ∧
        ((bs.all id = false ∧ ∀ H', Same H H' → Q (.bl false) H') ∨ (bs.all id = true ∧ ∃ ns : List Int, ns.length = xs.length ∧ (∀ (i : Nat) y, xs[i]? = some y → ∃ b p n, y = .ref b ∧ SqT K H b [p, .int n] ∧ ns[i]? = some n) ∧ ∀ H', Same H H' → Q (.bl (decide (ns.sum ≤ 100))) H')) := by
    rcases h with ⟨ps, ⟨a, xs, rfl, hS, hl, hE⟩, hok, q⟩ | ⟨⟨t, ty, hk⟩ | ⟨a, xs, bs, rfl, hS, hl, h⟩ | ⟨ps, ⟨a, xs, rfl, hS, hl, hE⟩, h1, h6, hok, hsum⟩, q⟩
    · obtain ⟨g1, g2, g3, g4⟩ := cls_good hl hE hok.ent
      have h1 := hok.lo
      have h6 := hok.hi
      refine .inr (.inr ⟨a, xs, _, rfl, hS, by omega, by omega, g1, .inr ⟨g2, _, g3, g4, ?_⟩⟩)
      rw [decide_eq_true hok.sum]
      exact q
    · exact .inl ⟨t, ty, hk, q⟩
    · by_cases h0 : xs.length = 0
      · exact .inr (.inl ⟨a, xs, rfl, hS, hl, .inl h0, q⟩)
      · by_cases h6 : 6 < xs.length
        · exact .inr (.inl ⟨a, xs, rfl, hS, hl, .inr h6, q⟩)
        · rcases h with h | h | ⟨hb, ha, hc⟩
          · exact absurd h h0
          · exact absurd h h6
          · exact .inr (.inr ⟨a, xs, bs, rfl, hS, by omega, by omega, ⟨hb, hc⟩, .inl ⟨ha, q⟩⟩)
    · obtain ⟨g1, g2, g3, g4⟩ := cls_good hl hE hok
      refine .inr (.inr ⟨a, xs, _, rfl, hS, by omega, by omega, g1, .inr ⟨g2, _, g3, g4, ?_⟩⟩)
      rw [decide_eq_false (by omega)]
      exact q
  rcases U with ⟨t, ty, hk, q⟩ | ⟨a, xs, rfl, hS, hl, h, q⟩ | ⟨a, xs, bs, rfl, hS, h1, h6, ⟨hb, hc⟩, h⟩
  · exact ⟨_, rfl, _, _, _, _, _, rfl, .ty _, ty, hk, _, rfl, iteT (iteT (q H (Same.refl H)))⟩
  · refine ⟨_, rfl, _, _, _, _, _, rfl, .ty _, tyx_tup hS, kit_ty (r := true) (by decide +kernel), _, rfl, iteF ?_⟩
    refine ⟨_, rfl, a, _, rfl, .inr hS, _, _, rfl, rfl, _, rfl, ?_⟩
    rcases h with h | h
    · rw [decide_eq_false (show ¬ (1 : Int) ≤ ((xs.length : Nat) : Int) by omega)]
      exact ⟨_, rfl, iteT (q H (Same.refl H))⟩
    · rw [decide_eq_true (show (1 : Int) ≤ ((xs.length : Nat) : Int) by omega)]
      refine iteT ⟨_, _, rfl, rfl, _, rfl, ?_⟩
      rw [decide_eq_false (show ¬ ((xs.length : Nat) : Int) ≤ 6 by omega)]
      exact iteT (q H (Same.refl H))
  · refine ⟨_, rfl, _, _, _, _, _, rfl, .ty _, tyx_tup hS, kit_ty (r := true) (by decide +kernel), _, rfl, iteF ?_⟩
    refine ⟨_, rfl, a, _, rfl, .inr hS, _, _, rfl, rfl, _, rfl, ?_⟩
    rw [decide_eq_true (show (1 : Int) ≤ ((xs.length : Nat) : Int) by omega)]
    refine iteT ⟨_, _, rfl, rfl, _, rfl, ?_⟩
    rw [decide_eq_true (show ((xs.length : Nat) : Int) ≤ 6 by omega)]
    refine iteF ?_
    have hbl : (bs.map V.bl).length = xs.length := by rw [List.length_map, hb]
    refine ⟨_, rfl, a, rfl, ⟨_, hS⟩, fun D nD => lc_tup (K := K) (a := a) (xs := xs) (fun i H' => Same H H' ∧ H' D = some (.lst ((bs.map V.bl).take i))) ⟨same_new nD, upd_same⟩ (fun i H' _ z => same_sqt z.1 hS) ?_ ?_⟩
    · rintro i y H' hi ⟨sm, hD⟩
      have hil := (List.getElem?_eq_some_iff.mp hi).1
      have hbi : bs[i]? = some bs[i] := List.getElem?_eq_getElem (by omega)
      have hy : (bs.map V.bl)[i]? = some (.bl bs[i]) := by
        rw [List.getElem?_map, hbi]
        rfl
      refine ⟨rfl, ?_⟩
      rcases hc i y _ hi hbi with ⟨eb, e, hA, hok⟩ | ⟨eb, hB⟩
      · rw [eb] at hy
        exact ⟨_, rfl, y, rfl, .inl ⟨e, EntAt.same sm hA, hok, fun H1 s1 => acc_to nD (sm.trans s1) (s1 _ _ hD) hy (by omega)⟩⟩
      · rw [eb] at hy
        exact ⟨_, rfl, y, rfl, .inr ⟨BadEnt.same sm hB, fun H1 s1 => acc_to nD (sm.trans s1) (s1 _ _ hD) hy (by omega)⟩⟩
    · rintro H' ⟨sm, hD⟩
      have hD2 := acc_all hbl.symm hD
      refine ⟨D, bs, rfl, SqL.of hD2, _, rfl, ?_⟩
      rcases h with ⟨ha, q⟩ | ⟨ha, ns, hn, hx, q⟩
      · rw [ha]
        exact iteT (q H' sm)
      · rw [ha]
        refine iteF ?_
        have hS' := same_sqt sm hS
        refine ⟨_, rfl, a, rfl, ⟨_, hS'⟩, fun G nG => lc_tup (K := K) (a := a) (xs := xs) (fun i H1 => Same H' H1 ∧ H1 G = some (.lst ((ns.map V.int).take i))) ⟨same_new nG, upd_same⟩ (fun i H1 _ z => same_sqt z.1 hS') ?_ ?_⟩
        · rintro i y H1 hi ⟨s1, hG⟩
          obtain ⟨b, p, n, rfl, hb2, hn2⟩ := hx i y hi
          refine ⟨b, _, rfl, same_sqt (sm.trans s1) hb2, rfl, _, _, rfl, _, _, rfl, rfl, rfl, ?_⟩
          exact ⟨_, rfl, acc_to nG s1 hG (at_map hn2) (by rw [List.length_map]; omega)⟩
        · rintro H1 ⟨s1, hG⟩
          have hG2 := acc_all (by rw [List.length_map, hn]) hG
          exact ⟨G, ns, rfl, .inl (SqL.of hG2), _, _, rfl, rfl, q H1 (sm.trans s1)⟩

theorem ok_check_panel {f : Addr} {fd : FuncData} (D_check_panel : Dfn K mg "check_panel" s_check_panel ["value"] f fd) (T : Tx K mg C_BadName C_BadCover C_BadPanel C_BadAmount C_NameTaken C_NoSuchName C_Twice C_OwnPanel C_TooMany C_NoEnd C_Market) {f_is_panel : Addr} {fd_is_panel : FuncData} (D_is_panel : Dfn K mg "is_panel" s_is_panel ["value"] f_is_panel fd_is_panel) (G_is_panel : FnOk P w K mg base CX0 (3) f_is_panel fd_is_panel ["value"] (sp_is_panel K)) :
    FnOk P w K mg base (L2.CX P w) (4) f fd ["value"] (sp_check_panel K C_BadPanel) := by
  refine D_check_panel.F.okX sc_check_panel (fun vs H Q E h => ?_) (fun cdv A outer s H vs Q E hr h => ?_)
  · obtain ⟨x, rfl, h⟩ := h
    rfl
  obtain ⟨x, rfl, h⟩ := h
  refine ⟨_, (pss_one (ps_if (pt_not (pt_val (pe_call G_is_panel (hr.mono (by first | decide | omega)) rfl D_is_panel.m D_is_panel.F.kp D_is_panel.b .nil pass0 (pa_cons (pv 0) pa_nil))))
      (pss_one (ps_raise rfl (takes_of rfl rfl rfl rfl) (pmk_own PySem.F.excBase_ValueError T.exc_BadPanel.x T.exc_BadPanel.g T.exc_BadPanel.k (raises_own T.exc_BadPanel.b T.exc_BadPanel.t) rfl)))
      pss_nil)), ?_⟩
  rcases h with ⟨ps, h, hok, q⟩ | ⟨h, q⟩
  · exact ⟨_, rfl, _, rfl, .inl ⟨ps, h, hok, fun H' sm => ⟨_, rfl, iteF (q H' sm)⟩⟩⟩
  · exact ⟨_, rfl, _, rfl, .inr ⟨h, fun H' sm => ⟨_, rfl, iteT (q H' sm)⟩⟩⟩

theorem ok_is_cover {f : Addr} {fd : FuncData} (D_is_cover : Dfn K mg "is_cover" s_is_cover ["value"] f fd) (T : Tx K mg C_BadName C_BadCover C_BadPanel C_BadAmount C_NameTaken C_NoSuchName C_Twice C_OwnPanel C_TooMany C_NoEnd C_Market) {f_is_between : Addr} {fd_is_between : FuncData} (D_is_between : Dfn K mg "is_between" s_is_between ["value", "low", "high"] f_is_between fd_is_between) (G_is_between : FnOk P w K mg base CX0 (1) f_is_between fd_is_between ["value", "low", "high"] (sp_is_between K)) :
    FnOk P w K mg base CX0 (2) f fd ["value"] (sp_is_cover K) := by
  refine D_is_cover.F.ok sc_is_cover (fun vs H Q E h => ?_) (fun cdv A outer s H vs Q E hr h => ?_)
  · obtain ⟨x, rfl, h⟩ := h
    rfl
  obtain ⟨x, rfl, h⟩ := h
  refine ⟨_, (pss_cons (ps_if (PW.pt (pw_or (pt_not (pt_val (pe_callB call_isi (by rfl) T.isinstance (by decide +kernel) (pa_cons (pv 0) (pa_cons (pe_bltn (v := .ty "tuple") (by rfl) T.tuple (by decide +kernel) rfl) pa_nil))))) (pw_or1 (pt_cmpR op_eq (pe_callB call_len_seq (by rfl) T.len PySem.boot_len (pa_cons (pv 0) pa_nil)) pe_int (nomark _)))))
      (pss_one (ps_ret pe_bl))
      pss_nil)
      (pss_cons (ps_asg (pv 0) (pg_star (n := 2) (i := 1) rfl (pgs_cons (pg_name (i := 1) sc_is_cover.nd rfl (by first | exact Or.inl rfl | exact Or.inr rfl)) (pgs_star (pg_name (i := 2) sc_is_cover.nd rfl (by first | exact Or.inl rfl | exact Or.inr rfl)) pgs_nil)) (by decide)))
      (pss_cons (ps_if (pt_cmpR op_eq (pv 1) pe_str (nomark _))
      (pss_one (ps_ret (pe_and (pe_cmpR op_eq (pe_callB call_len_seq (by rfl) T.len PySem.boot_len (pa_cons (pv 2) pa_nil)) pe_int (nomark _)) (pe_one (pe_call G_is_between (hr.mono (by first | decide | omega)) rfl D_is_between.m D_is_between.F.kp D_is_between.b .nil pass0 (pa_cons (pe_ix (r := rIxL K) ix_list (pv 2) pe_int (fun _ _ => rfl)) (pa_cons pe_int (pa_cons (pe_gi rfl T.g_WHOLE) pa_nil))))))))
      pss_nil)
      (pss_cons (ps_if (pt_cmpR op_eq (pv 1) pe_str (nomark _))
      (pss_one (ps_ret (pe_and (pe_cmpR op_eq (pe_callB call_len_seq (by rfl) T.len PySem.boot_len (pa_cons (pv 2) pa_nil)) pe_int (nomark _)) (pe_and (pe_call G_is_between (hr.mono (by first | decide | omega)) rfl D_is_between.m D_is_between.F.kp D_is_between.b .nil pass0 (pa_cons (pe_ix (r := rIxL K) ix_list (pv 2) pe_int (fun _ _ => rfl)) (pa_cons pe_int (pa_cons (pe_gi rfl T.g_MOST_RETENTION) pa_nil)))) (pe_one (pe_call G_is_between (hr.mono (by first | decide | omega)) rfl D_is_between.m D_is_between.F.kp D_is_between.b .nil pass0 (pa_cons (pe_ix (r := rIxL K) ix_list (pv 2) pe_int (fun _ _ => rfl)) (pa_cons pe_int (pa_cons (pe_gi rfl T.g_MOST_LIMIT) pa_nil)))))))))
      pss_nil)
      (pss_one (ps_ret pe_bl)))))), ?_⟩
  rcases h with ⟨t, ty, hk, q⟩ | ⟨a, xs, rfl, hS, hl, hf, q⟩
  · exact ⟨_, rfl, _, _, _, _, _, rfl, .ty _, ty, hk, _, rfl, iteT (iteT q)⟩
  · refine ⟨_, rfl, _, _, _, _, _, rfl, .ty _, tyx_tup hS, kit_ty (r := true) (by decide +kernel), _, rfl, iteF ?_⟩
    refine ⟨_, rfl, a, xs, rfl, .inr hS, rfl, _, rfl, ?_⟩
    cases xs with
    | nil =>
      refine iteT ?_
      exact q H (Same.refl H)
    | cons w r =>
      have e0 : decide (V.int (((w :: r).length : Nat) : Int) = V.int 0) = false := decide_eq_false (fun e => by
        have := V.int.inj e
        rw [List.length_cons] at this
        omega)
      rw [e0]
      refine iteF ?_
      rw [List.all_cons, Bool.and_eq_true] at hf
      rw [List.length_cons] at hl
      refine ⟨_, rfl, a, w :: r, rfl, hS, (by rw [List.length_cons]; omega), (by rw [List.length_cons]; omega), fun D nD => ?_⟩
      have hr : ((w :: r).drop 1).take ((w :: r).length + 1 - 2) = r := List.take_of_length_le (by
        rw [List.length_cons]
        show r.length ≤ r.length + 1 + 1 - 2
        omega)
      rw [hr]
      refine ⟨_, _, rfl, _, _, rfl, List.drop_eq_nil_of_le (by
        rw [List.length_cons]
        show r.length ≤ r.length + 1 + 1 - 2
        omega), ?_⟩
      have sD : Same H (upd H D (.lst r)) := same_new nD
      have hD : upd H D (.lst r) D = some (.lst r) := upd_same
      obtain ⟨H1, h1⟩ : ∃ H1, upd H D (.lst r) = H1 := ⟨_, rfl⟩
      rw [h1] at sD hD ⊢
      have q := q H1 sD
      have scw : ∀ z : Str, scal w (.str z) = true := fun z => by
        cases w <;> first | rfl | (cases hf.1)
      refine ⟨_, rfl, scw _, _, rfl, ?_⟩
      refine iteB (fun c => ?_) (fun c => ?_)
      · have ew : w = .str "share" := of_decide_eq_true c
        subst ew
        refine ⟨_, rfl, D, r, rfl, .inl (SqL.of hD), rfl, _, rfl, ?_⟩
        cases r with
        | nil => exact q
        | cons x r2 =>
          cases r2 with
          | nil =>
            refine iteT ?_
            have fx : flatV x = true := by
              have := hf.2
              rw [List.all_cons, Bool.and_eq_true] at this
              exact this.1
            refine ⟨_, rfl, D, _, _, x, rfl, rfl, SqL.of hD, rfl, x, 1, 1000, rfl, fx, ?_⟩
            have e : isCov [.str "share", x] = btw x 1 1000 := by
              show (decide (("share" : Str) = "share") && btw x 1 1000) = btw x 1 1000
              rw [decide_eq_true rfl, Bool.true_and]
            rw [e] at q
            exact q
          | cons y r3 =>
            have e1 : decide (V.int (((x :: y :: r3).length : Nat) : Int) = V.int 1) = false := decide_eq_false (fun e => by
              have := V.int.inj e
              rw [List.length_cons, List.length_cons] at this
              omega)
            rw [e1]
            refine iteF ?_
            have e2 : isCov (.str "share" :: x :: y :: r3) = false := by
              cases r3 with
              | nil =>
                show (decide (("share" : Str) = "layer") && (btw x 0 100000 && btw y 1 100000)) = false
                rw [decide_eq_false (fun e => share_layer e.symm), Bool.false_and]
              | cons _ _ => rfl
            rw [e2] at q
            exact q
      · have nw : ¬ w = .str "share" := of_decide_eq_false c
        refine ⟨_, rfl, scw _, _, rfl, ?_⟩
        refine iteB (fun d => ?_) (fun d => ?_)
        · have ew : w = .str "layer" := of_decide_eq_true d
          subst ew
          refine ⟨_, rfl, D, r, rfl, .inl (SqL.of hD), rfl, _, rfl, ?_⟩
          match r, q, hD, hf with
          | [], q, _, _ => exact q
          | [x], q, _, _ =>
            have e2 : isCov [.str "layer", x] = false := by
              show (decide (("layer" : Str) = "share") && btw x 1 1000) = false
              rw [decide_eq_false share_layer, Bool.false_and]
            rw [e2] at q
            exact q
          | [x, y], q, hD, hf =>
            refine iteT ?_
            have f2 := hf.2
            rw [List.all_cons, List.all_cons, Bool.and_eq_true, Bool.and_eq_true] at f2
            have e : isCov [.str "layer", x, y] = (btw x 0 100000 && btw y 1 100000) := by
              show (decide (("layer" : Str) = "layer") && (btw x 0 100000 && btw y 1 100000)) = (btw x 0 100000 && btw y 1 100000)
              rw [decide_eq_true (rfl : ("layer" : Str) = "layer")]
              exact Bool.true_and _
            rw [e] at q
            refine ⟨_, rfl, D, _, _, x, rfl, rfl, SqL.of hD, rfl, x, 0, 100000, rfl, f2.1, _, rfl, ?_⟩
            refine iteB (fun g => ?_) (fun g => ?_)
            · rw [g, Bool.true_and] at q
              exact ⟨_, rfl, D, _, _, y, rfl, rfl, SqL.of hD, rfl, y, 1, 100000, rfl, f2.2.1, q⟩
            · rw [g, Bool.false_and] at q
              exact q
          | x :: y :: z :: r4, q, _, _ =>
            have e1 : decide (V.int (((x :: y :: z :: r4).length : Nat) : Int) = V.int 2) = false := decide_eq_false (fun e => by
              have := V.int.inj e
              rw [List.length_cons, List.length_cons, List.length_cons] at this
              omega)
            rw [e1]
            refine iteF ?_
            exact q
        · have nw2 : ¬ w = .str "layer" := of_decide_eq_false d
          have e2 : isCov (w :: r) = false := by
            cases w with
            | str z =>
              have n1 : ¬ z = "share" := fun e => nw (by rw [e])
              have n2 : ¬ z = "layer" := fun e => nw2 (by rw [e])
              match r with
              | [] => rfl
              | [x] =>
                show (decide (z = "share") && btw x 1 1000) = false
                rw [decide_eq_false n1, Bool.false_and]
              | [x, y] =>
                show (decide (z = "layer") && (btw x 0 100000 && btw y 1 100000)) = false
                rw [decide_eq_false n2, Bool.false_and]
              | _ :: _ :: _ :: _ => rfl
            | _ => rfl
          rw [e2] at q
          exact q

theorem ok_check_cover {f : Addr} {fd : FuncData} (D_check_cover : Dfn K mg "check_cover" s_check_cover ["value"] f fd) (T : Tx K mg C_BadName C_BadCover C_BadPanel C_BadAmount C_NameTaken C_NoSuchName C_Twice C_OwnPanel C_TooMany C_NoEnd C_Market) {f_is_cover : Addr} {fd_is_cover : FuncData} (D_is_cover : Dfn K mg "is_cover" s_is_cover ["value"] f_is_cover fd_is_cover) (G_is_cover : FnOk P w K mg base CX0 (2) f_is_cover fd_is_cover ["value"] (sp_is_cover K)) :
    FnOk P w K mg base (L2.CX P w) (3) f fd ["value"] (sp_check_cover K C_BadCover) := by
  refine D_check_cover.F.okX sc_check_cover (fun vs H Q E h => ?_) (fun cdv A outer s H vs Q E hr h => ?_)
  · obtain ⟨x, rfl, h⟩ := h
    rfl
  obtain ⟨x, rfl, h⟩ := h
  refine ⟨_, (pss_one (ps_if (pt_not (pt_val (pe_call G_is_cover (hr.mono (by first | decide | omega)) rfl D_is_cover.m D_is_cover.F.kp D_is_cover.b .nil pass0 (pa_cons (pv 0) pa_nil))))
      (pss_one (ps_raise rfl (takes_of rfl rfl rfl rfl) (pmk_own PySem.F.excBase_ValueError T.exc_BadCover.x T.exc_BadCover.g T.exc_BadCover.k (raises_own T.exc_BadCover.b T.exc_BadCover.t) rfl)))
      pss_nil)), ?_⟩
  rcases h with ⟨⟨a, c, rfl, hS, hok⟩, q⟩ | ⟨⟨t, ty, hk⟩ | ⟨a, xs, rfl, hS, hl, hf, hc⟩, q⟩
  · refine ⟨_, rfl, _, rfl, .inr ⟨a, cvV c, rfl, hS, cv_len c, flat_cvV c, fun H' sm => ⟨_, rfl, ?_⟩⟩⟩
    rw [isCov_cvV hok]
    exact iteF (q H' sm)
  · exact ⟨_, rfl, _, rfl, .inl ⟨t, ty, hk, _, rfl, iteT (q H (Same.refl H))⟩⟩
  · refine ⟨_, rfl, _, rfl, .inr ⟨a, xs, rfl, hS, hl, hf, fun H' sm => ⟨_, rfl, ?_⟩⟩⟩
    rw [hc]
    exact iteT (q H' sm)

theorem ok_recovery {f : Addr} {fd : FuncData} (D_recovery : Dfn K mg "recovery" s_recovery ["cover", "loss"] f fd) (T : Tx K mg C_BadName C_BadCover C_BadPanel C_BadAmount C_NameTaken C_NoSuchName C_Twice C_OwnPanel C_TooMany C_NoEnd C_Market) :
    FnOk P w K mg base CX0 (1) f fd ["cover", "loss"] (sp_recovery K) := by
  refine D_recovery.F.ok sc_recovery (fun vs H Q E h => ?_) (fun cdv A outer s H vs Q E hr h => ?_)
  · obtain ⟨a, c, x, rfl, hS, hc, q⟩ := h
    rfl
  obtain ⟨a, c, x, rfl, hS, hc, q⟩ := h
  refine ⟨_, (pss_cons (ps_if (pt_cmpR op_eq (pe_ix (r := rIxT K) ix_tup (pv 0) pe_int (fun _ _ => rfl)) pe_str (nomark _))
      (pss_one (ps_ret (pe_op op_fdiv (pe_op op_mul (pe_ix (r := rIxT K) ix_tup (pv 0) pe_int (fun _ _ => rfl)) (pv 1)) (pe_gi rfl T.g_WHOLE))))
      pss_nil)
      (pss_cons (ps_asg (pv 0) (pg_tup rfl (pgs_cons (pg_name (i := 2) sc_recovery.nd rfl (by first | exact Or.inl rfl | exact Or.inr rfl)) (pgs_cons (pg_name (i := 3) sc_recovery.nd rfl (by first | exact Or.inl rfl | exact Or.inr rfl)) (pgs_cons (pg_name (i := 4) sc_recovery.nd rfl (by first | exact Or.inl rfl | exact Or.inr rfl)) pgs_nil)))))
      (pss_one (ps_ret (pe_callB (call_min2 rfl) (by rfl) T.min (by decide +kernel) (pa_cons (pe_callB (call_max2 rfl) (by rfl) T.max (by decide +kernel) (pa_cons (pe_op op_sub (pv 1) (pv 3)) (pa_cons pe_int pa_nil))) (pa_cons (pv 4) pa_nil))))))), ?_⟩
  cases c with
  | share p =>
    obtain ⟨h1, h2⟩ := hc
    refine ⟨_, rfl, a, _, _, _, rfl, rfl, hS, rfl, rfl, _, rfl, ?_⟩
    refine iteT ?_
    exact ⟨_, rfl, a, _, _, _, rfl, rfl, hS, rfl, _, rfl, _, _, rfl, rfl, .inl ⟨by omega, by omega⟩, _, _, rfl, rfl, ⟨by decide, by decide⟩, q⟩
  | layer r l =>
    obtain ⟨h1, h2, h3, h4⟩ := hc
    refine ⟨_, rfl, a, _, _, _, rfl, rfl, hS, rfl, rfl, _, rfl, ?_⟩
    rw [show decide (V.str "layer" = V.str "share") = false from decide_eq_false (fun e => share_layer (V.str.inj e))]
    refine iteF ?_
    refine ⟨_, rfl, a, _, rfl, hS, rfl, _, _, rfl, _, _, rfl, _, _, rfl, rfl, ?_⟩
    refine ⟨_, rfl, _, rfl, _, _, rfl, rfl, _, _, rfl, _, rfl, _, _, rfl, ?_⟩
    rw [max_min r l x h3]
    exact q

theorem ok_programme {f : Addr} {fd : FuncData} (D_programme : Dfn K mg "programme" s_programme ["covers", "loss"] f fd) (T : Tx K mg C_BadName C_BadCover C_BadPanel C_BadAmount C_NameTaken C_NoSuchName C_Twice C_OwnPanel C_TooMany C_NoEnd C_Market) {f_recovery : Addr} {fd_recovery : FuncData} (D_recovery : Dfn K mg "recovery" s_recovery ["cover", "loss"] f_recovery fd_recovery) (G_recovery : FnOk P w K mg base CX0 (1) f_recovery fd_recovery ["cover", "loss"] (sp_recovery K)) :
    FnOk P w K mg base CX0 (2) f fd ["covers", "loss"] (sp_programme K) := by
  refine D_programme.F.ok sc_programme (fun vs H Q E h => ?_) (fun cdv A outer s H vs Q E hr h => ?_)
  · obtain ⟨s, x, ys, cs, rfl, hq, hC, hl, q⟩ := h
    rfl
  obtain ⟨s, x, ys, cs, rfl, hq, hC, hl, q⟩ := h
  have hyl : ys.length = cs.length := hC.1
  rcases hq with hq | hq
  · refine ⟨_, (pss_cons (ps_set (i := 2) sc_programme.nd rfl (by first | exact Or.inl rfl | exact Or.inr rfl) (pe_lst pa_nil))
      (pss_cons (ps_set (i := 3) sc_programme.nd rfl (by first | exact Or.inl rfl | exact Or.inr rfl) (pv 1))
      (pss_cons (ps_for PassesOwn.never rfl (pi_list (pv 0)) (pg_name (i := 4) sc_programme.nd rfl (by first | exact Or.inl rfl | exact Or.inr rfl))
      (pss_cons (ps_set (i := 5) sc_programme.nd rfl (by first | exact Or.inl rfl | exact Or.inr rfl) (pe_call G_recovery (hr.mono (by first | decide | omega)) rfl D_recovery.m D_recovery.F.kp D_recovery.b .nil pass0 (pa_cons (pv 4) (pa_cons (pv 3) pa_nil))))
      (pss_cons (ps_expr (pe_bm PySem.F.plainAttrs_list PySem.F.slot_list_append PySem.F.type_list_append mt_append (pv 2) (pa_cons (pv 5) pa_nil)))
      (pss_one (ps_aug (i := 3) sc_programme.nd rfl (by first | exact Or.inl rfl | exact Or.inr rfl) (pv 5) ip_sub)))))
      (pss_one (ps_ret (pe_tup (pa_cons (pe_callTy call_tuple_of (by rfl) T.tuple (by decide +kernel) (pa_cons (pv 2) pa_nil)) (pa_cons (pv 3) pa_nil)))))))), ?_⟩
    refine ⟨Nat.zero_le _, fun o no => ?_⟩
    have s1 := same_new (o := .lst []) no
    refine ⟨_, rfl, _, rfl, s, rfl, ⟨_, s1.seq hq⟩, for_list (K := K) (a := s) (xs := ys) (fun i σ H' => ∃ (r : Int) (acc : List Int) (v1 v2 : Option V), σ = [some (.ref s), some (.int x), some (.ref o), some (.int r), v1, v2] ∧ Same H H' ∧ H' o = some (.lst (acc.map V.int)) ∧ acc.length = i ∧
      prog cs x = (acc ++ (prog (cs.drop i) r).1, (prog (cs.drop i) r).2)) ⟨x, [], none, none, rfl, s1, upd_same, rfl, rfl⟩ (fun i σ H' _ ⟨_, _, _, _, _, sm, _⟩ => sm.seq hq) ?_ ?_⟩
    · rintro i y σ H' hi ⟨r, acc, v1, v2, rfl, sm, ho, hal, hp⟩
      obtain ⟨a, c, rfl, hc, ha, hok⟩ := hC.get hi
      have hil := (List.getElem?_eq_some_iff.mp hc).1
      rw [prog_step hc] at hp
      refine ⟨_, rfl, _, rfl, a, c, r, rfl, same_sqt sm ha, hok, ?_⟩
      refine ⟨_, rfl, .inl ⟨rfl, _, SqL.of ho⟩, _, rfl, o, _, _, rfl, rfl, ho, by rw [List.length_map]; exact szl (by omega), ?_⟩
      refine ⟨_, rfl, _, rfl, _, _, rfl, rfl, ?_⟩
      refine ⟨r - pays c r, acc ++ [pays c r], _, _, rfl, same_put sm no, ?_, ?_, ?_⟩
      · rw [upd_same, List.map_append]
        rfl
      · rw [List.length_append, hal]
        rfl
      · rw [hp, List.append_assoc]
        rfl
    · rintro σ H' ⟨r, acc, v1, v2, rfl, sm, ho, hal, hp⟩
      rw [hyl, List.drop_eq_nil_of_le (Nat.le_refl _)] at hp
      have hp2 : prog cs x = (acc, r) := by
        rw [hp]
        show (acc ++ [], r) = (acc, r)
        rw [List.append_nil]
      rw [hp2] at q
      refine ⟨_, rfl, o, _, rfl, .inl ⟨SqL.of ho, fun t nt => ⟨_, rfl, sz (by show 2 ≤ 100000; decide), fun p np => ?_⟩⟩⟩
      exact q t p _ (same_add (same_add sm nt) np) (same_new np _ _ upd_same) upd_same
  · refine ⟨_, (pss_cons (ps_set (i := 2) sc_programme.nd rfl (by first | exact Or.inl rfl | exact Or.inr rfl) (pe_lst pa_nil))
      (pss_cons (ps_set (i := 3) sc_programme.nd rfl (by first | exact Or.inl rfl | exact Or.inr rfl) (pv 1))
      (pss_cons (ps_for PassesOwn.never rfl (pi_tup (pv 0)) (pg_name (i := 4) sc_programme.nd rfl (by first | exact Or.inl rfl | exact Or.inr rfl))
      (pss_cons (ps_set (i := 5) sc_programme.nd rfl (by first | exact Or.inl rfl | exact Or.inr rfl) (pe_call G_recovery (hr.mono (by first | decide | omega)) rfl D_recovery.m D_recovery.F.kp D_recovery.b .nil pass0 (pa_cons (pv 4) (pa_cons (pv 3) pa_nil))))
      (pss_cons (ps_expr (pe_bm PySem.F.plainAttrs_list PySem.F.slot_list_append PySem.F.type_list_append mt_append (pv 2) (pa_cons (pv 5) pa_nil)))
      (pss_one (ps_aug (i := 3) sc_programme.nd rfl (by first | exact Or.inl rfl | exact Or.inr rfl) (pv 5) ip_sub)))))
      (pss_one (ps_ret (pe_tup (pa_cons (pe_callTy call_tuple_of (by rfl) T.tuple (by decide +kernel) (pa_cons (pv 2) pa_nil)) (pa_cons (pv 3) pa_nil)))))))), ?_⟩
    refine ⟨Nat.zero_le _, fun o no => ?_⟩
    have s1 := same_new (o := .lst []) no
    refine ⟨_, rfl, _, rfl, s, rfl, ⟨_, same_sqt s1 hq⟩, for_tup (K := K) (a := s) (xs := ys) (fun i σ H' => ∃ (r : Int) (acc : List Int) (v1 v2 : Option V), σ = [some (.ref s), some (.int x), some (.ref o), some (.int r), v1, v2] ∧ Same H H' ∧ H' o = some (.lst (acc.map V.int)) ∧ acc.length = i ∧
      prog cs x = (acc ++ (prog (cs.drop i) r).1, (prog (cs.drop i) r).2)) ⟨x, [], none, none, rfl, s1, upd_same, rfl, rfl⟩ (fun i σ H' _ ⟨_, _, _, _, _, sm, _⟩ => same_sqt sm hq) ?_ ?_⟩
    · rintro i y σ H' hi ⟨r, acc, v1, v2, rfl, sm, ho, hal, hp⟩
      obtain ⟨a, c, rfl, hc, ha, hok⟩ := hC.get hi
      have hil := (List.getElem?_eq_some_iff.mp hc).1
      rw [prog_step hc] at hp
      refine ⟨_, rfl, _, rfl, a, c, r, rfl, same_sqt sm ha, hok, ?_⟩
      refine ⟨_, rfl, .inl ⟨rfl, _, SqL.of ho⟩, _, rfl, o, _, _, rfl, rfl, ho, by rw [List.length_map]; exact szl (by omega), ?_⟩
      refine ⟨_, rfl, _, rfl, _, _, rfl, rfl, ?_⟩
      refine ⟨r - pays c r, acc ++ [pays c r], _, _, rfl, same_put sm no, ?_, ?_, ?_⟩
      · rw [upd_same, List.map_append]
        rfl
      · rw [List.length_append, hal]
        rfl
      · rw [hp, List.append_assoc]
        rfl
    · rintro σ H' ⟨r, acc, v1, v2, rfl, sm, ho, hal, hp⟩
      rw [hyl, List.drop_eq_nil_of_le (Nat.le_refl _)] at hp
      have hp2 : prog cs x = (acc, r) := by
        rw [hp]
        show (acc ++ [], r) = (acc, r)
        rw [List.append_nil]
      rw [hp2] at q
      refine ⟨_, rfl, o, _, rfl, .inl ⟨SqL.of ho, fun t nt => ⟨_, rfl, sz (by show 2 ≤ 100000; decide), fun p np => ?_⟩⟩⟩
      exact q t p _ (same_add (same_add sm nt) np) (same_new np _ _ upd_same) upd_same

theorem ok_allocate {f : Addr} {fd : FuncData} (D_allocate : Dfn K mg "allocate" s_allocate ["amount", "shares"] f fd) (T : Tx K mg C_BadName C_BadCover C_BadPanel C_BadAmount C_NameTaken C_NoSuchName C_Twice C_OwnPanel C_TooMany C_NoEnd C_Market) :
    FnOk P w K mg base CX0 (1) f fd ["amount", "shares"] (sp_allocate K) := by
  refine D_allocate.F.ok sc_allocate (fun vs H Q E h => ?_) (fun cdv A outer s H vs Q E hr h => ?_)
  · obtain ⟨a, s, sh, rfl, hS, q⟩ := h
    rfl
  obtain ⟨a, s, sh, rfl, hS, q⟩ := h
  have S0 := hS.pos.sum1 hS.ne
  have small : ∀ v ∈ sh, -(2 ^ 64) < v ∧ v < 2 ^ 64 := fun v hv => by
    have h1 := hS.pos v hv
    have h2 := le_sum hS.pos v hv
    have h3 := hS.sum
    omega
  have hlen : sh.length ≤ 100000 := by
    have h1 := len_sum hS.pos
    have h3 := hS.sum
    omega
  have hsum := hS.sum
  obtain ⟨hsq, hpos, hne, _⟩ := hS
  rcases hsq with hq | hq
  · refine ⟨_, (pss_cons (ps_asg (pe_callB call_divmod (by rfl) T.divmod (by decide +kernel) (pa_cons (pv 0) (pa_cons (pe_callB (cr_sumS rfl) (by rfl) T.sum (by decide +kernel) (pa_cons (pv 1) pa_nil)) pa_nil))) (pg_tup rfl (pgs_cons (pg_name (i := 2) sc_allocate.nd rfl (by first | exact Or.inl rfl | exact Or.inr rfl)) (pgs_cons (pg_name (i := 3) sc_allocate.nd rfl (by first | exact Or.inl rfl | exact Or.inr rfl)) pgs_nil))))
      (pss_cons (ps_set (i := 4) sc_allocate.nd rfl (by first | exact Or.inl rfl | exact Or.inr rfl) (pe_lst pa_nil))
      (pss_cons (ps_for PassesOwn.never rfl (pi_list (pv 1)) (pg_name (i := 5) sc_allocate.nd rfl (by first | exact Or.inl rfl | exact Or.inr rfl))
      (pss_cons (ps_set (i := 6) sc_allocate.nd rfl (by first | exact Or.inl rfl | exact Or.inr rfl) (pe_callB (call_min2 rfl) (by rfl) T.min (by decide +kernel) (pa_cons (pv 5) (pa_cons (pv 3) pa_nil))))
      (pss_cons (ps_expr (pe_bm PySem.F.plainAttrs_list PySem.F.slot_list_append PySem.F.type_list_append mt_append (pv 4) (pa_cons (pe_op op_add (pe_op op_mul (pv 5) (pv 2)) (pv 6)) pa_nil)))
      (pss_one (ps_aug (i := 3) sc_allocate.nd rfl (by first | exact Or.inl rfl | exact Or.inr rfl) (pv 6) ip_sub)))))
      (pss_one (ps_ret (pe_callTy call_tuple_of (by rfl) T.tuple (by decide +kernel) (pa_cons (pv 4) pa_nil))))))), ?_⟩
    refine ⟨_, rfl, _, rfl, s, sh, rfl, .inl hq, _, _, rfl, ⟨S0, by omega⟩, fun p np => ⟨p, _, rfl, SqT.of upd_same, rfl, _, _, rfl, _, _, rfl, rfl, Nat.zero_le _, fun o no => ?_⟩⟩
    have s1 : Same H (upd (upd H p (.tup [.int (a / sh.sum), .int (a % sh.sum)])) o (.lst [])) := same_add (same_new np) no
    refine ⟨_, rfl, s, rfl, ⟨_, s1.seq hq⟩, for_list (K := K) (a := s) (xs := sh.map V.int) (fun i σ H' => ∃ (r : Int) (acc : List Int) (v1 v2 : Option V), σ = [some (.int a), some (.ref s), some (.int (a / sh.sum)), some (.int r), some (.ref o), v1, v2] ∧ Same H H' ∧
      H' o = some (.lst (acc.map V.int)) ∧ acc.length = i ∧ alloc a sh = acc ++ go (a / sh.sum) r (sh.drop i)) ⟨a % sh.sum, [], none, none, rfl, s1, upd_same, rfl, rfl⟩ (fun i σ H' _ ⟨_, _, _, _, _, sm, _⟩ => sm.seq hq) ?_ ?_⟩
    · rintro i y σ H' hi ⟨r, acc, v1, v2, rfl, sm, ho, hl, hal⟩
      obtain ⟨v, rfl, hv⟩ := of_at_map hi
      have hil := (List.getElem?_eq_some_iff.mp hv).1
      have hb := small v (List.mem_of_getElem? hv)
      rw [go_step hv] at hal
      refine ⟨_, rfl, _, rfl, _, _, rfl, ?_⟩
      refine ⟨_, rfl, .inl ⟨rfl, _, SqL.of ho⟩, _, rfl, _, rfl, _, _, rfl, rfl, .inl hb, _, rfl, _, _, rfl, rfl, o, _, _, rfl, rfl, ho, by rw [List.length_map]; exact szl (by omega), ?_⟩
      refine ⟨_, rfl, _, rfl, _, _, rfl, rfl, ?_⟩
      refine ⟨r - cut2 v r, acc ++ [v * (a / sh.sum) + cut2 v r], _, _, rfl, same_put sm (free2 np no), ?_, ?_, ?_⟩
      · rw [upd_same, List.map_append]
        rfl
      · rw [List.length_append, hl]
        rfl
      · rw [hal, List.append_assoc]
        rfl
    · rintro σ H' ⟨r, acc, v1, v2, rfl, sm, ho, hl, hal⟩
      rw [List.length_map] at hal
      rw [List.drop_eq_nil_of_le (Nat.le_refl _)] at hal
      have hal2 : alloc a sh = acc := hal.trans (List.append_nil _)
      refine ⟨_, rfl, o, _, rfl, .inl ⟨SqL.of ho, fun l nl => ?_⟩⟩
      exact q l _ (same_add sm nl) (sm.free nl) (by rw [upd_same, hal2])
  · refine ⟨_, (pss_cons (ps_asg (pe_callB call_divmod (by rfl) T.divmod (by decide +kernel) (pa_cons (pv 0) (pa_cons (pe_callB (cr_sumS rfl) (by rfl) T.sum (by decide +kernel) (pa_cons (pv 1) pa_nil)) pa_nil))) (pg_tup rfl (pgs_cons (pg_name (i := 2) sc_allocate.nd rfl (by first | exact Or.inl rfl | exact Or.inr rfl)) (pgs_cons (pg_name (i := 3) sc_allocate.nd rfl (by first | exact Or.inl rfl | exact Or.inr rfl)) pgs_nil))))
      (pss_cons (ps_set (i := 4) sc_allocate.nd rfl (by first | exact Or.inl rfl | exact Or.inr rfl) (pe_lst pa_nil))
      (pss_cons (ps_for PassesOwn.never rfl (pi_tup (pv 1)) (pg_name (i := 5) sc_allocate.nd rfl (by first | exact Or.inl rfl | exact Or.inr rfl))
      (pss_cons (ps_set (i := 6) sc_allocate.nd rfl (by first | exact Or.inl rfl | exact Or.inr rfl) (pe_callB (call_min2 rfl) (by rfl) T.min (by decide +kernel) (pa_cons (pv 5) (pa_cons (pv 3) pa_nil))))
      (pss_cons (ps_expr (pe_bm PySem.F.plainAttrs_list PySem.F.slot_list_append PySem.F.type_list_append mt_append (pv 4) (pa_cons (pe_op op_add (pe_op op_mul (pv 5) (pv 2)) (pv 6)) pa_nil)))
      (pss_one (ps_aug (i := 3) sc_allocate.nd rfl (by first | exact Or.inl rfl | exact Or.inr rfl) (pv 6) ip_sub)))))
      (pss_one (ps_ret (pe_callTy call_tuple_of (by rfl) T.tuple (by decide +kernel) (pa_cons (pv 4) pa_nil))))))), ?_⟩
    refine ⟨_, rfl, _, rfl, s, sh, rfl, .inr hq, _, _, rfl, ⟨S0, by omega⟩, fun p np => ⟨p, _, rfl, SqT.of upd_same, rfl, _, _, rfl, _, _, rfl, rfl, Nat.zero_le _, fun o no => ?_⟩⟩
    have s1 : Same H (upd (upd H p (.tup [.int (a / sh.sum), .int (a % sh.sum)])) o (.lst [])) := same_add (same_new np) no
    refine ⟨_, rfl, s, rfl, ⟨_, same_sqt s1 hq⟩, for_tup (K := K) (a := s) (xs := sh.map V.int) (fun i σ H' => ∃ (r : Int) (acc : List Int) (v1 v2 : Option V), σ = [some (.int a), some (.ref s), some (.int (a / sh.sum)), some (.int r), some (.ref o), v1, v2] ∧ Same H H' ∧
      H' o = some (.lst (acc.map V.int)) ∧ acc.length = i ∧ alloc a sh = acc ++ go (a / sh.sum) r (sh.drop i)) ⟨a % sh.sum, [], none, none, rfl, s1, upd_same, rfl, rfl⟩ (fun i σ H' _ ⟨_, _, _, _, _, sm, _⟩ => same_sqt sm hq) ?_ ?_⟩
    · rintro i y σ H' hi ⟨r, acc, v1, v2, rfl, sm, ho, hl, hal⟩
      obtain ⟨v, rfl, hv⟩ := of_at_map hi
      have hil := (List.getElem?_eq_some_iff.mp hv).1
      have hb := small v (List.mem_of_getElem? hv)
      rw [go_step hv] at hal
      refine ⟨_, rfl, _, rfl, _, _, rfl, ?_⟩
      refine ⟨_, rfl, .inl ⟨rfl, _, SqL.of ho⟩, _, rfl, _, rfl, _, _, rfl, rfl, .inl hb, _, rfl, _, _, rfl, rfl, o, _, _, rfl, rfl, ho, by rw [List.length_map]; exact szl (by omega), ?_⟩
      refine ⟨_, rfl, _, rfl, _, _, rfl, rfl, ?_⟩
      refine ⟨r - cut2 v r, acc ++ [v * (a / sh.sum) + cut2 v r], _, _, rfl, same_put sm (free2 np no), ?_, ?_, ?_⟩
      · rw [upd_same, List.map_append]
        rfl
      · rw [List.length_append, hl]
        rfl
      · rw [hal, List.append_assoc]
        rfl
    · rintro σ H' ⟨r, acc, v1, v2, rfl, sm, ho, hl, hal⟩
      rw [List.length_map] at hal
      rw [List.drop_eq_nil_of_le (Nat.le_refl _)] at hal
      have hal2 : alloc a sh = acc := hal.trans (List.append_nil _)
      refine ⟨_, rfl, o, _, rfl, .inl ⟨SqL.of ho, fun l nl => ?_⟩⟩
      exact q l _ (same_add sm nl) (sm.free nl) (by rw [upd_same, hal2])

theorem ok_active_covers {f : Addr} {fd : FuncData} (D_active_covers : Dfn K mg "active_covers" s_active_covers ["treaties", "cedent"] f fd) (T : Tx K mg C_BadName C_BadCover C_BadPanel C_BadAmount C_NameTaken C_NoSuchName C_Twice C_OwnPanel C_TooMany C_NoEnd C_Market) :
    FnOk P w K mg base CX0 (1) f fd ["treaties", "cedent"] (sp_active_covers K) := by
  refine D_active_covers.F.ok sc_active_covers (fun vs H Q E h => ?_) (fun cdv A outer s H vs Q E hr h => ?_)
  · obtain ⟨a, ts, ced, rfl, ⟨xs, hS, hA⟩, hl, q⟩ := h
    rfl
  obtain ⟨a, ts, ced, rfl, ⟨xs, hS, hA⟩, hl, q⟩ := h
  refine ⟨_, (pss_one (ps_ret (pe_lc (own := [("number", 2), ("owner", 3), ("cover", 4), ("_", 5), ("ended", 6)]) (g := (gTup K 2 (gCons (gName 2) (gCons (gTup K 4 (gCons (gName 3) (gCons (gName 4) (gCons (gName 5) (gCons (gName 6) gNil))))) gNil)))) rfl sc_active_covers.nd (pi_enumS true (by rfl) T.enumerate (pa_cons (pv 0) pa_nil)) (blkOk_by (own := [("number", 2), ("owner", 3), ("cover", 4), ("_", 5), ("ended", 6)]) (N := (["treaties", "cedent", "number", "owner", "cover", "_", "ended"] : List Str)) (sc := defScope s_active_covers) (by decide +kernel)) (fun _ _ _ _ _ => (pg_tup rfl (pgs_cons (pg_name (i := 2) sc_active_covers.nd rfl (by first | exact Or.inl rfl | exact Or.inr rfl)) (pgs_cons (pg_tup rfl (pgs_cons (pg_name (i := 3) sc_active_covers.nd rfl (by first | exact Or.inl rfl | exact Or.inr rfl)) (pgs_cons (pg_name (i := 4) sc_active_covers.nd rfl (by first | exact Or.inl rfl | exact Or.inr rfl)) (pgs_cons (pg_name (i := 5) sc_active_covers.nd rfl (by first | exact Or.inl rfl | exact Or.inr rfl)) (pgs_cons (pg_name (i := 6) sc_active_covers.nd rfl (by first | exact Or.inl rfl | exact Or.inr rfl)) pgs_nil))))) pgs_nil)))) (fun _ _ _ _ _ => (pts_one (PW.pt (pw_and (pt_cmpR op_eq (pv 3) (pv 1) (nomark _)) (pw_and1 (pt_not (pt_val (pv 6)))))))) (fun _ _ _ _ _ => (pe_tup (pa_cons (pv 2) (pa_cons (pv 4) pa_nil))))))), ?_⟩
  have hxl := hA.1
  refine ⟨_, rfl, a, xs, rfl, hS, fun D nD => lc_it (walk_E (tp := true) (a := a) (xs := xs)) (fun i H' => Same H H' ∧ ∃ (ys : List V) (l : List (Nat × Cov)), H' D = some (.lst ys) ∧ AllAt (ActAt K) H' ys l ∧ l.length ≤ i ∧ actv ced 0 ts = l ++ actv ced i (ts.drop i)) ⟨same_new nD, [], [], upd_same, .nil, Nat.zero_le _, rfl⟩ (fun i H' _ z => same_sqt z.1 hS) ?_ ?_⟩
  · rintro i v H1 H' hi ⟨sm, ys, l, hD, hy, hli, hac⟩ ⟨T0, x, y, rfl, nT, rfl, e1, e2⟩
    cases e1
    obtain ⟨t, ht, a1, vc, vp, rfl, g1, g2, g3⟩ := hA.get e2
    rw [actv_step ht] at hac
    have s1 : Same H (upd H1 T0 (.tup [.int (i : Nat), .ref a1])) := same_add sm nT
    have s2 : Same H1 (upd H1 T0 (.tup [.int (i : Nat), .ref a1])) := same_new nT
    generalize hw : wipe _ _ = w0
    have ew : w0 = [some (.ref a), some (.str ced), none, none, none, none, none] := by
      rw [← hw]
      kernel_rfl
    clear hw
    subst ew
    refine ⟨T0, _, rfl, SqT.of upd_same, rfl, ?_⟩
    refine ⟨_, _, rfl, _, _, rfl, ?_⟩
    refine ⟨a1, _, rfl, same_sqt s1 g1, rfl, ?_⟩
    refine ⟨_, _, rfl, ?_⟩
    refine ⟨_, _, rfl, ?_⟩
    refine ⟨_, _, rfl, ?_⟩
    refine ⟨_, _, rfl, ?_⟩
    refine ⟨rfl, ?_⟩
    refine ⟨rfl, ?_⟩
    refine ⟨by kernel_rfl, ?_⟩
    have hD1 : (upd H1 T0 (.tup [.int (i : Nat), .ref a1])) D = some (.lst ys) := s2 _ _ hD
    have hyA : AllAt (ActAt K) (upd H1 T0 (.tup [.int (i : Nat), .ref a1])) ys l := AllAt.same (R := ActAt K) (fun e r => ActAt.same e r) s2 hy
    have no : (decide (t.ced = ced) && !t.ended) = false → Same H (upd H1 T0 (.tup [.int (i : Nat), .ref a1])) ∧ ∃ (ys : List V) (l : List (Nat × Cov)), (upd H1 T0 (.tup [.int (i : Nat), .ref a1])) D = some (.lst ys) ∧ AllAt (ActAt K) (upd H1 T0 (.tup [.int (i : Nat), .ref a1])) ys l ∧ l.length ≤ i + 1 ∧ actv ced 0 ts = l ++ actv ced (i + 1) (ts.drop (i + 1)) := fun e => by
      rw [e] at hac
      exact ⟨s1, ys, l, hD1, hyA, by omega, hac⟩
    have ec : decide (V.str t.ced = V.str ced) = decide (t.ced = ced) := by
      by_cases h : t.ced = ced
      · rw [decide_eq_true h, decide_eq_true (by rw [h])]
      · rw [decide_eq_false h, decide_eq_false (fun e => h (V.str.inj e))]
    refine ⟨_, rfl, _, rfl, rfl, _, rfl, ?_⟩
    rw [ec]
    refine iteB (fun c1 => ?_) (fun c1 => ?_)
    · refine ⟨_, rfl, _, rfl, ?_⟩
      cases he : t.ended with
      | true => exact no (by rw [c1, he]; rfl)
      | false =>
        rw [c1, he] at hac
        obtain ⟨H2, h2⟩ : ∃ H2, (upd H1 T0 (.tup [.int (i : Nat), .ref a1])) = H2 := ⟨_, rfl⟩
        rw [h2] at s1 s2 hD1 hyA ⊢
        refine ⟨_, rfl, _, rfl, sz (by show 2 ≤ 100000; decide), fun b nb => ?_⟩
        have sb : Same H2 (upd H2 b (.tup [.int (i : Nat), .ref vc])) := same_new nb
        refine ⟨ys, sb _ _ hD1, szl (by rw [hyA.1]; omega), same_put (s1.trans sb) nD, ys ++ [.ref b], l ++ [(i, t.cov)], upd_same, ?_, by rw [List.length_append]; show l.length + 1 ≤ i + 1; omega, ?_⟩
        · have hDb := sb _ _ hD1
          refine AllAt.imp (AllAt.add (AllAt.same (R := ActAt K) (fun e r => ActAt.same e r) sb hyA) (y := .ref b) (l := (i, t.cov)) ⟨b, vc, rfl, SqT.of upd_same, same_sqt (s1.trans sb) g2⟩) fun y p r => ActAt.put hDb r
        · rw [hac, List.append_assoc]
          rfl
    · exact no (by rw [c1]; rfl)
  · rintro H' ⟨sm, ys, l, hD, hy, hli, hac⟩
    rw [hxl, List.drop_eq_nil_of_le (Nat.le_refl _)] at hac
    have e : actv ced 0 ts = l := hac.trans (List.append_nil _)
    exact q D H' ys sm hD (by rw [e]; exact hy)

theorem ok_cede {f : Addr} {fd : FuncData} (D_cede : Dfn K mg "cede" s_cede ["treaties", "cedent", "loss"] f fd) (T : Tx K mg C_BadName C_BadCover C_BadPanel C_BadAmount C_NameTaken C_NoSuchName C_Twice C_OwnPanel C_TooMany C_NoEnd C_Market) {f_active_covers : Addr} {fd_active_covers : FuncData} (D_active_covers : Dfn K mg "active_covers" s_active_covers ["treaties", "cedent"] f_active_covers fd_active_covers) (G_active_covers : FnOk P w K mg base CX0 (1) f_active_covers fd_active_covers ["treaties", "cedent"] (sp_active_covers K)) {f_programme : Addr} {fd_programme : FuncData} (D_programme : Dfn K mg "programme" s_programme ["covers", "loss"] f_programme fd_programme) (G_programme : FnOk P w K mg base CX0 (2) f_programme fd_programme ["covers", "loss"] (sp_programme K)) :
    FnOk P w K mg base CX0 (3) f fd ["treaties", "cedent", "loss"] (sp_cede K) := by
  refine D_cede.F.ok sc_cede (fun vs H Q E h => ?_) (fun cdv A outer s H vs Q E hr h => ?_)
  · obtain ⟨a, ts, ced, x, rfl, hT, hl, hok, q⟩ := h
    rfl
  obtain ⟨a, ts, ced, x, rfl, hT, hl, hok, q⟩ := h
  refine ⟨_, (pss_cons (ps_set (i := 3) sc_cede.nd rfl (by first | exact Or.inl rfl | exact Or.inr rfl) (pe_call G_active_covers (hr.mono (by first | decide | omega)) rfl D_active_covers.m D_active_covers.F.kp D_active_covers.b .nil pass0 (pa_cons (pv 0) (pa_cons (pv 1) pa_nil))))
      (pss_cons (ps_asg (pe_call G_programme (hr.mono (by first | decide | omega)) rfl D_programme.m D_programme.F.kp D_programme.b .nil pass0 (pa_cons (pe_lc (own := [("_", 6), ("cover", 7)]) (g := (gTup K 2 (gCons (gName 6) (gCons (gName 7) gNil)))) (tt := tYes) rfl sc_cede.nd (pi_list (pv 3)) (blkOk_by (own := [("_", 6), ("cover", 7)]) (N := (["treaties", "cedent", "loss", "covers", "amounts", "net", "_", "cover", "number", "amount"] : List Str)) (sc := defScope s_cede) (by decide +kernel)) (fun _ _ _ _ _ => (pg_tup rfl (pgs_cons (pg_name (i := 6) sc_cede.nd rfl (by first | exact Or.inl rfl | exact Or.inr rfl)) (pgs_cons (pg_name (i := 7) sc_cede.nd rfl (by first | exact Or.inl rfl | exact Or.inr rfl)) pgs_nil)))) (fun _ _ _ _ _ => pts_nil) (fun _ _ _ _ _ => (pv 7))) (pa_cons (pv 2) pa_nil))) (pg_tup rfl (pgs_cons (pg_name (i := 4) sc_cede.nd rfl (by first | exact Or.inl rfl | exact Or.inr rfl)) (pgs_cons (pg_name (i := 5) sc_cede.nd rfl (by first | exact Or.inl rfl | exact Or.inr rfl)) pgs_nil))))
      (pss_one (ps_ret (pe_tup (pa_cons (pe_dc (own := [("number", 8), ("_", 6), ("amount", 9)]) (g := (gTup K 2 (gCons (gTup K 2 (gCons (gName 8) (gCons (gName 6) gNil))) (gCons (gName 9) gNil)))) (tt := tYes) rfl sc_cede.nd (pi_zipS false true (by rfl) T.zip (pa_cons (pv 3) (pa_cons (pv 4) pa_nil))) (blkOk_by (own := [("number", 8), ("_", 6), ("amount", 9)]) (N := (["treaties", "cedent", "loss", "covers", "amounts", "net", "_", "cover", "number", "amount"] : List Str)) (sc := defScope s_cede) (by decide +kernel)) (fun _ _ _ _ _ => (pg_tup rfl (pgs_cons (pg_tup rfl (pgs_cons (pg_name (i := 8) sc_cede.nd rfl (by first | exact Or.inl rfl | exact Or.inr rfl)) (pgs_cons (pg_name (i := 6) sc_cede.nd rfl (by first | exact Or.inl rfl | exact Or.inr rfl)) pgs_nil))) (pgs_cons (pg_name (i := 9) sc_cede.nd rfl (by first | exact Or.inl rfl | exact Or.inr rfl)) pgs_nil)))) (fun _ _ _ _ _ => pts_nil) (fun _ _ _ _ _ => (pv 8)) (fun _ _ _ _ _ => (pv 9))) (pa_cons (pv 5) pa_nil))))))), ?_⟩
  refine ⟨_, rfl, _, rfl, a, ts, ced, rfl, hT, hl, fun o H1 ys s1 ho hy => ?_⟩
  have hal := actv_len ced 0 ts
  obtain ⟨ac, hac⟩ : ∃ ac, actv ced 0 ts = ac := ⟨_, rfl⟩
  unfold cedeP at q
  rw [hac] at hy hal q
  have hyl := hy.1
  have acok : ∀ p ∈ ac, CvOk p.2 := fun p hp => (actv_ok (ced := ced) (n := 0) hok p (by rw [hac]; exact hp)).1
  obtain ⟨zs, hzl, hz⟩ := pick (R := fun y (p : Nat × Cov) z => ∃ b vc : Addr, y = .ref b ∧ z = .ref vc ∧ SqT K H1 b [.int (p.1 : Nat), .ref vc] ∧ SqT K H1 vc (cvV p.2)) hyl fun i p hp => by
    obtain ⟨y, h1, b, vc, e, h2, h3⟩ := hy.2 i p hp
    exact ⟨y, h1, .ref vc, b, vc, e, rfl, h2, h3⟩
  dsimp only
  refine nx_to ?_
  generalize hw : List.set _ _ _ = w0
  have ew : w0 = [some (.ref a), some (.str ced), some (.int x), some (.ref o), none, none, none, none, none, none] := by
    rw [← hw]
    kernel_rfl
  clear hw
  subst ew
  refine ⟨_, rfl, o, rfl, ⟨_, SqL.of ho⟩, fun D nD => lc_list (K := K) (a := o) (xs := ys) (fun i H' => Same H1 H' ∧ H' D = some (.lst (zs.take i))) ⟨same_new nD, upd_same⟩ (fun i H' _ z => z.1.seq (SqL.of ho)) ?_ ?_⟩
  · rintro i y H' hi ⟨sm, hD⟩
    obtain ⟨p, hp, _⟩ := hy.get hi
    obtain ⟨y2, z, h1, h2, b, vc, rfl, rfl, h3, h4⟩ := hz i p hp
    rw [hi] at h1
    cases h1
    generalize hw : wipe _ _ = w0
    have ew : w0 = [some (.ref a), some (.str ced), some (.int x), some (.ref o), none, none, none, none, none, none] := by
      rw [← hw]
      kernel_rfl
    clear hw
    subst ew
    refine ⟨b, _, rfl, same_sqt sm h3, rfl, ?_⟩
    refine ⟨_, _, rfl, _, _, rfl, rfl, by kernel_rfl, ?_⟩
    exact ⟨_, rfl, acc_to nD sm hD h2 (by omega)⟩
  · rintro H2 ⟨s2, hD⟩
    have hD2 := acc_all (by omega) hD
    have hC : CovsAt K H2 zs (ac.map (·.2)) := by
      refine ⟨by rw [hzl, List.length_map], fun i c hc => ?_⟩
      rw [List.getElem?_map] at hc
      cases hp : ac[i]? with
      | none =>
        rw [hp] at hc
        cases hc
      | some p =>
        rw [hp] at hc
        cases hc
        obtain ⟨y2, z, h1, h2, b, vc, rfl, rfl, h3, h4⟩ := hz i p hp
        exact ⟨vc, h2, same_sqt s2 h4, acok p (List.mem_of_getElem? hp)⟩
    refine ⟨_, rfl, D, x, zs, _, rfl, .inl (SqL.of hD2), hC, by rw [List.length_map]; omega, fun t p H3 s3 ht hp => ?_⟩
    refine ⟨p, _, rfl, SqT.of hp, rfl, _, _, rfl, _, _, rfl, rfl, ?_⟩
    have s13 : Same H1 H3 := s2.trans s3
    generalize hw : List.set _ _ _ = w0
    have ew : w0 = [some (.ref a), some (.str ced), some (.int x), some (.ref o), some (.ref t), some (.int (prog (ac.map (·.2)) x).2), none, none, none, none] := by
      rw [← hw]
      kernel_rfl
    clear hw
    subst ew
    have hpl : (prog (ac.map (·.2)) x).1.length = ac.length := by rw [prog_len, List.length_map]
    refine ⟨_, rfl, _, rfl, o, t, ys, _, rfl, SqL.of (s13 _ _ ho), SqT.of ht, fun G nG => dc_it (walk_Z (t1 := false) (t2 := true) (xs := ys) (ys := (prog (ac.map (·.2)) x).1.map V.int) rfl)
      (fun i H' => Same H3 H' ∧ H' G = some (.dK ((pairsK (ac.map (·.1)) (prog (ac.map (·.2)) x).1).take i))) ⟨same_new nG, upd_same⟩ (fun i H' _ z => ⟨z.1.seq (SqL.of (s13 _ _ ho)), same_sqt z.1 (SqT.of ht)⟩) ?_ ?_⟩
    · rintro i v H4 H5 hi ⟨s4, hG⟩ ⟨T0, y, w, rfl, nT, rfl, e1, e2⟩
      have e1 : ys[i]? = some y := e1
      obtain ⟨pr, hpr, _⟩ := hy.get e1
      obtain ⟨y2, z, h1, h2, b, vc, rfl, rfl, h3, h4⟩ := hz i pr hpr
      rw [e1] at h1
      cases h1
      obtain ⟨am, rfl, ham⟩ := of_at_map e2
      have s5 : Same H4 (upd H4 T0 (.tup [.ref b, .int am])) := same_new nT
      generalize hw : wipe _ _ = w0
      have ew : w0 = [some (.ref a), some (.str ced), some (.int x), some (.ref o), some (.ref t), some (.int (prog (ac.map (·.2)) x).2), none, none, none, none] := by
        rw [← hw]
        kernel_rfl
      clear hw
      subst ew
      refine ⟨T0, _, rfl, SqT.of upd_same, rfl, ?_⟩
      refine ⟨_, _, rfl, b, _, rfl, same_sqt (s13.trans (s4.trans s5)) h3, rfl, ?_⟩
      refine ⟨_, _, rfl, _, _, rfl, rfl, _, _, rfl, rfl, by kernel_rfl, ?_⟩
      have hn : (ac.map (·.1))[i]? = some pr.1 := by
        rw [List.getElem?_map, hpr]
        rfl
      refine ⟨_, rfl, _, rfl, _, .inl (pr.1 : Int), rfl, s5 _ _ hG, ?_, same_put (s4.trans s5) nG, ?_⟩
      · rw [List.length_take]
        have := (List.getElem?_eq_some_iff.mp hpr).1
        exact szl (by omega)
      · rw [upd_same, putK_new (pairsK_new (by rw [← hac]; exact actv_up) hn), List.take_add_one, pairsK_get hn ham]
        rfl
    · rintro H4 ⟨s4, hG⟩
      have hzl2 : (pairsK (ac.map (·.1)) (prog (ac.map (·.2)) x).1).length = min ys.length ((prog (ac.map (·.2)) x).1.map V.int).length := by
        unfold pairsK
        rw [List.length_map, List.length_zip, List.length_map, List.length_map]
        omega
      rw [← hzl2, List.take_of_length_le (Nat.le_refl _)] at hG
      refine ⟨_, rfl, sz (by show 2 ≤ 100000; decide), fun r nr => ?_⟩
      exact q r G _ (s1.trans (s13.trans (same_add s4 nr))) ((s1.trans s13).free nG) (same_new nr _ _ hG) upd_same

theorem ok_treaty_payments {f : Addr} {fd : FuncData} (D_treaty_payments : Dfn K mg "treaty_payments" s_treaty_payments ["insurers", "treaties", "gross"] f fd) (T : Tx K mg C_BadName C_BadCover C_BadPanel C_BadAmount C_NameTaken C_NoSuchName C_Twice C_OwnPanel C_TooMany C_NoEnd C_Market) {f_cede : Addr} {fd_cede : FuncData} (D_cede : Dfn K mg "cede" s_cede ["treaties", "cedent", "loss"] f_cede fd_cede) (G_cede : FnOk P w K mg base CX0 (3) f_cede fd_cede ["treaties", "cedent", "loss"] (sp_cede K)) :
    FnOk P w K mg base CX0 (4) f fd ["insurers", "treaties", "gross"] (sp_treaty_payments K) := by
  refine D_treaty_payments.F.ok sc_treaty_payments (fun vs H Q E h => ?_) (fun cdv A outer s H vs Q E hr h => ?_)
  · obtain ⟨a, b, c, ins, ts, gross, rfl, hI, hT, hl, hok, hG, q⟩ := h
    rfl
  obtain ⟨a, b, c, ins, ts, gross, rfl, hI, hT, hl, hok, hG, q⟩ := h
  refine ⟨_, (pss_cons (ps_set (i := 3) sc_treaty_payments.nd rfl (by first | exact Or.inl rfl | exact Or.inr rfl) (pe_op op_rep (pe_lst (pa_cons pe_int pa_nil)) (pe_callB call_len_seq (by rfl) T.len PySem.boot_len (pa_cons (pv 1) pa_nil))))
      (pss_cons (ps_for PassesOwn.never rfl (pi_zipS true true (by rfl) T.zip (pa_cons (pv 0) (pa_cons (pv 2) pa_nil))) (pg_tup rfl (pgs_cons (pg_name (i := 4) sc_treaty_payments.nd rfl (by first | exact Or.inl rfl | exact Or.inr rfl)) (pgs_cons (pg_name (i := 5) sc_treaty_payments.nd rfl (by first | exact Or.inl rfl | exact Or.inr rfl)) pgs_nil)))
      (pss_cons (ps_asg (pe_call G_cede (hr.mono (by first | decide | omega)) rfl D_cede.m D_cede.F.kp D_cede.b .nil pass0 (pa_cons (pv 1) (pa_cons (pv 4) (pa_cons (pv 5) pa_nil)))) (pg_tup rfl (pgs_cons (pg_name (i := 6) sc_treaty_payments.nd rfl (by first | exact Or.inl rfl | exact Or.inr rfl)) (pgs_cons (pg_name (i := 7) sc_treaty_payments.nd rfl (by first | exact Or.inl rfl | exact Or.inr rfl)) pgs_nil))))
      (pss_one (ps_lock (ps_for PassesOwn.never rfl (pi_items (pv 6)) (pg_tup rfl (pgs_cons (pg_name (i := 8) sc_treaty_payments.nd rfl (by first | exact Or.inl rfl | exact Or.inr rfl)) (pgs_cons (pg_name (i := 9) sc_treaty_payments.nd rfl (by first | exact Or.inl rfl | exact Or.inr rfl)) pgs_nil)))
      (pss_one (ps_asg (pv 9) (pg_sub (pv 3) (pv 8) set_list))))))))
      (pss_one (ps_ret (pe_callTy call_tuple_of (by rfl) T.tuple (by decide +kernel) (pa_cons (pv 3) pa_nil)))))), ?_⟩
  obtain ⟨xs, hS, hA⟩ := id hT
  have hxl := hA.1
  refine ⟨sz (by show 1 ≤ 100000; decide), fun z nz => ⟨_, rfl, b, xs, rfl, .inr (same_sqt (same_new nz) hS), z, ((xs.length : Nat) : Int), [.int 0], rfl, rfl, upd_same, by omega, by omega, ?_, fun o no => ?_⟩⟩
  · rw [show ((xs.length : Nat) : Int).toNat = xs.length by omega]
    exact sz (by show 1 * xs.length ≤ 100000; omega)
  have nO : H o = none := free2 nz no
  have s0 : Same H (upd (upd H z (.lst [.int 0])) o (.lst (List.replicate ((xs.length : Nat) : Int).toNat [V.int 0]).flatten)) := same_add (same_new nz) no
  have h0 : (upd (upd H z (.lst [.int 0])) o (.lst (List.replicate ((xs.length : Nat) : Int).toNat [V.int 0]).flatten)) o = some (.lst ((payP ts [] (List.replicate ts.length 0)).map V.int)) := by
    rw [upd_same, show ((xs.length : Nat) : Int).toNat = xs.length by omega, rep0, hxl]
    rfl
  obtain ⟨H1, h1⟩ : ∃ H1, (upd (upd H z (.lst [.int 0])) o (.lst (List.replicate ((xs.length : Nat) : Int).toNat [V.int 0]).flatten)) = H1 := ⟨_, rfl⟩
  rw [h1] at s0 h0 ⊢
  dsimp only
  refine nx_to ?_
  generalize hw : List.set _ _ _ = w0
  have ew : w0 = [some (.ref a), some (.ref b), some (.ref c), some (.ref o), none, none, none, none, none, none] := by
    rw [← hw]
    kernel_rfl
  clear hw
  subst ew
  refine ⟨_, rfl, _, rfl, a, c, _, _, rfl, same_sqt s0 hI, same_sqt s0 hG, for_it (walk_Z (t1 := true) (t2 := true) (xs := ins.map V.str) (ys := gross.map V.int) rfl)
    (fun j σ H' => ∃ v1 v2 v3 v4 v5 v6 : Option V, σ = [some (.ref a), some (.ref b), some (.ref c), some (.ref o), v1, v2, v3, v4, v5, v6] ∧ Same H H' ∧ H' o = some (.lst ((payP ts ((ins.zip gross).take j) (List.replicate ts.length 0)).map V.int)))
    ⟨_, _, _, _, _, _, rfl, s0, h0⟩ (fun j σ H' _ ⟨_, _, _, _, _, _, _, sm, _⟩ => ⟨same_sqt sm hI, same_sqt sm hG⟩) ?_ ?_⟩
  · rintro j v σ H2 H3 hj ⟨v1, v2, v3, v4, v5, v6, rfl, sm, ho⟩ ⟨T0, y, w, rfl, nT, rfl, e1, e2⟩
    obtain ⟨x, rfl, hx⟩ := of_at_map (show (gross.map V.int)[j]? = some w from e2)
    have e1 : (ins.map V.str)[j]? = some y := e1
    rw [List.getElem?_map] at e1
    obtain ⟨ced, hc, rfl⟩ : ∃ ced, ins[j]? = some ced ∧ y = .str ced := by
      cases h : ins[j]? with
      | none =>
        rw [h] at e1
        cases e1
      | some ced =>
        rw [h] at e1
        exact ⟨ced, rfl, (Option.some.inj e1).symm⟩
    have hz : (ins.zip gross)[j]? = some (ced, x) := List.getElem?_zip_eq_some.mpr ⟨hc, hx⟩
    have s3 : Same H2 (upd H2 T0 (.tup [.str ced, .int x])) := same_new nT
    refine ⟨T0, _, rfl, SqT.of upd_same, rfl, _, _, rfl, _, _, rfl, rfl, ?_⟩
    refine ⟨_, rfl, _, rfl, _, rfl, b, ts, ced, x, rfl, TrsAt.same (sm.trans s3) hT, hl, hok, fun p d H4 s4 nd hd hp => ?_⟩
    refine ⟨p, _, rfl, SqT.of hp, rfl, _, _, rfl, _, _, rfl, rfl, ?_⟩
    have s4' : Same H2 H4 := s3.trans s4
    have ho4 := s4' _ _ ho
    have nod : o ≠ d := ne_of_none (s3 _ _ ho) nd
    obtain ⟨ns, hns⟩ : ∃ ns, (actv ced 0 ts).map (·.1) = ns := ⟨_, rfl⟩
    obtain ⟨as, has⟩ : ∃ as, (cedeP ced ts x).1 = as := ⟨_, rfl⟩
    obtain ⟨ps, hps⟩ : ∃ ps, payP ts ((ins.zip gross).take j) (List.replicate ts.length 0) = ps := ⟨_, rfl⟩
    have hpl : ps.length = ts.length := by
      rw [← hps, payP_len, List.length_replicate]
    rw [hps] at ho4
    rw [hns, has] at hd
    have nlt : ∀ n ∈ ns, n < ts.length := fun n hn => by
      rw [← hns] at hn
      obtain ⟨q, hq, rfl⟩ := List.mem_map.mp hn
      have := (actv_ok (n := 0) hok q hq).2
      omega
    refine ⟨d, _, hd, trivial, fun od => ?_⟩
    refine ⟨_, rfl, d, od, _, rfl, upd_same, for_it walk_items (fun i σ H' => ∃ v1 v2 v3 v4 v5 v6 : Option V, σ = [some (.ref a), some (.ref b), some (.ref c), some (.ref o), v1, v2, v3, v4, v5, v6] ∧ H' d = some (.frz od (.dK (pairsK ns as))) ∧ Bar2 o d H4 H' ∧ H' o = some (.lst ((putP ps ((ns.zip as).take i)).map V.int)))
      ⟨_, _, _, _, _, _, rfl, upd_same, fun b' u n1 n2 e => by rw [upd_ne n2]; exact e, by rw [upd_ne nod]; exact ho4⟩ (fun i σ H' _ ⟨_, _, _, _, _, _, _, hd', _⟩ => hd') ?_ ?_⟩
    · rintro i v σ H5 H6 hi ⟨u1, u2, u3, u4, u5, u6, rfl, hd5, b5, ho5⟩ ⟨T1, y, w, rfl, nT1, rfl, g1, g2⟩
      have g1 : ((pairsK ns as)[i]?.map fun kv => kV kv.1) = some y := g1
      have g2 : ((pairsK ns as)[i]?.map Prod.snd) = some w := g2
      unfold pairsK at g1 g2
      rw [List.getElem?_map] at g1 g2
      cases hq : (ns.zip as)[i]? with
      | none =>
        rw [hq] at g1
        cases g1
      | some q =>
        rw [hq] at g1 g2
        cases g1
        cases g2
        obtain ⟨z1, z2⟩ := List.getElem?_zip_eq_some.mp hq
        have hn := nlt _ (List.mem_of_getElem? z1)
        have nT1o : o ≠ T1 := ne_of_none ho5 nT1
        have nT1d : d ≠ T1 := ne_of_none hd5 nT1
        refine ⟨T1, _, rfl, SqT.of upd_same, rfl, _, _, rfl, _, _, rfl, rfl, ?_⟩
        refine ⟨_, rfl, _, rfl, _, rfl, o, _, (q.1 : Int), q.1, rfl, rfl, (by rw [upd_ne nT1o]; exact ho5), ixN_n (by rw [List.length_map, putP_len, hpl]; exact hn), ?_⟩
        refine ⟨_, _, _, _, _, _, rfl, ?_, fun b' u n1 n2 e => ?_, ?_⟩
        · rw [upd_ne nod.symm, upd_ne nT1d]
          exact hd5
        · have e5 := b5 b' u n1 n2 e
          rw [upd_ne n1, upd_ne (ne_of_none e5 nT1)]
          exact e5
        · rw [upd_same, List.take_add_one, hq]
          show some (HO.lst (((putP ps ((ns.zip as).take i)).map V.int).set q.1 (.int q.2))) = some (HO.lst ((putP ps ((ns.zip as).take i ++ [q])).map V.int))
          rw [putP_add, List.map_set]
    · rintro σ H5 ⟨u1, u2, u3, u4, u5, u6, rfl, hd5, b5, ho5⟩
      refine ⟨hd5, _, _, _, _, _, _, rfl, ?_, ?_⟩
      · intro b' u e
        have n1 : b' ≠ o := ne_of_none e nO
        by_cases n2 : b' = d
        · subst n2
          have := (sm.trans s4') _ _ e
          rw [hd] at this
          rw [upd_same]
          exact this
        · rw [upd_ne n2]
          exact b5 b' u n1 n2 ((sm.trans s4') _ _ e)
      · have hzl : (pairsK ns as).length = (ns.zip as).length := List.length_map ..
        rw [hzl, List.take_of_length_le (Nat.le_refl _)] at ho5
        rw [upd_ne nod, ho5, List.take_add_one, hz]
        show some (HO.lst ((putP ps (ns.zip as)).map V.int)) = some (HO.lst ((payP ts ((ins.zip gross).take j ++ [(ced, x)]) _).map V.int))
        rw [payP_add, hps, hns, has]
  · rintro σ H2 ⟨v1, v2, v3, v4, v5, v6, rfl, sm, ho⟩
    have hzl : min (ins.map V.str).length (gross.map V.int).length = (ins.zip gross).length := by
      rw [List.length_map, List.length_map, List.length_zip]
    rw [hzl, List.take_of_length_le (Nat.le_refl _)] at ho
    refine ⟨_, rfl, o, _, rfl, .inl ⟨SqL.of ho, fun p np => ?_⟩⟩
    exact q p _ (same_add sm np) (sm.free np) upd_same

theorem ok_panel_parts {f : Addr} {fd : FuncData} (D_panel_parts : Dfn K mg "panel_parts" s_panel_parts ["panel", "amount"] f fd) (T : Tx K mg C_BadName C_BadCover C_BadPanel C_BadAmount C_NameTaken C_NoSuchName C_Twice C_OwnPanel C_TooMany C_NoEnd C_Market) {f_allocate : Addr} {fd_allocate : FuncData} (D_allocate : Dfn K mg "allocate" s_allocate ["amount", "shares"] f_allocate fd_allocate) (G_allocate : FnOk P w K mg base CX0 (1) f_allocate fd_allocate ["amount", "shares"] (sp_allocate K)) :
    FnOk P w K mg base CX0 (2) f fd ["panel", "amount"] (sp_panel_parts K) := by
  refine D_panel_parts.F.ok sc_panel_parts (fun vs H Q E h => ?_) (fun cdv A outer s H vs Q E hr h => ?_)
  · obtain ⟨x, ps, m, rfl, hP, hok, q⟩ := h
    rfl
  obtain ⟨x, ps, m, rfl, hP, hok, q⟩ := h
  refine ⟨_, (pss_one (ps_ret (pe_call G_allocate (hr.mono (by first | decide | omega)) rfl D_allocate.m D_allocate.F.kp D_allocate.b .nil pass0 (pa_cons (pv 1) (pa_cons (pe_lc (own := [("_", 2), ("shares", 3)]) (g := (gTup K 2 (gCons (gName 2) (gCons (gName 3) gNil)))) (tt := tYes) rfl sc_panel_parts.nd (pi_tup (pv 0)) (blkOk_by (own := [("_", 2), ("shares", 3)]) (N := (["panel", "amount", "_", "shares"] : List Str)) (sc := defScope s_panel_parts) (by decide +kernel)) (fun _ _ _ _ _ => (pg_tup rfl (pgs_cons (pg_name (i := 2) sc_panel_parts.nd rfl (by first | exact Or.inl rfl | exact Or.inr rfl)) (pgs_cons (pg_name (i := 3) sc_panel_parts.nd rfl (by first | exact Or.inl rfl | exact Or.inr rfl)) pgs_nil)))) (fun _ _ _ _ _ => pts_nil) (fun _ _ _ _ _ => (pv 3))) pa_nil))))), ?_⟩
  obtain ⟨a, xs, rfl, hS, hl, hE⟩ := PanAt.ent hP
  have h6 := hok.hi
  have hsl : (shs ps).length = ps.length := List.length_map ..
  refine ⟨_, rfl, _, rfl, a, rfl, ⟨_, hS⟩, fun D nD => lc_tup (K := K) (a := a) (xs := xs) (fun i H' => Same H H' ∧ H' D = some (.lst (((shs ps).map V.int).take i))) ⟨same_new nD, upd_same⟩ (fun i H' _ z => same_sqt z.1 hS) ?_ ?_⟩
  · rintro i y H' hi ⟨sm, hD⟩
    obtain ⟨e, b, he, rfl, hb⟩ := hE i y hi
    refine ⟨b, _, rfl, same_sqt sm hb, rfl, _, _, rfl, _, _, rfl, rfl, rfl, ?_⟩
    have hy : ((shs ps).map V.int)[i]? = some (.int e.2) := by
      refine at_map ?_
      show (ps.map (·.2))[i]? = some e.2
      rw [List.getElem?_map, he]
      rfl
    exact ⟨_, rfl, acc_to nD sm hD hy (by rw [List.length_map]; omega)⟩
  · rintro H' ⟨sm, hD⟩
    have hD2 := acc_all (by rw [List.length_map]; omega) hD
    refine ⟨m, D, shs ps, rfl, ⟨.inl (SqL.of hD2), shs_pos hok, shs_ne hok, ?_⟩, fun p H2 s2 np hp => q p H2 (sm.trans s2) (sm.free np) hp⟩
    have := hok.sum
    show (ps.map (·.2)).sum ≤ 100000
    omega

theorem ok_next_gross {f : Addr} {fd : FuncData} (D_next_gross : Dfn K mg "next_gross" s_next_gross ["insurers", "treaties", "direct", "gross"] f fd) (T : Tx K mg C_BadName C_BadCover C_BadPanel C_BadAmount C_NameTaken C_NoSuchName C_Twice C_OwnPanel C_TooMany C_NoEnd C_Market) {f_treaty_payments : Addr} {fd_treaty_payments : FuncData} (D_treaty_payments : Dfn K mg "treaty_payments" s_treaty_payments ["insurers", "treaties", "gross"] f_treaty_payments fd_treaty_payments) (G_treaty_payments : FnOk P w K mg base CX0 (4) f_treaty_payments fd_treaty_payments ["insurers", "treaties", "gross"] (sp_treaty_payments K)) {f_panel_parts : Addr} {fd_panel_parts : FuncData} (D_panel_parts : Dfn K mg "panel_parts" s_panel_parts ["panel", "amount"] f_panel_parts fd_panel_parts) (G_panel_parts : FnOk P w K mg base CX0 (2) f_panel_parts fd_panel_parts ["panel", "amount"] (sp_panel_parts K)) :
    FnOk P w K mg base CX0 (5) f fd ["insurers", "treaties", "direct", "gross"] (sp_next_gross K) := by
  refine D_next_gross.F.ok sc_next_gross (fun vs H Q E h => ?_) (fun cdv A outer s H vs Q E hr h => ?_)
  · obtain ⟨a, b, c, d, ins, ts, ds, gs, rfl, hI, hT, hok, hD, hdl, hG, q⟩ := h
    rfl
  obtain ⟨a, b, c, d, ins, ts, ds, gs, rfl, hI, hT, hok, hD, hdl, hG, q⟩ := h
  refine ⟨_, (pss_cons (ps_set (i := 4) sc_next_gross.nd rfl (by first | exact Or.inl rfl | exact Or.inr rfl) (pe_dc (own := [("insurer", 14), ("loss", 15)]) (g := (gTup K 2 (gCons (gName 14) (gCons (gName 15) gNil)))) (tt := tYes) rfl sc_next_gross.nd (pi_zipS true true (by rfl) T.zip (pa_cons (pv 0) (pa_cons (pv 2) pa_nil))) (blkOk_by (own := [("insurer", 14), ("loss", 15)]) (N := (["insurers", "treaties", "direct", "gross", "losses", "paid", "cedent", "cover", "panel", "ended", "amount", "participant", "_", "part", "insurer", "loss"] : List Str)) (sc := defScope s_next_gross) (by decide +kernel)) (fun _ _ _ _ _ => (pg_tup rfl (pgs_cons (pg_name (i := 14) sc_next_gross.nd rfl (by first | exact Or.inl rfl | exact Or.inr rfl)) (pgs_cons (pg_name (i := 15) sc_next_gross.nd rfl (by first | exact Or.inl rfl | exact Or.inr rfl)) pgs_nil)))) (fun _ _ _ _ _ => pts_nil) (fun _ _ _ _ _ => (pv 14)) (fun _ _ _ _ _ => (pv 15))))
      (pss_cons (ps_set (i := 5) sc_next_gross.nd rfl (by first | exact Or.inl rfl | exact Or.inr rfl) (pe_call G_treaty_payments (hr.mono (by first | decide | omega)) rfl D_treaty_payments.m D_treaty_payments.F.kp D_treaty_payments.b .nil pass0 (pa_cons (pv 0) (pa_cons (pv 1) (pa_cons (pv 3) pa_nil)))))
      (pss_cons (ps_for PassesOwn.never rfl (pi_zipS true true (by rfl) T.zip (pa_cons (pv 1) (pa_cons (pv 5) pa_nil))) (pg_tup rfl (pgs_cons (pg_tup rfl (pgs_cons (pg_name (i := 6) sc_next_gross.nd rfl (by first | exact Or.inl rfl | exact Or.inr rfl)) (pgs_cons (pg_name (i := 7) sc_next_gross.nd rfl (by first | exact Or.inl rfl | exact Or.inr rfl)) (pgs_cons (pg_name (i := 8) sc_next_gross.nd rfl (by first | exact Or.inl rfl | exact Or.inr rfl)) (pgs_cons (pg_name (i := 9) sc_next_gross.nd rfl (by first | exact Or.inl rfl | exact Or.inr rfl)) pgs_nil))))) (pgs_cons (pg_name (i := 10) sc_next_gross.nd rfl (by first | exact Or.inl rfl | exact Or.inr rfl)) pgs_nil)))
      (pss_one (ps_for PassesOwn.never rfl (pi_zipS true true (by rfl) T.zip (pa_cons (pv 8) (pa_cons (pe_call G_panel_parts (hr.mono (by first | decide | omega)) rfl D_panel_parts.m D_panel_parts.F.kp D_panel_parts.b .nil pass0 (pa_cons (pv 8) (pa_cons (pv 10) pa_nil))) pa_nil))) (pg_tup rfl (pgs_cons (pg_tup rfl (pgs_cons (pg_name (i := 11) sc_next_gross.nd rfl (by first | exact Or.inl rfl | exact Or.inr rfl)) (pgs_cons (pg_name (i := 12) sc_next_gross.nd rfl (by first | exact Or.inl rfl | exact Or.inr rfl)) pgs_nil))) (pgs_cons (pg_name (i := 13) sc_next_gross.nd rfl (by first | exact Or.inl rfl | exact Or.inr rfl)) pgs_nil)))
      (pss_one (ps_if (pt_cmpR op_notN (pv 11) pe_non (nomark _))
      (pss_one (ps_daug (hu_of hr) (pv 4) (pv 11) (pv 13) in_add (fun _ _ _ => rfl)))
      pss_nil)))))
      (pss_one (ps_ret (pe_callTy call_tuple_of (by rfl) T.tuple (by decide +kernel) (pa_cons (pe_lc (own := [("insurer", 14)]) (g := (gName 14)) (tt := tYes) rfl sc_next_gross.nd (pi_tup (pv 0)) (blkOk_by (own := [("insurer", 14)]) (N := (["insurers", "treaties", "direct", "gross", "losses", "paid", "cedent", "cover", "panel", "ended", "amount", "participant", "_", "part", "insurer", "loss"] : List Str)) (sc := defScope s_next_gross) (by decide +kernel)) (fun _ _ _ _ _ => (pg_name (i := 14) sc_next_gross.nd rfl (by first | exact Or.inl rfl | exact Or.inr rfl))) (fun _ _ _ _ _ => pts_nil) (fun _ _ _ _ _ => (pe_dget (hu_of hr) (pv 4) (pv 14) (fun _ _ => rfl)))) pa_nil))))))), ?_⟩
  have hlI : (ins.map V.str).length = ins.length := List.length_map ..
  refine ⟨_, rfl, _, rfl, a, c, _, _, rfl, hI, hD, fun G nG => dc_it (walk_Z (t1 := true) (t2 := true) (xs := ins.map V.str) (ys := ds.map V.int) rfl) (fun i H' => Same H H' ∧ H' G = some (.dK ((pairsS ins ds).take i))) ⟨same_new nG, upd_same⟩ (fun i H' _ z => ⟨same_sqt z.1 hI, same_sqt z.1 hD⟩) ?_ ?_⟩
  · rintro i v H1 H2 hi ⟨sm, hG0⟩ ⟨T0, y, w, rfl, nT, rfl, e1, e2⟩
    obtain ⟨x, rfl, hx⟩ := of_at_map (show (ds.map V.int)[i]? = some w from e2)
    obtain ⟨z, rfl, hz⟩ := of_at_str (show (ins.map V.str)[i]? = some y from e1)
    generalize hw : wipe _ _ = w0
    have ew : w0 = [some (.ref a), some (.ref b), some (.ref c), some (.ref d), none, none, none, none, none, none, none, none, none, none, none, none] := by
      rw [← hw]
      kernel_rfl
    clear hw
    subst ew
    have s3 : Same H1 (upd H1 T0 (.tup [.str z, .int x])) := same_new nT
    refine ⟨T0, _, rfl, SqT.of upd_same, rfl, _, _, rfl, _, _, rfl, rfl, by kernel_rfl, ?_⟩
    refine ⟨_, rfl, _, rfl, _, .inr z, rfl, s3 _ _ hG0, ?_, same_put (sm.trans s3) nG, ?_⟩
    · rw [List.length_take]
      have := (List.getElem?_eq_some_iff.mp hz).1
      have := hok.few
      exact szl (by omega)
    · rw [upd_same, putK_new (pairsS_new hok.nd hz), List.take_add_one, pairsS_get hz hx]
      rfl
  · rintro H1 ⟨s1, hG1⟩
    have hzl : min (ins.map V.str).length (ds.map V.int).length = (pairsS ins ds).length := by
      unfold pairsS
      rw [List.length_map, List.length_map, List.length_map, List.length_zip]
    rw [hzl, List.take_of_length_le (Nat.le_refl _)] at hG1
    dsimp only
    refine nx_to ?_
    generalize hw : List.set _ _ _ = w0
    have ew : w0 = [some (.ref a), some (.ref b), some (.ref c), some (.ref d), some (.ref G), none, none, none, none, none, none, none, none, none, none, none] := by
      rw [← hw]
      kernel_rfl
    clear hw
    subst ew
    refine ⟨_, rfl, _, rfl, _, rfl, a, b, d, ins, ts, gs, rfl, same_sqt s1 hI, TrsAt.same s1 hT, hok.len, fun t ht => (hok.ok t ht).c, same_sqt s1 hG, fun tp H2 s2 ntp htp => ?_⟩
    obtain ⟨pay, hpay⟩ : ∃ pay, tpay ts ins gs = pay := ⟨_, rfl⟩
    have hpl : pay.length = ts.length := by
      rw [← hpay]
      unfold tpay
      rw [payP_len, List.length_replicate]
    rw [hpay] at htp
    have s12 := s1.trans s2
    have hI2 := same_sqt s12 hI
    obtain ⟨xs, hS2, hA2⟩ := TrsAt.same s12 hT
    have hG2 := s2 _ _ hG1
    have nGp : ∀ {H' : Hp}, Bar G H2 H' → Same H H' := fun e => Bar.keep nG ((Bar.of s12).trans e)
    have tG : G ≠ tp := ne_of_none hG1 ntp
    dsimp only
    refine nx_to ?_
    generalize hw : List.set _ _ _ = w0
    have ew : w0 = [some (.ref a), some (.ref b), some (.ref c), some (.ref d), some (.ref G), some (.ref tp), none, none, none, none, none, none, none, none, none, none] := by
      rw [← hw]
      kernel_rfl
    clear hw
    subst ew
    obtain ⟨xs0, hS0, hA0⟩ := id hT
    refine ⟨_, rfl, _, rfl, b, tp, xs0, _, rfl, same_sqt s12 hS0, SqT.of htp, for_it (walk_Z (t1 := true) (t2 := true) (xs := xs0) (ys := pay.map V.int) rfl)
      (fun j σ H' => ∃ v1 v2 v3 v4 v5 v6 v7 v8 v9 v0 : Option V, σ = [some (.ref a), some (.ref b), some (.ref c), some (.ref d), some (.ref G), some (.ref tp), v1, v2, v3, v4, v5, v6, v7, v8, v9, v0] ∧ Bar G H2 H' ∧ H' G = some (.dK (pairsS ins (addTrs ins ((ts.zip pay).take j) ds))))
      ⟨_, _, _, _, _, _, _, _, _, _, rfl, Bar.refl _, hG2⟩ (fun j σ H' _ ⟨_, _, _, _, _, _, _, _, _, _, _, bb, _⟩ => ⟨same_sqt (nGp bb) hS0, SqT.of (bb _ _ tG.symm htp)⟩) ?_ ?_⟩
    · rintro j v σ H3 H4 hj ⟨v1, v2, v3, v4, v5, v6, v7, v8, v9, v0, rfl, bb, hG3⟩ ⟨T0, y, w, rfl, nT, rfl, e1, e2⟩
      obtain ⟨m, rfl, hm⟩ := of_at_map (show (pay.map V.int)[j]? = some w from e2)
      have e1 : xs0[j]? = some y := e1
      obtain ⟨t, ht, a1, vc, vp, rfl, g1, g2, g3⟩ := hA0.get e1
      obtain ⟨pa, px, rfl, hpS, hpl2, hpE⟩ := PanAt.ent g3
      have htm := List.mem_of_getElem? ht
      have s4 : Same H3 (upd H3 T0 (.tup [.ref a1, .int m])) := same_new nT
      have hz : (ts.zip pay)[j]? = some (t, m) := List.getElem?_zip_eq_some.mpr ⟨ht, hm⟩
      obtain ⟨H4, h4⟩ : ∃ H4, (upd H3 T0 (.tup [.ref a1, .int m])) = H4 := ⟨_, rfl⟩
      have hT0 : H4 T0 = some (.tup [.ref a1, .int m]) := by
        rw [← h4]
        exact upd_same
      rw [h4] at s4 ⊢
      have s04 : Same H H4 := (nGp bb).trans s4
      refine ⟨T0, _, rfl, SqT.of hT0, rfl, ?_⟩
      refine ⟨_, _, rfl, a1, _, rfl, same_sqt s04 g1, rfl, ?_⟩
      refine ⟨_, _, rfl, ?_⟩
      refine ⟨_, _, rfl, ?_⟩
      refine ⟨_, _, rfl, ?_⟩
      refine ⟨_, _, rfl, rfl, ?_⟩
      refine ⟨_, _, rfl, rfl, ?_⟩
      generalize hw : List.set _ _ _ = w0
      have ew : w0 = [some (.ref a), some (.ref b), some (.ref c), some (.ref d), some (.ref G), some (.ref tp), some (.str t.ced), some (.ref vc), some (.ref pa), some (.bl t.ended), some (.int m), v6, v7, v8, v9, v0] := by
        rw [← hw]
        rfl
      clear hw
      subst ew
      refine ⟨_, rfl, _, rfl, _, rfl, .ref pa, t.pan, m, rfl, PanAt.same s04 g3, (hok.ok t htm).p, fun pp H5 s5 npp hpp => ?_⟩
      have s05 := s04.trans s5
      obtain ⟨parts, hparts⟩ : ∃ parts, alloc m (shs t.pan) = parts := ⟨_, rfl⟩
      rw [hparts] at hpp
      have hpn : parts.length = t.pan.length := by
        rw [← hparts, alloc_len]
        exact List.length_map ..
      have hG5 := (s4.trans s5) _ _ hG3
      obtain ⟨ls, hls⟩ : ∃ ls, addTrs ins ((ts.zip pay).take j) ds = ls := ⟨_, rfl⟩
      have hll : ls.length = ins.length := by rw [← hls, addTrs_len, hdl]
      rw [hls] at hG5
      have b5 : ∀ {H' : Hp}, Bar G H5 H' → Bar G H2 H' := fun e => bb.trans ((Bar.of (s4.trans s5)).trans e)
      have pG : G ≠ pp := ne_of_none (s4 _ _ hG3) npp
      refine ⟨pa, pp, px, _, rfl, same_sqt s05 hpS, SqT.of hpp, for_it (walk_Z (t1 := true) (t2 := true) (xs := px) (ys := parts.map V.int) rfl)
        (fun i σ H' => ∃ v1 v2 v3 v4 v5 v6 v7 v8 v9 v0 : Option V, σ = [some (.ref a), some (.ref b), some (.ref c), some (.ref d), some (.ref G), some (.ref tp), v1, v2, v3, v4, v5, v6, v7, v8, v9, v0] ∧ Bar G H5 H' ∧ H' G = some (.dK (pairsS ins (addPan ins ((t.pan.zip parts).take i) ls))))
        ⟨_, _, _, _, _, _, _, _, _, _, rfl, Bar.refl _, hG5⟩ (fun i σ H' _ ⟨_, _, _, _, _, _, _, _, _, _, _, be, _⟩ => ⟨same_sqt (nGp (b5 be)) hpS, SqT.of (be _ _ pG.symm hpp)⟩) ?_ ?_⟩
      · rintro i v σ H6 H7 hi ⟨u1, u2, u3, u4, u5, u6, u7, u8, u9, u0, rfl, be, hG6⟩ ⟨T1, y, w, rfl, nT1, rfl, f1, f2⟩
        obtain ⟨part, rfl, hpart⟩ := of_at_map (show (parts.map V.int)[i]? = some w from f2)
        have f1 : px[i]? = some y := f1
        obtain ⟨e, eb, he, rfl, heS⟩ := hpE i y f1
        have hzz : (t.pan.zip parts)[i]? = some (e, part) := List.getElem?_zip_eq_some.mpr ⟨he, hpart⟩
        have s7 : Same H6 (upd H6 T1 (.tup [.ref eb, .int part])) := same_new nT1
        obtain ⟨H7, h7⟩ : ∃ H7, (upd H6 T1 (.tup [.ref eb, .int part])) = H7 := ⟨_, rfl⟩
        have hT1 : H7 T1 = some (.tup [.ref eb, .int part]) := by
          rw [← h7]
          exact upd_same
        rw [h7] at s7 ⊢
        refine ⟨T1, _, rfl, SqT.of hT1, rfl, ?_⟩
        refine ⟨_, _, rfl, eb, _, rfl, same_sqt ((nGp (b5 be)).trans s7) heS, rfl, ?_⟩
        refine ⟨_, _, rfl, ?_⟩
        refine ⟨_, _, rfl, rfl, ?_⟩
        refine ⟨_, _, rfl, rfl, ?_⟩
        have hG7 := s7 _ _ hG6
        have be7 : Bar G H5 H7 := be.trans (Bar.of s7)
        obtain ⟨l2, hl2⟩ : ∃ l2, addPan ins ((t.pan.zip parts).take i) ls = l2 := ⟨_, rfl⟩
        have hl2l : l2.length = ins.length := by rw [← hl2, addPan_len, hll]
        rw [hl2] at hG7
        rcases e with ⟨_ | z, n⟩
        · refine ⟨_, rfl, rfl, _, rfl, iteF ?_⟩
          refine ⟨_, _, _, _, _, _, _, _, _, _, rfl, be7, ?_⟩
          rw [List.take_add_one, hzz]
          show H7 G = some (.dK (pairsS ins (addPan ins ((t.pan.zip parts).take i ++ [((none, n), part)]) ls)))
          rw [addPan_add, hl2]
          exact hG7
        · have hzin := hok.mem t htm (some z, n) (List.mem_of_getElem? he) z rfl
          obtain ⟨k, hk⟩ := List.getElem?_of_mem hzin
          have hkl := (List.getElem?_eq_some_iff.mp hk).1
          have hx : l2[k]? = some l2[k] := List.getElem?_eq_getElem (by omega)
          refine ⟨_, rfl, rfl, _, rfl, iteT ?_⟩
          refine ⟨_, rfl, _, rfl, G, .int l2[k], rfl, .inl ⟨_, .inr z, .inl hG7, rfl, (pairsS_val hok.nd hk hx).symm⟩, _, rfl, _, _, rfl, rfl, _, .inl ⟨_, .inr z, hG7, rfl, ?_, rfl⟩, ?_⟩
          · unfold pairsS
            rw [List.length_map, List.length_zip]
            have := hok.few
            exact szl (by omega)
          · refine ⟨_, _, _, _, _, _, _, _, _, _, rfl, Bar.put be7, ?_⟩
            rw [upd_same, List.take_add_one, hzz]
            show some (HO.dK (putK (pairsS ins l2) (.inr z) (.int (l2[k] + part)))) = some (HO.dK (pairsS ins (addPan ins ((t.pan.zip parts).take i ++ [((some z, n), part)]) ls)))
            rw [addPan_add, hl2, pairsS_put hok.nd hk hx]
            show _ = some (HO.dK (pairsS ins (addAt ins l2 z part)))
            rw [addAt_set hok.nd hk hx]
      · rintro σ H6 ⟨u1, u2, u3, u4, u5, u6, u7, u8, u9, u0, rfl, be, hG6⟩
        refine ⟨_, _, _, _, _, _, _, _, _, _, rfl, b5 be, ?_⟩
        have hzl : min px.length (parts.map V.int).length = (t.pan.zip parts).length := by
          rw [List.length_map, List.length_zip, hpl2]
        rw [hzl, List.take_of_length_le (Nat.le_refl _)] at hG6
        rw [hG6, List.take_add_one, hz]
        show _ = some (HO.dK (pairsS ins (addTrs ins ((ts.zip pay).take j ++ [(t, m)]) ds)))
        rw [addTrs_add, hls, hparts]
    · rintro σ H3 ⟨v1, v2, v3, v4, v5, v6, v7, v8, v9, v0, rfl, bb, hG3⟩
      have hzl : min xs0.length (pay.map V.int).length = (ts.zip pay).length := by
        rw [List.length_map, List.length_zip, hA0.1]
      rw [hzl, List.take_of_length_le (Nat.le_refl _)] at hG3
      have hfin : addTrs ins (ts.zip pay) ds = nextG ins ts ds gs := by
        unfold nextG
        rw [hpay]
      rw [hfin] at hG3
      obtain ⟨ls, hls⟩ : ∃ ls, nextG ins ts ds gs = ls := ⟨_, rfl⟩
      have hll : ls.length = ins.length := by
        rw [← hls]
        unfold nextG
        rw [addTrs_len, hdl]
      rw [hls] at hG3 q
      have s03 := nGp bb
      refine ⟨_, rfl, a, rfl, ⟨_, same_sqt s03 hI⟩, fun D nD => lc_tup (K := K) (a := a) (xs := ins.map V.str) (fun i H' => Same H3 H' ∧ H' D = some (.lst ((ls.map V.int).take i))) ⟨same_new nD, upd_same⟩ (fun i H' _ z => same_sqt (s03.trans z.1) hI) ?_ ?_⟩
      · rintro i y H' hi ⟨sm, hD4⟩
        obtain ⟨z, rfl, hz⟩ := of_at_str hi
        have hil := (List.getElem?_eq_some_iff.mp hz).1
        have hx : ls[i]? = some ls[i] := List.getElem?_eq_getElem (by omega)
        exact ⟨rfl, ⟨_, rfl, _, rfl, G, .int ls[i], rfl, .inl ⟨_, .inr z, .inl (sm _ _ hG3), rfl, (pairsS_val hok.nd hz hx).symm⟩, acc_to nD sm hD4 (at_map hx) (by rw [List.length_map]; have := hok.few; omega)⟩⟩
      · rintro H' ⟨sm, hD4⟩
        have hD5 := acc_all (by rw [List.length_map, List.length_map, hll]) hD4
        refine ⟨D, _, rfl, .inl ⟨SqL.of hD5, fun p np => ?_⟩⟩
        exact q p _ (same_add (s03.trans sm) np) ((s03.trans sm).free np) upd_same

theorem ok_rounds_to_end {f : Addr} {fd : FuncData} (D_rounds_to_end : Dfn K mg "rounds_to_end" s_rounds_to_end ["insurers", "treaties", "direct"] f fd) (T : Tx K mg C_BadName C_BadCover C_BadPanel C_BadAmount C_NameTaken C_NoSuchName C_Twice C_OwnPanel C_TooMany C_NoEnd C_Market) {f_next_gross : Addr} {fd_next_gross : FuncData} (D_next_gross : Dfn K mg "next_gross" s_next_gross ["insurers", "treaties", "direct", "gross"] f_next_gross fd_next_gross) (G_next_gross : FnOk P w K mg base CX0 (5) f_next_gross fd_next_gross ["insurers", "treaties", "direct", "gross"] (sp_next_gross K)) :
    FnOk P w K mg base (L2.CX P w) (6) f fd ["insurers", "treaties", "direct"] (sp_rounds K C_NoEnd) := by
  refine D_rounds_to_end.F.okX sc_rounds_to_end (fun vs H Q E h => ?_) (fun cdv A outer s H vs Q E hr h => ?_)
  · obtain ⟨a, b, c, ins, ts, ds, rfl, hI, hT, hok, hD, hdl, q1, q2⟩ := h
    rfl
  obtain ⟨a, b, c, ins, ts, ds, rfl, hI, hT, hok, hD, hdl, q1, q2⟩ := h
  refine ⟨_, (pss_cons (ps_set (i := 3) sc_rounds_to_end.nd rfl (by first | exact Or.inl rfl | exact Or.inr rfl) (pe_lst (pa_cons (pv 2) pa_nil)))
      (pss_cons (ps_for (passes_of rfl) rfl (pi_range1 (by rfl) T.range (pa_cons (pe_op op_add (pe_gi rfl T.g_LAST_ROUND) pe_int) pa_nil)) (pg_name (i := 4) sc_rounds_to_end.nd rfl (by first | exact Or.inl rfl | exact Or.inr rfl))
      (pss_cons (ps_set (i := 5) sc_rounds_to_end.nd rfl (by first | exact Or.inl rfl | exact Or.inr rfl) (pe_call G_next_gross (hr.mono (by first | decide | omega)) rfl D_next_gross.m D_next_gross.F.kp D_next_gross.b .nil pass0 (pa_cons (pv 0) (pa_cons (pv 1) (pa_cons (pv 2) (pa_cons (pe_ix (r := rIxL K) ix_list (pv 3) (pe_un un_neg pe_int) (fun _ _ => rfl)) pa_nil))))))
      (pss_cons (ps_if (pt_cmpR (op_eqD hr.units) (pv 5) (pe_ix (r := rIxL K) ix_list (pv 3) (pe_un un_neg pe_int) (fun _ _ => rfl)) (nomark _))
      (pss_cons (ps_if (pt_val (pe_callB (cr_any rfl) (by rfl) T.any (by decide +kernel) (pa_cons (pe_lc (own := [("loss", 6)]) (g := (gName 6)) (tt := tYes) rfl sc_rounds_to_end.nd (pi_tup (pv 5)) (blkOk_by (own := [("loss", 6)]) (N := (["insurers", "treaties", "direct", "rows", "_", "behind", "loss"] : List Str)) (sc := defScope s_rounds_to_end) (by decide +kernel)) (fun _ _ _ _ _ => (pg_name (i := 6) sc_rounds_to_end.nd rfl (by first | exact Or.inl rfl | exact Or.inr rfl))) (fun _ _ _ _ _ => pts_nil) (fun _ _ _ _ _ => (pe_cmpR op_gt (pv 6) (pe_gi rfl T.g_MOST_GROSS) (nomark _)))) pa_nil)))
      (pss_one (ps_raise rfl (takes_of rfl rfl rfl rfl) (pmk_own PySem.F.excBase_ValueError T.exc_NoEnd.x T.exc_NoEnd.g T.exc_NoEnd.k (raises_own T.exc_NoEnd.b T.exc_NoEnd.t) rfl)))
      pss_nil)
      (pss_one (ps_ret (pe_callTy call_tuple_of (by rfl) T.tuple (by decide +kernel) (pa_cons (pv 3) pa_nil)))))
      pss_nil)
      (pss_one (ps_expr (pe_bm PySem.F.plainAttrs_list PySem.F.slot_list_append PySem.F.type_list_append mt_append (pv 3) (pa_cons (pv 5) pa_nil)))))))
      (pss_one (ps_raise rfl (takes_of rfl rfl rfl rfl) (pmk_own PySem.F.excBase_ValueError T.exc_NoEnd.x T.exc_NoEnd.g T.exc_NoEnd.k (raises_own T.exc_NoEnd.b T.exc_NoEnd.t) rfl))))), ?_⟩
  refine ⟨_, rfl, sz (by show 1 ≤ 100000; decide), fun o no => ?_⟩
  dsimp only
  refine nx_to ?_
  generalize hw : List.set _ _ _ = w0
  have ew : w0 = [some (.ref a), some (.ref b), some (.ref c), some (.ref o), none, none, none] := by
    rw [← hw]
    kernel_rfl
  clear hw
  subst ew
  refine ⟨_, _, rfl, rfl, 201, rfl, by decide, by decide, for_range (lo := 0) (n := 201) (fun i σ H' => ∃ v4 v5 v6 : Option V, σ = [some (.ref a), some (.ref b), some (.ref c), some (.ref o), v4, v5, v6] ∧ Same H H' ∧ (∀ j, j < i → row ins ts ds (j + 1) ≠ row ins ts ds j) ∧
    ∃ (ys : List V) (y : Addr), H' o = some (.lst (ys ++ [.ref y])) ∧ AllAt (RowR K) H' (ys ++ [.ref y]) ((List.range (i + 1)).map (row ins ts ds)) ∧ SqT K H' y ((row ins ts ds i).map V.int))
    ⟨_, _, _, rfl, same_new no, fun j hj => absurd hj (Nat.not_lt_zero j), [], c, upd_same, ?_, same_sqt (same_new no) hD⟩ ?_ ?_⟩
  · refine ⟨rfl, fun i r hr => ?_⟩
    cases i with
    | zero =>
      cases hr
      exact ⟨.ref c, rfl, c, rfl, same_sqt (same_new no) hD⟩
    | succ i => simp at hr
  · rintro i σ H1 hi ⟨v4, v5, v6, rfl, sm, hne, ys, y, ho, hA, hy⟩
    have hal := hA.1
    rw [List.length_append, List.length_map, List.length_range] at hal
    have hal : ys.length + 1 = i + 1 := hal
    refine ⟨_, rfl, _, rfl, _, rfl, _, rfl, 1, rfl, o, _, _, .ref y, rfl, rfl, SqL.of ho, atI_last _ _, ?_⟩
    refine ⟨a, b, c, y, ins, ts, ds, row ins ts ds i, rfl, same_sqt sm hI, TrsAt.same sm hT, hok, same_sqt sm hD, hdl, hy, fun g H2 s2 ng hg => ?_⟩
    have hg2 : H2 g = some (.tup ((row ins ts ds (i + 1)).map V.int)) := hg
    have s02 := sm.trans s2
    have hy2 := same_sqt s2 hy
    have ho2 := s2 _ _ ho
    have hA2 : AllAt (RowR K) H2 (ys ++ [.ref y]) ((List.range (i + 1)).map (row ins ts ds)) := AllAt.same (R := RowR K) (fun e r => RowR.same e r) s2 hA
    dsimp only
    refine nx_to ?_
    generalize hw : List.set _ _ _ = w0
    have ew : w0 = [some (.ref a), some (.ref b), some (.ref c), some (.ref o), some (.int (0 + (i : Int))), some (.ref g), v6] := by
      rw [← hw]
      rfl
    clear hw
    subst ew
    refine ⟨_, rfl, _, rfl, 1, rfl, o, _, _, .ref y, rfl, rfl, SqL.of ho2, atI_last _ _, ?_⟩
    refine ⟨.tuple ((row ins ts ds (i + 1)).map PyData.int), .tuple ((row ins ts ds i).map PyData.int), .tup (SqT.of hg2) (DpAll.ints _), .tup hy2 (DpAll.ints _), shp_ints _, shp_ints _, _, rfl, ?_⟩
    rw [eqv_tup]
    refine iteB (fun c1 => ?_) (fun c1 => ?_)
    · have he := of_decide_eq_true c1
      obtain ⟨qe, qr⟩ := q1 i (by omega) he hne
      have hrl := row_len (ts := ts) hdl (i + 1)
      have hfew := hok.few
      refine ⟨_, rfl, g, rfl, ⟨_, SqT.of hg2⟩, fun D nD => lc_tup (K := K) (a := g) (xs := (row ins ts ds (i + 1)).map V.int) (fun k H' => Same H2 H' ∧ H' D = some (.lst ((((row ins ts ds (i + 1)).map fun x => decide (1000000000 < x)).map V.bl).take k))) ⟨same_new nD, upd_same⟩ (fun k H' _ z => SqT.of (z.1 _ _ hg2)) ?_ ?_⟩
      · rintro k v H' hk ⟨s3, hD3⟩
        obtain ⟨x, rfl, hx⟩ := of_at_map hk
        have hb : (((row ins ts ds (i + 1)).map fun x => decide (1000000000 < x)).map V.bl)[k]? = some (.bl (decide (1000000000 < x))) := by
          rw [List.getElem?_map, List.getElem?_map, hx]
          rfl
        exact ⟨rfl, ⟨_, rfl, _, _, rfl, rfl, acc_to nD s3 hD3 hb (by rw [List.length_map, List.length_map]; omega)⟩⟩
      · rintro H' ⟨s3, hD3⟩
        have hD4 := acc_all (by rw [List.length_map, List.length_map, List.length_map]) hD3
        refine ⟨D, _, rfl, SqL.of hD4, _, rfl, ?_⟩
        rw [List.any_map]
        have eb : (row ins ts ds (i + 1)).any (id ∘ fun x => decide (1000000000 < x)) = big (row ins ts ds i) := by
          rw [he]
          rfl
        rw [eb]
        refine iteB (fun c2 => ?_) (fun c2 => ?_)
        · exact qe c2 _ (s02.trans s3)
        · refine ⟨_, rfl, o, _, rfl, .inl ⟨SqL.of (s3 _ _ ho2), fun p np => ?_⟩⟩
          have s4 : Same H2 (upd H' p (.tup (ys ++ [.ref y]))) := same_add s3 np
          exact qr c2 p _ (s02.trans s4) ⟨_, SqT.of upd_same, AllAt.same (R := RowR K) (fun e r => RowR.same e r) s4 hA2⟩
    · have hne1 := of_decide_eq_false c1
      refine ⟨_, rfl, .inl ⟨rfl, _, SqL.of ho2⟩, _, rfl, o, _, _, rfl, rfl, ho2, by rw [List.length_append]; show ys.length + 1 < sizeLine; exact szl (by omega), ?_⟩
      refine ⟨_, _, _, rfl, same_put s02 no, fun j hj => ?_, ys ++ [.ref y], g, upd_same, ?_, sqt_put ho2 (SqT.of hg2)⟩
      · by_cases e : j = i
        · rw [e]
          exact hne1
        · exact hne j (by omega)
      · rw [List.range_succ, List.map_append]
        exact AllAt.add (AllAt.imp (S := RowR K) hA2 fun v r h => RowR.put ho2 h) ⟨g, rfl, sqt_put ho2 (SqT.of hg2)⟩
  · rintro σ H1 ⟨v4, v5, v6, rfl, sm, hne, _⟩
    exact q2 (fun i hi => hne i (by omega)) _ sm

theorem ok_check_new_name {f : Addr} {fd : FuncData} (D_check_new_name : Dfn K mg "check_new_name" s_check_new_name ["name", "names", "most"] f fd) (T : Tx K mg C_BadName C_BadCover C_BadPanel C_BadAmount C_NameTaken C_NoSuchName C_Twice C_OwnPanel C_TooMany C_NoEnd C_Market) {f_check_name : Addr} {fd_check_name : FuncData} (D_check_name : Dfn K mg "check_name" s_check_name ["value"] f_check_name fd_check_name) (G_check_name : FnOk P w K mg base (L2.CX P w) (2) f_check_name fd_check_name ["value"] (sp_check_name K C_BadName)) {f_NameTaken___init : Addr} {fd_NameTaken___init : FuncData} (D_NameTaken___init : Ini K C_NameTaken "NameTaken.__init__" s_NameTaken___init ["self", "name"] f_NameTaken___init fd_NameTaken___init) (G_NameTaken___init : FnOk P w K mg base CX0 (1) f_NameTaken___init fd_NameTaken___init ["self", "name"] (sp_xi "name" C_NameTaken)) :
    FnOk P w K mg base (L2.CX P w) (3) f fd ["name", "names", "most"] (sp_check_new_name K C_BadName C_TooMany C_NameTaken) := by
  refine D_check_new_name.F.okX sc_check_new_name (fun vs H Q E h => ?_) (fun cdv A outer s H vs Q E hr h => ?_)
  · obtain ⟨x, a, ys, n, rfl, hS, h⟩ := h
    rfl
  obtain ⟨x, a, ys, n, rfl, hS, h⟩ := h
  refine ⟨_, (pss_cons (ps_expr (pe_call G_check_name (hr.mono (by first | decide | omega)) rfl D_check_name.m D_check_name.F.kp D_check_name.b .nil (passes_call (takes_of rfl rfl rfl rfl) (fun _ _ _ _ h => h)) (pa_cons (pv 0) pa_nil)))
      (pss_cons (ps_if (pt_cmpR op_ge (pe_callB call_len_seq (by rfl) T.len PySem.boot_len (pa_cons (pv 1) pa_nil)) (pv 2) (nomark _))
      (pss_one (ps_raise rfl (takes_of rfl rfl rfl rfl) (pmk_own PySem.F.excBase_ValueError T.exc_TooMany.x T.exc_TooMany.g T.exc_TooMany.k (raises_own T.exc_TooMany.b T.exc_TooMany.t) rfl)))
      pss_nil)
      (pss_one (ps_if (pt_cmpR op_in_seq (pv 0) (pv 1) (by with_unfolding_all rfl))
      (pss_one (ps_raise rfl (takes_of rfl rfl rfl rfl) (pmk_oex T.ox_NameTaken.o D_NameTaken___init.i D_NameTaken___init.t G_NameTaken___init (hr.mono (by first | decide | omega)) D_NameTaken___init.b .nil pass0 rfl T.ox_NameTaken.g (pa_cons (pv 0) pa_nil))))
      pss_nil)))), ?_⟩
  rcases h with ⟨h, q⟩ | ⟨z, rfl, h, q⟩
  · exact ⟨_, rfl, _, rfl, .inr ⟨h, q⟩⟩
  · refine ⟨_, rfl, _, rfl, .inl ⟨h, fun H' sm => ?_⟩⟩
    refine ⟨_, rfl, a, _, rfl, .inr (same_sqt sm hS), _, rfl, _, _, rfl, rfl, _, rfl, ?_⟩
    rw [List.length_map]
    rcases q with ⟨hn, q⟩ | ⟨hn, hz, q⟩ | ⟨hn, hz, q⟩
    · rw [decide_eq_true hn]
      exact iteT (q H' sm)
    · rw [decide_eq_false hn]
      refine iteF ⟨_, rfl, _, rfl, a, _, rfl, .inr (same_sqt sm hS), rfl, flat_strs ys, ?_⟩
      rw [inV_str, decide_eq_true hz]
      exact ⟨_, rfl, iteT ⟨_, rfl, mkO_to fun d nd => q _ d (same_add sm nd) upd_same⟩⟩
    · rw [decide_eq_false hn]
      refine iteF ⟨_, rfl, _, rfl, a, _, rfl, .inr (same_sqt sm hS), rfl, flat_strs ys, ?_⟩
      rw [inV_str, decide_eq_false hz]
      exact ⟨_, rfl, iteF (q H' sm)⟩

theorem ok_check_placed {f : Addr} {fd : FuncData} (D_check_placed : Dfn K mg "check_placed" s_check_placed ["cedent", "panel", "insurers"] f fd) (T : Tx K mg C_BadName C_BadCover C_BadPanel C_BadAmount C_NameTaken C_NoSuchName C_Twice C_OwnPanel C_TooMany C_NoEnd C_Market) {f_check_known : Addr} {fd_check_known : FuncData} (D_check_known : Dfn K mg "check_known" s_check_known ["name", "names"] f_check_known fd_check_known) (G_check_known : FnOk P w K mg base (L2.CX P w) (3) f_check_known fd_check_known ["name", "names"] (sp_check_known K C_NoSuchName)) :
    FnOk P w K mg base (L2.CX P w) (4) f fd ["cedent", "panel", "insurers"] (sp_check_placed K) := by
  refine D_check_placed.F.okX sc_check_placed (fun vs H Q E h => ?_) (fun cdv A outer s H vs Q E hr h => ?_)
  · obtain ⟨c, z, x, a, ins, n, rfl, hP, hI, hc, hz, hcz, q⟩ := h
    rfl
  obtain ⟨c, z, x, a, ins, n, rfl, hP, hI, hc, hz, hcz, q⟩ := h
  refine ⟨_, (pss_cons (ps_expr (pe_call G_check_known (hr.mono (by first | decide | omega)) rfl D_check_known.m D_check_known.F.kp D_check_known.b .nil (passes_call (takes_of rfl rfl rfl rfl) (fun _ _ _ _ h => h)) (pa_cons (pv 0) (pa_cons (pv 2) pa_nil))))
      (pss_cons (ps_setLc (i := 3) (own := [("participant", 4), ("_", 5)]) (g := (gTup K 2 (gCons (gName 4) (gCons (gName 5) gNil)))) (tt := tYes) rfl sc_check_placed.nd rfl rfl (sw_true rfl rfl rfl (by decide +kernel)) (pi_tup (pv 1)) (blkOk_by (own := [("participant", 4), ("_", 5)]) (N := (["cedent", "panel", "insurers", "participants", "participant", "_"] : List Str)) (sc := defScope s_check_placed) (by decide +kernel)) (fun _ _ _ _ _ => (pg_tup rfl (pgs_cons (pg_name (i := 4) sc_check_placed.nd rfl (by first | exact Or.inl rfl | exact Or.inr rfl)) (pgs_cons (pg_name (i := 5) sc_check_placed.nd rfl (by first | exact Or.inl rfl | exact Or.inr rfl)) pgs_nil)))) (fun _ _ _ _ _ => pts_nil) (fun _ _ _ _ _ => (pv 4)))
      (pss_cons (ps_for (passes_of rfl) rfl (pi_list (pv 3)) (pg_name (i := 4) sc_check_placed.nd rfl (by first | exact Or.inl rfl | exact Or.inr rfl))
      (pss_one (ps_if (pt_cmpR op_notN (pv 4) pe_non (nomark _))
      (pss_one (ps_expr (pe_call G_check_known (hr.mono (by first | decide | omega)) rfl D_check_known.m D_check_known.F.kp D_check_known.b .nil (passes_call (takes_of rfl rfl rfl rfl) (fun _ _ _ _ h => h)) (pa_cons (pv 4) (pa_cons (pv 2) pa_nil)))))
      pss_nil)))
      (pss_cons (ps_if (pt_cmpR op_lt (pe_lenSet rfl (by rfl) T.len (by rfl) T.set (pv 3)) (pe_callB call_len_seq (by rfl) T.len PySem.boot_len (pa_cons (pv 3) pa_nil)) (nomark _))
      (pss_one (ps_raise rfl (takes_of rfl rfl rfl rfl) (pmk_own PySem.F.excBase_ValueError T.exc_Twice.x T.exc_Twice.g T.exc_Twice.k (raises_own T.exc_Twice.b T.exc_Twice.t) rfl)))
      pss_nil)
      (pss_one (ps_if (pt_cmpR op_in_seq (pv 0) (pv 3) (by with_unfolding_all rfl))
      (pss_one (ps_raise rfl (takes_of rfl rfl rfl rfl) (pmk_own PySem.F.excBase_ValueError T.exc_OwnPanel.x T.exc_OwnPanel.g T.exc_OwnPanel.k (raises_own T.exc_OwnPanel.b T.exc_OwnPanel.t) rfl)))
      pss_nil)))))), ?_⟩
  obtain ⟨pa, px, rfl, hpS, hpl, hpE⟩ := PanAt.ent hP
  have hpl : px.length = 1 := hpl
  refine ⟨_, rfl, _, rfl, c, a, ins, rfl, hI, .inl ⟨hc, ?_⟩⟩
  refine ⟨_, rfl, pa, rfl, ⟨_, hpS⟩, fun D nD => lc_tup (K := K) (a := pa) (xs := px) (fun i H' => Same H H' ∧ H' D = some (.lst (([z].map V.str).take i))) ⟨same_new nD, upd_same⟩ (fun i H' _ w => same_sqt w.1 hpS) ?_ ?_⟩
  · rintro i y H' hi ⟨sm, hD⟩
    obtain ⟨e, b, he, rfl, hb⟩ := hpE i y hi
    have hi1 := (List.getElem?_eq_some_iff.mp hi).1
    have i0 : i = 0 := by omega
    subst i0
    cases he
    generalize hw : wipe _ _ = w0
    have ew : w0 = [some (.str c), some (.ref pa), some (.ref a), none, none, none] := by
      rw [← hw]
      kernel_rfl
    clear hw
    subst ew
    refine ⟨b, _, rfl, same_sqt sm hb, rfl, ?_⟩
    refine ⟨_, _, rfl, ?_⟩
    refine ⟨_, _, rfl, rfl, by kernel_rfl, ?_⟩
    exact ⟨_, rfl, acc_to nD sm hD rfl (by show 1 ≤ 100000; decide)⟩
  · rintro H1 ⟨s1, hD⟩
    have hD1 : H1 D = some (.lst ([z].map V.str)) := acc_all hpl hD
    dsimp only
    refine nx_to ?_
    generalize hw : List.set _ _ _ = w0
    have ew : w0 = [some (.str c), some (.ref pa), some (.ref a), some (.ref D), none, none] := by
      rw [← hw]
      kernel_rfl
    clear hw
    subst ew
    have hI1 := same_sqt s1 hI
    refine ⟨_, rfl, D, rfl, ⟨_, SqL.of hD1⟩, for_list (K := K) (a := D) (xs := [z].map V.str) (fun i σ H' => ∃ v4 v5 : Option V, σ = [some (.str c), some (.ref pa), some (.ref a), some (.ref D), v4, v5] ∧ H' = H1) ⟨none, none, rfl, rfl⟩ (fun i σ H' _ ⟨_, _, _, e⟩ => by rw [e]; exact SqL.of hD1) ?_ ?_⟩
    · rintro i v σ H' hi ⟨v4, v5, rfl, rfl⟩
      obtain ⟨y, rfl, hy⟩ := of_at_str hi
      have ey : y = z := List.mem_singleton.mp (List.mem_of_getElem? hy)
      subst ey
      refine ⟨_, rfl, rfl, _, rfl, iteT ?_⟩
      exact ⟨_, rfl, _, rfl, y, a, ins, rfl, hI1, .inl ⟨hz, _, _, rfl, rfl⟩⟩
    · rintro σ H' ⟨v4, v5, rfl, rfl⟩
      refine ⟨_, rfl, D, [z], rfl, .inl (SqL.of hD1), Nat.le_refl _, _, rfl, D, _, rfl, .inl (SqL.of hD1), _, _, rfl, rfl, _, rfl, ?_⟩
      refine iteF ?_
      refine ⟨_, rfl, _, rfl, D, _, rfl, .inl (SqL.of hD1), rfl, flat_strs [z], ?_⟩
      rw [inV_str, decide_eq_false (fun e => hcz (List.mem_singleton.mp e))]
      exact ⟨_, rfl, iteF (q _ s1)⟩

theorem ok_direct_losses {f : Addr} {fd : FuncData} (D_direct_losses : Dfn K mg "direct_losses" s_direct_losses ["insurers", "losses", "event"] f fd) (T : Tx K mg C_BadName C_BadCover C_BadPanel C_BadAmount C_NameTaken C_NoSuchName C_Twice C_OwnPanel C_TooMany C_NoEnd C_Market) :
    FnOk P w K mg base CX0 (1) f fd ["insurers", "losses", "event"] (sp_direct_losses K) := by
  refine D_direct_losses.F.ok sc_direct_losses (fun vs H Q E h => ?_) (fun cdv A outer s H vs Q E hr h => ?_)
  · obtain ⟨a, d, e, ins, L, rfl, hI, hl, hL, q⟩ := h
    rfl
  obtain ⟨a, d, e, ins, L, rfl, hI, hl, hL, q⟩ := h
  refine ⟨_, (pss_one (ps_ret (pe_callTy call_tuple_of (by rfl) T.tuple (by decide +kernel) (pa_cons (pe_lc (own := [("insurer", 3)]) (g := (gName 3)) (tt := tYes) rfl sc_direct_losses.nd (pi_tup (pv 0)) (blkOk_by (own := [("insurer", 3)]) (N := (["insurers", "losses", "event", "insurer"] : List Str)) (sc := defScope s_direct_losses) (by decide +kernel)) (fun _ _ _ _ _ => (pg_name (i := 3) sc_direct_losses.nd rfl (by first | exact Or.inl rfl | exact Or.inr rfl))) (fun _ _ _ _ _ => pts_nil) (fun _ _ _ _ _ => (pe_dget2 (hu_of hr) (pv 1) (pe_tup (pa_cons (pv 2) (pa_cons (pv 3) pa_nil))) pe_int ⟨rfl, rfl, rfl, rfl⟩))) pa_nil)))), ?_⟩
  refine ⟨_, rfl, a, rfl, ⟨_, hI⟩, fun D nD => lc_tup (K := K) (a := a) (xs := ins.map V.str) (fun i H' => Same H H' ∧ H' D = some (.lst (((directs ins L e).map V.int).take i))) ⟨same_new nD, upd_same⟩ (fun i H' _ z => same_sqt z.1 hI) ?_ ?_⟩
  · rintro i y H' hi ⟨sm, hD⟩
    obtain ⟨z, rfl, hz⟩ := of_at_str hi
    have hv : ((directs ins L e).map V.int)[i]? = some (.int (lossOf L e z)) := by
      refine at_map ?_
      show (ins.map (lossOf L e))[i]? = _
      rw [List.getElem?_map, hz]
      rfl
    have hL' := rd_same sm hL
    refine ⟨rfl, ⟨_, rfl, d, rfl, isD_t hL', _, rfl, _, rfl, sz (by show 2 ≤ 100000; decide), fun k nk => ?_⟩⟩
    · have hL2 := rd_same (same_new (o := .tup [.str e, .str z]) nk) hL'
      refine ⟨_, .inr ⟨_, [.inr e, .inr z], k, hL2, rfl, upd_same, rfl⟩, ?_⟩
      rw [lkv_get]
      exact acc_to nD (same_add sm nk) ((same_new nk) _ _ hD) hv (by rw [List.length_map]; show (ins.map _).length ≤ 100000; rw [List.length_map]; omega)
  · rintro H' ⟨sm, hD⟩
    have hD2 := acc_all (by rw [List.length_map, List.length_map]; show _ = (ins.map _).length; rw [List.length_map]) hD
    exact ⟨D, _, rfl, .inl ⟨SqL.of hD2, fun p np => q p _ (same_add sm np) (sm.free np) upd_same⟩⟩

theorem ok_Market___init {f : Addr} {fd : FuncData} (D_Market___init : Mki K C_Market "Market.__init__" s_Market___init ["self"] f fd) (T : Tx K mg C_BadName C_BadCover C_BadPanel C_BadAmount C_NameTaken C_NoSuchName C_Twice C_OwnPanel C_TooMany C_NoEnd C_Market) :
    FnOk P w K mg base CX0 (1) f fd ["self"] (sp_minit K C_Market) := by
  refine D_Market___init.F.ok sc_Market___init (fun vs H Q E h => ?_) (fun cdv A outer s H vs Q E hr h => ?_)
  · obtain ⟨m, dx, rfl, hm, q⟩ := h
    rfl
  obtain ⟨m, dx, rfl, hm, q⟩ := h
  refine ⟨_, (pss_cons (ps_fld (pv 0) (pe_tup pa_nil) rfl)
      (pss_cons (ps_fld (pv 0) (pe_tup pa_nil) rfl)
      (pss_cons (ps_fld (pv 0) (pe_tup pa_nil) rfl)
      (pss_one (ps_fld (pv 0) pe_dnewT rfl))))), ?_⟩
  have hlen : ∀ (f : Str) (v : V) (fs : List (Str × V)) (n : Nat), fs.length < n → n < 1000 → (putF f v fs).length < 1000 := fun f v fs n h1 h2 => by
    have := putF_le f v fs
    omega
  refine ⟨Nat.zero_le _, fun a1 n1 => ⟨_, rfl, m, C_Market, dx, [], rfl, ne_keep n1 hm, T.cl_Market, T.no_Market_insurers, by decide, ?_⟩⟩
  obtain ⟨b1, e1, m1, x1⟩ := fld_step (u := .tup []) (o' := .ins C_Market dx (putF "insurers" (.ref a1) [])) n1 hm
  obtain ⟨H1, h1⟩ : ∃ H1, upd (upd H a1 (.tup [])) m (.ins C_Market dx (putF "insurers" (.ref a1) [])) = H1 := ⟨_, rfl⟩
  rw [h1] at b1 e1 m1 ⊢
  refine ⟨Nat.zero_le _, fun a2 n2 => ⟨_, rfl, m, C_Market, dx, _, rfl, ne_keep n2 m1, T.cl_Market, T.no_Market_events, by show 1 < 1000; decide, ?_⟩⟩
  obtain ⟨b2, e2, m2, x2⟩ := fld_step (u := .tup []) (o' := .ins C_Market dx (putF "events" (.ref a2) (putF "insurers" (.ref a1) []))) n2 m1
  obtain ⟨H2, h2⟩ : ∃ H2, upd (upd H1 a2 (.tup [])) m (.ins C_Market dx (putF "events" (.ref a2) (putF "insurers" (.ref a1) []))) = H2 := ⟨_, rfl⟩
  rw [h2] at b2 e2 m2 ⊢
  refine ⟨Nat.zero_le _, fun a3 n3 => ⟨_, rfl, m, C_Market, dx, _, rfl, ne_keep n3 m2, T.cl_Market, T.no_Market_treaties, by have := putF_le "events" (.ref a2) (putF "insurers" (.ref a1) []); have : (putF "insurers" (.ref a1) []).length = 1 := rfl; omega, ?_⟩⟩
  obtain ⟨b3, e3, m3, x3⟩ := fld_step (u := .tup []) (o' := .ins C_Market dx (putF "treaties" (.ref a3) (putF "events" (.ref a2) (putF "insurers" (.ref a1) [])))) n3 m2
  obtain ⟨H3, h3⟩ : ∃ H3, upd (upd H2 a3 (.tup [])) m (.ins C_Market dx (putF "treaties" (.ref a3) (putF "events" (.ref a2) (putF "insurers" (.ref a1) [])))) = H3 := ⟨_, rfl⟩
  rw [h3] at b3 e3 m3 ⊢
  refine fun a4 n4 => ⟨_, rfl, m, C_Market, dx, _, rfl, ne_keep n4 m3, T.cl_Market, T.no_Market_losses, by have := putF_le "treaties" (.ref a3) (putF "events" (.ref a2) (putF "insurers" (.ref a1) [])); have := putF_le "events" (.ref a2) (putF "insurers" (.ref a1) []); have : (putF "insurers" (.ref a1) []).length = 1 := rfl; omega, ?_⟩
  obtain ⟨b4, e4, m4, x4⟩ := fld_step (u := .dT []) (o' := .ins C_Market dx (mf a1 a2 a3 a4)) n4 m3
  have ef : putF "losses" (.ref a4) (putF "treaties" (.ref a3) (putF "events" (.ref a2) (putF "insurers" (.ref a1) []))) = mf a1 a2 a3 a4 := by kernel_rfl
  rw [ef]
  obtain ⟨H4, h4⟩ : ∃ H4, upd (upd H3 a4 (.dT [])) m (.ins C_Market dx (mf a1 a2 a3 a4)) = H4 := ⟨_, rfl⟩
  rw [h4] at b4 e4 m4 ⊢
  refine q H4 (b1.trans (b2.trans (b3.trans b4))) ⟨dx, a1, a2, a3, a4, m4, SqT.of ?_, SqT.of ?_, ⟨[], SqT.of ?_, .nil⟩, e4⟩
  · exact b4 _ _ x1 (b3 _ _ x1 (b2 _ _ x1 e1))
  · exact b4 _ _ x2 (b3 _ _ x2 e2)
  · exact b4 _ _ x3 e3

theorem ok_Market_add_insurer {f : Addr} {fd : FuncData} (D_Market_add_insurer : Mth K C_Market "add_insurer" "Market.add_insurer" s_Market_add_insurer ["self", "name"] f fd) (T : Tx K mg C_BadName C_BadCover C_BadPanel C_BadAmount C_NameTaken C_NoSuchName C_Twice C_OwnPanel C_TooMany C_NoEnd C_Market) {f_check_new_name : Addr} {fd_check_new_name : FuncData} (D_check_new_name : Dfn K mg "check_new_name" s_check_new_name ["name", "names", "most"] f_check_new_name fd_check_new_name) (G_check_new_name : FnOk P w K mg base (L2.CX P w) (3) f_check_new_name fd_check_new_name ["name", "names", "most"] (sp_check_new_name K C_BadName C_TooMany C_NameTaken)) :
    FnOk P w K mg base (L2.CX P w) (4) f fd ["self", "name"] (sp_add_insurer K C_Market C_BadName C_TooMany C_NameTaken) := by
  refine D_Market_add_insurer.F.okX sc_Market_add_insurer (fun vs H Q E h => ?_) (fun cdv A outer s H vs Q E hr h => ?_)
  · obtain ⟨m, x, M, rfl, hM, h⟩ := h
    rfl
  obtain ⟨m, x, M, rfl, hM, h⟩ := h
  refine ⟨_, (pss_cons (ps_expr (pe_call G_check_new_name (hr.mono (by first | decide | omega)) rfl D_check_new_name.m D_check_new_name.F.kp D_check_new_name.b .nil (passes_call (takes_of rfl rfl rfl rfl) (fun _ _ _ _ h => h)) (pa_cons (pv 1) (pa_cons (pe_fld (pv 0) rfl) (pa_cons (pe_con (pv 0) rfl) pa_nil)))))
      (pss_cons (ps_fld (pv 0) (pe_op op_catA (pe_fld (pv 0) rfl) (pe_tup (pa_cons (pv 1) pa_nil))) rfl)
      (pss_one (ps_ret (pe_callB call_len_seq (by rfl) T.len PySem.boot_len (pa_cons (pe_fld (pv 0) rfl) pa_nil)))))), ?_⟩
  obtain ⟨dx, ai, ae, at', ad, h0, h1, h2, h3, h4⟩ := id hM
  obtain ⟨u, hcon⟩ := T.con_Market_MOST_INSURERS
  refine ⟨_, rfl, _, rfl, m, C_Market, dx, _, _, rfl, h0, T.cl_Market, T.no_Market_insurers, mf_i, _, rfl, m, C_Market, dx, _, .int 6, u, rfl, h0, T.cl_Market, hcon, mf_no (by decide +kernel), x, ai, M.ins, 6, rfl, h1, ?_⟩
  rcases h with h | ⟨z, rfl, hz, ⟨hl, q⟩ | ⟨hl, hm, q⟩ | ⟨hl, hm, q⟩⟩
  · exact .inl h
  · exact .inr ⟨z, rfl, hz, .inl ⟨by omega, q⟩⟩
  · exact .inr ⟨z, rfl, hz, .inr (.inl ⟨by omega, hm, q⟩)⟩
  · refine .inr ⟨z, rfl, hz, .inr (.inr ⟨by omega, hm, fun H1 s1 => ?_⟩)⟩
    have hM1 := MktAt.same s1 hM
    have g0 := s1 _ _ h0
    refine ⟨_, rfl, m, C_Market, dx, _, _, rfl, g0, T.cl_Market, T.no_Market_insurers, mf_i, _, rfl, sz (by show 1 ≤ 100000; decide), fun t nt => ?_⟩
    refine cat_any (same_sqt (same_add s1 nt) h1) (SqT.of upd_same) (by rw [List.length_map]; exact sz (by show M.ins.length + 1 ≤ 100000; omega)) fun p H2 s2 hp => ?_
    have s02 := (same_add s1 nt).trans s2
    refine ⟨_, rfl, m, C_Market, dx, _, rfl, s02 _ _ h0, T.cl_Market, T.no_Market_insurers, by show 4 < 1000; decide, ?_⟩
    rw [mf_pi]
    have np : ∀ {a : Addr} {xs : List V}, SqT K H2 a xs → SqT K (upd H2 m (.ins C_Market dx (mf p ae at' ad))) a xs := fun h => sqt_ins (s02 _ _ h0) h
    have e1 : M.ins.map V.str ++ [V.str z] = (M.ins ++ [z]).map V.str := by
      rw [List.map_append]
      rfl
    rw [e1] at hp
    refine ⟨_, rfl, m, C_Market, dx, _, _, rfl, upd_same, T.cl_Market, T.no_Market_insurers, mf_i, p, _, rfl, .inr (np hp), ?_⟩
    rw [List.length_map, List.length_append]
    refine q _ (Bar.put (Bar.of s02)) ⟨dx, p, ae, at', ad, upd_same, np hp, np (same_sqt s02 h2), trs_ins (s02 _ _ h0) (TrsAt.same s02 h3), ?_⟩
    rw [upd_ne (fun e => by rw [e, h0] at h4; cases h4)]
    exact s02 _ _ h4

theorem ok_Market_add_event {f : Addr} {fd : FuncData} (D_Market_add_event : Mth K C_Market "add_event" "Market.add_event" s_Market_add_event ["self", "name"] f fd) (T : Tx K mg C_BadName C_BadCover C_BadPanel C_BadAmount C_NameTaken C_NoSuchName C_Twice C_OwnPanel C_TooMany C_NoEnd C_Market) {f_check_new_name : Addr} {fd_check_new_name : FuncData} (D_check_new_name : Dfn K mg "check_new_name" s_check_new_name ["name", "names", "most"] f_check_new_name fd_check_new_name) (G_check_new_name : FnOk P w K mg base (L2.CX P w) (3) f_check_new_name fd_check_new_name ["name", "names", "most"] (sp_check_new_name K C_BadName C_TooMany C_NameTaken)) :
    FnOk P w K mg base (L2.CX P w) (4) f fd ["self", "name"] (sp_add_event K C_Market C_BadName C_TooMany C_NameTaken) := by
  refine D_Market_add_event.F.okX sc_Market_add_event (fun vs H Q E h => ?_) (fun cdv A outer s H vs Q E hr h => ?_)
  · obtain ⟨m, x, M, rfl, hM, h⟩ := h
    rfl
  obtain ⟨m, x, M, rfl, hM, h⟩ := h
  refine ⟨_, (pss_cons (ps_expr (pe_call G_check_new_name (hr.mono (by first | decide | omega)) rfl D_check_new_name.m D_check_new_name.F.kp D_check_new_name.b .nil (passes_call (takes_of rfl rfl rfl rfl) (fun _ _ _ _ h => h)) (pa_cons (pv 1) (pa_cons (pe_fld (pv 0) rfl) (pa_cons (pe_con (pv 0) rfl) pa_nil)))))
      (pss_cons (ps_fld (pv 0) (pe_op op_catA (pe_fld (pv 0) rfl) (pe_tup (pa_cons (pv 1) pa_nil))) rfl)
      (pss_one (ps_ret (pe_callB call_len_seq (by rfl) T.len PySem.boot_len (pa_cons (pe_fld (pv 0) rfl) pa_nil)))))), ?_⟩
  obtain ⟨dx, ai, ae, at', ad, h0, h1, h2, h3, h4⟩ := id hM
  obtain ⟨u, hcon⟩ := T.con_Market_MOST_EVENTS
  refine ⟨_, rfl, _, rfl, m, C_Market, dx, _, _, rfl, h0, T.cl_Market, T.no_Market_events, mf_e, _, rfl, m, C_Market, dx, _, .int 3, u, rfl, h0, T.cl_Market, hcon, mf_no (by decide +kernel), x, ae, M.evs, 3, rfl, h2, ?_⟩
  rcases h with h | ⟨z, rfl, hz, ⟨hl, q⟩ | ⟨hl, hm, q⟩ | ⟨hl, hm, q⟩⟩
  · exact .inl h
  · exact .inr ⟨z, rfl, hz, .inl ⟨by omega, q⟩⟩
  · exact .inr ⟨z, rfl, hz, .inr (.inl ⟨by omega, hm, q⟩)⟩
  · refine .inr ⟨z, rfl, hz, .inr (.inr ⟨by omega, hm, fun H1 s1 => ?_⟩)⟩
    have g0 := s1 _ _ h0
    refine ⟨_, rfl, m, C_Market, dx, _, _, rfl, g0, T.cl_Market, T.no_Market_events, mf_e, _, rfl, sz (by show 1 ≤ 100000; decide), fun t nt => ?_⟩
    refine cat_any (same_sqt (same_add s1 nt) h2) (SqT.of upd_same) (by rw [List.length_map]; exact sz (by show M.evs.length + 1 ≤ 100000; omega)) fun p H2 s2 hp => ?_
    have s02 := (same_add s1 nt).trans s2
    refine ⟨_, rfl, m, C_Market, dx, _, rfl, s02 _ _ h0, T.cl_Market, T.no_Market_events, by show 4 < 1000; decide, ?_⟩
    rw [mf_pe]
    have np : ∀ {a : Addr} {xs : List V}, SqT K H2 a xs → SqT K (upd H2 m (.ins C_Market dx (mf ai p at' ad))) a xs := fun h => sqt_ins (s02 _ _ h0) h
    have e1 : M.evs.map V.str ++ [V.str z] = (M.evs ++ [z]).map V.str := by
      rw [List.map_append]
      rfl
    rw [e1] at hp
    refine ⟨_, rfl, m, C_Market, dx, _, _, rfl, upd_same, T.cl_Market, T.no_Market_events, mf_e, p, _, rfl, .inr (np hp), ?_⟩
    rw [List.length_map, List.length_append]
    refine q _ (Bar.put (Bar.of s02)) ⟨dx, ai, p, at', ad, upd_same, np (same_sqt s02 h1), np hp, trs_ins (s02 _ _ h0) (TrsAt.same s02 h3), ?_⟩
    rw [upd_ne (fun e => by rw [e, h0] at h4; cases h4)]
    exact s02 _ _ h4

theorem ok_Market_add_treaty {f : Addr} {fd : FuncData} (D_Market_add_treaty : Mth K C_Market "add_treaty" "Market.add_treaty" s_Market_add_treaty ["self", "cedent", "cover", "panel"] f fd) (T : Tx K mg C_BadName C_BadCover C_BadPanel C_BadAmount C_NameTaken C_NoSuchName C_Twice C_OwnPanel C_TooMany C_NoEnd C_Market) {f_check_name : Addr} {fd_check_name : FuncData} (D_check_name : Dfn K mg "check_name" s_check_name ["value"] f_check_name fd_check_name) (G_check_name : FnOk P w K mg base (L2.CX P w) (2) f_check_name fd_check_name ["value"] (sp_check_name K C_BadName)) {f_check_cover : Addr} {fd_check_cover : FuncData} (D_check_cover : Dfn K mg "check_cover" s_check_cover ["value"] f_check_cover fd_check_cover) (G_check_cover : FnOk P w K mg base (L2.CX P w) (3) f_check_cover fd_check_cover ["value"] (sp_check_cover K C_BadCover)) {f_check_panel : Addr} {fd_check_panel : FuncData} (D_check_panel : Dfn K mg "check_panel" s_check_panel ["value"] f_check_panel fd_check_panel) (G_check_panel : FnOk P w K mg base (L2.CX P w) (4) f_check_panel fd_check_panel ["value"] (sp_check_panel K C_BadPanel)) {f_check_placed : Addr} {fd_check_placed : FuncData} (D_check_placed : Dfn K mg "check_placed" s_check_placed ["cedent", "panel", "insurers"] f_check_placed fd_check_placed) (G_check_placed : FnOk P w K mg base (L2.CX P w) (4) f_check_placed fd_check_placed ["cedent", "panel", "insurers"] (sp_check_placed K)) {f_Market__check_ends : Addr} {fd_Market__check_ends : FuncData} (D_Market__check_ends : Mth K C_Market "_check_ends" "Market._check_ends" s_Market__check_ends ["self", "treaties", "losses"] f_Market__check_ends fd_Market__check_ends) (G_Market__check_ends : FnOk P w K mg base (L2.CX P w) (7) f_Market__check_ends fd_Market__check_ends ["self", "treaties", "losses"] (sp_check_ends K C_Market C_NoEnd)) :
    FnOk P w K mg base (L2.CX P w) (8) f fd ["self", "cedent", "cover", "panel"] (sp_add_treaty K C_Market C_BadName C_BadCover C_BadPanel) := by
  refine D_Market_add_treaty.F.okX sc_Market_add_treaty (fun vs H Q E h => ?_) (fun cdv A outer s H vs Q E hr h => ?_)
  · obtain ⟨m, x, y, w, M, rfl, hM, h⟩ := h
    rfl
  obtain ⟨m, x, y, w, M, rfl, hM, h⟩ := h
  refine ⟨_, (pss_cons (ps_expr (pe_call G_check_name (hr.mono (by first | decide | omega)) rfl D_check_name.m D_check_name.F.kp D_check_name.b .nil (passes_call (takes_of rfl rfl rfl rfl) (fun _ _ _ _ h => h)) (pa_cons (pv 1) pa_nil)))
      (pss_cons (ps_expr (pe_call G_check_cover (hr.mono (by first | decide | omega)) rfl D_check_cover.m D_check_cover.F.kp D_check_cover.b .nil (passes_call (takes_of rfl rfl rfl rfl) (fun _ _ _ _ h => h)) (pa_cons (pv 2) pa_nil)))
      (pss_cons (ps_expr (pe_call G_check_panel (hr.mono (by first | decide | omega)) rfl D_check_panel.m D_check_panel.F.kp D_check_panel.b .nil (passes_call (takes_of rfl rfl rfl rfl) (fun _ _ _ _ h => h)) (pa_cons (pv 3) pa_nil)))
      (pss_cons (ps_expr (pe_call G_check_placed (hr.mono (by first | decide | omega)) rfl D_check_placed.m D_check_placed.F.kp D_check_placed.b .nil (passes_call (takes_of rfl rfl rfl rfl) (fun _ _ _ _ h => h)) (pa_cons (pv 1) (pa_cons (pv 3) (pa_cons (pe_fld (pv 0) rfl) pa_nil)))))
      (pss_cons (ps_set (i := 4) sc_Market_add_treaty.nd rfl (by first | exact Or.inl rfl | exact Or.inr rfl) (pe_callB call_len_seq (by rfl) T.len PySem.boot_len (pa_cons (pe_fld (pv 0) rfl) pa_nil)))
      (pss_cons (ps_if (pt_cmpR op_ge (pv 4) (pe_con (pv 0) rfl) (nomark _))
      (pss_one (ps_raise rfl (takes_of rfl rfl rfl rfl) (pmk_own PySem.F.excBase_ValueError T.exc_TooMany.x T.exc_TooMany.g T.exc_TooMany.k (raises_own T.exc_TooMany.b T.exc_TooMany.t) rfl)))
      pss_nil)
      (pss_cons (ps_set (i := 5) sc_Market_add_treaty.nd rfl (by first | exact Or.inl rfl | exact Or.inr rfl) (pe_op op_catA (pe_fld (pv 0) rfl) (pe_tup (pa_cons (pe_tup (pa_cons (pv 1) (pa_cons (pv 2) (pa_cons (pv 3) (pa_cons pe_bl pa_nil))))) pa_nil))))
      (pss_cons (ps_expr (pe_meth (pv 0) T.cl_Market D_Market__check_ends.m G_Market__check_ends (hr.mono (by first | decide | omega)) D_Market__check_ends.b .nil (passes_call (takes_of rfl rfl rfl rfl) (fun _ _ _ _ h => h)) (pa_cons (pv 5) (pa_cons (pe_fld (pv 0) rfl) pa_nil))))
      (pss_cons (ps_fld (pv 0) (pv 5) rfl)
      (pss_one (ps_ret (pv 4)))))))))))), ?_⟩
  obtain ⟨dx, ai, ae, at', ad, h0, h1, h2, h3, h4⟩ := id hM
  rcases h with ⟨hn, q⟩ | ⟨hn, hc, q⟩ | ⟨hn, hc, hp, q⟩ | ⟨c, z, vc, cov, n, rfl, hn, rfl, hS, hcv, hpA, hpO, hci, hzi, hcz, hl, hok, hev, hf, q⟩
  · exact ⟨_, rfl, _, rfl, .inr ⟨hn, q⟩⟩
  · refine ⟨_, rfl, _, rfl, .inl ⟨hn, fun H1 s1 => ?_⟩⟩
    exact ⟨_, rfl, _, rfl, .inr ⟨NoCov.same' s1 hc, fun H2 s2 => q H2 (s1.trans s2)⟩⟩
  · refine ⟨_, rfl, _, rfl, .inl ⟨hn, fun H1 s1 => ?_⟩⟩
    refine ⟨_, rfl, _, rfl, .inl ⟨IsCovV.same' s1 hc, fun H2 s2 => ?_⟩⟩
    exact ⟨_, rfl, _, rfl, .inr ⟨NoPan.same (s1.trans s2) hp, fun H3 s3 => q H3 (s1.trans (s2.trans s3))⟩⟩
  · refine ⟨_, rfl, _, rfl, .inl ⟨hn, fun H1 s1 => ?_⟩⟩
    refine ⟨_, rfl, _, rfl, .inl ⟨⟨vc, cov, rfl, same_sqt s1 hS, hcv⟩, fun H2 s2 => ?_⟩⟩
    have s02 := s1.trans s2
    refine ⟨_, rfl, _, rfl, .inl ⟨_, PanAt.same s02 hpA, hpO, fun H3 s3 => ?_⟩⟩
    have s03 := s02.trans s3
    refine ⟨_, rfl, _, rfl, _, rfl, m, C_Market, dx, _, _, rfl, s03 _ _ h0, T.cl_Market, T.no_Market_insurers, mf_i, c, z, w, ai, M.ins, n, rfl, PanAt.same s03 hpA, same_sqt s03 h1, hci, hzi, hcz, fun H4 s4 => ?_⟩
    have s04 := s03.trans s4
    have g0 := s04 _ _ h0
    obtain ⟨u, hcon⟩ := T.con_Market_MOST_TREATIES
    obtain ⟨xs, hxS, hxA⟩ := TrsAt.same s04 h3
    have hxl := hxA.1
    refine ⟨_, rfl, m, C_Market, dx, _, _, rfl, g0, T.cl_Market, T.no_Market_treaties, mf_t, at', xs, rfl, .inr hxS, ?_⟩
    refine ⟨_, rfl, _, rfl, m, C_Market, dx, _, .int 16, u, rfl, g0, T.cl_Market, hcon, mf_no (by decide +kernel), _, _, rfl, rfl, _, rfl, ?_⟩
    rw [decide_eq_false (show ¬ (16 : Int) ≤ ((xs.length : Nat) : Int) by omega)]
    refine iteF ?_
    refine ⟨_, rfl, m, C_Market, dx, _, _, rfl, g0, T.cl_Market, T.no_Market_treaties, mf_t, ?_⟩
    refine ⟨_, rfl, _, rfl, _, rfl, sz (by show 4 ≤ 100000; decide), fun t nt => ⟨sz (by show 1 ≤ 100000; decide), fun t2 nt2 => ?_⟩⟩
    obtain ⟨H5, h5⟩ : ∃ H5, upd H4 t (.tup [.str c, .ref vc, w, .bl false]) = H5 := ⟨_, rfl⟩
    have s45 : Same H4 H5 := by
      rw [← h5]
      exact same_new nt
    have ht : H5 t = some (.tup [.str c, .ref vc, w, .bl false]) := by
      rw [← h5]
      exact upd_same
    have nt2' : H5 t2 = none := by
      rw [← h5]
      exact nt2
    have s56 : Same H5 (upd H5 t2 (.tup [.ref t])) := same_new nt2'
    have s06 : Same H (upd H5 t2 (.tup [.ref t])) := s04.trans (s45.trans s56)
    rw [h5]
    refine cat_any (same_sqt (s45.trans s56) hxS) (SqT.of upd_same) (sz (by show xs.length + 1 ≤ 100000; omega)) fun p H7 s7 hp => ?_
    have s07 := s06.trans s7
    have k0 := s07 _ _ h0
    have htr : TrsAt K H7 p (M.trs ++ [⟨c, cov, [(some z, n)], false⟩]) := by
      refine ⟨_, hp, AllAt.add (AllAt.same (R := TrAt K) (fun e r => TrAt.same e r) (s45.trans (s56.trans s7)) hxA) ?_⟩
      have hpA7 := PanAt.same s07 hpA
      exact ⟨t, vc, w, rfl, SqT.of (s7 _ _ (s56 _ _ ht)), same_sqt s07 hS, hpA7⟩
    dsimp only
    refine nx_to ?_
    refine ⟨_, rfl, m, dx, _, rfl, k0, mf_no (by decide +kernel), _, rfl, _, rfl, m, C_Market, dx, _, _, rfl, k0, T.cl_Market, T.no_Market_losses, mf_l, m, M, p, ad, _, M.los, rfl, MktAt.same s07 hM, htr, hok, s07 _ _ h4, hev, .inl ⟨hf, fun H8 s8 => ?_⟩⟩
    have s08 := s07.trans s8
    refine ⟨_, rfl, _, rfl, m, C_Market, dx, _, rfl, s08 _ _ h0, T.cl_Market, T.no_Market_treaties, by show 4 < 1000; decide, ?_⟩
    rw [mf_pt]
    refine ⟨_, rfl, ?_⟩
    rw [hxl]
    have hm8 := s08 _ _ h0
    refine q _ (Bar.put (Bar.of s08)) ⟨dx, ai, ae, p, ad, upd_same, sqt_ins hm8 (same_sqt s08 h1), sqt_ins hm8 (same_sqt s08 h2), trs_ins hm8 (TrsAt.same s8 htr), ?_⟩
    rw [upd_ne (fun e => by rw [e, h0] at h4; cases h4)]
    exact s08 _ _ h4

theorem ok_Market_set_loss {f : Addr} {fd : FuncData} (D_Market_set_loss : Mth K C_Market "set_loss" "Market.set_loss" s_Market_set_loss ["self", "event", "insurer", "amount"] f fd) (T : Tx K mg C_BadName C_BadCover C_BadPanel C_BadAmount C_NameTaken C_NoSuchName C_Twice C_OwnPanel C_TooMany C_NoEnd C_Market) {f_check_name : Addr} {fd_check_name : FuncData} (D_check_name : Dfn K mg "check_name" s_check_name ["value"] f_check_name fd_check_name) (G_check_name : FnOk P w K mg base (L2.CX P w) (2) f_check_name fd_check_name ["value"] (sp_check_name K C_BadName)) {f_is_between : Addr} {fd_is_between : FuncData} (D_is_between : Dfn K mg "is_between" s_is_between ["value", "low", "high"] f_is_between fd_is_between) (G_is_between : FnOk P w K mg base CX0 (1) f_is_between fd_is_between ["value", "low", "high"] (sp_is_between K)) {f_check_known : Addr} {fd_check_known : FuncData} (D_check_known : Dfn K mg "check_known" s_check_known ["name", "names"] f_check_known fd_check_known) (G_check_known : FnOk P w K mg base (L2.CX P w) (3) f_check_known fd_check_known ["name", "names"] (sp_check_known K C_NoSuchName)) {f_Market__check_ends : Addr} {fd_Market__check_ends : FuncData} (D_Market__check_ends : Mth K C_Market "_check_ends" "Market._check_ends" s_Market__check_ends ["self", "treaties", "losses"] f_Market__check_ends fd_Market__check_ends) (G_Market__check_ends : FnOk P w K mg base (L2.CX P w) (7) f_Market__check_ends fd_Market__check_ends ["self", "treaties", "losses"] (sp_check_ends K C_Market C_NoEnd)) :
    FnOk P w K mg base (L2.CX P w) (8) f fd ["self", "event", "insurer", "amount"] (sp_set_loss K C_Market C_BadName C_BadAmount) := by
  refine D_Market_set_loss.F.okX sc_Market_set_loss (fun vs H Q E h => ?_) (fun cdv A outer s H vs Q E hr h => ?_)
  · obtain ⟨m, x, y, w, M, rfl, hM, h⟩ := h
    rfl
  obtain ⟨m, x, y, w, M, rfl, hM, h⟩ := h
  refine ⟨_, (pss_cons (ps_expr (pe_call G_check_name (hr.mono (by first | decide | omega)) rfl D_check_name.m D_check_name.F.kp D_check_name.b .nil (passes_call (takes_of rfl rfl rfl rfl) (fun _ _ _ _ h => h)) (pa_cons (pv 1) pa_nil)))
      (pss_cons (ps_expr (pe_call G_check_name (hr.mono (by first | decide | omega)) rfl D_check_name.m D_check_name.F.kp D_check_name.b .nil (passes_call (takes_of rfl rfl rfl rfl) (fun _ _ _ _ h => h)) (pa_cons (pv 2) pa_nil)))
      (pss_cons (ps_if (pt_not (pt_val (pe_call G_is_between (hr.mono (by first | decide | omega)) rfl D_is_between.m D_is_between.F.kp D_is_between.b .nil pass0 (pa_cons (pv 3) (pa_cons pe_int (pa_cons (pe_gi rfl T.g_MOST_DIRECT) pa_nil))))))
      (pss_one (ps_raise rfl (takes_of rfl rfl rfl rfl) (pmk_own PySem.F.excBase_ValueError T.exc_BadAmount.x T.exc_BadAmount.g T.exc_BadAmount.k (raises_own T.exc_BadAmount.b T.exc_BadAmount.t) rfl)))
      pss_nil)
      (pss_cons (ps_expr (pe_call G_check_known (hr.mono (by first | decide | omega)) rfl D_check_known.m D_check_known.F.kp D_check_known.b .nil (passes_call (takes_of rfl rfl rfl rfl) (fun _ _ _ _ h => h)) (pa_cons (pv 1) (pa_cons (pe_fld (pv 0) rfl) pa_nil))))
      (pss_cons (ps_expr (pe_call G_check_known (hr.mono (by first | decide | omega)) rfl D_check_known.m D_check_known.F.kp D_check_known.b .nil (passes_call (takes_of rfl rfl rfl rfl) (fun _ _ _ _ h => h)) (pa_cons (pv 2) (pa_cons (pe_fld (pv 0) rfl) pa_nil))))
      (pss_cons (ps_lock (ps_setDc (i := 4) (own := [("key", 5)]) (g := (gName 5)) (tt := tYes) rfl sc_Market_set_loss.nd rfl rfl (sw_dict rfl rfl rfl (by decide +kernel)) (pi_keys (pe_fld (pv 0) rfl)) (blkOk_by (own := [("key", 5)]) (N := (["self", "event", "insurer", "amount", "losses", "key"] : List Str)) (sc := defScope s_Market_set_loss) (by decide +kernel)) (fun _ _ _ _ _ => (pg_name (i := 5) sc_Market_set_loss.nd rfl (by first | exact Or.inl rfl | exact Or.inr rfl))) (fun _ _ _ _ _ => pts_nil) (fun _ _ _ _ _ => (pv 5)) (fun _ _ _ _ _ => (pe_dget (hu_of hr) (pe_fldK (K := K) rfl (pv 0) rfl) (pv 5) (fun _ _ => rfl)))))
      (pss_cons (ps_tt (ps_dput (hu_of hr) (pv 4) (pe_tup (pa_cons (pv 1) (pa_cons (pv 2) pa_nil))) (pv 3) rfl))
      (pss_cons (ps_expr (pe_meth (pv 0) T.cl_Market D_Market__check_ends.m G_Market__check_ends (hr.mono (by first | decide | omega)) D_Market__check_ends.b .nil (passes_call (takes_of rfl rfl rfl rfl) (fun _ _ _ _ h => h)) (pa_cons (pe_fld (pv 0) rfl) (pa_cons (pv 4) pa_nil))))
      (pss_one (ps_fld (pv 0) (pv 4) rfl)))))))))), ?_⟩
  obtain ⟨dx, ai, ae, at', ad, h0, h1, h2, h3, h4⟩ := id hM
  rcases h with ⟨hn, q⟩ | ⟨hn, hy, q⟩ | ⟨hn, hy, hf, hw, q⟩ | ⟨e, z, n, rfl, hn, rfl, hy, rfl, hw, hev, hin, hlos, hok, hfew, hft, q⟩
  · exact ⟨_, rfl, _, rfl, .inr ⟨hn, q⟩⟩
  · refine ⟨_, rfl, _, rfl, .inl ⟨hn, fun H1 s1 => ?_⟩⟩
    exact ⟨_, rfl, _, rfl, .inr ⟨NoName.same s1 hy, fun H2 s2 => q H2 (s1.trans s2)⟩⟩
  · refine ⟨_, rfl, _, rfl, .inl ⟨hn, fun H1 s1 => ?_⟩⟩
    refine ⟨_, rfl, _, rfl, .inl ⟨hy, fun H2 s2 => ?_⟩⟩
    refine ⟨_, rfl, w, 0, 100000, rfl, hf, _, rfl, ?_⟩
    rw [hw]
    exact iteT (q H2 (s1.trans s2))
  · refine ⟨_, rfl, _, rfl, .inl ⟨hn, fun H1 s1 => ?_⟩⟩
    refine ⟨_, rfl, _, rfl, .inl ⟨hy, fun H2 s2 => ?_⟩⟩
    refine ⟨_, rfl, .int n, 0, 100000, rfl, rfl, _, rfl, ?_⟩
    rw [hw]
    refine iteF ?_
    have s02 := s1.trans s2
    have g0 := s02 _ _ h0
    refine ⟨_, rfl, _, rfl, m, C_Market, dx, _, _, rfl, g0, T.cl_Market, T.no_Market_events, mf_e, e, ae, M.evs, rfl, same_sqt s02 h2, .inl ⟨hev, ?_⟩⟩
    refine ⟨_, rfl, _, rfl, m, C_Market, dx, _, _, rfl, g0, T.cl_Market, T.no_Market_insurers, mf_i, z, ai, M.ins, rfl, same_sqt s02 h1, .inl ⟨hin, ?_⟩⟩
    have g4 : H2 ad = some (.dT []) := by
      have := s02 _ _ h4
      rw [hlos] at this
      exact this
    have nam : m ≠ ad := fun e => by rw [e, g4] at g0; cases g0
    refine ⟨ad, _, g4, trivial, fun od => ?_⟩
    refine ⟨_, rfl, m, C_Market, dx, _, _, rfl, by rw [upd_ne nam]; exact g0, T.cl_Market, T.no_Market_losses, mf_l, ad, od, rfl, .inr ⟨[], upd_same, fun D nD => ?_⟩⟩
    refine dc_it (walk_keysT (kvs := [])) (fun i H' => H' = upd (upd H2 ad (.frz od (.dT []))) D (.dK [])) rfl (fun i H' _ e => ?_) (fun i x H' H'' hi _ _ => absurd hi (Nat.not_lt_zero i)) ?_
    · rw [e, upd_ne (fun e => by rw [e, upd_same] at nD; cases nD), upd_same]
    · rintro H' rfl
      have nD2 : D ≠ ad := fun e => by rw [e, upd_same] at nD; cases nD
      have nDH : H2 D = none := by
        rw [upd_ne nD2] at nD
        exact nD
      dsimp only
      refine nx_to ?_
      refine ⟨by rw [upd_ne nD2.symm, upd_same], ?_⟩
      generalize hw : List.set _ _ _ = w0
      have ew : w0 = [some (.ref m), some (.str e), some (.str z), some (.int n), some (.ref D), none] := by
        rw [← hw]
        kernel_rfl
      clear hw
      subst ew
      obtain ⟨H3, h3e⟩ : ∃ H3, upd (upd (upd H2 ad (.frz od (.dT []))) D (.dK [])) ad (.dT []) = H3 := ⟨_, rfl⟩
      have s23 : Same H2 H3 := fun b u hb => by
        rw [← h3e]
        by_cases e1 : b = ad
        · subst e1
          rw [g4] at hb
          rw [upd_same]
          exact hb
        · rw [upd_ne e1, upd_ne (ne_of_none hb nDH), upd_ne e1]
          exact hb
      have hD3 : H3 D = some (.dK []) := by
        rw [← h3e, upd_ne nD2, upd_same]
      rw [h3e]
      refine ⟨D, hD3, ?_⟩
      have s24 : Same H2 (upd H3 D (.dT [])) := same_put s23 nDH
      refine ⟨_, rfl, _, rfl, _, rfl, _, rfl, sz (by show 2 ≤ 100000; decide), fun k nk => ?_⟩
      have s25 : Same H2 (upd (upd H3 D (.dT [])) k (.tup [.str e, .str z])) := same_add s24 nk
      have nDk : D ≠ k := ne_of_none upd_same nk
      refine ⟨D, _, rfl, .inr ⟨[], [.inr e, .inr z], k, ?_, rfl, upd_same, szl (by show 0 < 100000; decide), rfl⟩, ?_⟩
      · rw [upd_ne nDk, upd_same]
      have s26 : Same H2 (upd (upd (upd H3 D (.dT [])) k (.tup [.str e, .str z])) D (.dT (putK [] [.inr e, .inr z] (.int n)))) := same_put s25 nDH
      have hD6 : (upd (upd (upd H3 D (.dT [])) k (.tup [.str e, .str z])) D (.dT (putK [] [.inr e, .inr z] (.int n)))) D = some (.dT (lkv [((e, z), n)])) := upd_same
      obtain ⟨H6, h6⟩ : ∃ H6, (upd (upd (upd H3 D (.dT [])) k (.tup [.str e, .str z])) D (.dT (putK [] [.inr e, .inr z] (.int n)))) = H6 := ⟨_, rfl⟩
      rw [h6] at s26 hD6 ⊢
      have s06 := s02.trans s26
      have k0 := s06 _ _ h0
      refine ⟨_, rfl, m, dx, _, rfl, k0, mf_no (by decide +kernel), _, rfl, m, C_Market, dx, _, _, rfl, k0, T.cl_Market, T.no_Market_treaties, mf_t, _, rfl, m, M, at', D, M.trs, _, rfl, MktAt.same s06 hM, TrsAt.same s06 h3, hok, hD6, hfew, .inl ⟨hft, fun H7 s7 => ?_⟩⟩
      have s07 := s06.trans s7
      have k7 := s07 _ _ h0
      refine ⟨_, rfl, _, rfl, m, C_Market, dx, _, rfl, k7, T.cl_Market, T.no_Market_losses, by show 4 < 1000; decide, ?_⟩
      rw [mf_pl]
      refine q _ (Bar.put (Bar.of s07)) ⟨dx, ai, ae, at', D, upd_same, sqt_ins k7 (same_sqt s07 h1), sqt_ins k7 (same_sqt s07 h2), trs_ins k7 (TrsAt.same s07 h3), ?_⟩
      have hD7 := s7 _ _ hD6
      rw [upd_ne (fun e => by rw [e, k7] at hD7; cases hD7)]
      exact hD7

theorem ok_Market_direct {f : Addr} {fd : FuncData} (D_Market_direct : Mth K C_Market "direct" "Market.direct" s_Market_direct ["self", "event"] f fd) (T : Tx K mg C_BadName C_BadCover C_BadPanel C_BadAmount C_NameTaken C_NoSuchName C_Twice C_OwnPanel C_TooMany C_NoEnd C_Market) {f_check_known : Addr} {fd_check_known : FuncData} (D_check_known : Dfn K mg "check_known" s_check_known ["name", "names"] f_check_known fd_check_known) (G_check_known : FnOk P w K mg base (L2.CX P w) (3) f_check_known fd_check_known ["name", "names"] (sp_check_known K C_NoSuchName)) {f_direct_losses : Addr} {fd_direct_losses : FuncData} (D_direct_losses : Dfn K mg "direct_losses" s_direct_losses ["insurers", "losses", "event"] f_direct_losses fd_direct_losses) (G_direct_losses : FnOk P w K mg base CX0 (1) f_direct_losses fd_direct_losses ["insurers", "losses", "event"] (sp_direct_losses K)) :
    FnOk P w K mg base (L2.CX P w) (4) f fd ["self", "event"] (sp_direct K C_Market C_NoSuchName) := by
  refine D_Market_direct.F.okX sc_Market_direct (fun vs H Q E h => ?_) (fun cdv A outer s H vs Q E hr h => ?_)
  · obtain ⟨m, M, e, rfl, hM, hl, h⟩ := h
    rfl
  obtain ⟨m, M, e, rfl, hM, hl, h⟩ := h
  refine ⟨_, (pss_cons (ps_expr (pe_call G_check_known (hr.mono (by first | decide | omega)) rfl D_check_known.m D_check_known.F.kp D_check_known.b .nil (passes_call (takes_of rfl rfl rfl rfl) (fun _ _ _ _ h => h)) (pa_cons (pv 1) (pa_cons (pe_fld (pv 0) rfl) pa_nil))))
      (pss_one (ps_ret (pe_call G_direct_losses (hr.mono (by first | decide | omega)) rfl D_direct_losses.m D_direct_losses.F.kp D_direct_losses.b .nil pass0 (pa_cons (pe_fld (pv 0) rfl) (pa_cons (pe_fld (pv 0) rfl) (pa_cons (pv 1) pa_nil))))))), ?_⟩
  obtain ⟨dx, ai, ae, at', ad, h0, h1, h2, h3, h4⟩ := id hM
  refine ⟨_, rfl, _, rfl, m, C_Market, dx, _, _, rfl, h0, T.cl_Market, T.no_Market_events, mf_e, e, ae, M.evs, rfl, h2, ?_⟩
  rcases h with ⟨he, q⟩ | ⟨he, q⟩
  · refine .inl ⟨he, ?_⟩
    exact ⟨_, rfl, m, C_Market, dx, _, _, rfl, h0, T.cl_Market, T.no_Market_insurers, mf_i, _, rfl, m, C_Market, dx, _, _, rfl, h0, T.cl_Market, T.no_Market_losses, mf_l, _, rfl, ai, ad, e, M.ins, M.los, rfl, h1, hl, .inl h4, fun p H' s np hp => q p H' s np hp⟩
  · exact .inr ⟨he, fun d nd => q d _ (same_new nd) upd_same⟩

theorem ok_Market__check_ends {f : Addr} {fd : FuncData} (D_Market__check_ends : Mth K C_Market "_check_ends" "Market._check_ends" s_Market__check_ends ["self", "treaties", "losses"] f fd) (T : Tx K mg C_BadName C_BadCover C_BadPanel C_BadAmount C_NameTaken C_NoSuchName C_Twice C_OwnPanel C_TooMany C_NoEnd C_Market) {f_rounds_to_end : Addr} {fd_rounds_to_end : FuncData} (D_rounds_to_end : Dfn K mg "rounds_to_end" s_rounds_to_end ["insurers", "treaties", "direct"] f_rounds_to_end fd_rounds_to_end) (G_rounds_to_end : FnOk P w K mg base (L2.CX P w) (6) f_rounds_to_end fd_rounds_to_end ["insurers", "treaties", "direct"] (sp_rounds K C_NoEnd)) {f_direct_losses : Addr} {fd_direct_losses : FuncData} (D_direct_losses : Dfn K mg "direct_losses" s_direct_losses ["insurers", "losses", "event"] f_direct_losses fd_direct_losses) (G_direct_losses : FnOk P w K mg base CX0 (1) f_direct_losses fd_direct_losses ["insurers", "losses", "event"] (sp_direct_losses K)) :
    FnOk P w K mg base (L2.CX P w) (7) f fd ["self", "treaties", "losses"] (sp_check_ends K C_Market C_NoEnd) := by
  refine D_Market__check_ends.F.okX sc_Market__check_ends (fun vs H Q E h => ?_) (fun cdv A outer s H vs Q E hr h => ?_)
  · obtain ⟨m, M, at', ad, ts, L, rfl, hM, hT, hok, hL, he, h⟩ := h
    rfl
  obtain ⟨m, M, at', ad, ts, L, rfl, hM, hT, hok, hL, he, h⟩ := h
  refine ⟨_, (pss_one (ps_for (passes_of rfl) rfl (pi_tup (pe_fld (pv 0) rfl)) (pg_name (i := 3) sc_Market__check_ends.nd rfl (by first | exact Or.inl rfl | exact Or.inr rfl))
      (pss_one (ps_expr (pe_call G_rounds_to_end (hr.mono (by first | decide | omega)) rfl D_rounds_to_end.m D_rounds_to_end.F.kp D_rounds_to_end.b .nil (passes_call (takes_of rfl rfl rfl rfl) (fun _ _ _ _ h => h)) (pa_cons (pe_fld (pv 0) rfl) (pa_cons (pv 1) (pa_cons (pe_call G_direct_losses (hr.mono (by first | decide | omega)) rfl D_direct_losses.m D_direct_losses.F.kp D_direct_losses.b .nil pass0 (pa_cons (pe_fld (pv 0) rfl) (pa_cons (pv 2) (pa_cons (pv 3) pa_nil)))) pa_nil)))))))), ?_⟩
  obtain ⟨dx, ai, ae, at0, ad0, h0, h1, h2, h3, h4⟩ := id hM
  have hfew := hok.few
  refine ⟨_, rfl, m, C_Market, dx, _, _, rfl, h0, T.cl_Market, T.no_Market_events, mf_e, ae, rfl, ⟨_, h2⟩, for_tup (K := K) (a := ae) (xs := M.evs.map V.str) (fun i σ H' => ∃ v : Option V, σ = [some (.ref m), some (.ref at'), some (.ref ad), v] ∧ Same H H' ∧ ∀ j, j < i → ∀ e, M.evs[j]? = some e → fate M.ins ts (directs M.ins L e) true)
    ⟨none, rfl, Same.refl _, fun j hj => absurd hj (Nat.not_lt_zero j)⟩ (fun i σ H' _ ⟨_, _, sm, _⟩ => same_sqt sm h2) ?_ ?_⟩
  · rintro i y σ H' hi ⟨v, rfl, sm, hf⟩
    obtain ⟨e, rfl, hev⟩ := of_at_str hi
    have g0 := sm _ _ h0
    have hdl : (directs M.ins L e).length = M.ins.length := List.length_map ..
    refine ⟨_, rfl, m, C_Market, dx, _, _, rfl, g0, T.cl_Market, T.no_Market_insurers, mf_i, _, rfl, _, rfl, m, C_Market, dx, _, _, rfl, g0, T.cl_Market, T.no_Market_insurers, mf_i, _, rfl, _, rfl, ai, ad, e, M.ins, L, rfl, same_sqt sm h1, hfew, .inl (sm _ _ hL), fun c H2 s2 nc hc => ?_⟩
    have s02 := sm.trans s2
    have step : fate M.ins ts (directs M.ins L e) true → ∀ H3, Same H2 H3 → ∃ v : Option V, ([some (.ref m), some (.ref at'), some (.ref ad), some (.str e)] : L2.St) = [some (.ref m), some (.ref at'), some (.ref ad), v] ∧ Same H H3 ∧ ∀ j, j < i + 1 → ∀ e, M.evs[j]? = some e → fate M.ins ts (directs M.ins L e) true := fun ht H3 s3 => by
      refine ⟨_, rfl, s02.trans s3, fun j hj e2 he2 => ?_⟩
      by_cases ej : j = i
      · subst ej
        rw [hev] at he2
        cases he2
        exact ht
      · exact hf j (by omega) e2 he2
    have bad : fate M.ins ts (directs M.ins L e) false → ∀ H3, Same H2 H3 → E (.ref C_NoEnd) none H3 := fun hb H3 s3 => by
      rcases h with ⟨ha, _⟩ | ⟨_, q⟩
      · exact (fate_one (ha e (List.mem_of_getElem? hev)) hb).elim
      · exact q H3 (s02.trans s3)
    refine ⟨ai, at', c, M.ins, ts, _, rfl, same_sqt s02 h1, TrsAt.same s02 hT, hok, SqT.of hc, hdl, fun k hk hr hfst => ⟨fun hb H3 s3 => ?_, fun hb p H3 s3 _ => ?_⟩, fun hn H3 s3 => ?_⟩
    · exact bad (.inl ⟨k, hk, hr, hfst, hb⟩) H3 s3
    · exact step ⟨k, hk, hr, hfst, hb⟩ H3 s3
    · exact bad (.inr hn) H3 s3
  · rintro σ H' ⟨v, rfl, sm, hf⟩
    rcases h with ⟨_, q⟩ | ⟨⟨e, he2, hb⟩, _⟩
    · exact q _ sm
    · obtain ⟨j, hj⟩ := List.getElem?_of_mem he2
      have hjl := (List.getElem?_eq_some_iff.mp hj).1
      exact (fate_one (hf j (by rw [List.length_map]; exact hjl) e hj) hb).elim

theorem ok_law_cell {f : Addr} {fd : FuncData} (D_law_cell : Dfn K mg "_law_cell" s_law_cell ["script", "k"] f fd) (T : Tx K mg C_BadName C_BadCover C_BadPanel C_BadAmount C_NameTaken C_NoSuchName C_Twice C_OwnPanel C_TooMany C_NoEnd C_Market) :
    FnOk P w K mg base CX0 (1) f fd ["script", "k"] (sp_law_cell K) := by
  refine D_law_cell.F.ok sc_law_cell (fun vs H Q E h => ?_) (fun cdv A outer s H vs Q E hr h => ?_)
  · obtain ⟨a, ns, j, rfl, hS, q⟩ := h
    rfl
  obtain ⟨a, ns, j, rfl, hS, q⟩ := h
  refine ⟨_, (pss_cons (ps_if (pt_cmpR op_lt (pv 1) (pe_callB call_len_seq (by rfl) T.len PySem.boot_len (pa_cons (pv 0) pa_nil)) (nomark _))
      (pss_one (ps_ret (pe_callTy call_int1 (by rfl) T.int (by decide +kernel) (pa_cons (pe_ix (r := rIxL K) ix_list (pv 0) (pv 1) (fun _ _ => rfl)) pa_nil))))
      pss_nil)
      (pss_one (ps_ret pe_int))), ?_⟩
  refine ⟨_, rfl, _, rfl, a, _, rfl, .inl hS, _, _, rfl, rfl, _, rfl, ?_⟩
  refine iteB (fun c => ?_) (fun c => ?_)
  · have c' : (j : Int) < ((ns.map V.int).length : Nat) := of_decide_eq_true c
    rw [List.length_map] at c'
    exact ⟨_, rfl, _, rfl, a, _, _, V.int (cell ns j), rfl, rfl, hS, atI_nat (at_map (cell_in (by omega))), .inl ⟨_, rfl, q⟩⟩
  · have c' : ¬ (j : Int) < ((ns.map V.int).length : Nat) := of_decide_eq_false c
    rw [List.length_map] at c'
    have e : cell ns j = 0 := cell_out (by omega)
    rw [e] at q
    exact q

theorem ok_law_is_integer {f : Addr} {fd : FuncData} (D_law_is_integer : Dfn K mg "_law_is_integer" s_law_is_integer ["actual"] f fd) (T : Tx K mg C_BadName C_BadCover C_BadPanel C_BadAmount C_NameTaken C_NoSuchName C_Twice C_OwnPanel C_TooMany C_NoEnd C_Market) :
    FnOk P w K mg base CX0 (1) f fd ["actual"] (sp_law_is_integer K) := by
  refine D_law_is_integer.F.ok sc_law_is_integer (fun vs H Q E h => ?_) (fun cdv A outer s H vs Q E hr h => ?_)
  · obtain ⟨i, rfl, q⟩ := h
    rfl
  obtain ⟨i, rfl, q⟩ := h
  refine ⟨_, (pss_one (ps_ret (pe_and (pe_callB call_isi (by rfl) T.isinstance (by decide +kernel) (pa_cons (pv 0) (pa_cons (pe_bltn (v := .ty "int") (by rfl) T.int (by decide +kernel) rfl) pa_nil))) (pe_one (pe_not (pe_callB call_isi (by rfl) T.isinstance (by decide +kernel) (pa_cons (pv 0) (pa_cons (pe_bltn (v := .ty "bool") (by rfl) T.bool (by decide +kernel) rfl) pa_nil)))))))), ?_⟩
  refine ⟨_, rfl, _, _, _, _, _, rfl, .ty _, .base (.int i), kit_ty (r := true) (by decide +kernel), _, rfl, ?_⟩
  refine iteT ?_
  refine ⟨_, rfl, _, _, _, _, _, rfl, .ty _, .base (.int i), kit_ty (r := false) (by decide +kernel), _, rfl, ?_⟩
  exact q

theorem ok_law_same {f : Addr} {fd : FuncData} (D_law_same : Dfn K mg "_law_same" s_law_same ["actual", "expected"] f fd) (T : Tx K mg C_BadName C_BadCover C_BadPanel C_BadAmount C_NameTaken C_NoSuchName C_Twice C_OwnPanel C_TooMany C_NoEnd C_Market) {f_law_is_integer : Addr} {fd_law_is_integer : FuncData} (D_law_is_integer : Dfn K mg "_law_is_integer" s_law_is_integer ["actual"] f_law_is_integer fd_law_is_integer) (G_law_is_integer : FnOk P w K mg base CX0 (1) f_law_is_integer fd_law_is_integer ["actual"] (sp_law_is_integer K)) {n:Nat} (IH:FnOk P w K mg base CX0 (n+1) f fd ["actual","expected"] (sp_law_same K n)) :
    FnOk P w K mg base CX0 (n+2) f fd ["actual", "expected"] (sp_law_same K (n+1)) := by
  refine D_law_same.F.ok sc_law_same (fun vs H Q E h => ?_) (fun cdv A outer s H vs Q E hr h => ?_)
  · obtain ⟨x, y, d, rfl, hd, hx, hy, q⟩ := h
    rfl
  obtain ⟨x, y, d, rfl, hd, hx, hy, q⟩ := h
  refine ⟨_, (pss_cons (ps_if (pt_cmpR op_isN (pv 1) pe_non (nomark _))
      (pss_one (ps_ret (pe_cmpR op_isN (pv 0) pe_non (nomark _))))
      pss_nil)
      (pss_cons (ps_if (pt_val (pe_callB call_isi (by rfl) T.isinstance (by decide +kernel) (pa_cons (pv 1) (pa_cons (pe_bltn (v := .ty "bool") (by rfl) T.bool (by decide +kernel) rfl) pa_nil))))
      (pss_one (ps_ret (pe_and (pe_callB call_isi (by rfl) T.isinstance (by decide +kernel) (pa_cons (pv 0) (pa_cons (pe_bltn (v := .ty "bool") (by rfl) T.bool (by decide +kernel) rfl) pa_nil))) (pe_one (pe_cmpR op_eq (pv 0) (pv 1) (nomark _))))))
      pss_nil)
      (pss_cons (ps_if (pt_val (pe_callB call_isi (by rfl) T.isinstance (by decide +kernel) (pa_cons (pv 1) (pa_cons (pe_bltn (v := .ty "int") (by rfl) T.int (by decide +kernel) rfl) pa_nil))))
      (pss_one (ps_ret (pe_and (pe_call G_law_is_integer (hr.mono (by first | decide | omega)) rfl D_law_is_integer.m D_law_is_integer.F.kp D_law_is_integer.b .nil pass0 (pa_cons (pv 0) pa_nil)) (pe_one (pe_cmpR op_eq (pv 0) (pv 1) (nomark _))))))
      pss_nil)
      (pss_cons (ps_if (pt_val (pe_callB call_isi (by rfl) T.isinstance (by decide +kernel) (pa_cons (pv 1) (pa_cons (pe_bltn (v := .ty "str") (by rfl) T.str (by decide +kernel) rfl) pa_nil))))
      (pss_one (ps_ret (pe_and (pe_callB call_isi (by rfl) T.isinstance (by decide +kernel) (pa_cons (pv 0) (pa_cons (pe_bltn (v := .ty "str") (by rfl) T.str (by decide +kernel) rfl) pa_nil))) (pe_one (pe_cmpR op_eq (pv 0) (pv 1) (nomark _))))))
      pss_nil)
      (pss_cons (ps_if (PW.pt (pw_and (pt_val (pe_callB call_isi (by rfl) T.isinstance (by decide +kernel) (pa_cons (pv 1) (pa_cons (pe_bltn (v := .ty "tuple") (by rfl) T.tuple (by decide +kernel) rfl) pa_nil)))) (pw_and1 (pt_not (pt_val (pe_callB call_isi (by rfl) T.isinstance (by decide +kernel) (pa_cons (pv 0) (pa_cons (pe_bltn (v := .ty "tuple") (by rfl) T.tuple (by decide +kernel) rfl) pa_nil))))))))
      (pss_one (ps_ret pe_bl))
      pss_nil)
      (pss_cons (ps_if (PW.pt (pw_and (pt_val (pe_callB call_isi (by rfl) T.isinstance (by decide +kernel) (pa_cons (pv 1) (pa_cons (pe_bltn (v := .ty "list") (by rfl) T.list (by decide +kernel) rfl) pa_nil)))) (pw_and1 (pt_not (pt_val (pe_callB call_isi (by rfl) T.isinstance (by decide +kernel) (pa_cons (pv 0) (pa_cons (pe_bltn (v := .ty "list") (by rfl) T.list (by decide +kernel) rfl) pa_nil))))))))
      (pss_one (ps_ret pe_bl))
      pss_nil)
      (pss_cons (ps_if (pt_cmpR op_ne (pe_callB call_len_seq (by rfl) T.len PySem.boot_len (pa_cons (pv 0) pa_nil)) (pe_callB call_len_seq (by rfl) T.len PySem.boot_len (pa_cons (pv 1) pa_nil)) (nomark _))
      (pss_one (ps_ret pe_bl))
      pss_nil)
      (pss_cons (ps_for PassesOwn.never rfl (pi_range1 (by rfl) T.range (pa_cons (pe_callB call_len_seq (by rfl) T.len PySem.boot_len (pa_cons (pv 1) pa_nil)) pa_nil)) (pg_name (i := 2) sc_law_same.nd rfl (by first | exact Or.inl rfl | exact Or.inr rfl))
      (pss_one (ps_if (pt_not (pt_val (pe_call IH hr rfl D_law_same.m D_law_same.F.kp D_law_same.b .nil pass0 (pa_cons (pe_ix (r := rIx K) ix_seq (pv 0) (pv 2) (fun _ _ => rfl)) (pa_cons (pe_ix (r := rIx K) ix_seq (pv 1) (pv 2) (fun _ _ => rfl)) pa_nil)))))
      (pss_one (ps_ret pe_bl))
      pss_nil)))
      (pss_one (ps_ret pe_bl)))))))))), ?_⟩
  cases hx <;> cases hy
  case non.non => exact ⟨_, rfl, rfl, _, rfl, iteT ⟨_, rfl, rfl, q⟩⟩
  case bl.bl b =>
    refine ⟨_, rfl, rfl, _, rfl, iteF ⟨_, rfl, _, _, _, _, _, rfl, .ty _, .base (.bl b), kit_ty (r := true) (by decide +kernel), _, rfl, iteT ?_⟩⟩
    refine ⟨_, rfl, _, _, _, _, _, rfl, .ty _, .base (.bl b), kit_ty (r := true) (by decide +kernel), _, rfl, iteT ⟨_, rfl, _, rfl, rfl, ?_⟩⟩
    show Q (.bl (decide (V.bl b = V.bl b))) H
    rw [decide_eq_true rfl]
    exact q
  case int.int b =>
    refine ⟨_, rfl, rfl, _, rfl, iteF ⟨_, rfl, _, _, _, _, _, rfl, .ty _, .base (.int b), kit_ty (r := false) (by decide +kernel), _, rfl, iteF ?_⟩⟩
    refine ⟨_, rfl, _, _, _, _, _, rfl, .ty _, .base (.int b), kit_ty (r := true) (by decide +kernel), _, rfl, iteT ?_⟩
    refine ⟨_, rfl, b, rfl, _, rfl, iteT ⟨_, rfl, _, rfl, rfl, ?_⟩⟩
    show Q (.bl (decide (V.int b = V.int b))) H
    rw [decide_eq_true rfl]
    exact q
  case str.str b =>
    refine ⟨_, rfl, rfl, _, rfl, iteF ⟨_, rfl, _, _, _, _, _, rfl, .ty _, .base (.str b), kit_ty (r := false) (by decide +kernel), _, rfl, iteF ?_⟩⟩
    refine ⟨_, rfl, _, _, _, _, _, rfl, .ty _, .base (.str b), kit_ty (r := false) (by decide +kernel), _, rfl, iteF ?_⟩
    refine ⟨_, rfl, _, _, _, _, _, rfl, .ty _, .base (.str b), kit_ty (r := true) (by decide +kernel), _, rfl, iteT ?_⟩
    refine ⟨_, rfl, _, _, _, _, _, rfl, .ty _, .base (.str b), kit_ty (r := true) (by decide +kernel), _, rfl, iteT ⟨_, rfl, _, rfl, rfl, ?_⟩⟩
    show Q (.bl (decide (V.str b = V.str b))) H
    rw [decide_eq_true rfl]
    exact q
  case' lst.lst a xs ds ha hA b ys hb hB =>
    have ta := tyx_lst ha
    have tb := tyx_lst hb
    refine ⟨_, rfl, rfl, _, rfl, iteF ⟨_, rfl, _, _, _, _, _, rfl, .ty _, tb, kit_ty (r := false) (by decide +kernel), _, rfl, iteF ?_⟩⟩
    refine ⟨_, rfl, _, _, _, _, _, rfl, .ty _, tb, kit_ty (r := false) (by decide +kernel), _, rfl, iteF ?_⟩
    refine ⟨_, rfl, _, _, _, _, _, rfl, .ty _, tb, kit_ty (r := false) (by decide +kernel), _, rfl, iteF ?_⟩
    refine ⟨_, rfl, _, _, _, _, _, rfl, .ty _, tb, kit_ty (r := false) (by decide +kernel), _, rfl, iteF (iteF ?_)⟩
    refine ⟨_, rfl, _, _, _, _, _, rfl, .ty _, tb, kit_ty (r := true) (by decide +kernel), _, rfl, iteT ⟨_, rfl, _, _, _, _, _, rfl, .ty _, ta, kit_ty (r := true) (by decide +kernel), _, rfl, iteF ?_⟩⟩
    have hSa : Sq K H a xs := .inl ha
    have hSb : Sq K H b ys := .inl hb
    have hds2 : (decide (ds.length ≤ 5000) && ds.all (dOk n)) = true := hd
  case' tup.tup a xs ds ha hA b ys hb hB =>
    have ta := tyx_tup ha
    have tb := tyx_tup hb
    refine ⟨_, rfl, rfl, _, rfl, iteF ⟨_, rfl, _, _, _, _, _, rfl, .ty _, tb, kit_ty (r := false) (by decide +kernel), _, rfl, iteF ?_⟩⟩
    refine ⟨_, rfl, _, _, _, _, _, rfl, .ty _, tb, kit_ty (r := false) (by decide +kernel), _, rfl, iteF ?_⟩
    refine ⟨_, rfl, _, _, _, _, _, rfl, .ty _, tb, kit_ty (r := false) (by decide +kernel), _, rfl, iteF ?_⟩
    refine ⟨_, rfl, _, _, _, _, _, rfl, .ty _, tb, kit_ty (r := true) (by decide +kernel), _, rfl, iteT ⟨_, rfl, _, _, _, _, _, rfl, .ty _, ta, kit_ty (r := true) (by decide +kernel), _, rfl, iteF ?_⟩⟩
    refine ⟨_, rfl, _, _, _, _, _, rfl, .ty _, tb, kit_ty (r := false) (by decide +kernel), _, rfl, iteF (iteF ?_)⟩
    have hSa : Sq K H a xs := .inr ha
    have hSb : Sq K H b ys := .inr hb
    have hds2 : (decide (ds.length ≤ 5000) && ds.all (dOk n)) = true := hd
  all_goals
    have la : xs.length = ds.length := DpAll.len hA
    have lb : ys.length = ds.length := DpAll.len hB
    refine ⟨_, rfl, a, xs, rfl, hSa, _, rfl, b, ys, rfl, hSb, rfl, _, rfl, ?_⟩
    have e1 : decide (V.int ((xs.length : Nat) : Int) = V.int ((ys.length : Nat) : Int)) = true := decide_eq_true (by rw [la, lb])
    rw [e1]
    refine iteF ?_
    rw [Bool.and_eq_true] at hds2
    have hlen : ds.length ≤ 5000 := of_decide_eq_true hds2.1
    have hds := hds2.2
    refine ⟨_, rfl, b, ys, rfl, hSb, ((ys.length : Nat) : Int), rfl, by omega, by omega, ?_⟩
    rw [show ((ys.length : Nat) : Int).toNat = ys.length by omega]
    refine for_range (lo := 0) (n := ys.length) (fun i σ H' => ∃ kv : Option V, σ = [some (.ref a), some (.ref b), kv] ∧ H' = H) ⟨none, rfl, rfl⟩ ?_ ?_
    · rintro i σ H' hi ⟨kv, rfl, rfl⟩
      have hi2 : i < ds.length := by omega
      obtain ⟨va, ga, da⟩ := DpAll.get hA (List.getElem?_eq_getElem hi2)
      obtain ⟨vb, gb, db⟩ := DpAll.get hB (List.getElem?_eq_getElem hi2)
      have ez : (0 : Int) + (i : Int) = (i : Int) := by omega
      have hdi : dOk n ds[i] = true := List.all_eq_true.mp hds _ (List.getElem_mem hi2)
      have ia : atI xs ((0 : Int) + (i : Int)) = some va := by
        rw [ez]
        exact atI_nat ga
      have ib : atI ys ((0 : Int) + (i : Int)) = some vb := by
        rw [ez]
        exact atI_nat gb
      refine ⟨_, rfl, _, rfl, sq_ix hSa ia ?_⟩
      refine ⟨_, rfl, _, rfl, sq_ix hSb ib ?_⟩
      refine ⟨va, vb, ds[i], rfl, hdi, da, db, _, rfl, iteF ?_⟩
      exact ⟨_, rfl, rfl⟩
    · rintro σ H' ⟨kv, rfl, rfl⟩
      exact q

theorem ok_law_kind {f : Addr} {fd : FuncData} (D_law_kind : Dfn K mg "_law_kind" s_law_kind ["market", "deed"] f fd) (T : Tx K mg C_BadName C_BadCover C_BadPanel C_BadAmount C_NameTaken C_NoSuchName C_Twice C_OwnPanel C_TooMany C_NoEnd C_Market) {f_Market_add_insurer : Addr} {fd_Market_add_insurer : FuncData} (D_Market_add_insurer : Mth K C_Market "add_insurer" "Market.add_insurer" s_Market_add_insurer ["self", "name"] f_Market_add_insurer fd_Market_add_insurer) (G_Market_add_insurer : FnOk P w K mg base (L2.CX P w) (4) f_Market_add_insurer fd_Market_add_insurer ["self", "name"] (sp_add_insurer K C_Market C_BadName C_TooMany C_NameTaken)) {f_Market_add_event : Addr} {fd_Market_add_event : FuncData} (D_Market_add_event : Mth K C_Market "add_event" "Market.add_event" s_Market_add_event ["self", "name"] f_Market_add_event fd_Market_add_event) (G_Market_add_event : FnOk P w K mg base (L2.CX P w) (4) f_Market_add_event fd_Market_add_event ["self", "name"] (sp_add_event K C_Market C_BadName C_TooMany C_NameTaken)) {f_Market_add_treaty : Addr} {fd_Market_add_treaty : FuncData} (D_Market_add_treaty : Mth K C_Market "add_treaty" "Market.add_treaty" s_Market_add_treaty ["self", "cedent", "cover", "panel"] f_Market_add_treaty fd_Market_add_treaty) (G_Market_add_treaty : FnOk P w K mg base (L2.CX P w) (8) f_Market_add_treaty fd_Market_add_treaty ["self", "cedent", "cover", "panel"] (sp_add_treaty K C_Market C_BadName C_BadCover C_BadPanel)) {f_Market_set_loss : Addr} {fd_Market_set_loss : FuncData} (D_Market_set_loss : Mth K C_Market "set_loss" "Market.set_loss" s_Market_set_loss ["self", "event", "insurer", "amount"] f_Market_set_loss fd_Market_set_loss) (G_Market_set_loss : FnOk P w K mg base (L2.CX P w) (8) f_Market_set_loss fd_Market_set_loss ["self", "event", "insurer", "amount"] (sp_set_loss K C_Market C_BadName C_BadAmount)) :
    FnOk P w K mg base CX0 (9) f fd ["market", "deed"] (sp_law_kind K C_Market) := by
  refine D_law_kind.F.ok sc_law_kind (fun vs H Q E h => ?_) (fun cdv A outer s H vs Q E hr h => ?_)
  · obtain ⟨m, d, M, xs, rfl, hM, hS, h⟩ := h
    rfl
  obtain ⟨m, d, M, xs, rfl, hM, hS, h⟩ := h
  refine ⟨_, (pss_cons (ps_try_many rfl rfl takes0 (fun W pn xe tk _ => (pss_one (ps_if (pt_cmpR op_eq (pe_ix (r := rIxT K) ix_tup (pv 1) pe_int (fun _ _ => rfl)) pe_str (nomark _))
      (pss_one (ps_expr (by exact (pe_methT (pv 0) T.cl_Market D_Market_add_insurer.m G_Market_add_insurer (hr.mono (by first | decide | omega)) D_Market_add_insurer.b (fun σ => passAt tk σ) (by exact (pa_cons (pe_ix (r := rIxT K) ix_tup (pv 1) pe_int (fun _ _ => rfl)) pa_nil))))))
      (pss_one (ps_if (pt_cmpR op_eq (pe_ix (r := rIxT K) ix_tup (pv 1) pe_int (fun _ _ => rfl)) pe_str (nomark _))
      (pss_one (ps_expr (by exact (pe_methT (pv 0) T.cl_Market D_Market_add_event.m G_Market_add_event (hr.mono (by first | decide | omega)) D_Market_add_event.b (fun σ => passAt tk σ) (by exact (pa_cons (pe_ix (r := rIxT K) ix_tup (pv 1) pe_int (fun _ _ => rfl)) pa_nil))))))
      (pss_one (ps_if (pt_cmpR op_eq (pe_ix (r := rIxT K) ix_tup (pv 1) pe_int (fun _ _ => rfl)) pe_str (nomark _))
      (pss_one (ps_expr (by exact (pe_methT (pv 0) T.cl_Market D_Market_add_treaty.m G_Market_add_treaty (hr.mono (by first | decide | omega)) D_Market_add_treaty.b (fun σ => passAt tk σ) (by exact (pa_cons (pe_ix (r := rIxT K) ix_tup (pv 1) pe_int (fun _ _ => rfl)) (pa_cons (pe_ix (r := rIxT K) ix_tup (pv 1) pe_int (fun _ _ => rfl)) (pa_cons (pe_ix (r := rIxT K) ix_tup (pv 1) pe_int (fun _ _ => rfl)) pa_nil))))))))
      (pss_one (ps_expr (by exact (pe_methT (pv 0) T.cl_Market D_Market_set_loss.m G_Market_set_loss (hr.mono (by first | decide | omega)) D_Market_set_loss.b (fun σ => passAt tk σ) (by exact (pa_cons (pe_ix (r := rIxT K) ix_tup (pv 1) pe_int (fun _ _ => rfl)) (pa_cons (pe_ix (r := rIxT K) ix_tup (pv 1) pe_int (fun _ _ => rfl)) (pa_cons (pe_ix (r := rIxT K) ix_tup (pv 1) pe_int (fun _ _ => rfl)) pa_nil))))))))))))))) (HdsOk.cons ⟨rfl, by decide, .inl T.exc_BadName.g⟩ (fun a oe cls d pn hz hf => (pss_one (ps_ret pe_str))) (HdsOk.cons ⟨rfl, by decide, .inl T.exc_BadCover.g⟩ (fun a oe cls d pn hz hf => (pss_one (ps_ret pe_str))) (HdsOk.cons ⟨rfl, by decide, .inl T.exc_BadPanel.g⟩ (fun a oe cls d pn hz hf => (pss_one (ps_ret pe_str))) (HdsOk.cons ⟨rfl, by decide, .inl T.exc_BadAmount.g⟩ (fun a oe cls d pn hz hf => (pss_one (ps_ret pe_str))) HdsOk.nil)))))
      (pss_one (ps_ret pe_str))), ?_⟩
  obtain ⟨dx, ai, ae, at', ad, h0, _⟩ := id hM
  have ne : ∀ {a b : Str}, a ≠ b → decide (V.str a = V.str b) = false := fun h => decide_eq_false (fun e => h (V.str.inj e))
  have yes : ∀ {a : Str}, decide (V.str a = V.str a) = true := decide_eq_true rfl
  have bN : ∀ {l : List (Value × (Addr → Value → Option Addr → TS))} {W : WX} {D : Ends} {σ : L2.St} {H' : Hp} {ts : Addr → Value → Option Addr → TS}, (∀ a, ts a (.ref C_BadName) none D σ H') → wMany K W D ((.ref C_BadName, ts) :: l) (.ref C_BadName) none σ H' := fun h => ⟨true, T.exc_BadName.e, fun _ a _ => h a, fun z => (nomatch z)⟩
  rcases h with ⟨x, rfl, hn, q⟩ | ⟨x, rfl, hn, q⟩ | ⟨x, y, w, rfl, h⟩ | ⟨x, y, w, rfl, h⟩
  · refine ⟨_, rfl, d, _, _, _, rfl, rfl, hS, rfl, rfl, _, rfl, ?_⟩
    rw [yes]
    refine iteT ⟨_, rfl, m, dx, _, rfl, h0, mf_no (by decide +kernel), _, rfl, d, _, _, x, rfl, rfl, hS, rfl, m, x, M, rfl, hM, .inl ⟨hn, fun H' s => ?_⟩⟩
    exact bN fun a => q H' s
  · refine ⟨_, rfl, d, _, _, _, rfl, rfl, hS, rfl, rfl, _, rfl, ?_⟩
    rw [ne (by decide +kernel)]
    refine iteF ⟨_, rfl, d, _, _, _, rfl, rfl, hS, rfl, rfl, _, rfl, ?_⟩
    rw [yes]
    refine iteT ⟨_, rfl, m, dx, _, rfl, h0, mf_no (by decide +kernel), _, rfl, d, _, _, x, rfl, rfl, hS, rfl, m, x, M, rfl, hM, .inl ⟨hn, fun H' s => ?_⟩⟩
    exact bN fun a => q H' s
  · refine ⟨_, rfl, d, _, _, _, rfl, rfl, hS, rfl, rfl, _, rfl, ?_⟩
    rw [ne (by decide +kernel)]
    refine iteF ⟨_, rfl, d, _, _, _, rfl, rfl, hS, rfl, rfl, _, rfl, ?_⟩
    rw [ne (by decide +kernel)]
    refine iteF ⟨_, rfl, d, _, _, _, rfl, rfl, hS, rfl, rfl, _, rfl, ?_⟩
    rw [yes]
    refine iteT ⟨_, rfl, m, dx, _, rfl, h0, mf_no (by decide +kernel), _, rfl, d, _, _, x, rfl, rfl, hS, rfl, _, rfl, d, _, _, y, rfl, rfl, hS, rfl, _, rfl, d, _, _, w, rfl, rfl, hS, rfl, m, x, y, w, M, rfl, hM, ?_⟩
    rcases h with ⟨hn, q⟩ | ⟨hn, hc, q⟩ | ⟨hn, hc, hp, q⟩ | ⟨c, z, vc, cov, n, rfl, hn, rfl, g1, g2, g3, g4, g5, g6, g7, g8, g9, g10, g11, q⟩
    · exact .inl ⟨hn, fun H' s => bN fun a => q H' s⟩
    · exact .inr (.inl ⟨hn, hc, fun H' s => ⟨false, T.exCN, fun z => (nomatch z), fun _ => ⟨true, T.exc_BadCover.e, fun _ a _ => q H' s, fun z => (nomatch z)⟩⟩⟩)
    · exact .inr (.inr (.inl ⟨hn, hc, hp, fun H' s => ⟨false, T.exPN, fun z => (nomatch z), fun _ => ⟨false, T.exPC, fun z => (nomatch z), fun _ => ⟨true, T.exc_BadPanel.e, fun _ a _ => q H' s, fun z => (nomatch z)⟩⟩⟩⟩))
    · exact .inr (.inr (.inr ⟨c, z, vc, cov, n, rfl, hn, rfl, g1, g2, g3, g4, g5, g6, g7, g8, g9, g10, g11, fun H' b hM' => q H' b hM'⟩))
  · refine ⟨_, rfl, d, _, _, _, rfl, rfl, hS, rfl, rfl, _, rfl, ?_⟩
    rw [ne (by decide +kernel)]
    refine iteF ⟨_, rfl, d, _, _, _, rfl, rfl, hS, rfl, rfl, _, rfl, ?_⟩
    rw [ne (by decide +kernel)]
    refine iteF ⟨_, rfl, d, _, _, _, rfl, rfl, hS, rfl, rfl, _, rfl, ?_⟩
    rw [ne (by decide +kernel)]
    refine iteF ⟨_, rfl, m, dx, _, rfl, h0, mf_no (by decide +kernel), _, rfl, d, _, _, x, rfl, rfl, hS, rfl, _, rfl, d, _, _, y, rfl, rfl, hS, rfl, _, rfl, d, _, _, w, rfl, rfl, hS, rfl, m, x, y, w, M, rfl, hM, ?_⟩
    rcases h with ⟨hn, q⟩ | ⟨hn, hy, q⟩ | ⟨hn, hy, hf, hw, q⟩ | ⟨e, z, n, rfl, hn, rfl, hy, rfl, g1, g2, g3, g4, g5, g6, g7, q⟩
    · exact .inl ⟨hn, fun H' s => bN fun a => q H' s⟩
    · exact .inr (.inl ⟨hn, hy, fun H' s => bN fun a => q H' s⟩)
    · exact .inr (.inr (.inl ⟨hn, hy, hf, hw, fun H' s => ⟨false, T.exAN, fun z => (nomatch z), fun _ => ⟨false, T.exAC, fun z => (nomatch z), fun _ => ⟨false, T.exAP, fun z => (nomatch z), fun _ => ⟨true, T.exc_BadAmount.e, fun _ a _ => q H' s, fun z => (nomatch z)⟩⟩⟩⟩⟩))
    · exact .inr (.inr (.inr ⟨e, z, n, rfl, hn, rfl, hy, rfl, g1, g2, g3, g4, g5, g6, g7, fun H' b hM' => q H' b hM'⟩))

theorem ok_law {f : Addr} {fd : FuncData} (D_law : Dfn K mg "law" s_law ["script"] f fd) (T : Tx K mg C_BadName C_BadCover C_BadPanel C_BadAmount C_NameTaken C_NoSuchName C_Twice C_OwnPanel C_TooMany C_NoEnd C_Market) {f_Market___init : Addr} {fd_Market___init : FuncData} (D_Market___init : Mki K C_Market "Market.__init__" s_Market___init ["self"] f_Market___init fd_Market___init) (G_Market___init : FnOk P w K mg base CX0 (1) f_Market___init fd_Market___init ["self"] (sp_minit K C_Market)) {f_Market_add_insurer : Addr} {fd_Market_add_insurer : FuncData} (D_Market_add_insurer : Mth K C_Market "add_insurer" "Market.add_insurer" s_Market_add_insurer ["self", "name"] f_Market_add_insurer fd_Market_add_insurer) (G_Market_add_insurer : FnOk P w K mg base (L2.CX P w) (4) f_Market_add_insurer fd_Market_add_insurer ["self", "name"] (sp_add_insurer K C_Market C_BadName C_TooMany C_NameTaken)) {f_Market_add_event : Addr} {fd_Market_add_event : FuncData} (D_Market_add_event : Mth K C_Market "add_event" "Market.add_event" s_Market_add_event ["self", "name"] f_Market_add_event fd_Market_add_event) (G_Market_add_event : FnOk P w K mg base (L2.CX P w) (4) f_Market_add_event fd_Market_add_event ["self", "name"] (sp_add_event K C_Market C_BadName C_TooMany C_NameTaken)) {f_law_cell : Addr} {fd_law_cell : FuncData} (D_law_cell : Dfn K mg "_law_cell" s_law_cell ["script", "k"] f_law_cell fd_law_cell) (G_law_cell : FnOk P w K mg base CX0 (1) f_law_cell fd_law_cell ["script", "k"] (sp_law_cell K)) {f_law_kind : Addr} {fd_law_kind : FuncData} (D_law_kind : Dfn K mg "_law_kind" s_law_kind ["market", "deed"] f_law_kind fd_law_kind) (G_law_kind : FnOk P w K mg base CX0 (9) f_law_kind fd_law_kind ["market", "deed"] (sp_law_kind K C_Market)) {f_law_same : Addr} {fd_law_same : FuncData} (D_law_same : Dfn K mg "_law_same" s_law_same ["actual", "expected"] f_law_same fd_law_same) (G_law_same : FnOk P w K mg base CX0 (9) f_law_same fd_law_same ["actual", "expected"] (sp_law_same K 8)) {f_Market_direct : Addr} {fd_Market_direct : FuncData} (D_Market_direct : Mth K C_Market "direct" "Market.direct" s_Market_direct ["self", "event"] f_Market_direct fd_Market_direct) (G_Market_direct : FnOk P w K mg base (L2.CX P w) (4) f_Market_direct fd_Market_direct ["self", "event"] (sp_direct K C_Market C_NoSuchName)) :
    FnOk P w K mg base CX0 (10) f fd ["script"] (sp_law K) := by
  refine D_law.F.ok sc_law (fun vs H Q E h => ?_) (fun cdv A outer s H vs Q E hr h => ?_)
  · obtain ⟨a, ns, rfl, hS, h63, q⟩ := h
    rfl
  obtain ⟨a, ns, rfl, hS, h63, q⟩ := h
  refine ⟨_, (pss_cons (ps_set (i := 1) sc_law.nd rfl (by first | exact Or.inl rfl | exact Or.inr rfl) (pe_make0 D_Market___init.m G_Market___init (hr.mono (by first | decide | omega)) rfl T.m_Market D_Market___init.b .nil pass0))
      (pss_cons (ps_expr (pe_meth (pv 1) T.cl_Market D_Market_add_insurer.m G_Market_add_insurer (hr.mono (by first | decide | omega)) D_Market_add_insurer.b .nil passL (pa_cons pe_str pa_nil)))
      (pss_cons (ps_expr (pe_meth (pv 1) T.cl_Market D_Market_add_insurer.m G_Market_add_insurer (hr.mono (by first | decide | omega)) D_Market_add_insurer.b .nil passL (pa_cons pe_str pa_nil)))
      (pss_cons (ps_expr (pe_meth (pv 1) T.cl_Market D_Market_add_event.m G_Market_add_event (hr.mono (by first | decide | omega)) D_Market_add_event.b .nil passL (pa_cons pe_str pa_nil)))
      (pss_cons (ps_set (i := 2) sc_law.nd rfl (by first | exact Or.inl rfl | exact Or.inr rfl) (pe_lst (pa_cons pe_str (pa_cons pe_str (pa_cons pe_str (pa_cons pe_str (pa_cons pe_str (pa_cons pe_non (pa_cons pe_int (pa_cons (pe_tup (pa_cons pe_str pa_nil)) pa_nil))))))))))
      (pss_cons (ps_set (i := 3) sc_law.nd rfl (by first | exact Or.inl rfl | exact Or.inr rfl) (pe_ix (r := rIxL K) ix_list (pv 2) (pe_op op_mod (pe_call G_law_cell (hr.mono (by first | decide | omega)) rfl D_law_cell.m D_law_cell.F.kp D_law_cell.b .nil pass0 (pa_cons (pv 0) (pa_cons pe_int pa_nil))) pe_int) (fun _ _ => rfl)))
      (pss_cons (ps_set (i := 4) sc_law.nd rfl (by first | exact Or.inl rfl | exact Or.inr rfl) (pe_lst (pa_cons (pe_tup pa_nil) (pa_cons (pe_lst (pa_cons (pe_tup (pa_cons pe_str (pa_cons pe_int pa_nil))) pa_nil)) (pa_cons (pe_tup (pa_cons (pe_tup (pa_cons pe_str (pa_cons pe_int pa_nil))) pa_nil)) (pa_cons (pe_tup (pa_cons (pe_tup (pa_cons pe_str (pa_cons pe_int pa_nil))) pa_nil)) (pa_cons (pe_tup (pa_cons (pe_tup (pa_cons pe_str (pa_cons pe_int pa_nil))) (pa_cons (pe_tup (pa_cons pe_non (pa_cons pe_int pa_nil))) pa_nil))) (pa_cons (pe_tup (pa_cons (pe_tup (pa_cons pe_str (pa_cons pe_int pa_nil))) pa_nil)) (pa_cons (pe_tup (pa_cons pe_str (pa_cons pe_int pa_nil))) (pa_cons (pe_tup (pa_cons (pe_tup (pa_cons pe_str (pa_cons pe_int (pa_cons pe_int pa_nil)))) pa_nil)) (pa_cons (pe_tup (pa_cons (pe_tup (pa_cons pe_non (pa_cons pe_str pa_nil))) pa_nil)) pa_nil)))))))))))
      (pss_cons (ps_expr (pe_bm PySem.F.plainAttrs_list PySem.F.slot_list_append PySem.F.type_list_append mt_append (pv 4) (pa_cons (pe_callTy call_tuple_of (by rfl) T.tuple (by decide +kernel) (pa_cons (pe_lc (own := [("k", 14)]) (g := (gName 14)) (tt := tYes) rfl sc_law.nd (pi_range1 (by rfl) T.range (pa_cons pe_int pa_nil)) (blkOk_by (own := [("k", 14)]) (N := (["script", "market", "names", "name", "panels", "panel", "amount", "cover", "good", "one", "deeds", "deed", "due", "full", "k"] : List Str)) (sc := defScope s_law) (by decide +kernel)) (fun _ _ _ _ _ => (pg_name (i := 14) sc_law.nd rfl (by first | exact Or.inl rfl | exact Or.inr rfl))) (fun _ _ _ _ _ => pts_nil) (fun _ _ _ _ _ => (pe_tup (pa_cons (pe_ix (r := rIxS) ix_str pe_str (pv 14) (fun _ _ => rfl)) (pa_cons pe_int pa_nil))))) pa_nil)) pa_nil)))
      (pss_cons (ps_set (i := 5) sc_law.nd rfl (by first | exact Or.inl rfl | exact Or.inr rfl) (pe_ix (r := rIxL K) ix_list (pv 4) (pe_op op_mod (pe_call G_law_cell (hr.mono (by first | decide | omega)) rfl D_law_cell.m D_law_cell.F.kp D_law_cell.b .nil pass0 (pa_cons (pv 0) (pa_cons pe_int pa_nil))) pe_int) (fun _ _ => rfl)))
      (pss_cons (ps_set (i := 6) sc_law.nd rfl (by first | exact Or.inl rfl | exact Or.inr rfl) (pe_ix (r := rIxL K) ix_list (pe_lst (pa_cons (pe_un un_neg pe_int) (pa_cons pe_int (pa_cons pe_non (pa_cons pe_str (pa_cons (pe_op op_pow pe_int pe_int) pa_nil)))))) (pe_op op_mod (pe_call G_law_cell (hr.mono (by first | decide | omega)) rfl D_law_cell.m D_law_cell.F.kp D_law_cell.b .nil pass0 (pa_cons (pv 0) (pa_cons pe_int pa_nil))) pe_int) (fun _ _ => rfl)))
      (pss_cons (ps_set (i := 7) sc_law.nd rfl (by first | exact Or.inl rfl | exact Or.inr rfl) (pe_ix (r := rIxL K) ix_list (pe_lst (pa_cons (pe_tup (pa_cons pe_str (pa_cons pe_int pa_nil))) (pa_cons (pe_tup (pa_cons pe_str (pa_cons pe_int pa_nil))) (pa_cons (pe_tup (pa_cons pe_str (pa_cons (pe_un un_neg pe_int) (pa_cons pe_int pa_nil)))) (pa_cons pe_non (pa_cons pe_str (pa_cons (pe_tup (pa_cons pe_str (pa_cons pe_int pa_nil))) pa_nil))))))) (pe_op op_mod (pe_call G_law_cell (hr.mono (by first | decide | omega)) rfl D_law_cell.m D_law_cell.F.kp D_law_cell.b .nil pass0 (pa_cons (pv 0) (pa_cons pe_int pa_nil))) pe_int) (fun _ _ => rfl)))
      (pss_cons (ps_set (i := 8) sc_law.nd rfl (by first | exact Or.inl rfl | exact Or.inr rfl) (pe_tup (pa_cons (pe_tup (pa_cons pe_str (pa_cons pe_int pa_nil))) pa_nil)))
      (pss_cons (ps_for PassesOwn.never rfl (pi_list (pv 2)) (pg_name (i := 9) sc_law.nd rfl (by first | exact Or.inl rfl | exact Or.inr rfl))
      (pss_one (ps_if (PW.pt (pw_or (pt_cmpR op_ne (pe_call G_law_kind (hr.mono (by first | decide | omega)) rfl D_law_kind.m D_law_kind.F.kp D_law_kind.b .nil pass0 (pa_cons (pv 1) (pa_cons (pe_tup (pa_cons pe_str (pa_cons (pv 9) pa_nil))) pa_nil))) pe_str (nomark _)) (pw_or1 (pt_cmpR op_ne (pe_call G_law_kind (hr.mono (by first | decide | omega)) rfl D_law_kind.m D_law_kind.F.kp D_law_kind.b .nil pass0 (pa_cons (pv 1) (pa_cons (pe_tup (pa_cons pe_str (pa_cons (pv 9) pa_nil))) pa_nil))) pe_str (nomark _)))))
      (pss_one (ps_ret pe_bl))
      pss_nil)))
      (pss_cons (ps_for PassesOwn.never rfl (pi_list (pv 4)) (pg_name (i := 9) sc_law.nd rfl (by first | exact Or.inl rfl | exact Or.inr rfl))
      (pss_one (ps_if (pt_cmpR op_ne (pe_call G_law_kind (hr.mono (by first | decide | omega)) rfl D_law_kind.m D_law_kind.F.kp D_law_kind.b .nil pass0 (pa_cons (pv 1) (pa_cons (pe_tup (pa_cons pe_str (pa_cons pe_str (pa_cons (pe_tup (pa_cons pe_str (pa_cons pe_int pa_nil))) (pa_cons (pv 9) pa_nil))))) pa_nil))) pe_str (nomark _))
      (pss_one (ps_ret pe_bl))
      pss_nil)))
      (pss_cons (ps_for PassesOwn.never rfl (pi_list (pe_lst (pa_cons (pe_un un_neg pe_int) (pa_cons pe_int (pa_cons pe_non (pa_cons pe_str pa_nil)))))) (pg_name (i := 9) sc_law.nd rfl (by first | exact Or.inl rfl | exact Or.inr rfl))
      (pss_one (ps_if (pt_cmpR op_ne (pe_call G_law_kind (hr.mono (by first | decide | omega)) rfl D_law_kind.m D_law_kind.F.kp D_law_kind.b .nil pass0 (pa_cons (pv 1) (pa_cons (pe_tup (pa_cons pe_str (pa_cons pe_str (pa_cons pe_str (pa_cons (pv 9) pa_nil))))) pa_nil))) pe_str (nomark _))
      (pss_one (ps_ret pe_bl))
      pss_nil)))
      (pss_cons (ps_set (i := 10) sc_law.nd rfl (by first | exact Or.inl rfl | exact Or.inr rfl) (pe_lst (pa_cons (pe_tup (pa_cons (pe_tup (pa_cons pe_str (pa_cons (pv 3) pa_nil))) (pa_cons pe_str pa_nil))) (pa_cons (pe_tup (pa_cons (pe_tup (pa_cons pe_str (pa_cons (pv 3) pa_nil))) (pa_cons pe_str pa_nil))) (pa_cons (pe_tup (pa_cons (pe_tup (pa_cons pe_str (pa_cons (pv 3) (pa_cons (pv 7) (pa_cons (pv 5) pa_nil))))) (pa_cons pe_str pa_nil))) (pa_cons (pe_tup (pa_cons (pe_tup (pa_cons pe_str (pa_cons pe_str (pa_cons (pv 7) (pa_cons (pv 5) pa_nil))))) (pa_cons pe_str pa_nil))) (pa_cons (pe_tup (pa_cons (pe_tup (pa_cons pe_str (pa_cons pe_str (pa_cons (pe_tup (pa_cons pe_str (pa_cons pe_int pa_nil))) (pa_cons (pv 5) pa_nil))))) (pa_cons pe_str pa_nil))) (pa_cons (pe_tup (pa_cons (pe_tup (pa_cons pe_str (pa_cons pe_str (pa_cons (pv 7) (pa_cons (pv 8) pa_nil))))) (pa_cons pe_str pa_nil))) (pa_cons (pe_tup (pa_cons (pe_tup (pa_cons pe_str (pa_cons (pv 3) (pa_cons pe_str (pa_cons (pv 6) pa_nil))))) (pa_cons pe_str pa_nil))) (pa_cons (pe_tup (pa_cons (pe_tup (pa_cons pe_str (pa_cons pe_str (pa_cons (pv 3) (pa_cons (pv 6) pa_nil))))) (pa_cons pe_str pa_nil))) (pa_cons (pe_tup (pa_cons (pe_tup (pa_cons pe_str (pa_cons pe_str (pa_cons pe_str (pa_cons (pv 6) pa_nil))))) (pa_cons pe_str pa_nil))) (pa_cons (pe_tup (pa_cons (pe_tup (pa_cons pe_str (pa_cons pe_str (pa_cons pe_str (pa_cons pe_int pa_nil))))) (pa_cons pe_str pa_nil))) (pa_cons (pe_tup (pa_cons (pe_tup (pa_cons pe_str (pa_cons pe_str (pa_cons (pe_tup (pa_cons pe_str (pa_cons pe_int (pa_cons pe_int pa_nil)))) (pa_cons (pv 8) pa_nil))))) (pa_cons pe_str pa_nil))) pa_nil)))))))))))))
      (pss_cons (ps_for PassesOwn.never rfl (pi_list (pv 10)) (pg_tup rfl (pgs_cons (pg_name (i := 11) sc_law.nd rfl (by first | exact Or.inl rfl | exact Or.inr rfl)) (pgs_cons (pg_name (i := 12) sc_law.nd rfl (by first | exact Or.inl rfl | exact Or.inr rfl)) pgs_nil)))
      (pss_one (ps_if (pt_not (pt_val (pe_call G_law_same (hr.mono (by first | decide | omega)) rfl D_law_same.m D_law_same.F.kp D_law_same.b .nil pass0 (pa_cons (pe_call G_law_kind (hr.mono (by first | decide | omega)) rfl D_law_kind.m D_law_kind.F.kp D_law_kind.b .nil pass0 (pa_cons (pv 1) (pa_cons (pv 11) pa_nil))) (pa_cons (pv 12) pa_nil)))))
      (pss_one (ps_ret pe_bl))
      pss_nil)))
      (pss_cons (ps_set (i := 13) sc_law.nd rfl (by first | exact Or.inl rfl | exact Or.inr rfl) (pe_make0 D_Market___init.m G_Market___init (hr.mono (by first | decide | omega)) rfl T.m_Market D_Market___init.b .nil pass0))
      (pss_cons (ps_for PassesOwn.never rfl (pi_tup (pe_tup (pa_cons pe_str (pa_cons pe_str (pa_cons pe_str (pa_cons pe_str (pa_cons pe_str (pa_cons pe_str pa_nil)))))))) (pg_name (i := 9) sc_law.nd rfl (by first | exact Or.inl rfl | exact Or.inr rfl))
      (pss_cons (ps_expr (pe_meth (pv 13) T.cl_Market D_Market_add_insurer.m G_Market_add_insurer (hr.mono (by first | decide | omega)) D_Market_add_insurer.b .nil passL (pa_cons (pv 9) pa_nil)))
      (pss_one (ps_if (pt_cmpR op_in_sign (pv 9) pe_str (by with_unfolding_all rfl))
      (pss_one (ps_expr (pe_meth (pv 13) T.cl_Market D_Market_add_event.m G_Market_add_event (hr.mono (by first | decide | omega)) D_Market_add_event.b .nil passL (pa_cons (pe_op op_add_str pe_str (pv 9)) pa_nil))))
      pss_nil))))
      (pss_cons (ps_if (PW.pt (pw_or (pt_cmpR op_ne (pe_call G_law_kind (hr.mono (by first | decide | omega)) rfl D_law_kind.m D_law_kind.F.kp D_law_kind.b .nil pass0 (pa_cons (pv 13) (pa_cons (pe_tup (pa_cons pe_str (pa_cons pe_str pa_nil))) pa_nil))) pe_str (nomark _)) (pw_or1 (pt_cmpR op_ne (pe_call G_law_kind (hr.mono (by first | decide | omega)) rfl D_law_kind.m D_law_kind.F.kp D_law_kind.b .nil pass0 (pa_cons (pv 13) (pa_cons (pe_tup (pa_cons pe_str (pa_cons pe_str pa_nil))) pa_nil))) pe_str (nomark _)))))
      (pss_one (ps_ret pe_bl))
      pss_nil)
      (pss_cons (ps_if (pt_not (pt_val (pe_call G_law_same (hr.mono (by first | decide | omega)) rfl D_law_same.m D_law_same.F.kp D_law_same.b .nil pass0 (pa_cons (pe_tup (pa_cons (pe_fld (pv 1) rfl) (pa_cons (pe_fld (pv 1) rfl) (pa_cons (pe_callB call_len_seq (by rfl) T.len PySem.boot_len (pa_cons (pe_fld (pv 1) rfl) pa_nil)) pa_nil)))) (pa_cons (pe_tup (pa_cons (pe_tup (pa_cons pe_str (pa_cons pe_str pa_nil))) (pa_cons (pe_tup (pa_cons pe_str pa_nil)) (pa_cons pe_int pa_nil)))) pa_nil)))))
      (pss_one (ps_ret pe_bl))
      pss_nil)
      (pss_one (ps_ret (pe_call G_law_same (hr.mono (by first | decide | omega)) rfl D_law_same.m D_law_same.F.kp D_law_same.b .nil pass0 (pa_cons (pe_meth (pv 1) T.cl_Market D_Market_direct.m G_Market_direct (hr.mono (by first | decide | omega)) D_Market_direct.b .nil passL (pa_cons pe_str pa_nil)) (pa_cons (pe_tup (pa_cons pe_int (pa_cons pe_int pa_nil))) pa_nil)))))))))))))))))))))))))), ?_⟩
  refine fun m dx n1 n2 n3 => ⟨m, dx, rfl, upd_same, fun H1 b1 hM1 => ⟨rfl, ?_⟩⟩
  have s01 : Same H H1 := fun b u hb => b1 b u (ne_of_none hb n1) (by rw [upd_ne (ne_of_none hb n1), upd_ne (ne_of_none hb n2)]; exact hb)
  dsimp only
  refine nx_to ?_
  generalize hw : List.set _ _ _ = w0
  have ew : w0 = [some (.ref a), some (.ref m), none, none, none, none, none, none, none, none, none, none, none, none, none] := by
    rw [← hw]
    kernel_rfl
  clear hw
  subst ew
  have add : ∀ {H1 : Hp} {M : Mkt} {z : Str} {Q : VK}, MktAt K C_Market H1 m M → IsName (.str z) → M.ins.length < 6 → z ∉ M.ins → (∀ v H2, Bar m H1 H2 → MktAt K C_Market H2 m { M with ins := M.ins ++ [z] } → Q v H2) → tMeth C_Market "add_insurer" (sp_add_insurer K C_Market C_BadName C_TooMany C_NameTaken) [] E0 (tVar 1) (tCons (tC (.str z)) tNil) [some (.ref a), some (.ref m), none, none, none, none, none, none, none, none, none, none, none, none, none] H1 Q := fun hM hn hl hz q => by
    obtain ⟨dx, ai, ae, at', ad, h0, _⟩ := id hM
    exact ⟨_, rfl, m, dx, _, rfl, h0, mf_no (by decide +kernel), m, _, _, rfl, hM, .inr ⟨_, rfl, hn, .inr (.inr ⟨hl, hz, fun H2 b2 hM2 => q _ H2 b2 hM2⟩)⟩⟩
  refine seq_to (add hM1 (isN (by decide +kernel)) (by decide) (by decide +kernel) fun _ H2 b2 hM2 => ?_)
  dsimp only
  refine seq_to (add hM2 (isN (by decide +kernel)) (by decide) (by decide +kernel) fun _ H3 b3 hM3 => ?_)
  dsimp only
  obtain ⟨dx3, ai3, ae3, at3, ad3, h03, _⟩ := id hM3
  refine ⟨_, rfl, m, dx3, _, rfl, h03, mf_no (by decide +kernel), m, _, _, rfl, hM3, .inr ⟨_, rfl, isN (by decide +kernel), .inr (.inr ⟨by decide, by decide +kernel, fun H4 b4 hM4 => ?_⟩)⟩⟩
  have hM4 : MktAt K C_Market H4 m M2 := hM4
  have s04 : Same H H4 := Bar.keep n1 ((Bar.of s01).trans (b2.trans (b3.trans b4)))
  have hS4 := s04.seq hS
  clear hM1 hM2 hM3 b1 b2 b3 b4 h03 add
  dsimp only
  refine seq_to (asg_to ((yd_lst (K := K) (H0 := H4) (yda_cons yd_str (yda_cons yd_str (yda_cons yd_str (yda_cons yd_str (yda_cons yd_str (yda_cons yd_non (yda_cons yd_int (yda_cons (yd_tup (yda_cons yd_str yda_nil) (by decide)) yda_nil)))))))) (by decide)) _ _ (Same.refl _) fun v H5 s5 p5 => ?_))
  obtain ⟨pn, xn, rfl, hp5, hx5⟩ := p5 H5 (Same.refl _)
  clear p5
  have nms : ∀ H', Same H5 H' → ∀ x ∈ xn, NoName K H' x := fun H' e x hx => by
    obtain ⟨d, hd, hD⟩ := DpAll.mem (p := noNameD) (DpAll.to e hx5) (by decide +kernel) x hx
    exact noName_of hD hd
  have hxl : xn.length = 8 := DpAll.len hx5
  refine nx_to ?_
  dsimp only
  refine seq_to (asg_to ⟨_, rfl, draw_to (P := fun x => ∀ H', Same H5 H' → NoName K H' x) 0 rfl rfl (s5.seq hS4) (SqL.of hp5) (by rw [hxl]; rfl) (by decide) (fun x hx H' e => nms H' e x hx) fun vn hvn => ?_⟩)
  refine nx_to ?_
  dsimp only
  refine seq_to (asg_to ((yda_cons (K := K) (H0 := H5) (yd_tup yda_nil (by decide)) (yda_cons (yd_lst' (yda_cons (yd_tup (yda_cons yd_str (yda_cons yd_int yda_nil)) (by decide)) yda_nil) (by decide))
    (yda_cons (yd_tup (yda_cons (yd_tup (yda_cons yd_str (yda_cons yd_int yda_nil)) (by decide)) yda_nil) (by decide)) (yda_cons (yd_tup (yda_cons (yd_tup (yda_cons yd_str (yda_cons yd_int yda_nil)) (by decide)) yda_nil) (by decide))
    (yda_cons (yd_tup (yda_cons (yd_tup (yda_cons yd_str (yda_cons yd_int yda_nil)) (by decide)) (yda_cons (yd_tup (yda_cons yd_non (yda_cons yd_int yda_nil)) (by decide)) yda_nil)) (by decide))
    (yda_cons (yd_tup (yda_cons (yd_tup (yda_cons yd_str (yda_cons yd_int yda_nil)) (by decide)) yda_nil) (by decide)) (yda_cons (yd_tup (yda_cons yd_str (yda_cons yd_int yda_nil)) (by decide))
    (yda_cons (yd_tup (yda_cons (yd_tup (yda_cons yd_str (yda_cons yd_int (yda_cons yd_int yda_nil))) (by decide)) yda_nil) (by decide)) (yda_cons (yd_tup (yda_cons (yd_tup (yda_cons yd_non (yda_cons yd_str yda_nil)) (by decide)) yda_nil) (by decide)) yda_nil))))))))) _ _ (Same.refl _) fun xp H6 s6 p6 => ⟨sz (by rw [DpAll.len (p6 H6 (Same.refl _))]; decide), fun pp npp => ?_⟩))
  have hx6 := p6 H6 (Same.refl _)
  clear p6
  have pns : ∀ H', Same H6 H' → ∀ x ∈ xp, NoPan K H' x := fun H' e x hx => by
    obtain ⟨d, hd, hD⟩ := DpAll.mem (p := noPanD) (DpAll.to e hx6) (by decide +kernel) x hx
    exact noPan_of hD hd
  have hpl : xp.length = 9 := DpAll.len hx6
  dsimp only
  refine nx_to ?_
  refine ⟨_, rfl, .inl ⟨rfl, _, SqL.of upd_same⟩, 7, rfl, by decide, by decide, fun D nD => ?_⟩
  have nDp : pp ≠ D := ne_of_none upd_same nD
  have nD6 : H6 D = none := free2 npp nD
  refine lc_range (lo := 0) (n := 7) (fun i H' => Same H6 H' ∧ H' pp = some (.lst xp) ∧ ∃ ys : List V, H' D = some (.lst ys) ∧ ys.length = i) ⟨same_put (same_new npp) nD6, by rw [upd_ne nDp, upd_same], [], upd_same, rfl⟩ ?_ ?_
  · rintro i H' hi ⟨sm, hpp, ys, hD, hl⟩
    refine ⟨rfl, ?_⟩
    obtain ⟨c, hc⟩ : ∃ c, atI ("abcdefg" : Str).cps.toList ((0 : Int) + (i : Int)) = some c := ⟨_, by
      rw [Int.zero_add]
      exact atI_nat (List.getElem?_eq_getElem (show i < ("abcdefg" : Str).cps.toList.length by
        have e : ("abcdefg" : Str).cps.toList.length = 7 := by decide +kernel
        rw [e]
        exact hi))⟩
    refine ⟨_, rfl, _, _, _, rfl, rfl, sz (by decide +kernel), hc, sz (by show 2 ≤ 100000; decide), fun t nt => ?_⟩
    have nDt : D ≠ t := ne_of_none hD nt
    refine ⟨ys, by rw [upd_ne nDt]; exact hD, szl (by omega), same_put (same_add sm nt) nD6, ?_, _, upd_same, by rw [List.length_append, hl] <;> rfl⟩
    rw [upd_ne nDp, upd_ne (ne_of_none hpp nt)]
    exact hpp
  rintro H7 ⟨s7, hpp7, ys, hD, hl⟩
  refine ⟨D, ys, rfl, .inl ⟨SqL.of hD, fun t nt => ?_⟩⟩
  have hpp8 : upd H7 t (.tup ys) pp = some (.lst xp) := by
    rw [upd_ne (ne_of_none hpp7 nt)]
    exact hpp7
  refine ⟨pp, _, _, rfl, rfl, hpp8, by rw [hpl]; exact szl (by decide), ?_⟩
  obtain ⟨H8, e8⟩ : ∃ H8, upd (upd H7 t (.tup ys)) pp (.lst (xp ++ [.ref t])) = H8 := ⟨_, rfl⟩
  have s68 : Same H6 H8 := by
    rw [← e8]
    exact same_put (same_add s7 nt) npp
  have hp8 : H8 pp = some (.lst (xp ++ [.ref t])) := by
    rw [← e8]
    exact upd_same
  have ht8 : H8 t = some (.tup ys) := by
    rw [← e8, upd_ne (ne_of_none hpp7 nt).symm, upd_same]
  rw [e8]
  clear e8 hpp8 nt hpp7 hD s7 nD6 nDp nD
  have pns : ∀ H', Same H8 H' → ∀ x ∈ xp ++ [.ref t], NoPan K H' x := fun H' e x hx => by
    rcases List.mem_append.mp hx with hx | hx
    · exact pns H' (s68.trans e) x hx
    · cases List.mem_singleton.mp hx
      exact .inr (.inl ⟨t, ys, [], rfl, SqT.of (e _ _ ht8), by omega, .inr (.inl (by omega))⟩)
  have hpl8 : (xp ++ [V.ref t]).length = 10 := by
    rw [List.length_append, hpl]
    rfl
  have s58 : Same H5 H8 := s6.trans s68
  dsimp only
  have s48 : Same H4 H8 := s5.trans s58
  refine seq_to (asg_to ⟨_, rfl, draw_to (P := fun x => ∀ H', Same H8 H' → NoPan K H' x) 1 rfl rfl (s48.seq hS4) (SqL.of hp8) (by rw [hpl8]; rfl) (by decide) (fun x hx H' e => pns H' e x hx) fun vp hvp => ?_⟩)
  refine nx_to ?_
  dsimp only
  -- an amount, a cover
  refine seq_to (asg_to (op_to ((yd_lst (K := K) (H0 := H8) (yda_cons yd_neg (yda_cons yd_int (yda_cons yd_non (yda_cons yd_str (yda_cons (yd_pow ⟨by decide, by decide, by decide⟩) yda_nil))))) (by decide)) _ _ (Same.refl _) fun v H9 s9 p9 => ?_)))
  obtain ⟨pa, xa, rfl, hp9, hx9⟩ := p9 H9 (Same.refl _)
  clear p9
  have hal : xa.length = 5 := DpAll.len hx9
  refine draw_to (P := Amt) 2 rfl rfl ((s48.trans s9).seq hS4) (SqL.of hp9) (by rw [hal]; rfl) (by decide) (fun x hx => by
    obtain ⟨d, hd, hD⟩ := DpAll.mem (p := amtD) hx9 (by decide +kernel) x hx
    exact amt_of hD hd) fun va hva => ?_
  refine nx_to ?_
  dsimp only
  refine seq_to (asg_to (op_to ((yd_lst (K := K) (H0 := H9) (yda_cons (yd_tup (yda_cons yd_str (yda_cons yd_int yda_nil)) (by decide)) (yda_cons (yd_tup (yda_cons yd_str (yda_cons yd_int yda_nil)) (by decide)) (yda_cons (yd_tup (yda_cons yd_str (yda_cons yd_neg (yda_cons yd_int yda_nil))) (by decide))
    (yda_cons yd_non (yda_cons yd_str (yda_cons (yd_tup (yda_cons yd_str (yda_cons yd_int yda_nil)) (by decide)) yda_nil)))))) (by decide)) _ _ (Same.refl _) fun v H10 s10 p10 => ?_)))
  obtain ⟨pc, xc, rfl, hp10, hx10⟩ := p10 H10 (Same.refl _)
  clear p10
  have hcl : xc.length = 6 := DpAll.len hx10
  have s410 : Same H4 H10 := (s48.trans s9).trans s10
  refine draw_to (P := fun x => ∀ H', Same H10 H' → NoCov K H' x) 3 rfl rfl (s410.seq hS4) (SqL.of hp10) (by rw [hcl]; rfl) (by decide) (fun x hx H' e => by
    obtain ⟨d, hd, hD⟩ := DpAll.mem (p := noCovD) (DpAll.to e hx10) (by decide +kernel) x hx
    exact noCov_of hD hd) fun vc hvc => ?_
  refine nx_to ?_
  dsimp only
  refine seq_to (asg_to ((yd_tup (K := K) (H0 := H10) (yda_cons (yd_tup (yda_cons yd_str (yda_cons yd_int yda_nil)) (by decide)) yda_nil) (by decide)) _ _ (Same.refl _) fun v H11 s11 p11 => ?_))
  obtain ⟨pg, hgood⟩ : ∃ pg : Addr, v = .ref pg ∧ ∀ H', Same H11 H' → PanAt K H' (.ref pg) [(some "a", 1)] := by
    obtain ⟨x, hx⟩ : ∃ x, x = v := ⟨_, rfl⟩
    have h0 := p11 H11 (Same.refl _)
    cases h0 with
    | tup g1 g2 =>
      refine ⟨_, rfl, fun H' e => ?_⟩
      obtain ⟨h1, h2, h3⟩ := ents_of (DpAll.to e g2) (by decide +kernel)
      exact ⟨_, _, rfl, same_sqt e g1, h1, h2⟩
  obtain ⟨rfl, hgood⟩ := hgood
  clear p11
  refine nx_to ?_
  dsimp only
  generalize hw : List.set _ _ _ = w0
  have ew : w0 = [some (.ref a), some (.ref m), some (.ref pn), some vn, some (.ref pp), some vp, some va, some vc, some (.ref pg), none, none, none, none, none, none] := by
    rw [← hw]
    kernel_rfl
  clear hw
  subst ew
  have s411 := s410.trans s11
  have hvn' : ∀ H', Same H11 H' → NoName K H' vn := fun H' e => hvn H' ((((s58.trans s9).trans s10).trans s11).trans e)
  have hvp' : ∀ H', Same H11 H' → NoPan K H' vp := fun H' e => hvp H' (((s9.trans s10).trans s11).trans e)
  have hvc' : ∀ H', Same H11 H' → NoCov K H' vc := fun H' e => hvc H' (s11.trans e)
  have nms' : ∀ H', Same H11 H' → ∀ x ∈ xn, NoName K H' x := fun H' e => nms H' ((((s58.trans s9).trans s10).trans s11).trans e)
  have pns' : ∀ H', Same H11 H' → ∀ x ∈ xp ++ [.ref t], NoPan K H' x := fun H' e => pns H' (((s9.trans s10).trans s11).trans e)
  have hpn : H11 pn = some (.lst xn) := (((s58.trans s9).trans s10).trans s11) _ _ hp5
  have hpp : H11 pp = some (.lst (xp ++ [.ref t])) := ((s9.trans s10).trans s11) _ _ hp8
  have hM : MktAt K C_Market H11 m M2 := MktAt.same s411 hM4
  clear hvn hvp hvc nms pns hp5 hp8 s58 s9 s10 s11 s410 s48 s5 s6 s68 ht8 hp9 hp10 hx5 hx6 hx9 hx10 hM4 hS4
  -- the names
  refine seq_to ⟨_, rfl, pn, rfl, ⟨_, SqL.of hpn⟩, for_list (K := K) (a := pn) (xs := xn) (fun i σ H' => ∃ v9 : Option V, σ = [some (.ref a), some (.ref m), some (.ref pn), some vn, some (.ref pp), some vp, some va, some vc, some (.ref pg), v9, none, none, none, none, none] ∧ Same H11 H') ⟨none, rfl, Same.refl _⟩ (fun i σ H' _ ⟨_, _, e⟩ => SqL.of (e _ _ hpn)) ?_ ?_⟩
  · rintro i x σ H' hi ⟨v9, rfl, sm⟩
    have hx := List.mem_of_getElem? hi
    refine ⟨_, rfl, _, rfl, sz (by show 2 ≤ 100000; decide), fun t1 nt1 => ?_⟩
    have sm1 := same_add (o := .tup [.str "insurer", x]) sm nt1
    refine ⟨m, t1, M2, _, rfl, MktAt.same sm1 hM, SqT.of upd_same, .inl ⟨x, rfl, nms' _ sm1 x hx, fun H2 s2 => ?_⟩⟩
    refine ⟨rfl, _, rfl, ?_⟩
    rw [yes_v]
    refine iteF ⟨_, rfl, _, rfl, sz (by show 2 ≤ 100000; decide), fun t2 nt2 => ?_⟩
    have sm2 := same_add (o := .tup [.str "event", x]) (sm1.trans s2) nt2
    refine ⟨m, t2, M2, _, rfl, MktAt.same sm2 hM, SqT.of upd_same, kind_to (.inr (.inl ⟨x, rfl, nms' _ sm2 x hx, rfl⟩)) fun H3 s3 => ?_⟩
    refine ⟨rfl, _, rfl, ?_⟩
    rw [yes_v]
    exact iteF ⟨_, rfl, sm2.trans s3⟩
  rintro σ H12 ⟨v9, rfl, s12⟩
  dsimp only
  -- the panels
  refine seq_to ⟨_, rfl, pp, rfl, ⟨_, SqL.of (s12 _ _ hpp)⟩, for_list (K := K) (a := pp) (xs := xp ++ [.ref t]) (fun i σ H' => ∃ v9 : Option V, σ = [some (.ref a), some (.ref m), some (.ref pn), some vn, some (.ref pp), some vp, some va, some vc, some (.ref pg), v9, none, none, none, none, none] ∧ Same H11 H') ⟨v9, rfl, s12⟩ (fun i σ H' _ ⟨_, _, e⟩ => SqL.of (e _ _ hpp)) ?_ ?_⟩
  · rintro i x σ H' hi ⟨v9, rfl, sm⟩
    have hx := List.mem_of_getElem? hi
    refine ⟨_, rfl, sz (by show 2 ≤ 100000; decide), fun t1 nt1 => ⟨_, rfl, sz (by show 4 ≤ 100000; decide), fun t2 nt2 => ?_⟩⟩
    have sm1 := same_add (o := .tup [.str "share", .int 1]) sm nt1
    have sm2 := same_add (o := .tup [.str "treaty", .str "a", .ref t1, x]) sm1 nt2
    have h1 : (upd (upd H' t1 (.tup [.str "share", .int 1])) t2 (.tup [.str "treaty", .str "a", .ref t1, x])) t1 = some (.tup [.str "share", .int 1]) := (same_new nt2) _ _ upd_same
    refine ⟨m, t2, M2, _, rfl, MktAt.same sm2 hM, SqT.of upd_same, kind_to (.inr (.inr (.inl ⟨_, _, x, rfl, .inr (.inr ⟨isN (by decide +kernel), ⟨t1, .share 1, rfl, SqT.of h1, (⟨by decide, by decide⟩ : (1 : Int) ≤ 1 ∧ (1 : Int) ≤ 1000)⟩, pns' _ sm2 x hx, rfl⟩)⟩))) fun H2 s2 => ?_⟩
    refine ⟨rfl, _, rfl, ?_⟩
    rw [yes_v]
    exact iteF ⟨_, rfl, sm2.trans s2⟩
  rintro σ H13 ⟨v9, rfl, s13⟩
  dsimp only
  -- the amounts
  refine seq_to (for_lit ((yd_lst (K := K) (H0 := H13) (yda_cons yd_neg (yda_cons yd_int (yda_cons yd_non (yda_cons yd_str yda_nil)))) (by decide)) _ _ (Same.refl _) fun v H14 s14 p14 => ?_))
  obtain ⟨pl, xl, rfl, hpl14, hxl14⟩ := p14 H14 (Same.refl _)
  clear p14
  refine ⟨pl, rfl, ⟨_, SqL.of hpl14⟩, for_list (K := K) (a := pl) (xs := xl) (fun i σ H' => ∃ v9 : Option V, σ = [some (.ref a), some (.ref m), some (.ref pn), some vn, some (.ref pp), some vp, some va, some vc, some (.ref pg), v9, none, none, none, none, none] ∧ Same H14 H') ⟨v9, rfl, Same.refl _⟩ (fun i σ H' _ ⟨_, _, e⟩ => SqL.of (e _ _ hpl14)) ?_ ?_⟩
  · rintro i x σ H' hi ⟨v9, rfl, sm⟩
    obtain ⟨d, hd, hD⟩ := DpAll.mem (p := amtD) hxl14 (by decide +kernel) x (List.mem_of_getElem? hi)
    have hx := amt_of hD hd
    refine ⟨_, rfl, _, rfl, sz (by show 4 ≤ 100000; decide), fun t2 nt2 => ?_⟩
    have sm2 := same_add (o := .tup [.str "loss", .str "e", .str "a", x]) ((s13.trans s14).trans sm) nt2
    refine ⟨m, t2, M2, _, rfl, MktAt.same sm2 hM, SqT.of upd_same, kind_to (.inr (.inr (.inr ⟨_, _, x, rfl, .inr (.inr ⟨isN (by decide +kernel), isN (by decide +kernel), hx.1, hx.2, rfl⟩)⟩))) fun H2 s2 => ?_⟩
    refine ⟨rfl, _, rfl, ?_⟩
    rw [yes_v]
    exact iteF ⟨_, rfl, (same_add sm nt2).trans s2⟩
  rintro σ H15 ⟨v9, rfl, s15⟩
  dsimp only
  have s115 := ((s13.trans s14).trans s15)
  have hvn2 : ∀ H', Same H15 H' → NoName K H' vn := fun H' e => hvn' H' (s115.trans e)
  have hvp2 : ∀ H', Same H15 H' → NoPan K H' vp := fun H' e => hvp' H' (s115.trans e)
  have hvc2 : ∀ H', Same H15 H' → NoCov K H' vc := fun H' e => hvc' H' (s115.trans e)
  have l2 : ∀ {R : Hp → List V → Prop} {H : Hp} {vs : List V} {r : Str}, KindOf K H vs r → vs.length ≤ 100000 := fun h => h.len
  -- the deeds
  refine seq_to (asg_to ((yl_lst (H0 := H15)
    (yp_cons (yl_deed (R := fun H vs => KindOf K H vs "name") ((ya_2 yl_c (yl_var (i := 3) (P := fun H x => NoName K H x) rfl hvn2)).imp fun H vs z => by
      obtain ⟨x, y, rfl, rfl, h⟩ := z
      exact .inl ⟨y, rfl, h, rfl⟩) fun _ _ h => h.len)
    (yp_cons (yl_deed (R := fun H vs => KindOf K H vs "name") ((ya_2 yl_c (yl_var (i := 3) (P := fun H x => NoName K H x) rfl hvn2)).imp fun H vs z => by
      obtain ⟨x, y, rfl, rfl, h⟩ := z
      exact .inr (.inl ⟨y, rfl, h, rfl⟩)) fun _ _ h => h.len)
    (yp_cons (yl_deed (R := fun H vs => KindOf K H vs "name") ((ya_4 yl_c (yl_var (i := 3) (P := fun H x => NoName K H x) rfl hvn2) (yl_var (i := 7) (P := fun H x => NoCov K H x) rfl hvc2) (yl_var (i := 5) (P := fun H x => NoPan K H x) rfl hvp2)).imp fun H vs z => by
      obtain ⟨x, y, z, w, rfl, rfl, h1, h2, h3⟩ := z
      exact .inr (.inr (.inl ⟨y, z, w, rfl, .inl ⟨h1, rfl⟩⟩))) fun _ _ h => h.len)
    (yp_cons (yl_deed (R := fun H vs => KindOf K H vs "cover") ((ya_4 yl_c yl_c (yl_var (i := 7) (P := fun H x => NoCov K H x) rfl hvc2) (yl_var (i := 5) (P := fun H x => NoPan K H x) rfl hvp2)).imp fun H vs z => by
      obtain ⟨x, y, z, w, rfl, rfl, rfl, h2, h3⟩ := z
      exact .inr (.inr (.inl ⟨_, z, w, rfl, .inr (.inl ⟨isN (by decide +kernel), h2, rfl⟩)⟩))) fun _ _ h => h.len)
    (yp_cons (yl_deed (R := fun H vs => KindOf K H vs "panel") ((ya_4 yl_c yl_c (yd_tup (K := K) (yda_cons yd_str (yda_cons yd_int yda_nil)) (by decide)) (yl_var (i := 5) (P := fun H x => NoPan K H x) rfl hvp2)).imp fun H vs z => by
      obtain ⟨x, y, z, w, rfl, rfl, rfl, h2, h3⟩ := z
      obtain ⟨c, rfl, hc⟩ := isC (c := .share 1) h2 (by decide) rfl
      exact .inr (.inr (.inl ⟨_, _, w, rfl, .inr (.inr ⟨isN (by decide +kernel), ⟨c, .share 1, rfl, hc, (⟨by decide, by decide⟩ : (1 : Int) ≤ 1 ∧ (1 : Int) ≤ 1000)⟩, h3, rfl⟩)⟩))) fun _ _ h => h.len)
    (yp_cons (yl_deed (R := fun H vs => KindOf K H vs "cover") ((ya_4 yl_c yl_c (yl_var (i := 7) (P := fun H x => NoCov K H x) rfl hvc2) (yl_var (i := 8) (P := fun _ _ => True) rfl fun _ _ => True.intro)).imp fun H vs z => by
      obtain ⟨x, y, z, w, rfl, rfl, rfl, h2, _⟩ := z
      exact .inr (.inr (.inl ⟨_, z, w, rfl, .inr (.inl ⟨isN (by decide +kernel), h2, rfl⟩)⟩))) fun _ _ h => h.len)
    (yp_cons (yl_deed (R := fun H vs => KindOf K H vs "name") ((ya_4 yl_c (yl_var (i := 3) (P := fun H x => NoName K H x) rfl hvn2) yl_c (yl_var (i := 6) (P := fun _ _ => True) rfl fun _ _ => True.intro)).imp fun H vs z => by
      obtain ⟨x, y, z, w, rfl, rfl, h1, rfl, _⟩ := z
      exact .inr (.inr (.inr ⟨y, _, w, rfl, .inl ⟨h1, rfl⟩⟩))) fun _ _ h => h.len)
    (yp_cons (yl_deed (R := fun H vs => KindOf K H vs "name") ((ya_4 yl_c yl_c (yl_var (i := 3) (P := fun H x => NoName K H x) rfl hvn2) (yl_var (i := 6) (P := fun _ _ => True) rfl fun _ _ => True.intro)).imp fun H vs z => by
      obtain ⟨x, y, z, w, rfl, rfl, rfl, h1, _⟩ := z
      exact .inr (.inr (.inr ⟨_, z, w, rfl, .inr (.inl ⟨isN (by decide +kernel), h1, rfl⟩)⟩))) fun _ _ h => h.len)
    (yp_cons (yl_deed (R := fun H vs => KindOf K H vs "amount") ((ya_4 yl_c yl_c yl_c (yl_var (i := 6) (P := fun _ x => Amt x) rfl fun _ _ => hva)).imp fun H vs z => by
      obtain ⟨x, y, z, w, rfl, rfl, rfl, rfl, h⟩ := z
      exact .inr (.inr (.inr ⟨_, _, w, rfl, .inr (.inr ⟨isN (by decide +kernel), isN (by decide +kernel), h.1, h.2, rfl⟩)⟩))) fun _ _ h => h.len)
    (yp_cons (yl_deed (R := fun H vs => vs = [.str "loss", .str "e", .str "a", .int 100000]) ((ya_4 yl_c yl_c yl_c yl_c).imp fun H vs z => by
      obtain ⟨x, y, z, w, rfl, rfl, rfl, rfl, rfl⟩ := z
      rfl) fun _ _ h => by
        rw [h]
        decide)
    (yp_cons (yl_deed (R := fun H vs => ∃ c, vs = [.str "treaty", .str "abcdefghijkl", .ref c, .ref pg] ∧ SqT K H c (cvV (.layer 100000 100000))) ((ya_4 yl_c yl_c (yd_tup (K := K) (yda_cons yd_str (yda_cons yd_int (yda_cons yd_int yda_nil))) (by decide)) (yl_var (i := 8) (P := fun _ x => x = .ref pg) rfl fun _ _ => rfl)).imp fun H vs z => by
      obtain ⟨x, y, z, w, rfl, rfl, rfl, h2, rfl⟩ := z
      obtain ⟨c, rfl, hc⟩ := isC (c := .layer 100000 100000) h2 (by decide) rfl
      exact ⟨c, rfl, hc⟩) fun _ _ h => by
        obtain ⟨c, h, _⟩ := h
        rw [h]
        exact (show 4 ≤ 100000 by decide)) yp_nil))))))))))) fun H vs h => by
          rw [AllP.len h]
          exact (show 11 ≤ 100000 by decide)) _ _ (Same.refl _) fun v H16 s16 p16 => ?_))
  obtain ⟨pd, xd, rfl, hpd, hxd⟩ := p16 H16 (Same.refl _)
  refine nx_to ?_
  dsimp only
  have hxd' : ∀ H2, Same H16 H2 → AllP (deedPs K pg) H2 xd := fun H2 e => by
    obtain ⟨p, xs, e1, e2, e3⟩ := p16 H2 e
    cases e1
    have e4 := e _ _ hpd
    rw [e4] at e2
    cases e2
    exact e3
  have hdl : xd.length = 11 := AllP.len (hxd' H16 (Same.refl _))
  have hM16 : MktAt K C_Market H16 m M2 := MktAt.same (s115.trans s16) hM
  have hg16 := hgood H16 (s115.trans s16)
  clear p16 hxd hvn2 hvp2 hvc2 hvn' hvp' hvc' nms' pns' l2
  generalize hw : List.set _ _ _ = w0
  have ew : w0 = [some (.ref a), some (.ref m), some (.ref pn), some vn, some (.ref pp), some vp, some va, some vc, some (.ref pg), v9, some (.ref pd), none, none, none, none] := by
    rw [← hw]
    kernel_rfl
  clear hw
  subst ew
  obtain ⟨dx6, ai6, ae6, at6, ad6, hm6, _⟩ := id hM16
  refine seq_to ⟨_, rfl, pd, rfl, ⟨_, SqL.of hpd⟩, for_list (K := K) (a := pd) (xs := xd) (fun i σ H' => ∃ v11 v12 : Option V, σ = [some (.ref a), some (.ref m), some (.ref pn), some vn, some (.ref pp), some vp, some va, some vc, some (.ref pg), v9, some (.ref pd), v11, v12, none, none] ∧ Bar m H16 H' ∧ MktAt K C_Market H' m (Mi i) ∧ (i ≤ 9 → Same H16 H')) ⟨none, none, rfl, Bar.refl _, hM16, fun _ => Same.refl _⟩
    (fun i σ H' _ ⟨_, _, _, b, _, _⟩ => SqL.of (b _ _ (ne_of hpd hm6 (by intro z; cases z)) hpd)) ?_ ?_⟩
  · rintro i x σ H' hi ⟨v11, v12, rfl, hb, hMi, hs⟩
    have hil : i < 11 := by
      have := (List.getElem?_eq_some_iff.mp hi).1
      omega
    by_cases h8 : i ≤ 8
    · have sm := hs (by omega)
      obtain ⟨P, hPi, hP⟩ := AllP.at (hxd' H' sm) hi
      obtain ⟨r, rfl⟩ := deed_lo i h8 hPi
      obtain ⟨p, d, xs, rfl, hp, hd, hk⟩ := hP
      refine ⟨p, _, rfl, SqT.of hp, rfl, _, _, rfl, _, _, rfl, rfl, ?_⟩
      refine ⟨_, rfl, _, rfl, m, d, _, xs, rfl, hMi, SqT.of hd, kind_to hk fun H2 s2 => ?_⟩
      refine ⟨_, rfl, _, _, .str r, rfl, rfl, .str r, .str r, _, rfl, ?_⟩
      refine iteF ⟨_, _, rfl, Bar.trans hb (Bar.of s2), ?_, fun _ => sm.trans s2⟩
      rw [mi_lo i (by omega)] at hMi
      rw [mi_lo (i + 1) (by omega)]
      exact MktAt.same s2 hMi
    · by_cases h9 : i = 9
      · subst h9
        have sm := hs (Nat.le_refl _)
        obtain ⟨P, hPi, hP⟩ := AllP.at (hxd' H' sm) hi
        have eP : P = PairDeed "done" (fun _ vs => vs = [.str "loss", .str "e", .str "a", .int 100000]) := (Option.some.inj hPi).symm
        subst eP
        obtain ⟨p, d, xs, rfl, hp, hd, rfl⟩ := hP
        have hMi : MktAt K C_Market H' m M2 := hMi
        refine ⟨p, _, rfl, SqT.of hp, rfl, _, _, rfl, _, _, rfl, rfl, ?_⟩
        refine ⟨_, rfl, _, rfl, m, d, M2, _, rfl, hMi, SqT.of hd, .inr (.inr (.inr ⟨_, _, _, rfl, .inr (.inr (.inr ⟨"e", "a", 100000, rfl, isN (by decide +kernel), rfl, isN (by decide +kernel), rfl, by decide, by decide +kernel, by decide +kernel, rfl, ok3, by decide, fate3, fun H2 b2 hM2 => ?_⟩))⟩))⟩
        exact ⟨_, rfl, _, _, .str "done", rfl, rfl, .str _, .str _, _, rfl, iteF ⟨_, _, rfl, hb.trans b2, hM2, fun h => absurd h (by decide)⟩⟩
      · have h10 : i = 10 := by omega
        subst h10
        obtain ⟨P, hPi, hP⟩ := AllP.at (hxd' H16 (Same.refl _)) hi
        have eP : P = PairDeed "done" (fun H vs => ∃ c, vs = [.str "treaty", .str "abcdefghijkl", .ref c, .ref pg] ∧ SqT K H c (cvV (.layer 100000 100000))) := (Option.some.inj hPi).symm
        subst eP
        obtain ⟨p, d, xs, rfl, hp, hd, c, rfl, hc⟩ := hP
        have hMi : MktAt K C_Market H' m M3 := hMi
        have hp2 := hb p _ (ne_of hp hm6 (by intro z; cases z)) hp
        have hd2 := hb d _ (ne_of hd hm6 (by intro z; cases z)) hd
        refine ⟨p, _, rfl, SqT.of hp2, rfl, _, _, rfl, _, _, rfl, rfl, ?_⟩
        refine ⟨_, rfl, _, rfl, m, d, M3, _, rfl, hMi, SqT.of hd2, .inr (.inr (.inl ⟨_, _, _, rfl, .inr (.inr (.inr ⟨"abcdefghijkl", "a", c, .layer 100000 100000, 1, rfl, isN (by decide +kernel), rfl, sqt_bar hb hm6 hc, (⟨by decide, by decide, by decide, by decide⟩ : (0 : Int) ≤ 100000 ∧ (100000 : Int) ≤ 100000 ∧ (1 : Int) ≤ 100000 ∧ (100000 : Int) ≤ 100000), pan_bar hb hm6 hg16, pan1, by decide +kernel, by decide +kernel, by decide +kernel, by decide, ok4, by decide, fate4, fun H2 b2 hM2 => ?_⟩))⟩))⟩
        exact ⟨_, rfl, _, _, .str "done", rfl, rfl, .str _, .str _, _, rfl, iteF ⟨_, _, rfl, hb.trans b2, hM2, fun h => absurd h (by decide)⟩⟩
  rw [hdl]
  rintro σ H17 ⟨v11, v12, rfl, b17, hM17, _⟩
  have hM17 : MktAt K C_Market H17 m M4 := hM17
  clear hxd' hm6 hM16 hg16 b17 hdl hpd hpl14 hxl14 s16 hgood hpn hpp hM s115 s13 s14 s15 s12 hva
  dsimp only
  -- a full market
  refine seq_to fun u ux n1 n2 n3 => ⟨u, ux, rfl, upd_same, fun H18 b18 hM18 => ⟨rfl, ?_⟩⟩
  have s18 : Same H17 H18 := fun b o hb => b18 b o (ne_of_none hb n1) (by rw [upd_ne (ne_of_none hb n1), upd_ne (ne_of_none hb n2)]; exact hb)
  clear b18
  refine nx_to ?_
  dsimp only
  generalize hw : List.set _ _ _ = w0
  have ew : w0 = [some (.ref a), some (.ref m), some (.ref pn), some vn, some (.ref pp), some vp, some va, some vc, some (.ref pg), v9, some (.ref pd), v11, v12, some (.ref u), none] := by
    rw [← hw]
    kernel_rfl
  clear hw
  subst ew
  refine seq_to ⟨sz (by show 6 ≤ 100000; decide), fun pt npt => ⟨pt, rfl, ⟨_, SqT.of upd_same⟩, for_tup (K := K) (a := pt) (xs := fl.map V.str) (fun i σ H' => ∃ v9 : Option V, σ = [some (.ref a), some (.ref m), some (.ref pn), some vn, some (.ref pp), some vp, some va, some vc, some (.ref pg), v9, some (.ref pd), v11, v12, some (.ref u), none] ∧ Same H17 H' ∧ H' pt = some (.tup (fl.map V.str)) ∧ MktAt K C_Market H' u (FM i))
    ⟨v9, rfl, same_add s18 npt, upd_same, MktAt.same (same_new npt) hM18⟩ (fun i σ H' _ ⟨_, _, _, h, _⟩ => SqT.of h) ?_ ?_⟩⟩
  · rintro i x σ H' hi ⟨v9, rfl, sm, hpt, hMu⟩
    obtain ⟨z, rfl, hz⟩ := of_at_str hi
    obtain ⟨f1, f2, f3, f4, c, ez, f5⟩ := fl_facts i z hz
    obtain ⟨dxu, aiu, aeu, atu, adu, hu, _⟩ := id hMu
    refine ⟨_, rfl, u, dxu, _, rfl, hu, mf_no (by decide +kernel), _, rfl, u, _, _, rfl, hMu, .inr ⟨z, rfl, isN f1, .inr (.inr ⟨f2, f3, fun H2 b2 hM2 => ?_⟩)⟩⟩
    have sm2 : Same H17 H2 := Bar.keep n1 ((Bar.of sm).trans b2)
    have hpt2 := b2 pt _ (ne_of hpt hu (by intro z; cases z)) hpt
    have hM2 : MktAt K C_Market H2 u ⟨fl.take (i + 1), xl3.take i, [], []⟩ := by
      rw [← f4]
      exact hM2
    refine ⟨_, rfl, c, "abc", by rw [ez], rfl, _, rfl, ?_⟩
    rcases f5 with ⟨e1, g1, g2, g3, g4, g5⟩ | ⟨e1, g5⟩
    · rw [e1]
      obtain ⟨dxu2, aiu2, aeu2, atu2, adu2, hu2, _⟩ := id hM2
      refine iteT ⟨_, rfl, u, dxu2, _, rfl, hu2, mf_no (by decide +kernel), _, rfl, _, _, rfl, rfl, sz g1, u, _, _, rfl, hM2, .inr ⟨_, rfl, isN g2, .inr (.inr ⟨g3, g4, fun H3 b3 hM3 => ?_⟩)⟩⟩
      refine ⟨_, rfl, Bar.keep n1 ((Bar.of sm2).trans b3), b3 pt _ (ne_of hpt2 hu2 (by intro z; cases z)) hpt2, ?_⟩
      have hM3 : MktAt K C_Market H3 u ⟨fl.take (i + 1), xl3.take i ++ ["x" ++ z], [], []⟩ := hM3
      rw [g5] at hM3
      exact hM3
    · rw [e1]
      refine iteF ⟨_, rfl, sm2, hpt2, ?_⟩
      rw [g5] at hM2
      exact hM2
  rintro σ H19 ⟨v9, rfl, s19, _, hMu⟩
  dsimp only
  have nn : ∀ {z : Str} {H : Hp}, (decide (z.length ≤ 1000) && !isNm z) = true → NoName K H (.str z) := fun {z H} h => noName_of (d := .str z) (.str z) h
  refine seq_to ⟨_, rfl, sz (by show 2 ≤ 100000; decide), fun t1 nt1 => ⟨u, t1, _, _, rfl, MktAt.same (same_new nt1) hMu, SqT.of upd_same, kind_to (.inl ⟨_, rfl, nn (by decide +kernel), rfl⟩) fun H20 s20 => ?_⟩⟩
  have s1920 := (same_new (o := .tup [.str "insurer", .str ""]) nt1).trans s20
  refine ⟨rfl, _, rfl, ?_⟩
  rw [yes_v]
  refine iteF ⟨_, rfl, sz (by show 2 ≤ 100000; decide), fun t2 nt2 => ⟨u, t2, _, _, rfl, MktAt.same (same_add s1920 nt2) hMu, SqT.of upd_same, kind_to (.inr (.inl ⟨_, rfl, nn (by decide +kernel), rfl⟩)) fun H21 s21 => ?_⟩⟩
  have s1721 := s19.trans ((same_add (o := .tup [.str "event", .str "A"]) s1920 nt2).trans s21)
  refine ⟨rfl, _, rfl, ?_⟩
  rw [yes_v]
  refine iteF ?_
  dsimp only
  have hM21 := MktAt.same s1721 hM17
  obtain ⟨dx7, ai7, ae7, at7, ad7, h7, h71, h72, ⟨xs7, h73, h74⟩, h75⟩ := id hM21
  refine ⟨_, rfl, m, C_Market, dx7, _, _, rfl, h7, T.cl_Market, T.no_Market_insurers, mf_i, _, rfl, m, C_Market, dx7, _, _, rfl, h7, T.cl_Market, T.no_Market_events, mf_e, _, rfl, m, C_Market, dx7, _, _, rfl, h7, T.cl_Market, T.no_Market_treaties, mf_t, at7, xs7, rfl, .inr h73, sz (by show 3 ≤ 100000; decide), fun t3 nt3 => ?_⟩
  dsimp only
  refine (yda_cons (K := K) (yd_tup (yda_cons (yd_tup (yda_cons yd_str (yda_cons yd_str yda_nil)) (by decide)) (yda_cons (yd_tup (yda_cons yd_str yda_nil) (by decide)) (yda_cons yd_int yda_nil))) (by decide)) yda_nil) _ _ (Same.refl _) fun vs H22 s22 q22 => ?_
  have p22 := q22 H22 (Same.refl _)
  clear q22
  have s3 : Same H21 H22 := (same_new nt3).trans s22
  have h3 : H22 t3 = some (.tup [.ref ai7, .ref ae7, .int ((xs7.length : Nat) : Int)]) := s22 _ _ upd_same
  have e7 : xs7.length = 1 := h74.1
  rw [e7] at h3
  cases p22 with
  | cons p22 pz =>
    cases pz
    refine ⟨_, _, .tuple [.tuple [.str "a", .str "abcdefghijkl"], .tuple [.str "e"], .int 1], rfl, by decide +kernel, .tup (SqT.of h3) (.cons (.tup (same_sqt s3 h71) (dp_strs ["a", "abcdefghijkl"])) (.cons (.tup (same_sqt s3 h72) (dp_strs ["e"])) (.cons (.int 1) .nil))), p22, _, rfl, iteF ?_⟩
    refine ⟨_, rfl, m, dx7, _, rfl, s3 _ _ h7, mf_no (by decide +kernel), m, M4, "e", rfl, MktAt.same s3 hM21, by decide, .inl ⟨by decide +kernel, fun p H23 s23 np hp => ?_⟩⟩
    dsimp only
    refine (yda_cons (K := K) (yd_tup (yda_cons yd_int (yda_cons yd_int yda_nil)) (by decide)) yda_nil) _ _ (Same.refl _) fun vs H24 s24 q24 => ?_
    have p24 := q24 H24 (Same.refl _)
    clear q24
    cases p24 with
    | cons p24 pz =>
      cases pz
      have ed : directs M4.ins M4.los "e" = [100000, 0] := by decide +kernel
      rw [ed] at hp
      exact ⟨_, _, .tuple [.int 100000, .int 0], rfl, by decide +kernel, .tup (SqT.of (s24 _ _ hp)) (DpAll.ints [100000, 0]), p24, q _⟩

theorem same_all {f : Addr} {fd : FuncData} (D_law_same : Dfn K mg "_law_same" s_law_same ["actual", "expected"] f fd) (T : Tx K mg C_BadName C_BadCover C_BadPanel C_BadAmount C_NameTaken C_NoSuchName C_Twice C_OwnPanel C_TooMany C_NoEnd C_Market) {f_law_is_integer : Addr} {fd_law_is_integer : FuncData} (D_law_is_integer : Dfn K mg "_law_is_integer" s_law_is_integer ["actual"] f_law_is_integer fd_law_is_integer)
    (G_law_is_integer : FnOk P w K mg base CX0 1 f_law_is_integer fd_law_is_integer ["actual"] (sp_law_is_integer K)) : ∀ n : Nat, FnOk P w K mg base CX0 (n + 1) f fd ["actual", "expected"] (sp_law_same K n)
  | 0 => by
    have no : ∀ vs H Q E, ¬ sp_law_same K 0 vs H Q E := fun vs H Q E h => by
      obtain ⟨x, y, d, _, h1, _⟩ := h
      simp [dOk] at h1
    exact ⟨fun vs H Q E h => absurd h (no vs H Q E), fun A outer s H args us vs Q E _ _ _ _ h => absurd h (no vs H Q E)⟩
  | n + 1 => ok_law_same D_law_same T D_law_is_integer G_law_is_integer (same_all D_law_same T D_law_is_integer G_law_is_integer n)
end
end Sd
/-! ### the end -/
namespace Sd
open PySem PySem.Spec PyProof.Rows L2
theorem all_mk {l : PySem.W.OpenLaw} {w : World} {K : PySem.W.Frag} {h : Heap} {mg : Str → Option Value} {fa f1 f2 f3 f4 f5 f6 f7 f8 f9 f10 f11 f12 f13 f14 f15 f16 f17 f18 f19 f20 f21 f22 f23 f24 f25 f26 f27 f28 f29 f30 f31 f32 f33 f34 f35 C_BadName C_BadCover C_BadPanel C_BadAmount C_NameTaken C_NoSuchName C_Twice C_OwnPanel C_TooMany C_NoEnd C_Market : Addr} (X : K.In h) (G : h.Ns mainGlobals mg) (hfa : mg "law" = some (.ref fa))
    {od1 an1 : Option Addr} {sl1 : Array (Option Value)} {oc1 kV1 dc1 pm1 cd1 ct1 : Value}
    {od2 an2 : Option Addr} {sl2 : Array (Option Value)} {oc2 kV2 dc2 pm2 cd2 ct2 : Value}
    {od3 an3 : Option Addr} {sl3 : Array (Option Value)} {oc3 kV3 dc3 pm3 cd3 ct3 : Value}
    {od4 an4 : Option Addr} {sl4 : Array (Option Value)} {oc4 kV4 dc4 pm4 cd4 ct4 : Value}
    {od5 an5 : Option Addr} {sl5 : Array (Option Value)} {oc5 kV5 dc5 pm5 cd5 ct5 : Value}
    {od6 an6 : Option Addr} {sl6 : Array (Option Value)} {oc6 kV6 dc6 pm6 cd6 ct6 : Value}
    {od7 an7 : Option Addr} {sl7 : Array (Option Value)} {oc7 kV7 dc7 pm7 cd7 ct7 : Value}
    {od8 an8 : Option Addr} {sl8 : Array (Option Value)} {oc8 kV8 dc8 pm8 cd8 ct8 : Value}
    {od9 an9 : Option Addr} {sl9 : Array (Option Value)} {oc9 kV9 dc9 pm9 cd9 ct9 : Value}
    {od10 an10 : Option Addr} {sl10 : Array (Option Value)} {oc10 kV10 dc10 pm10 cd10 ct10 : Value}
    {od11 an11 : Option Addr} {sl11 : Array (Option Value)} {oc11 kV11 dc11 pm11 cd11 ct11 : Value}
    {od12 an12 : Option Addr} {sl12 : Array (Option Value)} {oc12 kV12 dc12 pm12 cd12 ct12 : Value}
    {od13 an13 : Option Addr} {sl13 : Array (Option Value)} {oc13 kV13 dc13 pm13 cd13 ct13 : Value}
    {od14 an14 : Option Addr} {sl14 : Array (Option Value)} {oc14 kV14 dc14 pm14 cd14 ct14 : Value}
    {od15 an15 : Option Addr} {sl15 : Array (Option Value)} {oc15 kV15 dc15 pm15 cd15 ct15 : Value}
    {od16 an16 : Option Addr} {sl16 : Array (Option Value)} {oc16 kV16 dc16 pm16 cd16 ct16 : Value}
    {od17 an17 : Option Addr} {sl17 : Array (Option Value)} {oc17 kV17 dc17 pm17 cd17 ct17 : Value}
    {od18 an18 : Option Addr} {sl18 : Array (Option Value)} {oc18 kV18 dc18 pm18 cd18 ct18 : Value}
    {od19 an19 : Option Addr} {sl19 : Array (Option Value)} {oc19 kV19 dc19 pm19 cd19 ct19 : Value}
    {od20 an20 : Option Addr} {sl20 : Array (Option Value)} {oc20 kV20 dc20 pm20 cd20 ct20 : Value}
    {od21 an21 : Option Addr} {sl21 : Array (Option Value)} {oc21 kV21 dc21 pm21 cd21 ct21 : Value}
    {od22 an22 : Option Addr} {sl22 : Array (Option Value)} {oc22 kV22 dc22 pm22 cd22 ct22 : Value}
    {od23 an23 : Option Addr} {sl23 : Array (Option Value)} {oc23 kV23 dc23 pm23 cd23 ct23 : Value}
    {od24 an24 : Option Addr} {sl24 : Array (Option Value)} {oc24 kV24 dc24 pm24 cd24 ct24 : Value}
    {od25 an25 : Option Addr} {sl25 : Array (Option Value)} {oc25 kV25 dc25 pm25 cd25 ct25 : Value}
    {od26 an26 : Option Addr} {sl26 : Array (Option Value)} {oc26 kV26 dc26 pm26 cd26 ct26 : Value}
    {od27 an27 : Option Addr} {sl27 : Array (Option Value)} {oc27 kV27 dc27 pm27 cd27 ct27 : Value}
    {od28 an28 : Option Addr} {sl28 : Array (Option Value)} {oc28 kV28 dc28 pm28 cd28 ct28 : Value}
    {od29 an29 : Option Addr} {sl29 : Array (Option Value)} {oc29 kV29 dc29 pm29 cd29 ct29 : Value}
    {od30 an30 : Option Addr} {sl30 : Array (Option Value)} {oc30 kV30 dc30 pm30 cd30 ct30 : Value}
    {od31 an31 : Option Addr} {sl31 : Array (Option Value)} {oc31 kV31 dc31 pm31 cd31 ct31 : Value}
    {od32 an32 : Option Addr} {sl32 : Array (Option Value)} {oc32 kV32 dc32 pm32 cd32 ct32 : Value}
    {od33 an33 : Option Addr} {sl33 : Array (Option Value)} {oc33 kV33 dc33 pm33 cd33 ct33 : Value}
    {od34 an34 : Option Addr} {sl34 : Array (Option Value)} {oc34 kV34 dc34 pm34 cd34 ct34 : Value}
    {od35 an35 : Option Addr} {sl35 : Array (Option Value)} {oc35 kV35 dc35 pm35 cd35 ct35 : Value}
    (a1 : PySem.W.findIn K (.ref C_NameTaken) "__init__" = some (some (.ref f1))) (i1 : PySem.W.typeIn K (.ref f1) = some (.type "function")) (l1 : K.lookup f1 = some ⟨oc1, od1, .func (PySem.W.fnOf "__init__" "NameTaken.__init__" (defArgs s_NameTaken___init) (defBody s_NameTaken___init) (defScope s_NameTaken___init) .none kV1 dc1 pm1 an1 cd1 ct1), sl1⟩) (c1 : PySem.W.codeIn K cd1 "NameTaken.__init__" = true) (k1 : PySem.W.keepIn K (.ref f1) = true)
    (a2 : PySem.W.findIn K (.ref C_NoSuchName) "__init__" = some (some (.ref f2))) (i2 : PySem.W.typeIn K (.ref f2) = some (.type "function")) (l2 : K.lookup f2 = some ⟨oc2, od2, .func (PySem.W.fnOf "__init__" "NoSuchName.__init__" (defArgs s_NoSuchName___init) (defBody s_NoSuchName___init) (defScope s_NoSuchName___init) .none kV2 dc2 pm2 an2 cd2 ct2), sl2⟩) (c2 : PySem.W.codeIn K cd2 "NoSuchName.__init__" = true) (k2 : PySem.W.keepIn K (.ref f2) = true)
    (a3 : PySem.W.nsIn K mainGlobals "is_between" = some (some (.ref f3))) (l3 : K.lookup f3 = some ⟨oc3, od3, .func (PySem.W.fnOf "is_between" "is_between" (defArgs s_is_between) (defBody s_is_between) (defScope s_is_between) .none kV3 dc3 pm3 an3 cd3 ct3), sl3⟩) (c3 : PySem.W.codeIn K cd3 "is_between" = true) (k3 : PySem.W.keepIn K (.ref f3) = true)
    (a4 : PySem.W.nsIn K mainGlobals "is_name" = some (some (.ref f4))) (l4 : K.lookup f4 = some ⟨oc4, od4, .func (PySem.W.fnOf "is_name" "is_name" (defArgs s_is_name) (defBody s_is_name) (defScope s_is_name) .none kV4 dc4 pm4 an4 cd4 ct4), sl4⟩) (c4 : PySem.W.codeIn K cd4 "is_name" = true) (k4 : PySem.W.keepIn K (.ref f4) = true)
    (a5 : PySem.W.nsIn K mainGlobals "check_name" = some (some (.ref f5))) (l5 : K.lookup f5 = some ⟨oc5, od5, .func (PySem.W.fnOf "check_name" "check_name" (defArgs s_check_name) (defBody s_check_name) (defScope s_check_name) .none kV5 dc5 pm5 an5 cd5 ct5), sl5⟩) (c5 : PySem.W.codeIn K cd5 "check_name" = true) (k5 : PySem.W.keepIn K (.ref f5) = true)
    (a6 : PySem.W.nsIn K mainGlobals "check_known" = some (some (.ref f6))) (l6 : K.lookup f6 = some ⟨oc6, od6, .func (PySem.W.fnOf "check_known" "check_known" (defArgs s_check_known) (defBody s_check_known) (defScope s_check_known) .none kV6 dc6 pm6 an6 cd6 ct6), sl6⟩) (c6 : PySem.W.codeIn K cd6 "check_known" = true) (k6 : PySem.W.keepIn K (.ref f6) = true)
    (a7 : PySem.W.nsIn K mainGlobals "is_entry" = some (some (.ref f7))) (l7 : K.lookup f7 = some ⟨oc7, od7, .func (PySem.W.fnOf "is_entry" "is_entry" (defArgs s_is_entry) (defBody s_is_entry) (defScope s_is_entry) .none kV7 dc7 pm7 an7 cd7 ct7), sl7⟩) (c7 : PySem.W.codeIn K cd7 "is_entry" = true) (k7 : PySem.W.keepIn K (.ref f7) = true)
    (a8 : PySem.W.nsIn K mainGlobals "is_panel" = some (some (.ref f8))) (l8 : K.lookup f8 = some ⟨oc8, od8, .func (PySem.W.fnOf "is_panel" "is_panel" (defArgs s_is_panel) (defBody s_is_panel) (defScope s_is_panel) .none kV8 dc8 pm8 an8 cd8 ct8), sl8⟩) (c8 : PySem.W.codeIn K cd8 "is_panel" = true) (k8 : PySem.W.keepIn K (.ref f8) = true)
    (a9 : PySem.W.nsIn K mainGlobals "check_panel" = some (some (.ref f9))) (l9 : K.lookup f9 = some ⟨oc9, od9, .func (PySem.W.fnOf "check_panel" "check_panel" (defArgs s_check_panel) (defBody s_check_panel) (defScope s_check_panel) .none kV9 dc9 pm9 an9 cd9 ct9), sl9⟩) (c9 : PySem.W.codeIn K cd9 "check_panel" = true) (k9 : PySem.W.keepIn K (.ref f9) = true)
    (a10 : PySem.W.nsIn K mainGlobals "is_cover" = some (some (.ref f10))) (l10 : K.lookup f10 = some ⟨oc10, od10, .func (PySem.W.fnOf "is_cover" "is_cover" (defArgs s_is_cover) (defBody s_is_cover) (defScope s_is_cover) .none kV10 dc10 pm10 an10 cd10 ct10), sl10⟩) (c10 : PySem.W.codeIn K cd10 "is_cover" = true) (k10 : PySem.W.keepIn K (.ref f10) = true)
    (a11 : PySem.W.nsIn K mainGlobals "check_cover" = some (some (.ref f11))) (l11 : K.lookup f11 = some ⟨oc11, od11, .func (PySem.W.fnOf "check_cover" "check_cover" (defArgs s_check_cover) (defBody s_check_cover) (defScope s_check_cover) .none kV11 dc11 pm11 an11 cd11 ct11), sl11⟩) (c11 : PySem.W.codeIn K cd11 "check_cover" = true) (k11 : PySem.W.keepIn K (.ref f11) = true)
    (a12 : PySem.W.nsIn K mainGlobals "recovery" = some (some (.ref f12))) (l12 : K.lookup f12 = some ⟨oc12, od12, .func (PySem.W.fnOf "recovery" "recovery" (defArgs s_recovery) (defBody s_recovery) (defScope s_recovery) .none kV12 dc12 pm12 an12 cd12 ct12), sl12⟩) (c12 : PySem.W.codeIn K cd12 "recovery" = true) (k12 : PySem.W.keepIn K (.ref f12) = true)
    (a13 : PySem.W.nsIn K mainGlobals "programme" = some (some (.ref f13))) (l13 : K.lookup f13 = some ⟨oc13, od13, .func (PySem.W.fnOf "programme" "programme" (defArgs s_programme) (defBody s_programme) (defScope s_programme) .none kV13 dc13 pm13 an13 cd13 ct13), sl13⟩) (c13 : PySem.W.codeIn K cd13 "programme" = true) (k13 : PySem.W.keepIn K (.ref f13) = true)
    (a14 : PySem.W.nsIn K mainGlobals "allocate" = some (some (.ref f14))) (l14 : K.lookup f14 = some ⟨oc14, od14, .func (PySem.W.fnOf "allocate" "allocate" (defArgs s_allocate) (defBody s_allocate) (defScope s_allocate) .none kV14 dc14 pm14 an14 cd14 ct14), sl14⟩) (c14 : PySem.W.codeIn K cd14 "allocate" = true) (k14 : PySem.W.keepIn K (.ref f14) = true)
    (a15 : PySem.W.nsIn K mainGlobals "active_covers" = some (some (.ref f15))) (l15 : K.lookup f15 = some ⟨oc15, od15, .func (PySem.W.fnOf "active_covers" "active_covers" (defArgs s_active_covers) (defBody s_active_covers) (defScope s_active_covers) .none kV15 dc15 pm15 an15 cd15 ct15), sl15⟩) (c15 : PySem.W.codeIn K cd15 "active_covers" = true) (k15 : PySem.W.keepIn K (.ref f15) = true)
    (a16 : PySem.W.nsIn K mainGlobals "cede" = some (some (.ref f16))) (l16 : K.lookup f16 = some ⟨oc16, od16, .func (PySem.W.fnOf "cede" "cede" (defArgs s_cede) (defBody s_cede) (defScope s_cede) .none kV16 dc16 pm16 an16 cd16 ct16), sl16⟩) (c16 : PySem.W.codeIn K cd16 "cede" = true) (k16 : PySem.W.keepIn K (.ref f16) = true)
    (a17 : PySem.W.nsIn K mainGlobals "treaty_payments" = some (some (.ref f17))) (l17 : K.lookup f17 = some ⟨oc17, od17, .func (PySem.W.fnOf "treaty_payments" "treaty_payments" (defArgs s_treaty_payments) (defBody s_treaty_payments) (defScope s_treaty_payments) .none kV17 dc17 pm17 an17 cd17 ct17), sl17⟩) (c17 : PySem.W.codeIn K cd17 "treaty_payments" = true) (k17 : PySem.W.keepIn K (.ref f17) = true)
    (a18 : PySem.W.nsIn K mainGlobals "panel_parts" = some (some (.ref f18))) (l18 : K.lookup f18 = some ⟨oc18, od18, .func (PySem.W.fnOf "panel_parts" "panel_parts" (defArgs s_panel_parts) (defBody s_panel_parts) (defScope s_panel_parts) .none kV18 dc18 pm18 an18 cd18 ct18), sl18⟩) (c18 : PySem.W.codeIn K cd18 "panel_parts" = true) (k18 : PySem.W.keepIn K (.ref f18) = true)
    (a19 : PySem.W.nsIn K mainGlobals "next_gross" = some (some (.ref f19))) (l19 : K.lookup f19 = some ⟨oc19, od19, .func (PySem.W.fnOf "next_gross" "next_gross" (defArgs s_next_gross) (defBody s_next_gross) (defScope s_next_gross) .none kV19 dc19 pm19 an19 cd19 ct19), sl19⟩) (c19 : PySem.W.codeIn K cd19 "next_gross" = true) (k19 : PySem.W.keepIn K (.ref f19) = true)
    (a20 : PySem.W.nsIn K mainGlobals "rounds_to_end" = some (some (.ref f20))) (l20 : K.lookup f20 = some ⟨oc20, od20, .func (PySem.W.fnOf "rounds_to_end" "rounds_to_end" (defArgs s_rounds_to_end) (defBody s_rounds_to_end) (defScope s_rounds_to_end) .none kV20 dc20 pm20 an20 cd20 ct20), sl20⟩) (c20 : PySem.W.codeIn K cd20 "rounds_to_end" = true) (k20 : PySem.W.keepIn K (.ref f20) = true)
    (a21 : PySem.W.nsIn K mainGlobals "check_new_name" = some (some (.ref f21))) (l21 : K.lookup f21 = some ⟨oc21, od21, .func (PySem.W.fnOf "check_new_name" "check_new_name" (defArgs s_check_new_name) (defBody s_check_new_name) (defScope s_check_new_name) .none kV21 dc21 pm21 an21 cd21 ct21), sl21⟩) (c21 : PySem.W.codeIn K cd21 "check_new_name" = true) (k21 : PySem.W.keepIn K (.ref f21) = true)
    (a22 : PySem.W.nsIn K mainGlobals "check_placed" = some (some (.ref f22))) (l22 : K.lookup f22 = some ⟨oc22, od22, .func (PySem.W.fnOf "check_placed" "check_placed" (defArgs s_check_placed) (defBody s_check_placed) (defScope s_check_placed) .none kV22 dc22 pm22 an22 cd22 ct22), sl22⟩) (c22 : PySem.W.codeIn K cd22 "check_placed" = true) (k22 : PySem.W.keepIn K (.ref f22) = true)
    (a23 : PySem.W.nsIn K mainGlobals "direct_losses" = some (some (.ref f23))) (l23 : K.lookup f23 = some ⟨oc23, od23, .func (PySem.W.fnOf "direct_losses" "direct_losses" (defArgs s_direct_losses) (defBody s_direct_losses) (defScope s_direct_losses) .none kV23 dc23 pm23 an23 cd23 ct23), sl23⟩) (c23 : PySem.W.codeIn K cd23 "direct_losses" = true) (k23 : PySem.W.keepIn K (.ref f23) = true)
    (a24 : PySem.W.findIn K (.ref C_Market) "__init__" = some (some (.ref f24))) (i24 : PySem.W.isFn K (.ref f24) = true) (l24 : K.lookup f24 = some ⟨oc24, od24, .func (PySem.W.fnOf "__init__" "Market.__init__" (defArgs s_Market___init) (defBody s_Market___init) (defScope s_Market___init) .none kV24 dc24 pm24 an24 cd24 ct24), sl24⟩) (c24 : PySem.W.codeIn K cd24 "Market.__init__" = true) (k24 : PySem.W.keepIn K (.ref f24) = true)
    (a25 : PySem.W.findIn K (.ref C_Market) "add_insurer" = some (some (.ref f25))) (i25 : PySem.W.isFn K (.ref f25) = true) (l25 : K.lookup f25 = some ⟨oc25, od25, .func (PySem.W.fnOf "add_insurer" "Market.add_insurer" (defArgs s_Market_add_insurer) (defBody s_Market_add_insurer) (defScope s_Market_add_insurer) .none kV25 dc25 pm25 an25 cd25 ct25), sl25⟩) (c25 : PySem.W.codeIn K cd25 "Market.add_insurer" = true) (k25 : PySem.W.keepIn K (.ref f25) = true)
    (a26 : PySem.W.findIn K (.ref C_Market) "add_event" = some (some (.ref f26))) (i26 : PySem.W.isFn K (.ref f26) = true) (l26 : K.lookup f26 = some ⟨oc26, od26, .func (PySem.W.fnOf "add_event" "Market.add_event" (defArgs s_Market_add_event) (defBody s_Market_add_event) (defScope s_Market_add_event) .none kV26 dc26 pm26 an26 cd26 ct26), sl26⟩) (c26 : PySem.W.codeIn K cd26 "Market.add_event" = true) (k26 : PySem.W.keepIn K (.ref f26) = true)
    (a27 : PySem.W.findIn K (.ref C_Market) "add_treaty" = some (some (.ref f27))) (i27 : PySem.W.isFn K (.ref f27) = true) (l27 : K.lookup f27 = some ⟨oc27, od27, .func (PySem.W.fnOf "add_treaty" "Market.add_treaty" (defArgs s_Market_add_treaty) (defBody s_Market_add_treaty) (defScope s_Market_add_treaty) .none kV27 dc27 pm27 an27 cd27 ct27), sl27⟩) (c27 : PySem.W.codeIn K cd27 "Market.add_treaty" = true) (k27 : PySem.W.keepIn K (.ref f27) = true)
    (a28 : PySem.W.findIn K (.ref C_Market) "set_loss" = some (some (.ref f28))) (i28 : PySem.W.isFn K (.ref f28) = true) (l28 : K.lookup f28 = some ⟨oc28, od28, .func (PySem.W.fnOf "set_loss" "Market.set_loss" (defArgs s_Market_set_loss) (defBody s_Market_set_loss) (defScope s_Market_set_loss) .none kV28 dc28 pm28 an28 cd28 ct28), sl28⟩) (c28 : PySem.W.codeIn K cd28 "Market.set_loss" = true) (k28 : PySem.W.keepIn K (.ref f28) = true)
    (a29 : PySem.W.findIn K (.ref C_Market) "direct" = some (some (.ref f29))) (i29 : PySem.W.isFn K (.ref f29) = true) (l29 : K.lookup f29 = some ⟨oc29, od29, .func (PySem.W.fnOf "direct" "Market.direct" (defArgs s_Market_direct) (defBody s_Market_direct) (defScope s_Market_direct) .none kV29 dc29 pm29 an29 cd29 ct29), sl29⟩) (c29 : PySem.W.codeIn K cd29 "Market.direct" = true) (k29 : PySem.W.keepIn K (.ref f29) = true)
    (a30 : PySem.W.findIn K (.ref C_Market) "_check_ends" = some (some (.ref f30))) (i30 : PySem.W.isFn K (.ref f30) = true) (l30 : K.lookup f30 = some ⟨oc30, od30, .func (PySem.W.fnOf "_check_ends" "Market._check_ends" (defArgs s_Market__check_ends) (defBody s_Market__check_ends) (defScope s_Market__check_ends) .none kV30 dc30 pm30 an30 cd30 ct30), sl30⟩) (c30 : PySem.W.codeIn K cd30 "Market._check_ends" = true) (k30 : PySem.W.keepIn K (.ref f30) = true)
    (a31 : PySem.W.nsIn K mainGlobals "_law_cell" = some (some (.ref f31))) (l31 : K.lookup f31 = some ⟨oc31, od31, .func (PySem.W.fnOf "_law_cell" "_law_cell" (defArgs s_law_cell) (defBody s_law_cell) (defScope s_law_cell) .none kV31 dc31 pm31 an31 cd31 ct31), sl31⟩) (c31 : PySem.W.codeIn K cd31 "_law_cell" = true) (k31 : PySem.W.keepIn K (.ref f31) = true)
    (a32 : PySem.W.nsIn K mainGlobals "_law_is_integer" = some (some (.ref f32))) (l32 : K.lookup f32 = some ⟨oc32, od32, .func (PySem.W.fnOf "_law_is_integer" "_law_is_integer" (defArgs s_law_is_integer) (defBody s_law_is_integer) (defScope s_law_is_integer) .none kV32 dc32 pm32 an32 cd32 ct32), sl32⟩) (c32 : PySem.W.codeIn K cd32 "_law_is_integer" = true) (k32 : PySem.W.keepIn K (.ref f32) = true)
    (a33 : PySem.W.nsIn K mainGlobals "_law_same" = some (some (.ref f33))) (l33 : K.lookup f33 = some ⟨oc33, od33, .func (PySem.W.fnOf "_law_same" "_law_same" (defArgs s_law_same) (defBody s_law_same) (defScope s_law_same) .none kV33 dc33 pm33 an33 cd33 ct33), sl33⟩) (c33 : PySem.W.codeIn K cd33 "_law_same" = true) (k33 : PySem.W.keepIn K (.ref f33) = true)
    (a34 : PySem.W.nsIn K mainGlobals "_law_kind" = some (some (.ref f34))) (l34 : K.lookup f34 = some ⟨oc34, od34, .func (PySem.W.fnOf "_law_kind" "_law_kind" (defArgs s_law_kind) (defBody s_law_kind) (defScope s_law_kind) .none kV34 dc34 pm34 an34 cd34 ct34), sl34⟩) (c34 : PySem.W.codeIn K cd34 "_law_kind" = true) (k34 : PySem.W.keepIn K (.ref f34) = true)
    (a35 : PySem.W.nsIn K mainGlobals "law" = some (some (.ref f35))) (l35 : K.lookup f35 = some ⟨oc35, od35, .func (PySem.W.fnOf "law" "law" (defArgs s_law) (defBody s_law) (defScope s_law) .none kV35 dc35 pm35 an35 cd35 ct35), sl35⟩) (c35 : PySem.W.codeIn K cd35 "law" = true) (k35 : PySem.W.keepIn K (.ref f35) = true)
    (z_isinstance : PySem.W.nsIn K mainGlobals "isinstance" = some none) (z_bool : PySem.W.nsIn K mainGlobals "bool" = some none) (z_int : PySem.W.nsIn K mainGlobals "int" = some none) (z_str : PySem.W.nsIn K mainGlobals "str" = some none) (z_len : PySem.W.nsIn K mainGlobals "len" = some none) (z_all : PySem.W.nsIn K mainGlobals "all" = some none) (z_tuple : PySem.W.nsIn K mainGlobals "tuple" = some none) (z_sum : PySem.W.nsIn K mainGlobals "sum" = some none) (z_min : PySem.W.nsIn K mainGlobals "min" = some none) (z_max : PySem.W.nsIn K mainGlobals "max" = some none) (z_divmod : PySem.W.nsIn K mainGlobals "divmod" = some none) (z_enumerate : PySem.W.nsIn K mainGlobals "enumerate" = some none) (z_zip : PySem.W.nsIn K mainGlobals "zip" = some none) (z_range : PySem.W.nsIn K mainGlobals "range" = some none) (z_any : PySem.W.nsIn K mainGlobals "any" = some none) (z_set : PySem.W.nsIn K mainGlobals "set" = some none) (z_list : PySem.W.nsIn K mainGlobals "list" = some none) {t_MOST_LETTERS : Tok} (z_MOST_LETTERS : PySem.W.nsIn K mainGlobals "MOST_LETTERS" = some (some (.int 12 t_MOST_LETTERS))) {t_LETTERS : Tok} (z_LETTERS : PySem.W.nsIn K mainGlobals "LETTERS" = some (some (.str "abcdefghijklmnopqrstuvwxyz" t_LETTERS))) {t_MOST_SHARES : Tok} (z_MOST_SHARES : PySem.W.nsIn K mainGlobals "MOST_SHARES" = some (some (.int 100 t_MOST_SHARES))) {t_MOST_ENTRIES : Tok} (z_MOST_ENTRIES : PySem.W.nsIn K mainGlobals "MOST_ENTRIES" = some (some (.int 6 t_MOST_ENTRIES))) {t_WHOLE : Tok} (z_WHOLE : PySem.W.nsIn K mainGlobals "WHOLE" = some (some (.int 1000 t_WHOLE))) {t_MOST_RETENTION : Tok} (z_MOST_RETENTION : PySem.W.nsIn K mainGlobals "MOST_RETENTION" = some (some (.int 100000 t_MOST_RETENTION))) {t_MOST_LIMIT : Tok} (z_MOST_LIMIT : PySem.W.nsIn K mainGlobals "MOST_LIMIT" = some (some (.int 100000 t_MOST_LIMIT))) {t_LAST_ROUND : Tok} (z_LAST_ROUND : PySem.W.nsIn K mainGlobals "LAST_ROUND" = some (some (.int 200 t_LAST_ROUND))) {t_MOST_GROSS : Tok} (z_MOST_GROSS : PySem.W.nsIn K mainGlobals "MOST_GROSS" = some (some (.int 1000000000 t_MOST_GROSS))) {t_MOST_DIRECT : Tok} (z_MOST_DIRECT : PySem.W.nsIn K mainGlobals "MOST_DIRECT" = some (some (.int 100000 t_MOST_DIRECT)))
    (xg_BadName : PySem.W.nsIn K mainGlobals "BadName" = some (some (.ref C_BadName))) (xx_BadName : PySem.W.excIn K C_BadName [.type "ValueError", .type "Exception", .type "BaseException", .type "object"] "ValueError.__new__" = true) (xk_BadName : PySem.W.keepIn K (.ref C_BadName) = true) (xb_BadName : PySem.W.subIn K (.ref C_BadName) (.type "BaseException") = some true) (xt_BadName : PySem.W.typeIn K (.ref C_BadName) = some (.type "type")) (xd_BadName : PySem.W.hasDictIn K C_BadName = true) (xs_BadName : PySem.W.subIn K (.ref C_BadName) (.ref C_BadName) = some true)
    (yg_BadName : PySem.W.findIn K (.ref C_BadName) "__getattribute__" = some (some (.builtin "BaseException.__getattribute__"))) (yk_BadName : PySem.W.findIn K (.ref C_BadName) "__getattr__" = some none) (ya_BadName : PySem.W.findIn K (.ref C_BadName) "__class__" = some (some (.builtin "object.__class__"))) (yn_BadName : PySem.W.specialIn K (.builtin "object.__class__") "__get__" = some (some (.builtin "getset_descriptor.__get__"))) (yt_BadName : PySem.W.takesIn K (.builtin "object.__class__") = some true) (ym_BadName : PySem.W.mroIn K C_BadName (.type "object") = some true)
    (xg_BadCover : PySem.W.nsIn K mainGlobals "BadCover" = some (some (.ref C_BadCover))) (xx_BadCover : PySem.W.excIn K C_BadCover [.type "ValueError", .type "Exception", .type "BaseException", .type "object"] "ValueError.__new__" = true) (xk_BadCover : PySem.W.keepIn K (.ref C_BadCover) = true) (xb_BadCover : PySem.W.subIn K (.ref C_BadCover) (.type "BaseException") = some true) (xt_BadCover : PySem.W.typeIn K (.ref C_BadCover) = some (.type "type")) (xd_BadCover : PySem.W.hasDictIn K C_BadCover = true) (xs_BadCover : PySem.W.subIn K (.ref C_BadCover) (.ref C_BadCover) = some true)
    (yg_BadCover : PySem.W.findIn K (.ref C_BadCover) "__getattribute__" = some (some (.builtin "BaseException.__getattribute__"))) (yk_BadCover : PySem.W.findIn K (.ref C_BadCover) "__getattr__" = some none) (ya_BadCover : PySem.W.findIn K (.ref C_BadCover) "__class__" = some (some (.builtin "object.__class__"))) (yn_BadCover : PySem.W.specialIn K (.builtin "object.__class__") "__get__" = some (some (.builtin "getset_descriptor.__get__"))) (yt_BadCover : PySem.W.takesIn K (.builtin "object.__class__") = some true) (ym_BadCover : PySem.W.mroIn K C_BadCover (.type "object") = some true)
    (xg_BadPanel : PySem.W.nsIn K mainGlobals "BadPanel" = some (some (.ref C_BadPanel))) (xx_BadPanel : PySem.W.excIn K C_BadPanel [.type "ValueError", .type "Exception", .type "BaseException", .type "object"] "ValueError.__new__" = true) (xk_BadPanel : PySem.W.keepIn K (.ref C_BadPanel) = true) (xb_BadPanel : PySem.W.subIn K (.ref C_BadPanel) (.type "BaseException") = some true) (xt_BadPanel : PySem.W.typeIn K (.ref C_BadPanel) = some (.type "type")) (xd_BadPanel : PySem.W.hasDictIn K C_BadPanel = true) (xs_BadPanel : PySem.W.subIn K (.ref C_BadPanel) (.ref C_BadPanel) = some true)
    (yg_BadPanel : PySem.W.findIn K (.ref C_BadPanel) "__getattribute__" = some (some (.builtin "BaseException.__getattribute__"))) (yk_BadPanel : PySem.W.findIn K (.ref C_BadPanel) "__getattr__" = some none) (ya_BadPanel : PySem.W.findIn K (.ref C_BadPanel) "__class__" = some (some (.builtin "object.__class__"))) (yn_BadPanel : PySem.W.specialIn K (.builtin "object.__class__") "__get__" = some (some (.builtin "getset_descriptor.__get__"))) (yt_BadPanel : PySem.W.takesIn K (.builtin "object.__class__") = some true) (ym_BadPanel : PySem.W.mroIn K C_BadPanel (.type "object") = some true)
    (xg_BadAmount : PySem.W.nsIn K mainGlobals "BadAmount" = some (some (.ref C_BadAmount))) (xx_BadAmount : PySem.W.excIn K C_BadAmount [.type "ValueError", .type "Exception", .type "BaseException", .type "object"] "ValueError.__new__" = true) (xk_BadAmount : PySem.W.keepIn K (.ref C_BadAmount) = true) (xb_BadAmount : PySem.W.subIn K (.ref C_BadAmount) (.type "BaseException") = some true) (xt_BadAmount : PySem.W.typeIn K (.ref C_BadAmount) = some (.type "type")) (xd_BadAmount : PySem.W.hasDictIn K C_BadAmount = true) (xs_BadAmount : PySem.W.subIn K (.ref C_BadAmount) (.ref C_BadAmount) = some true)
    (yg_BadAmount : PySem.W.findIn K (.ref C_BadAmount) "__getattribute__" = some (some (.builtin "BaseException.__getattribute__"))) (yk_BadAmount : PySem.W.findIn K (.ref C_BadAmount) "__getattr__" = some none) (ya_BadAmount : PySem.W.findIn K (.ref C_BadAmount) "__class__" = some (some (.builtin "object.__class__"))) (yn_BadAmount : PySem.W.specialIn K (.builtin "object.__class__") "__get__" = some (some (.builtin "getset_descriptor.__get__"))) (yt_BadAmount : PySem.W.takesIn K (.builtin "object.__class__") = some true) (ym_BadAmount : PySem.W.mroIn K C_BadAmount (.type "object") = some true)
    (xg_Twice : PySem.W.nsIn K mainGlobals "Twice" = some (some (.ref C_Twice))) (xx_Twice : PySem.W.excIn K C_Twice [.type "ValueError", .type "Exception", .type "BaseException", .type "object"] "ValueError.__new__" = true) (xk_Twice : PySem.W.keepIn K (.ref C_Twice) = true) (xb_Twice : PySem.W.subIn K (.ref C_Twice) (.type "BaseException") = some true) (xt_Twice : PySem.W.typeIn K (.ref C_Twice) = some (.type "type")) (xd_Twice : PySem.W.hasDictIn K C_Twice = true) (xs_Twice : PySem.W.subIn K (.ref C_Twice) (.ref C_Twice) = some true)
    (xg_OwnPanel : PySem.W.nsIn K mainGlobals "OwnPanel" = some (some (.ref C_OwnPanel))) (xx_OwnPanel : PySem.W.excIn K C_OwnPanel [.type "ValueError", .type "Exception", .type "BaseException", .type "object"] "ValueError.__new__" = true) (xk_OwnPanel : PySem.W.keepIn K (.ref C_OwnPanel) = true) (xb_OwnPanel : PySem.W.subIn K (.ref C_OwnPanel) (.type "BaseException") = some true) (xt_OwnPanel : PySem.W.typeIn K (.ref C_OwnPanel) = some (.type "type")) (xd_OwnPanel : PySem.W.hasDictIn K C_OwnPanel = true) (xs_OwnPanel : PySem.W.subIn K (.ref C_OwnPanel) (.ref C_OwnPanel) = some true)
    (xg_TooMany : PySem.W.nsIn K mainGlobals "TooMany" = some (some (.ref C_TooMany))) (xx_TooMany : PySem.W.excIn K C_TooMany [.type "ValueError", .type "Exception", .type "BaseException", .type "object"] "ValueError.__new__" = true) (xk_TooMany : PySem.W.keepIn K (.ref C_TooMany) = true) (xb_TooMany : PySem.W.subIn K (.ref C_TooMany) (.type "BaseException") = some true) (xt_TooMany : PySem.W.typeIn K (.ref C_TooMany) = some (.type "type")) (xd_TooMany : PySem.W.hasDictIn K C_TooMany = true) (xs_TooMany : PySem.W.subIn K (.ref C_TooMany) (.ref C_TooMany) = some true)
    (xg_NoEnd : PySem.W.nsIn K mainGlobals "NoEnd" = some (some (.ref C_NoEnd))) (xx_NoEnd : PySem.W.excIn K C_NoEnd [.type "ValueError", .type "Exception", .type "BaseException", .type "object"] "ValueError.__new__" = true) (xk_NoEnd : PySem.W.keepIn K (.ref C_NoEnd) = true) (xb_NoEnd : PySem.W.subIn K (.ref C_NoEnd) (.type "BaseException") = some true) (xt_NoEnd : PySem.W.typeIn K (.ref C_NoEnd) = some (.type "type")) (xd_NoEnd : PySem.W.hasDictIn K C_NoEnd = true) (xs_NoEnd : PySem.W.subIn K (.ref C_NoEnd) (.ref C_NoEnd) = some true)
    {nm_NameTaken q_NameTaken : Str} {N_NameTaken : Addr} {bs_NameTaken bm_NameTaken : List Value} {sn_NameTaken : List Str} {sub_NameTaken : List Value} {ab_NameTaken : Bool} {col_NameTaken : Option Bool} {dd_NameTaken : Option Addr} {m0_NameTaken m1_NameTaken m2_NameTaken m3_NameTaken m5_NameTaken : Option Value}
    (og_NameTaken : PySem.W.nsIn K mainGlobals "NameTaken" = some (some (.ref C_NameTaken))) (ol_NameTaken : K.lookup C_NameTaken = some (excClassObj nm_NameTaken q_NameTaken C_NameTaken N_NameTaken bs_NameTaken bm_NameTaken true sn_NameTaken sub_NameTaken ab_NameTaken col_NameTaken dd_NameTaken m0_NameTaken m1_NameTaken m2_NameTaken m3_NameTaken m5_NameTaken "ValueError.__new__")) (or_NameTaken : PySem.HandSPX.refsVE bm_NameTaken = true) (os_NameTaken : PySem.W.findIn K (.ref C_NameTaken) "__setattr__" = some (some (.builtin "object.__setattr__"))) (on_NameTaken : PySem.W.findIn K (.ref C_NameTaken) "name" = some none) (ok_NameTaken : PySem.W.keepIn K (.ref C_NameTaken) = true) (ob_NameTaken : PySem.W.subIn K (.ref C_NameTaken) (.type "BaseException") = some true) (ot_NameTaken : PySem.W.typeIn K (.ref C_NameTaken) = some (.type "type")) (od_NameTaken : PySem.W.hasDictIn K C_NameTaken = true) (oi_NameTaken : PySem.W.subIn K (.ref C_NameTaken) (.ref C_NameTaken) = some true)
    {nm_NoSuchName q_NoSuchName : Str} {N_NoSuchName : Addr} {bs_NoSuchName bm_NoSuchName : List Value} {sn_NoSuchName : List Str} {sub_NoSuchName : List Value} {ab_NoSuchName : Bool} {col_NoSuchName : Option Bool} {dd_NoSuchName : Option Addr} {m0_NoSuchName m1_NoSuchName m2_NoSuchName m3_NoSuchName m5_NoSuchName : Option Value}
    (og_NoSuchName : PySem.W.nsIn K mainGlobals "NoSuchName" = some (some (.ref C_NoSuchName))) (ol_NoSuchName : K.lookup C_NoSuchName = some (excClassObj nm_NoSuchName q_NoSuchName C_NoSuchName N_NoSuchName bs_NoSuchName bm_NoSuchName true sn_NoSuchName sub_NoSuchName ab_NoSuchName col_NoSuchName dd_NoSuchName m0_NoSuchName m1_NoSuchName m2_NoSuchName m3_NoSuchName m5_NoSuchName "ValueError.__new__")) (or_NoSuchName : PySem.HandSPX.refsVE bm_NoSuchName = true) (os_NoSuchName : PySem.W.findIn K (.ref C_NoSuchName) "__setattr__" = some (some (.builtin "object.__setattr__"))) (on_NoSuchName : PySem.W.findIn K (.ref C_NoSuchName) "name" = some none) (ok_NoSuchName : PySem.W.keepIn K (.ref C_NoSuchName) = true) (ob_NoSuchName : PySem.W.subIn K (.ref C_NoSuchName) (.type "BaseException") = some true) (ot_NoSuchName : PySem.W.typeIn K (.ref C_NoSuchName) = some (.type "type")) (od_NoSuchName : PySem.W.hasDictIn K C_NoSuchName = true) (oi_NoSuchName : PySem.W.subIn K (.ref C_NoSuchName) (.ref C_NoSuchName) = some true)
    (cg_Market : PySem.W.nsIn K mainGlobals "Market" = some (some (.ref C_Market))) (cp_Market : PySem.W.plainGet K C_Market Str.empty = true) (ch_Market : PySem.W.hasDictIn K C_Market = true) (co_Market : PySem.W.plainOver K C_Market = true) (cs_Market : PySem.W.findIn K (.ref C_Market) "__setattr__" = some (some (.builtin "object.__setattr__"))) (cm_Market : PySem.W.makesIn K C_Market = true) (ck_Market : PySem.W.keepIn K (.ref C_Market) = true)
    (cn_Market_insurers : PySem.W.findIn K (.ref C_Market) "insurers" = some none)    (cn_Market_events : PySem.W.findIn K (.ref C_Market) "events" = some none)    (cn_Market_treaties : PySem.W.findIn K (.ref C_Market) "treaties" = some none)    (cn_Market_losses : PySem.W.findIn K (.ref C_Market) "losses" = some none)    {ct_Market_MOST_INSURERS : Tok} (cc_Market_MOST_INSURERS : PySem.W.findIn K (.ref C_Market) "MOST_INSURERS" = some (some (.int 6 ct_Market_MOST_INSURERS))) (cd_Market_MOST_INSURERS : PySem.W.specialIn K (.int 6 ct_Market_MOST_INSURERS) "__get__" = some none)    {ct_Market_MOST_EVENTS : Tok} (cc_Market_MOST_EVENTS : PySem.W.findIn K (.ref C_Market) "MOST_EVENTS" = some (some (.int 3 ct_Market_MOST_EVENTS))) (cd_Market_MOST_EVENTS : PySem.W.specialIn K (.int 3 ct_Market_MOST_EVENTS) "__get__" = some none)    {ct_Market_MOST_TREATIES : Tok} (cc_Market_MOST_TREATIES : PySem.W.findIn K (.ref C_Market) "MOST_TREATIES" = some (some (.int 16 ct_Market_MOST_TREATIES))) (cd_Market_MOST_TREATIES : PySem.W.specialIn K (.int 16 ct_Market_MOST_TREATIES) "__get__" = some none)    (f_exCN : PySem.W.subIn K (.ref C_BadCover) (.ref C_BadName) = some false)
    (f_exPN : PySem.W.subIn K (.ref C_BadPanel) (.ref C_BadName) = some false)
    (f_exPC : PySem.W.subIn K (.ref C_BadPanel) (.ref C_BadCover) = some false)
    (f_exAN : PySem.W.subIn K (.ref C_BadAmount) (.ref C_BadName) = some false)
    (f_exAC : PySem.W.subIn K (.ref C_BadAmount) (.ref C_BadCover) = some false)
    (f_exAP : PySem.W.subIn K (.ref C_BadAmount) (.ref C_BadPanel) = some false)
    :
    ∃ fd : FuncData, (∀ (s : Shared) (v : Value), BindsTo s fd ⟨[v], []⟩ [("script", v)]) ∧ ∀ base : Heap, K.In base → base.Ns mainGlobals mg → FnOk l.prog w K mg base CX0 10 fa fd ["script"] (sp_law K) := by
  have e := hfa.symm.trans (PySem.W.mg_of X G a35)
  cases e
  have T : Tx K mg C_BadName C_BadCover C_BadPanel C_BadAmount C_NameTaken C_NoSuchName C_Twice C_OwnPanel C_TooMany C_NoEnd C_Market := ⟨PySem.W.mg_none_of X G z_isinstance, PySem.W.mg_none_of X G z_bool, PySem.W.mg_none_of X G z_int, PySem.W.mg_none_of X G z_str, PySem.W.mg_none_of X G z_len, PySem.W.mg_none_of X G z_all, PySem.W.mg_none_of X G z_tuple, PySem.W.mg_none_of X G z_sum, PySem.W.mg_none_of X G z_min, PySem.W.mg_none_of X G z_max, PySem.W.mg_none_of X G z_divmod, PySem.W.mg_none_of X G z_enumerate, PySem.W.mg_none_of X G z_zip, PySem.W.mg_none_of X G z_range, PySem.W.mg_none_of X G z_any, PySem.W.mg_none_of X G z_set, PySem.W.mg_none_of X G z_list, ⟨_, PySem.W.mg_of X G z_MOST_LETTERS⟩, ⟨_, PySem.W.mg_of X G z_LETTERS⟩, ⟨_, PySem.W.mg_of X G z_MOST_SHARES⟩, ⟨_, PySem.W.mg_of X G z_MOST_ENTRIES⟩, ⟨_, PySem.W.mg_of X G z_WHOLE⟩, ⟨_, PySem.W.mg_of X G z_MOST_RETENTION⟩, ⟨_, PySem.W.mg_of X G z_MOST_LIMIT⟩, ⟨_, PySem.W.mg_of X G z_LAST_ROUND⟩, ⟨_, PySem.W.mg_of X G z_MOST_GROSS⟩, ⟨_, PySem.W.mg_of X G z_MOST_DIRECT⟩, ⟨PySem.W.mg_of X G og_NameTaken, ⟨⟨_, _, _, _, _, _, _, _, _, _, _, _, _, _, _, ol_NameTaken, or_NameTaken⟩, os_NameTaken, ob_NameTaken, ot_NameTaken, ok_NameTaken⟩, on_NameTaken, PySem.W.exm_ref ob_NameTaken od_NameTaken ot_NameTaken oi_NameTaken⟩, ⟨PySem.W.mg_of X G og_NoSuchName, ⟨⟨_, _, _, _, _, _, _, _, _, _, _, _, _, _, _, ol_NoSuchName, or_NoSuchName⟩, os_NoSuchName, ob_NoSuchName, ot_NoSuchName, ok_NoSuchName⟩, on_NoSuchName, PySem.W.exm_ref ob_NoSuchName od_NoSuchName ot_NoSuchName oi_NoSuchName⟩, ⟨cp_Market, ch_Market, co_Market, cs_Market⟩, PySem.W.mg_of X G cg_Market, cn_Market_insurers, cn_Market_events, cn_Market_treaties, cn_Market_losses, ⟨_, cc_Market_MOST_INSURERS, ⟨_, rfl⟩, cd_Market_MOST_INSURERS, by decide +kernel⟩, ⟨_, cc_Market_MOST_EVENTS, ⟨_, rfl⟩, cd_Market_MOST_EVENTS, by decide +kernel⟩, ⟨_, cc_Market_MOST_TREATIES, ⟨_, rfl⟩, cd_Market_MOST_TREATIES, by decide +kernel⟩, ⟨PySem.W.mg_of X G xg_BadName, xx_BadName, xk_BadName, xb_BadName, xt_BadName, PySem.W.exm_ref xb_BadName xd_BadName xt_BadName xs_BadName⟩, ⟨yg_BadName, yk_BadName, xb_BadName, xd_BadName, ya_BadName, yn_BadName, yt_BadName, ym_BadName⟩, ⟨PySem.W.mg_of X G xg_BadCover, xx_BadCover, xk_BadCover, xb_BadCover, xt_BadCover, PySem.W.exm_ref xb_BadCover xd_BadCover xt_BadCover xs_BadCover⟩, ⟨yg_BadCover, yk_BadCover, xb_BadCover, xd_BadCover, ya_BadCover, yn_BadCover, yt_BadCover, ym_BadCover⟩, ⟨PySem.W.mg_of X G xg_BadPanel, xx_BadPanel, xk_BadPanel, xb_BadPanel, xt_BadPanel, PySem.W.exm_ref xb_BadPanel xd_BadPanel xt_BadPanel xs_BadPanel⟩, ⟨yg_BadPanel, yk_BadPanel, xb_BadPanel, xd_BadPanel, ya_BadPanel, yn_BadPanel, yt_BadPanel, ym_BadPanel⟩, ⟨PySem.W.mg_of X G xg_BadAmount, xx_BadAmount, xk_BadAmount, xb_BadAmount, xt_BadAmount, PySem.W.exm_ref xb_BadAmount xd_BadAmount xt_BadAmount xs_BadAmount⟩, ⟨yg_BadAmount, yk_BadAmount, xb_BadAmount, xd_BadAmount, ya_BadAmount, yn_BadAmount, yt_BadAmount, ym_BadAmount⟩, ⟨PySem.W.mg_of X G xg_Twice, xx_Twice, xk_Twice, xb_Twice, xt_Twice, PySem.W.exm_ref xb_Twice xd_Twice xt_Twice xs_Twice⟩, ⟨PySem.W.mg_of X G xg_OwnPanel, xx_OwnPanel, xk_OwnPanel, xb_OwnPanel, xt_OwnPanel, PySem.W.exm_ref xb_OwnPanel xd_OwnPanel xt_OwnPanel xs_OwnPanel⟩, ⟨PySem.W.mg_of X G xg_TooMany, xx_TooMany, xk_TooMany, xb_TooMany, xt_TooMany, PySem.W.exm_ref xb_TooMany xd_TooMany xt_TooMany xs_TooMany⟩, ⟨PySem.W.mg_of X G xg_NoEnd, xx_NoEnd, xk_NoEnd, xb_NoEnd, xt_NoEnd, PySem.W.exm_ref xb_NoEnd xd_NoEnd xt_NoEnd xs_NoEnd⟩, PySem.W.exm_ref xb_BadName xd_BadName xt_BadName f_exCN, PySem.W.exm_ref xb_BadName xd_BadName xt_BadName f_exPN, PySem.W.exm_ref xb_BadCover xd_BadCover xt_BadCover f_exPC, PySem.W.exm_ref xb_BadName xd_BadName xt_BadName f_exAN, PySem.W.exm_ref xb_BadCover xd_BadCover xt_BadCover f_exAC, PySem.W.exm_ref xb_BadPanel xd_BadPanel xt_BadPanel f_exAP⟩
  have F1 := fun_mk (st := s_NameTaken___init) l1 c1 k1
  have D_NameTaken___init : Ini K C_NameTaken "NameTaken.__init__" s_NameTaken___init ["self", "name"] f1 _ := ⟨F1, F1.binds (ps := ["self", "name"]) fun _ _ _ _ _ _ us hl => match us, hl with | [_, _], _ => rfl, a1, i1⟩
  have F2 := fun_mk (st := s_NoSuchName___init) l2 c2 k2
  have D_NoSuchName___init : Ini K C_NoSuchName "NoSuchName.__init__" s_NoSuchName___init ["self", "name"] f2 _ := ⟨F2, F2.binds (ps := ["self", "name"]) fun _ _ _ _ _ _ us hl => match us, hl with | [_, _], _ => rfl, a2, i2⟩
  have F3 := fun_mk (st := s_is_between) l3 c3 k3
  have D_is_between : Dfn K mg "is_between" s_is_between ["value", "low", "high"] f3 _ := ⟨F3, F3.binds (ps := ["value", "low", "high"]) fun _ _ _ _ _ _ us hl => match us, hl with | [_, _, _], _ => rfl, PySem.W.mg_of X G a3⟩
  have F4 := fun_mk (st := s_is_name) l4 c4 k4
  have D_is_name : Dfn K mg "is_name" s_is_name ["value"] f4 _ := ⟨F4, F4.binds (ps := ["value"]) fun _ _ _ _ _ _ us hl => match us, hl with | [_], _ => rfl, PySem.W.mg_of X G a4⟩
  have F5 := fun_mk (st := s_check_name) l5 c5 k5
  have D_check_name : Dfn K mg "check_name" s_check_name ["value"] f5 _ := ⟨F5, F5.binds (ps := ["value"]) fun _ _ _ _ _ _ us hl => match us, hl with | [_], _ => rfl, PySem.W.mg_of X G a5⟩
  have F6 := fun_mk (st := s_check_known) l6 c6 k6
  have D_check_known : Dfn K mg "check_known" s_check_known ["name", "names"] f6 _ := ⟨F6, F6.binds (ps := ["name", "names"]) fun _ _ _ _ _ _ us hl => match us, hl with | [_, _], _ => rfl, PySem.W.mg_of X G a6⟩
  have F7 := fun_mk (st := s_is_entry) l7 c7 k7
  have D_is_entry : Dfn K mg "is_entry" s_is_entry ["value"] f7 _ := ⟨F7, F7.binds (ps := ["value"]) fun _ _ _ _ _ _ us hl => match us, hl with | [_], _ => rfl, PySem.W.mg_of X G a7⟩
  have F8 := fun_mk (st := s_is_panel) l8 c8 k8
  have D_is_panel : Dfn K mg "is_panel" s_is_panel ["value"] f8 _ := ⟨F8, F8.binds (ps := ["value"]) fun _ _ _ _ _ _ us hl => match us, hl with | [_], _ => rfl, PySem.W.mg_of X G a8⟩
  have F9 := fun_mk (st := s_check_panel) l9 c9 k9
  have D_check_panel : Dfn K mg "check_panel" s_check_panel ["value"] f9 _ := ⟨F9, F9.binds (ps := ["value"]) fun _ _ _ _ _ _ us hl => match us, hl with | [_], _ => rfl, PySem.W.mg_of X G a9⟩
  have F10 := fun_mk (st := s_is_cover) l10 c10 k10
  have D_is_cover : Dfn K mg "is_cover" s_is_cover ["value"] f10 _ := ⟨F10, F10.binds (ps := ["value"]) fun _ _ _ _ _ _ us hl => match us, hl with | [_], _ => rfl, PySem.W.mg_of X G a10⟩
  have F11 := fun_mk (st := s_check_cover) l11 c11 k11
  have D_check_cover : Dfn K mg "check_cover" s_check_cover ["value"] f11 _ := ⟨F11, F11.binds (ps := ["value"]) fun _ _ _ _ _ _ us hl => match us, hl with | [_], _ => rfl, PySem.W.mg_of X G a11⟩
  have F12 := fun_mk (st := s_recovery) l12 c12 k12
  have D_recovery : Dfn K mg "recovery" s_recovery ["cover", "loss"] f12 _ := ⟨F12, F12.binds (ps := ["cover", "loss"]) fun _ _ _ _ _ _ us hl => match us, hl with | [_, _], _ => rfl, PySem.W.mg_of X G a12⟩
  have F13 := fun_mk (st := s_programme) l13 c13 k13
  have D_programme : Dfn K mg "programme" s_programme ["covers", "loss"] f13 _ := ⟨F13, F13.binds (ps := ["covers", "loss"]) fun _ _ _ _ _ _ us hl => match us, hl with | [_, _], _ => rfl, PySem.W.mg_of X G a13⟩
  have F14 := fun_mk (st := s_allocate) l14 c14 k14
  have D_allocate : Dfn K mg "allocate" s_allocate ["amount", "shares"] f14 _ := ⟨F14, F14.binds (ps := ["amount", "shares"]) fun _ _ _ _ _ _ us hl => match us, hl with | [_, _], _ => rfl, PySem.W.mg_of X G a14⟩
  have F15 := fun_mk (st := s_active_covers) l15 c15 k15
  have D_active_covers : Dfn K mg "active_covers" s_active_covers ["treaties", "cedent"] f15 _ := ⟨F15, F15.binds (ps := ["treaties", "cedent"]) fun _ _ _ _ _ _ us hl => match us, hl with | [_, _], _ => rfl, PySem.W.mg_of X G a15⟩
  have F16 := fun_mk (st := s_cede) l16 c16 k16
  have D_cede : Dfn K mg "cede" s_cede ["treaties", "cedent", "loss"] f16 _ := ⟨F16, F16.binds (ps := ["treaties", "cedent", "loss"]) fun _ _ _ _ _ _ us hl => match us, hl with | [_, _, _], _ => rfl, PySem.W.mg_of X G a16⟩
  have F17 := fun_mk (st := s_treaty_payments) l17 c17 k17
  have D_treaty_payments : Dfn K mg "treaty_payments" s_treaty_payments ["insurers", "treaties", "gross"] f17 _ := ⟨F17, F17.binds (ps := ["insurers", "treaties", "gross"]) fun _ _ _ _ _ _ us hl => match us, hl with | [_, _, _], _ => rfl, PySem.W.mg_of X G a17⟩
  have F18 := fun_mk (st := s_panel_parts) l18 c18 k18
  have D_panel_parts : Dfn K mg "panel_parts" s_panel_parts ["panel", "amount"] f18 _ := ⟨F18, F18.binds (ps := ["panel", "amount"]) fun _ _ _ _ _ _ us hl => match us, hl with | [_, _], _ => rfl, PySem.W.mg_of X G a18⟩
  have F19 := fun_mk (st := s_next_gross) l19 c19 k19
  have D_next_gross : Dfn K mg "next_gross" s_next_gross ["insurers", "treaties", "direct", "gross"] f19 _ := ⟨F19, F19.binds (ps := ["insurers", "treaties", "direct", "gross"]) fun _ _ _ _ _ _ us hl => match us, hl with | [_, _, _, _], _ => rfl, PySem.W.mg_of X G a19⟩
  have F20 := fun_mk (st := s_rounds_to_end) l20 c20 k20
  have D_rounds_to_end : Dfn K mg "rounds_to_end" s_rounds_to_end ["insurers", "treaties", "direct"] f20 _ := ⟨F20, F20.binds (ps := ["insurers", "treaties", "direct"]) fun _ _ _ _ _ _ us hl => match us, hl with | [_, _, _], _ => rfl, PySem.W.mg_of X G a20⟩
  have F21 := fun_mk (st := s_check_new_name) l21 c21 k21
  have D_check_new_name : Dfn K mg "check_new_name" s_check_new_name ["name", "names", "most"] f21 _ := ⟨F21, F21.binds (ps := ["name", "names", "most"]) fun _ _ _ _ _ _ us hl => match us, hl with | [_, _, _], _ => rfl, PySem.W.mg_of X G a21⟩
  have F22 := fun_mk (st := s_check_placed) l22 c22 k22
  have D_check_placed : Dfn K mg "check_placed" s_check_placed ["cedent", "panel", "insurers"] f22 _ := ⟨F22, F22.binds (ps := ["cedent", "panel", "insurers"]) fun _ _ _ _ _ _ us hl => match us, hl with | [_, _, _], _ => rfl, PySem.W.mg_of X G a22⟩
  have F23 := fun_mk (st := s_direct_losses) l23 c23 k23
  have D_direct_losses : Dfn K mg "direct_losses" s_direct_losses ["insurers", "losses", "event"] f23 _ := ⟨F23, F23.binds (ps := ["insurers", "losses", "event"]) fun _ _ _ _ _ _ us hl => match us, hl with | [_, _, _], _ => rfl, PySem.W.mg_of X G a23⟩
  have F24 := fun_mk (st := s_Market___init) l24 c24 k24
  have D_Market___init : Mki K C_Market "Market.__init__" s_Market___init ["self"] f24 _ := ⟨F24, F24.binds (ps := ["self"]) fun _ _ _ _ _ _ us hl => match us, hl with | [_], _ => rfl, ⟨cm_Market, a24, i24, ck_Market⟩⟩
  have F25 := fun_mk (st := s_Market_add_insurer) l25 c25 k25
  have D_Market_add_insurer : Mth K C_Market "add_insurer" "Market.add_insurer" s_Market_add_insurer ["self", "name"] f25 _ := ⟨F25, F25.binds (ps := ["self", "name"]) fun _ _ _ _ _ _ us hl => match us, hl with | [_, _], _ => rfl, ⟨a25, i25, k25⟩⟩
  have F26 := fun_mk (st := s_Market_add_event) l26 c26 k26
  have D_Market_add_event : Mth K C_Market "add_event" "Market.add_event" s_Market_add_event ["self", "name"] f26 _ := ⟨F26, F26.binds (ps := ["self", "name"]) fun _ _ _ _ _ _ us hl => match us, hl with | [_, _], _ => rfl, ⟨a26, i26, k26⟩⟩
  have F27 := fun_mk (st := s_Market_add_treaty) l27 c27 k27
  have D_Market_add_treaty : Mth K C_Market "add_treaty" "Market.add_treaty" s_Market_add_treaty ["self", "cedent", "cover", "panel"] f27 _ := ⟨F27, F27.binds (ps := ["self", "cedent", "cover", "panel"]) fun _ _ _ _ _ _ us hl => match us, hl with | [_, _, _, _], _ => rfl, ⟨a27, i27, k27⟩⟩
  have F28 := fun_mk (st := s_Market_set_loss) l28 c28 k28
  have D_Market_set_loss : Mth K C_Market "set_loss" "Market.set_loss" s_Market_set_loss ["self", "event", "insurer", "amount"] f28 _ := ⟨F28, F28.binds (ps := ["self", "event", "insurer", "amount"]) fun _ _ _ _ _ _ us hl => match us, hl with | [_, _, _, _], _ => rfl, ⟨a28, i28, k28⟩⟩
  have F29 := fun_mk (st := s_Market_direct) l29 c29 k29
  have D_Market_direct : Mth K C_Market "direct" "Market.direct" s_Market_direct ["self", "event"] f29 _ := ⟨F29, F29.binds (ps := ["self", "event"]) fun _ _ _ _ _ _ us hl => match us, hl with | [_, _], _ => rfl, ⟨a29, i29, k29⟩⟩
  have F30 := fun_mk (st := s_Market__check_ends) l30 c30 k30
  have D_Market__check_ends : Mth K C_Market "_check_ends" "Market._check_ends" s_Market__check_ends ["self", "treaties", "losses"] f30 _ := ⟨F30, F30.binds (ps := ["self", "treaties", "losses"]) fun _ _ _ _ _ _ us hl => match us, hl with | [_, _, _], _ => rfl, ⟨a30, i30, k30⟩⟩
  have F31 := fun_mk (st := s_law_cell) l31 c31 k31
  have D_law_cell : Dfn K mg "_law_cell" s_law_cell ["script", "k"] f31 _ := ⟨F31, F31.binds (ps := ["script", "k"]) fun _ _ _ _ _ _ us hl => match us, hl with | [_, _], _ => rfl, PySem.W.mg_of X G a31⟩
  have F32 := fun_mk (st := s_law_is_integer) l32 c32 k32
  have D_law_is_integer : Dfn K mg "_law_is_integer" s_law_is_integer ["actual"] f32 _ := ⟨F32, F32.binds (ps := ["actual"]) fun _ _ _ _ _ _ us hl => match us, hl with | [_], _ => rfl, PySem.W.mg_of X G a32⟩
  have F33 := fun_mk (st := s_law_same) l33 c33 k33
  have D_law_same : Dfn K mg "_law_same" s_law_same ["actual", "expected"] f33 _ := ⟨F33, F33.binds (ps := ["actual", "expected"]) fun _ _ _ _ _ _ us hl => match us, hl with | [_, _], _ => rfl, PySem.W.mg_of X G a33⟩
  have F34 := fun_mk (st := s_law_kind) l34 c34 k34
  have D_law_kind : Dfn K mg "_law_kind" s_law_kind ["market", "deed"] f34 _ := ⟨F34, F34.binds (ps := ["market", "deed"]) fun _ _ _ _ _ _ us hl => match us, hl with | [_, _], _ => rfl, PySem.W.mg_of X G a34⟩
  have DL : Dfn K mg "law" s_law ["script"] fa _ := ⟨fun_mk (st := s_law) l35 c35 k35, (fun_mk (st := s_law) l35 c35 k35).binds (ps := ["script"]) fun _ _ _ _ _ _ us hl => match us, hl with | [_], _ => rfl, PySem.W.mg_of X G a35⟩
  refine ⟨PySem.W.fnOf "law" "law" (defArgs s_law) (defBody s_law) (defScope s_law) .none kV35 dc35 pm35 an35 cd35 ct35, fun s v => .of_eq rfl, fun base _ _ => ?_⟩
  have G_NameTaken___init := ok_NameTaken___init (P := l.prog) (w := w) (base := base) D_NameTaken___init T
  have G_NoSuchName___init := ok_NoSuchName___init (P := l.prog) (w := w) (base := base) D_NoSuchName___init T
  have G_is_between := ok_is_between (P := l.prog) (w := w) (base := base) D_is_between T
  have G_is_name := ok_is_name (P := l.prog) (w := w) (base := base) D_is_name T
  have G_check_name := ok_check_name (P := l.prog) (w := w) (base := base) D_check_name T D_is_name G_is_name
  have G_check_known := ok_check_known (P := l.prog) (w := w) (base := base) D_check_known T D_NoSuchName___init G_NoSuchName___init
  have G_is_entry := ok_is_entry (P := l.prog) (w := w) (base := base) D_is_entry T D_is_name G_is_name D_is_between G_is_between
  have G_is_panel := ok_is_panel (P := l.prog) (w := w) (base := base) D_is_panel T D_is_entry G_is_entry
  have G_check_panel := ok_check_panel (P := l.prog) (w := w) (base := base) D_check_panel T D_is_panel G_is_panel
  have G_is_cover := ok_is_cover (P := l.prog) (w := w) (base := base) D_is_cover T D_is_between G_is_between
  have G_check_cover := ok_check_cover (P := l.prog) (w := w) (base := base) D_check_cover T D_is_cover G_is_cover
  have G_recovery := ok_recovery (P := l.prog) (w := w) (base := base) D_recovery T
  have G_programme := ok_programme (P := l.prog) (w := w) (base := base) D_programme T D_recovery G_recovery
  have G_allocate := ok_allocate (P := l.prog) (w := w) (base := base) D_allocate T
  have G_active_covers := ok_active_covers (P := l.prog) (w := w) (base := base) D_active_covers T
  have G_cede := ok_cede (P := l.prog) (w := w) (base := base) D_cede T D_active_covers G_active_covers D_programme G_programme
  have G_treaty_payments := ok_treaty_payments (P := l.prog) (w := w) (base := base) D_treaty_payments T D_cede G_cede
  have G_panel_parts := ok_panel_parts (P := l.prog) (w := w) (base := base) D_panel_parts T D_allocate G_allocate
  have G_next_gross := ok_next_gross (P := l.prog) (w := w) (base := base) D_next_gross T D_treaty_payments G_treaty_payments D_panel_parts G_panel_parts
  have G_rounds_to_end := ok_rounds_to_end (P := l.prog) (w := w) (base := base) D_rounds_to_end T D_next_gross G_next_gross
  have G_check_new_name := ok_check_new_name (P := l.prog) (w := w) (base := base) D_check_new_name T D_check_name G_check_name D_NameTaken___init G_NameTaken___init
  have G_check_placed := ok_check_placed (P := l.prog) (w := w) (base := base) D_check_placed T D_check_known G_check_known
  have G_direct_losses := ok_direct_losses (P := l.prog) (w := w) (base := base) D_direct_losses T
  have G_Market___init := ok_Market___init (P := l.prog) (w := w) (base := base) D_Market___init T
  have G_Market_add_insurer := ok_Market_add_insurer (P := l.prog) (w := w) (base := base) D_Market_add_insurer T D_check_new_name G_check_new_name
  have G_Market_add_event := ok_Market_add_event (P := l.prog) (w := w) (base := base) D_Market_add_event T D_check_new_name G_check_new_name
  have G_Market_direct := ok_Market_direct (P := l.prog) (w := w) (base := base) D_Market_direct T D_check_known G_check_known D_direct_losses G_direct_losses
  have G_Market__check_ends := ok_Market__check_ends (P := l.prog) (w := w) (base := base) D_Market__check_ends T D_rounds_to_end G_rounds_to_end D_direct_losses G_direct_losses
  have G_Market_add_treaty := ok_Market_add_treaty (P := l.prog) (w := w) (base := base) D_Market_add_treaty T D_check_name G_check_name D_check_cover G_check_cover D_check_panel G_check_panel D_check_placed G_check_placed D_Market__check_ends G_Market__check_ends
  have G_Market_set_loss := ok_Market_set_loss (P := l.prog) (w := w) (base := base) D_Market_set_loss T D_check_name G_check_name D_is_between G_is_between D_check_known G_check_known D_Market__check_ends G_Market__check_ends
  have G_law_cell := ok_law_cell (P := l.prog) (w := w) (base := base) D_law_cell T
  have G_law_is_integer := ok_law_is_integer (P := l.prog) (w := w) (base := base) D_law_is_integer T
  have G_law_same := same_all (P:=l.prog) (w:=w) (base:=base) D_law_same T D_law_is_integer G_law_is_integer 8
  have G_law_kind := ok_law_kind (P := l.prog) (w := w) (base := base) D_law_kind T D_Market_add_insurer G_Market_add_insurer D_Market_add_event G_Market_add_event D_Market_add_treaty G_Market_add_treaty D_Market_set_loss G_Market_set_loss
  exact ok_law DL T D_Market___init G_Market___init D_Market_add_insurer G_Market_add_insurer D_Market_add_event G_Market_add_event D_law_cell G_law_cell D_law_kind G_law_kind D_law_same G_law_same D_Market_direct G_Market_direct
theorem walk {l : PySem.W.OpenLaw} {q : Program} {loose : List Str} {XP : (Str → Option Value) → Heap → Prop} {YP : World → Heap → Prop} {d : DefRec} {K : Params → PySem.W.Frag} (hn : l.most = some 63) (hdf : d.params.defaults = [])
    (hY : ∀ (w : World) (h : Heap), YP w h → (K w.params).In h)
    (F : ∀ (w : World) (mg : Str → Option Value) (fa : Addr) (h : Heap), (K w.params).In h → h.Ns mainGlobals mg → mg d.name = some (.ref fa) →
      ∃ fd : FuncData, (∀ (s : Shared) (u : Value), BindsTo s fd ⟨[u], []⟩ [("script", u)]) ∧ ∀ base : Heap, (K w.params).In base → base.Ns mainGlobals mg → FnOk l.prog w (K w.params) mg base CX0 10 fa fd ["script"] (sp_law (K w.params))) :
    PySem.W.WalkO q loose XP YP l.row.toRowW d [] (fun f vs => PySem.call f vs) :=
  L2.walk_of (n := 63) (k := 10) (x := "script") (CX := fun _ => CX0) (sp := fun w => sp_law (K w.params)) hn (by decide) hdf ⟨rfl, by decide, by decide⟩ hY F (fun _ _ a ns hl _ hS => ⟨a, ns, rfl, hS, hl, fun _ => rfl⟩) fun _ _ _ _ _ z => z
end Sd

open PySem PySem.W PyProof.Rows in
set_option maxRecDepth 100000 in
set_option maxHeartbeats 0 in
theorem PySem.Challenge.cw_spiraldue_k11_values_of_wrong_kinds_holds : PySem.Challenge.rw_spiraldue_k11_values_of_wrong_kinds.Holds := by
  w_on; o_law; k_head; (case hw => w_witness2)
  k_fill
  refine Sd.walk (l := PySem.Challenge.rw_spiraldue_k11_values_of_wrong_kinds) rfl rfl (fun w h Y => PySem.W.kIn_of Y) ?F
  case F =>
    intro w mg fa h KX G hmg
    refine' Sd.all_mk KX G hmg ?a1 ?i1 ?l1 ?c1 ?k1 ?a2 ?i2 ?l2 ?c2 ?k2 ?a3 ?l3 ?c3 ?k3 ?a4 ?l4 ?c4 ?k4 ?a5 ?l5 ?c5 ?k5 ?a6 ?l6 ?c6 ?k6 ?a7 ?l7 ?c7 ?k7 ?a8 ?l8 ?c8 ?k8 ?a9 ?l9 ?c9 ?k9 ?a10 ?l10 ?c10 ?k10 ?a11 ?l11 ?c11 ?k11 ?a12 ?l12 ?c12 ?k12 ?a13 ?l13 ?c13 ?k13 ?a14 ?l14 ?c14 ?k14 ?a15 ?l15 ?c15 ?k15 ?a16 ?l16 ?c16 ?k16 ?a17 ?l17 ?c17 ?k17 ?a18 ?l18 ?c18 ?k18 ?a19 ?l19 ?c19 ?k19 ?a20 ?l20 ?c20 ?k20 ?a21 ?l21 ?c21 ?k21 ?a22 ?l22 ?c22 ?k22 ?a23 ?l23 ?c23 ?k23 ?a24 ?i24 ?l24 ?c24 ?k24 ?a25 ?i25 ?l25 ?c25 ?k25 ?a26 ?i26 ?l26 ?c26 ?k26 ?a27 ?i27 ?l27 ?c27 ?k27 ?a28 ?i28 ?l28 ?c28 ?k28 ?a29 ?i29 ?l29 ?c29 ?k29 ?a30 ?i30 ?l30 ?c30 ?k30 ?a31 ?l31 ?c31 ?k31 ?a32 ?l32 ?c32 ?k32 ?a33 ?l33 ?c33 ?k33 ?a34 ?l34 ?c34 ?k34 ?a35 ?l35 ?c35 ?k35 ?z_isinstance ?z_bool ?z_int ?z_str ?z_len ?z_all ?z_tuple ?z_sum ?z_min ?z_max ?z_divmod ?z_enumerate ?z_zip ?z_range ?z_any ?z_set ?z_list ?z_MOST_LETTERS ?z_LETTERS ?z_MOST_SHARES ?z_MOST_ENTRIES ?z_WHOLE ?z_MOST_RETENTION ?z_MOST_LIMIT ?z_LAST_ROUND ?z_MOST_GROSS ?z_MOST_DIRECT ?xg_BadName ?xx_BadName ?xk_BadName ?xb_BadName ?xt_BadName ?xd_BadName ?xs_BadName ?yg_BadName ?yk_BadName ?ya_BadName ?yn_BadName ?yt_BadName ?ym_BadName ?xg_BadCover ?xx_BadCover ?xk_BadCover ?xb_BadCover ?xt_BadCover ?xd_BadCover ?xs_BadCover ?yg_BadCover ?yk_BadCover ?ya_BadCover ?yn_BadCover ?yt_BadCover ?ym_BadCover ?xg_BadPanel ?xx_BadPanel ?xk_BadPanel ?xb_BadPanel ?xt_BadPanel ?xd_BadPanel ?xs_BadPanel ?yg_BadPanel ?yk_BadPanel ?ya_BadPanel ?yn_BadPanel ?yt_BadPanel ?ym_BadPanel ?xg_BadAmount ?xx_BadAmount ?xk_BadAmount ?xb_BadAmount ?xt_BadAmount ?xd_BadAmount ?xs_BadAmount ?yg_BadAmount ?yk_BadAmount ?ya_BadAmount ?yn_BadAmount ?yt_BadAmount ?ym_BadAmount ?xg_Twice ?xx_Twice ?xk_Twice ?xb_Twice ?xt_Twice ?xd_Twice ?xs_Twice ?xg_OwnPanel ?xx_OwnPanel ?xk_OwnPanel ?xb_OwnPanel ?xt_OwnPanel ?xd_OwnPanel ?xs_OwnPanel ?xg_TooMany ?xx_TooMany ?xk_TooMany ?xb_TooMany ?xt_TooMany ?xd_TooMany ?xs_TooMany ?xg_NoEnd ?xx_NoEnd ?xk_NoEnd ?xb_NoEnd ?xt_NoEnd ?xd_NoEnd ?xs_NoEnd ?og_NameTaken ?ol_NameTaken ?or_NameTaken ?os_NameTaken ?on_NameTaken ?ok_NameTaken ?ob_NameTaken ?ot_NameTaken ?od_NameTaken ?oi_NameTaken ?og_NoSuchName ?ol_NoSuchName ?or_NoSuchName ?os_NoSuchName ?on_NoSuchName ?ok_NoSuchName ?ob_NoSuchName ?ot_NoSuchName ?od_NoSuchName ?oi_NoSuchName ?cg_Market ?cp_Market ?ch_Market ?co_Market ?cs_Market ?cm_Market ?ck_Market ?cn_Market_insurers ?cn_Market_events ?cn_Market_treaties ?cn_Market_losses ?cc_Market_MOST_INSURERS ?cd_Market_MOST_INSURERS ?cc_Market_MOST_EVENTS ?cd_Market_MOST_EVENTS ?cc_Market_MOST_TREATIES ?cd_Market_MOST_TREATIES ?f_exCN ?f_exPN ?f_exPC ?f_exAN ?f_exAC ?f_exAP
    (case xg_BadName => first | k_is | kit_is)
    (case xg_BadCover => first | k_is | kit_is)
    (case xg_BadPanel => first | k_is | kit_is)
    (case xg_BadAmount => first | k_is | kit_is)
    (case xg_Twice => first | k_is | kit_is)
    (case xg_OwnPanel => first | k_is | kit_is)
    (case xg_TooMany => first | k_is | kit_is)
    (case xg_NoEnd => first | k_is | kit_is)
    (case og_NameTaken => first | k_is | kit_is)
    (case og_NoSuchName => first | k_is | kit_is)
    (case cg_Market => first | k_is | kit_is)
    (case a1 => k_is)
    (case i1 => k_is)
    (case l1 => k_is)
    (case c1 => k_is)
    (case k1 => k_is)
    (case a2 => k_is)
    (case i2 => k_is)
    (case l2 => k_is)
    (case c2 => k_is)
    (case k2 => k_is)
    (case a3 => k_is)
    (case l3 => k_is)
    (case c3 => k_is)
    (case k3 => k_is)
    (case a4 => k_is)
    (case l4 => k_is)
    (case c4 => k_is)
    (case k4 => k_is)
    (case a5 => k_is)
    (case l5 => k_is)
    (case c5 => k_is)
    (case k5 => k_is)
    (case a6 => k_is)
    (case l6 => k_is)
    (case c6 => k_is)
    (case k6 => k_is)
    (case a7 => k_is)
    (case l7 => k_is)
    (case c7 => k_is)
    (case k7 => k_is)
    (case a8 => k_is)
    (case l8 => k_is)
    (case c8 => k_is)
    (case k8 => k_is)
    (case a9 => k_is)
    (case l9 => k_is)
    (case c9 => k_is)
    (case k9 => k_is)
    (case a10 => k_is)
    (case l10 => k_is)
    (case c10 => k_is)
    (case k10 => k_is)
    (case a11 => k_is)
    (case l11 => k_is)
    (case c11 => k_is)
    (case k11 => k_is)
    (case a12 => k_is)
    (case l12 => k_is)
    (case c12 => k_is)
    (case k12 => k_is)
    (case a13 => k_is)
    (case l13 => k_is)
    (case c13 => k_is)
    (case k13 => k_is)
    (case a14 => k_is)
    (case l14 => k_is)
    (case c14 => k_is)
    (case k14 => k_is)
    (case a15 => k_is)
    (case l15 => k_is)
    (case c15 => k_is)
    (case k15 => k_is)
    (case a16 => k_is)
    (case l16 => k_is)
    (case c16 => k_is)
    (case k16 => k_is)
    (case a17 => k_is)
    (case l17 => k_is)
    (case c17 => k_is)
    (case k17 => k_is)
    (case a18 => k_is)
    (case l18 => k_is)
    (case c18 => k_is)
    (case k18 => k_is)
    (case a19 => k_is)
    (case l19 => k_is)
    (case c19 => k_is)
    (case k19 => k_is)
    (case a20 => k_is)
    (case l20 => k_is)
    (case c20 => k_is)
    (case k20 => k_is)
    (case a21 => k_is)
    (case l21 => k_is)
    (case c21 => k_is)
    (case k21 => k_is)
    (case a22 => k_is)
    (case l22 => k_is)
    (case c22 => k_is)
    (case k22 => k_is)
    (case a23 => k_is)
    (case l23 => k_is)
    (case c23 => k_is)
    (case k23 => k_is)
    (case a24 => k_is)
    (case i24 => k_is)
    (case l24 => k_is)
    (case c24 => k_is)
    (case k24 => k_is)
    (case a25 => k_is)
    (case i25 => k_is)
    (case l25 => k_is)
    (case c25 => k_is)
    (case k25 => k_is)
    (case a26 => k_is)
    (case i26 => k_is)
    (case l26 => k_is)
    (case c26 => k_is)
    (case k26 => k_is)
    (case a27 => k_is)
    (case i27 => k_is)
    (case l27 => k_is)
    (case c27 => k_is)
    (case k27 => k_is)
    (case a28 => k_is)
    (case i28 => k_is)
    (case l28 => k_is)
    (case c28 => k_is)
    (case k28 => k_is)
    (case a29 => k_is)
    (case i29 => k_is)
    (case l29 => k_is)
    (case c29 => k_is)
    (case k29 => k_is)
    (case a30 => k_is)
    (case i30 => k_is)
    (case l30 => k_is)
    (case c30 => k_is)
    (case k30 => k_is)
    (case a31 => k_is)
    (case l31 => k_is)
    (case c31 => k_is)
    (case k31 => k_is)
    (case a32 => k_is)
    (case l32 => k_is)
    (case c32 => k_is)
    (case k32 => k_is)
    (case a33 => k_is)
    (case l33 => k_is)
    (case c33 => k_is)
    (case k33 => k_is)
    (case a34 => k_is)
    (case l34 => k_is)
    (case c34 => k_is)
    (case k34 => k_is)
    (case a35 => k_is)
    (case l35 => k_is)
    (case c35 => k_is)
    (case k35 => k_is)
    (case z_isinstance => k_is)
    (case z_bool => k_is)
    (case z_int => k_is)
    (case z_str => k_is)
    (case z_len => k_is)
    (case z_all => k_is)
    (case z_tuple => k_is)
    (case z_sum => k_is)
    (case z_min => k_is)
    (case z_max => k_is)
    (case z_divmod => k_is)
    (case z_enumerate => k_is)
    (case z_zip => k_is)
    (case z_range => k_is)
    (case z_any => k_is)
    (case z_set => k_is)
    (case z_list => k_is)
    (case z_MOST_LETTERS => k_is)
    (case z_LETTERS => k_is)
    (case z_MOST_SHARES => k_is)
    (case z_MOST_ENTRIES => k_is)
    (case z_WHOLE => k_is)
    (case z_MOST_RETENTION => k_is)
    (case z_MOST_LIMIT => k_is)
    (case z_LAST_ROUND => k_is)
    (case z_MOST_GROSS => k_is)
    (case z_MOST_DIRECT => k_is)
    (case xx_BadName => first | k_exc | k_is | rfl)
    (case xk_BadName => first | k_is | kit_is)
    (case xb_BadName => first | k_is | kit_is)
    (case xt_BadName => first | k_is | kit_is)
    (case xd_BadName => first | k_is | kit_is)
    (case xs_BadName => first | rfl | k_is)
    (case yg_BadName => first | k_is | kit_is)
    (case yk_BadName => first | k_is | kit_is)
    (case ya_BadName => first | k_is | kit_is)
    (case yn_BadName => first | k_is | kit_is)
    (case yt_BadName => first | k_is | kit_is)
    (case ym_BadName => first | k_is | kit_is)
    (case xx_BadCover => first | k_exc | k_is | rfl)
    (case xk_BadCover => first | k_is | kit_is)
    (case xb_BadCover => first | k_is | kit_is)
    (case xt_BadCover => first | k_is | kit_is)
    (case xd_BadCover => first | k_is | kit_is)
    (case xs_BadCover => first | rfl | k_is)
    (case yg_BadCover => first | k_is | kit_is)
    (case yk_BadCover => first | k_is | kit_is)
    (case ya_BadCover => first | k_is | kit_is)
    (case yn_BadCover => first | k_is | kit_is)
    (case yt_BadCover => first | k_is | kit_is)
    (case ym_BadCover => first | k_is | kit_is)
    (case xx_BadPanel => first | k_exc | k_is | rfl)
    (case xk_BadPanel => first | k_is | kit_is)
    (case xb_BadPanel => first | k_is | kit_is)
    (case xt_BadPanel => first | k_is | kit_is)
    (case xd_BadPanel => first | k_is | kit_is)
    (case xs_BadPanel => first | rfl | k_is)
    (case yg_BadPanel => first | k_is | kit_is)
    (case yk_BadPanel => first | k_is | kit_is)
    (case ya_BadPanel => first | k_is | kit_is)
    (case yn_BadPanel => first | k_is | kit_is)
    (case yt_BadPanel => first | k_is | kit_is)
    (case ym_BadPanel => first | k_is | kit_is)
    (case xx_BadAmount => first | k_exc | k_is | rfl)
    (case xk_BadAmount => first | k_is | kit_is)
    (case xb_BadAmount => first | k_is | kit_is)
    (case xt_BadAmount => first | k_is | kit_is)
    (case xd_BadAmount => first | k_is | kit_is)
    (case xs_BadAmount => first | rfl | k_is)
    (case yg_BadAmount => first | k_is | kit_is)
    (case yk_BadAmount => first | k_is | kit_is)
    (case ya_BadAmount => first | k_is | kit_is)
    (case yn_BadAmount => first | k_is | kit_is)
    (case yt_BadAmount => first | k_is | kit_is)
    (case ym_BadAmount => first | k_is | kit_is)
    (case xx_Twice => first | k_exc | k_is | rfl)
    (case xk_Twice => first | k_is | kit_is)
    (case xb_Twice => first | k_is | kit_is)
    (case xt_Twice => first | k_is | kit_is)
    (case xd_Twice => first | k_is | kit_is)
    (case xs_Twice => first | rfl | k_is)
    (case xx_OwnPanel => first | k_exc | k_is | rfl)
    (case xk_OwnPanel => first | k_is | kit_is)
    (case xb_OwnPanel => first | k_is | kit_is)
    (case xt_OwnPanel => first | k_is | kit_is)
    (case xd_OwnPanel => first | k_is | kit_is)
    (case xs_OwnPanel => first | rfl | k_is)
    (case xx_TooMany => first | k_exc | k_is | rfl)
    (case xk_TooMany => first | k_is | kit_is)
    (case xb_TooMany => first | k_is | kit_is)
    (case xt_TooMany => first | k_is | kit_is)
    (case xd_TooMany => first | k_is | kit_is)
    (case xs_TooMany => first | rfl | k_is)
    (case xx_NoEnd => first | k_exc | k_is | rfl)
    (case xk_NoEnd => first | k_is | kit_is)
    (case xb_NoEnd => first | k_is | kit_is)
    (case xt_NoEnd => first | k_is | kit_is)
    (case xd_NoEnd => first | k_is | kit_is)
    (case xs_NoEnd => first | rfl | k_is)
    (case ol_NameTaken => first | k_is | kit_is)
    (case or_NameTaken => first | rfl | decide +kernel)
    (case os_NameTaken => first | k_is | kit_is)
    (case on_NameTaken => first | k_is | kit_is)
    (case ok_NameTaken => first | k_is | kit_is)
    (case ob_NameTaken => first | k_is | kit_is)
    (case ot_NameTaken => first | k_is | kit_is)
    (case od_NameTaken => first | k_is | kit_is)
    (case oi_NameTaken => first | rfl | k_is)
    (case ol_NoSuchName => first | k_is | kit_is)
    (case or_NoSuchName => first | rfl | decide +kernel)
    (case os_NoSuchName => first | k_is | kit_is)
    (case on_NoSuchName => first | k_is | kit_is)
    (case ok_NoSuchName => first | k_is | kit_is)
    (case ob_NoSuchName => first | k_is | kit_is)
    (case ot_NoSuchName => first | k_is | kit_is)
    (case od_NoSuchName => first | k_is | kit_is)
    (case oi_NoSuchName => first | rfl | k_is)
    (case cp_Market => first | k_is | kit_is)
    (case ch_Market => first | k_is | kit_is)
    (case co_Market => first | k_is | kit_is)
    (case cs_Market => first | k_is | kit_is)
    (case cm_Market => first | k_is | kit_is)
    (case ck_Market => first | k_is | kit_is)
    (case cn_Market_insurers => first | k_is | kit_is)
    (case cn_Market_events => first | k_is | kit_is)
    (case cn_Market_treaties => first | k_is | kit_is)
    (case cn_Market_losses => first | k_is | kit_is)
    (case cc_Market_MOST_INSURERS => first | k_is | kit_is)
    (case cd_Market_MOST_INSURERS => first | k_is | kit_is)
    (case cc_Market_MOST_EVENTS => first | k_is | kit_is)
    (case cd_Market_MOST_EVENTS => first | k_is | kit_is)
    (case cc_Market_MOST_TREATIES => first | k_is | kit_is)
    (case cd_Market_MOST_TREATIES => first | k_is | kit_is)
    (case f_exCN => first | k_is | kit_is)
    (case f_exPN => first | k_is | kit_is)
    (case f_exPC => first | k_is | kit_is)
    (case f_exAN => first | k_is | kit_is)
    (case f_exAC => first | k_is | kit_is)
    (case f_exAP => first | k_is | kit_is)
