import PyProof.Rows.All
import Wide.All
import OpenK.AllK
import Wide.FinOn
import HandS.ForMost
import HandS.Flow
import HandS.IsInst
import HandS.Wide
import HandS.WideBits
import HandS.TupAny
import HandS.Exc
import HandS.TryOnly
import HandS.ExcOwn
import HandS.WordsExc
import HandS.ExcIs
import KE.KUnpackStar
import KE.GoesNew
import KE.GoesEnum
import KE.GoesMore
import HandS.Walk
import HandS.ExcInit
import HandS.ExcField
import HandS.TryMany
import HandS.DictComp
import HandS.Strs
import KE.KDictCopyH
import HandS.TupMul
import HandS.CallLocal
import HandS.Conv
import HandS.Sort
import HandS.More
import HandS.SortInts
import HandS.IterVal
import HandS.OwnIter
import HandS.RepeatKit
import HandS.RevRange
import HandS.Rev
import HandS.RevTup
import PySem.Challenge.RW_spiraldue_k72_any_order
set_option Elab.async false
set_option maxRecDepth 100000
set_option maxHeartbeats 4000000
/-! ### P1. heaps -/
namespace Sd
open PySem PySem.Spec PyProof.Rows L2
set_option linter.all false
theorem same_new {H : Hp} {p : Addr} {o : HO} (h : H p = none) : Same H (upd H p o) := fun b u q => by
  rw [upd_ne (ne_of_none q h)]
  exact q
theorem same_put {H H' : Hp} {p : Addr} {o : HO} (s : Same H H') (h : H p = none) : Same H (upd H' p o) := fun b u q => by
  rw [upd_ne (ne_of_none q h)]
  exact s b u q
theorem same_add {H H' : Hp} {p : Addr} {o : HO} (s : Same H H') (h : H' p = none) : Same H (upd H' p o) := s.trans (same_new h)
theorem same_sqt {K : PySem.W.Frag} {H H' : Hp} {a : Addr} {xs : List V} (e : Same H H') (h : SqT K H a xs) : SqT K H' a xs := by
  rcases h with (h | ⟨o, h⟩) | h
  · exact .inl (.inl (e _ _ h))
  · exact .inl (.inr ⟨o, e _ _ h⟩)
  · exact .inr h
/-- a list or a tuple of xs -/
noncomputable def Sq (K : PySem.W.Frag) (H : Hp) (a : Addr) (xs : List V) : Prop := SqL K H a xs ∨ SqT K H a xs
/-- all but p stands as it stood -/
noncomputable def Bar (p : Addr) (H H' : Hp) : Prop := ∀ b o, b ≠ p → H b = some o → H' b = some o
theorem Bar.refl {p : Addr} (H : Hp) : Bar p H H := fun _ _ _ h => h
theorem Bar.trans {p : Addr} {H H1 H2 : Hp} (a : Bar p H H1) (b : Bar p H1 H2) : Bar p H H2 := fun c o n h => b c o n (a c o n h)
theorem Bar.of {p : Addr} {H H' : Hp} (s : Same H H') : Bar p H H' := fun b o _ h => s b o h
theorem Bar.put {p : Addr} {H H' : Hp} {o : HO} (s : Bar p H H') : Bar p H (upd H' p o) := fun b u n q => by
  rw [upd_ne n]
  exact s b u n q
theorem Bar.add {p q : Addr} {H H' : Hp} {o : HO} (s : Bar p H H') (h : H' q = none) : Bar p H (upd H' q o) := s.trans (Bar.of (same_new h))
theorem Bar.keep {p : Addr} {H0 H : Hp} (h : H0 p = none) (s : Bar p H0 H) : Same H0 H := fun b o q => s b o (ne_of_none q h) q
theorem Bar.free {p q : Addr} {H H' : Hp} (s : Bar p H H') (n : q ≠ p) (h : H' q = none) : H q = none := by
  cases e : H q with
  | none => rfl
  | some o =>
    rw [s q o n e] at h
    cases h
theorem Bar.new {p q : Addr} {H : Hp} {o : HO} (hp : H p = some o) (h : H q = none) : q ≠ p := (ne_of_none hp h).symm

theorem free2 {H : Hp} {p o : Addr} {u : HO} (np : H p = none) (no : upd H p u o = none) : H o = none := (same_new np).free no

/-! ### P2. rules -/
/-- sum(xs) of a list or a tuple of ints -/
noncomputable def rSumS (K : PySem.W.Frag) : List V → Hp → VK → Prop := fun vs H Q => ∃ (a : Addr) (ns : List Int), vs = [V.ref a] ∧ Sq K H a (ns.map V.int) ∧ Q (.int ns.sum) H
theorem cr_sumS {X : Cx} (hc : X.calm = true) : CallR X (.builtin "sum") (rSumS X.K) := by
  intro pins s σ H vs us Q I r h
  obtain ⟨a, ns, rfl, hs | hs, q⟩ := h
  · exact cr_sum hc pins s σ H _ us Q I r ⟨a, ns, rfl, hs, q⟩
  · obtain ⟨its, rv, ⟨ob, ho, hcl, n, hd⟩, _⟩ := I.tuple hs
    rw [Vals.ref1 r]
    have hi := rv.ints
    have ht : s.heap.IsTuple a its.toArray := ⟨ob, ho, hcl, n, hd⟩
    obtain ⟨xs, e⟩ := hi.allInts.items
    have hn : numsOf (intItems xs).toList = ns := by rw [← e]; exact hi.numsOf
    rw [nums_intItems] at hn
    rw [e] at ht
    refine PySem.W.ktm_sumG (I.ok.hd hc) ht fun h' tk t' hk => ?_
    rw [preSum_eq, List.take_of_length_le (by simp), hn]
    exact ⟨.int _, H, I.kept hk, ⟨_, rfl⟩, q⟩
theorem tyx_tup {K : PySem.W.Frag} {H : Hp} {a : Addr} {xs : List V} (h : SqT K H a xs) : TyX K H (.ref a) (.type "tuple") := by
  rcases h with (h | ⟨o, h⟩) | ⟨o, its, n, hk, hc, _⟩
  · exact .base (.tup h)
  · exact .fTuple h
  · exact .kTuple hk hc
/-- tuple + tuple, whichever is empty -/
theorem cat_any {K : PySem.W.Frag} {H : Hp} {a b : Addr} {xs ys : List V} {Q : VK} (ha : SqT K H a xs) (hb : SqT K H b ys) (hz : xs.length + ys.length ≤ sizeLine) (q : ∀ p H', Same H H' → SqT K H' p (xs ++ ys) → Q (.ref p) H') : rCatA K (.ref a) (.ref b) H Q := by
  refine ⟨a, b, xs, ys, rfl, rfl, ha, hb, hz, fun e => ?_, fun _ e => ?_, fun _ _ p np => q p _ (same_new np) (SqT.of upd_same)⟩
  · subst e
    exact q b H (Same.refl H) hb
  · subst e
    rw [List.append_nil] at q
    exact q a H (Same.refl H) ha
theorem pe_gi {X : Cx} {x : Str} {n : Int} {pos : Pos} (hg : Gl X x) (h : ∃ t, X.mg x = some (Value.int n t)) (hd : (x == ("__debug__" : Str)) = false := by decide) : PE X (.Name x pos) (tC (.int n)) :=
  let ⟨t, e⟩ := h
  pe_glob (v := .int n) hg e ⟨t, rfl⟩ hd
theorem pe_gs {X : Cx} {x : Str} {n : Str} {pos : Pos} (hg : Gl X x) (h : ∃ t, X.mg x = some (Value.str n t)) (hd : (x == ("__debug__" : Str)) = false := by decide) : PE X (.Name x pos) (tC (.str n)) :=
  let ⟨t, e⟩ := h
  pe_glob (v := .str n) hg e ⟨t, rfl⟩ hd
/-- an own error: a class over ValueError without a making of its own -/
structure ExF (K : PySem.W.Frag) (mg : Str → Option Value) (x : Str) (C : Addr) : Prop where
  g : mg x = some (.ref C)
  x : PySem.W.excIn K C [.type "ValueError", .type "Exception", .type "BaseException", .type "object"] "ValueError.__new__" = true
  k : PySem.W.keepIn K (.ref C) = true
  b : PySem.W.subIn K (.ref C) (.type "BaseException") = some true
  t : PySem.W.typeIn K (.ref C) = some (.type "type")
  e : PySem.W.exmOne K (.ref C) (.ref C) = some true
/-- a def of the module: where it stands, how it binds, its name -/
structure Dfn (K : PySem.W.Frag) (mg : Str → Option Value) (x : Str) (st : Stmt) (ps : List Str) (f : Addr) (fd : FuncData) : Prop where
  F : Fun K x x st f fd
  b : Binds K fd ps []
  m : mg x = some (.ref f)
theorem at_map {ns : List Int} {j : Nat} {v : Int} (h : ns[j]? = some v) : (ns.map V.int)[j]? = some (V.int v) := by
  rw [List.getElem?_map, h] <;> rfl
theorem of_at_map {ns : List Int} {j : Nat} {y : V} (h : (ns.map V.int)[j]? = some y) : ∃ v, y = V.int v ∧ ns[j]? = some v := by
  rw [List.getElem?_map] at h
  cases e : ns[j]? with
  | none =>
    rw [e] at h
    cases h
  | some v =>
    rw [e] at h
    exact ⟨v, (Option.some.inj h).symm, rfl⟩
theorem sz {n : Nat} (h : n ≤ 100000) : n ≤ sizeLine := Nat.le_trans h (by decide)
theorem szl {n : Nat} (h : n < 100000) : n < sizeLine := Nat.lt_of_lt_of_le h (by decide)
theorem iteB {A B : Prop} {b : Bool} (h1 : b = true → A) (h2 : b = false → B) : if b = true then A else B := by
  cases b with
  | true => exact iteT (h1 rfl)
  | false => exact iteF (h2 rfl)
/-- behind a statement with several ways: what holds there in all of them -/
theorem with_rest {t u : TS} {D : Ends} {σ : L2.St} {H : Hp} (M : L2.St → Hp → Prop) (h2 : ∀ σ' H', M σ' H' → u D σ' H') (h1 : (∀ σ' H', M σ' H' → u D σ' H') → t { D with nx := u D } σ H) : tSeq t u D σ H := h1 h2
theorem nx_to {i : Nat} {v : V} {σ : L2.St} {H : Hp} {Q : L2.St → Hp → Prop} (h : Q (σ.set i (some v)) H) : gName i v σ H Q := h
theorem next_to {D : Ends} {σ : L2.St} {H : Hp} (h : D.nx σ H) : tNext D σ H := h
theorem seq_to {t u : TS} {D : Ends} {σ : L2.St} {H : Hp} (h : t { D with nx := u D } σ H) : tSeq t u D σ H := h
theorem asg_to {te : TE} {g : TG} {D : Ends} {σ : L2.St} {H : Hp} (h : te σ H fun x H1 => g x σ H1 D.nx) : tAsg te g D σ H := h
end Sd

namespace Sd
open PySem PySem.Spec PyProof.Rows L2
set_option linter.all false
/-- a method: where it stands, how it binds -/
structure Mth (K : PySem.W.Frag) (C : Addr) (x q : Str) (st : Stmt) (ps : List Str) (f : Addr) (fd : FuncData) : Prop where
  F : Fun K x q st f fd
  b : Binds K fd ps []
  m : Meth K C x f
/-- an instance's __init__ -/
structure Mki (K : PySem.W.Frag) (C : Addr) (q : Str) (st : Stmt) (ps : List Str) (f : Addr) (fd : FuncData) : Prop where
  F : Fun K "__init__" q st f fd
  b : Binds K fd ps []
  m : Mk K C f
/-- an error's __init__ -/
structure Ini (K : PySem.W.Frag) (C : Addr) (q : Str) (st : Stmt) (ps : List Str) (f : Addr) (fd : FuncData) : Prop where
  F : Fun K "__init__" q st f fd
  b : Binds K fd ps []
  i : PySem.W.findIn K (.ref C) "__init__" = some (some (.ref f))
  t : PySem.W.typeIn K (.ref f) = some (.type "function")
/-- an error's class with such an __init__ -/
structure OxF (K : PySem.W.Frag) (mg : Str → Option Value) (x n : Str) (C : Addr) : Prop where
  g : mg x = some (.ref C)
  o : OexC K C
  no : PySem.W.findIn K (.ref C) n = some none
  e : PySem.W.exmOne K (.ref C) (.ref C) = some true
/-! ### a def whose promise may ask how large the heap is when it is called -/
structure FnY (P : Program) (w : World) (K : PySem.W.Frag) (mg : Str → Option Value) (base : Heap) (CX : CXT) (k : Nat) (f : Addr) (fd : FuncData) (ps : List Str) (sp : Nat → Sp) : Prop where
  len : ∀ n vs H Q E, sp n vs H Q E → vs.length = ps.length
  run : ∀ (A : Around) (outer : List Env) (s : Shared) (H : Hp) (args : Args) (us : List Value) (vs : List V) (Q : VK) (E : XK), Room k A → Env0 P w K mg base A outer s H → BindsTo s fd args (ps.zip us) → Vals vs us →
    sp s.heap.objs.size vs H Q E → codeAny (model P w) A (.call (.ref f) args) (CR CX outer P w H s Q E) s
section
variable {P : Program} {w : World} {K : PySem.W.Frag} {mg : Str → Option Value} {base : Heap}
theorem fnY_of {x qual : Str} {st : Stmt} {f : Addr} {fd : FuncData} {N ps : List Str} {k : Nat} {sp : Nat → Sp} (F : Fun K x qual st f fd) (S : FnScope N ps (defScope st)) (ln : ∀ n vs H Q E, sp n vs H Q E → vs.length = ps.length)
    (walk : ∀ (cdv : Value) (A : Around) (outer : List Env) (s : Shared) (H : Hp) (vs : List V) (Q : VK) (E : XK), Room k (A.deeper (envOfC qual (defScope st) s.heap.objs.size f cdv)) → sp s.heap.objs.size vs H Q E →
      ∃ t, PSs (cxOf CX0 P w K mg base N qual (defScope st) f cdv A outer s H E).nox (defBody st) t ∧ t { nx := fun _ H' => Q .non H', rt := Q } (start N vs) H) : FnY P w K mg base CX0 (k + 1) f fd ps sp := by
  obtain ⟨oc, od, kV, doc, pm, an, cdv, ct, osl, rfl, lk, hcd⟩ := F.ex
  constructor
  · exact ln
  intro A outer s H args us vs Q E room e0 hb r hsp
  have hlen := ln _ _ _ _ _ hsp
  have inK : K.In s.heap := e0.mod.kin.keeps fun b o e => (e0.bs b o e).1
  have nolim : s.heap.NoLimit := e0.mod.nolimit.keeps fun b o e => (e0.bs b o e).1
  refine codeAny_call_function room.depth (inK _ _ lk) rfl S.co S.gen rfl (PySem.W.codeRec_of inK hcd) (hb _ _ _ _ ?_)
  refine wpAny_newFunctionEnv_cells S.kind ?_ fun env he s1 z => ?_
  · rintro ⟨n, v⟩ hy
    exact (S.par n (List.of_mem_zip hy).1).imp id fun q => ⟨q, PySem.W.cellsFrom_some _ _ _ (.inl q)⟩
  subst he
  obtain ⟨t, ht, hq⟩ := walk cdv A outer s H vs Q E (room.deeper _) hsp
  have I0 := inv_start (CX := CX0) (N := N) (f := f) (cd := cdv) (E := E) S room.hd e0 hlen r z
  have body := ht.nox.run [] s1 (start N vs) H _ I0 hq
  refine ⟨nolim.keeps z.toInCall.keep, codeAny_func (wpAny_mono body (fun fl s' hs => ?_) fun _ _ hs => hs)⟩
  cases fl with
  | ret u =>
    obtain ⟨v, σ', H', J, rv, q⟩ := hs
    exact ⟨v, H', J.os, J.bare, J.base, J.hok, rv, q⟩
  | next =>
    obtain ⟨σ', H', J, q⟩ := hs
    exact ⟨V.non, H', J.os, J.bare, J.base, J.hok, rfl, q⟩
  | brk => exact hs.elim fun _ ⟨_, _, q⟩ => q.elim
  | cont => exact hs.elim fun _ ⟨_, _, q⟩ => q.elim
end
/-! ### own __len__; own __iter__ that gives a tuple's iterator -/
noncomputable abbrev titObj (t : Addr) (i : Nat) : Obj := { cls := .type "tuple_iterator", data := .fields #[.ref t, .int i 0] }
noncomputable def TiO (t it : Addr) : HO := .ext fun h => h.get? it = some (titObj t 0)
theorem tiO_ok {P : Program} {w : World} {H : Hp} {h : Heap} {t it : Addr} (e : h.get? it = some (titObj t 0)) : ObjOk P w H h it (TiO t it) := ⟨e, ⟨_, e⟩, fun _ _ q k => k _ q⟩
section
variable {X : Cx}
/-- iter(t), t a tuple -/
theorem call_iterT : CallR X (.builtin "iter") (fun xs H Q => ∃ (t : Addr) (zs : List V), xs = [.ref t] ∧ SqT X.K H t zs ∧ ∀ it, H it = none → X.s_0.heap.objs.size ≤ it → Q (.ref it) (upd H it (TiO t it))) := by
  intro pins s σ H xs us Q I r h
  obtain ⟨t, zs, rfl, hq, q⟩ := h
  obtain ⟨u, rfl, ru⟩ := vals1 r
  cases ru
  obtain ⟨its, rv, pl, hz⟩ := I.tuple hq
  refine Calls.call_function_entry (by decide +kernel) (by decide +kernel) PySem.W.kdk_entry_iter (PySem.W.kdk_args_iter _) ?_
  unfold Builtin.«iter»
  refine wpAny_bind (m := someArgs "iter" 1 2 _) (wpAny_of_eq (a := [Value.ref t]) (by first | rfl | kernel_rfl!) ?_)
  show wpAny _ _ (pyIter (.ref t) >>= _) _ _ _
  refine wpAny_bind (wpAny_pyIter_tuple (show s.heap.IsTuple t its.toArray from pl) ?_)
  exact wpAny_pure ⟨_, rfl, .ref s.heap.objs.size, _, I.laid (t' := s.toks) (fun b u e => Heap.get?_push_of_some _ e) (Nat.le_refl _) (tiO_ok (Heap.get?_push_size _ rfl)), rfl, q _ (I.hok.fresh (Nat.le_refl _)) I.sz⟩
/-- what such an __iter__ promises -/
noncomputable def ItTo (H : Hp) (n : Nat) (W : Addr → Prop) (v : V) (H' : Hp) : Prop := ∃ it t, v = .ref it ∧ H it = none ∧ n ≤ it ∧ H' = upd H it (TiO t it) ∧ W t
variable {CI : CXT} {C fi fl : Addr} {fdi fdl : FuncData} {spI : Nat → Sp} {spL : Sp} {k kl : Nat} {A1 : Around}
/-- the machine's iterator of an instance with such an __iter__ -/
theorem own_pyIter {pins : List (Addr × Obj)} {σ : L2.St} {H : Hp} {s : Shared} {a dx : Addr} {fs : List (Str × V)} {W : Addr → Prop} {R : Value → Shared → Prop} (sb : Sub X k A1) (hm : Meth X.K C "__iter__" fi) (G : FnY X.prog X.w X.K X.mg X.base CX0 k fi fdi ["self"] spI) (hb : Binds X.K fdi ["self"] [])
    (I : Inv X pins σ H s) (ha : H a = some (.ins C dx fs)) (h : spI s.heap.objs.size [.ref a] H (ItTo H s.heap.objs.size W) E0)
    (q : ∀ it t s2, Inv X pins σ H s2 → s2.heap.IsTupleIter it t 0 → FpOk X pins H it → s.heap.objs.size ≤ it → W t → R (.ref it) s2) :
    wpAny (model X.prog X.w) A1 (pyIter (.ref a)) R X.xe s := by
  obtain ⟨mA, J, _⟩ := ins_get I.hok ha
  obtain ⟨od, J, _⟩ := J.look
  obtain ⟨m, hF⟩ := I.fr
  refine PySem.W.owit_iter hF I.ok.mod.kin J hm.at_ hm.fn ?_
  have e0 : Env0 X.prog X.w X.K X.mg X.base A1 X.stack s H := by
    have e := I.env0
    exact ⟨by rw [sb.fr]; exact e.frames, e.mod, e.bs, e.bsz, e.funs, e.frf, e.hok, e.bare⟩
  have r2 : Vals [V.ref a] [Value.ref a] := .cons rfl .nil
  have bd := hb s [.ref a] I.kIn (by simp)
  rw [List.append_nil] at bd
  refine wpAny_call (codeAny_mono (G.run A1 X.stack s H ⟨[.ref a], []⟩ [.ref a] [.ref a] _ E0 sb.room e0 bd r2 h) fun r s' hq => ?_)
  cases r with
  | error e => exact False.elim hq
  | ok fl =>
    cases fl with
    | next => exact False.elim hq
    | brk => exact False.elim hq
    | cont => exact False.elim hq
    | ret u =>
      obtain ⟨v, H', I', rv, it, t, ev, nit, hn, eH, hW⟩ := I.after hq
      subst ev eH
      cases rv
      have hit : upd H it (TiO t it) it = some (TiO t it) := upd_same
      have eo : s'.heap.get? it = some (titObj t 0) := (I'.hok it _ hit).1
      have hT : s'.TypeIs (.ref it) "tuple_iterator" := ⟨_, eo, rfl⟩
      have fo := ItX.inv_fp I' hit (Nat.le_trans I.sz hn)
      have I2 := ItX.inv_drop I' hit
      rw [ItX.dropH_upd nit] at fo I2
      unfold PySem.W.OwitIt
      exact wpAny_specialOf (name := Str.ofString "__next__") hT PySem.F.slot_tuple_iterator_next.lookup (q it t s' I2 ⟨_, eo, rfl, rfl⟩ fo hn hW)
end
/-! ### list(e), e an instance with its own __len__ and such an __iter__ -/
section
variable {X : Cx} {pins : List (Addr × Obj)} {σ : L2.St} {C fi fl : Addr} {fdi fdl : FuncData} {spI : Nat → Sp} {spL : Sp} {k kl : Nat} {A1 : Around}
theorem tit_loop {t it S : Addr} {xs : List V} {H0 : Hp} {Rs : Result → Shared → Prop} (hA : A1.in1.handled = none) (n1 : it ≠ S) (hx : SqT X.K H0 t xs) (hS0 : H0 S = none) (hz : xs.length ≤ 100000) (done : ∀ s H, Inv X pins σ H s → Bar S H0 H → H S = some (.lst xs) → Rs (.ok (.ret .none)) s) :
    ∀ (m j : Nat) (H : Hp) (s : Shared), j + m = xs.length → Inv X pins σ H s → FpOk X pins H it → Bar S H0 H → H S = some (.lst (xs.take j)) → s.heap.IsTupleIter it t j →
      codeAny (model X.prog X.w) A1 (.builtin "list.extend.loop" ⟨[.ref S, .ref it, .none], []⟩) Rs s := by
  intro m
  induction m with
  | zero =>
    intro j H s hj I fo hb hS st
    refine codeAny_builtin PySem.F.entry_extend_loop ?_
    rw [Around.under_plainId PySem.F.plain_extend_loop _]
    show wpAny _ A1.in1 (pyNext (.ref it) >>= _) _ _ s
    obtain ⟨its, rv, pl, _⟩ := I.tuple (same_sqt (Bar.keep hS0 hb) hx)
    have lr := rv.length
    refine wpAny_bind (wpAny_pyNext_tuple_end hA st (show s.heap.IsTuple t its.toArray from pl) (by simp; omega) fun h' eb => ?_)
    obtain ⟨f0, f1, f2, f3, f4, f5⟩ := fo
    have I2 : Inv X pins σ H { s with heap := h' } := I.turned (t' := s.toks) (fun b o hb e => eb b o hb e) f0 f1 f3 f4 f5
    refine wpAny_pure (done _ H I2 hb ?_)
    rw [hS, List.take_of_length_le (by omega)]
  | succ m ih =>
    intro j H s hj I fo hb hS st
    refine codeAny_builtin PySem.F.entry_extend_loop ?_
    rw [Around.under_plainId PySem.F.plain_extend_loop _]
    show wpAny _ A1.in1 (pyNext (.ref it) >>= _) _ _ s
    obtain ⟨its, rv, pl, _⟩ := I.tuple (same_sqt (Bar.keep hS0 hb) hx)
    obtain ⟨x, hxj⟩ : ∃ x, xs[j]? = some x := ⟨_, List.getElem?_eq_getElem (by omega)⟩
    obtain ⟨u, hu, ru⟩ := rv.get hxj
    refine wpAny_bind (wpAny_pyNext_tuple_item st (show s.heap.IsTuple t its.toArray from pl) (x := u) (by simpa using hu) fun h' st' sb => ?_)
    obtain ⟨f0, f1, f2, f3, f4, f5⟩ := id fo
    have I2 : Inv X pins σ H { s with heap := h' } := I.turned (t' := s.toks) (fun b o hb e => (sb.2 b hb).trans e) f0 f1 f3 f4 f5
    show wpAny _ A1.in1 (updateSeq S (·.push u) >>= _) _ _ _
    obtain ⟨z, sits, nS, rS, lS, gS⟩ := I2.lstM hS
    have tl : (xs.take j).length = j := by
      rw [List.length_take]
      omega
    refine wpAny_bind (wpAny_updateSeq gS rfl (wpAny_pure ⟨plainId_quiet PySem.F.plain_extend_loop _, ?_⟩) (by rw [List.size_toArray]; omega) (by show (sits.toArray.push u).size ≤ sizeLine + 1; rw [Array.size_push, List.size_toArray]; omega))
    have zl : xs.take j ++ [x] = xs.take (j + 1) := by
      rw [List.take_add_one, hxj]
      rfl
    have I3 := I2.lset (f := (·.push u)) (its' := sits ++ [u]) (ys := xs.take j ++ [x]) (t' := s.toks) hS gS (by simp) (rS.append (.cons ru .nil)) (by rw [List.length_append, tl]; exact sz (by show j + 1 ≤ 100000; omega))
    have fo2 : FpOk X pins (upd H S (.lst (xs.take j ++ [x]))) it := ⟨by rw [upd_ne n1]; exact f0, f1, f2, f3, f4, f5⟩
    refine ih (j + 1) _ _ (by omega) I3 fo2 hb.put (by rw [upd_same, zl]) ?_
    obtain ⟨o, ho, hc, hd⟩ := st'
    exact ⟨o, (Heap.get?_update_other _ _ n1.symm).trans ho, hc, hd⟩
theorem call_listOwnT (hmi : Meth X.K C "__iter__" fi) (Gi : FnY X.prog X.w X.K X.mg X.base CX0 k fi fdi ["self"] spI) (bi : Binds X.K fdi ["self"] []) (hml : Meth X.K C "__len__" fl) (Gl : FnOk X.prog X.w X.K X.mg X.base CX0 kl fl fdl ["self"] spL) (bl : Binds X.K fdl ["self"] [])
    (hc : X.calm = true) (hr : Room (k + 2) X.A) (hrl : Room (kl + 3) X.A) :
    CallR X (.type "list") (fun vs H Q => ∃ a dx fs xs, vs = [.ref a] ∧ H a = some (.ins C dx fs) ∧ xs.length ≤ 100000 ∧ (∀ n H', Same H H' → spI n [.ref a] H' (ItTo H' n fun t => SqT X.K H' t xs) E0) ∧
      (∀ H', Same H H' → spL [.ref a] H' (fun v H2 => ∃ n : Nat, v = .int (n : Int) ∧ n ≤ 100000 ∧ H2 = H') E0) ∧ ∀ S H', Same H H' → H S = none → H' S = some (.lst xs) → Q (.ref S) H') := by
  intro pins s σ H xs us Q I rv h
  obtain ⟨a, dx, fs, zs, rfl, ha, hzl, hI, hL, q⟩ := h
  obtain ⟨u, rfl, ru⟩ := rv.one
  cases ru
  refine callType_codes (Q₁ := fun obj s₁ => obj = .ref s.heap.objs.size ∧ s₁ = { s with heap := s.heap.push { cls := .type "list", data := .seq #[] } }) PySem.F.called_list (PySem.F.typeCall_list_1 _) PySem.F.entry_list_init
    (code_list_new _ ⟨rfl, rfl⟩) fun obj s₁ h₁ => ?_
  obtain ⟨rfl, rfl⟩ := h₁
  have hS : (s.heap.push { cls := .type "list", data := .seq #[] }).get? s.heap.objs.size = some { cls := .type "list", data := .seq #[] } := Heap.get?_push_size _ rfl
  refine ⟨⟨_, hS, rfl⟩, PySem.F.args_list_init_2 _ _, ?_⟩
  have fr : H s.heap.objs.size = none := I.fresh
  have I1 : Inv X pins σ (upd H s.heap.objs.size (.lst [])) { s with heap := s.heap.push { cls := .type "list", data := .seq #[] } } := I.lnew (its := []) (t' := s.toks) .nil (Nat.zero_le _)
  show wpAny _ _ (do let old ← Builtin.List.listItems (.ref s.heap.objs.size); Builtin.List.listUpdate (.ref s.heap.objs.size) (fun _ => #[]); letGo old.toList.reverse; Builtin.List.listExtendWith (.ref s.heap.objs.size) (.ref a) .none) _ _ _
  refine wpAny_bind ?_
  unfold Builtin.List.listItems
  refine wpAny_bind (wpAny_seqItems hS rfl (wpAny_pure ?_))
  show wpAny _ _ (updateSeq s.heap.objs.size (fun _ => #[]) >>= fun _ => letGo (#[] : Array Value).toList.reverse >>= fun _ => Builtin.List.listExtendWith (.ref s.heap.objs.size) (.ref a) .none) _ _ _
  refine wpAny_bind (wpAny_updateSeq hS rfl ?_)
  have I2 := I1.lset (f := fun _ => #[]) (its := []) (its' := []) (ys := []) (t' := s.toks) upd_same hS rfl .nil (Nat.zero_le _)
  rw [upd_upd] at I2
  refine wpAny_bind (wpAny_letGo ?_)
  generalize hSz : s.heap.objs.size = S at I2 fr ⊢
  have sS : Same H (upd H S (.lst [])) := same_new fr
  have ha2 := sS _ _ ha
  have hne : S ≠ a := (ne_of_none ha fr).symm
  generalize hs2 : ({ s with heap := (s.heap.push { cls := .type "list", data := .seq #[] }).update S (Obj.mapSeq fun _ => #[]) } : Shared) = s2 at I2 ⊢
  have cs2 : s.os = s2.os ∧ S < s2.heap.objs.size := by
    refine ⟨by rw [← hs2], ?_⟩
    exact I2.hok.lt upd_same
  obtain ⟨mA, J, _⟩ := ins_get I2.hok ha2
  obtain ⟨od, J, _⟩ := J.look
  unfold Builtin.List.listExtendWith
  refine wpAny_bind (J.type.here ?_)
  have h1 : Builtin.List.listSameRef (.ref S) (.ref a) = false := by simp [Builtin.List.listSameRef, hne]
  have h2 : (Value.ref C == Value.type "list") = false := rfl
  have h3 : (Value.ref C == Value.type "tuple") = false := rfl
  simp only [h1, h2, h3, Bool.or_false, Bool.false_eq_true, if_false]
  have sb : Sub X k X.A.in1.in1 := Sub.in1 (Sub.in1 (⟨hr, rfl⟩ : Sub X (k + 2) X.A))
  have sbl : Sub X kl X.A.in1.in1.in1 := Sub.in1 (Sub.in1 (Sub.in1 (⟨hrl, rfl⟩ : Sub X (kl + 3) X.A)))
  refine wpAny_bind (own_pyIter (A1 := X.A.in1.in1) sb hmi Gi bi I2 ha2 (hI _ _ sS) fun it t s3 I3 st3 fo hn hW => ?_)
  have nS : it ≠ S := fun z => by
    have := cs2.2
    rw [z] at hn
    omega
  obtain ⟨mA3, J3, _⟩ := ins_get I3.hok ha2
  obtain ⟨od3, J3, _⟩ := J3.look
  obtain ⟨m3, hF3⟩ := I3.fr
  have rest : ∀ s4, Inv X pins σ (upd H S (.lst [])) s4 → s4.heap.IsTupleIter it t 0 → codeAny (model X.prog X.w) X.A.in1 (.builtin "list.extend.loop" ⟨[.ref S, .ref it, .none], []⟩) (wants (fun r s₂ => r = .none ∧ EP X pins σ Q (.ref S) s₂) X.xe) s4 := fun s4 I4 st4 =>
    tit_loop (A1 := X.A.in1) (H0 := H) (xs := zs) (I.ok.hd hc) nS (by
      have := hW
      rcases this with (h | ⟨o, h⟩) | h
      · rw [upd_ne (fun e => by rw [e, upd_same] at h; cases h)] at h
        exact .inl (.inl h)
      · rw [upd_ne (fun e => by rw [e, upd_same] at h; cases h)] at h
        exact .inl (.inr ⟨o, h⟩)
      · exact .inr h) fr hzl (fun s5 H5 I5 b5 h5 => ⟨rfl, .ref S, H5, I5, rfl, q S H5 (Bar.keep fr b5) fr h5⟩) zs.length 0 _ s4 (Nat.zero_add _) I4 fo (Bar.of sS) upd_same st4
  refine wpAny_bind (wpAny_holding ?_)
  unfold Builtin.List.listLengthHint
  refine wpAny_bind (wpAny_bind (J3.type.here ((PySem.W.looks_findIn I3.kIn hml.at_).here ?_)))
  refine PySem.W.KFB.if_not rfl ?_
  refine PySem.W.KFB.if_so rfl ?_
  refine wpAny_bind (wpAny_rule ?_)
  refine wpAny_bind (wpAny_attempt (PySem.W.len_K hF3 I3.ok.mod.kin J3 hml.at_ hml.fn ?_))
  have bd := bl s3 [.ref a] I3.kIn (by simp)
  rw [List.append_nil] at bd
  have e0 : Env0 X.prog X.w X.K X.mg X.base X.A.in1.in1.in1 X.stack s3 (upd H S (.lst [])) := I3.env0.in1.in1.in1
  refine wpAny_call (codeAny_mono (Gl.run X.A.in1.in1.in1 X.stack s3 (upd H S (.lst [])) ⟨[.ref a], []⟩ [.ref a] [.ref a] _ E0 sbl.room e0 bd (.cons rfl .nil) (hL _ sS)) fun r s' hq => ?_)
  cases r with
  | error e => exact False.elim hq
  | ok fl =>
    cases fl with
    | next => exact False.elim hq
    | brk => exact False.elim hq
    | cont => exact False.elim hq
    | ret u =>
      obtain ⟨v, H', I', rv, n, ev, hn2, eH⟩ := I3.after hq
      obtain ⟨_, _, _, _, un, _⟩ := id hq
      subst ev eH
      obtain ⟨tk, rfl⟩ := rv
      obtain ⟨oit, hoit, cit, dit⟩ := st3
      have st5 : s'.heap.IsTupleIter it t 0 := ⟨oit, un.keep it _ hoit fo.1 (fun z => (List.mem_cons.mp (I3.stkSub it z)).elim fo.2.1 fo.2.2.1) (by simp), cit, dit⟩
      refine ⟨⟨by omega, by omega⟩, ?_⟩
      have I6 := I'.tok (s'.toks + 1)
      show wpAny _ _ (if Builtin.List.listTooLong (n : Int).toNat = true then _ else _) _ _ _
      have nl : Builtin.List.listTooLong (n : Int).toNat = false := notLongL (by rw [show (n : Int).toNat = n by omega]; exact sz hn2)
      rw [nl]
      refine PySem.W.KFB.if_not rfl ?_
      refine wpAny_pure ?_
      obtain ⟨z, its, kk, r3, hl3, e3⟩ := I6.lstM upd_same
      cases r3
      refine wpAny_ite_split (fun _ => ?_) (fun _ => wpAny_pure ⟨plainId_quiet PySem.F.plain_extend_loop _, rest _ I6 st5⟩)
      refine wpAny_bind (wpAny_rule ?_)
      refine wpAny_bind ?_
      show wpAny _ _ (updateSeq S (·.push .none) >>= fun _ => updateSeq S (·.pop)) _ _ _
      refine wpAny_bind (wpAny_updateSeq e3 rfl ?_)
      have I7 := I6.lset (f := (·.push Value.none)) (its' := [Value.none]) (ys := [.non]) (t' := s'.toks + 1) upd_same e3 (by simp) (.cons rfl .nil) (by rw [List.length_singleton, sizeLine_eq]; decide)
      obtain ⟨z4, its4, k4, r4, hl4, e4⟩ := I7.lstM upd_same
      obtain ⟨u4, rfl, ru4⟩ := r4.one
      refine wpAny_updateSeq e4 rfl ?_ (by show 1 ≤ sizeLine; rw [sizeLine_eq]; decide) (by show 0 ≤ sizeLine + 1; exact Nat.zero_le _)
      refine wpAny_pure ⟨plainId_quiet PySem.F.plain_extend_loop _, rest _ ?_ ?_⟩
      · have I8 := I7.lset (f := (·.pop)) (its := [u4]) (its' := []) (ys := []) (t' := s'.toks + 1) upd_same e4 (by rfl) .nil (Nat.zero_le _)
        rw [upd_upd, upd_upd] at I8
        exact I8
      · obtain ⟨o5, ho5, hc5, hd5⟩ := st5
        exact ⟨o5, (Heap.get?_update_other _ _ nS.symm).trans ((Heap.get?_update_other _ _ nS.symm).trans ho5), hc5, hd5⟩
end
/-! ### the places -/
noncomputable def top (i : Nat) : Stmt := PySem.Challenge.pw_spiraldue_k72_any_order.main.body.getD i (.Pass ⟨0, 0, 0, 0⟩)
noncomputable abbrev s_NameTaken___init : Stmt := inClass (top 7) 0
noncomputable abbrev s_NoSuchName___init : Stmt := inClass (top 8) 0
noncomputable abbrev s_NoSuchNotice___init : Stmt := inClass (top 9) 0
noncomputable abbrev s_is_between : Stmt := top 19
noncomputable abbrev s_is_name : Stmt := top 20
noncomputable abbrev s_check_name : Stmt := top 21
noncomputable abbrev s_check_known : Stmt := top 22
noncomputable abbrev s_check_names : Stmt := top 23
noncomputable abbrev s_is_entry : Stmt := top 24
noncomputable abbrev s_is_panel : Stmt := top 25
noncomputable abbrev s_check_panel : Stmt := top 26
noncomputable abbrev s_allocate : Stmt := top 28
noncomputable abbrev s_is_cover : Stmt := top 33
noncomputable abbrev s_check_cover : Stmt := top 34
noncomputable abbrev s_recovery : Stmt := top 35
noncomputable abbrev s_programme : Stmt := top 36
noncomputable abbrev s_active_covers : Stmt := top 40
noncomputable abbrev s_cede : Stmt := top 41
noncomputable abbrev s_treaty_payments : Stmt := top 42
noncomputable abbrev s_panel_parts : Stmt := top 43
noncomputable abbrev s_part_of : Stmt := top 44
noncomputable abbrev s_next_gross : Stmt := top 45
noncomputable abbrev s_rounds_to_end : Stmt := top 46
noncomputable abbrev s_packed : Stmt := top 48
noncomputable abbrev s_own_treaties : Stmt := top 51
noncomputable abbrev s_assumed_steps : Stmt := top 52
noncomputable abbrev s_estimated_schedule : Stmt := top 53
noncomputable abbrev s_current_schedules : Stmt := top 54
noncomputable abbrev s_copied : Stmt := top 57
noncomputable abbrev s_participants : Stmt := top 58
noncomputable abbrev s_Post___init : Stmt := inClass (top 59) 0
noncomputable abbrev s_Post___len : Stmt := inClass (top 59) 1
noncomputable abbrev s_Post___iter : Stmt := inClass (top 59) 2
noncomputable abbrev s_Post_send : Stmt := inClass (top 59) 3
noncomputable abbrev s_Post_resend : Stmt := inClass (top 59) 4
noncomputable abbrev s_Post_deliver : Stmt := inClass (top 59) 5
noncomputable abbrev s_Post_drop : Stmt := inClass (top 59) 6
noncomputable abbrev s_Post_notice : Stmt := inClass (top 59) 7
noncomputable abbrev s_Post_estimated : Stmt := inClass (top 59) 8
noncomputable abbrev s_Post_pending : Stmt := inClass (top 59) 11
noncomputable abbrev s_Post_is_quiet : Stmt := inClass (top 59) 12
noncomputable abbrev s_Post__last_sequence : Stmt := inClass (top 59) 18
noncomputable abbrev s_Post__received_sequence : Stmt := inClass (top 59) 19
noncomputable abbrev s_Post__changes : Stmt := inClass (top 59) 20
noncomputable abbrev s_Post__enter : Stmt := inClass (top 59) 21
noncomputable abbrev s_Post__take_notices : Stmt := inClass (top 59) 22
noncomputable abbrev s_Post__is_worth : Stmt := inClass (top 59) 23
noncomputable abbrev s_Post__is_told : Stmt := inClass (top 59) 24
noncomputable abbrev s_check_new_name : Stmt := top 62
noncomputable abbrev s_check_placed : Stmt := top 63
noncomputable abbrev s_direct_losses : Stmt := top 64
noncomputable abbrev s_Market___init : Stmt := inClass (top 65) 3
noncomputable abbrev s_Market_add_insurer : Stmt := inClass (top 65) 4
noncomputable abbrev s_Market_add_event : Stmt := inClass (top 65) 5
noncomputable abbrev s_Market_add_treaty : Stmt := inClass (top 65) 6
noncomputable abbrev s_Market_set_loss : Stmt := inClass (top 65) 8
noncomputable abbrev s_Market_direct : Stmt := inClass (top 65) 9
noncomputable abbrev s_Market__check_ends : Stmt := inClass (top 65) 11
noncomputable abbrev s_law_cell : Stmt := top 67
noncomputable abbrev s_law_draws : Stmt := top 68
noncomputable abbrev s_law_cover : Stmt := top 69
noncomputable abbrev s_law_panel : Stmt := top 70
noncomputable abbrev s_law_filled : Stmt := top 71
noncomputable abbrev s_law_loss : Stmt := top 72
noncomputable abbrev s_law_market : Stmt := top 73
noncomputable abbrev s_law_deed : Stmt := top 74
noncomputable abbrev s_law_deeds : Stmt := top 75
noncomputable abbrev s_law_estimates : Stmt := top 76
noncomputable abbrev s_law : Stmt := top 77
structure Tx (K : PySem.W.Frag) (mg : Str → Option Value) (C_BadName C_BadCover C_BadPanel C_BadAmount C_NameTaken C_NoSuchName C_NoSuchNotice C_Twice C_OwnPanel C_TooMany C_NoEnd C_Post C_Market N_NOTHING : Addr) : Prop where
  isinstance : mg "isinstance" = none
  bool : mg "bool" = none
  int : mg "int" = none
  str : mg "str" = none
  len : mg "len" = none
  all : mg "all" = none
  tuple : mg "tuple" = none
  sum : mg "sum" = none
  divmod : mg "divmod" = none
  min : mg "min" = none
  max : mg "max" = none
  enumerate : mg "enumerate" = none
  zip : mg "zip" = none
  range : mg "range" = none
  any : mg "any" = none
  sorted : mg "sorted" = none
  iter : mg "iter" = none
  list : mg "list" = none
  set : mg "set" = none
  reversed : mg "reversed" = none
  g_MOST_LETTERS : ∃ t, mg "MOST_LETTERS" = some (Value.int 12 t)
  g_LETTERS : ∃ t, mg "LETTERS" = some (Value.str "abcdefghijklmnopqrstuvwxyz" t)
  g_MOST_SHARES : ∃ t, mg "MOST_SHARES" = some (Value.int 100 t)
  g_MOST_ENTRIES : ∃ t, mg "MOST_ENTRIES" = some (Value.int 6 t)
  g_WHOLE : ∃ t, mg "WHOLE" = some (Value.int 1000 t)
  g_MOST_RETENTION : ∃ t, mg "MOST_RETENTION" = some (Value.int 100000 t)
  g_MOST_LIMIT : ∃ t, mg "MOST_LIMIT" = some (Value.int 100000 t)
  g_LAST_ROUND : ∃ t, mg "LAST_ROUND" = some (Value.int 200 t)
  g_MOST_GROSS : ∃ t, mg "MOST_GROSS" = some (Value.int 1000000000 t)
  g_NOTHING : mg "NOTHING" = some (.ref N_NOTHING)
  k_NOTHING : ∀ H : Hp, ∃ b : Addr, SqT K H N_NOTHING [.int 0, .ref b] ∧ SqT K H b []
  g_MOST_NOTICES : ∃ t, mg "MOST_NOTICES" = some (Value.int 2000 t)
  g_MOST_DIRECT : ∃ t, mg "MOST_DIRECT" = some (Value.int 100000 t)
  ox_NameTaken : OxF K mg "NameTaken" "name" C_NameTaken
  ox_NoSuchName : OxF K mg "NoSuchName" "name" C_NoSuchName
  ox_NoSuchNotice : OxF K mg "NoSuchNotice" "number" C_NoSuchNotice
  cl_Post : Cls K C_Post
  m_Post : mg "Post" = some (.ref C_Post)
  no_Post_market : NoAttr K C_Post "market"
  no_Post_notices : NoAttr K C_Post "notices"
  no_Post_is_kept : NoAttr K C_Post "is_kept"
  no_Post_numbers : NoAttr K C_Post "numbers"
  no_Post_last : NoAttr K C_Post "last"
  no_Post_received : NoAttr K C_Post "received"
  no_Post_paid : NoAttr K C_Post "paid"
  cl_Market : Cls K C_Market
  m_Market : mg "Market" = some (.ref C_Market)
  no_Market_insurers : NoAttr K C_Market "insurers"
  no_Market_events : NoAttr K C_Market "events"
  no_Market_treaties : NoAttr K C_Market "treaties"
  no_Market_losses : NoAttr K C_Market "losses"
  con_Market_MOST_INSURERS : ∃ u, Con K C_Market "MOST_INSURERS" (.int 6) u
  con_Market_MOST_EVENTS : ∃ u, Con K C_Market "MOST_EVENTS" (.int 3) u
  con_Market_MOST_TREATIES : ∃ u, Con K C_Market "MOST_TREATIES" (.int 16) u
  exc_BadName : ExF K mg "BadName" C_BadName
  exc_BadCover : ExF K mg "BadCover" C_BadCover
  exc_BadPanel : ExF K mg "BadPanel" C_BadPanel
  exc_BadAmount : ExF K mg "BadAmount" C_BadAmount
  exc_Twice : ExF K mg "Twice" C_Twice
  exc_OwnPanel : ExF K mg "OwnPanel" C_OwnPanel
  exc_TooMany : ExF K mg "TooMany" C_TooMany
  exc_NoEnd : ExF K mg "NoEnd" C_NoEnd
  isx_NoEnd : ExcC K C_NoEnd
theorem sc_NameTaken___init : FnScope ["self", "name"] ["self", "name"] (defScope s_NameTaken___init) := ⟨rfl, rfl, rfl, by decide +kernel, rfl, by decide +kernel, by decide +kernel⟩
theorem sc_NoSuchName___init : FnScope ["self", "name"] ["self", "name"] (defScope s_NoSuchName___init) := ⟨rfl, rfl, rfl, by decide +kernel, rfl, by decide +kernel, by decide +kernel⟩
theorem sc_NoSuchNotice___init : FnScope ["self", "number"] ["self", "number"] (defScope s_NoSuchNotice___init) := ⟨rfl, rfl, rfl, by decide +kernel, rfl, by decide +kernel, by decide +kernel⟩
theorem sc_is_between : FnScope ["value", "low", "high"] ["value", "low", "high"] (defScope s_is_between) := ⟨rfl, rfl, rfl, by decide +kernel, rfl, by decide +kernel, by decide +kernel⟩
theorem sc_is_name : FnScope ["value", "letter"] ["value"] (defScope s_is_name) := ⟨rfl, rfl, rfl, by decide +kernel, rfl, by decide +kernel, by decide +kernel⟩
theorem sc_check_name : FnScope ["value"] ["value"] (defScope s_check_name) := ⟨rfl, rfl, rfl, by decide +kernel, rfl, by decide +kernel, by decide +kernel⟩
theorem sc_check_known : FnScope ["name", "names"] ["name", "names"] (defScope s_check_known) := ⟨rfl, rfl, rfl, by decide +kernel, rfl, by decide +kernel, by decide +kernel⟩
theorem sc_check_names : FnScope ["market", "event", "insurer"] ["market", "event", "insurer"] (defScope s_check_names) := ⟨rfl, rfl, rfl, by decide +kernel, rfl, by decide +kernel, by decide +kernel⟩
theorem sc_is_entry : FnScope ["value", "participant", "shares"] ["value"] (defScope s_is_entry) := ⟨rfl, rfl, rfl, by decide +kernel, rfl, by decide +kernel, by decide +kernel⟩
theorem sc_is_panel : FnScope ["value", "entry", "_", "shares"] ["value"] (defScope s_is_panel) := ⟨rfl, rfl, rfl, by decide +kernel, rfl, by decide +kernel, by decide +kernel⟩
theorem sc_check_panel : FnScope ["value"] ["value"] (defScope s_check_panel) := ⟨rfl, rfl, rfl, by decide +kernel, rfl, by decide +kernel, by decide +kernel⟩
theorem sc_allocate : FnScope ["amount", "shares", "cycles", "rest", "parts", "share", "extra"] ["amount", "shares"] (defScope s_allocate) := ⟨rfl, rfl, rfl, by decide +kernel, rfl, by decide +kernel, by decide +kernel⟩
theorem sc_is_cover : FnScope ["value", "word", "numbers"] ["value"] (defScope s_is_cover) := ⟨rfl, rfl, rfl, by decide +kernel, rfl, by decide +kernel, by decide +kernel⟩
theorem sc_check_cover : FnScope ["value"] ["value"] (defScope s_check_cover) := ⟨rfl, rfl, rfl, by decide +kernel, rfl, by decide +kernel, by decide +kernel⟩
theorem sc_recovery : FnScope ["cover", "loss", "_", "retention", "limit"] ["cover", "loss"] (defScope s_recovery) := ⟨rfl, rfl, rfl, by decide +kernel, rfl, by decide +kernel, by decide +kernel⟩
theorem sc_programme : FnScope ["covers", "loss", "paid", "rest", "cover", "amount"] ["covers", "loss"] (defScope s_programme) := ⟨rfl, rfl, rfl, by decide +kernel, rfl, by decide +kernel, by decide +kernel⟩
theorem sc_active_covers : FnScope ["treaties", "cedent", "number", "owner", "cover", "_", "ended"] ["treaties", "cedent"] (defScope s_active_covers) := ⟨rfl, rfl, rfl, by decide +kernel, rfl, by decide +kernel, by decide +kernel⟩
theorem sc_cede : FnScope ["treaties", "cedent", "loss", "covers", "amounts", "net", "_", "cover", "number", "amount"] ["treaties", "cedent", "loss"] (defScope s_cede) := ⟨rfl, rfl, rfl, by decide +kernel, rfl, by decide +kernel, by decide +kernel⟩
theorem sc_treaty_payments : FnScope ["insurers", "treaties", "gross", "paid", "cedent", "loss", "amounts", "_", "number", "amount"] ["insurers", "treaties", "gross"] (defScope s_treaty_payments) := ⟨rfl, rfl, rfl, by decide +kernel, rfl, by decide +kernel, by decide +kernel⟩
theorem sc_panel_parts : FnScope ["panel", "amount", "_", "shares"] ["panel", "amount"] (defScope s_panel_parts) := ⟨rfl, rfl, rfl, by decide +kernel, rfl, by decide +kernel, by decide +kernel⟩
theorem sc_part_of : FnScope ["panel", "name", "amount", "parts", "participant", "_", "part"] ["panel", "name", "amount"] (defScope s_part_of) := ⟨rfl, rfl, rfl, by decide +kernel, rfl, by decide +kernel, by decide +kernel⟩
theorem sc_next_gross : FnScope ["insurers", "treaties", "direct", "gross", "losses", "paid", "cedent", "cover", "panel", "ended", "amount", "participant", "_", "part", "insurer", "loss"] ["insurers", "treaties", "direct", "gross"] (defScope s_next_gross) := ⟨rfl, rfl, rfl, by decide +kernel, rfl, by decide +kernel, by decide +kernel⟩
theorem sc_rounds_to_end : FnScope ["insurers", "treaties", "direct", "rows", "_", "behind", "loss"] ["insurers", "treaties", "direct"] (defScope s_rounds_to_end) := ⟨rfl, rfl, rfl, by decide +kernel, rfl, by decide +kernel, by decide +kernel⟩
theorem sc_packed : FnScope ["rows", "pairs", "ahead", "number", "amount"] ["rows"] (defScope s_packed) := ⟨rfl, rfl, rfl, by decide +kernel, rfl, by decide +kernel, by decide +kernel⟩
theorem sc_own_treaties : FnScope ["market", "insurer", "number", "cedent", "_"] ["market", "insurer"] (defScope s_own_treaties) := ⟨rfl, rfl, rfl, by decide +kernel, rfl, by decide +kernel, by decide +kernel⟩
theorem sc_assumed_steps : FnScope ["market", "received", "event", "insurer", "steps", "number", "_", "panel", "schedule", "ahead", "start", "amount", "part"] ["market", "received", "event", "insurer"] (defScope s_assumed_steps) := ⟨rfl, rfl, rfl, by decide +kernel, rfl, by decide +kernel, by decide +kernel⟩
theorem sc_estimated_schedule : FnScope ["market", "received", "event", "insurer", "steps", "loss", "rows", "number"] ["market", "received", "event", "insurer"] (defScope s_estimated_schedule) := ⟨rfl, rfl, rfl, by decide +kernel, rfl, by decide +kernel, by decide +kernel⟩
theorem sc_current_schedules : FnScope ["market", "received", "event", "insurer", "losses", "rows", "start", "loss", "number", "amounts"] ["market", "received", "event", "insurer"] (defScope s_current_schedules) := ⟨rfl, rfl, rfl, by decide +kernel, rfl, by decide +kernel, by decide +kernel⟩
theorem sc_copied : FnScope ["table", "key"] ["table"] (defScope s_copied) := ⟨rfl, rfl, rfl, by decide +kernel, rfl, by decide +kernel, by decide +kernel⟩
theorem sc_participants : FnScope ["panel", "participant", "_"] ["panel"] (defScope s_participants) := ⟨rfl, rfl, rfl, by decide +kernel, rfl, by decide +kernel, by decide +kernel⟩
theorem sc_Post___init : FnScope ["self", "market"] ["self", "market"] (defScope s_Post___init) := ⟨rfl, rfl, rfl, by decide +kernel, rfl, by decide +kernel, by decide +kernel⟩
theorem sc_Post___len : FnScope ["self"] ["self"] (defScope s_Post___len) := ⟨rfl, rfl, rfl, by decide +kernel, rfl, by decide +kernel, by decide +kernel⟩
theorem sc_Post___iter : FnScope ["self"] ["self"] (defScope s_Post___iter) := ⟨rfl, rfl, rfl, by decide +kernel, rfl, by decide +kernel, by decide +kernel⟩
theorem sc_Post_send : FnScope ["self", "insurer", "changes", "last", "number", "event", "schedule", "numbers", "_"] ["self", "insurer"] (defScope s_Post_send) := ⟨rfl, rfl, rfl, by decide +kernel, rfl, by decide +kernel, by decide +kernel⟩
theorem sc_Post_resend : FnScope ["self", "insurer", "keys", "number", "event"] ["self", "insurer"] (defScope s_Post_resend) := ⟨rfl, rfl, rfl, by decide +kernel, rfl, by decide +kernel, by decide +kernel⟩
theorem sc_Post_deliver : FnScope ["self", "number", "recipient", "treaty", "event", "sequence", "schedule", "received"] ["self", "number"] (defScope s_Post_deliver) := ⟨rfl, rfl, rfl, by decide +kernel, rfl, by decide +kernel, by decide +kernel⟩
theorem sc_Post_drop : FnScope ["self", "number", "index"] ["self", "number"] (defScope s_Post_drop) := ⟨rfl, rfl, rfl, by decide +kernel, rfl, by decide +kernel, by decide +kernel⟩
theorem sc_Post_notice : FnScope ["self", "number"] ["self", "number"] (defScope s_Post_notice) := ⟨rfl, rfl, rfl, by decide +kernel, rfl, by decide +kernel, by decide +kernel⟩
theorem sc_Post_estimated : FnScope ["self", "event", "insurer"] ["self", "event", "insurer"] (defScope s_Post_estimated) := ⟨rfl, rfl, rfl, by decide +kernel, rfl, by decide +kernel, by decide +kernel⟩
theorem sc_Post_pending : FnScope ["self", "insurers", "numbers", "insurer", "number"] ["self"] (defScope s_Post_pending) := ⟨rfl, rfl, rfl, by decide +kernel, rfl, by decide +kernel, by decide +kernel⟩
theorem sc_Post_is_quiet : FnScope ["self", "insurer", "number"] ["self"] (defScope s_Post_is_quiet) := ⟨rfl, rfl, rfl, by decide +kernel, rfl, by decide +kernel, by decide +kernel⟩
theorem sc_Post__last_sequence : FnScope ["self", "number", "event"] ["self", "number", "event"] (defScope s_Post__last_sequence) := ⟨rfl, rfl, rfl, by decide +kernel, rfl, by decide +kernel, by decide +kernel⟩
theorem sc_Post__received_sequence : FnScope ["self", "recipient", "number", "event"] ["self", "recipient", "number", "event"] (defScope s_Post__received_sequence) := ⟨rfl, rfl, rfl, by decide +kernel, rfl, by decide +kernel, by decide +kernel⟩
theorem sc_Post__changes : FnScope ["self", "insurer", "market", "current", "event", "number"] ["self", "insurer"] (defScope s_Post__changes) := ⟨rfl, rfl, rfl, by decide +kernel, rfl, by decide +kernel, by decide +kernel⟩
theorem sc_Post__enter : FnScope ["self", "keys", "last", "rows", "ahead", "numbers", "number", "event", "recipient"] ["self", "keys", "last"] (defScope s_Post__enter) := ⟨rfl, rfl, rfl, by decide +kernel, rfl, by decide +kernel, by decide +kernel⟩
theorem sc_Post__take_notices : FnScope ["self"] ["self"] (defScope s_Post__take_notices) := ⟨rfl, rfl, rfl, by decide +kernel, rfl, by decide +kernel, by decide +kernel⟩
theorem sc_Post__is_worth : FnScope ["self", "number", "recipient", "treaty", "event", "sequence", "_"] ["self", "number"] (defScope s_Post__is_worth) := ⟨rfl, rfl, rfl, by decide +kernel, rfl, by decide +kernel, by decide +kernel⟩
theorem sc_Post__is_told : FnScope ["self", "number", "insurers", "event", "insurer"] ["self", "number"] (defScope s_Post__is_told) := ⟨rfl, rfl, rfl, by decide +kernel, rfl, by decide +kernel, by decide +kernel⟩
theorem sc_check_new_name : FnScope ["name", "names", "most"] ["name", "names", "most"] (defScope s_check_new_name) := ⟨rfl, rfl, rfl, by decide +kernel, rfl, by decide +kernel, by decide +kernel⟩
theorem sc_check_placed : FnScope ["cedent", "panel", "insurers", "participants", "participant", "_"] ["cedent", "panel", "insurers"] (defScope s_check_placed) := ⟨rfl, rfl, rfl, by decide +kernel, rfl, by decide +kernel, by decide +kernel⟩
theorem sc_direct_losses : FnScope ["insurers", "losses", "event", "insurer"] ["insurers", "losses", "event"] (defScope s_direct_losses) := ⟨rfl, rfl, rfl, by decide +kernel, rfl, by decide +kernel, by decide +kernel⟩
theorem sc_Market___init : FnScope ["self"] ["self"] (defScope s_Market___init) := ⟨rfl, rfl, rfl, by decide +kernel, rfl, by decide +kernel, by decide +kernel⟩
theorem sc_Market_add_insurer : FnScope ["self", "name"] ["self", "name"] (defScope s_Market_add_insurer) := ⟨rfl, rfl, rfl, by decide +kernel, rfl, by decide +kernel, by decide +kernel⟩
theorem sc_Market_add_event : FnScope ["self", "name"] ["self", "name"] (defScope s_Market_add_event) := ⟨rfl, rfl, rfl, by decide +kernel, rfl, by decide +kernel, by decide +kernel⟩
theorem sc_Market_add_treaty : FnScope ["self", "cedent", "cover", "panel", "number", "treaties"] ["self", "cedent", "cover", "panel"] (defScope s_Market_add_treaty) := ⟨rfl, rfl, rfl, by decide +kernel, rfl, by decide +kernel, by decide +kernel⟩
theorem sc_Market_set_loss : FnScope ["self", "event", "insurer", "amount", "losses", "key"] ["self", "event", "insurer", "amount"] (defScope s_Market_set_loss) := ⟨rfl, rfl, rfl, by decide +kernel, rfl, by decide +kernel, by decide +kernel⟩
theorem sc_Market_direct : FnScope ["self", "event"] ["self", "event"] (defScope s_Market_direct) := ⟨rfl, rfl, rfl, by decide +kernel, rfl, by decide +kernel, by decide +kernel⟩
theorem sc_Market__check_ends : FnScope ["self", "treaties", "losses", "event"] ["self", "treaties", "losses"] (defScope s_Market__check_ends) := ⟨rfl, rfl, rfl, by decide +kernel, rfl, by decide +kernel, by decide +kernel⟩
theorem sc_law_cell : FnScope ["script", "k"] ["script", "k"] (defScope s_law_cell) := ⟨rfl, rfl, rfl, by decide +kernel, rfl, by decide +kernel, by decide +kernel⟩
theorem sc_law_draws : FnScope ["cell", "count", "result", "rest", "k", "mixed"] ["cell", "count"] (defScope s_law_draws) := ⟨rfl, rfl, rfl, by decide +kernel, rfl, by decide +kernel, by decide +kernel⟩
theorem sc_law_cover : FnScope ["n", "at"] ["n", "at"] (defScope s_law_cover) := ⟨rfl, rfl, rfl, by decide +kernel, rfl, by decide +kernel, by decide +kernel⟩
theorem sc_law_panel : FnScope ["n", "at", "names", "panel", "k"] ["n", "at", "names"] (defScope s_law_panel) := ⟨rfl, rfl, rfl, by decide +kernel, rfl, by decide +kernel, by decide +kernel⟩
theorem sc_law_filled : FnScope ["market", "cell", "n", "name", "event", "k", "cedent", "others"] ["market", "cell"] (defScope s_law_filled) := ⟨rfl, rfl, rfl, by decide +kernel, rfl, by decide +kernel, by decide +kernel⟩
theorem sc_law_loss : FnScope ["market", "digit", "event", "insurer"] ["market", "digit"] (defScope s_law_loss) := ⟨rfl, rfl, rfl, by decide +kernel, rfl, by decide +kernel, by decide +kernel⟩
theorem sc_law_market : FnScope ["cell"] ["cell"] (defScope s_law_market) := ⟨rfl, rfl, rfl, by decide +kernel, rfl, by decide +kernel, by decide +kernel⟩
theorem sc_law_deed : FnScope ["post", "digit", "more", "market", "name", "numbers"] ["post", "digit", "more"] (defScope s_law_deed) := ⟨rfl, rfl, rfl, by decide +kernel, rfl, by decide +kernel, by decide +kernel⟩
theorem sc_law_deeds : FnScope ["post", "cell", "count", "n", "k"] ["post", "cell", "count"] (defScope s_law_deeds) := ⟨rfl, rfl, rfl, by decide +kernel, rfl, by decide +kernel, by decide +kernel⟩
theorem sc_law_estimates : FnScope ["post", "found", "event", "name"] ["post"] (defScope s_law_estimates) := ⟨rfl, rfl, rfl, by decide +kernel, rfl, by decide +kernel, by decide +kernel⟩
theorem sc_law : FnScope ["script", "posts", "count", "post", "numbers", "number", "before", "k"] ["script"] (defScope s_law) := ⟨rfl, rfl, rfl, by decide +kernel, rfl, by decide +kernel, by decide +kernel⟩
/-! ### C1. a cell of the script -/
noncomputable def cell (ns : List Int) (j : Nat) : Int := ns.getD j 0
theorem cell_in {ns : List Int} {j : Nat} (h : j < ns.length) : ns[j]? = some (cell ns j) := by
  unfold cell
  rw [List.getElem?_eq_getElem h, List.getD_eq_getElem?_getD, List.getElem?_eq_getElem h]
  rfl
theorem cell_out {ns : List Int} {j : Nat} (h : ¬ j < ns.length) : cell ns j = 0 := by
  unfold cell
  rw [List.getD_eq_getElem?_getD, List.getElem?_eq_none (by omega)]
  rfl
noncomputable def sp_law_cell (K : PySem.W.Frag) : Sp := fun vs H Q _ => ∃ (a : Addr) (ns : List Int) (j : Nat), vs = [.ref a, .int (j : Int)] ∧ SqL K H a (ns.map V.int) ∧ Q (.int (cell ns j)) H
/-! ### C2. digits of a cell: as many as are asked, each from 0 to 59 -/
/-! ### C3. a stream of digits: the digits and the place; only the place changes -/
/-! ### C4. the same data -/
theorem DpAll.ints {K : PySem.W.Frag} {H : Hp} : ∀ ns : List Int, DpAll K H (ns.map V.int) (ns.map PyData.int)
  | [] => .nil
  | n :: r => .cons (.int n) (DpAll.ints r)
/-! ### A1. the division -/
noncomputable def cut2 (s r : Int) : Int := if r < s then r else s
noncomputable def go (c : Int) : Int → List Int → List Int
  | _, [] => []
  | r, s :: t => (s * c + cut2 s r) :: go c (r - cut2 s r) t
noncomputable def alloc (a : Int) (sh : List Int) : List Int := go (a / sh.sum) (a % sh.sum) sh
theorem go_len (c : Int) : ∀ (r : Int) (sh : List Int), (go c r sh).length = sh.length
  | _, [] => rfl
  | r, s :: t => congrArg Nat.succ (go_len c _ t)
theorem alloc_len (a : Int) (sh : List Int) : (alloc a sh).length = sh.length := go_len _ _ _
noncomputable def Pos (sh : List Int) : Prop := ∀ s ∈ sh, 1 ≤ s
theorem Pos.tail {s : Int} {t : List Int} (h : Pos (s :: t)) : Pos t := fun x hx => h x (List.mem_cons_of_mem _ hx)
theorem Pos.head {s : Int} {t : List Int} (h : Pos (s :: t)) : 1 ≤ s := h s List.mem_cons_self
theorem Pos.sum0 : ∀ {sh : List Int}, Pos sh → 0 ≤ sh.sum
  | [], _ => by simp
  | s :: t, h => by
    have h1 := h.head
    have h2 := Pos.sum0 h.tail
    rw [List.sum_cons]
    omega
theorem Pos.sum1 {sh : List Int} (h : Pos sh) (hn : sh ≠ []) : 0 < sh.sum := by
  cases sh with
  | nil => exact absurd rfl hn
  | cons s t =>
    have h1 := h.head
    have h2 := Pos.sum0 h.tail
    rw [List.sum_cons]
    omega
theorem go_zero_sum (c : Int) : ∀ (r : Int) (sh : List Int), Pos sh → 0 ≤ r → r ≤ sh.sum → (go c r sh).sum = sh.sum * c + r
  | r, [], _, h0, h1 => by
    simp at h1
    have e : r = 0 := by omega
    subst e
    simp [go]
  | r, s :: t, hp, h0, h1 => by
    rw [List.sum_cons] at h1
    have h2 := Pos.sum0 hp.tail
    have h3 := hp.head
    show ((s * c + cut2 s r) :: go c (r - cut2 s r) t).sum = (s :: t).sum * c + r
    have hc : 0 ≤ r - cut2 s r ∧ r - cut2 s r ≤ t.sum := by
      unfold cut2
      split <;> omega
    rw [List.sum_cons, List.sum_cons, go_zero_sum c _ t hp.tail hc.1 hc.2, Int.add_mul]
    omega
theorem alloc_sum (a : Int) (sh : List Int) (hp : Pos sh) (hn : sh ≠ []) : (alloc a sh).sum = a := by
  have h1 := hp.sum1 hn
  have h2 := Int.emod_nonneg a (show sh.sum ≠ 0 by omega)
  have h3 := Int.emod_lt_of_pos a h1
  unfold alloc
  rw [go_zero_sum _ _ _ hp h2 (by omega)]
  exact Int.mul_ediv_add_emod a sh.sum
theorem alloc_zero (sh : List Int) (hp : Pos sh) : alloc 0 sh = sh.map fun _ => 0 := by
  unfold alloc
  rw [Int.zero_ediv, Int.zero_emod]
  induction sh with
  | nil => rfl
  | cons s t ih =>
    have h := hp.head
    have e0 : cut2 s 0 = 0 := by
      unfold cut2
      rw [if_pos (by omega)]
    show (s * 0 + cut2 s 0) :: go 0 (0 - cut2 s 0) t = 0 :: t.map fun _ => 0
    rw [e0, Int.mul_zero, Int.sub_self, ih hp.tail]
    rfl
theorem alloc_nonneg {a : Int} {sh : List Int} (hp : Pos sh) (h0 : 0 ≤ a) : ∀ x ∈ alloc a sh, 0 ≤ x ∧ x ≤ a := by
  by_cases hn : sh = []
  · subst hn
    intro x hx
    exact (nomatch hx)
  have pos : ∀ (c r : Int) (sh : List Int), Pos sh → 0 ≤ c → 0 ≤ r → ∀ x ∈ go c r sh, 0 ≤ x := by
    intro c r sh
    induction sh generalizing r with
    | nil =>
      intro _ _ _ x hx
      exact (nomatch hx)
    | cons s t ih =>
      intro hp hc hr x hx
      have h1 := hp.head
      have hm : 0 ≤ s * c := Int.mul_nonneg (by omega) hc
      have hcut : 0 ≤ cut2 s r ∧ 0 ≤ r - cut2 s r := by
        unfold cut2
        split <;> omega
      rcases List.mem_cons.mp hx with e | hx
      · omega
      · exact ih _ hp.tail hc hcut.2 x hx
  have hS := hp.sum1 hn
  have h1 : ∀ x ∈ alloc a sh, 0 ≤ x := pos _ _ sh hp (Int.ediv_nonneg h0 (by omega)) (Int.emod_nonneg _ (by omega))
  have le : ∀ (xs : List Int), (∀ x ∈ xs, 0 ≤ x) → 0 ≤ xs.sum ∧ ∀ x ∈ xs, x ≤ xs.sum := by
    intro xs
    induction xs with
    | nil => exact fun _ => ⟨by simp, fun x hx => nomatch hx⟩
    | cons y t ih =>
      intro h
      obtain ⟨i1, i2⟩ := ih fun x hx => h x (List.mem_cons_of_mem _ hx)
      have h2 := h y List.mem_cons_self
      rw [List.sum_cons]
      refine ⟨by omega, fun x hx => ?_⟩
      rcases List.mem_cons.mp hx with e | hx
      · omega
      · have := i2 x hx
        omega
  intro x hx
  have := (le _ h1).2 x hx
  rw [alloc_sum a sh hp hn] at this
  exact ⟨h1 x hx, this⟩
/-! ### the program's two defs -/
structure Shs (K : PySem.W.Frag) (H : Hp) (s : Addr) (sh : List Int) : Prop where
  sq : Sq K H s (sh.map V.int)
  pos : Pos sh
  ne : sh ≠ []
  sum : sh.sum ≤ 100000
theorem le_sum : ∀ {sh : List Int}, Pos sh → ∀ x ∈ sh, x ≤ sh.sum
  | [], _, x, hx => nomatch hx
  | s :: t, hp, x, hx => by
    have h1 := hp.head
    have h2 := Pos.sum0 hp.tail
    rw [List.sum_cons]
    rcases List.mem_cons.mp hx with e | hx
    · omega
    · have := le_sum hp.tail x hx
      omega
theorem len_sum : ∀ {sh : List Int}, Pos sh → (sh.length : Int) ≤ sh.sum
  | [], _ => by simp
  | s :: t, hp => by
    have h1 := hp.head
    have h2 := len_sum hp.tail
    rw [List.sum_cons, List.length_cons]
    omega
noncomputable def sp_allocate (K : PySem.W.Frag) : Sp := fun vs H Q _ => ∃ (a : Int) (s : Addr) (sh : List Int), vs = [.int a, .ref s] ∧ Shs K H s sh ∧
  ∀ (p : Addr) (H' : Hp), Same H H' → H p = none → H' p = some (.tup ((alloc a sh).map V.int)) → Q (.ref p) H'
theorem go_step {c r : Int} {sh : List Int} {i : Nat} {v : Int} (h : sh[i]? = some v) : go c r (sh.drop i) = (v * c + cut2 v r) :: go c (r - cut2 v r) (sh.drop (i + 1)) := by
  obtain ⟨h1, h2⟩ := List.getElem?_eq_some_iff.mp h
  rw [List.drop_eq_getElem_cons h1, h2]
  rfl
/-! ### V1. covers -/
inductive Cov where
  | share (p : Int)
  | layer (r l : Int)
noncomputable def cvV : Cov → List V
  | .share p => [.str "share", .int p]
  | .layer r l => [.str "layer", .int r, .int l]
noncomputable def CvOk : Cov → Prop
  | .share p => 1 ≤ p ∧ p ≤ 1000
  | .layer r l => 0 ≤ r ∧ r ≤ 100000 ∧ 1 ≤ l ∧ l ≤ 100000
noncomputable def pays : Cov → Int → Int
  | .share p, x => p * x / 1000
  | .layer r l, x => if x ≤ r then 0 else if x - r > l then l else x - r
theorem share_layer : ¬ ("layer" : Str) = "share" := by decide +kernel
theorem pays_range {c : Cov} (h : CvOk c) {x : Int} (h0 : 0 ≤ x) : 0 ≤ pays c x ∧ pays c x ≤ x := by
  cases c with
  | share p =>
    obtain ⟨h1, h2⟩ := h
    show 0 ≤ p * x / 1000 ∧ p * x / 1000 ≤ x
    have a : 0 ≤ p * x := Int.mul_nonneg (by omega) h0
    have b : p * x ≤ 1000 * x := Int.mul_le_mul_of_nonneg_right h2 h0
    omega
  | layer r l =>
    obtain ⟨h1, h2, h3, h4⟩ := h
    show 0 ≤ (if x ≤ r then 0 else if x - r > l then l else x - r) ∧ (if x ≤ r then 0 else if x - r > l then l else x - r) ≤ x
    by_cases b : x ≤ r
    · rw [if_pos b]
      omega
    · rw [if_neg b]
      by_cases d : x - r > l
      · rw [if_pos d]
        omega
      · rw [if_neg d]
        omega
noncomputable def sp_recovery (K : PySem.W.Frag) : Sp := fun vs H Q _ => ∃ (a : Addr) (c : Cov) (x : Int), vs = [.ref a, .int x] ∧ SqT K H a (cvV c) ∧ CvOk c ∧ Q (.int (pays c x)) H
theorem max_min (r l x : Int) (h : 1 ≤ l) : (if l < (if (0 : Int) > x - r then 0 else x - r) then l else (if (0 : Int) > x - r then 0 else x - r)) = (if x ≤ r then 0 else if x - r > l then l else x - r) := by
  by_cases b : x ≤ r
  · rw [if_pos b]
    by_cases c : (0 : Int) > x - r
    · rw [if_pos c, if_neg (by omega)]
    · rw [if_neg c, if_neg (by omega)]
      omega
  · rw [if_neg b, if_neg (show ¬ (0 : Int) > x - r by omega)]
/-! ### a, *b = a tuple -/
section
open PySem.W PySem.Calls
variable {prog : Program} {w : World} {A : Around} {E : Value → Shared → Prop} {s : Shared}
theorem star_items {l : Addr} {its : Array Value} {n i : Nat} {Q : List Value → Shared → Prop} (ht : IsTup s.heap l its)
    (calm : A.handled = none) (hin : i < n) (hni : n ≤ its.size + 1) (few : its.size ≤ 16384)
    (q : ∀ (h2 : Heap) (tk : Nat), (∀ b o, s.heap.get? b = some o → h2.get? b = some o) →
      Q (its.toList.take i ++ [.ref h2.objs.size] ++ (its.toList.drop i).drop (its.size + 1 - n))
        { s with heap := h2.push { cls := .type "list", data := .seq ((its.toList.drop i).take (its.size + 1 - n)).toArray }, toks := tk }) :
    wpAny (model prog w) A (unpackItems (.ref l) n (some i)) Q E s := by
  have below : l < s.heap.objs.size := by
    obtain ⟨o, e, _⟩ := ht
    exact Heap.lt_size e
  have apart : l ≠ s.heap.objs.size := Nat.ne_of_lt below
  unfold unpackItems notIterableAtAll
  refine wpAny_bind (wpAny_bind (wpAny_specialOf ht.typeIs
    slot_tuple_iter.lookup (wpAny_pure ?_)))
  rw [if_neg Bool.false_ne_true]
  refine wpAny_bind (wpAny_holding
    (iter_tuple ht ?_))
  have ahead : (its.toList.take i).length = i := by
    rw [List.length_take, Array.length_toList]
    omega
  have behind : (its.toList.drop i).length = its.size - i := by
    rw [List.length_drop, Array.length_toList]
  refine wpAny_bind (wpAny_holding (draw_tuple apart i 0 _ _
    ⟨_, Heap.get?_push_size _ rfl, rfl, rfl⟩ (ht.push _) (by omega) fun h1 at1 same1 => ?_))
  have tup1 : IsTup h1 l its :=
    (ht.push _).extBut same1.extBut apart
  rw [Nat.zero_add] at at1
  have there : ∃ o, h1.get? s.heap.objs.size = some o := by
    obtain ⟨o, e, _⟩ := at1
    exact ⟨o, e⟩
  have there2 : ∃ o, h1.get? l = some o := by
    obtain ⟨o, e, _⟩ := tup1
    exact ⟨o, e⟩
  obtain ⟨o1, e1⟩ := there
  obtain ⟨o2, e2⟩ := there2
  rw [List.drop_zero, if_neg (show ¬ (its.toList.take i).length < i by omega)]
  refine wpAny_bind (wpAny_holding (kun_collect (s := { s with heap := h1 })
    (T := "tuple_iterator") (.inr (.inr (.inr rfl)))
    (Walks.tuple (A := A.in1) calm s.heap.objs.size l apart its)
    (fun _ _ st => st.1.typeIs) (k := i) (by omega) ⟨at1, tup1⟩
    (Heap.lt_size e1) (Heap.lt_size e2) (fun h2 tk keep2 => ?_)
    (by rw [sizeLine_eq]; omega)))
  have mid : (its.toList.drop i).length - (n - 1 - i) = its.size + 1 - n := by
    omega
  show wpAny _ _ (if _ < n - 1 - i then _ else _) _ _ _
  rw [if_neg (show ¬ (its.toList.drop i).length < n - 1 - i by omega)]
  have kept : ∀ b o, s.heap.get? b = some o → h2.get? b = some o := fun b o e =>
    have nb : b ≠ s.heap.objs.size := Nat.ne_of_lt (Heap.lt_size e)
    keep2 b o nb (same1.extBut b o nb (Heap.get?_push_of_some _ e))
  show wpAny _ _ (newList _ >>= _) _ _ _
  rw [mid]
  exact wpAny_bind (wpAny_newList (wpAny_pure
    (q h2 tk kept))
    (by rw [List.length_take, sizeLine_eq]; omega))
end
noncomputable def gStar (K : PySem.W.Frag) (n i : Nat) (t : TGs) : TG := fun v σ H Q => ∃ a xs, v = .ref a ∧ SqT K H a xs ∧ n ≤ xs.length + 1 ∧ xs.length ≤ 16384 ∧
  ∀ D, H D = none → t (xs.take i ++ [.ref D] ++ (xs.drop i).drop (xs.length + 1 - n)) σ (upd H D (.lst ((xs.drop i).take (xs.length + 1 - n)))) Q
section
variable {X : Cx}
theorem pgs_star {e : Expr} {es : List Expr} {p : PySem.Pos} {t : TG} {u : TGs} (h1 : PG X e t) (h2 : PGs X es u)
    (hs : (assignEach (.Starred e p :: es) X.env).map (·.2) = assign e X.env :: (assignEach es X.env).map (·.2) := by rfl) : PGs X (.Starred e p :: es) (gCons t u) := by
  refine ⟨fun pins s σ H vs us Q I r h => ?_⟩
  obtain ⟨v, vr, rfl, h⟩ := h
  cases r with
  | cons r rr =>
    rw [hs]
    exact assignInOrder_cons (thn (h1.run pins s σ H _ _ _ I r h) fun _ s1 ⟨σ1, H1, I1, q1⟩ => h2.run pins s1 σ1 H1 _ _ Q I1 rr q1)
theorem pg_star {es : List Expr} {k : Nat} {pos : PySem.Pos} {t : TGs} {n i : Nat} (hc : X.calm = true) (h : PGs X es t) (hi : i < n)
    (hn : (assignEach es X.env).length = n := by rfl) (hst : (assignEach es X.env).findIdx? (·.1) = some i := by rfl) : PG X (.Tuple es k pos) (gStar X.K n i t) := by
  refine ⟨fun pins s σ H v u Q I r hw => ?_⟩
  obtain ⟨a, xs, rfl, hq, hl, hz, hw⟩ := hw
  cases r
  obtain ⟨its, rv, ht, _⟩ := I.tuple hq
  have el := rv.length
  rw [assign_Tuple]
  refine wpAny_bind (wpAny_standAt ?_)
  unfold unpack
  rw [hn, hst]
  refine wpAny_bind (wpAny_holding (star_items ht (I.ok.hd hc) hi (by rw [List.size_toArray]; omega) (by rw [List.size_toArray]; omega) fun h2 tk kept => ?_))
  have I2 : Inv X pins σ H { s with heap := h2 } := I.kept (t' := s.toks) kept
  have nD : H h2.objs.size = none := I2.hok.fresh (Nat.le_refl _)
  have hw := hw _ nD
  have esz : its.toArray.size = xs.length := by rw [List.size_toArray]; exact el.symm
  rw [esz]
  have ok : ObjOk X.prog X.w (upd H h2.objs.size (.lst ((xs.drop i).take (xs.length + 1 - n)))) (h2.push { cls := .type "list", data := .seq ((its.drop i).take (xs.length + 1 - n)).toArray }) h2.objs.size (.lst ((xs.drop i).take (xs.length + 1 - n))) :=
    ⟨by rw [List.length_take, List.length_drop, sizeLine_eq]; omega, _, _, (rv.drop i).take _, Heap.get?_push_size _ rfl⟩
  have I3 := I2.laid (t' := tk) (fun b o e => Heap.get?_push_of_some _ e) (Nat.le_refl _) ok
  exact h.run pins _ σ _ _ _ Q I3 (((rv.take i).append (.cons (show RelV (V.ref h2.objs.size) (Value.ref h2.objs.size) from rfl) .nil)).append ((rv.drop i).drop _)) hw
end
/-! ### what is a cover -/
noncomputable def btw : V → Int → Int → Bool
  | .int i, lo, hi => decide (lo ≤ i) && decide (i ≤ hi)
  | _, _, _ => false
noncomputable def isCov : List V → Bool
  | [.str w, x] => decide (w = "share") && btw x 1 1000
  | [.str w, x, y] => decide (w = "layer") && (btw x 0 100000 && btw y 1 100000)
  | _ => false
/-- a value that is no cover: no tuple, or a tuple of flat things -/
noncomputable def NoCov (K : PySem.W.Frag) (H : Hp) (x : V) : Prop :=
  (∃ t, TyX K H x t ∧ PySem.W.kitOne K t (.type "tuple") = some false) ∨ ∃ (a : Addr) (xs : List V), x = .ref a ∧ SqT K H a xs ∧ xs.length ≤ 1000 ∧ xs.all flatV = true ∧ isCov xs = false
/-- a value that is one -/
noncomputable def IsCovV (K : PySem.W.Frag) (H : Hp) (x : V) : Prop := ∃ (a : Addr) (c : Cov), x = .ref a ∧ SqT K H a (cvV c) ∧ CvOk c
theorem isCov_cvV {c : Cov} (h : CvOk c) : isCov (cvV c) = true := by
  cases c with
  | share p =>
    obtain ⟨h1, h2⟩ := h
    show (decide (("share" : Str) = "share") && (decide (1 ≤ p) && decide (p ≤ 1000))) = true
    rw [decide_eq_true rfl, decide_eq_true h1, decide_eq_true h2]
    rfl
  | layer r l =>
    obtain ⟨h1, h2, h3, h4⟩ := h
    show (decide (("layer" : Str) = "layer") && ((decide (0 ≤ r) && decide (r ≤ 100000)) && (decide (1 ≤ l) && decide (l ≤ 100000)))) = true
    rw [decide_eq_true rfl, decide_eq_true h1, decide_eq_true h2, decide_eq_true h3, decide_eq_true h4]
    rfl
theorem cv_len (c : Cov) : (cvV c).length ≤ 1000 := by
  cases c with
  | share p => exact (show 2 ≤ 1000 by decide)
  | layer r l => exact (show 3 ≤ 1000 by decide)
theorem flat_cvV (c : Cov) : (cvV c).all flatV = true := by
  cases c <;> rfl
/-- what is known of a value that is asked whether it is an integer -/
noncomputable def NumV (K : PySem.W.Frag) (H : Hp) (x : V) : Prop := ∃ n, TyX K H x (.type n) ∧ ((n = "bool" ∧ ∃ b, x = .bl b) ∨ (n = "int" ∧ ∃ i, x = .int i) ∨ ((n = "str" ∨ n = "NoneType" ∨ n = "tuple" ∨ n = "list" ∨ n = "dict") ∧ ∀ lo hi, btw x lo hi = false))
noncomputable def sp_is_between (K : PySem.W.Frag) : Sp := fun vs H Q _ => ∃ (x : V) (lo hi : Int), vs = [x, .int lo, .int hi] ∧ NumV K H x ∧ Q (.bl (btw x lo hi)) H
noncomputable def sp_is_cover (K : PySem.W.Frag) : Sp := fun vs H Q _ => ∃ x : V, vs = [x] ∧
  ((∃ t, TyX K H x t ∧ PySem.W.kitOne K t (.type "tuple") = some false ∧ Q (.bl false) H) ∨
    ∃ (a : Addr) (xs : List V), x = .ref a ∧ SqT K H a xs ∧ xs.length ≤ 1000 ∧ xs.all flatV = true ∧ ∀ H', Same H H' → Q (.bl (isCov xs)) H')
theorem ty_flat {K : PySem.W.Frag} {H : Hp} {x : V} (h : flatV x = true) : NumV K H x := by
  cases x with
  | non => exact ⟨_, .base .non, .inr (.inr ⟨.inr (.inl rfl), fun _ _ => rfl⟩)⟩
  | bl b => exact ⟨_, .base (.bl b), .inl ⟨rfl, b, rfl⟩⟩
  | int i => exact ⟨_, .base (.int i), .inr (.inl ⟨rfl, i, rfl⟩)⟩
  | str z => exact ⟨_, .base (.str z), .inr (.inr ⟨.inl rfl, fun _ _ => rfl⟩)⟩
  | byt _ => cases h
  | flt _ => cases h
  | ref _ => cases h
  | ty _ => cases h
noncomputable def sp_check_cover (K : PySem.W.Frag) (C : Addr) : Sp := fun vs H Q E => ∃ x : V, vs = [x] ∧ ((IsCovV K H x ∧ ∀ H', Same H H' → Q .non H') ∨ (NoCov K H x ∧ ∀ H', Same H H' → E (.ref C) none H'))
/-! ### programmes -/
noncomputable def prog : List Cov → Int → List Int × Int
  | [], x => ([], x)
  | c :: t, x => (pays c x :: (prog t (x - pays c x)).1, (prog t (x - pays c x)).2)
theorem prog_len : ∀ (cs : List Cov) (x : Int), (prog cs x).1.length = cs.length
  | [], _ => rfl
  | _ :: t, _ => congrArg Nat.succ (prog_len t _)
theorem prog_sum : ∀ (cs : List Cov) (x : Int), (prog cs x).1.sum + (prog cs x).2 = x
  | [], x => by
    show ([] : List Int).sum + x = x
    rw [List.sum_nil]
    omega
  | c :: t, x => by
    have ih := prog_sum t (x - pays c x)
    show (pays c x :: (prog t (x - pays c x)).1).sum + (prog t (x - pays c x)).2 = x
    rw [List.sum_cons]
    omega
noncomputable def AllOk (cs : List Cov) : Prop := ∀ c ∈ cs, CvOk c
/-- a list of covers stands there -/
noncomputable def CovsAt (K : PySem.W.Frag) (H : Hp) (vs : List V) (cs : List Cov) : Prop := vs.length = cs.length ∧ ∀ (i : Nat) (c : Cov), cs[i]? = some c → ∃ a : Addr, vs[i]? = some (V.ref a) ∧ SqT K H a (cvV c) ∧ CvOk c
theorem CovsAt.get {K : PySem.W.Frag} {H : Hp} {vs : List V} {cs : List Cov} (h : CovsAt K H vs cs) {i : Nat} {y : V} (e : vs[i]? = some y) : ∃ a c, y = .ref a ∧ cs[i]? = some c ∧ SqT K H a (cvV c) ∧ CvOk c := by
  have hi := (List.getElem?_eq_some_iff.mp e).1
  have hlt : i < cs.length := by
    rw [← h.1]
    exact hi
  have hc : cs[i]? = some cs[i] := List.getElem?_eq_getElem hlt
  obtain ⟨a, h1, h2, h3⟩ := h.2 i _ hc
  rw [e] at h1
  exact ⟨a, _, Option.some.inj h1, hc, h2, h3⟩
noncomputable def sp_programme (K : PySem.W.Frag) : Sp := fun vs H Q _ => ∃ (s : Addr) (x : Int) (ys : List V) (cs : List Cov), vs = [.ref s, .int x] ∧ Sq K H s ys ∧ CovsAt K H ys cs ∧ cs.length ≤ 1000 ∧
  ∀ (t p : Addr) (H' : Hp), Same H H' → H' t = some (.tup ((prog cs x).1.map V.int)) → H' p = some (.tup [.ref t, .int (prog cs x).2]) → Q (.ref p) H'
theorem prog_step {cs : List Cov} {i : Nat} {c : Cov} {r : Int} (h : cs[i]? = some c) : prog (cs.drop i) r = (pays c r :: (prog (cs.drop (i + 1)) (r - pays c r)).1, (prog (cs.drop (i + 1)) (r - pays c r)).2) := by
  obtain ⟨h1, h2⟩ := List.getElem?_eq_some_iff.mp h
  rw [List.drop_eq_getElem_cons h1, h2]
  rfl
/-! ### I1. enumerate(v), whatever v is -/
section
variable {prog : Program} {w : World} {A : Around} {E : Value → Shared → Prop} {s : Shared}
set_option maxHeartbeats 1000000 in
theorem enum_new1 {v : Value} {o : Obj} {S : Heap → Prop} (B : Begins v o S) :
    Meets (Builtin.«enumerate.__new__» ⟨[.type "enumerate", v], []⟩) (fun _ R s => S s.heap ∧
      R (.ok (.ret (.ref (s.heap.push o).objs.size)))
        { s with heap := (s.heap.push o).push { cls := .type "enumerate", data := .fields #[.none, .bool false, .ref s.heap.objs.size, rawInt 0, .none, .none] } }) :=
  .of_wp fun prog w A R s h => by
    obtain ⟨hp, gs, dr, tk, os⟩ := s
    obtain ⟨src, h⟩ := h
    have hsub := sub_enumerate
    have first : ∀ {A' : Around} {E' : Value → Shared → Prop} {Q' : Value → Shared → Prop},
        Q' (.ref hp.objs.size) ⟨hp.push o, gs, dr, tk, os⟩ → wpAny (model prog w) A' (pyIter v) Q' E' ⟨hp, gs, dr, tk, os⟩ :=
      fun q => B.iter prog w _ _ ⟨hp, gs, dr, tk, os⟩ _ src q
    wp_walk using first
    refine wpAny_stack_any fun _ =>
      wpAny_pure ?_
    split
    · rename_i c _ _ _ _ _
      cases (c == Value.type "enumerate") <;>
        (wp_walk using first; exact ⟨_, rfl, h⟩)
    · wp_walk using first
      exact ⟨_, rfl, h⟩
theorem enum_begins1 {v : Value} {o : Obj} {S : Heap → Prop} {Q : Value → Shared → Prop} (B : Begins v o S) (src : S s.heap)
    (q : ∀ h', IsEnum h' (s.heap.objs.size + 1) s.heap.objs.size 0 .none → h'.get? s.heap.objs.size = some o →
      (∀ b u, s.heap.get? b = some u → h'.get? b = some u) → Q (.ref (s.heap.objs.size + 1)) { s with heap := h' }) :
    wpAny (model prog w) A (call (.type "enumerate") [v]) Q E s := by
  refine callType_new F.called_enumerate (by decide) (F.typeCall_enumerate_1 _)
    (F.newCall_enumerate_1 _) (fun obj => F.args_object_init_2 obj _) F.entry_enumerate_new (enum_new1 B) ⟨src, ?_⟩
  have size1 : (s.heap.push o).objs.size = s.heap.objs.size + 1 := Heap.size_push ..
  show _ ∧ _
  rw [size1]
  have made : IsEnum ((s.heap.push o).push { cls := .type "enumerate", data := .fields #[.none, .bool false, .ref s.heap.objs.size, rawInt 0, .none, .none] })
      (s.heap.objs.size + 1) s.heap.objs.size 0 .none := by
    have z := Heap.get?_push_size (s.heap.push o)
      (o := { cls := .type "enumerate", data := .fields #[.none, .bool false, .ref s.heap.objs.size, rawInt 0, .none, .none] }) rfl
    rw [size1] at z
    exact z
  exact ⟨⟨_, made, rfl⟩, q _ made (Heap.get?_push_of_some _ (Heap.get?_push_size _ B.free))
    fun b u e => Heap.get?_push_of_some _ (Heap.get?_push_of_some _ e)⟩
end
/-! ### I2. a list or a tuple that is walked; tp: is it a tuple -/
noncomputable def SqK (tp : Bool) (K : PySem.W.Frag) (H : Hp) (a : Addr) (xs : List V) : Prop := match tp with
  | true => SqT K H a xs
  | false => SqL K H a xs
noncomputable def SAt (tp : Bool) (h : Heap) (a : Addr) (its : Array Value) : Prop := match tp with
  | true => h.IsTuple a its
  | false => h.IsList a its
noncomputable def SIt (tp : Bool) (h : Heap) (it a : Addr) (i : Nat) : Prop := match tp with
  | true => h.IsTupleIter it a i
  | false => h.IsListIter it a i
noncomputable def sObj (tp : Bool) (a : Addr) : Obj := match tp with
  | true => { cls := .type "tuple_iterator", data := .fields #[.ref a, .int 0 0] }
  | false => { cls := .type "list_iterator", data := .fields #[.ref a, .int 0 0] }
theorem s_begins (tp : Bool) (a : Addr) (its : Array Value) : Begins (.ref a) (sObj tp a) fun h => SAt tp h a its := by
  cases tp with
  | true => exact begins_tuple a its
  | false => exact begins_list a its
theorem s_it0 {tp : Bool} {h : Heap} {it a : Addr} (e : h.get? it = some (sObj tp a)) : SIt tp h it a 0 := by
  cases tp with
  | true => exact ⟨_, e, rfl, rfl⟩
  | false => exact ⟨_, e, rfl, rfl⟩
theorem s_obj {tp : Bool} {h : Heap} {it a : Addr} {i : Nat} (x : SIt tp h it a i) : ∃ o, h.get? it = some o ∧ ∀ v, o.data ≠ .cell v := by
  cases tp with
  | true =>
    obtain ⟨o, e, _, d⟩ := x
    exact ⟨o, e, fun v q => by rw [d] at q; cases q⟩
  | false =>
    obtain ⟨o, e, _, d⟩ := x
    exact ⟨o, e, fun v q => by rw [d] at q; cases q⟩
theorem s_keep {tp : Bool} {h h' : Heap} {it a : Addr} {i : Nat} (x : SIt tp h it a i) (k : ∀ o, h.get? it = some o → h'.get? it = some o) : SIt tp h' it a i := by
  cases tp with
  | true => exact Heap.IsTupleIter.at x k
  | false => exact Heap.IsListIter.at x k
theorem s_draws {prog : Program} {w : World} {A : Around} (tp : Bool) (calm : A.handled = none) (it a : Addr) (ne : a ≠ it) (its : Array Value) :
    Draws prog w A it [it, a] its.size (fun i v => its[i]? = some v) (fun i h => SIt tp h it a i ∧ SAt tp h a its) := by
  cases tp with
  | true => exact Draws.tuple calm it a ne its
  | false => exact Draws.list calm it a ne its
section
variable {X : Cx} {pins : List (Addr × Obj)} {σ : L2.St} {H : Hp} {s : Shared}
theorem src_of {tp : Bool} {a : Addr} {xs : List V} (I : Inv X pins σ H s) (h : SqK tp X.K H a xs) : ∃ its : List Value, Vals xs its ∧ SAt tp s.heap a its.toArray ∧ a < s.heap.objs.size := by
  cases tp with
  | true =>
    obtain ⟨its, rv, p, _⟩ := I.tuple h
    obtain ⟨o, e, _⟩ := id p
    exact ⟨its, rv, p, Heap.lt_size e⟩
  | false =>
    obtain ⟨its, rv, p, _⟩ := I.list h
    exact ⟨its, rv, p.isList, p.lt⟩
theorem src_inj {tp : Bool} {a : Addr} {xs ys : List V} (I : Inv X pins σ H s) (h : SqK tp X.K H a xs) (h' : SqK tp X.K H a ys) : xs = ys := by
  cases tp with
  | true => exact I.tuple_inj h h'
  | false => exact I.list_inj h h'
/-- a turn that hands out a new pair -/
theorem item_pair {tg : Expr} {it : Addr} {fp' wr fp : List Addr} {n i : Nat} {Y : Nat → Heap → Value → Heap → Prop} {St : Nat → Heap → Prop} {E : Value → Shared → Prop} {x y : V} {tn : Nat → Heap → Prop}
    (W : GoesN X.prog X.w X.A tg it fp' wr n Y St) (I : Inv X pins σ H s) (hf : ∀ b ∈ fp, FpOk X pins H b) (hw : ∀ b ∈ wr, b ∈ fp) (old : ∀ b ∈ fp, b < s.heap.objs.size) (hi : i < n) (st : St i s.heap)
    (hY : ∀ v h', Y i s.heap v h' → ∃ T u1 u2, v = .ref T ∧ s.heap.objs.size ≤ T ∧ h'.IsTuple T #[u1, u2] ∧ RelV x u1 ∧ RelV y u2) (ht : ∀ h', St (i + 1) h' → tn (i + 1) h') :
    wpAny (model X.prog X.w) X.A (pyNext (.ref it)) (fun r s1 => ∃ u, r = some u ∧ wpAny (model X.prog X.w) X.A (letOwnedTupleGo tg (.ref it) u)
      (fun _ s2 => ∃ v H', Inv X pins σ H' s2 ∧ RelV v u ∧ (∃ T, v = .ref T ∧ H T = none ∧ H' = upd H T (.tup [x, y])) ∧ tn (i + 1) s2.heap ∧ ∀ b ∈ fp, H' b = none) E s1) E s := by
  refine W.goes i s _ E hi st fun v h' tk hy st' hk _ => ?_
  obtain ⟨T, u1, u2, rfl, big, ⟨o, ho, hc, m, hd⟩, r1, r2⟩ := hY v h' hy
  have new : ObjOk X.prog X.w (upd H T (.tup [x, y])) h' T (.tup [x, y]) := ⟨by show 2 ≤ sizeLine; decide, [u1, u2], .cons r1 (.cons r2 .nil), ⟨o, ho, hc, m, hd⟩⟩
  have J : Inv X pins σ (upd H T (.tup [x, y])) { s with heap := h', toks := tk } := I.turnedNew (t' := tk) (ch := fp) (fun b u hb e => hk b u (fun z => hb (hw b z)) e) hf big new
  refine ⟨.ref T, _, J, rfl, ⟨T, rfl, I.hok.fresh big, rfl⟩, ht _ st', fun b hb => ?_⟩
  rw [upd_ne (Nat.ne_of_lt (Nat.lt_of_lt_of_le (old b hb) big))]
  exact (hf b hb).1
theorem item_done {it : Addr} {tg : Expr} {fp' wr fp : List Addr} {n : Nat} {Y : Nat → Heap → Value → Heap → Prop} {St : Nat → Heap → Prop} {E : Value → Shared → Prop}
    (W : GoesN X.prog X.w X.A tg it fp' wr n Y St) (I : Inv X pins σ H s) (hf : ∀ b ∈ fp, FpOk X pins H b) (hw : ∀ b ∈ wr, b ∈ fp) (st : St n s.heap) :
    wpAny (model X.prog X.w) X.A (pyNext (.ref it)) (fun r s1 => r = none ∧ Inv X pins σ H s1) E s :=
  W.stops s _ E st fun h' tk hk _ => I.turnedL (t' := tk) (ch := fp) (fun b u hb e => hk b u (fun z => hb (hw b z)) e) hf
end
/-! ### I3. for i, x in enumerate(list or tuple) -/
noncomputable def ItE (K : PySem.W.Frag) (tp : Bool) (a : Addr) : It :=
  ⟨fun i H => ∃ (xs : List V) (x : V), SqK tp K H a xs ∧ xs[i]? = some x,
    fun i H v H' => ∃ T x, v = .ref T ∧ H T = none ∧ H' = upd H T (.tup [.int (i : Nat), x]) ∧ ∀ xs, SqK tp K H a xs → xs[i]? = some x,
    fun i H => ∃ xs : List V, SqK tp K H a xs ∧ xs.length = i⟩
theorem turn_E {P : Program} {w : World} {K : PySem.W.Frag} {elts : List Expr} {kk : Nat} {tpos : PySem.Pos} {tp : Bool} {a e it : Addr} (h1 : e ≠ it) (h2 : e ≠ a) (h3 : a ≠ it) :
    Turn P w K (.Tuple elts kk tpos) (ItE K tp a) [e, it] e (fun i h => (∃ old, IsEnum h e it (0 + (i : Int)) old) ∧ SIt tp h it a i) where
  mem := List.mem_cons_self
  obj := fun i h st b hb => by
    obtain ⟨⟨old, he⟩, hi⟩ := st
    rcases List.mem_cons.mp hb with rfl | hb
    · exact ⟨_, he, fun v q => nomatch q⟩
    · cases List.mem_singleton.mp hb
      exact s_obj hi
  keep := fun i h h' st k => by
    obtain ⟨⟨old, he⟩, hi⟩ := st
    exact ⟨⟨old, k e List.mem_cons_self _ he⟩, s_keep hi fun o q => k it (List.mem_cons_of_mem _ List.mem_cons_self) o q⟩
  item := by
    intro X hP hw hK hc i pins s σ H E I hf st hg
    subst hP hw hK
    obtain ⟨xs, x, hq, hx⟩ := hg
    obtain ⟨its, rv, src, _⟩ := src_of I hq
    obtain ⟨u, hu, ru⟩ := rv.get hx
    have D := s_draws (prog := X.prog) (w := X.w) (A := X.A.in1) tp (I.ok.hd hc) it a h3 its.toArray
    have W := GoesN.enumFrom (elts := elts) (x1 := kk) (pos := tpos) 0 D e h1 (by simp [h1, h2]) List.mem_cons_self
    obtain ⟨⟨old, he⟩, hi⟩ := id st
    have old2 : ∀ b ∈ [e, it], b < s.heap.objs.size := fun b hb => by
      rcases List.mem_cons.mp hb with rfl | hb
      · exact Heap.lt_size he
      · cases List.mem_singleton.mp hb
        obtain ⟨o, eo, _⟩ := s_obj hi
        exact Heap.lt_size eo
    have hlt : i < its.toArray.size := by
      have := (List.getElem?_eq_some_iff.mp hu).1
      rw [List.size_toArray]
      exact this
    refine thn (item_pair (tn := fun i h => (∃ old, IsEnum h e it (0 + (i : Int)) old) ∧ SIt tp h it a i) (x := .int (i : Nat)) (y := x) W I hf (fun b hb => hb) old2 hlt ⟨st.1, st.2, src⟩ ?_ (fun h' z => (⟨z.1, z.2.1⟩ : (∃ old, IsEnum h' e it (0 + ((i + 1 : Nat) : Int)) old) ∧ SIt tp h' it a (i + 1)))) fun r s1 h => ?_
    · rintro v h' ⟨T, t, y, rfl, big, hy, hT⟩
      refine ⟨T, _, _, rfl, big, hT, ⟨t, ?_⟩, ?_⟩
      · rw [Int.zero_add]
      · have hy2 : its[i]? = some y := by simpa using hy
        rw [hu] at hy2
        cases hy2
        exact ru
    · obtain ⟨u', hr, h⟩ := h
      refine ⟨u', hr, thn h fun _ s2 h => ?_⟩
      obtain ⟨v, H', J, rvu, ⟨T, e1, e2, e3⟩, t1, t2⟩ := h
      exact ⟨v, H', J, rvu, ⟨T, x, e1, e2, e3, fun ys hys => by rw [src_inj I hys hq]; exact hx⟩, t1, t2⟩
  done := by
    intro X hP hw hK hc i pins s σ H E I hf st hg
    subst hP hw hK
    obtain ⟨xs, hq, hl⟩ := hg
    obtain ⟨its, rv, src, _⟩ := src_of I hq
    have D := s_draws (prog := X.prog) (w := X.w) (A := X.A.in1) tp (I.ok.hd hc) it a h3 its.toArray
    have W := GoesN.enumFrom (elts := elts) (x1 := kk) (pos := tpos) 0 D e h1 (by simp [h1, h2]) List.mem_cons_self
    have en : its.toArray.size = i := by rw [List.size_toArray, ← rv.length, hl]
    refine item_done W I hf (fun b hb => hb) ?_
    rw [en]
    exact ⟨st.1, st.2, src⟩
  self := fun A i s Q E st h => by
    obtain ⟨⟨old, he⟩, _⟩ := st
    exact wpAny_pyIter_enum he h
noncomputable def iEnumS (K : PySem.W.Frag) (tp : Bool) (ta : TA) : TI := fun σ H R => ta σ H fun vs H1 => ∃ a xs, vs = [.ref a] ∧ SqK tp K H1 a xs ∧ R (ItE K tp a) H1
theorem pi_enumS (tp : Bool) {X : Cx} {e : Expr} {ta : TA} {p pos tpos : PySem.Pos} {elts : List Expr} {kk : Nat} (hg : Gl X "enumerate") (hm : X.mg "enumerate" = none) (ha : PA X [e] ta) (hs : starEach [e] X.env = [(false, eval e X.env)] := by rfl) :
    PI X (.Tuple elts kk tpos) (.Call (.Name "enumerate" p) [e] [] pos) (iEnumS X.K tp ta) := by
  refine ⟨fun pins s σ H R I h => ?_⟩
  refine Call_ (ld_blt I hg hm boot_enumerate (PyProof.Rows.callWith_type1 (thn (ha.run pos pins s σ H _ I h) fun us s1 ⟨vs, H1, I1, r1, q1⟩ => ?_) hs rfl))
  obtain ⟨a, xs, rfl, hq, q⟩ := q1
  cases r1 with
  | cons r rr =>
    cases rr
    cases r
    obtain ⟨its, rv, src, lt⟩ := src_of I1 hq
    refine enum_begins1 (s_begins tp a its.toArray) src fun h' he hit hk => wpAny_pyIter_enum he ?_
    have I2 : Inv X pins σ H1 { s1 with heap := h' } := I1.kept (t' := s1.toks) hk
    refine ⟨s1.heap.objs.size + 1, [s1.heap.objs.size + 1, s1.heap.objs.size], _, _, H1, rfl, I2, turn_E (tp := tp) (a := a) (Nat.succ_ne_self _) (Nat.ne_of_gt (Nat.lt_succ_of_lt lt)) (Nat.ne_of_lt lt), ⟨⟨.none, he⟩, s_it0 hit⟩, fun b hb => ?_, q⟩
    have hle : s1.heap.objs.size ≤ b := by
      rcases List.mem_cons.mp hb with rfl | hb
      · exact Nat.le_succ _
      · cases List.mem_singleton.mp hb
        exact Nat.le_refl _
    exact I1.fpOk hle (I1.hok.fresh hle)
theorem walk_E {K : PySem.W.Frag} {tp : Bool} {a : Addr} {xs : List V} : Walk (ItE K tp a) xs.length (fun H => SqK tp K H a xs) (YPair (fun i => some (.int (i : Nat))) (fun i => xs[i]?)) := by
  refine ⟨fun i H hi q => ⟨xs, xs[i], q, by simp [hi]⟩, fun H q => ⟨xs, q, rfl⟩, fun i H v H' hi q y => ?_⟩
  obtain ⟨T, x, e1, e2, e3, e4⟩ := y
  exact ⟨T, _, x, e1, e2, e3, rfl, e4 xs q⟩
/-! ### I4. for x, y in zip(list or tuple, list or tuple) -/
noncomputable def ItZ (K : PySem.W.Frag) (t1 t2 : Bool) (a b : Addr) : It :=
  ⟨fun i H => ∃ (xs ys : List V) (x y : V), SqK t1 K H a xs ∧ SqK t2 K H b ys ∧ xs[i]? = some x ∧ ys[i]? = some y,
    fun i H v H' => ∃ T x y, v = .ref T ∧ H T = none ∧ H' = upd H T (.tup [x, y]) ∧ (∀ xs, SqK t1 K H a xs → xs[i]? = some x) ∧ ∀ ys, SqK t2 K H b ys → ys[i]? = some y,
    fun i H => ∃ xs ys : List V, SqK t1 K H a xs ∧ SqK t2 K H b ys ∧ min xs.length ys.length = i⟩
theorem turn_Z {P : Program} {w : World} {K : PySem.W.Frag} {elts : List Expr} {kk : Nat} {tpos : PySem.Pos} {t1 t2 : Bool} {a b z TI TO i1 i2 : Addr} (S : ZipSep2 z TI TO i1 i2 [i1, a] [i2, b]) (n1 : a ≠ i1) (n2 : b ≠ i2) :
    Turn P w K (.Tuple elts kk tpos) (ItZ K t1 t2 a b) [z, TI, TO, i1, i2] z (fun i h => IsZip h z TI TO .none ∧ IsTupOf2 h TI (.ref i1) (.ref i2) ∧ (∃ a1 a2, IsTupOf2 h TO a1 a2) ∧ SIt t1 h i1 a i ∧ SIt t2 h i2 b i) where
  mem := List.mem_cons_self
  obj := fun i h st c hc => by
    obtain ⟨hz, hTI, ⟨x, y, hTO⟩, g1, g2⟩ := st
    simp only [List.mem_cons, List.not_mem_nil, or_false] at hc
    rcases hc with rfl | rfl | rfl | rfl | rfl
    · exact ⟨_, hz, fun v q => nomatch q⟩
    · exact ⟨_, hTI, fun v q => nomatch q⟩
    · exact ⟨_, hTO, fun v q => nomatch q⟩
    · exact s_obj g1
    · exact s_obj g2
  keep := fun i h h' st k => by
    obtain ⟨hz, hTI, ⟨x, y, hTO⟩, g1, g2⟩ := st
    exact ⟨k z (by simp) _ hz, k TI (by simp) _ hTI, ⟨x, y, k TO (by simp) _ hTO⟩, s_keep g1 fun o q => k i1 (by simp) o q, s_keep g2 fun o q => k i2 (by simp) o q⟩
  item := by
    intro X hP hw hK hc i pins s σ H E I hf st hg
    subst hP hw hK
    obtain ⟨xs, ys, x, y, hqx, hqy, hx, hy⟩ := hg
    obtain ⟨its, rv, src, _⟩ := src_of I hqx
    obtain ⟨its2, rv2, src2, _⟩ := src_of I hqy
    obtain ⟨u, hu, ru⟩ := rv.get hx
    obtain ⟨u2, hu2, ru2⟩ := rv2.get hy
    have D1 := s_draws (prog := X.prog) (w := X.w) (A := X.A.in1) t1 (I.ok.hd hc) i1 a n1 its.toArray
    have D2 := s_draws (prog := X.prog) (w := X.w) (A := X.A.in1) t2 (I.ok.hd hc) i2 b n2 its2.toArray
    have W := GoesN.zip2 (elts := elts) (x1 := kk) (pos := tpos) S D1 D2
    obtain ⟨hz, hTI, ⟨x0, y0, hTO⟩, g1, g2⟩ := id st
    have old2 : ∀ c ∈ [z, TI, TO, i1, i2], c < s.heap.objs.size := fun c hc => by
      simp only [List.mem_cons, List.not_mem_nil, or_false] at hc
      rcases hc with rfl | rfl | rfl | rfl | rfl
      · exact Heap.lt_size hz
      · exact Heap.lt_size hTI
      · exact Heap.lt_size hTO
      · obtain ⟨o, eo, _⟩ := s_obj g1
        exact Heap.lt_size eo
      · obtain ⟨o, eo, _⟩ := s_obj g2
        exact Heap.lt_size eo
    have hlt : i < min its.toArray.size its2.toArray.size := by
      have e1 := (List.getElem?_eq_some_iff.mp hu).1
      have e2 := (List.getElem?_eq_some_iff.mp hu2).1
      rw [List.size_toArray, List.size_toArray]
      omega
    have sub : ∀ c ∈ [z, TO, i1, i2], c ∈ [z, TI, TO, i1, i2] := fun c hc => by
      simp only [List.mem_cons, List.not_mem_nil, or_false] at hc ⊢
      rcases hc with h | h | h | h
      · exact .inl h
      · exact .inr (.inr (.inl h))
      · exact .inr (.inr (.inr (.inl h)))
      · exact .inr (.inr (.inr (.inr h)))
    refine thn (item_pair (tn := fun i h => IsZip h z TI TO .none ∧ IsTupOf2 h TI (.ref i1) (.ref i2) ∧ (∃ a1 a2, IsTupOf2 h TO a1 a2) ∧ SIt t1 h i1 a i ∧ SIt t2 h i2 b i) (x := x) (y := y) W I hf sub old2 hlt ⟨hz, hTI, ⟨x0, y0, hTO⟩, ⟨g1, src⟩, ⟨g2, src2⟩⟩ ?_ (fun h' q => (⟨q.1, q.2.1, q.2.2.1, q.2.2.2.1.1, q.2.2.2.2.1⟩ : IsZip h' z TI TO .none ∧ IsTupOf2 h' TI (.ref i1) (.ref i2) ∧ (∃ a1 a2, IsTupOf2 h' TO a1 a2) ∧ SIt t1 h' i1 a (i + 1) ∧ SIt t2 h' i2 b (i + 1)))) fun r s1 h => ?_
    · rintro v h' ⟨T, y1, y2, rfl, big, hy1, hy2, hT⟩
      refine ⟨T, _, _, rfl, big, hT, ?_, ?_⟩
      · have e : its[i]? = some y1 := by simpa using hy1
        rw [hu] at e
        cases e
        exact ru
      · have e : its2[i]? = some y2 := by simpa using hy2
        rw [hu2] at e
        cases e
        exact ru2
    · obtain ⟨u', hr, h⟩ := h
      refine ⟨u', hr, thn h fun _ s2 h => ?_⟩
      obtain ⟨v, H', J, rvu, ⟨T, e1, e2, e3⟩, q1, q2⟩ := h
      exact ⟨v, H', J, rvu, ⟨T, x, y, e1, e2, e3, fun l hl => by rw [src_inj I hl hqx]; exact hx, fun l hl => by rw [src_inj I hl hqy]; exact hy⟩, q1, q2⟩
  done := by
    intro X hP hw hK hc i pins s σ H E I hf st hg
    subst hP hw hK
    obtain ⟨xs, ys, hqx, hqy, hl⟩ := hg
    obtain ⟨its, rv, src, _⟩ := src_of I hqx
    obtain ⟨its2, rv2, src2, _⟩ := src_of I hqy
    have D1 := s_draws (prog := X.prog) (w := X.w) (A := X.A.in1) t1 (I.ok.hd hc) i1 a n1 its.toArray
    have D2 := s_draws (prog := X.prog) (w := X.w) (A := X.A.in1) t2 (I.ok.hd hc) i2 b n2 its2.toArray
    have W := GoesN.zip2 (elts := elts) (x1 := kk) (pos := tpos) S D1 D2
    have en : min its.toArray.size its2.toArray.size = i := by rw [List.size_toArray, List.size_toArray, ← rv.length, ← rv2.length, hl]
    have sub : ∀ c ∈ [z, TO, i1, i2], c ∈ [z, TI, TO, i1, i2] := fun c hc => by
      simp only [List.mem_cons, List.not_mem_nil, or_false] at hc ⊢
      rcases hc with h | h | h | h
      · exact .inl h
      · exact .inr (.inr (.inl h))
      · exact .inr (.inr (.inr (.inl h)))
      · exact .inr (.inr (.inr (.inr h)))
    refine item_done W I hf sub ?_
    rw [en]
    obtain ⟨hz, hTI, hTO, g1, g2⟩ := st
    exact ⟨hz, hTI, hTO, ⟨g1, src⟩, ⟨g2, src2⟩⟩
  self := fun A i s Q E st h => wpAny_pyIter_zip st.1 h
noncomputable def iZipS (K : PySem.W.Frag) (t1 t2 : Bool) (ta : TA) : TI := fun σ H R => ta σ H fun vs H1 => ∃ a b xs ys, vs = [.ref a, .ref b] ∧ SqK t1 K H1 a xs ∧ SqK t2 K H1 b ys ∧ R (ItZ K t1 t2 a b) H1
theorem pi_zipS (t1 t2 : Bool) {X : Cx} {e e2 : Expr} {ta : TA} {p pos tpos : PySem.Pos} {elts : List Expr} {kk : Nat} (hg : Gl X "zip") (hm : X.mg "zip" = none) (ha : PA X [e, e2] ta)
    (hs : starEach [e, e2] X.env = (false, eval e X.env) :: starEach [e2] X.env := by rfl) (hpl : (backTo pos (starEach [e2] X.env)).any (·.1) = false := by rfl) :
    PI X (.Tuple elts kk tpos) (.Call (.Name "zip" p) [e, e2] [] pos) (iZipS X.K t1 t2 ta) := by
  refine ⟨fun pins s σ H R I h => ?_⟩
  refine Call_ (ld_blt I hg hm PyProof.Rows.boot_zip (PyProof.Rows.callWith_type1 (thn (ha.run pos pins s σ H _ I h) fun us s1 ⟨vs, H1, I1, r1, q1⟩ => ?_) hs hpl))
  obtain ⟨a, b, xs, ys, rfl, hqx, hqy, q⟩ := q1
  cases r1 with
  | cons r rr =>
    cases rr with
    | cons r' rr =>
      cases rr
      cases r
      cases r'
      obtain ⟨its, rv, src, lt⟩ := src_of I1 hqx
      obtain ⟨its2, rv2, src2, lt2⟩ := src_of I1 hqy
      refine zip_begins2 (s_begins t1 a its.toArray) (s_begins t2 b its2.toArray) src src2 fun h' hz hTI hTO g1 g2 _ hk => wpAny_pyIter_zip hz ?_
      have I2 : Inv X pins σ H1 { s1 with heap := h' } := I1.kept (t' := s1.toks) hk
      have S := zip_sep2 (N := s1.heap.objs.size) (fp1 := [a]) (fp2 := [b]) (fun c hc => by cases List.mem_singleton.mp hc; exact lt) (fun c hc => by cases List.mem_singleton.mp hc; exact lt2)
      refine ⟨s1.heap.objs.size + 4, [s1.heap.objs.size + 4, s1.heap.objs.size + 2, s1.heap.objs.size + 3, s1.heap.objs.size, s1.heap.objs.size + 1], _, _, H1, rfl, I2,
        turn_Z (t1 := t1) (t2 := t2) S (Nat.ne_of_lt lt) (Nat.ne_of_lt (Nat.lt_succ_of_lt lt2)), ⟨hz, hTI, ⟨_, _, hTO⟩, s_it0 g1, s_it0 g2⟩, fun c hc => ?_, q⟩
      have hle : s1.heap.objs.size ≤ c := by
        simp only [List.mem_cons, List.not_mem_nil, or_false] at hc
        rcases hc with rfl | rfl | rfl | rfl | rfl
        · exact Nat.le_add_right _ _
        · exact Nat.le_add_right _ _
        · exact Nat.le_add_right _ _
        · exact Nat.le_refl _
        · exact Nat.le_add_right _ _
      exact I1.fpOk hle (I1.hok.fresh hle)
theorem walk_Z {K : PySem.W.Frag} {t1 t2 : Bool} {a b : Addr} {xs ys : List V} {n : Nat} (hn : n = min xs.length ys.length) :
    Walk (ItZ K t1 t2 a b) n (fun H => SqK t1 K H a xs ∧ SqK t2 K H b ys) (YPair (fun i => xs[i]?) (fun i => ys[i]?)) := by
  subst hn
  refine ⟨fun i H hi q => ?_, fun H q => ⟨xs, ys, q.1, q.2, rfl⟩, fun i H v H' hi q y => ?_⟩
  · have e1 : i < xs.length := by omega
    have e2 : i < ys.length := by omega
    exact ⟨xs, ys, xs[i], ys[i], q.1, q.2, by simp [e1], by simp [e2]⟩
  · obtain ⟨T, x, y, e1, e2, e3, e4, e5⟩ := y
    exact ⟨T, x, y, e1, e2, e3, e4 xs q.1, e5 ys q.2⟩
/-! ### O1. methods, makings; an error with one field -/
/-- a method's call in a suite that catches -/
noncomputable def tMethT (C : Addr) (m : Str) (sp : Sp) (E : L2.St → XK) (ta : TE) (t : TA) : TE := fun σ H Q => ta σ H fun x H1 => ∃ a dx fs, x = .ref a ∧ H1 a = some (.ins C dx fs) ∧ fs.lookup m = none ∧ t σ H1 fun vs H2 => sp (x :: vs) H2 Q (E σ)
section
variable {X : Cx} {CX : CXT} {k : Nat} {f C : Addr} {fd : FuncData} {ps : List Str} {sp : Sp} {E : L2.St → XK} {m : Str} {pos apos : PySem.Pos} {e o : Expr} {es : List Expr} {ta : TE} {t : TA}
theorem pe_methT {pl : Sem Bool} (he : PE X o ta) (c : Cls X.K C) (hm : Meth X.K C m f) (F : FnOk X.prog X.w X.K X.mg X.base CX k f fd ps sp) (hr : Room k X.A) (hb : Binds X.K fd ps []) (hx : ∀ σ, PassesAt CX X σ (E σ)) (ha : PA X (e :: es) t)
    (hst : starEach (e :: es) X.env = (false, eval e X.env) :: starEach es X.env := by rfl) (hpl : (backTo pos (starEach es X.env)).any (·.1) = false := by rfl)
    (ht : eval (.Call (.Attribute o m apos) (e :: es) [] pos) X.env = (do
      let ov ← eval o X.env
      standAt apos.atName
      let (f, first) ← holding [ov] (getMethod ov m pl)
      callWith pos f first (backTo pos (starEach (e :: es) X.env)) (backToKw pos (keywordEach [] X.env))) := by rfl) :
    PE X (.Call (.Attribute o m apos) (e :: es) [] pos) (tMethT C m sp E ta t) := by
  refine ⟨fun pins s σ H Q I h => ?_⟩
  refine PySem.W.methodCall_KW (pl := pl) (thn (he.run pins s σ H _ I h) fun u s1 ⟨x, H1, I1, rx, a, dx, fs, ex, ea, l, q⟩ => ?_) ht
  subst ex
  obtain rfl : u = Value.ref a := rx
  refine getmeth_ok I1 ea c hm l ?_
  refine PySem.W.callWith_K (first := [.ref a]) (h₀ := X.base) I.ok.mod.kin hm.kp (thn (ha.run pos pins s1 σ H1 _ I1 q) fun us s2 ⟨vs, H2, I2, r, q2⟩ => ⟨I2.kIn, ?_⟩) hst hpl
  exact run_fnS F hr hb (hx σ) (us := .ref a :: us) (vs := .ref a :: vs) I2 (.cons rfl r) q2
end
/-- a field read where the heap's frame is written as K -/
theorem pe_fldK {X : Cx} {K : PySem.W.Frag} {e : Expr} {f : Str} {ta : TE} {pos : PySem.Pos} (hK : X.K = K) (he : PE X e ta) (hb : attributeBase e f X.env (eval e X.env) = eval e X.env) : PE X (.Attribute e f pos) (tFld K ta f) := by
  subst hK
  exact pe_fld he hb
/-- an error that is being made is given its field n -/
noncomputable def sp_xi (n : Str) (C : Addr) : Sp := fun vs H Q _ => ∃ (a : Addr) (v : V), vs = [.ref a, v] ∧ H a = some (exo a C none) ∧ ∀ dx, H dx = none → dx ≠ a → Q .non (upd (upd H dx (exd dx [(n, v)])) a (exo a C (some dx)))
theorem mkO_to {n : Str} {C : Addr} {v : V} {H1 : Hp} {Q : XK} (q : ∀ d, H1 d = none → Q (.ref C) (some d) (upd H1 d (.xd [(n, v)]))) :
    [v].length ≤ 1000 ∧ ∀ a, H1 a = none → sp_xi n C (.ref a :: ([v] ++ [])) (upd H1 a (exo a C none))
      (fun u H2 => u = .non ∧ ∃ (d : Addr) (fs : List (Str × V)), H2 a = some (exo a C (some d)) ∧ H2 d = some (exd d fs) ∧ H1 d = none ∧ Q (.ref C) (some d) (upd (del H2 a) d (.xd fs))) (fun _ _ _ => False) := by
  refine ⟨(by decide : 1 ≤ 1000), fun a na => ⟨a, v, rfl, upd_same, fun dx ndx nea => ⟨rfl, dx, [(n, v)], upd_same, ?_, ?_, ?_⟩⟩⟩
  · rw [upd_ne nea, upd_same]
  · rw [upd_ne nea] at ndx
    exact ndx
  · rw [upd_ne nea] at ndx
    have e : upd (del (upd (upd (upd H1 a (exo a C none)) dx (exd dx [(n, v)])) a (exo a C (some dx))) a) dx (.xd [(n, v)]) = upd H1 dx (.xd [(n, v)]) := by
      funext b
      by_cases hb : b = dx
      · rw [hb, upd_same, upd_same]
      · rw [upd_ne hb, upd_ne hb]
        by_cases ha : b = a
        · rw [ha, del_same, na]
        · rw [del_ne ha, upd_ne ha, upd_ne hb, upd_ne ha]
    rw [e]
    exact q dx ndx
/-! ### x = {k: v for ..} -/
section
variable {X : Cx} {kx vx tg iter : Expr} {ifs : List Expr} {scope : Scope} {own : List (Str × Nat)} {pos spos py : PySem.Pos} {wi : TI} {g : TG} {tt : TT} {tk tv : TE} {i : Nat} {y : Str}
/-- in each block of the comprehension -/
noncomputable abbrev Blks (X : Cx) (scope : Scope) (G : Cx → Prop) : Prop := ∀ (s : Shared) (H : Hp) (C : Addr) (cl : List (Str × Addr)) (fp : List Addr), G (X.blk s H scope (compEnvC scope cl C X.env) fp)
noncomputable abbrev dcx (kx vx tg iter : Expr) (ifs : List Expr) (scope : Scope) (pos : PySem.Pos) : Expr := .DictComp kx vx [⟨tg, iter, ifs, 0⟩] scope pos
theorem sw_dict {gs : List Comprehension} {l : Nat} {env : Env} (hk : env.scope.kind = .function) (hy : env.scope.names.lookup y = some .local) (hl : (py.line == pos.line) = true) (ha : (scope.names.any fun p => p.1 == y && (p.2 == .local || p.2 == .cell)) = false) :
    swapsWith (.DictComp kx vx gs scope pos) (some (.Name y py)) l env = pure true := by
  have k1 : env.kindOf y = some .local := hy
  have k2 : env.blockKind = .function := (by unfold Env.blockKind; rw [hk]; rfl)
  unfold swapsWith
  simp only [k1, k2, ha, hl, Expr.pos]; rfl
end
/-- the values ys, one by one, are what R says of the data ls -/
noncomputable def AllAt {α : Type} (R : Hp → V → α → Prop) (H : Hp) (ys : List V) (ls : List α) : Prop := ys.length = ls.length ∧ ∀ (i : Nat) l, ls[i]? = some l → ∃ y, ys[i]? = some y ∧ R H y l
section
variable {α : Type} {R : Hp → V → α → Prop} {H H' : Hp} {ys : List V} {ls : List α}
theorem AllAt.same (m : ∀ {H H' : Hp} {x : V} {t : α}, Same H H' → R H x t → R H' x t) (e : Same H H') (h : AllAt R H ys ls) : AllAt R H' ys ls :=
  ⟨h.1, fun i l hl => let ⟨y, h1, h2⟩ := h.2 i l hl; ⟨y, h1, m e h2⟩⟩
theorem AllAt.nil : AllAt R H [] [] := ⟨rfl, fun i l hl => by simp at hl⟩
theorem AllAt.add (h : AllAt R H ys ls) {y : V} {l : α} (r : R H y l) : AllAt R H (ys ++ [y]) (ls ++ [l]) := by
  refine ⟨by rw [List.length_append, List.length_append, h.1]; rfl, fun i k hk => ?_⟩
  rw [List.getElem?_append] at hk ⊢
  rw [h.1]
  by_cases hi : i < ls.length
  · rw [if_pos hi] at hk ⊢
    exact h.2 i k hk
  · rw [if_neg hi] at hk ⊢
    obtain ⟨e1, e2⟩ := List.getElem?_eq_some_iff.mp hk
    have e3 : i - ls.length = 0 := by simpa using e1
    rw [e3] at hk ⊢
    cases hk
    exact ⟨y, rfl, r⟩
theorem AllAt.get (h : AllAt R H ys ls) {i : Nat} {y : V} (hy : ys[i]? = some y) : ∃ l, ls[i]? = some l ∧ R H y l := by
  have hi := (List.getElem?_eq_some_iff.mp hy).1
  have hi2 : i < ls.length := by
    rw [← h.1]
    exact hi
  have hl : ls[i]? = some ls[i] := List.getElem?_eq_getElem hi2
  obtain ⟨y2, h1, h2⟩ := h.2 i _ hl
  rw [hy] at h1
  cases h1
  exact ⟨_, hl, h2⟩
end
theorem AllAt.imp {α : Type} {R S : Hp → V → α → Prop} {H H' : Hp} {ys : List V} {ls : List α} (h : AllAt R H ys ls) (f : ∀ y l, R H y l → S H' y l) : AllAt S H' ys ls :=
  ⟨h.1, fun i l hl => let ⟨y, h1, h2⟩ := h.2 i l hl; ⟨y, h1, f _ _ h2⟩⟩
theorem sqt_put {K : PySem.W.Frag} {H : Hp} {D a : Addr} {zs xs : List V} {o : HO} (hD : H D = some (.lst zs)) (h : SqT K H a xs) : SqT K (upd H D o) a xs := by
  rcases h with (h | ⟨u, h⟩) | h
  · refine .inl (.inl ?_)
    rw [upd_ne (fun e => by rw [e, hD] at h; cases h)]
    exact h
  · refine .inl (.inr ⟨u, ?_⟩)
    rw [upd_ne (fun e => by rw [e, hD] at h; cases h)]
    exact h
  · exact .inr h
/-- one turn of a comprehension whose items are ys -/
theorem acc_to {ys : List V} {D : Addr} {H1 H4 : Hp} {i : Nat} {y : V} (nD : H1 D = none) (sm : Same H1 H4) (hD : H4 D = some (.lst (ys.take i))) (hy : ys[i]? = some y) (hz : ys.length ≤ 100000) :
    ∃ acc, H4 D = some (.lst acc) ∧ acc.length < sizeLine ∧ (Same H1 (upd H4 D (.lst (acc ++ [y]))) ∧ upd H4 D (.lst (acc ++ [y])) D = some (.lst (ys.take (i + 1)))) := by
  have hi := (List.getElem?_eq_some_iff.mp hy).1
  refine ⟨_, hD, ?_, same_put sm nD, ?_⟩
  · rw [List.length_take]
    exact szl (by omega)
  · rw [upd_same, List.take_add_one, hy]
    rfl
theorem acc_all {ys : List V} {D : Addr} {H : Hp} {n : Nat} (hn : n = ys.length) (h : H D = some (.lst (ys.take n))) : H D = some (.lst ys) := by
  rw [h, hn, List.take_of_length_le (Nat.le_refl _)]
/-! ### names, panels -/
/-- a comprehension into a dict over what is walked -/
theorem dc_it {J : It} {n : Nat} {G : Hp → Prop} {Y : Nat → Hp → V → Hp → Prop} (w : L2.Walk J n G Y) {g : TG} {tt : TT} {tk tv : TE} {vs : List Nat} {σ : L2.St} {H1 : Hp} {D : Addr} {Qd : Hp → Prop} (Pv : Nat → Hp → Prop) (h0 : Pv 0 (upd H1 D (.dK []))) (hG : ∀ i H, i ≤ n → Pv i H → G H)
    (hs : ∀ i x H H', i < n → Pv i H → Y i H x H' → g x (wipe σ vs) H' fun σ2 H2 => wipe σ2 vs = wipe σ vs ∧ tt σ2 H2 fun b H3 =>
      if b = true then tk σ2 H3 fun y H4 => tv σ2 H4 fun z H5 => ∃ kvs k, y = kV k ∧ H5 D = some (.dK kvs) ∧ kvs.length < sizeLine ∧ Pv (i + 1) (upd H5 D (.dK (putK kvs k z))) else Pv (i + 1) H3) (hd : ∀ H, Pv n H → Qd H) :
    ∃ W : Nat → Nat → Hp → Prop, (∃ m, W 0 m (upd H1 D (.dK []))) ∧ ∀ i m H, W i m H →
      (J.stop i H ∧ Qd H) ∨ (J.go i H ∧ ∃ Nx : Hp → Prop, (∀ H', Nx H' → ∃ m', m' < m ∧ W (i + 1) m' H') ∧ ∀ x H', J.yld i H x H' → g x (wipe σ vs) H' fun σ2 H2 => wipe σ2 vs = wipe σ vs ∧ tt σ2 H2 fun b H3 =>
        if b = true then tk σ2 H3 fun y H4 => tv σ2 H4 fun z H5 => ∃ kvs k, y = kV k ∧ H5 D = some (.dK kvs) ∧ kvs.length < sizeLine ∧ Nx (upd H5 D (.dK (putK kvs k z))) else Nx H3) := by
  refine ⟨fun i m H => m = n - i ∧ i ≤ n ∧ Pv i H, ⟨n, by simp, Nat.zero_le _, h0⟩, ?_⟩
  rintro i m H ⟨rfl, hi, p⟩
  have q := hG i H hi p
  by_cases hlt : i < n
  · exact .inr ⟨w.goes i H hlt q, Pv (i + 1), fun H' p' => ⟨n - (i + 1), by omega, rfl, hlt, p'⟩, fun x H' y => hs i x H H' hlt p (w.yields i H x H' hlt q y)⟩
  · have e : i = n := by omega
    subst e
    exact .inl ⟨w.stops H q, hd H p⟩
noncomputable def lets : List Nat := ("abcdefghijklmnopqrstuvwxyz" : Str).cps.toList
/-- a name's text -/
noncomputable def isNm (z : Str) : Bool := (decide (1 ≤ z.length) && decide (z.length ≤ 12)) && z.cps.toList.all fun c => decide (c ∈ lets)
/-- no text -/
noncomputable def NoStr (K : PySem.W.Frag) (H : Hp) (x : V) : Prop := ∃ t, TyX K H x t ∧ PySem.W.kitOne K t (.type "str") = some false
noncomputable def IsName (x : V) : Prop := ∃ z, x = .str z ∧ z.length ≤ 1000 ∧ isNm z = true
noncomputable def NoName (K : PySem.W.Frag) (H : Hp) (x : V) : Prop := (∃ z, x = .str z ∧ z.length ≤ 1000 ∧ isNm z = false) ∨ NoStr K H x
noncomputable def sp_is_name (K : PySem.W.Frag) : Sp := fun vs H Q _ => ∃ x : V, vs = [x] ∧ ((IsName x ∧ ∀ H', Same H H' → Q (.bl true) H') ∨ (NoName K H x ∧ ∀ H', Same H H' → Q (.bl false) H'))
noncomputable def sp_check_name (K : PySem.W.Frag) (C : Addr) : Sp := fun vs H Q E => ∃ x : V, vs = [x] ∧ ((IsName x ∧ ∀ H', Same H H' → Q .non H') ∨ (NoName K H x ∧ ∀ H', Same H H' → E (.ref C) none H'))
theorem inV_str {z : Str} {ys : List Str} : inV (.str z) (ys.map V.str) = decide (z ∈ ys) := by
  unfold inV
  rw [List.any_map]
  by_cases h : z ∈ ys
  · rw [decide_eq_true h, List.any_eq_true]
    exact ⟨z, h, by simp [eqV]⟩
  · rw [decide_eq_false h, List.any_eq_false]
    intro y hy e
    refine h ?_
    have e2 : y = z := by simpa [eqV] using e
    rw [← e2]
    exact hy
theorem flat_strs (ys : List Str) : (ys.map V.str).all flatV = true := by
  rw [List.all_map, List.all_eq_true]
  intro y _
  rfl
noncomputable def sp_check_known (K : PySem.W.Frag) (C : Addr) : Sp := fun vs H Q E => ∃ (z : Str) (a : Addr) (ys : List Str), vs = [.str z, .ref a] ∧ SqT K H a (ys.map V.str) ∧
  ((z ∈ ys ∧ Q .non H) ∨ (z ∉ ys ∧ ∀ d, H d = none → E (.ref C) (some d) (upd H d (.xd [("name", .str z)]))))
noncomputable def sp_check_new_name (K : PySem.W.Frag) (CB CM CT : Addr) : Sp := fun vs H Q E => ∃ (x : V) (a : Addr) (ys : List Str) (n : Int), vs = [x, .ref a, .int n] ∧ SqT K H a (ys.map V.str) ∧
  ((NoName K H x ∧ ∀ H', Same H H' → E (.ref CB) none H') ∨ ∃ z, x = .str z ∧ IsName x ∧
    (((n ≤ (ys.length : Int)) ∧ ∀ H', Same H H' → E (.ref CM) none H') ∨ (¬ (n ≤ (ys.length : Int)) ∧ z ∈ ys ∧ ∀ H' d, Same H H' → H' d = some (.xd [("name", .str z)]) → E (.ref CT) (some d) H') ∨
      (¬ (n ≤ (ys.length : Int)) ∧ z ∉ ys ∧ ∀ H', Same H H' → Q .non H')))
/-! a panel's entries -/
noncomputable def optV : Option Str → V
  | none => .non
  | some z => .str z
noncomputable def EntOk (e : Option Str × Int) : Prop := (∀ z, e.1 = some z → isNm z = true ∧ z.length ≤ 1000) ∧ 1 ≤ e.2 ∧ e.2 ≤ 100
noncomputable def EntAt (K : PySem.W.Frag) (H : Hp) (x : V) (e : Option Str × Int) : Prop := ∃ a, x = .ref a ∧ SqT K H a [optV e.1, .int e.2]
noncomputable def BadEnt (K : PySem.W.Frag) (H : Hp) (x : V) : Prop := (∃ t, TyX K H x t ∧ PySem.W.kitOne K t (.type "tuple") = some false) ∨
  ∃ (a : Addr) (xs : List V), x = .ref a ∧ SqT K H a xs ∧ xs.length ≤ 1000 ∧ (xs.length ≠ 2 ∨ ∃ p s, xs = [p, s] ∧ flatV s = true ∧ ((p ≠ .non ∧ NoName K H p) ∨ ((p = .non ∨ IsName p) ∧ btw s 1 100 = false)))
noncomputable def sp_is_entry (K : PySem.W.Frag) : Sp := fun vs H Q _ => ∃ x : V, vs = [x] ∧ ((∃ e, EntAt K H x e ∧ EntOk e ∧ ∀ H', Same H H' → Q (.bl true) H') ∨ (BadEnt K H x ∧ ∀ H', Same H H' → Q (.bl false) H'))
theorem tyx_same' {K : PySem.W.Frag} {H H' : Hp} {x : V} {t : Value} (e : Same H H') (h : TyX K H x t) : TyX K H' x t := by
  cases h with
  | base b =>
    refine .base ?_
    cases b with
    | non => exact .non
    | bl y => exact .bl y
    | int i => exact .int i
    | str y => exact .str y
    | flt y => exact .flt y
    | lst ea => exact .lst (e _ _ ea)
    | frz ea => exact .frz (e _ _ ea)
    | tup ea => exact .tup (e _ _ ea)
    | dK ea => exact .dK (e _ _ ea)
    | dT ea => exact .dT (e _ _ ea)
    | ins ea cl ha hn htk hm => exact .ins (e _ _ ea) cl ha hn htk hm
  | byt b => exact .byt b
  | set ea => exact .set (e _ _ ea)
  | kList k c => exact .kList k c
  | kTuple k c => exact .kTuple k c
  | kDict k c => exact .kDict k c
  | fTuple ea => exact .fTuple (e _ _ ea)
  | fDict ea => exact .fDict (e _ _ ea)
theorem NoName.same {K : PySem.W.Frag} {H H' : Hp} {x : V} (e : Same H H') (h : NoName K H x) : NoName K H' x := by
  rcases h with h | ⟨t, ty, k⟩
  · exact .inl h
  · exact .inr ⟨t, tyx_same' e ty, k⟩
theorem EntAt.same {K : PySem.W.Frag} {H H' : Hp} {x : V} {p : Option Str × Int} (e : Same H H') (h : EntAt K H x p) : EntAt K H' x p := by
  obtain ⟨a, rfl, hS⟩ := h
  exact ⟨a, rfl, same_sqt e hS⟩
theorem BadEnt.same {K : PySem.W.Frag} {H H' : Hp} {x : V} (e : Same H H') (h : BadEnt K H x) : BadEnt K H' x := by
  rcases h with ⟨t, ty, k⟩ | ⟨a, xs, rfl, hS, hl, h⟩
  · exact .inl ⟨t, tyx_same' e ty, k⟩
  · refine .inr ⟨a, xs, rfl, same_sqt e hS, hl, ?_⟩
    rcases h with h | ⟨p, s, rfl, fs, h⟩
    · exact .inl h
    · refine .inr ⟨p, s, rfl, fs, ?_⟩
      rcases h with ⟨np, h⟩ | h
      · exact .inl ⟨np, NoName.same e h⟩
      · exact .inr h
/-! panels -/
noncomputable def PanAt (K : PySem.W.Frag) (H : Hp) (x : V) (ps : List (Option Str × Int)) : Prop := ∃ (a : Addr) (xs : List V), x = .ref a ∧ SqT K H a xs ∧ xs.length = ps.length ∧ ∀ (i : Nat) e, ps[i]? = some e → ∃ y, xs[i]? = some y ∧ EntAt K H y e
structure PanOk (ps : List (Option Str × Int)) : Prop where
  lo : 1 ≤ ps.length
  hi : ps.length ≤ 6
  ent : ∀ e ∈ ps, EntOk e
  sum : (ps.map (·.2)).sum ≤ 100
theorem PanAt.same {K : PySem.W.Frag} {H H' : Hp} {x : V} {ps : List (Option Str × Int)} (e : Same H H') (h : PanAt K H x ps) : PanAt K H' x ps := by
  obtain ⟨a, xs, rfl, hS, hl, h⟩ := h
  refine ⟨a, xs, rfl, same_sqt e hS, hl, fun i p hp => ?_⟩
  obtain ⟨y, h1, h2⟩ := h i p hp
  exact ⟨y, h1, EntAt.same e h2⟩
noncomputable def NoPan (K : PySem.W.Frag) (H : Hp) (x : V) : Prop := (∃ t, TyX K H x t ∧ PySem.W.kitOne K t (.type "tuple") = some false) ∨
  (∃ (a : Addr) (xs : List V) (bs : List Bool), x = .ref a ∧ SqT K H a xs ∧ xs.length ≤ 1000 ∧ (xs.length = 0 ∨ 6 < xs.length ∨
    (bs.length = xs.length ∧ bs.all id = false ∧ ∀ (i : Nat) y b, xs[i]? = some y → bs[i]? = some b → (b = true ∧ ∃ e, EntAt K H y e ∧ EntOk e) ∨ (b = false ∧ BadEnt K H y)))) ∨
  ∃ ps : List (Option Str × Int), PanAt K H x ps ∧ 1 ≤ ps.length ∧ ps.length ≤ 6 ∧ (∀ e ∈ ps, EntOk e) ∧ 100 < (ps.map (·.2)).sum
noncomputable def sp_is_panel (K : PySem.W.Frag) : Sp := fun vs H Q _ => ∃ x : V, vs = [x] ∧ ((∃ ps, PanAt K H x ps ∧ PanOk ps ∧ ∀ H', Same H H' → Q (.bl true) H') ∨ (NoPan K H x ∧ ∀ H', Same H H' → Q (.bl false) H'))
noncomputable def sp_check_panel (K : PySem.W.Frag) (C : Addr) : Sp := fun vs H Q E => ∃ x : V, vs = [x] ∧ ((∃ ps, PanAt K H x ps ∧ PanOk ps ∧ ∀ H', Same H H' → Q .non H') ∨ (NoPan K H x ∧ ∀ H', Same H H' → E (.ref C) none H'))
/-- a panel's entries, one by one -/
noncomputable def Cls6 (K : PySem.W.Frag) (H : Hp) (xs : List V) (bs : List Bool) : Prop := bs.length = xs.length ∧ ∀ (i : Nat) y b, xs[i]? = some y → bs[i]? = some b → (b = true ∧ ∃ e, EntAt K H y e ∧ EntOk e) ∨ (b = false ∧ BadEnt K H y)
theorem cls_good {K : PySem.W.Frag} {H : Hp} {xs : List V} {ps : List (Option Str × Int)} (hl : xs.length = ps.length) (hE : ∀ (i : Nat) e, ps[i]? = some e → ∃ y, xs[i]? = some y ∧ EntAt K H y e) (hok : ∀ e ∈ ps, EntOk e) :
    Cls6 K H xs (ps.map fun _ => true) ∧ (ps.map fun _ => true).all id = true ∧ (ps.map (·.2)).length = xs.length ∧ ∀ (i : Nat) y, xs[i]? = some y → ∃ b p n, y = .ref b ∧ SqT K H b [p, .int n] ∧ (ps.map (·.2))[i]? = some n := by
  have key : ∀ (i : Nat) y, xs[i]? = some y → ∃ e, ps[i]? = some e ∧ EntAt K H y e := fun i y hy => by
    have hi := (List.getElem?_eq_some_iff.mp hy).1
    have he : ps[i]? = some ps[i] := List.getElem?_eq_getElem (by omega)
    obtain ⟨y2, h1, h2⟩ := hE i _ he
    rw [hy] at h1
    cases h1
    exact ⟨_, he, h2⟩
  refine ⟨⟨by rw [List.length_map, hl], fun i y b hy hb => ?_⟩, ?_, by rw [List.length_map, hl], fun i y hy => ?_⟩
  · obtain ⟨e, he, hA⟩ := key i y hy
    rw [List.getElem?_map, he] at hb
    cases hb
    exact .inl ⟨rfl, e, hA, hok e (List.mem_of_getElem? he)⟩
  · rw [List.all_map, List.all_eq_true]
    intro e _
    rfl
  · obtain ⟨e, he, a, rfl, hS⟩ := key i y hy
    exact ⟨a, _, _, rfl, hS, by rw [List.getElem?_map, he]; rfl⟩
/-! ### treaties -/
structure Trt where
  ced : Str
  cov : Cov
  pan : List (Option Str × Int)
  ended : Bool
structure TrtOk (t : Trt) : Prop where
  c : CvOk t.cov
  p : PanOk t.pan
noncomputable def TrAt (K : PySem.W.Frag) (H : Hp) (x : V) (t : Trt) : Prop := ∃ (a vc : Addr) (vp : V), x = .ref a ∧ SqT K H a [.str t.ced, .ref vc, vp, .bl t.ended] ∧ SqT K H vc (cvV t.cov) ∧ PanAt K H vp t.pan
theorem TrAt.same {K : PySem.W.Frag} {H H' : Hp} {x : V} {t : Trt} (e : Same H H') (h : TrAt K H x t) : TrAt K H' x t := by
  obtain ⟨a, vc, vp, rfl, h1, h2, h3⟩ := h
  exact ⟨a, vc, vp, rfl, same_sqt e h1, same_sqt e h2, PanAt.same e h3⟩
noncomputable def TrsAt (K : PySem.W.Frag) (H : Hp) (a : Addr) (ts : List Trt) : Prop := ∃ xs, SqT K H a xs ∧ AllAt (TrAt K) H xs ts
theorem TrsAt.same {K : PySem.W.Frag} {H H' : Hp} {a : Addr} {ts : List Trt} (e : Same H H') (h : TrsAt K H a ts) : TrsAt K H' a ts :=
  let ⟨xs, h1, h2⟩ := h; ⟨xs, same_sqt e h1, AllAt.same (R := TrAt K) (fun e r => TrAt.same e r) e h2⟩
/-- a cedent's covers that have not ended, each with its number -/
noncomputable def actv (ced : Str) : Nat → List Trt → List (Nat × Cov)
  | _, [] => []
  | n, t :: r => if (decide (t.ced = ced) && !t.ended) = true then (n, t.cov) :: actv ced (n + 1) r else actv ced (n + 1) r
theorem actv_len (ced : Str) : ∀ (n : Nat) (ts : List Trt), (actv ced n ts).length ≤ ts.length
  | _, [] => Nat.le_refl _
  | n, t :: r => by
    have ih := actv_len ced (n + 1) r
    unfold actv
    split
    · rw [List.length_cons, List.length_cons]
      omega
    · rw [List.length_cons]
      omega
theorem actv_step {ced : Str} {ts : List Trt} {i : Nat} {t : Trt} (h : ts[i]? = some t) : actv ced i (ts.drop i) = if (decide (t.ced = ced) && !t.ended) = true then (i, t.cov) :: actv ced (i + 1) (ts.drop (i + 1)) else actv ced (i + 1) (ts.drop (i + 1)) := by
  obtain ⟨h1, h2⟩ := List.getElem?_eq_some_iff.mp h
  rw [List.drop_eq_getElem_cons h1, h2]
  rfl
theorem actv_ok {ced : Str} : ∀ {n : Nat} {ts : List Trt}, (∀ t ∈ ts, CvOk t.cov) → ∀ p ∈ actv ced n ts, CvOk p.2 ∧ p.1 < n + ts.length
  | n, [], _, p, hp => nomatch hp
  | n, t :: r, h, p, hp => by
    have ih := actv_ok (ced := ced) (n := n + 1) (ts := r) fun u hu => h u (List.mem_cons_of_mem _ hu)
    unfold actv at hp
    rw [List.length_cons]
    split at hp
    · rcases List.mem_cons.mp hp with rfl | hp
      · exact ⟨h t List.mem_cons_self, by show n < n + (r.length + 1); omega⟩
      · have := ih p hp
        exact ⟨this.1, by omega⟩
    · have := ih p hp
      exact ⟨this.1, by omega⟩
noncomputable def ActAt (K : PySem.W.Frag) (H : Hp) (y : V) (p : Nat × Cov) : Prop := ∃ b vc : Addr, y = .ref b ∧ SqT K H b [.int (p.1 : Nat), .ref vc] ∧ SqT K H vc (cvV p.2)
theorem ActAt.same {K : PySem.W.Frag} {H H' : Hp} {x : V} {t : Nat × Cov} (e : Same H H') (h : ActAt K H x t) : ActAt K H' x t := by
  obtain ⟨b, vc, rfl, h1, h2⟩ := h
  exact ⟨b, vc, rfl, same_sqt e h1, same_sqt e h2⟩
theorem ActAt.put {K : PySem.W.Frag} {H : Hp} {D : Addr} {zs : List V} {o : HO} {y : V} {p : Nat × Cov} (hD : H D = some (.lst zs)) (h : ActAt K H y p) : ActAt K (upd H D o) y p := by
  obtain ⟨b, vc, rfl, h1, h2⟩ := h
  exact ⟨b, vc, rfl, sqt_put hD h1, sqt_put hD h2⟩
noncomputable def sp_active_covers (K : PySem.W.Frag) : Sp := fun vs H Q _ => ∃ (a : Addr) (ts : List Trt) (ced : Str), vs = [.ref a, .str ced] ∧ TrsAt K H a ts ∧ ts.length ≤ 1000 ∧
  ∀ (o : Addr) (H' : Hp) (ys : List V), Same H H' → H' o = some (.lst ys) → AllAt (ActAt K) H' ys (actv ced 0 ts) → Q (.ref o) H'
/-! ### what a treaty pays: one cedent's programme -/
noncomputable def cedeP (ced : Str) (ts : List Trt) (x : Int) : List Int × Int := prog ((actv ced 0 ts).map (·.2)) x
noncomputable def pairsK (ns : List Nat) (as : List Int) : List (Key × V) := (ns.zip as).map fun p => (.inl (p.1 : Int), .int p.2)
noncomputable def sp_cede (K : PySem.W.Frag) : Sp := fun vs H Q _ => ∃ (a : Addr) (ts : List Trt) (ced : Str) (x : Int), vs = [.ref a, .str ced, .int x] ∧ TrsAt K H a ts ∧ ts.length ≤ 1000 ∧ (∀ t ∈ ts, CvOk t.cov) ∧
  ∀ (p d : Addr) (H' : Hp), Same H H' → H d = none → H' d = some (.dK (pairsK ((actv ced 0 ts).map (·.1)) (cedeP ced ts x).1)) → H' p = some (.tup [.ref d, .int (cedeP ced ts x).2]) → Q (.ref p) H'
theorem pick {α : Type} {R : V → α → V → Prop} : ∀ {ys : List V} {ls : List α}, ys.length = ls.length → (∀ (i : Nat) l, ls[i]? = some l → ∃ y, ys[i]? = some y ∧ ∃ z, R y l z) →
    ∃ zs : List V, zs.length = ls.length ∧ ∀ (i : Nat) l, ls[i]? = some l → ∃ y z, ys[i]? = some y ∧ zs[i]? = some z ∧ R y l z
  | [], [], _, _ => ⟨[], rfl, fun i l hl => by simp at hl⟩
  | [], _ :: _, h, _ => by cases h
  | _ :: _, [], h, _ => by cases h
  | y :: ys, l :: ls, h, k => by
    obtain ⟨y0, e0, z, r⟩ := k 0 l rfl
    cases e0
    obtain ⟨zs, hz, k2⟩ := pick (R := R) (ys := ys) (ls := ls) (Nat.succ.inj h) fun i m hm => k (i + 1) m hm
    refine ⟨z :: zs, congrArg Nat.succ hz, fun i m hm => ?_⟩
    cases i with
    | zero =>
      cases hm
      exact ⟨y, z, rfl, rfl, r⟩
    | succ i => exact k2 i m hm
theorem actv_ge {ced : Str} : ∀ {n : Nat} {ts : List Trt}, ∀ p ∈ actv ced n ts, n ≤ p.1
  | n, [], p, hp => nomatch hp
  | n, t :: r, p, hp => by
    have ih := actv_ge (ced := ced) (n := n + 1) (ts := r)
    unfold actv at hp
    split at hp
    · rcases List.mem_cons.mp hp with rfl | hp
      · exact Nat.le_refl _
      · have := ih p hp
        omega
    · have := ih p hp
      omega
theorem actv_up {ced : Str} : ∀ {n : Nat} {ts : List Trt}, ((actv ced n ts).map (·.1)).Pairwise (· < ·)
  | n, [] => .nil
  | n, t :: r => by
    have ih := actv_up (ced := ced) (n := n + 1) (ts := r)
    unfold actv
    split
    · rw [List.map_cons, List.pairwise_cons]
      refine ⟨fun m hm => ?_, ih⟩
      obtain ⟨p, hp, rfl⟩ := List.mem_map.mp hm
      have := actv_ge p hp
      show n < p.1
      omega
    · exact ih
theorem putK_new {kvs : List (Key × V)} {k : Key} {v : V} (h : ∀ p ∈ kvs, p.1 ≠ k) : putK kvs k v = kvs ++ [(k, v)] := by
  unfold putK
  rw [if_neg]
  intro e
  obtain ⟨p, hp, e2⟩ := List.any_eq_true.mp e
  exact h p hp (of_decide_eq_true e2)
theorem pairsK_get {ns : List Nat} {as : List Int} {i n : Nat} {a : Int} (h1 : ns[i]? = some n) (h2 : as[i]? = some a) : (pairsK ns as)[i]? = some (.inl (n : Int), .int a) := by
  unfold pairsK
  have e : (ns.zip as)[i]? = some (n, a) := List.getElem?_zip_eq_some.mpr ⟨h1, h2⟩
  rw [List.getElem?_map, e]
  rfl
theorem pairsK_new {ns : List Nat} {as : List Int} (hp : ns.Pairwise (· < ·)) {i n : Nat} (h : ns[i]? = some n) : ∀ p ∈ (pairsK ns as).take i, p.1 ≠ .inl (n : Int) := by
  intro p hp2 e
  obtain ⟨j, hj⟩ := List.getElem?_of_mem hp2
  rw [List.getElem?_take] at hj
  split at hj
  · rename_i hji
    unfold pairsK at hj
    rw [List.getElem?_map] at hj
    cases hz : (ns.zip as)[j]? with
    | none =>
      rw [hz] at hj
      cases hj
    | some q =>
      rw [hz] at hj
      obtain ⟨z1, z2⟩ := List.getElem?_zip_eq_some.mp hz
      cases hj
      obtain ⟨g1, g2⟩ := List.getElem?_eq_some_iff.mp h
      obtain ⟨g3, g4⟩ := List.getElem?_eq_some_iff.mp z1
      have := List.pairwise_iff_getElem.mp hp j i g3 g1 hji
      have e3 : ((q.1 : Nat) : Int) = (n : Int) := Sum.inl.inj e
      omega
  · cases hj
/-! ### all payments of a round -/
noncomputable def putP (ps : List Int) : List (Nat × Int) → List Int
  | [] => ps
  | p :: r => putP (ps.set p.1 p.2) r
theorem putP_len : ∀ (ps : List Int) (l : List (Nat × Int)), (putP ps l).length = ps.length
  | _, [] => rfl
  | ps, p :: r => by
    unfold putP
    rw [putP_len, List.length_set]
noncomputable def payP (ts : List Trt) : List (Str × Int) → List Int → List Int
  | [], ps => ps
  | (c, x) :: r, ps => payP ts r (putP ps (((actv c 0 ts).map (·.1)).zip (cedeP c ts x).1))
/-- what each treaty pays -/
noncomputable def tpay (ts : List Trt) (ins : List Str) (gross : List Int) : List Int := payP ts (ins.zip gross) (List.replicate ts.length 0)
theorem putP_add (ps : List Int) : ∀ (l : List (Nat × Int)) (p : Nat × Int), putP ps (l ++ [p]) = (putP ps l).set p.1 p.2 := fun l => by
  induction l generalizing ps with
  | nil => intro p; rfl
  | cons q r ih => intro p; exact ih _ p
theorem payP_len (ts : List Trt) : ∀ (l : List (Str × Int)) (ps : List Int), (payP ts l ps).length = ps.length
  | [], _ => rfl
  | (c, x) :: r, ps => by
    unfold payP
    rw [payP_len ts r, putP_len]
theorem payP_add (ts : List Trt) : ∀ (l : List (Str × Int)) (ps : List Int) (c : Str) (x : Int), payP ts (l ++ [(c, x)]) ps = putP (payP ts l ps) (((actv c 0 ts).map (·.1)).zip (cedeP c ts x).1)
  | [], _, _, _ => rfl
  | (d, y) :: r, ps, c, x => payP_add ts r _ c x
theorem ixN_n {n j : Nat} (hj : j < n) : ixN n (j : Int) = some j := by
  unfold ixN
  rw [if_pos (by omega), if_pos (by omega)]
  simp
theorem rep0 (n : Nat) : (List.replicate n [V.int 0]).flatten = (List.replicate n (0 : Int)).map V.int := by
  induction n with
  | zero => rfl
  | succ n ih =>
    rw [List.replicate_succ, List.flatten_cons, ih, List.replicate_succ]
    rfl
/-- all but p and d stands -/
noncomputable def Bar2 (p d : Addr) (H H' : Hp) : Prop := ∀ b u, b ≠ p → b ≠ d → H b = some u → H' b = some u
noncomputable def sp_treaty_payments (K : PySem.W.Frag) : Sp := fun vs H Q _ => ∃ (a b c : Addr) (ins : List Str) (ts : List Trt) (gross : List Int), vs = [.ref a, .ref b, .ref c] ∧ SqT K H a (ins.map V.str) ∧ TrsAt K H b ts ∧ ts.length ≤ 1000 ∧ (∀ t ∈ ts, CvOk t.cov) ∧ SqT K H c (gross.map V.int) ∧
  ∀ (p : Addr) (H' : Hp), Same H H' → H p = none → H' p = some (.tup ((tpay ts ins gross).map V.int)) → Q (.ref p) H'
/-! ### parts, gross losses -/
noncomputable def shs (ps : List (Option Str × Int)) : List Int := ps.map (·.2)
theorem PanAt.ent {K : PySem.W.Frag} {H : Hp} {x : V} {ps : List (Option Str × Int)} (h : PanAt K H x ps) : ∃ (a : Addr) (xs : List V), x = .ref a ∧ SqT K H a xs ∧ xs.length = ps.length ∧
    ∀ (i : Nat) y, xs[i]? = some y → ∃ e b, ps[i]? = some e ∧ y = .ref b ∧ SqT K H b [optV e.1, .int e.2] := by
  obtain ⟨a, xs, rfl, hS, hl, hE⟩ := h
  refine ⟨a, xs, rfl, hS, hl, fun i y hy => ?_⟩
  have hi := (List.getElem?_eq_some_iff.mp hy).1
  have he : ps[i]? = some ps[i] := List.getElem?_eq_getElem (by omega)
  obtain ⟨y2, h1, b, rfl, h2⟩ := hE i _ he
  rw [hy] at h1
  cases h1
  exact ⟨_, b, he, rfl, h2⟩
theorem shs_pos {ps : List (Option Str × Int)} (h : PanOk ps) : Pos (shs ps) := fun s hs => by
  obtain ⟨e, he, rfl⟩ := List.mem_map.mp hs
  exact (h.ent e he).2.1
theorem shs_ne {ps : List (Option Str × Int)} (h : PanOk ps) : shs ps ≠ [] := fun e => by
  have h1 := h.lo
  have h2 : (shs ps).length = ps.length := List.length_map ..
  rw [e] at h2
  have h3 : 0 = ps.length := h2
  omega
noncomputable def sp_panel_parts (K : PySem.W.Frag) : Sp := fun vs H Q _ => ∃ (x : V) (ps : List (Option Str × Int)) (m : Int), vs = [x, .int m] ∧ PanAt K H x ps ∧ PanOk ps ∧
  ∀ (p : Addr) (H' : Hp), Same H H' → H p = none → H' p = some (.tup ((alloc m (shs ps)).map V.int)) → Q (.ref p) H'
theorem of_at_str {ns : List Str} {j : Nat} {y : V} (h : (ns.map V.str)[j]? = some y) : ∃ v, y = V.str v ∧ ns[j]? = some v := by
  rw [List.getElem?_map] at h
  cases e : ns[j]? with
  | none =>
    rw [e] at h
    cases h
  | some v =>
    rw [e] at h
    exact ⟨v, (Option.some.inj h).symm, rfl⟩
noncomputable def pairsS (ins : List Str) (ls : List Int) : List (Key × V) := (ins.zip ls).map fun p => (.inr p.1, .int p.2)
theorem pairsS_get {ins : List Str} {ls : List Int} {i : Nat} {z : Str} {x : Int} (h1 : ins[i]? = some z) (h2 : ls[i]? = some x) : (pairsS ins ls)[i]? = some (.inr z, .int x) := by
  have e : (ins.zip ls)[i]? = some (z, x) := List.getElem?_zip_eq_some.mpr ⟨h1, h2⟩
  unfold pairsS
  rw [List.getElem?_map, e]
  rfl
theorem pairsS_at {ins : List Str} {ls : List Int} {j : Nat} {p : Key × V} (h : (pairsS ins ls)[j]? = some p) : ∃ z x, ins[j]? = some z ∧ ls[j]? = some x ∧ p = (.inr z, .int x) := by
  unfold pairsS at h
  rw [List.getElem?_map] at h
  cases hz : (ins.zip ls)[j]? with
  | none =>
    rw [hz] at h
    cases h
  | some q =>
    rw [hz] at h
    obtain ⟨z1, z2⟩ := List.getElem?_zip_eq_some.mp hz
    exact ⟨_, _, z1, z2, (Option.some.inj h).symm⟩
theorem nodup_at {ins : List Str} (hn : ins.Nodup) {i j : Nat} {z : Str} (h1 : ins[i]? = some z) (h2 : ins[j]? = some z) : i = j := by
  obtain ⟨g1, g2⟩ := List.getElem?_eq_some_iff.mp h1
  obtain ⟨g3, g4⟩ := List.getElem?_eq_some_iff.mp h2
  have pw := List.pairwise_iff_getElem.mp hn
  by_cases e : i = j
  · exact e
  · by_cases l : i < j
    · exact absurd (g2.trans g4.symm) (pw i j g1 g3 l)
    · exact absurd (g4.trans g2.symm) (pw j i g3 g1 (by omega))
theorem pairsS_new {ins : List Str} {ls : List Int} (hn : ins.Nodup) {i : Nat} {z : Str} (h : ins[i]? = some z) : ∀ p ∈ (pairsS ins ls).take i, p.1 ≠ .inr z := by
  intro p hp e
  obtain ⟨j, hj⟩ := List.getElem?_of_mem hp
  rw [List.getElem?_take] at hj
  split at hj
  · rename_i hji
    obtain ⟨w, x, h1, h2, rfl⟩ := pairsS_at hj
    have e2 : w = z := Sum.inr.inj e
    subst e2
    have := nodup_at hn h h1
    omega
  · cases hj
theorem valV_mem {kvs : List (Key × V)} {k : Key} {v : V} {i : Nat} (h : kvs[i]? = some (k, v)) (u : ∀ (j : Nat) w, kvs[j]? = some (k, w) → j = i) : valV kvs k = some v := by
  induction kvs generalizing i with
  | nil => simp at h
  | cons p r ih =>
    by_cases e : p.1 = k
    · rw [valV_pos e]
      have h0 : (p :: r)[0]? = some (k, p.2) := by rw [← e]; rfl
      have := u 0 _ h0
      subst this
      cases h
      rfl
    · rw [valV_neg e]
      cases i with
      | zero =>
        cases h
        exact absurd rfl e
      | succ i => exact ih (i := i) h fun j w hj => Nat.succ.inj (u (j + 1) w hj)
theorem pairsS_val {ins : List Str} {ls : List Int} (hn : ins.Nodup) {i : Nat} {z : Str} {x : Int} (h1 : ins[i]? = some z) (h2 : ls[i]? = some x) : valV (pairsS ins ls) (.inr z) = some (.int x) := by
  refine valV_mem (pairsS_get h1 h2) fun j w hj => ?_
  obtain ⟨z2, x2, g1, g2, e⟩ := pairsS_at hj
  cases e
  exact nodup_at hn g1 h1
theorem pairsS_put {ins : List Str} {ls : List Int} (hn : ins.Nodup) {i : Nat} {z : Str} {x y : Int} (h1 : ins[i]? = some z) (h2 : ls[i]? = some x) : putK (pairsS ins ls) (.inr z) (.int y) = pairsS ins (ls.set i y) := by
  have ha : ((pairsS ins ls).any fun kv => decide (kv.1 = .inr z)) = true := List.any_eq_true.mpr ⟨_, List.mem_of_getElem? (pairsS_get h1 h2), decide_eq_true rfl⟩
  unfold putK
  rw [if_pos ha]
  apply List.ext_getElem?
  intro j
  rw [List.getElem?_map]
  cases hj : (pairsS ins ls)[j]? with
  | none =>
    have hl : (pairsS ins (ls.set i y)).length = (pairsS ins ls).length := by
      unfold pairsS
      rw [List.length_map, List.length_map, List.length_zip, List.length_zip, List.length_set]
    have := List.getElem?_eq_none_iff.mp hj
    rw [List.getElem?_eq_none (by omega)]
    rfl
  | some p =>
    obtain ⟨w, x2, g1, g2, rfl⟩ := pairsS_at hj
    by_cases e : w = z
    · subst e
      have := nodup_at hn g1 h1
      subst this
      have hlt := (List.getElem?_eq_some_iff.mp g2).1
      rw [pairsS_get g1 (by rw [List.getElem?_set_self hlt])]
      show some (if (Sum.inr w : Key) = .inr w then _ else _) = _
      rw [if_pos rfl]
    · have nij : i ≠ j := fun q => e (by subst q; rw [h1] at g1; exact (Option.some.inj g1).symm)
      rw [pairsS_get g1 (by rw [List.getElem?_set_ne nij]; exact g2)]
      show some (if (Sum.inr w : Key) = .inr z then _ else _) = _
      rw [if_neg (fun q => e (Sum.inr.inj q))]
/-- z's loss grows by p -/
noncomputable def addAt : List Str → List Int → Str → Int → List Int
  | i :: r, x :: xs, z, p => if i = z then (x + p) :: xs else x :: addAt r xs z p
  | _, ls, _, _ => ls
theorem addAt_len : ∀ (ins : List Str) (ls : List Int) (z : Str) (p : Int), (addAt ins ls z p).length = ls.length
  | [], _, _, _ => rfl
  | _ :: _, [], _, _ => rfl
  | i :: r, x :: xs, z, p => by
    unfold addAt
    split
    · rfl
    · exact congrArg Nat.succ (addAt_len r xs z p)
theorem addAt_set {z : Str} {p : Int} : ∀ {ins : List Str} {ls : List Int} {i : Nat} {x : Int}, ins.Nodup → ins[i]? = some z → ls[i]? = some x → addAt ins ls z p = ls.set i (x + p)
  | [], _, _, _, _, h, _ => by simp at h
  | _ :: _, [], _, _, _, _, h => by simp at h
  | a :: r, y :: ys, 0, x, _, h1, h2 => by
    cases h1
    cases h2
    unfold addAt
    rw [if_pos rfl]
    rfl
  | a :: r, y :: ys, i + 1, x, hn, h1, h2 => by
    have hm : z ∈ r := List.mem_of_getElem? (show r[i]? = some z from h1)
    have ne : ¬ a = z := fun e => (List.nodup_cons.mp hn).1 (by rw [e]; exact hm)
    unfold addAt
    rw [if_neg ne, addAt_set (List.nodup_cons.mp hn).2 h1 h2]
    rfl
noncomputable def addPan (ins : List Str) : List ((Option Str × Int) × Int) → List Int → List Int
  | [], ls => ls
  | ((none, _), _) :: r, ls => addPan ins r ls
  | ((some z, _), p) :: r, ls => addPan ins r (addAt ins ls z p)
theorem addPan_len (ins : List Str) : ∀ (l : List ((Option Str × Int) × Int)) (ls : List Int), (addPan ins l ls).length = ls.length
  | [], _ => rfl
  | ((none, _), _) :: r, ls => addPan_len ins r ls
  | ((some z, _), p) :: r, ls => (addPan_len ins r _).trans (addAt_len ..)
theorem addPan_add (ins : List Str) : ∀ (l : List ((Option Str × Int) × Int)) (ls : List Int) (e : (Option Str × Int) × Int), addPan ins (l ++ [e]) ls = addPan ins [e] (addPan ins l ls)
  | [], _, _ => rfl
  | ((none, _), _) :: r, ls, e => addPan_add ins r ls e
  | ((some z, _), p) :: r, ls, e => addPan_add ins r _ e
noncomputable def addTrs (ins : List Str) : List (Trt × Int) → List Int → List Int
  | [], ls => ls
  | (t, m) :: r, ls => addTrs ins r (addPan ins (t.pan.zip (alloc m (shs t.pan))) ls)
theorem addTrs_len (ins : List Str) : ∀ (l : List (Trt × Int)) (ls : List Int), (addTrs ins l ls).length = ls.length
  | [], _ => rfl
  | (t, m) :: r, ls => (addTrs_len ins r _).trans (addPan_len ..)
theorem addTrs_add (ins : List Str) : ∀ (l : List (Trt × Int)) (ls : List Int) (t : Trt) (m : Int), addTrs ins (l ++ [(t, m)]) ls = addPan ins (t.pan.zip (alloc m (shs t.pan))) (addTrs ins l ls)
  | [], _, _, _ => rfl
  | (u, k) :: r, ls, t, m => addTrs_add ins r _ t m
/-- the gross losses of the round behind -/
noncomputable def nextG (ins : List Str) (ts : List Trt) (ds gs : List Int) : List Int := addTrs ins (ts.zip (tpay ts ins gs)) ds
structure TrsOk (ins : List Str) (ts : List Trt) : Prop where
  nd : ins.Nodup
  ok : ∀ t ∈ ts, TrtOk t
  mem : ∀ t ∈ ts, ∀ e ∈ t.pan, ∀ z, e.1 = some z → z ∈ ins
  len : ts.length ≤ 1000
  few : ins.length ≤ 1000
noncomputable def sp_next_gross (K : PySem.W.Frag) : Sp := fun vs H Q _ => ∃ (a b c d : Addr) (ins : List Str) (ts : List Trt) (ds gs : List Int), vs = [.ref a, .ref b, .ref c, .ref d] ∧ SqT K H a (ins.map V.str) ∧ TrsAt K H b ts ∧ TrsOk ins ts ∧ SqT K H c (ds.map V.int) ∧ ds.length = ins.length ∧ SqT K H d (gs.map V.int) ∧
  ∀ (p : Addr) (H' : Hp), Same H H' → H p = none → H' p = some (.tup ((nextG ins ts ds gs).map V.int)) → Q (.ref p) H'
/-! ### the rounds -/
noncomputable def row (ins : List Str) (ts : List Trt) (ds : List Int) : Nat → List Int
  | 0 => ds
  | n + 1 => nextG ins ts ds (row ins ts ds n)
theorem row_len {ins : List Str} {ts : List Trt} {ds : List Int} (h : ds.length = ins.length) : ∀ n, (row ins ts ds n).length = ins.length
  | 0 => h
  | n + 1 => by
    show (nextG ins ts ds _).length = _
    unfold nextG
    rw [addTrs_len, h]
noncomputable def RowR (K : PySem.W.Frag) (H : Hp) (y : V) (r : List Int) : Prop := ∃ b : Addr, y = .ref b ∧ SqT K H b (r.map V.int)
theorem RowR.same {K : PySem.W.Frag} {H H' : Hp} {y : V} {r : List Int} (e : Same H H') (h : RowR K H y r) : RowR K H' y r := by
  obtain ⟨b, rfl, h⟩ := h
  exact ⟨b, rfl, same_sqt e h⟩
theorem RowR.put {K : PySem.W.Frag} {H : Hp} {D : Addr} {zs : List V} {o : HO} {y : V} {r : List Int} (hD : H D = some (.lst zs)) (h : RowR K H y r) : RowR K (upd H D o) y r := by
  obtain ⟨b, rfl, h⟩ := h
  exact ⟨b, rfl, sqt_put hD h⟩
noncomputable def RowsAt (K : PySem.W.Frag) (H : Hp) (p : Addr) (rs : List (List Int)) : Prop := ∃ xs, SqT K H p xs ∧ AllAt (RowR K) H xs rs
theorem lay_ints : ∀ ns : List Int, PyData.canLayAll0 (ns.map PyData.int) = true
  | [] => rfl
  | n :: r => by
    rw [List.map_cons]
    simp only [PyData.canLayAll0, PyData.canLay0, Bool.true_and]
    exact lay_ints r
theorem dep_ints : ∀ ns : List Int, PyData.depthAll (ns.map PyData.int) = 0
  | [] => rfl
  | n :: r => by
    rw [List.map_cons]
    simp only [PyData.depthAll, PyData.depth]
    rw [dep_ints r]
    rfl
theorem shp_ints (ns : List Int) : SeqAt.shaped (.tuple (ns.map PyData.int)) = true := by
  show (PyData.canLay0 (.tuple (ns.map PyData.int)) && decide (PyData.depth (.tuple (ns.map PyData.int)) ≤ 64)) = true
  rw [Bool.and_eq_true]
  refine ⟨?_, decide_eq_true ?_⟩
  · simp only [PyData.canLay0]
    exact lay_ints ns
  · simp only [PyData.depth]
    rw [dep_ints]
    decide
theorem eqv_ints : ∀ as bs : List Int, PyData.eqvAll (as.map PyData.int) (bs.map PyData.int) = decide (as = bs)
  | [], [] => rfl
  | [], _ :: _ => rfl
  | _ :: _, [] => rfl
  | a :: as, b :: bs => by
    rw [List.map_cons, List.map_cons]
    simp only [PyData.eqvAll, PyData.eqv]
    rw [eqv_ints as bs]
    by_cases h : a = b
    · subst h
      by_cases h2 : as = bs
      · subst h2
        simp
      · rw [decide_eq_false h2, decide_eq_false (fun e => h2 (List.cons.inj e).2)]
        simp
    · rw [decide_eq_false (fun e => h (List.cons.inj e).1)]
      have : (a == b) = false := by simpa using h
      rw [this]
      rfl
theorem eqv_tup (as bs : List Int) : PyData.eqv (.tuple (as.map PyData.int)) (.tuple (bs.map PyData.int)) = decide (as = bs) := by
  simp only [PyData.eqv]
  exact eqv_ints as bs
noncomputable def big (r : List Int) : Bool := r.any fun x => decide (1000000000 < x)
noncomputable def sp_rounds (K : PySem.W.Frag) (C : Addr) : Sp := fun vs H Q E => ∃ (a b c : Addr) (ins : List Str) (ts : List Trt) (ds : List Int), vs = [.ref a, .ref b, .ref c] ∧ SqT K H a (ins.map V.str) ∧ TrsAt K H b ts ∧ TrsOk ins ts ∧ SqT K H c (ds.map V.int) ∧ ds.length = ins.length ∧
  (∀ i, i ≤ 200 → row ins ts ds (i + 1) = row ins ts ds i → (∀ j, j < i → row ins ts ds (j + 1) ≠ row ins ts ds j) →
    (big (row ins ts ds i) = true → ∀ H', Same H H' → E (.ref C) none H') ∧ (big (row ins ts ds i) = false → ∀ p H', Same H H' → RowsAt K H' p ((List.range (i + 1)).map (row ins ts ds)) → Q (.ref p) H')) ∧
  ((∀ i, i ≤ 200 → row ins ts ds (i + 1) ≠ row ins ts ds i) → ∀ H', Same H H' → E (.ref C) none H')
/-! ### {k: v for ..} with keys that are tuples -/
section
variable {X : Cx}
/-- d[k] = v, the key a tuple that stands at b -/
theorem dt_store {pins : List (Addr × Obj)} {σ : L2.St} {H : Hp} {s : Shared} {E : Value → Shared → Prop} {D b : Addr} {kvs : List (List Key × V)} {k : List Key} {v : V} {r : Value} {Q : Unit → Shared → Prop} (hu : X.A.units + 1 < cLine) (I : Inv X pins σ H s) (e : H D = some (.dT kvs)) (eb : H b = some (.tup (k.map kV)))
    (l : kvs.length < sizeLine) (rv : RelV v r) (h : ∀ s', Inv X pins σ (upd H D (.dT (putK kvs k v))) s' → Q () s') : wpAny (model X.prog X.w) X.A (dictSet D (.ref b) r) Q E s := by
  obtain ⟨z, hd, xs, rel, dd⟩ := dt_of I.hok e
  have hz : xs.length ≤ sizeLine := by
    rw [← Paired.length rel]
    exact z
  have hl : (putK kvs k v).length ≤ sizeLine := by
    have := length_putK kvs k v
    omega
  refine wpAny_dictSet_heap (knd := tupleKind (mixKind X.prog X.w)) (hsz := hz) (Nat.lt_of_succ_lt hu) (key_of I.hok eb) dd fun h' dd' hs => h _ ?_
  obtain ⟨q, es, ep, hq, h2, h3, h4, _, h5⟩ := dd'
  refine d_write I (by rw [e]; exact True.intro) hs ⟨q, hq⟩ ⟨hl, hd, _, (rel.put k eb rv).keeps fun c ys ec => ?_, q, es, ep, hq, h2, h3, h4, h5⟩
  rw [upd_ne (ne_of ec e (fun z => nomatch z))]
  exact ec
noncomputable def PutT (H : Hp) (D : Addr) (y z : V) (R : Hp → Prop) : Prop := ∃ (kvs : List (List Key × V)) (k : List Key) (b : Addr), y = .ref b ∧ H D = some (.dT kvs) ∧ H b = some (.tup (k.map kV)) ∧ kvs.length < sizeLine ∧ R (upd H D (.dT (putK kvs k z)))
noncomputable def tDct (wi : TI) (g : TG) (tt : TT) (tk tv : TE) (vs : List Nat) : TE := fun σ H Q => wi σ H fun J H1 => ∀ D, H1 D = none → ∃ W : Nat → Nat → Hp → Prop, (∃ m, W 0 m (upd H1 D (.dT []))) ∧ ∀ i m H, W i m H →
  (J.stop i H ∧ Q (.ref D) H) ∨ (J.go i H ∧ ∃ Nx : Hp → Prop, (∀ H', Nx H' → ∃ m', m' < m ∧ W (i + 1) m' H') ∧ ∀ x H', J.yld i H x H' → g x (wipe σ vs) H' fun σ2 H2 => wipe σ2 vs = wipe σ vs ∧ tt σ2 H2 fun b H3 =>
    if b = true then tk σ2 H3 fun y H4 => tv σ2 H4 fun z H5 => PutT H5 D y z Nx else Nx H3)
variable {σ : L2.St} {H : Hp} {s : Shared} {Q : VK} {kx vx tg iter : Expr} {ifs : List Expr} {scope : Scope} {own : List (Str × Nat)} {pos spos py pos' : PySem.Pos} {wi : TI} {g : TG} {tt : TT} {tk tv : TE} {use : Option (Value → Sem Unit)} {Qf : Value → Shared → Prop}
theorem dct_core {pins : List (Addr × Obj)} (hu : X.A.units + 1 < cLine) (hc : X.calm = true) (hN : X.N.Nodup) (I : Inv X pins σ H s) (hi : PI X tg iter wi) (ok : BlkOk X.N X.env.scope scope own) (hg : Blks X scope fun B => PG B tg g) (ht : Blks X scope fun B => PTs B ifs tt) (hk : Blks X scope fun B => PE B kx tk) (he : Blks X scope fun B => PE B vx tv)
    (hs : ∀ x, foldedSetIterable iter X.env x = pure x) (h : tDct wi g tt tk tv (own.map (·.2)) σ H Q)
    (fin : ∀ D C s' m H', Inv X pins σ H' s' → Q (.ref D) H' → s'.heap.Ns C m → FpOk X pins H' C → compPost (model X.prog X.w) X.A X.xe use Qf (.ref D) C (.ok .next) s') :
    wpAny (model X.prog X.w) X.A (comprehension (dcx kx vx tg iter ifs scope pos) scope X.env pos' newDict false (eval iter X.env) use) Qf X.xe s := by
  have free : ∀ y ∈ scope.names, y.2 = .free → ∃ c, X.env.cells.lookup y.1 = some c := fun y hy e => (ok.free y hy e).elim (fun k => I.ok.has _ (.inl k)) fun k => I.ok.has _ (.inr k)
  refine wpAny_comprehension_free (use := use) rfl hs (closure_ok free) ok.kind (fun y hy e => by rw [ok.uniq y hy, e]) (thn (hi.run pins s σ H _ I h) fun xv s1 hx => thn hx fun itv s2 h2 => ?_)
  obtain ⟨it, fp, tn, J, H2, rfl, I2, T, st2, f2, q⟩ := h2
  refine wpAny_newObj_type (newEnv_comp ?_)
  obtain ⟨D, hD⟩ : ∃ D, s2.heap.objs.size = D := ⟨_, rfl⟩
  rw [hD]
  have hDn : H2 D = none := I2.hok.fresh (Nat.le_of_eq hD)
  obtain ⟨W, ⟨m0, w0⟩, turn⟩ := q D hDn
  obtain ⟨s3, hs3⟩ : ∃ s3 : Shared, { s2 with heap := s2.heap.push { cls := .type "dict", data := .dict #[] } } = s3 := ⟨_, rfl⟩
  rw [hs3]
  have I3 : Inv X pins σ (upd H2 D (.dT [])) s3 := by
    rw [← hs3]
    refine I2.laid (t' := s2.toks) (fun b o e => Heap.get?_push_of_some _ e) (Nat.le_of_eq hD) ?_
    rw [← hD]
    exact dt_empty s2.heap I2.big
  have h3 : s3.heap = s2.heap.push { cls := .type "dict", data := .dict #[] } := by rw [← hs3]
  have f3 : ∀ b ∈ fp, FpOk X pins (upd H2 D (.dT [])) b ∧ b < s3.heap.objs.size := fun b hb => by
    obtain ⟨o, eo, _⟩ := T.obj _ _ st2 b hb
    have lt := Heap.lt_size eo
    refine ⟨⟨?_, (f2 b hb).2⟩, by rw [h3, Heap.size_push]; exact Nat.lt_succ_of_lt lt⟩
    rw [upd_ne (by rw [← hD]; exact Nat.ne_of_lt lt)]
    exact (f2 b hb).1
  have st3 : tn 0 s3.heap := T.keep _ _ _ st2 fun b _ o e => by
    rw [h3]
    exact Heap.get?_push_of_some _ e
  have I4 := block_start I3 ok hN f3
  have pg := hg s3 (upd H2 D (.dT [])) s3.heap.objs.size (cellsFrom (s3.heap.objs.size + 1) scope.names (cloFrom X.env.cells scope.names [])) fp
  have pt := ht s3 (upd H2 D (.dT [])) s3.heap.objs.size (cellsFrom (s3.heap.objs.size + 1) scope.names (cloFrom X.env.cells scope.names [])) fp
  have pk := hk s3 (upd H2 D (.dT [])) s3.heap.objs.size (cellsFrom (s3.heap.objs.size + 1) scope.names (cloFrom X.env.cells scope.names [])) fp
  have pe := he s3 (upd H2 D (.dT [])) s3.heap.objs.size (cellsFrom (s3.heap.objs.size + 1) scope.names (cloFrom X.env.cells scope.names [])) fp
  show codeAny _ _ (.compStart (dcx kx vx tg iter ifs scope pos) 0 (.ref it) (.ref D) (compEnvC scope (cellsFrom (s3.heap.objs.size + 1) scope.names (cloFrom X.env.cells scope.names [])) s3.heap.objs.size X.env)) (compPost (model X.prog X.w) X.A X.xe use Qf (.ref D) s3.heap.objs.size) { s3 with heap := pushCells (s3.heap.push { cls := .type "dict", data := .dict #[] }) scope.names }
  have nfp : ∀ b ∈ fp, (upd H2 D (.dT [])) b = none := fun b hb => (f3 b hb).1.1
  generalize hce : compEnvC scope (cellsFrom (s3.heap.objs.size + 1) scope.names (cloFrom X.env.cells scope.names [])) s3.heap.objs.size X.env = ce at I4 pg pt pk pe ⊢
  have cL : ce.locals = s3.heap.objs.size := by
    subst hce
    rfl
  generalize hH3 : upd H2 D (.dT []) = H3 at I3 I4 pg pt pk pe w0 nfp f3
  generalize hs4 : ({ s3 with heap := pushCells (s3.heap.push { cls := .type "dict", data := .dict #[] }) scope.names } : Shared) = s4 at I4 ⊢
  have st4 : tn 0 s4.heap := T.keep _ _ _ st3 fun b _ o e => by
    rw [← hs4]
    exact pushCells_keeps _ _ _ _ (Heap.get?_push_of_some _ e)
  have stat : ∀ {σ' : L2.St} {H' : Hp} {s' : Shared}, Inv (X.blk s3 H3 scope ce fp) [] σ' H' s' → (∀ b ∈ fp, H' b = none) → ∀ b ∈ fp, FpOk (X.blk s3 H3 scope ce fp) [] H' b := fun {σ' H' s'} I' hn b hb =>
    ⟨hn b hb, (I'.ok.exf b hb).1, I'.ok.exfs b hb, .inl hb, fun x c e => (I'.ok.exf b hb).2 x c e, fun p hp => absurd (show p ∈ ([] : List (Addr × Obj)) ++ [] from hp) (by simp)⟩
  have loop : codeAny (model X.prog X.w) X.A (.compLoop (dcx kx vx tg iter ifs scope pos) 0 (.ref it) (.ref D) ce) (compPost (model X.prog X.w) X.A X.xe use Qf (.ref D) s3.heap.objs.size) s4 := by
    refine compLoop_anyD (fun n s' => ∃ i H', Inv (X.blk s3 H3 scope ce fp) [] (wipe σ (own.map (·.2))) H' s' ∧ tn i s'.heap ∧ (∀ b ∈ fp, H' b = none) ∧ W i n H') ?_ m0 ⟨0, H3, I4, st4, nfp, w0⟩
    rintro n s5 ⟨i, H5, I5, st5, n5, w5⟩
    rcases turn i n H5 w5 with ⟨stop, qq⟩ | ⟨go, Nx, hNx, step⟩
    · refine thnF (T.done (X.blk s3 H3 scope ce fp) rfl rfl rfl hc i [] s5 _ H5 (fun _ _ => False) I5 (stat I5 n5) st5 stop) fun r s6 ⟨hr, I6⟩ => ?_
      subst hr
      have I7 : Inv X pins σ H5 s6 := I3.call' (ch := fp) I6.os I6.base I6.hok I6.bare fun b hb => ⟨(f3 b hb).1.2.2.2.1, (f3 b hb).1.2.1, (f3 b hb).1.2.2.2.2.1, (f3 b hb).1.2.2.2.2.2⟩
      have nC : H5 s3.heap.objs.size = none := by
        rw [← cL]
        exact (show H5 ce.locals = none from I6.free)
      obtain ⟨m, hn, _⟩ := I6.loc
      have hn : s6.heap.Ns ce.locals m := hn
      rw [cL] at hn
      exact fin D s3.heap.objs.size s6 m H5 I7 qq hn (I3.fpOk (Nat.le_refl _) nC)
    · refine thnF (T.item (X.blk s3 H3 scope ce fp) rfl rfl rfl hc i [] s5 _ H5 (fun _ _ => False) I5 (stat I5 n5) st5 go) fun r s6 ⟨u, hr, h6⟩ => ?_
      subst hr
      refine thnF h6 fun _ s7 ⟨x, H7, I7, r7, y7, st7, n7⟩ => ?_
      refine thnF (pg.run _ s7 _ H7 x u _ (I7.pinned (stat I7 n7) (T.obj _ _ st7)) r7 (step x H7 y7)) fun _ s8 ⟨σ8, H8, I8, hw8, q8⟩ => ?_
      refine thnF (pt.run _ s8 σ8 H8 _ I8 q8) fun b s9 ⟨H9, I9, q9⟩ => ?_
      have back : ∀ {s' : Shared} {H' : Hp}, Inv (X.blk s3 H3 scope ce fp) ([] ++ pinsAt fp s7.heap) σ8 H' s' → Nx H' → ∃ m, m < n ∧ ∃ i H', Inv (X.blk s3 H3 scope ce fp) [] (wipe σ (own.map (·.2))) H' s' ∧ tn i s'.heap ∧ (∀ b ∈ fp, H' b = none) ∧ W i m H' := fun {s' H'} I' nx => by
        obtain ⟨m', hm, w'⟩ := hNx H' nx
        have pin' : ∀ b ∈ fp, ∀ o, s7.heap.get? b = some o → s'.heap.get? b = some o ∧ H' b = none := fun b hb o e =>
          let z := I'.pin (b, o) (List.mem_append_right _ (List.mem_append_right _ (mem_pinsAt hb e)))
          ⟨z.1, z.2.1⟩
        refine ⟨m', hm, i + 1, H', (I'.unpinned (pins := [])).weak (by rw [← hw8, wipe_length]) (fun j v e => ?_), T.keep _ _ _ st7 fun b hb o e => (pin' b hb o e).1, fun b hb => ?_, w'⟩
        · rw [← hw8] at e
          exact (wipe_some e).1
        · obtain ⟨o, e, _⟩ := T.obj _ _ st7 b hb
          exact (pin' b hb o e).2
      cases b with
      | false =>
        simp only [Bool.false_eq_true, if_false] at q9 ⊢
        exact back I9 q9
      | true =>
        simp only [if_true] at q9 ⊢
        refine thnF (pk.run _ s9 σ8 H9 _ I9 q9) fun z s10 ⟨yk, H10, I10, r10, q10⟩ => thnF (pe.run _ s10 σ8 H10 _ I10 q10) fun z2 s11 ⟨yv, H11, I11, r11, kvs, k, kb, ek, hD11, hkb, hz11, nx⟩ => ?_
        subst ek
        obtain rfl : z = Value.ref kb := r10
        exact dt_store (X := X.blk s3 H3 scope ce fp) hu I11 hD11 hkb hz11 r11 fun s12 I12 => back I12 nx
  exact codeAny_compStart_dict loop (T.self X.A 0 _ _ _ st4 loop)
theorem ps_setDct {i : Nat} {y : Str} (hu : X.A.units + 1 < cLine) (hc : X.calm = true) (hN : X.N.Nodup) (hy : X.N[i]? = some y) (hyl : X.env.scope.names.lookup y = some .local) (hsw : swapsWith (dcx kx vx tg iter ifs scope pos) (some (.Name y py)) spos.line X.env = pure true) (hi : PI X tg iter wi) (ok : BlkOk X.N X.env.scope scope own)
    (hg : Blks X scope fun B => PG B tg g) (ht : Blks X scope fun B => PTs B ifs tt) (hk : Blks X scope fun B => PE B kx tk) (he : Blks X scope fun B => PE B vx tv) (hs : ∀ x, foldedSetIterable iter X.env x = pure x := by intro _; rfl) :
    PS X (.Assign [.Name y py] (dcx kx vx tg iter ifs scope pos) spos) (tAsg (tDct wi g tt tk tv (own.map (·.2))) (gName i)) := ⟨fun pins s σ H D I h => by
  rw [exec_Assign_Name_used _ _ _ _ hsw]; refine wpAny_bind (wpAny_standAt (wpAny_bind ?_))
  show wpAny _ X.A (do
    let _ ← comprehension (dcx kx vx tg iter ifs scope pos) scope X.env (firstIterPos [⟨tg, iter, ifs, 0⟩] pos) newDict false (eval iter X.env) (some (assign (.Name y py) X.env))) _ _ s
  have h1 : tDct wi g tt tk tv (own.map (·.2)) σ H (fun x H1 => gName i x σ H1 D.nx) := h
  refine wpAny_bind (thn (dct_core (Qf := fun _ t => SP X pins D .next t) hu hc hN I hi ok hg ht hk he hs h1 fun L C t m H1 I1 q hn fp => ?_) fun _ t hq => wpAny_pure (wpAny_pure hq))
  obtain ⟨e0, e1, e2, e3, e4, e5⟩ := fp
  show wpAny _ _ (assign (.Name y py) X.env (.ref L)) _ _ _
  refine wpAny_assign_Name (store_ok2 (v := V.ref L) I1 hN hy (.inl hyl) rfl (fun u I2 ⟨b, sb, hb⟩ => ?_) (.inr hyl))
  have ne : C ≠ b := hb.elim (fun z => by rw [z]; exact e1) fun z w => e4 y b z w.symm
  exact ⟨m, hn.sameBut sb ne, fun h3 sb3 => ⟨_, H1, I2.turned (t' := u.toks) (fun c o hcb e => (sb3.2 c hcb).trans e) e0 e1 e3 e4 e5, q⟩⟩⟩
end
/-- over what is walked -/
theorem dct_it {J : It} {n : Nat} {G : Hp → Prop} {Y : Nat → Hp → V → Hp → Prop} (w : L2.Walk J n G Y) {g : TG} {tt : TT} {tk tv : TE} {vs : List Nat} {σ : L2.St} {H1 : Hp} {D : Addr} {Qd : Hp → Prop} (Pv : Nat → Hp → Prop) (h0 : Pv 0 (upd H1 D (.dT []))) (hG : ∀ i H, i ≤ n → Pv i H → G H)
    (hs : ∀ i x H H', i < n → Pv i H → Y i H x H' → g x (wipe σ vs) H' fun σ2 H2 => wipe σ2 vs = wipe σ vs ∧ tt σ2 H2 fun b H3 => if b = true then tk σ2 H3 fun y H4 => tv σ2 H4 fun z H5 => PutT H5 D y z (Pv (i + 1)) else Pv (i + 1) H3) (hd : ∀ H, Pv n H → Qd H) :
    ∃ W : Nat → Nat → Hp → Prop, (∃ m, W 0 m (upd H1 D (.dT []))) ∧ ∀ i m H, W i m H →
      (J.stop i H ∧ Qd H) ∨ (J.go i H ∧ ∃ Nx : Hp → Prop, (∀ H', Nx H' → ∃ m', m' < m ∧ W (i + 1) m' H') ∧ ∀ x H', J.yld i H x H' → g x (wipe σ vs) H' fun σ2 H2 => wipe σ2 vs = wipe σ vs ∧ tt σ2 H2 fun b H3 => if b = true then tk σ2 H3 fun y H4 => tv σ2 H4 fun z H5 => PutT H5 D y z Nx else Nx H3) := by
  refine ⟨fun i m H => m = n - i ∧ i ≤ n ∧ Pv i H, ⟨n, by simp, Nat.zero_le _, h0⟩, ?_⟩
  rintro i m H ⟨rfl, hi, p⟩
  have q := hG i H hi p
  by_cases hlt : i < n
  · exact .inr ⟨w.goes i H hlt q, Pv (i + 1), fun H' p' => ⟨n - (i + 1), by omega, rfl, hlt, p'⟩, fun x H' y => hs i x H H' hlt p (w.yields i H x H' hlt q y)⟩
  · have e : i = n := by omega
    subst e
    exact .inl ⟨w.stops H q, hd H p⟩
/-! ### tuples laid as objects that are known -/
noncomputable def TupF (H : Hp) (a : Addr) (xs : List V) : Prop := ∃ o : Obj, H a = some (.frz o (.tup xs)) ∧ o.cls = .type "tuple" ∧ o.dict = none
theorem TupF.same {H H' : Hp} {a : Addr} {xs : List V} (e : Same H H') (h : TupF H a xs) : TupF H' a xs :=
  let ⟨o, h1, h2⟩ := h; ⟨o, e _ _ h1, h2⟩
theorem TupF.sqt {K : PySem.W.Frag} {H : Hp} {a : Addr} {xs : List V} (h : TupF H a xs) : SqT K H a xs :=
  let ⟨o, h1, _⟩ := h; .inl (.inr ⟨o, h1⟩)
theorem TupF.put {H : Hp} {a m : Addr} {xs : List V} {u o : HO} (hm : H m = some u) (hu : ∀ o2, u ≠ .frz o2 (.tup xs)) (h : TupF H a xs) : TupF (upd H m o) a xs :=
  let ⟨o2, h1, h2⟩ := h; ⟨o2, by rw [upd_ne (fun e => by rw [e, hm] at h1; exact hu o2 (Option.some.inj h1))]; exact h1, h2⟩
/-- a tuple that is empty or known as an object -/
noncomputable def Fz (H : Hp) (a : Addr) (xs : List V) : Prop := xs = [] ∨ TupF H a xs
theorem Fz.same {H H' : Hp} {a : Addr} {xs : List V} (e : Same H H') (h : Fz H a xs) : Fz H' a xs := h.imp id fun h => h.same e
theorem Fz.ins {H : Hp} {a m C dx : Addr} {xs : List V} {fs gs : List (Str × V)} (hm : H m = some (.ins C dx fs)) (h : Fz H a xs) : Fz (upd H m (.ins C dx gs)) a xs := h.imp id fun h => h.put hm fun _ e => (nomatch e)
theorem Fz.get {H : Hp} {a : Addr} {xs : List V} (h : Fz H a xs) (hx : xs ≠ []) : TupF H a xs := h.resolve_left hx
section
variable {X : Cx}
/-- t + u, u known as an object: so is the whole -/
noncomputable def rCatF (K : PySem.W.Frag) : R2 := fun x y H Q => ∃ a b xs ys, x = .ref a ∧ y = .ref b ∧ SqT K H a xs ∧ TupF H b ys ∧ ys ≠ [] ∧ xs.length + ys.length ≤ sizeLine ∧
  (xs = [] → Q (.ref b) H) ∧ (xs ≠ [] → ∀ p H', H p = none → Same H H' → TupF H' p (xs ++ ys) → Q (.ref p) H')
theorem op_catF : OpR X (binaryOp .Add) (rCatF X.K) := by
  intro pins s σ H x y v u Q I rx ry h
  obtain ⟨a, b, xs, ys, rfl, rfl, ha, hb, hy, hz, q0, q2⟩ := h
  cases rx
  cases ry
  obtain ⟨its, r1, p1, _⟩ := I.tuple ha
  obtain ⟨its2, r2, p2, _⟩ := I.tuple (TupF.sqt (K := X.K) hb)
  by_cases hx : xs = []
  · subst hx
    cases r1
    exact cat_tup0 p1 p2 ⟨.ref b, H, I, rfl, q0 rfl⟩
  · refine HT.cat_tup p1 p2 (fun z => hx (r1.nil_iff.mp z)) (fun z => absurd (r2.nil_iff.mp z) hy) (fun z => ?_) (by rw [← r1.length, ← r2.length]; exact hz)
    have n0 : H s.heap.objs.size = none := I.hok.fresh (Nat.le_refl _)
    refine ⟨.ref s.heap.objs.size, _, I.laid (t' := s.toks) (o := .frz { cls := .type "tuple", data := .seq (its ++ its2).toArray } (.tup (xs ++ ys))) (fun b ob q => Heap.get?_push_of_some _ q) (Nat.le_refl _) ?_, rfl, q2 hx _ _ n0 (same_new n0) ⟨_, upd_same, rfl, rfl⟩⟩
    exact ⟨Heap.get?_push_size _ rfl, by rw [List.length_append]; exact hz, _, r1.append r2, IsTup.new _ _⟩
theorem catF_any {K : PySem.W.Frag} {H : Hp} {a b : Addr} {xs ys : List V} {Q : VK} (ha : SqT K H a xs) (hb : TupF H b ys) (hy : ys ≠ []) (hz : xs.length + ys.length ≤ sizeLine) (q : ∀ p H', Same H H' → TupF H' p (xs ++ ys) → Q (.ref p) H') : rCatF K (.ref a) (.ref b) H Q := by
  refine ⟨a, b, xs, ys, rfl, rfl, ha, hb, hy, hz, fun e => ?_, fun _ p H' _ s h => q p H' s h⟩
  subst e
  exact q b H (Same.refl H) hb
/-- (a, b, ..), known as an object -/
noncomputable def tTupF (t : TA) : TE := fun σ H Q => t σ H fun xs H1 => xs.length ≤ sizeLine ∧ ∀ p H', H1 p = none → Same H1 H' → TupF H' p xs → Q (.ref p) H'
theorem pe_tupF {es : List Expr} {t : TA} {x1 : Nat} {pos : PySem.Pos} (h : PA X es t) : PE X (.Tuple es x1 pos) (tTupF t) := by
  refine ⟨fun pins s σ H Q I hq => ?_⟩
  refine wpAny_Tuple_spliced (thn (h.run pos pins s σ H _ I hq) fun us s1 ⟨xs, H1, I1, r, z, q⟩ => ⟨by rw [← r.length]; exact z, ?_⟩)
  have hf : H1 s1.heap.objs.size = none := I1.hok.fresh (Nat.le_refl _)
  refine ⟨.ref s1.heap.objs.size, _, I1.laid (t' := s1.toks) (o := .frz { cls := .type "tuple", data := .seq us.toArray } (.tup xs)) (fun b u e => Heap.get?_push_of_some _ e) (Nat.le_refl _) ?_, rfl, q _ _ hf (same_new hf) ⟨_, upd_same, rfl, rfl⟩⟩
  exact ⟨Heap.get?_push_size _ rfl, z, us, r, ⟨_, Heap.get?_push_size _ rfl, rfl, _, rfl⟩⟩
end
/-! ### the market -/
/-- the losses: event and insurer, and how much -/
noncomputable def lkv (L : List ((Str × Str) × Int)) : List (List Key × V) := L.map fun p => ([.inr p.1.1, .inr p.1.2], .int p.2)
noncomputable def lossOf (L : List ((Str × Str) × Int)) (e z : Str) : Int := ((L.find? fun p => decide (p.1 = (e, z))).map (·.2)).getD 0
theorem key2 {e z e' z' : Str} : (([.inr e, .inr z] : List Key) = [.inr e', .inr z']) ↔ (e, z) = (e', z') := by
  constructor
  · intro h
    have h1 := List.cons.inj h
    have h2 := List.cons.inj h1.2
    have e1 : e = e' := Sum.inr.inj h1.1
    have e2 : z = z' := Sum.inr.inj h2.1
    rw [e1, e2]
  · intro h
    have h1 := Prod.mk.inj h
    rw [h1.1, h1.2]
theorem lkv_val (L : List ((Str × Str) × Int)) (e z : Str) : valV (lkv L) [.inr e, .inr z] = ((L.find? fun p => decide (p.1 = (e, z))).map (·.2)).map V.int := by
  induction L with
  | nil => rfl
  | cons p r ih =>
    by_cases h : p.1 = (e, z)
    · show valV (([.inr p.1.1, .inr p.1.2], V.int p.2) :: lkv r) _ = _
      rw [valV_pos (key2.mpr h), List.find?_cons, decide_eq_true h]
      rfl
    · show valV (([.inr p.1.1, .inr p.1.2], V.int p.2) :: lkv r) _ = _
      rw [valV_neg (fun q => h (key2.mp q)), ih, List.find?_cons, decide_eq_false h]
theorem lkv_get (L : List ((Str × Str) × Int)) (e z : Str) : (valV (lkv L) [.inr e, .inr z]).getD (.int 0) = .int (lossOf L e z) := by
  rw [lkv_val]
  unfold lossOf
  cases (L.find? fun p => decide (p.1 = (e, z))) <;> rfl
noncomputable def directs (ins : List Str) (L : List ((Str × Str) × Int)) (e : Str) : List Int := ins.map (lossOf L e)
noncomputable def sp_direct_losses (K : PySem.W.Frag) : Sp := fun vs H Q _ => ∃ (a d : Addr) (e : Str) (ins : List Str) (L : List ((Str × Str) × Int)), vs = [.ref a, .ref d, .str e] ∧ SqT K H a (ins.map V.str) ∧ ins.length ≤ 1000 ∧ Rd H d (.dT (lkv L)) ∧
  ∀ (p : Addr) (H' : Hp), Same H H' → H p = none → H' p = some (.tup ((directs ins L e).map V.int)) → Q (.ref p) H'
theorem rd_same {H H' : Hp} {a : Addr} {u : HO} (e : Same H H') (h : Rd H a u) : Rd H' a u := by
  rcases h with h | ⟨o, h⟩
  · exact .inl (e _ _ h)
  · exact .inr ⟨o, e _ _ h⟩
noncomputable def mf (ai ae at' ad : Addr) : List (Str × V) := [("insurers", .ref ai), ("events", .ref ae), ("treaties", .ref at'), ("losses", .ref ad)]
section
variable {ai ae at' ad x : Addr}
theorem mf_i : (mf ai ae at' ad).lookup ("insurers" : Str) = some (.ref ai) := by kernel_rfl
theorem mf_e : (mf ai ae at' ad).lookup ("events" : Str) = some (.ref ae) := by kernel_rfl
theorem mf_t : (mf ai ae at' ad).lookup ("treaties" : Str) = some (.ref at') := by kernel_rfl
theorem mf_l : (mf ai ae at' ad).lookup ("losses" : Str) = some (.ref ad) := by kernel_rfl
theorem mf_pi : putF "insurers" (.ref x) (mf ai ae at' ad) = mf x ae at' ad := by kernel_rfl
theorem mf_pe : putF "events" (.ref x) (mf ai ae at' ad) = mf ai x at' ad := by kernel_rfl
theorem mf_pt : putF "treaties" (.ref x) (mf ai ae at' ad) = mf ai ae x ad := by kernel_rfl
theorem mf_pl : putF "losses" (.ref x) (mf ai ae at' ad) = mf ai ae at' x := by kernel_rfl
theorem mf_no {m : Str} (h : (["insurers", "events", "treaties", "losses"] : List Str).contains m = false) : (mf ai ae at' ad).lookup m = none := by
  have h2 : ∀ x ∈ (["insurers", "events", "treaties", "losses"] : List Str), (m == x) = false := fun x hx => by
    cases e : (m == x) with
    | false => rfl
    | true =>
      have : (["insurers", "events", "treaties", "losses"] : List Str).contains m = true := List.contains_iff_mem.mpr (by rw [eq_of_beq e]; exact hx)
      rw [h] at this
      cases this
  unfold mf
  rw [List.lookup_cons, h2 _ (by simp), List.lookup_cons, h2 _ (by simp), List.lookup_cons, h2 _ (by simp), List.lookup_cons, h2 _ (by simp)]
  rfl
end
theorem isD_t {H : Hp} {d : Addr} {kvs : List (List Key × V)} (h : Rd H d (.dT kvs)) : IsD H d := by
  unfold IsD
  first
    | exact .inr ⟨_, h⟩
    | exact ⟨_, h⟩
theorem ne_keep {H : Hp} {a m : Addr} {o u : HO} (n : H a = none) (h : H m = some o) : upd H a u m = some o := by
  rw [upd_ne (ne_of_none h n)]
  exact h
theorem sqt_ins {K : PySem.W.Frag} {H : Hp} {m a : Addr} {C dx : Addr} {fs gs : List (Str × V)} {xs : List V} (hm : H m = some (.ins C dx fs)) (h : SqT K H a xs) : SqT K (upd H m (.ins C dx gs)) a xs := by
  rcases h with (h | ⟨u, h⟩) | h
  · refine .inl (.inl ?_)
    rw [upd_ne (fun e => by rw [e, hm] at h; cases h)]
    exact h
  · refine .inl (.inr ⟨u, ?_⟩)
    rw [upd_ne (fun e => by rw [e, hm] at h; cases h)]
    exact h
  · exact .inr h
theorem trs_ins {K : PySem.W.Frag} {H : Hp} {m a : Addr} {C dx : Addr} {fs gs : List (Str × V)} {ts : List Trt} (hm : H m = some (.ins C dx fs)) (h : TrsAt K H a ts) : TrsAt K (upd H m (.ins C dx gs)) a ts := by
  obtain ⟨xs, h1, h2⟩ := h
  refine ⟨xs, sqt_ins hm h1, AllAt.imp (S := TrAt K) h2 fun y t r => ?_⟩
  obtain ⟨a1, vc, vp, rfl, g1, g2, pa, px, rfl, g3, g4, g5⟩ := r
  refine ⟨a1, vc, _, rfl, sqt_ins hm g1, sqt_ins hm g2, pa, px, rfl, sqt_ins hm g3, g4, fun i e he => ?_⟩
  obtain ⟨y, f1, b, rfl, f2⟩ := g5 i e he
  exact ⟨_, f1, b, rfl, sqt_ins hm f2⟩
theorem fld_step {H : Hp} {a m : Addr} {o u o' : HO} (n : H a = none) (hm : H m = some o) : Bar m H (upd (upd H a u) m o') ∧ upd (upd H a u) m o' a = some u ∧ upd (upd H a u) m o' m = some o' ∧ a ≠ m := by
  have ne : a ≠ m := Bar.new hm n
  refine ⟨Bar.put (Bar.add (Bar.refl H) n), ?_, upd_same, ne⟩
  rw [upd_ne ne, upd_same]
theorem putF_le (f : Str) (v : V) : ∀ fs : List (Str × V), (putF f v fs).length ≤ fs.length + 1
  | [] => Nat.le_refl _
  | (g, x) :: r => by
    unfold putF
    split
    · rw [List.length_cons, List.length_cons]
      omega
    · rw [List.length_cons, List.length_cons]
      have := putF_le f v r
      omega
structure Mkt where
  ins : List Str
  evs : List Str
  trs : List Trt
  los : List ((Str × Str) × Int)
noncomputable def MktAt (K : PySem.W.Frag) (C : Addr) (H : Hp) (m : Addr) (M : Mkt) : Prop := ∃ dx ai ae at' ad : Addr, H m = some (.ins C dx (mf ai ae at' ad)) ∧ SqT K H ai (M.ins.map V.str) ∧ SqT K H ae (M.evs.map V.str) ∧ TrsAt K H at' M.trs ∧ H ad = some (.dT (lkv M.los)) ∧ Fz H ai (M.ins.map V.str)
theorem MktAt.same {K : PySem.W.Frag} {C : Addr} {H H' : Hp} {m : Addr} {M : Mkt} (e : Same H H') (h : MktAt K C H m M) : MktAt K C H' m M := by
  obtain ⟨dx, ai, ae, at', ad, h0, h1, h2, h3, h4, h5⟩ := h
  exact ⟨dx, ai, ae, at', ad, e _ _ h0, same_sqt e h1, same_sqt e h2, TrsAt.same e h3, e _ _ h4, h5.same e⟩
noncomputable def sp_minit (K : PySem.W.Frag) (C : Addr) : Sp := fun vs H Q _ => ∃ m dx : Addr, vs = [.ref m] ∧ H m = some (.ins C dx []) ∧ ∀ H', Bar m H H' → MktAt K C H' m ⟨[], [], [], []⟩ → Q .non H'
noncomputable def sp_add_event (K : PySem.W.Frag) (C CB CM CT : Addr) : Sp := fun vs H Q E => ∃ (m : Addr) (x : V) (M : Mkt), vs = [.ref m, x] ∧ MktAt K C H m M ∧
  ((NoName K H x ∧ ∀ H', Same H H' → E (.ref CB) none H') ∨ ∃ z, x = .str z ∧ IsName x ∧
    ((3 ≤ M.evs.length ∧ ∀ H', Same H H' → E (.ref CM) none H') ∨ (M.evs.length < 3 ∧ z ∈ M.evs ∧ ∀ H' d, Same H H' → H' d = some (.xd [("name", .str z)]) → E (.ref CT) (some d) H') ∨
      (M.evs.length < 3 ∧ z ∉ M.evs ∧ ∀ H', Bar m H H' → MktAt K C H' m { M with evs := M.evs ++ [z] } → Q (.int ((M.evs.length + 1 : Nat) : Int)) H')))
noncomputable def sp_add_insurer (K : PySem.W.Frag) (C CB CM CT : Addr) : Sp := fun vs H Q E => ∃ (m : Addr) (x : V) (M : Mkt), vs = [.ref m, x] ∧ MktAt K C H m M ∧
  ((NoName K H x ∧ ∀ H', Same H H' → E (.ref CB) none H') ∨ ∃ z, x = .str z ∧ IsName x ∧
    ((6 ≤ M.ins.length ∧ ∀ H', Same H H' → E (.ref CM) none H') ∨ (M.ins.length < 6 ∧ z ∈ M.ins ∧ ∀ H' d, Same H H' → H' d = some (.xd [("name", .str z)]) → E (.ref CT) (some d) H') ∨
      (M.ins.length < 6 ∧ z ∉ M.ins ∧ ∀ H', Bar m H H' → MktAt K C H' m { M with ins := M.ins ++ [z] } → Q (.int ((M.ins.length + 1 : Nat) : Int)) H')))
/-- do an event's rounds end, with no loss too great -/
noncomputable def fate (ins : List Str) (ts : List Trt) (ds : List Int) (b : Bool) : Prop :=
  if b = true then ∃ i, i ≤ 200 ∧ row ins ts ds (i + 1) = row ins ts ds i ∧ (∀ j, j < i → row ins ts ds (j + 1) ≠ row ins ts ds j) ∧ big (row ins ts ds i) = false
  else (∃ i, i ≤ 200 ∧ row ins ts ds (i + 1) = row ins ts ds i ∧ (∀ j, j < i → row ins ts ds (j + 1) ≠ row ins ts ds j) ∧ big (row ins ts ds i) = true) ∨ ∀ i, i ≤ 200 → row ins ts ds (i + 1) ≠ row ins ts ds i
theorem first_one {p : Nat → Prop} {i j : Nat} (hi : p i) (hj : p j) (fi : ∀ k, k < i → ¬ p k) (fj : ∀ k, k < j → ¬ p k) : i = j := by
  by_cases h : i < j
  · exact absurd hi (fj i h)
  · by_cases h2 : j < i
    · exact absurd hj (fi j h2)
    · omega
theorem first_is {p : Nat → Prop} : ∀ {n : Nat}, p n → ∃ i, i ≤ n ∧ p i ∧ ∀ k, k < i → ¬ p k := fun {n} => by
  induction n using Nat.strongRecOn with
  | _ n ih =>
    intro h
    by_cases e : ∃ k, k < n ∧ p k
    · obtain ⟨k, hk, pk⟩ := e
      obtain ⟨i, h1, h2, h3⟩ := ih k hk pk
      exact ⟨i, by omega, h2, h3⟩
    · exact ⟨n, Nat.le_refl _, h, fun k hk pk => e ⟨k, hk, pk⟩⟩
theorem fate_any (ins : List Str) (ts : List Trt) (ds : List Int) : fate ins ts ds true ∨ fate ins ts ds false := by
  by_cases e : ∃ i, i ≤ 200 ∧ row ins ts ds (i + 1) = row ins ts ds i
  · obtain ⟨n, hn, h⟩ := e
    obtain ⟨i, h1, h2, h3⟩ := first_is (p := fun i => row ins ts ds (i + 1) = row ins ts ds i) h
    cases hb : big (row ins ts ds i) with
    | false => exact .inl ⟨i, by omega, h2, h3, hb⟩
    | true => exact .inr (.inl ⟨i, by omega, h2, h3, hb⟩)
  · exact .inr (.inr fun i hi h => e ⟨i, hi, h⟩)
theorem fate_one {ins : List Str} {ts : List Trt} {ds : List Int} (h1 : fate ins ts ds true) (h2 : fate ins ts ds false) : False := by
  obtain ⟨i, a1, a2, a3, a4⟩ := (h1 : ∃ i, i ≤ 200 ∧ row ins ts ds (i + 1) = row ins ts ds i ∧ (∀ j, j < i → row ins ts ds (j + 1) ≠ row ins ts ds j) ∧ big (row ins ts ds i) = false)
  rcases (h2 : (∃ i, i ≤ 200 ∧ row ins ts ds (i + 1) = row ins ts ds i ∧ (∀ j, j < i → row ins ts ds (j + 1) ≠ row ins ts ds j) ∧ big (row ins ts ds i) = true) ∨ ∀ i, i ≤ 200 → row ins ts ds (i + 1) ≠ row ins ts ds i) with ⟨j, b1, b2, b3, b4⟩ | h
  · have e := first_one (p := fun i => row ins ts ds (i + 1) = row ins ts ds i) a2 b2 a3 b3
    subst e
    rw [a4] at b4
    cases b4
  · exact h i a1 a2
noncomputable def sp_check_ends (K : PySem.W.Frag) (C CN : Addr) : Sp := fun vs H Q E => ∃ (m : Addr) (M : Mkt) (at' ad : Addr) (ts : List Trt) (L : List ((Str × Str) × Int)), vs = [.ref m, .ref at', .ref ad] ∧ MktAt K C H m M ∧ TrsAt K H at' ts ∧ TrsOk M.ins ts ∧ H ad = some (.dT (lkv L)) ∧ M.evs.length ≤ 1000 ∧
  (((∀ e ∈ M.evs, fate M.ins ts (directs M.ins L e) true) ∧ ∀ H', Same H H' → Q .non H') ∨ ((∃ e ∈ M.evs, fate M.ins ts (directs M.ins L e) false) ∧ ∀ H', Same H H' → E (.ref CN) none H'))
noncomputable def sp_direct (K : PySem.W.Frag) (C CS : Addr) : Sp := fun vs H Q E => ∃ (m : Addr) (M : Mkt) (e : Str), vs = [.ref m, .str e] ∧ MktAt K C H m M ∧ M.ins.length ≤ 1000 ∧
  ((e ∈ M.evs ∧ ∀ p H', Same H H' → H p = none → H' p = some (.tup ((directs M.ins M.los e).map V.int)) → Q (.ref p) H') ∨
    (e ∉ M.evs ∧ ∀ d H', Same H H' → H' d = some (.xd [("name", .str e)]) → E (.ref CS) (some d) H'))
theorem NoCov.same' {K : PySem.W.Frag} {H H' : Hp} {x : V} (e : Same H H') (h : NoCov K H x) : NoCov K H' x := by
  rcases h with ⟨t, ty, k⟩ | ⟨a, xs, rfl, hS, r⟩
  · exact .inl ⟨t, tyx_same' e ty, k⟩
  · exact .inr ⟨a, xs, rfl, same_sqt e hS, r⟩
theorem IsCovV.same' {K : PySem.W.Frag} {H H' : Hp} {x : V} (e : Same H H') (h : IsCovV K H x) : IsCovV K H' x := by
  obtain ⟨a, c, rfl, hS, r⟩ := h
  exact ⟨a, c, rfl, same_sqt e hS, r⟩
theorem NoPan.same {K : PySem.W.Frag} {H H' : Hp} {x : V} (e : Same H H') (h : NoPan K H x) : NoPan K H' x := by
  rcases h with ⟨t, ty, k⟩ | ⟨a, xs, bs, rfl, hS, hl, h⟩ | ⟨ps, hP, r⟩
  · exact .inl ⟨t, tyx_same' e ty, k⟩
  · refine .inr (.inl ⟨a, xs, bs, rfl, same_sqt e hS, hl, ?_⟩)
    rcases h with h | h | ⟨h1, h2, h3⟩
    · exact .inl h
    · exact .inr (.inl h)
    · refine .inr (.inr ⟨h1, h2, fun i y b hy hb => ?_⟩)
      rcases h3 i y b hy hb with ⟨eb, en, hA, ho⟩ | ⟨eb, hB⟩
      · exact .inl ⟨eb, en, EntAt.same e hA, ho⟩
      · exact .inr ⟨eb, BadEnt.same e hB⟩
  · exact .inr (.inr ⟨ps, PanAt.same e hP, r⟩)
/-! ### len(set(xs)) where xs is a list of texts and None -/
section
variable {T : Type} [DecidableEq T]
noncomputable def oneMore (l : List T) (k : T) : List T := if k ∈ l then l else l ++ [k]
/-- the members of l, each once -/
noncomputable def onces (l : List T) : List T := l.foldl oneMore []
theorem onces_add (l : List T) (k : T) : onces (l ++ [k]) = oneMore (onces l) k := by
  unfold onces
  rw [List.foldl_append]
  rfl
theorem mem_oneMore {l : List T} {k a : T} : a ∈ oneMore l k ↔ a ∈ l ∨ a = k := by
  unfold oneMore
  by_cases h : k ∈ l
  · rw [if_pos h]
    exact ⟨.inl, fun o => o.elim id fun e => e ▸ h⟩
  · rw [if_neg h, List.mem_append, List.mem_singleton]
theorem onces_len (l : List T) : ∀ acc : List T, acc.Nodup →
    (l.foldl oneMore acc).length ≤ acc.length + l.length ∧ ((l.foldl oneMore acc).length = acc.length + l.length ↔ l.Nodup ∧ ∀ a ∈ l, a ∉ acc) := by
  induction l with
  | nil => exact fun acc _ => ⟨Nat.le_refl _, fun _ => ⟨List.nodup_nil, fun a h => nomatch h⟩, fun _ => rfl⟩
  | cons k l ih =>
    intro acc hn
    show (l.foldl oneMore (oneMore acc k)).length ≤ _ ∧ ((l.foldl oneMore (oneMore acc k)).length = _ ↔ _)
    by_cases h : k ∈ acc
    · rw [show oneMore acc k = acc from if_pos h]
      have i1 := (ih acc hn).1
      refine ⟨by rw [List.length_cons]; omega, fun e => ?_, fun e => absurd h (e.2 k List.mem_cons_self)⟩
      rw [List.length_cons] at e
      exfalso
      omega
    · rw [show oneMore acc k = acc ++ [k] from if_neg h]
      have hn2 : (acc ++ [k]).Nodup := by
        refine List.nodup_append.mpr ⟨hn, List.pairwise_singleton _ _, fun a ha b hb e => ?_⟩
        rw [List.mem_singleton.mp hb] at e
        exact h (e ▸ ha)
      obtain ⟨i1, i2⟩ := ih (acc ++ [k]) hn2
      rw [List.length_append, List.length_singleton] at i1 i2
      refine ⟨by rw [List.length_cons]; omega, ?_⟩
      have e1 : acc.length + (k :: l).length = acc.length + 1 + l.length := by
        rw [List.length_cons]
        omega
      rw [e1, i2, List.nodup_cons]
      constructor
      · rintro ⟨a1, a2⟩
        refine ⟨⟨fun q => a2 k q (List.mem_append_right _ (List.mem_singleton.mpr rfl)), a1⟩, fun a ha => ?_⟩
        rcases List.mem_cons.mp ha with rfl | ha
        · exact h
        · exact fun q => a2 a ha (List.mem_append_left _ q)
      · rintro ⟨⟨b1, b2⟩, b3⟩
        refine ⟨b2, fun a ha q => ?_⟩
        rcases List.mem_append.mp q with q | q
        · exact b3 a (List.mem_cons_of_mem _ ha) q
        · exact b1 (List.mem_singleton.mp q ▸ ha)
theorem onces_le (l : List T) : (onces l).length ≤ l.length := by
  have h := (onces_len l [] List.nodup_nil).1
  rwa [List.length_nil, Nat.zero_add] at h
/-- fewer in the set: one stands twice -/
theorem onces_lt (l : List T) : (onces l).length < l.length ↔ ¬ l.Nodup := by
  have h := onces_len l [] List.nodup_nil
  rw [List.length_nil, Nat.zero_add] at h
  have e : l.Nodup ↔ (onces l).length = l.length := ⟨fun d => h.2.mpr ⟨d, fun _ _ q => nomatch q⟩, fun d => (h.2.mp d).1⟩
  have le := onces_le l
  rw [e]
  omega
end
section
variable {prog : Program} {w : World} {A : Around} {E : Value → Shared → Prop} {s : Shared} {R : Result → Shared → Prop}
noncomputable abbrev lk (prog : Program) (w : World) := leafKind prog w
/-- at S stands the set of l's members -/
noncomputable def SetIs (prog : Program) (w : World) (h : Heap) (S : Addr) (l : List Leaf) : Prop := h.SetOf (lk prog w) S (fun k => decide (k ∈ onces l)) (onces l).length
theorem SetIs.moved {h h' : Heap} {S : Addr} {l : List Leaf} (x : SetIs prog w h S l) (e : ∀ o, h.get? S = some o → h'.get? S = some o) : SetIs prog w h' S l := by
  obtain ⟨o, a, b, c, q, r⟩ := x
  exact ⟨o, a, b, c, e o q, r⟩
theorem SetIs.more {h : Heap} {S : Addr} {l : List Leaf} {k : Leaf}
    (x : h.SetOf (lk prog w) S (fun z => decide (z ∈ onces l) || decide (z = k)) (if decide (k ∈ onces l) = true then (onces l).length else (onces l).length + 1)) : SetIs prog w h S (l ++ [k]) := by
  unfold SetIs
  have e1 : (fun z => decide (z ∈ onces (l ++ [k]))) = fun z => decide (z ∈ onces l) || decide (z = k) := by
    funext z
    rw [onces_add, ← Bool.decide_or]
    exact decide_eq_decide.mpr mem_oneMore
  have e2 : (onces (l ++ [k])).length = if decide (k ∈ onces l) = true then (onces l).length else (onces l).length + 1 := by
    rw [onces_add]
    unfold oneMore
    by_cases q : k ∈ onces l
    · rw [if_pos q, if_pos (decide_eq_true q)]
    · rw [if_neg q, if_neg (by rw [decide_eq_false q]; exact Bool.false_ne_true), List.length_append, List.length_singleton]
  rw [e1, e2]
  exact x
/-- the loop of set(..), over any walk that gives the keys ks -/
theorem setloop {I S : Addr} {fp wr : List Addr} {G : Array GenState → Array GenState → Prop} {n : Nat} {P : Nat → Value → Prop} {St : Nat → Shared → Prop} (W : WalksS prog w A.in1 I fp wr G n P St) (nS : S ∉ fp) {ks : List Leaf}
    (hl : ks.length = n) (hn : n + 1 < scanBound) (hv : ∀ i v, P i v → ∃ k, ks[i]? = some k ∧ Leaf.isOf k v = true ∧ v.scannable = true) :
    ∀ (m i : Nat) (s : Shared), i + m = n → St i s → SetIs prog w s.heap S (ks.take i) → (∀ s', Moved (S :: wr) G s s' → SetIs prog w s'.heap S ks → R (.ok (.ret .none)) s') →
      codeAny (model prog w) A (.builtin "set.update.loop" ⟨[.ref S, .ref I], []⟩) R s := by
  have nw : S ∉ wr := fun q => nS (W.sub _ q)
  have up : ∀ b ∈ wr, b ∈ S :: wr := fun b q => .tail _ q
  intro m
  induction m with
  | zero =>
    rintro i s rfl st x fin
    refine codeAny_builtin PyProof.Rows.F.entry_set_update_loop (show _ from ?_)
    rw [Around.under_plainId PyProof.Rows.F.plain_set_update_loop]
    refine show wpAny _ A.in1 (pyNext (.ref I) >>= _) _ _ s from wpAny_bind (W.done s _ _ st fun s' mv => ?_)
    rw [List.take_of_length_le (show ks.length ≤ i from Nat.le_of_eq hl)] at x
    exact show wpAny _ A.in1 (ret Value.none) _ _ s' from wpAny_pure (fin s' (mv.mono up) (x.moved fun o => mv.heap S o nw))
  | succ m ih =>
    rintro i s him st x fin
    have lt : i < n := by omega
    refine codeAny_builtin PyProof.Rows.F.entry_set_update_loop (show _ from ?_)
    rw [Around.under_plainId PyProof.Rows.F.plain_set_update_loop]
    refine show wpAny _ A.in1 (pyNext (.ref I) >>= _) _ _ s from wpAny_bind (W.item i s _ _ lt st fun v s' pv st' mv => ?_)
    obtain ⟨k, hk, isk, sc⟩ := hv i v pv
    have x' := x.moved (h' := s'.heap) fun o => mv.heap S o nw
    refine show wpAny _ A.in1 (holding [v] (setAdd S v) >>= _) _ _ s' from wpAny_bind (wpAny_holding ?_)
    unfold setAdd
    refine wpAny_holding (wpAny_bind ((lk prog w).pyHash (k := k) isk ?_))
    have room : (onces (ks.take i)).length + 1 < scanBound := by
      have q := onces_le (ks.take i)
      rw [List.length_take] at q
      omega
    refine wpAny_setAddHashed_of (knd := lk prog w) (s := { s' with toks := s'.toks + 1 }) isk sc x' room fun h' sb x2 => ?_
    have x3 : SetIs prog w h' S (ks.take (i + 1)) := by
      rw [List.take_add_one, hk]
      exact SetIs.more x2
    have oth : ∀ b o, b ≠ S → s'.heap.get? b = some o → h'.get? b = some o := fun b o q e => (sb.2 b q).trans e
    refine wpAny_pure ⟨plainId_quiet PyProof.Rows.F.plain_set_update_loop _, ih (i + 1) _ (by omega) (W.frame _ s' _ _ st' (Nat.le_succ _) fun b q o e => oth b o (fun z => nS (z ▸ q)) e) x3 fun s2 mv2 xx => fin s2 ?_ xx⟩
    exact Moved.trans W.gtrans ((mv.mono up).then_heap (Nat.le_succ _) fun b o q e => oth b o (fun z => q (z ▸ List.mem_cons_self)) e) mv2
end
section
variable {prog : Program} {w : World} {A : Around} {E : Value → Shared → Prop} {s : Shared}
/-- set() as it is made -/
noncomputable abbrev voidSet (led : Bool) : Obj := { cls := .type "set", dict := none, data := .set #[] 0 (.fresh 0 0 led) }
theorem void_is {h : Heap} {S : Addr} {led : Bool} (e : h.get? S = some (voidSet led)) : SetIs prog w h S [] := by
  have q := (PyProof.Rows.setObjOf_fresh (knd := lk prog w) led).setOf e (by unfold scanBound; omega)
  unfold SetIs
  rw [show (fun k : Leaf => decide (k ∈ onces [])) = fun _ => false from funext fun k => decide_eq_false fun q => nomatch q]
  exact q
set_option maxHeartbeats 3200000 in
/-- set(xs) of a list of keys -/
theorem setcall {l : Addr} {items : Array Value} {ks : List Leaf} {Q : Value → Shared → Prop} (hh : A.handled = none) (hl : s.heap.IsList l items) (hlen : ks.length = items.size)
    (hv : ∀ (i : Nat) v, items[i]? = some v → ∃ k, ks[i]? = some k ∧ Leaf.isOf k v = true ∧ v.scannable = true) (room : items.size + 1 < scanBound)
    (q : ∀ (h' : Heap) (tk : Nat), SetIs prog w h' s.heap.objs.size ks → (∀ b o, b < s.heap.objs.size → s.heap.get? b = some o → h'.get? b = some o) → Q (.ref s.heap.objs.size) { s with heap := h', toks := tk }) :
    wpAny (model prog w) A (call (.type "set") [.ref l]) Q E s := by
  obtain ⟨c0, t0, mro0⟩ := PySem.F.called_set.mro
  have made0 := PySem.F.called_set.made; have sub0 := PySem.F.called_set.sub
  refine wpAny_call (codeAny_of_tree (show wpAny _ _ (callAny (.type "set") _) _ _ _ from ?_))
  refine wpAny_pure ⟨Code.quiet_builtin _ (by decide +kernel), codeAny_builtin PySem.F.entry_type_call (show _ from ?_)⟩
  rw [Around.under_plain (weight_type_call_type "set" [.ref l] []) rfl]
  have n1 := PySem.F.called_set.notType; have n2 := PySem.F.called_set.canCreate; have n3 := PySem.F.typeCall_set_1 (.ref l)
  repeat (any_goals (first | assumption | wp_step))
  refine codeAny_mono (code_set_new_1 (.ref l) (E := E) (Q₁ := fun v s1 => ∃ led, v = .ref s.heap.objs.size ∧ s1 = { s with heap := s.heap.push (voidSet led) }) fun led => ⟨led, rfl, rfl⟩) fun r s1 hr => ?_
  rcases r with e | fl
  · exact hr
  cases fl with
  | ret v =>
    obtain ⟨led, rfl, rfl⟩ := hr
    have atS : (s.heap.push (voidSet led)).get? s.heap.objs.size = some (voidSet led) := Heap.get?_push_size _ rfl
    have tyS : Shared.TypeIs { s with heap := s.heap.push (voidSet led) } (.ref s.heap.objs.size) "set" := ⟨_, atS, rfl⟩
    have n4 := PySem.F.called_set.init.lookup; have n5 := PySem.F.called_set.init.bind (.ref s.heap.objs.size)
    repeat (any_goals (first | assumption | wp_step))
    refine codeAny_mono (codeAny_call_builtin (R := wants (fun r s2 => r = .none ∧ ∃ h' tk, s2 = { s with heap := h', toks := tk } ∧ SetIs prog w h' s.heap.objs.size ks ∧
      ∀ b o, b < s.heap.objs.size → s.heap.get? b = some o → h'.get? b = some o) E) PySem.F.called_set.init.plain PySem.F.entry_set_init (check_set_init_1 tyS ?_)) fun r2 s2 hr2 => ?_
    · obtain ⟨⟨oc, od, oda, os⟩, lo, lc, ln, ld⟩ := hl
      dsimp only at lc ld
      subst lc; subst ld
      have lo' : (s.heap.push (voidSet led)).get? l = some { cls := .type "list", dict := od, data := .seq items ln, slots := os } := Heap.get?_push_of_some _ lo
      have m1 := PySem.F.sub_list_set; have m2 := PySem.F.sub_list_frozenset
      have m3 : (Value.type "list" == Value.type "dict") = false := by decide
      have li : (s.heap.push (voidSet led)).IsList l items := ⟨_, lo', rfl, ln, rfl⟩
      unfold Builtin.«set.__init__» noKeywords Builtin.Frozenset.updateFrom
      generalize hPI : pyIter = PI
      wp_walk
      subst hPI
      refine wpAny_pyIter_list li (wpAny_bind (wpAny_runValue (show _ from ?_)))
      have ll : l < s.heap.objs.size := Heap.lt_size lo
      have hd3 : A.in1.in1.in1.handled = none := by simp [hh]
      have sz1 : (s.heap.push (voidSet led)).objs.size = s.heap.objs.size + 1 := Heap.size_push ..
      have lI : l ≠ (s.heap.push (voidSet led)).objs.size := fun q => Nat.lt_irrefl _ (Nat.lt_trans ll (q ▸ sz1 ▸ Nat.lt_succ_self _))
      have nS : s.heap.objs.size ∉ [(s.heap.push (voidSet led)).objs.size, l] := by
        intro q
        rcases List.mem_cons.mp q with q | q
        · exact Nat.ne_of_lt (Nat.lt_succ_self _) (q.trans sz1)
        · exact Nat.ne_of_gt ll (List.mem_singleton.mp q)
      refine setloop ((Walks.list hd3 _ l lI items).toS) nS hlen room hv items.size 0 _ (Nat.zero_add _) ⟨⟨_, Heap.get?_push_size _ rfl, rfl, rfl⟩, li.push _⟩ (void_is (Heap.get?_push_of_some _ atS)) ?_
      rintro ⟨h', g', d', tk', os'⟩ mv x
      have e1 : g' = s.gens := mv.gens; have e2 : d' = s.drawn := mv.drawn; have e3 : os' = s.os := mv.os
      subst e1; subst e2; subst e3
      refine show wpAny _ _ _ _ _ _ from wpAny_pure (show wpAny _ _ (ret Value.none) _ _ _ from wpAny_pure ⟨rfl, h', tk', rfl, x, fun b o lt e => ?_⟩)
      refine mv.heap b o (fun q => ?_) (Heap.get?_push_of_some _ (Heap.get?_push_of_some _ e))
      rcases List.mem_cons.mp q with q | q
      · exact Nat.ne_of_lt lt q
      · exact Nat.ne_of_lt (Nat.lt_succ_of_lt lt) ((List.mem_singleton.mp q).trans sz1)
    · rcases r2 with e | fl2
      · exact hr2
      cases fl2 with
      | ret r3 =>
        obtain ⟨rfl, h', tk, rfl, x, kp⟩ := hr2
        repeat (any_goals (first | assumption | wp_step))
        exact q _ _ x kp
      | _ => exact hr2.elim
  | _ => exact hr.elim
end
section
variable {X : Cx}
noncomputable def lfO : Option Str → Leaf
  | none => .none
  | some z => .text z
theorem lfO_inj {a b : Option Str} (e : lfO a = lfO b) : a = b := by
  cases a <;> cases b <;> first | rfl | (injection e with e; rw [e]) | exact nomatch e
theorem lfO_of {o : Option Str} {u : Value} (r : RelV (optV o) u) : Leaf.isOf (lfO o) u = true ∧ u.scannable = true := by
  cases o with
  | none =>
    have e : u = Value.none := r
    subst e
    exact ⟨rfl, rfl⟩
  | some z =>
    obtain ⟨t, rfl⟩ := r
    exact ⟨by show (z == z) = true; simp, rfl⟩
theorem lfO_nodup {xs : List (Option Str)} : (xs.map lfO).Nodup ↔ xs.Nodup := by
  induction xs with
  | nil => exact ⟨fun _ => List.nodup_nil, fun _ => List.nodup_nil⟩
  | cons x xs ih =>
    rw [List.map_cons, List.nodup_cons, List.nodup_cons, ih]
    refine and_congr_left fun _ => not_congr ⟨fun h => ?_, fun h => List.mem_map.mpr ⟨x, h, rfl⟩⟩
    obtain ⟨y, hy, e⟩ := List.mem_map.mp h
    exact lfO_inj e ▸ hy
/-- len(set(xs)), a list of texts and None -/
noncomputable def tLenSetO (K : PySem.W.Frag) (ta : TE) : TE := fun σ H Q => ta σ H fun x H1 => ∃ (l : Addr) (xs : List (Option Str)), x = .ref l ∧ SqL K H1 l (xs.map optV) ∧ xs.length ≤ 1000 ∧ Q (.int (onces (xs.map lfO)).length) H1
theorem pe_lenSetO {a : Expr} {ta : TE} {p p2 q pos : PySem.Pos} (hc : X.calm = true) (hg : Gl X "len") (hm : X.mg "len" = none) (hg2 : Gl X "set") (hm2 : X.mg "set" = none) (ha : PE X a ta)
    (na : starEach [a] X.env = (false, eval a X.env) :: starEach [] X.env := by rfl) : PE X (.Call (.Name "len" p) [.Call (.Name "set" p2) [a] [] q] [] pos) (tLenSetO X.K ta) := by
  refine ⟨fun pins s σ H Q I h => Call_ (ld_blt I hg hm boot_len ?_)⟩
  refine PyProof.Rows.callWith_builtin1 (PyProof.Rows.args_cons (Call_ (ld_blt I hg2 hm2 boot_set ?_)) rfl) rfl rfl
  refine PyProof.Rows.callWith_type1 (PyProof.Rows.args_cons (thn (ha.run pins s σ H _ I h) fun v s1 ⟨x, H1, I1, r1, q1⟩ => PyProof.Rows.args_nil ?_) na) na rfl
  obtain ⟨l, xs, rfl, hq, le, q1⟩ := q1
  cases r1
  obtain ⟨its, r, pl, _⟩ := I1.list hq
  have sz : its.toArray.size = xs.length := by rw [List.size_toArray, ← r.length, List.length_map]
  refine setcall (ks := xs.map lfO) (I1.ok.hd hc) pl.isList (by rw [List.length_map, sz]) (fun i v hi => ?_) (by rw [sz]; unfold scanBound; omega) fun h' tk x kp => PyProof.Rows.args_nil ?_
  · rw [List.getElem?_toArray] at hi
    have lt : i < xs.length := by
      rw [← sz, List.size_toArray]
      exact (List.getElem?_eq_some_iff.mp hi).1
    obtain ⟨u, hu, ru⟩ := Vals.get (i := i) (x := optV xs[i]) r (by rw [List.getElem?_map, List.getElem?_eq_getElem lt]; rfl)
    rw [hi] at hu
    cases hu
    exact ⟨lfO xs[i], by rw [List.getElem?_map, List.getElem?_eq_getElem lt]; rfl, lfO_of ru⟩
  · obtain ⟨o, es, ep, t, ho, hex, hd, _, _, _, hf, hn⟩ := x
    have I2 : Inv X pins σ H1 { s1 with heap := h', toks := tk } := I1.kept fun b o e => kp b o (Heap.lt_size e) e
    have le2 := onces_le (xs.map lfO)
    rw [List.length_map] at le2
    exact call_len_set ho hex hd hf (by rw [hn]; omega) ⟨.int (onces (xs.map lfO)).length, H1, I2.tok _, ⟨_, by rw [hn]⟩, q1⟩
end
/-! ### placing a treaty, whatever its panel -/
inductive PlcE where
  | known (z : Str) | twice | own
noncomputable def pnames (ps : List (Option Str × Int)) : List (Option Str) := ps.map (·.1)
/-- the first participant that there is not -/
noncomputable def firstUn (ins : List Str) : List (Option Str) → Option Str
  | [] => none
  | none :: t => firstUn ins t
  | some z :: t => if z ∈ ins then firstUn ins t else some z
noncomputable def placed (c : Str) (ps : List (Option Str × Int)) (ins : List Str) : Option PlcE :=
  if c ∉ ins then some (.known c) else
    match firstUn ins (pnames ps) with
    | some z => some (.known z)
    | none => if ¬ (pnames ps).Nodup then some .twice else if some c ∈ pnames ps then some .own else none
theorem firstUn_add (ins : List Str) : ∀ (l r : List (Option Str)), firstUn ins l = none → firstUn ins (l ++ r) = firstUn ins r
  | [], r, _ => rfl
  | none :: t, r, h => firstUn_add ins t r h
  | some z :: t, r, h => by
    by_cases q : z ∈ ins
    · have h2 : firstUn ins t = none := by
        rw [← h]
        exact (if_pos q).symm
      exact (if_pos q).trans (firstUn_add ins t r h2)
    · exact absurd (h.symm.trans (if_neg q)) (fun e => by cases e)
theorem firstUn_at {ins : List Str} {l : List (Option Str)} {i : Nat} {z : Str} (h : firstUn ins (l.take i) = none) (e : l[i]? = some (some z)) (q : z ∉ ins) : firstUn ins l = some z := by
  have d : l = l.take i ++ (some z :: l.drop (i + 1)) := by
    obtain ⟨h1, h2⟩ := List.getElem?_eq_some_iff.mp e
    rw [← h2, ← List.drop_eq_getElem_cons h1, List.take_append_drop]
  rw [d, firstUn_add ins _ _ h]
  exact if_neg q
theorem firstUn_next {ins : List Str} {l : List (Option Str)} {i : Nat} {o : Option Str} (h : firstUn ins (l.take i) = none) (e : l[i]? = some o) (q : ∀ z, o = some z → z ∈ ins) : firstUn ins (l.take (i + 1)) = none := by
  rw [List.take_add_one, e, firstUn_add ins _ _ h]
  cases o with
  | none => rfl
  | some z => exact (if_pos (q z rfl)).trans rfl
theorem optV_inj {a b : Option Str} (e : optV a = optV b) : a = b := by
  cases a <;> cases b <;> first | rfl | (injection e with e; rw [e]) | exact nomatch e
theorem inV_opt {c : Str} {l : List (Option Str)} : inV (.str c) (l.map optV) = decide (some c ∈ l) := by
  unfold inV
  rw [List.any_map]
  by_cases h : some c ∈ l
  · rw [decide_eq_true h, List.any_eq_true]
    exact ⟨some c, h, by simp [eqV, optV]⟩
  · rw [decide_eq_false h, List.any_eq_false]
    intro o ho e
    cases o with
    | none => exact nomatch (show false = true from e)
    | some y =>
      have e2 : y = c := by simpa [eqV, optV] using e
      exact h (e2 ▸ ho)
theorem flat_optVs : ∀ l : List (Option Str), (l.map optV).all flatV = true
  | [] => rfl
  | none :: t => flat_optVs t
  | some _ :: t => flat_optVs t
/-- the end of check_placed -/
noncomputable def PlcEnd (CN CT CO : Addr) (H : Hp) (r : Option PlcE) (Q : VK) (E : XK) : Prop :=
  match r with
  | none => ∀ H', Same H H' → Q .non H'
  | some (.known z) => ∀ H' d, Same H H' → H' d = some (.xd [("name", .str z)]) → E (.ref CN) (some d) H'
  | some .twice => ∀ H', Same H H' → E (.ref CT) none H'
  | some .own => ∀ H', Same H H' → E (.ref CO) none H'
noncomputable def sp_check_placed (K : PySem.W.Frag) (CN CT CO : Addr) : Sp := fun vs H Q E => ∃ (c : Str) (x : V) (a : Addr) (ins : List Str) (ps : List (Option Str × Int)), vs = [.str c, x, .ref a] ∧ PanAt K H x ps ∧ ps.length ≤ 1000 ∧ SqT K H a (ins.map V.str) ∧
  PlcEnd CN CT CO H (placed c ps ins) Q E
/-! ### changes of a market that are well told: taken, or NoEnd -/
/-- what becomes of a change: taken with M', or no end -/
noncomputable def Fates (K : PySem.W.Frag) (C CN : Addr) (H : Hp) (m : Addr) (M' : Mkt) (Q : Hp → Prop) (E : XK) : Prop :=
  ((∀ e ∈ M'.evs, fate M'.ins M'.trs (directs M'.ins M'.los e) true) ∧ ∀ H', Bar m H H' → MktAt K C H' m M' → Q H') ∨ ((∃ e ∈ M'.evs, fate M'.ins M'.trs (directs M'.ins M'.los e) false) ∧ ∀ H', Same H H' → E (.ref CN) none H')
/-! ### a treaty's deed, whatever is given -/
noncomputable def sp_add_treaty (K : PySem.W.Frag) (C CB CC CP CN CT CO CM CE : Addr) : Sp := fun vs H Q E => ∃ (m : Addr) (x y w : V) (M : Mkt), vs = [.ref m, x, y, w] ∧ MktAt K C H m M ∧
  ((NoName K H x ∧ ∀ H', Same H H' → E (.ref CB) none H') ∨ (IsName x ∧ NoCov K H y ∧ ∀ H', Same H H' → E (.ref CC) none H') ∨ (IsName x ∧ IsCovV K H y ∧ NoPan K H w ∧ ∀ H', Same H H' → E (.ref CP) none H') ∨
    ∃ (c : Str) (vc : Addr) (cov : Cov) (ps : List (Option Str × Int)), x = .str c ∧ IsName x ∧ y = .ref vc ∧ SqT K H vc (cvV cov) ∧ CvOk cov ∧ PanAt K H w ps ∧ PanOk ps ∧
      ((∃ e, placed c ps M.ins = some e ∧ PlcEnd CN CT CO H (some e) Q E) ∨ (placed c ps M.ins = none ∧ 16 ≤ M.trs.length ∧ M.trs.length ≤ 100000 ∧ ∀ H', Same H H' → E (.ref CM) none H') ∨
        (placed c ps M.ins = none ∧ M.trs.length < 16 ∧ TrsOk M.ins (M.trs ++ [⟨c, cov, ps, false⟩]) ∧ M.evs.length ≤ 1000 ∧ Fates K C CE H m { M with trs := M.trs ++ [⟨c, cov, ps, false⟩] } (Q (.int ((M.trs.length : Nat) : Int))) E)))
theorem cut_to (xs : List V) (k : Nat) : cutV xs none (some (k : Int)) = xs.take k := by
  unfold cutV
  rw [HT.sIx_none, HT.sIx_nat, List.drop_zero, Nat.sub_zero]
  by_cases h : k ≤ xs.length
  · rw [Nat.min_eq_left h]
  · rw [Nat.min_eq_right (by omega), List.take_of_length_le (Nat.le_refl _), List.take_of_length_le (by omega)]
/-- a loss that is set: in its place, or behind -/
noncomputable def setL (L : List ((Str × Str) × Int)) (e z : Str) (n : Int) : List ((Str × Str) × Int) :=
  if (L.any fun p => decide (p.1 = (e, z))) = true then L.map fun p => if p.1 = (e, z) then (p.1, n) else p else L ++ [((e, z), n)]
theorem lkv_put (L : List ((Str × Str) × Int)) (e z : Str) (n : Int) : putK (lkv L) [.inr e, .inr z] (.int n) = lkv (setL L e z n) := by
  have ha : ((lkv L).any fun kv => decide (kv.1 = [.inr e, .inr z])) = L.any fun p => decide (p.1 = (e, z)) := by
    unfold lkv
    rw [List.any_map]
    congr 1
    funext p
    by_cases h : p.1 = (e, z)
    · show decide (([.inr p.1.1, .inr p.1.2] : List Key) = [.inr e, .inr z]) = _
      rw [decide_eq_true h, decide_eq_true (key2.mpr h)]
    · show decide (([.inr p.1.1, .inr p.1.2] : List Key) = [.inr e, .inr z]) = _
      rw [decide_eq_false h, decide_eq_false (fun q => h (key2.mp q))]
  unfold putK setL
  rw [ha]
  cases hb : (L.any fun p => decide (p.1 = (e, z))) with
  | true =>
    rw [if_pos rfl, if_pos rfl]
    unfold lkv
    rw [List.map_map, List.map_map]
    congr 1
    funext p
    by_cases h : p.1 = (e, z)
    · show (if ([.inr p.1.1, .inr p.1.2] : List Key) = [.inr e, .inr z] then _ else _) = ((fun q : (Str × Str) × Int => (([.inr q.1.1, .inr q.1.2] : List Key), V.int q.2)) (if p.1 = (e, z) then (p.1, n) else p))
      rw [if_pos h, if_pos (key2.mpr h)]
    · show (if ([.inr p.1.1, .inr p.1.2] : List Key) = [.inr e, .inr z] then _ else _) = ((fun q : (Str × Str) × Int => (([.inr q.1.1, .inr q.1.2] : List Key), V.int q.2)) (if p.1 = (e, z) then (p.1, n) else p))
      rw [if_neg h, if_neg (fun q => h (key2.mp q))]
  | false =>
    rw [if_neg Bool.false_ne_true, if_neg Bool.false_ne_true]
    unfold lkv
    rw [List.map_append]
    rfl
theorem putT_new {kvs : List (List Key × V)} {k : List Key} {v : V} (h : ∀ p ∈ kvs, p.1 ≠ k) : putK kvs k v = kvs ++ [(k, v)] := by
  unfold putK
  rw [if_neg]
  intro e
  obtain ⟨p, hp, e2⟩ := List.any_eq_true.mp e
  exact h p hp (of_decide_eq_true e2)
theorem lkv_at {L : List ((Str × Str) × Int)} {i : Nat} {k : List Key} {v : V} (h : (lkv L)[i]? = some (k, v)) : ∃ p, L[i]? = some p ∧ k = [.inr p.1.1, .inr p.1.2] ∧ v = .int p.2 := by
  unfold lkv at h
  rw [List.getElem?_map] at h
  cases e : L[i]? with
  | none =>
    rw [e] at h
    cases h
  | some p =>
    rw [e] at h
    have h := Option.some.inj h
    exact ⟨p, rfl, (congrArg Prod.fst h).symm, (congrArg Prod.snd h).symm⟩
theorem nd_at {α : Type} {xs : List α} (h : xs.Nodup) {i j : Nat} {x : α} (hi : xs[i]? = some x) (hj : xs[j]? = some x) : i = j := by
  obtain ⟨i1, i2⟩ := List.getElem?_eq_some_iff.mp hi
  obtain ⟨j1, j2⟩ := List.getElem?_eq_some_iff.mp hj
  by_cases c : i < j
  · exact absurd (i2.trans j2.symm) (List.pairwise_iff_getElem.mp h i j i1 j1 c)
  · by_cases d : j < i
    · exact absurd (j2.trans i2.symm) (List.pairwise_iff_getElem.mp h j i j1 i1 d)
    · omega
theorem lkv_nd {L : List ((Str × Str) × Int)} (h : (L.map (·.1)).Nodup) {i : Nat} {k : List Key} {v : V} (hi : (lkv L)[i]? = some (k, v)) : ∀ p ∈ (lkv L).take i, p.1 ≠ k := by
  intro p hp e
  obtain ⟨j, hj⟩ := List.getElem?_of_mem hp
  rw [List.getElem?_take] at hj
  split at hj
  · rename_i hji
    obtain ⟨p1, h1, h2, _⟩ := lkv_at hi
    obtain ⟨p2, g1, g2, _⟩ := lkv_at (k := p.1) (v := p.2) hj
    rw [e, h2] at g2
    have eq : p1.1 = p2.1 := key2.mp g2
    have := nd_at h (i := i) (j := j) (x := p1.1) (by rw [List.getElem?_map, h1]; rfl) (by rw [List.getElem?_map, g1, eq]; rfl)
    omega
  · cases hj
theorem lkv_is : ∀ {L : List ((Str × Str) × Int)}, (L.map (·.1)).Nodup → ∀ {i : Nat} {k : List Key} {v : V}, (lkv L)[i]? = some (k, v) → valV (lkv L) k = some v
  | [], _, i, k, v, hi => by
    obtain ⟨p, hp, _⟩ := lkv_at hi
    simp at hp
  | p :: r, h, 0, k, v, hi => by
    obtain ⟨q, hq, rfl, rfl⟩ := lkv_at hi
    cases Option.some.inj hq
    exact valV_pos rfl
  | p :: r, h, i + 1, k, v, hi => by
    obtain ⟨q, hq, rfl, rfl⟩ := lkv_at hi
    have hq : r[i]? = some q := hq
    rw [List.map_cons, List.nodup_cons] at h
    have hi2 : (lkv r)[i]? = some ([.inr q.1.1, .inr q.1.2], .int q.2) := hi
    show valV (([.inr p.1.1, .inr p.1.2], V.int p.2) :: lkv r) _ = _
    rw [valV_neg (fun e => h.1 (by
      have e2 : p.1 = q.1 := key2.mp e
      rw [e2]
      exact List.mem_map.mpr ⟨q, List.mem_of_getElem? hq, rfl⟩))]
    exact lkv_is h.2 hi2
/-! ### rounds of a market's event, known or not -/
/-- what one participant has of an amount -/
noncomputable def partOf (o : Option Str) : List ((Option Str × Int) × Int) → Int
  | [] => 0
  | e :: t => (if e.1.1 = o then e.2 else 0) + partOf o t
noncomputable def partL (o : Option Str) (l : List ((Option Str × Int) × Int)) : List Int := (l.filter (fun e => decide (e.1.1 = o))).map (·.2)
theorem partL_cons {o : Option Str} {e : (Option Str × Int) × Int} {t : List ((Option Str × Int) × Int)} : partL o (e :: t) = (if e.1.1 = o then [e.2] else []) ++ partL o t := by
  unfold partL
  rw [List.filter_cons]
  by_cases h : e.1.1 = o
  · simp only [h, decide_true, if_true, List.map_cons]
    rfl
  · simp only [h, decide_false, if_false, Bool.false_eq_true]
    rfl
theorem partL_sum (o : Option Str) : ∀ l : List ((Option Str × Int) × Int), (partL o l).sum = partOf o l
  | [] => rfl
  | e :: t => by
    rw [partL_cons, List.sum_append, partL_sum o t]
    show _ = (if e.1.1 = o then e.2 else 0) + partOf o t
    by_cases h : e.1.1 = o
    · rw [if_pos h, if_pos h, List.sum_cons, List.sum_nil, Int.add_zero]
    · rw [if_neg h, if_neg h, List.sum_nil]
theorem partL_step {o : Option Str} {l : List ((Option Str × Int) × Int)} {i : Nat} {e : (Option Str × Int) × Int} (h : l[i]? = some e) :
    partL o (l.take (i + 1)) = partL o (l.take i) ++ if e.1.1 = o then [e.2] else [] := by
  have e2 : partL o [e] = if e.1.1 = o then [e.2] else [] := by
    rw [partL_cons]
    exact List.append_nil _
  rw [List.take_add_one, h, ← e2]
  unfold partL
  rw [List.filter_append, List.map_append]
  rfl
noncomputable def sp_part_of (K : PySem.W.Frag) : Sp := fun vs H Q _ => ∃ (x : V) (ps : List (Option Str × Int)) (o : Option Str) (m : Int), vs = [x, optV o, .int m] ∧ PanAt K H x ps ∧ PanOk ps ∧
  ∀ H', Same H H' → Q (.int (partOf o (ps.zip (alloc m (shs ps))))) H'
/-! ### for x, y, z in zip(v, w, u), each a list or a tuple -/
section
variable {X : Cx} {pins : List (Addr × Obj)} {σ : L2.St} {H : Hp} {s : Shared}
end
/-! ### positions -/
/-! ### a tuple that is known as an object: its methods; a tuple times one -/
section
variable {X : Cx}
noncomputable def tBMT (r : V → List V → Hp → VK → Prop) (to : TE) (t : TA) : TE := fun σ H Q => to σ H fun x H1 => (∃ a xs, x = .ref a ∧ TupF H1 a xs) ∧ t σ H1 fun xs H2 => r x xs H2 Q
theorem pe_bmT {b e1 : Expr} {to : TE} {t : TA} {name : Str} {ap cp : PySem.Pos} {id : String} {r : V → List V → Hp → VK → Prop} (sl : Slot "tuple" name id) (ht : typeOf (.builtin id) = pure (.type "method_descriptor")) (hm : MtR X id r) (ho : PE X b to) (ha : PA X [e1] t)
    (hb : attributeBase b name X.env (eval b X.env) = eval b X.env := by rfl)
    (hf : ((backTo cp (starEach [e1] X.env)).all (fun z => !z.1) && (backToKw cp (keywordEach [] X.env)).all (fun z => z.1.isSome) && decide ([e1].length + ([] : List Keyword).length + (if ([] : List Keyword).isEmpty then 0 else 1) < 30)) = true := by rfl)
    (hl : (ap.endLine == cp.line) = true := by rfl) (hs : starEach [e1] X.env = (false, eval e1 X.env) :: starEach [] X.env := by rfl) (hp : (backTo cp (starEach [] X.env)).any (·.1) = false := by rfl) :
    PE X (.Call (.Attribute b name ap) [e1] [] cp) (tBMT r to t) := by
  refine ⟨fun pins s σ H Q I h => ?_⟩
  refine wpAny_Call_method_late hb hf hl rfl (thn (ho.run pins s σ H _ I h) fun v s1 ⟨x, H1, I1, r1, ⟨a, xs, ex, o, hfz, hc, hd⟩, q1⟩ => ?_)
  subst ex
  cases r1
  have hg : s1.heap.get? a = some o := (I1.hok a _ hfz).1
  refine ⟨"tuple", id, PySem.F.plainAttrs_tuple, sl, ht, ⟨o, hg, hc⟩, fun b e => ?_, ?_⟩
  · cases e
    exact ⟨o, hg, hd⟩
  · have hA := ha.run cp pins s1 σ H1 _ I1 q1
    rw [hs] at hA ⊢
    refine Calls.callWith_builtin (by show (false || (backTo cp (starEach [] X.env)).any (·.1)) = false; rw [hp] <;> rfl) (Calls.evalArgs_plain ?_)
    exact thn hA fun us s2 ⟨ws, H2, I2, r2, q2⟩ => hm pins s2 σ H2 (.ref a) ws (.ref a) us Q I2 rfl r2 q2
end
/-! ### how much there can be in a round -/
theorem pays_le {c : Cov} (h : CvOk c) {x : Int} (hx : 0 ≤ x) : 0 ≤ pays c x ∧ pays c x ≤ x := by
  cases c with
  | share p =>
    obtain ⟨h1, h2⟩ := h
    show 0 ≤ p * x / 1000 ∧ p * x / 1000 ≤ x
    have e1 : 0 ≤ p * x := Int.mul_nonneg (by omega) hx
    have e2 : p * x ≤ 1000 * x := Int.mul_le_mul_of_nonneg_right h2 hx
    constructor <;> omega
  | layer r l =>
    obtain ⟨h1, h2, h3, h4⟩ := h
    show 0 ≤ (if x ≤ r then 0 else if x - r > l then l else x - r) ∧ (if x ≤ r then 0 else if x - r > l then l else x - r) ≤ x
    split
    · omega
    · split <;> omega
theorem prog_le : ∀ {cs : List Cov} {x : Int}, AllOk cs → 0 ≤ x → (∀ y ∈ (prog cs x).1, 0 ≤ y) ∧ 0 ≤ (prog cs x).2
  | [], x, _, hx => ⟨fun y h => (nomatch h), hx⟩
  | c :: t, x, h, hx => by
    have h1 := pays_le (h c List.mem_cons_self) hx
    have ih := prog_le (cs := t) (x := x - pays c x) (fun d hd => h d (List.mem_cons_of_mem _ hd)) (by omega)
    refine ⟨fun y hy => ?_, ih.2⟩
    rcases List.mem_cons.mp hy with rfl | hy
    · exact h1.1
    · exact ih.1 y hy
noncomputable def NN (xs : List Int) : Prop := ∀ x ∈ xs, 0 ≤ x
theorem NN.sum : ∀ {xs : List Int}, NN xs → 0 ≤ xs.sum
  | [], _ => by simp
  | x :: r, h => by
    have h1 := h x List.mem_cons_self
    have h2 := NN.sum (xs := r) fun y hy => h y (List.mem_cons_of_mem _ hy)
    rw [List.sum_cons]
    omega
theorem NN.le : ∀ {xs : List Int}, NN xs → ∀ x ∈ xs, x ≤ xs.sum
  | [], _, x, hx => (nomatch hx)
  | y :: r, h, x, hx => by
    have h1 := h y List.mem_cons_self
    have h0 : NN r := fun z hz => h z (List.mem_cons_of_mem _ hz)
    have h2 := NN.sum h0
    rw [List.sum_cons]
    rcases List.mem_cons.mp hx with rfl | hx
    · omega
    · have := NN.le h0 x hx
      omega
theorem set_le : ∀ {ps : List Int} {n : Nat} {v : Int}, NN ps → 0 ≤ v → NN (ps.set n v) ∧ (ps.set n v).sum ≤ ps.sum + v
  | [], n, v, h, hv => by
    rw [List.set_nil]
    exact ⟨h, by omega⟩
  | p :: r, 0, v, h, hv => by
    have h1 := h p List.mem_cons_self
    refine ⟨fun x hx => ?_, ?_⟩
    · rcases List.mem_cons.mp (show x ∈ v :: r from hx) with rfl | hx
      · exact hv
      · exact h x (List.mem_cons_of_mem _ hx)
    · show (v :: r).sum ≤ _
      rw [List.sum_cons, List.sum_cons]
      omega
  | p :: r, n + 1, v, h, hv => by
    have ih := set_le (ps := r) (n := n) (v := v) (fun x hx => h x (List.mem_cons_of_mem _ hx)) hv
    refine ⟨fun x hx => ?_, ?_⟩
    · rcases List.mem_cons.mp (show x ∈ p :: r.set n v from hx) with rfl | hx
      · exact h _ List.mem_cons_self
      · exact ih.1 x hx
    · show (p :: r.set n v).sum ≤ _
      rw [List.sum_cons, List.sum_cons]
      omega
theorem putP_le : ∀ {l : List (Nat × Int)} {ps : List Int}, NN ps → NN (l.map (·.2)) → NN (putP ps l) ∧ (putP ps l).sum ≤ ps.sum + (l.map (·.2)).sum
  | [], ps, h, _ => ⟨h, by show ps.sum ≤ ps.sum + ([] : List Int).sum; simp⟩
  | (n, v) :: r, ps, h, hl => by
    have h1 := set_le (n := n) h (hl v List.mem_cons_self)
    have ih := putP_le (l := r) h1.1 fun x hx => hl x (List.mem_cons_of_mem _ hx)
    refine ⟨ih.1, ?_⟩
    show (putP (ps.set n v) r).sum ≤ ps.sum + (v :: r.map (·.2)).sum
    rw [List.sum_cons]
    omega
theorem zip_snd : ∀ {ns : List Nat} {xs : List Int}, ns.length = xs.length → (ns.zip xs).map (·.2) = xs
  | [], [], _ => rfl
  | [], _ :: _, h => by simp at h
  | _ :: _, [], h => by simp at h
  | n :: ns, x :: xs, h => by
    rw [List.zip_cons_cons, List.map_cons, zip_snd (Nat.succ.inj h)]
theorem cede_le {ced : Str} {ts : List Trt} (h : ∀ t ∈ ts, CvOk t.cov) {x : Int} (hx : 0 ≤ x) : NN (cedeP ced ts x).1 ∧ (cedeP ced ts x).1.sum ≤ x ∧ ((actv ced 0 ts).map (·.1)).length = (cedeP ced ts x).1.length := by
  have ok : AllOk ((actv ced 0 ts).map (·.2)) := fun c hc => by
    obtain ⟨p, hp, rfl⟩ := List.mem_map.mp hc
    exact (actv_ok h p hp).1
  have h1 := prog_le ok hx
  have h2 := prog_sum ((actv ced 0 ts).map (·.2)) x
  unfold cedeP
  exact ⟨h1.1, by omega, by rw [prog_len, List.length_map, List.length_map]⟩
theorem payP_le {ts : List Trt} (h : ∀ t ∈ ts, CvOk t.cov) : ∀ {l : List (Str × Int)} {ps : List Int}, NN ps → NN (l.map (·.2)) → NN (payP ts l ps) ∧ (payP ts l ps).sum ≤ ps.sum + (l.map (·.2)).sum
  | [], ps, hp, _ => ⟨hp, by show ps.sum ≤ ps.sum + ([] : List Int).sum; simp⟩
  | (c, x) :: r, ps, hp, hl => by
    obtain ⟨g1, g2, g3⟩ := cede_le (ced := c) h (hl x List.mem_cons_self)
    have e := zip_snd g3
    have h1 := putP_le (l := ((actv c 0 ts).map (·.1)).zip (cedeP c ts x).1) hp (by rw [e]; exact g1)
    rw [e] at h1
    have ih := payP_le h (l := r) h1.1 fun y hy => hl y (List.mem_cons_of_mem _ hy)
    refine ⟨ih.1, ?_⟩
    show (payP ts r (putP ps _)).sum ≤ ps.sum + (x :: r.map (·.2)).sum
    rw [List.sum_cons]
    omega
theorem rep_nn (n : Nat) : NN (List.replicate n (0 : Int)) ∧ (List.replicate n (0 : Int)).sum = 0 := by
  induction n with
  | zero => exact ⟨fun x h => (nomatch h), rfl⟩
  | succ n ih =>
    rw [List.replicate_succ]
    refine ⟨fun x h => ?_, ?_⟩
    · rcases List.mem_cons.mp h with rfl | h
      · exact Int.le_refl _
      · exact ih.1 x h
    · rw [List.sum_cons, ih.2]
      rfl
theorem zip_snd_le : ∀ {ins : List Str} {gs : List Int}, NN gs → NN ((ins.zip gs).map (·.2)) ∧ ((ins.zip gs).map (·.2)).sum ≤ gs.sum
  | [], gs, h => ⟨fun x h => (nomatch h), by have := NN.sum h; show ([] : List Int).sum ≤ _; simpa using this⟩
  | _ :: _, [], h => ⟨fun x h => (nomatch h), by show ([] : List Int).sum ≤ ([] : List Int).sum; exact Int.le_refl _⟩
  | i :: r, g :: gs, h => by
    have h1 := h g List.mem_cons_self
    have ih := zip_snd_le (ins := r) (gs := gs) fun x hx => h x (List.mem_cons_of_mem _ hx)
    rw [List.zip_cons_cons, List.map_cons, List.sum_cons, List.sum_cons]
    refine ⟨fun x hx => ?_, by have := ih.2; show g + _ ≤ _; omega⟩
    rcases List.mem_cons.mp hx with rfl | hx
    · exact h1
    · exact ih.1 x hx
theorem tpay_le {ins : List Str} {ts : List Trt} (h : ∀ t ∈ ts, CvOk t.cov) {gs : List Int} (hg : NN gs) : NN (tpay ts ins gs) ∧ (tpay ts ins gs).sum ≤ gs.sum := by
  obtain ⟨z1, z2⟩ := zip_snd_le (ins := ins) hg
  have h0 := payP_le h (l := ins.zip gs) (rep_nn ts.length).1 z1
  rw [(rep_nn ts.length).2] at h0
  exact ⟨h0.1, by unfold tpay; have := h0.2; omega⟩
theorem addAt_le : ∀ {ins : List Str} {ls : List Int} {z : Str} {p : Int}, NN ls → 0 ≤ p → NN (addAt ins ls z p) ∧ (addAt ins ls z p).sum ≤ ls.sum + p
  | [], ls, z, p, h, hp => ⟨h, by show ls.sum ≤ _; omega⟩
  | _ :: _, [], z, p, h, hp => ⟨h, by show ([] : List Int).sum ≤ _; omega⟩
  | i :: r, x :: xs, z, p, h, hp => by
    have h1 := h x List.mem_cons_self
    have h0 : NN xs := fun y hy => h y (List.mem_cons_of_mem _ hy)
    unfold addAt
    split
    · refine ⟨fun y hy => ?_, by rw [List.sum_cons, List.sum_cons]; omega⟩
      rcases List.mem_cons.mp hy with rfl | hy
      · omega
      · exact h0 y hy
    · have ih := addAt_le (ins := r) (z := z) h0 hp
      refine ⟨fun y hy => ?_, by rw [List.sum_cons, List.sum_cons]; have := ih.2; omega⟩
      rcases List.mem_cons.mp hy with rfl | hy
      · exact h1
      · exact ih.1 y hy
theorem addPan_le {ins : List Str} : ∀ {l : List ((Option Str × Int) × Int)} {ls : List Int}, NN ls → NN (l.map (·.2)) → NN (addPan ins l ls) ∧ (addPan ins l ls).sum ≤ ls.sum + (l.map (·.2)).sum
  | [], ls, h, _ => ⟨h, by show ls.sum ≤ ls.sum + ([] : List Int).sum; simp⟩
  | ((none, _), p) :: r, ls, h, hl => by
    have hp := hl p List.mem_cons_self
    have ih := addPan_le (ins := ins) (l := r) h fun y hy => hl y (List.mem_cons_of_mem _ hy)
    refine ⟨ih.1, ?_⟩
    show (addPan ins r ls).sum ≤ ls.sum + (p :: r.map (·.2)).sum
    rw [List.sum_cons]
    have := ih.2
    omega
  | ((some z, _), p) :: r, ls, h, hl => by
    have hp := hl p List.mem_cons_self
    have h1 := addAt_le (ins := ins) (z := z) h hp
    have ih := addPan_le (ins := ins) (l := r) h1.1 fun y hy => hl y (List.mem_cons_of_mem _ hy)
    refine ⟨ih.1, ?_⟩
    show (addPan ins r (addAt ins ls z p)).sum ≤ ls.sum + (p :: r.map (·.2)).sum
    rw [List.sum_cons]
    have := ih.2
    omega
theorem zip_snd2 {α : Type} : ∀ {ns : List α} {xs : List Int}, ns.length = xs.length → (ns.zip xs).map (·.2) = xs
  | [], [], _ => rfl
  | [], _ :: _, h => by simp at h
  | _ :: _, [], h => by simp at h
  | n :: ns, x :: xs, h => by
    rw [List.zip_cons_cons, List.map_cons, zip_snd2 (Nat.succ.inj h)]
theorem addTrs_le {ins : List Str} : ∀ {l : List (Trt × Int)} {ls : List Int}, (∀ p ∈ l, TrtOk p.1) → NN ls → NN (l.map (·.2)) → NN (addTrs ins l ls) ∧ (addTrs ins l ls).sum ≤ ls.sum + (l.map (·.2)).sum
  | [], ls, _, h, _ => ⟨h, by show ls.sum ≤ ls.sum + ([] : List Int).sum; simp⟩
  | (t, m) :: r, ls, hok, h, hl => by
    have hm := hl m List.mem_cons_self
    have ht := (hok _ List.mem_cons_self).p
    have e : (t.pan.zip (alloc m (shs t.pan))).map (·.2) = alloc m (shs t.pan) := zip_snd2 (by rw [alloc_len]; exact (List.length_map ..).symm)
    have h1 := addPan_le (ins := ins) (l := t.pan.zip (alloc m (shs t.pan))) h (by rw [e]; exact fun x hx => (alloc_nonneg (shs_pos ht) hm x hx).1)
    rw [e, alloc_sum m _ (shs_pos ht) (shs_ne ht)] at h1
    have ih := addTrs_le (ins := ins) (l := r) (fun p hp => hok p (List.mem_cons_of_mem _ hp)) h1.1 fun y hy => hl y (List.mem_cons_of_mem _ hy)
    refine ⟨ih.1, ?_⟩
    show (addTrs ins r (addPan ins _ ls)).sum ≤ ls.sum + (m :: r.map (·.2)).sum
    rw [List.sum_cons]
    have := ih.2
    omega
theorem next_le {ins : List Str} {ts : List Trt} {ds gs : List Int} (hok : ∀ t ∈ ts, TrtOk t) (hd : NN ds) (hg : NN gs) : NN (nextG ins ts ds gs) ∧ (nextG ins ts ds gs).sum ≤ ds.sum + gs.sum := by
  obtain ⟨p1, p2⟩ := tpay_le (ins := ins) (fun t ht => (hok t ht).c) hg
  have hl : ts.length = (tpay ts ins gs).length := by
    unfold tpay
    rw [payP_len, List.length_replicate]
  have e := zip_snd2 hl
  have h := addTrs_le (ins := ins) (l := ts.zip (tpay ts ins gs)) (fun p hp => hok p.1 (List.of_mem_zip hp).1) hd (by rw [e]; exact p1)
  rw [e] at h
  unfold nextG
  exact ⟨h.1, by have := h.2; omega⟩
theorem row_le {ins : List Str} {ts : List Trt} {ds : List Int} (hok : ∀ t ∈ ts, TrtOk t) (hd : NN ds) : ∀ n : Nat, NN (row ins ts ds n) ∧ (row ins ts ds n).sum ≤ ((n : Int) + 1) * ds.sum
  | 0 => ⟨hd, by show ds.sum ≤ _; rw [show ((0 : Nat) : Int) + 1 = 1 by rfl, Int.one_mul]; exact Int.le_refl _⟩
  | n + 1 => by
    have ih := row_le (ins := ins) hok hd n
    have h := next_le (ins := ins) hok hd ih.1
    refine ⟨h.1, ?_⟩
    show (nextG ins ts ds (row ins ts ds n)).sum ≤ _
    have e : (((n + 1 : Nat) : Int) + 1) * ds.sum = ((n : Int) + 1) * ds.sum + ds.sum := by
      rw [show ((n + 1 : Nat) : Int) + 1 = ((n : Int) + 1) + 1 by omega, Int.add_mul, Int.one_mul]
    rw [e]
    have := h.2
    have := ih.2
    omega
/-! ### the law's own reckoning of a round, over lists -/
theorem zi (i : Nat) : (0 : Int) + (i : Int) = (i : Int) := Int.zero_add _
theorem setL_keys (L : List ((Str × Str) × Int)) (e z : Str) (n : Int) (h : (L.map (·.1)).Nodup) : ((setL L e z n).map (·.1)).Nodup ∧ (setL L e z n).length ≤ L.length + 1 := by
  unfold setL
  split
  · have e1 : (L.map fun p => if p.1 = (e, z) then (p.1, n) else p).map (·.1) = L.map (·.1) := by
      rw [List.map_map]
      congr 1
      funext p
      show (if p.1 = (e, z) then (p.1, n) else p).1 = p.1
      split <;> rfl
    rw [e1]
    exact ⟨h, by rw [List.length_map]; omega⟩
  · rename_i c
    rw [List.map_append]
    refine ⟨?_, by rw [List.length_append]; exact Nat.le_refl _⟩
    rw [List.nodup_append]
    refine ⟨h, by simp, fun x hx y hy => ?_⟩
    have hy := List.mem_singleton.mp hy
    intro q
    obtain ⟨p, hp, rfl⟩ := List.mem_map.mp hx
    exact c (List.any_eq_true.mpr ⟨p, hp, decide_eq_true (q.trans hy)⟩)
theorem trs_more {nm : List Str} {ts : List Trt} {t : Trt} (h : TrsOk nm ts) (hl : ts.length < 1000) (ht : TrtOk t) (hm : ∀ e ∈ t.pan, ∀ z, e.1 = some z → z ∈ nm) : TrsOk nm (ts ++ [t]) := by
  refine ⟨h.nd, fun u hu => ?_, fun u hu => ?_, by rw [List.length_append]; exact hl, h.few⟩
  · rcases List.mem_append.mp hu with hu | hu
    · exact h.ok u hu
    · rw [List.mem_singleton.mp hu]
      exact ht
  · rcases List.mem_append.mp hu with hu | hu
    · exact h.mem u hu
    · rw [List.mem_singleton.mp hu]
      exact hm
/-! the data -/
theorem sqt_bar {K : PySem.W.Frag} {H H' : Hp} {m a : Addr} {C dx : Addr} {fs : List (Str × V)} {xs : List V} (b : Bar m H H') (hm : H m = some (.ins C dx fs)) (h : SqT K H a xs) : SqT K H' a xs := by
  rcases h with (h | ⟨u, h⟩) | h
  · exact .inl (.inl (b a _ (ne_of h hm (by intro z; cases z)) h))
  · exact .inl (.inr ⟨u, b a _ (ne_of h hm (by intro z; cases z)) h⟩)
  · exact .inr h
/-! ### the law's own reckoning, over lists or over tuples -/
/-! ### a drawn panel -/
section
variable {K : PySem.W.Frag} {H H' : Hp} {p a : Addr} {zs xs : List V}
theorem ent_put {D : Addr} {o : HO} {y : V} {e : Option Str × Int} (hD : H D = some (.lst zs)) (h : EntAt K H y e) : EntAt K (upd H D o) y e :=
  let ⟨a, h1, h2⟩ := h; ⟨a, h1, sqt_put hD h2⟩
theorem ent_same {y : V} {e : Option Str × Int} (s : Same H H') (h : EntAt K H y e) : EntAt K H' y e :=
  let ⟨a, h1, h2⟩ := h; ⟨a, h1, same_sqt s h2⟩
end
/-- who may stand in a drawn panel -/
noncomputable def Mays (ins : List Str) (c : Str) (o : Option Str) : Prop := o = none ∨ ∃ z, o = some z ∧ z ∈ ins ∧ z ≠ c
structure DrawnPan (ins : List Str) (c : Str) (ps : List (Option Str × Int)) : Prop where
  ok : PanOk ps
  nd : (pnames ps).Nodup
  may : ∀ o ∈ pnames ps, Mays ins c o
theorem sum_12 : ∀ {l : List (Option Str × Int)}, (∀ e ∈ l, 1 ≤ e.2 ∧ e.2 ≤ 12) → (l.map (·.2)).sum ≤ 12 * (l.length : Int)
  | [], _ => by simp
  | e :: t, h => by
    have h1 := h e List.mem_cons_self
    have h2 := sum_12 fun x hx => h x (List.mem_cons_of_mem _ hx)
    rw [List.map_cons, List.sum_cons, List.length_cons]
    omega
/-! ### a drawn market -/
theorem int_list0 {n : Nat} : ∀ {xs : List Int}, xs.length = n → NN xs → xs.sum ≤ 0 → xs = List.replicate n 0 := fun {xs} hl h hs => by
  refine List.eq_replicate_iff.mpr ⟨hl, fun x hx => ?_⟩
  have h1 := h x hx
  have h2 := NN.le h x hx
  omega
theorem row_zero {ins : List Str} {ts : List Trt} (hok : TrsOk ins ts) : ∀ n, row ins ts (List.replicate ins.length 0) n = List.replicate ins.length 0 := fun n => by
  obtain ⟨h1, h2⟩ := rep_nn ins.length
  have h := row_le (ins := ins) hok.ok h1 n
  rw [h2, Int.mul_zero] at h
  exact int_list0 (row_len (List.length_replicate ..) n) h.1 h.2
theorem fate_zero {ins : List Str} {ts : List Trt} (hok : TrsOk ins ts) : fate ins ts (List.replicate ins.length 0) true := by
  refine ⟨0, by decide, by rw [row_zero hok, row_zero hok], fun j hj => absurd hj (Nat.not_lt_zero j), ?_⟩
  rw [row_zero hok]
  unfold big
  rw [List.any_eq_false]
  intro x hx
  rw [List.eq_of_mem_replicate hx]
  decide
/-! ### what a cedent's treaties pay altogether -/
/-! ### the market is built -/
theorem placed_drawn {ins : List Str} {c : Str} {ps : List (Option Str × Int)} (hc : c ∈ ins) (h : DrawnPan ins c ps) : placed c ps ins = none := by
  have hu : ∀ l : List (Option Str), (∀ o ∈ l, Mays ins c o) → firstUn ins l = none := fun l => by
    induction l with
    | nil => exact fun _ => rfl
    | cons o t ih =>
      intro hm
      have ht := ih fun x hx => hm x (List.mem_cons_of_mem _ hx)
      rcases hm o List.mem_cons_self with rfl | ⟨z, rfl, hz, _⟩
      · exact ht
      · exact (if_pos hz).trans ht
  have hc2 : some c ∉ pnames ps := fun q => by
    rcases h.may _ q with e | ⟨z, e, _, hz⟩
    · cases e
    · exact hz (Option.some.inj e).symm
  unfold placed
  rw [if_neg (fun q => q hc), hu _ h.may]
  show (if ¬(pnames ps).Nodup then _ else _) = _
  rw [if_neg (fun q => q h.nd), if_neg hc2]
theorem directs_nil (ins : List Str) (e : Str) : directs ins [] e = List.replicate ins.length 0 := by
  unfold directs
  apply List.ext_getElem?
  intro j
  rw [List.getElem?_map, List.getElem?_replicate]
  by_cases c : j < ins.length
  · rw [if_pos c, List.getElem?_eq_getElem c]
    rfl
  · rw [if_neg c, List.getElem?_eq_none (by omega)]
    rfl
section
variable {K : PySem.W.Frag} {H H' : Hp} {m a : Addr} {C dx : Addr} {fs : List (Str × V)} {xs : List V}
end
/-! ### what is greater, one by one -/
section
variable {ins : List Str} {ts : List Trt}
end
/-! ### sums -/
/-! ### one unit more -/
/-! ### the way of one unit: the program's defs -/
noncomputable def sp_check_names (K : PySem.W.Frag) (C CS : Addr) : Sp := fun vs H Q E => ∃ (m : Addr) (M : Mkt) (e z : Str), vs = [.ref m, .str e, .str z] ∧ MktAt K C H m M ∧
  ((e ∉ M.evs ∧ ∀ d H', Same H H' → H' d = some (.xd [("name", .str e)]) → E (.ref CS) (some d) H') ∨ (e ∈ M.evs ∧ z ∉ M.ins ∧ ∀ d H', Same H H' → H' d = some (.xd [("name", .str z)]) → E (.ref CS) (some d) H') ∨ (e ∈ M.evs ∧ z ∈ M.ins ∧ ∀ H', Same H H' → Q .non H'))
/-! ### a call of one of two defs, by a local name, within a try -/
theorem call_lenK {X : Cx} {K : PySem.W.Frag} (h : X.K = K) : CallR X (.builtin "len") (fun xs H Q => ∃ p ys, xs = [.ref p] ∧ (SqL K H p ys ∨ SqT K H p ys) ∧ Q (.int (ys.length : Nat)) H) := by
  subst h
  exact call_len_seq
/-! ### what a way changes -/
/-! ### a market by digits -/
/-- a panel by digits, so far: some of the names, in their order -/
structure DgSt (os : List Str) (i : Nat) (ps : List (Option Str × Int)) : Prop where
  sub : (pnames ps).Sublist ((os.take i).map some)
  sh : ∀ e ∈ ps, 1 ≤ e.2 ∧ e.2 ≤ 12
theorem DgSt.up {os : List Str} {i : Nat} {ps : List (Option Str × Int)} (h : DgSt os i ps) {z : Str} (hz : os[i]? = some z) : DgSt os (i + 1) ps := by
  refine ⟨?_, h.sh⟩
  rw [List.take_add_one, hz, List.map_append]
  exact h.sub.trans (List.sublist_append_left _ _)
theorem DgSt.add {os : List Str} {i : Nat} {ps : List (Option Str × Int)} (h : DgSt os i ps) {z : Str} (hz : os[i]? = some z) {n : Int} (h1 : 1 ≤ n) (h2 : n ≤ 12) : DgSt os (i + 1) (ps ++ [(some z, n)]) := by
  refine ⟨?_, fun e he => ?_⟩
  · rw [List.take_add_one, hz, List.map_append]
    have e1 : pnames (ps ++ [(some z, n)]) = pnames ps ++ [some z] := List.map_append
    rw [e1]
    exact h.sub.append (List.Sublist.refl _)
  · rcases List.mem_append.mp he with he | he
    · exact h.sh e he
    · rw [List.mem_singleton.mp he]
      exact ⟨h1, h2⟩
theorem DgSt.fin {ins os : List Str} {c : Str} {ps qs : List (Option Str × Int)} (h : DgSt os os.length ps) (hnd : os.Nodup) (hlen : os.length ≤ 5) (hos : ∀ z ∈ os, z ∈ ins ∧ z ≠ c) (hnm : ∀ z ∈ ins, isNm z = true ∧ z.length ≤ 1000)
    (hq : qs = ps ∨ ∃ n, 1 ≤ n ∧ n ≤ 12 ∧ qs = ps ++ [(none, n)]) (hp : 1 ≤ qs.length) : DrawnPan ins c qs := by
  have sub := h.sub
  rw [List.take_of_length_le (Nat.le_refl _)] at sub
  have l1 := sub.length_le
  rw [List.length_map] at l1
  have l2 : (pnames ps).length = ps.length := List.length_map ..
  have nd1 : (pnames ps).Nodup := (hnd.map (f := some) (fun a b h e => h (Option.some.inj e))).sublist sub
  have mm : ∀ o ∈ pnames ps, ∃ z, o = some z ∧ z ∈ os := fun o ho => by
    obtain ⟨z, hz, e⟩ := List.mem_map.mp (sub.mem ho)
    exact ⟨z, e.symm, hz⟩
  have shq : ∀ e ∈ qs, 1 ≤ e.2 ∧ e.2 ≤ 12 := fun e he => by
    rcases hq with rfl | ⟨n, n1, n2, rfl⟩
    · exact h.sh e he
    · rcases List.mem_append.mp he with he | he
      · exact h.sh e he
      · rw [List.mem_singleton.mp he]
        exact ⟨n1, n2⟩
  have mq : ∀ o ∈ pnames qs, o = none ∨ ∃ z, o = some z ∧ z ∈ os := fun o ho => by
    rcases hq with rfl | ⟨n, n1, n2, rfl⟩
    · exact .inr (mm o ho)
    · have e1 : pnames (ps ++ [((none : Option Str), n)]) = pnames ps ++ [none] := List.map_append
      rw [e1] at ho
      rcases List.mem_append.mp ho with ho | ho
      · exact .inr (mm o ho)
      · exact .inl (List.mem_singleton.mp ho)
  have lq : qs.length ≤ 6 := by
    rcases hq with rfl | ⟨n, n1, n2, rfl⟩
    · omega
    · rw [List.length_append]
      show _ + 1 ≤ 6
      omega
  refine ⟨⟨hp, lq, fun x hx => ⟨fun z hz => ?_, (shq x hx).1, by have := (shq x hx).2; omega⟩, ?_⟩, ?_, fun o ho => ?_⟩
  · rcases mq _ (List.mem_map.mpr ⟨x, hx, rfl⟩) with q | ⟨y, q, hy⟩
    · rw [hz] at q
      cases q
    · rw [hz] at q
      cases Option.some.inj q
      exact hnm z (hos z hy).1
  · have := sum_12 shq
    omega
  · rcases hq with rfl | ⟨n, n1, n2, rfl⟩
    · exact nd1
    · have e1 : pnames (ps ++ [((none : Option Str), n)]) = pnames ps ++ [none] := List.map_append
      rw [e1, List.nodup_append]
      refine ⟨nd1, by simp, fun x hx y hy e => ?_⟩
      rw [List.mem_singleton.mp hy] at e
      obtain ⟨z, hz, _⟩ := mm x hx
      rw [e] at hz
      cases hz
  · rcases mq o ho with q | ⟨z, q, hz⟩
    · exact .inl q
    · exact .inr ⟨z, q, (hos z hz).1, (hos z hz).2⟩
theorem nd_len {α : Type} [DecidableEq α] : ∀ {l s : List α}, l.Nodup → (∀ x ∈ l, x ∈ s) → l.length ≤ s.length
  | [], _, _, _ => Nat.zero_le _
  | x :: t, s, h, hm => by
    have hx := hm x List.mem_cons_self
    have hnd := List.nodup_cons.mp h
    have h1 : t.length ≤ (s.erase x).length := nd_len hnd.2 fun y hy => (List.mem_erase_of_ne (fun e : y = x => hnd.1 (by rw [← e]; exact hy))).mpr (hm y (List.mem_cons_of_mem _ hy))
    rw [List.length_erase_of_mem hx] at h1
    have h2 := List.length_pos_of_mem hx
    show t.length + 1 ≤ _
    omega
noncomputable def prods : List Str → List Str → List (Str × Str)
  | [], _ => []
  | e :: r, zs => zs.map (fun z => (e, z)) ++ prods r zs
theorem prods_len : ∀ (es zs : List Str), (prods es zs).length = es.length * zs.length
  | [], zs => by simp [prods]
  | e :: r, zs => by
    unfold prods
    rw [List.length_append, List.length_map, prods_len r zs, List.length_cons, Nat.succ_mul]
    omega
theorem prods_mem : ∀ {es zs : List Str} {e z : Str}, e ∈ es → z ∈ zs → (e, z) ∈ prods es zs
  | x :: r, zs, e, z, he, hz => by
    unfold prods
    rcases List.mem_cons.mp he with rfl | he
    · exact List.mem_append_left _ (List.mem_map.mpr ⟨z, hz, rfl⟩)
    · exact List.mem_append_right _ (prods_mem he hz)
noncomputable def four : List Str := ["ada", "bob", "cyd", "dan"]
noncomputable def twain : List Str := ["storm", "flood"]
/-- a market as the digits make it -/
structure DgMkt (M : Mkt) : Prop where
  i : ∃ k, 1 ≤ k ∧ k ≤ 4 ∧ M.ins = four.take k
  e : ∃ k, 1 ≤ k ∧ k ≤ 2 ∧ M.evs = twain.take k
  ok : TrsOk M.ins M.trs
  tl : M.trs.length ≤ 16
  trs : ∀ t ∈ M.trs, t.ced ∈ M.ins ∧ DrawnPan M.ins t.ced t.pan ∧ t.ended = false
  lnd : (M.los.map (·.1)).Nodup
  l : ∀ p ∈ M.los, p.1.1 ∈ M.evs ∧ p.1.2 ∈ M.ins ∧ 0 ≤ p.2 ∧ p.2 ≤ 69
  ends : ∀ e ∈ M.evs, fate M.ins M.trs (directs M.ins M.los e) true
theorem DgMkt.inm {M : Mkt} (h : DgMkt M) : ∀ z ∈ M.ins, isNm z = true ∧ z.length ≤ 1000 := fun z hz => by
  obtain ⟨k, _, _, e⟩ := h.i
  rw [e] at hz
  exact (show ∀ c ∈ four, isNm c = true ∧ c.length ≤ 1000 by decide +kernel) z (List.mem_of_mem_take hz)
theorem DgMkt.enm {M : Mkt} (h : DgMkt M) : ∀ z ∈ M.evs, isNm z = true ∧ z.length ≤ 1000 := fun z hz => by
  obtain ⟨k, _, _, e⟩ := h.e
  rw [e] at hz
  exact (show ∀ c ∈ twain, isNm c = true ∧ c.length ≤ 1000 by decide +kernel) z (List.mem_of_mem_take hz)
theorem DgMkt.il {M : Mkt} (h : DgMkt M) : 1 ≤ M.ins.length ∧ M.ins.length ≤ 4 := by
  obtain ⟨k, h1, h2, e⟩ := h.i
  rw [e, List.length_take, show four.length = 4 from rfl]
  omega
theorem DgMkt.el {M : Mkt} (h : DgMkt M) : 1 ≤ M.evs.length ∧ M.evs.length ≤ 2 := by
  obtain ⟨k, h1, h2, e⟩ := h.e
  rw [e, List.length_take, show twain.length = 2 from rfl]
  omega
theorem DgMkt.ll {M : Mkt} (h : DgMkt M) : M.los.length ≤ 8 := by
  have h1 := nd_len h.lnd (s := prods M.evs M.ins) fun x hx => by
    obtain ⟨p, hp, rfl⟩ := List.mem_map.mp hx
    exact prods_mem (h.l p hp).1 (h.l p hp).2.1
  rw [prods_len, List.length_map] at h1
  have h2 := h.il
  have h3 := h.el
  have h4 : M.evs.length * M.ins.length ≤ 2 * 4 := Nat.mul_le_mul h3.2 h2.2
  omega
theorem setL_mem {L : List ((Str × Str) × Int)} {e z : Str} {n : Int} {p : (Str × Str) × Int} (h : p ∈ setL L e z n) : p ∈ L ∨ p = ((e, z), n) := by
  unfold setL at h
  split at h
  · obtain ⟨q, hq, rfl⟩ := List.mem_map.mp h
    split
    · rename_i c
      exact .inr (by rw [c])
    · exact .inl hq
  · rcases List.mem_append.mp h with h | h
    · exact .inl h
    · exact .inr (List.mem_singleton.mp h)
theorem DgMkt.set {M : Mkt} (h : DgMkt M) {e z : Str} {n : Int} (he : e ∈ M.evs) (hz : z ∈ M.ins) (h0 : 0 ≤ n) (h1 : n ≤ 69) (hf : ∀ e' ∈ M.evs, fate M.ins M.trs (directs M.ins (setL M.los e z n) e') true) : DgMkt { M with los := setL M.los e z n } :=
  ⟨h.i, h.e, h.ok, h.tl, h.trs, (setL_keys M.los e z n h.lnd).1, fun p hp => by
    rcases setL_mem hp with hp | rfl
    · exact h.l p hp
    · exact ⟨he, hz, h0, h1⟩, hf⟩
theorem slA_to {K : PySem.W.Frag} {H : Hp} {t : Addr} {xs : List V} {i : Int} {k : Nat} {Q : VK} (hS : SqT K H t xs) (e : i = (k : Int)) (q : ∀ (A : Addr) (H' : Hp), Same H H' → SqT K H' A (xs.take k) → Q (.ref A) H') : rSlA K (.ref t) none (some i) H Q := by
  subst e
  refine ⟨t, xs, rfl, hS, fun hw => q t H (Same.refl _) ?_, fun _ p np => q p _ (same_new np) (SqT.of (by rw [upd_same, cut_to]))⟩
  have e : xs.take k = xs := by
    rw [← cut_to]
    unfold cutV
    rw [hw.1, hw.2]
    simp
  rw [e]
  exact hS
theorem filt_nd {ins : List Str} (c : Str) (h : ins.Nodup) : (ins.filter fun z => decide (z ≠ c)).Nodup := h.filter _
theorem filt_step {ins : List Str} {c z : Str} {i : Nat} (h : ins[i]? = some z) : (ins.take (i + 1)).filter (fun z => decide (z ≠ c)) = (ins.take i).filter (fun z => decide (z ≠ c)) ++ if z ≠ c then [z] else [] := by
  rw [List.take_add_one, h, List.filter_append]
  congr 1
  by_cases e : z = c
  · subst e
    simp
  · simp [e]
theorem DgMkt.add {ins evs : List Str} {ts : List Trt} {t : Trt} (h : DgMkt ⟨ins, evs, ts, []⟩) (hl : ts.length < 16) (hok : TrsOk ins (ts ++ [t])) (ht : t.ced ∈ ins ∧ DrawnPan ins t.ced t.pan ∧ t.ended = false) : DgMkt ⟨ins, evs, ts ++ [t], []⟩ :=
  ⟨h.i, h.e, hok, by show (ts ++ [t]).length ≤ 16; rw [List.length_append]; exact hl, fun u hu => by
    rcases List.mem_append.mp hu with hu | hu
    · exact h.trs u hu
    · rw [List.mem_singleton.mp hu]
      exact ht, h.lnd, h.l, fun e _ => by
    show fate ins (ts ++ [t]) (directs ins [] e) true
    rw [directs_nil]
    exact fate_zero hok⟩
/-! ### the example of the digits' laws -/
/-! ### a market's copy -/
section
variable {X : Cx} {kx vx tg iter : Expr} {ifs : List Expr} {scope : Scope} {own : List (Str × Nat)} {pos : PySem.Pos} {wi : TI} {g : TG} {tt : TT} {tk tv : TE}
theorem pe_dct (hu : X.A.units + 1 < cLine) (hc : X.calm = true) (hN : X.N.Nodup) (hi : PI X tg iter wi) (ok : BlkOk X.N X.env.scope scope own)
    (hg : Blks X scope fun B => PG B tg g) (ht : Blks X scope fun B => PTs B ifs tt) (hk : Blks X scope fun B => PE B kx tk) (he : Blks X scope fun B => PE B vx tv) (hs : ∀ x, foldedSetIterable iter X.env x = pure x := by intro _; rfl) :
    PE X (.DictComp kx vx [⟨tg, iter, ifs, 0⟩] scope pos) (tDct wi g tt tk tv (own.map (·.2))) := by
  refine ⟨fun pins s σ H Q I h => ?_⟩
  rw [arm_eval_DictComp]
  refine dct_core hu hc hN I hi ok hg ht hk he hs h fun D C s' m H' I' q hn f => ⟨m, hn, fun h'' sb => ?_⟩
  obtain ⟨f0, f1, f2, f3, f4, f5⟩ := f
  exact ⟨.ref D, H', I'.turned (t' := s'.toks) (fun b o hb e => (sb.2 b hb).trans e) f0 f1 f3 f4 f5, rfl, q⟩
end
/-! ### tuples that are empty or known as objects: +, slices, tuple(range) -/
/-- a tuple, empty or known as an object -/
noncomputable def FzT (K : PySem.W.Frag) (H : Hp) (a : Addr) (xs : List V) : Prop := SqT K H a xs ∧ Fz H a xs
theorem FzT.same {K : PySem.W.Frag} {H H' : Hp} {a : Addr} {xs : List V} (e : Same H H') (h : FzT K H a xs) : FzT K H' a xs := ⟨same_sqt e h.1, h.2.same e⟩
theorem FzT.of {K : PySem.W.Frag} {H : Hp} {a : Addr} {xs : List V} (h : TupF H a xs) : FzT K H a xs := ⟨h.sqt, .inr h⟩
section
variable {X : Cx}
noncomputable def rCatZ (K : PySem.W.Frag) : R2 := fun x y H Q => ∃ a b xs ys, x = .ref a ∧ y = .ref b ∧ FzT K H a xs ∧ FzT K H b ys ∧ xs.length + ys.length ≤ sizeLine ∧ ∀ p H', Same H H' → FzT K H' p (xs ++ ys) → Q (.ref p) H'
theorem op_catZ : OpR X (binaryOp .Add) (rCatZ X.K) := by
  intro pins s σ H x y v u Q I rx ry h
  obtain ⟨a, b, xs, ys, rfl, rfl, ⟨ha, fa⟩, ⟨hb, fb⟩, hz, q⟩ := h
  cases rx
  cases ry
  obtain ⟨its, r1, p1, _⟩ := I.tuple ha
  obtain ⟨its2, r2, p2, _⟩ := I.tuple hb
  by_cases hx : xs = []
  · subst hx
    cases r1
    exact cat_tup0 p1 p2 ⟨.ref b, H, I, rfl, q b H (Same.refl H) ⟨hb, fb⟩⟩
  · refine HT.cat_tup p1 p2 (fun z => hx (r1.nil_iff.mp z)) (fun z => ?_) (fun z => ?_) (by rw [← r1.length, ← r2.length]; exact hz)
    · have e := r2.nil_iff.mp z
      subst e
      rw [List.append_nil] at q
      exact ⟨.ref a, H, I, rfl, q a H (Same.refl H) ⟨ha, fa⟩⟩
    · have n0 : H s.heap.objs.size = none := I.hok.fresh (Nat.le_refl _)
      refine ⟨.ref s.heap.objs.size, _, I.laid (t' := s.toks) (o := .frz { cls := .type "tuple", data := .seq (its ++ its2).toArray } (.tup (xs ++ ys))) (fun b ob q => Heap.get?_push_of_some _ q) (Nat.le_refl _) ?_, rfl, q _ _ (same_new n0) (.of ⟨_, upd_same, rfl, rfl⟩)⟩
      exact ⟨Heap.get?_push_size _ rfl, by rw [List.length_append]; exact hz, _, r1.append r2, IsTup.new _ _⟩
noncomputable def rSlZ (K : PySem.W.Frag) : V → Option Int → Option Int → Hp → VK → Prop := fun x lo hi H Q => ∃ a xs, x = .ref a ∧ FzT K H a xs ∧ ∀ p H', Same H H' → FzT K H' p (cutV xs lo hi) → Q (.ref p) H'
theorem sl_tupZ : SlR X (rSlZ X.K) := by
  intro pins s σ H x v vl vu lo hi sl Q I rx hs pl pu h
  obtain ⟨a, xs, rfl, ⟨hx, fx⟩, q⟩ := h
  cases rx
  obtain ⟨its, r, ht, hz⟩ := I.tuple hx
  have el : its.toArray.size = xs.length := by
    rw [List.size_toArray]
    exact r.length.symm
  refine ⟨"tuple", _, PyProof.Rows.slot_tuple_getitem.lookup, ht.typeIs, ?_⟩
  by_cases hw : HT.sIx xs.length 0 lo = 0 ∧ HT.sIx xs.length xs.length hi = xs.length
  · refine getItem_tuple_whole ht hs pl pu (by rw [el]; exact hw) ⟨.ref a, H, I, rfl, q a H (Same.refl H) ?_⟩
    have e : cutV xs lo hi = xs := by
      unfold cutV
      rw [hw.1, hw.2]
      simp
    rw [e]
    exact ⟨hx, fx⟩
  · refine HT.getItem_tuple_cut ht hs pl pu (by rw [el]; exact hw) ?_ (by rw [el]; exact hz)
    rw [el]
    have n0 : H s.heap.objs.size = none := I.hok.fresh (Nat.le_refl _)
    have rv := (r.drop (HT.sIx xs.length 0 lo)).take (HT.sIx xs.length xs.length hi - HT.sIx xs.length 0 lo)
    refine ⟨.ref s.heap.objs.size, _, I.laid (t' := s.toks) (o := .frz { cls := .type "tuple", data := .seq (List.take (HT.sIx xs.length xs.length hi - HT.sIx xs.length 0 lo) (List.drop (HT.sIx xs.length 0 lo) its.toArray.toList)).toArray } (.tup (cutV xs lo hi))) (fun b ob q => Heap.get?_push_of_some _ q) (Nat.le_refl _) ?_, rfl, q _ _ (same_new n0) (.of ⟨_, upd_same, ?_, ?_⟩)⟩
    · exact ⟨Heap.get?_push_size _ rfl, Nat.le_trans (cutV_length xs lo hi) hz, _, rv, IsTup.new _ _⟩
    · rfl
    · rfl
/-- tuple(r), r a range -/
theorem call_tupleRng (hc : X.calm = true) : CallR X (.type "tuple") (fun xs H Q => ∃ r lo hi, xs = [.ref r] ∧ H r = some (.rng lo hi) ∧ RgOk lo hi ∧ ∀ p H', H p = none → Same H H' → TupF H' p (rgV lo hi) → Q (.ref p) H') := by
  intro pins s σ H xs us Q I rv h
  obtain ⟨r, lo, hi, rfl, hr, ⟨b1, b2, b3, b4, b5⟩, q⟩ := h
  obtain ⟨u, rfl, ru⟩ := vals1 rv
  cases ru
  obtain ⟨t, u, v, eo⟩ := I.hok r _ hr
  refine call_tuple_range (n := (hi - lo).toNat) (I.ok.hd hc) (a := lo) (b := hi) (c := 1) (t := t) (u := u) (v := v) (by first | exact eo | exact ⟨_, eo, rfl, rfl⟩) (small_one b1 b2 b3 b4) (rangeSize_nat lo hi) b5 fun g tk acc kp hi' => ?_
  have J : Inv X pins σ H { s with heap := g, toks := tk } := I.kept kp
  have n0 : H g.objs.size = none := J.hok.fresh (Nat.le_refl _)
  refine ⟨.ref g.objs.size, _, J.laid (t' := tk) (o := .frz { cls := .type "tuple", data := .seq acc } (.tup (rgV lo hi))) (fun c o e => Heap.get?_push_of_some _ e) (Nat.le_refl _) ?_, rfl, q _ _ n0 (same_new n0) ⟨_, upd_same, rfl, rfl⟩⟩
  refine ⟨Heap.get?_push_size _ rfl, by rw [rgV_length, sizeLine_eq]; omega, acc.toList, vals_rg hi', ?_⟩
  rw [Array.toArray_toList]
  exact IsTup.new _ _
end
/-! ### sorted(d), d's keys ints, any number of them -/
section
variable {X : Cx}
theorem call_sortedDA (cl : X.calm = true) : CallR X (.builtin "sorted") (fun xs H Q => ∃ (a : Addr) (kvs : List (Key × V)) (ks : List Int), xs = [.ref a] ∧ Rd H a (.dK kvs) ∧ kvs.map (·.1) = ks.map Sum.inl ∧ ∀ (ys : List Int) (p : Addr), ys.Perm ks → ys.Pairwise (· ≤ ·) → H p = none → Q (.ref p) (upd H p (.lst (ys.map V.int)))) := by
  intro pins s σ H xs us Q I r ⟨a, kvs, ks, ex, hd, hks, q⟩
  subst ex
  obtain ⟨u, rfl, rx⟩ := vals1 r
  cases rx
  obtain ⟨zl, lo, vs, rel, dd⟩ := dk_rd I.hok hd
  obtain ⟨ep, ha⟩ := dd.dictAt
  have kk : vs.map (·.1) = ks.map Sum.inl := rel.keys.symm.trans hks
  have nl : vs.length = ks.length := by simpa using congrArg List.length kk
  have nl2 : kvs.length = ks.length := by simpa using congrArg List.length hks
  have hs16 : vs.length ≤ sizeLine := by omega
  refine Calls.call_function_entry PyProof.Rows.kind_sorted PyProof.Rows.plain_sorted PyProof.Rows.entry_sorted (PyProof.Rows.args_sorted1 _) ?_
  unfold Builtin.«sorted»
  refine wpAny_bind (m := checkCount "sorted" 1 1 _) (wpAny_pure ?_)
  refine wpAny_bind (PySem.W.kdu_collect (A := X.A.in1) (PySem.W.kdl_dict (knd := mixKind X.prog X.w) (kvs := vs) (ep := ep) lo) (I.ok.hd cl) ha hs16 fun g tk acc kp got => ?_)
  have al : acc.toList.length = ks.length := by
    rw [Array.length_toList, got.1, nl]
  have are : IntsAre acc.toList ks := by
    refine ints_each al fun j v e => ?_
    obtain ⟨k, x, e1, e2⟩ := got.2 j v (by rw [← Array.getElem?_toList]; exact e)
    have e3 : (ks.map (Sum.inl : Int → Key))[j]? = some k := by
      rw [← kk, List.getElem?_map, e1]
      rfl
    rw [List.getElem?_map] at e3
    obtain ⟨y, e4, e5⟩ := Option.map_eq_some_iff.mp e3
    subst e5
    rcases keyIs_shape (show keyIs (Sum.inl y) v = true from e2) with ⟨i, t, ek, ev⟩ | ⟨z, t, ek, ev⟩
    · cases ek
      exact ⟨y, t, e4, ev⟩
    · cases ek
  have J : Inv X pins σ H { s with heap := g, toks := tk } := I.kept kp
  refine wpAny_bind (wpAny_newList ?_ (by rw [al]; omega))
  have at_ : (g.push (seqObj "list" acc.toList.toArray 0)).get? g.objs.size = some (seqObj "list" acc.toList.toArray 0) := Heap.get?_push_size _ rfl
  show wpAny _ _ _ _ _ { s with heap := g.push (seqObj "list" acc.toList.toArray 0), toks := tk }
  refine wpAny_bind (wpAny_holding (wpAny_call_entry PyProof.Rows.slot_list_sort ⟨_, at_, rfl⟩ PyProof.Rows.entry_list_sort
    (SrtO.list_sort_ord SrtO.swo_int at_ (by rw [al]; omega) (fun h2 => SrtO.ints_sortable are h2) fun out h1 h2 => ⟨.none, rfl, ?_⟩) (PyProof.Rows.args_list_sort _)))
  obtain ⟨k1, k2, k3⟩ := SrtO.ints_out are h1 h2
  obtain ⟨e2, he2⟩ := PyProof.Rows.sortedHeap_at (vs := acc.toList) (out := out.toArray) at_
  refine wpAny_pure ⟨_, rfl, .ref g.objs.size, upd H g.objs.size (.lst ((out.map SrtO.iv).map V.int)), J.laid (t' := tk) (fun b u e => ?_) (Nat.le_refl _) ?_, rfl, q _ _ k2 k3 (J.hok.fresh (Nat.le_refl _))⟩
  · have lt : b < g.objs.size := Heap.lt_size e
    rw [PyProof.Rows.sortedHeap_old (Nat.ne_of_lt lt) (by rw [size_push']; exact Nat.lt_succ_of_lt lt)]
    exact Heap.get?_push_of_some _ e
  · exact ⟨by rw [List.length_map, k2.length_eq]; omega, out, e2, vals_of_ints k1, he2⟩
end
/-! ### schedules -/
/-- a pair of ints -/
noncomputable def PrAt (K : PySem.W.Frag) (H : Hp) (y : V) (p : Int × Int) : Prop := ∃ t : Addr, y = .ref t ∧ SqT K H t [.int p.1, .int p.2]
theorem PrAt.same {K : PySem.W.Frag} {H H' : Hp} {y : V} {p : Int × Int} (e : Same H H') (h : PrAt K H y p) : PrAt K H' y p := by
  obtain ⟨t, rfl, h⟩ := h
  exact ⟨t, rfl, same_sqt e h⟩
noncomputable abbrev PrsAt (K : PySem.W.Frag) (H : Hp) (ys : List V) (ps : List (Int × Int)) : Prop := AllAt (PrAt K) H ys ps
theorem PrsAt.same {K : PySem.W.Frag} {H H' : Hp} {ys : List V} {ps : List (Int × Int)} (e : Same H H') (h : PrsAt K H ys ps) : PrsAt K H' ys ps := AllAt.same (R := PrAt K) (fun e r => PrAt.same e r) e h
/-- the pairs that tell something new -/
noncomputable def pk : Int → List (Int × Int) → List (Int × Int)
  | _, [] => []
  | a, (k, x) :: r => if x = a then pk a r else (k, x) :: pk x r
/-- the amount of a round -/
noncomputable def atM (n : Int) : Int → List (Int × Int) → Int
  | f, [] => f
  | f, (s, x) :: r => if n < s then f else atM n x r
noncomputable def SchAt (K : PySem.W.Frag) (H : Hp) (a : Addr) (ps : List (Int × Int)) : Prop := ∃ ys, SqT K H a ys ∧ PrsAt K H ys ps
theorem SchAt.same {K : PySem.W.Frag} {H H' : Hp} {a : Addr} {ps : List (Int × Int)} (e : Same H H') (h : SchAt K H a ps) : SchAt K H' a ps := by
  obtain ⟨ys, h1, h2⟩ := h
  exact ⟨ys, same_sqt e h1, PrsAt.same e h2⟩
noncomputable def sp_packed (K : PySem.W.Frag) : Sp := fun vs H Q _ => ∃ (a : Addr) (ys : List V) (ps : List (Int × Int)), vs = [.ref a] ∧ SqL K H a ys ∧ PrsAt K H ys ps ∧ ps.length ≤ 1000 ∧ ∀ p H', Same H H' → H p = none → SchAt K H' p (pk 0 ps) → Q (.ref p) H'
theorem pk_step {ps : List (Int × Int)} {i : Nat} {k x : Int} (h : ps[i]? = some (k, x)) (b : Int) : pk b (ps.drop i) = if x = b then pk b (ps.drop (i + 1)) else (k, x) :: pk x (ps.drop (i + 1)) := by
  obtain ⟨h1, h2⟩ := List.getElem?_eq_some_iff.mp h
  rw [List.drop_eq_getElem_cons h1]
  rw [h2]
  rfl
noncomputable def enm (k : Int) : List Int → List (Int × Int)
  | [] => []
  | x :: r => (k, x) :: enm (k + 1) r
/-! the data of a schedule -/
noncomputable def prD (p : Int × Int) : PyData := .tuple [.int p.1, .int p.2]
noncomputable def schD (ps : List (Int × Int)) : PyData := .tuple (ps.map prD)
theorem dp_prs {K : PySem.W.Frag} {H : Hp} : ∀ {ys : List V} {ps : List (Int × Int)}, ys.length = ps.length → (∀ (i : Nat) p, ps[i]? = some p → ∃ y, ys[i]? = some y ∧ PrAt K H y p) → DpAll K H ys (ps.map prD)
  | [], [], _, _ => .nil
  | [], _ :: _, h, _ => by simp at h
  | _ :: _, [], h, _ => by simp at h
  | y :: ys, p :: ps, h, g => by
    obtain ⟨z, hz, t, rfl, ht⟩ := g 0 p rfl
    cases Option.some.inj hz
    exact .cons (.tup ht (.cons (.int _) (.cons (.int _) .nil))) (dp_prs (Nat.succ.inj h) fun i q hq => g (i + 1) q hq)
theorem dp_sch {K : PySem.W.Frag} {H : Hp} {a : Addr} {ps : List (Int × Int)} (h : SchAt K H a ps) : Dp K H (.ref a) (schD ps) := by
  obtain ⟨ys, h1, h2⟩ := h
  exact .tup h1 (dp_prs h2.1 h2.2)
theorem dp_lst {K : PySem.W.Frag} {H : Hp} {p : Addr} {ns : List Int} (h : SqL K H p (ns.map V.int)) : Dp K H (.ref p) (.list (ns.map PyData.int)) := .lst h (DpAll.ints ns)
theorem lay_prs : ∀ ps : List (Int × Int), PyData.canLayAll0 (ps.map prD) = true
  | [] => rfl
  | p :: r => by simp [prD, PyData.canLayAll0, PyData.canLay0, lay_prs r]
theorem dep_prs : ∀ ps : List (Int × Int), PyData.depthAll (ps.map prD) ≤ 1
  | [] => by simp [PyData.depthAll]
  | p :: r => by
    have := dep_prs r
    simp [prD, PyData.depthAll, PyData.depth]
    omega
theorem shaped_sch (ps : List (Int × Int)) : SeqAt.shaped (schD ps) = true := by
  have := dep_prs ps
  simp [schD, SeqAt.shaped, PyData.canLay0, PyData.depth, lay_prs]
  omega
theorem eqv_prs : ∀ xs ys : List (Int × Int), PyData.eqvAll (xs.map prD) (ys.map prD) = decide (xs = ys)
  | [], [] => by simp [PyData.eqvAll]
  | [], _ :: _ => by simp [PyData.eqvAll]
  | _ :: _, [] => by simp [PyData.eqvAll]
  | (a, b) :: r, (c, d) :: t => by
    have e := eqv_prs r t
    have e0 : PyData.eqvAll (((a, b) :: r).map prD) (((c, d) :: t).map prD) = (PyData.eqv (prD (a, b)) (prD (c, d)) && PyData.eqvAll (r.map prD) (t.map prD)) := by simp [PyData.eqvAll]
    rw [e0, e, Bool.eq_iff_iff]
    simp [prD, PyData.eqvAll, PyData.eqv]
theorem eqv_sch (xs ys : List (Int × Int)) : PyData.eqv (schD xs) (schD ys) = decide (xs = ys) := by
  rw [← eqv_prs]
  simp [schD, PyData.eqv]
/-! ### schedules by what they tell -/
noncomputable def Norm : Int → Int → List (Int × Int) → Prop
  | _, _, [] => True
  | b, lo, (k, x) :: r => lo ≤ k ∧ k ≤ 200 ∧ x ≠ b ∧ Norm x (k + 1) r
noncomputable def Asc : Int → List (Int × Int) → Prop
  | _, [] => True
  | lo, (k, _) :: r => lo ≤ k ∧ k ≤ 200 ∧ Asc (k + 1) r
theorem Norm.lower : ∀ {l : List (Int × Int)} {b lo lo' : Int}, Norm b lo l → lo' ≤ lo → Norm b lo' l
  | [], _, _, _, _, _ => True.intro
  | (k, x) :: r, _, _, _, ⟨h1, h2, h3, h4⟩, h => ⟨by omega, h2, h3, h4⟩
theorem Norm.asc : ∀ {l : List (Int × Int)} {b lo : Int}, Norm b lo l → Asc lo l
  | [], _, _, _ => True.intro
  | (k, x) :: r, _, _, ⟨h1, h2, _, h4⟩ => ⟨h1, h2, h4.asc⟩
theorem Asc.len : ∀ {l : List (Int × Int)} {lo : Int}, Asc lo l → lo ≤ 201 → (l.length : Int) ≤ 201 - lo
  | [], lo, _, h => by
    show ((0 : Nat) : Int) ≤ _
    omega
  | (k, x) :: r, lo, ⟨h1, h2, h3⟩, h => by
    have := Asc.len h3 (by omega)
    rw [List.length_cons]
    omega
theorem pk_norm : ∀ {l : List (Int × Int)} {b lo : Int}, Asc lo l → Norm b lo (pk b l)
  | [], _, _, _ => True.intro
  | (k, x) :: r, b, lo, ⟨h1, h2, h3⟩ => by
    show Norm b lo (if x = b then pk b r else (k, x) :: pk x r)
    split
    · exact (pk_norm h3).lower (by omega)
    · rename_i c
      exact ⟨h1, h2, c, pk_norm h3⟩
theorem atM_below : ∀ {l : List (Int × Int)} {lo n f : Int}, Asc lo l → n < lo → atM n f l = f
  | [], _, _, _, _, _ => rfl
  | (k, x) :: r, lo, n, f, ⟨h1, _, _⟩, h => by
    show (if n < k then f else _) = f
    rw [if_pos (by omega)]
theorem pk_atM : ∀ {l : List (Int × Int)} {b lo : Int} (n : Int), Asc lo l → atM n b (pk b l) = atM n b l
  | [], _, _, _, _ => rfl
  | (k, x) :: r, b, lo, n, ⟨h1, h2, h3⟩ => by
    show atM n b (if x = b then pk b r else (k, x) :: pk x r) = if n < k then b else atM n x r
    split
    · rename_i c
      subst c
      rw [pk_atM n h3]
      split
      · exact atM_below h3 (by omega)
      · rfl
    · show (if n < k then b else atM n x (pk x r)) = _
      rw [pk_atM n h3]
theorem norm_uniq : ∀ {l m : List (Int × Int)} {b lo : Int}, Norm b lo l → Norm b lo m → (∀ n, lo ≤ n → n ≤ 200 → atM n b l = atM n b m) → l = m
  | [], [], _, _, _, _, _ => rfl
  | [], (k, x) :: r, b, lo, _, ⟨h1, h2, h3, h4⟩, h => by
    have := h k h1 h2
    rw [show atM k b ((k, x) :: r) = if k < k then b else atM k x r from rfl, if_neg (by omega), atM_below h4.asc (by omega)] at this
    exact absurd this.symm h3
  | (k, x) :: r, [], b, lo, ⟨h1, h2, h3, h4⟩, _, h => by
    have := h k h1 h2
    rw [show atM k b ((k, x) :: r) = if k < k then b else atM k x r from rfl, if_neg (by omega), atM_below h4.asc (by omega)] at this
    exact absurd this h3
  | (k, x) :: r, (j, y) :: t, b, lo, ⟨h1, h2, h3, h4⟩, ⟨g1, g2, g3, g4⟩, h => by
    have e1 : ∀ n, atM n b ((k, x) :: r) = if n < k then b else atM n x r := fun _ => rfl
    have e2 : ∀ n, atM n b ((j, y) :: t) = if n < j then b else atM n y t := fun _ => rfl
    have ek := h k h1 h2
    have ej := h j g1 g2
    rw [e1, e2, if_neg (by omega), atM_below h4.asc (by omega)] at ek
    rw [e1, e2, if_neg (show ¬ j < j by omega), atM_below g4.asc (by omega)] at ej
    have hkj : k = j := by
      by_cases c : k < j
      · rw [if_pos c] at ek
        exact absurd ek h3
      · by_cases d : j < k
        · rw [if_pos d] at ej
          exact absurd ej.symm g3
        · omega
    subst hkj
    rw [if_neg (by omega), atM_below g4.asc (by omega)] at ek
    subst ek
    rw [norm_uniq h4 g4 fun n n1 n2 => ?_]
    have := h n (by omega) n2
    rw [e1, e2, if_neg (by omega), if_neg (by omega)] at this
    exact this
theorem enm_asc : ∀ (xs : List Int) (k : Int), k + (xs.length : Int) ≤ 201 → Asc k (enm k xs)
  | [], _, _ => True.intro
  | x :: r, k, h => by
    rw [List.length_cons] at h
    exact ⟨Int.le_refl _, by omega, enm_asc r (k + 1) (by omega)⟩
theorem enm_at : ∀ (xs : List Int) (k f : Int) (i : Nat) (x : Int), xs[i]? = some x → atM (k + (i : Int)) f (enm k xs) = x
  | [], _, _, _, _, h => by simp at h
  | y :: r, k, f, 0, x, h => by
    cases Option.some.inj h
    rw [show k + ((0 : Nat) : Int) = k by omega]
    show (if k < k then f else atM k y (enm (k + 1) r)) = y
    rw [if_neg (by omega)]
    cases r with
    | nil => rfl
    | cons z r =>
      show (if k < k + 1 then y else _) = y
      rw [if_pos (by omega)]
  | y :: r, k, f, i + 1, x, h => by
    have h : r[i]? = some x := h
    show (if k + ((i + 1 : Nat) : Int) < k then f else atM (k + ((i + 1 : Nat) : Int)) y (enm (k + 1) r)) = x
    rw [if_neg (by omega), show k + ((i + 1 : Nat) : Int) = (k + 1) + (i : Int) by omega]
    exact enm_at r (k + 1) y i x h
/-- the schedule of a row of 201 amounts -/
noncomputable def sch (f : Nat → Int) : List (Int × Int) := pk 0 (enm 0 ((List.range 201).map f))
theorem sch_norm (f : Nat → Int) : Norm 0 0 (sch f) := pk_norm (enm_asc _ _ (by rw [List.length_map, List.length_range]; decide))
theorem sch_at (f : Nat → Int) {n : Nat} (h : n ≤ 200) : atM (n : Int) 0 (sch f) = f n := by
  unfold sch
  rw [pk_atM (lo := 0) _ (enm_asc _ _ (by rw [List.length_map, List.length_range]; decide))]
  have := enm_at ((List.range 201).map f) 0 0 n (f n) (by rw [List.getElem?_map, List.getElem?_range (by omega)]; rfl)
  rw [Int.zero_add] at this
  exact this
theorem sch_of {l : List (Int × Int)} {f : Nat → Int} (h : Norm 0 0 l) (g : ∀ n : Nat, n ≤ 200 → atM (n : Int) 0 l = f n) : l = sch f := by
  refine norm_uniq h (sch_norm f) fun n n1 n2 => ?_
  obtain ⟨m, rfl⟩ : ∃ m : Nat, n = (m : Int) := ⟨n.toNat, by omega⟩
  rw [g m (by omega), sch_at f (by omega)]
theorem sch_pk {l : List (Int × Int)} {f : Nat → Int} (h : Asc 0 l) (g : ∀ n : Nat, n ≤ 200 → atM (n : Int) 0 l = f n) : pk 0 l = sch f :=
  sch_of (pk_norm h) fun n hn => by rw [pk_atM _ h, g n hn]
theorem sch_zero : sch (fun _ => 0) = [] := (sch_of (l := []) True.intro fun _ _ => rfl).symm
/-! what lies behind a step -/
/-- the steps of a schedule's parts -/
noncomputable def stp (p : Int → Int) : Int → List (Int × Int) → List (Int × Int)
  | _, [] => []
  | a, (k, x) :: r => (k + 1, p x - a) :: stp p (p x) r
/-- how much steps up to a round come to -/
noncomputable def tot (r : Int) : List (Int × Int) → Int
  | [] => 0
  | (k, d) :: t => (if k ≤ r then d else 0) + tot r t
theorem stp_above : ∀ {l : List (Int × Int)} {p : Int → Int} {a lo r : Int}, Asc lo l → r ≤ lo → tot r (stp p a l) = 0
  | [], _, _, _, _, _, _ => rfl
  | (k, x) :: t, p, a, lo, r, ⟨h1, h2, h3⟩, h => by
    show (if k + 1 ≤ r then p x - a else 0) + tot r (stp p (p x) t) = 0
    rw [if_neg (by omega), stp_above h3 (by omega)]
    rfl
theorem stp_tot : ∀ {l : List (Int × Int)} {p : Int → Int} {b lo : Int} (r : Int), Asc lo l → tot r (stp p (p b) l) = p (atM (r - 1) b l) - p b
  | [], p, b, _, _, _ => by
    show (0 : Int) = p b - p b
    omega
  | (k, x) :: t, p, b, lo, r, ⟨h1, h2, h3⟩ => by
    show (if k + 1 ≤ r then p x - p b else 0) + tot r (stp p (p x) t) = p (if r - 1 < k then b else atM (r - 1) x t) - p b
    by_cases c : k + 1 ≤ r
    · rw [if_pos c, if_neg (by omega), stp_tot r h3]
      omega
    · rw [if_neg c, if_pos (by omega), stp_above h3 (by omega)]
      omega
/-! ### tables -/
section
variable {κ α : Type} [DecidableEq κ]
noncomputable def getL : List (κ × α) → κ → Option α
  | [], _ => none
  | (k, a) :: r, j => if k = j then some a else getL r j
noncomputable def putL : List (κ × α) → κ → α → List (κ × α)
  | [], k, a => [(k, a)]
  | (j, b) :: r, k, a => if j = k then (j, a) :: r else (j, b) :: putL r k a
theorem getL_putL (k : κ) (a : α) (j : κ) : ∀ L : List (κ × α), getL (putL L k a) j = if k = j then some a else getL L j
  | [] => rfl
  | (i, b) :: r => by
    unfold putL
    by_cases c : i = k
    · subst c
      rw [if_pos rfl]
      show (if i = j then some a else getL r j) = if i = j then some a else if i = j then some b else getL r j
      by_cases d : i = j
      · rw [if_pos d, if_pos d]
      · rw [if_neg d, if_neg d, if_neg d]
    · rw [if_neg c]
      show (if i = j then some b else getL (putL r k a) j) = if k = j then some a else if i = j then some b else getL r j
      rw [getL_putL k a j r]
      by_cases d : i = j
      · subst d
        rw [if_pos rfl, if_pos rfl, if_neg (Ne.symm c)]
      · rw [if_neg d, if_neg d]
theorem getL_mem : ∀ {L : List (κ × α)} {k : κ} {a : α}, getL L k = some a → (k, a) ∈ L
  | [], _, _, h => by cases h
  | (i, b) :: r, k, a, h => by
    have h : (if i = k then some b else getL r k) = some a := h
    by_cases c : i = k
    · subst c
      rw [if_pos rfl] at h
      cases h
      exact List.mem_cons_self
    · rw [if_neg c] at h
      exact List.mem_cons_of_mem _ (getL_mem h)
theorem putL_mem : ∀ {L : List (κ × α)} {k : κ} {a : α} {p : κ × α}, p ∈ putL L k a → p ∈ L ∨ p = (k, a)
  | [], _, _, _, h => .inr (List.mem_singleton.mp h)
  | (i, b) :: r, k, a, p, h => by
    unfold putL at h
    split at h
    · rename_i c
      rcases List.mem_cons.mp h with h | h
      · exact .inr (by rw [h, c])
      · exact .inl (List.mem_cons_of_mem _ h)
    · rcases List.mem_cons.mp h with h | h
      · exact .inl (by rw [h]; exact List.mem_cons_self)
      · exact (putL_mem h).imp (List.mem_cons_of_mem _) id
theorem putL_keys : ∀ {L : List (κ × α)} {k : κ} {a : α}, (putL L k a).map (·.1) = if k ∈ L.map (·.1) then L.map (·.1) else L.map (·.1) ++ [k]
  | [], _, _ => by simp [putL]
  | (i, b) :: r, k, a => by
    unfold putL
    by_cases c : i = k
    · rw [if_pos c, if_pos (by simp [c])]
      rfl
    · rw [if_neg c, List.map_cons, putL_keys]
      by_cases d : k ∈ r.map (·.1)
      · rw [if_pos d, if_pos (by simp [d])]
        rfl
      · rw [if_neg d, if_neg (by simpa [Ne.symm c] using d)]
        rfl
theorem putL_nodup {L : List (κ × α)} {k : κ} {a : α} (h : (L.map (·.1)).Nodup) : ((putL L k a).map (·.1)).Nodup := by
  rw [putL_keys]
  split
  · exact h
  · rename_i c
    rw [List.nodup_append]
    exact ⟨h, by simp, fun x hx y hy e => c (by rw [List.mem_singleton.mp hy] at e; rw [← e]; exact hx)⟩
theorem putL_len (L : List (κ × α)) (k : κ) (a : α) : (putL L k a).length ≤ L.length + 1 := by
  have := congrArg List.length (putL_keys (L := L) (k := k) (a := a))
  rw [List.length_map] at this
  split at this
  · rw [List.length_map] at this
    omega
  · rw [List.length_append, List.length_map] at this
    exact Nat.le_of_eq this
/-- what stands in a dict whose keys are tuples -/
noncomputable def Kv (kf : κ → List Key) (R : Hp → V → α → Prop) (H : Hp) (kvs : List (List Key × V)) (L : List (κ × α)) : Prop := Paired (fun (p : List Key × V) (q : κ × α) => p.1 = kf q.1 ∧ R H p.2 q.2) kvs L
variable {kf : κ → List Key} {R : Hp → V → α → Prop}
theorem Kv.len {H : Hp} {kvs : List (List Key × V)} {L : List (κ × α)} (h : Kv kf R H kvs L) : kvs.length = L.length := Paired.length h
theorem Kv.imp {H H' : Hp} {kvs : List (List Key × V)} {L : List (κ × α)} (m : ∀ v a, R H v a → R H' v a) (h : Kv kf R H kvs L) : Kv kf R H' kvs L := Paired.mapP h fun _ _ z => ⟨z.1, m _ _ z.2⟩
theorem Kv.get (inj : ∀ i j : κ, kf i = kf j → i = j) (k : κ) {H : Hp} : ∀ {kvs : List (List Key × V)} {L : List (κ × α)}, Kv kf R H kvs L → (getL L k = none ∧ valV kvs (kf k) = none) ∨ ∃ a v, getL L k = some a ∧ valV kvs (kf k) = some v ∧ R H v a
  | _, _, .nil => .inl ⟨rfl, rfl⟩
  | p :: kvs, (j, a) :: L, .cons ⟨h1, h2⟩ t => by
    by_cases c : j = k
    · subst c
      exact .inr ⟨a, p.2, if_pos rfl, valV_pos h1, h2⟩
    · have e1 : getL ((j, a) :: L) k = getL L k := if_neg c
      have e2 : valV (p :: kvs) (kf k) = valV kvs (kf k) := valV_neg fun z => c (inj _ _ (by rw [← h1, z]))
      rw [e1, e2]
      exact Kv.get inj k t
theorem Kv.put (inj : ∀ i j : κ, kf i = kf j → i = j) {k : κ} {a : α} {v : V} {H : Hp} (r : R H v a) : ∀ {kvs : List (List Key × V)} {L : List (κ × α)}, (L.map (·.1)).Nodup → Kv kf R H kvs L → Kv kf R H (putK kvs (kf k) v) (putL L k a)
  | _, _, _, .nil => .cons ⟨rfl, r⟩ .nil
  | p :: kvs, (j, b) :: L, nd, .cons ⟨h1, h2⟩ t => by
    have nd2 := List.nodup_cons.mp nd
    have ih := Kv.put (k := k) inj r nd2.2 t
    unfold putL
    by_cases c : j = k
    · subst c
      rw [if_pos rfl]
      have e : putK (p :: kvs) (kf j) v = (kf j, v) :: kvs := by
        unfold putK
        rw [if_pos (by rw [List.any_cons, h1]; simp), List.map_cons, if_pos h1, h1]
        congr 1
        have nk : valV kvs (kf j) = none := by
          rcases Kv.get inj j t with ⟨_, q⟩ | ⟨a, v, q, _⟩
          · exact q
          · exact absurd (List.mem_map.mpr ⟨_, getL_mem q, rfl⟩) nd2.1
        have : ∀ q ∈ kvs, ¬ q.1 = kf j := fun q hq e => valV_not nk (List.mem_map.mpr ⟨q, hq, e⟩)
        rw [show kvs = kvs.map id by simp]
        rw [List.map_map]
        refine List.map_congr_left fun q hq => ?_
        show (if q.1 = kf j then (q.1, v) else q) = q
        rw [if_neg (this q hq)]
      rw [e]
      exact .cons ⟨rfl, r⟩ t
    · rw [if_neg c]
      have nk : ¬ p.1 = kf k := fun z => c (inj _ _ (by rw [← h1, z]))
      have e : putK (p :: kvs) (kf k) v = p :: putK kvs (kf k) v := by
        unfold putK
        rw [List.any_cons, decide_eq_false nk, Bool.false_or]
        split
        · rw [List.map_cons, if_neg nk]
        · rfl
      rw [e]
      exact .cons ⟨h1, h2⟩ ih
theorem Kv.nodup (inj : ∀ i j : κ, kf i = kf j → i = j) {H : Hp} {kvs : List (List Key × V)} {L : List (κ × α)} (h : Kv kf R H kvs L) (nd : (L.map (·.1)).Nodup) : (kvs.map (·.1)).Nodup := by
  have e : kvs.map (·.1) = (L.map (·.1)).map kf := by
    induction h with
    | nil => rfl
    | cons h1 _ ih =>
      rw [List.map_cons, List.map_cons, List.map_cons, h1.1, ih (List.nodup_cons.mp nd).2]
  rw [e]
  exact nd.map (f := kf) (fun a b h z => h (inj _ _ z))
end
/-! ### tuple.index of ints; two clauses -/
section
variable {X : Cx}
theorem mt_tup_indexI : MtR X "tuple.index" (fun x xs H Q => ∃ (p : Addr) (ns : List Int) (n : Int) (j : Nat), x = .ref p ∧ xs = [.int n] ∧ SqT X.K H p (ns.map V.int) ∧ ns[j]? = some n ∧ (∀ m, m < j → ns[m]? ≠ some n) ∧ Q (.int (j : Nat)) H) := by
  rintro pins s σ H x xs v us Q I rx rs ⟨p, ns, i, j, rfl, rfl, hq, hy, hno, q⟩
  cases rx
  obtain ⟨u, rfl, ru⟩ := vals1 rs
  obtain ⟨its, rv, ⟨⟨cls, dd, dt, sl⟩, ho, hc, n, hd⟩, hz⟩ := I.tuple hq
  simp only at hc hd
  subst hc hd
  have fl : (ns.map V.int).all flatV = true := by
    rw [List.all_map]
    exact List.all_eq_true.mpr fun _ _ => rfl
  have at1 : ∀ {m : Nat} {k : Int}, ns[m]? = some k → ∃ w, its[m]? = some w ∧ RelV (.int k) w := fun hm => rv.get (at_map hm)
  obtain ⟨w, hw, rw1⟩ := at1 hy
  obtain ⟨hjl, hje⟩ := List.getElem?_eq_some_iff.mp hw
  have eq1 : ∀ {k : Int} {w : Value}, RelV (.int k) w → eqU (.int i) w = decide (k = i) := fun {k w} hr => by
    rw [eqU_of hr rfl]
    by_cases e : k = i
    · subst e
      simp [eqV]
    · simp [eqV, e]
  refine call_meets PySem.F.slot_tuple_index ⟨_, ho, rfl⟩ PySem.F.entry_tuple_index (PySem.F.args_tuple_index_2 _ _) (TI.tuple_indexAt p its.toArray n dd sl u (eqU (.int i)) j (by simpa using hjl) ?_ ?_)
    ⟨ho, fun z hz => mem_eqAt ru rfl rv fl z (by simpa using hz), ⟨.int (j : Nat), H, I.tok _, ⟨_, rfl⟩, q⟩⟩
  · have e : its.toArray[j]'(by simpa using hjl) = w := by simpa using hje
    rw [e, eq1 rw1, decide_eq_true rfl]
  · intro m hm hmj
    have hml : m < ns.length := by
      have h1 := rv.length
      rw [List.length_map] at h1
      have h2 : m < its.length := by simpa using hm
      omega
    obtain ⟨w2, hw2, r2⟩ := at1 (List.getElem?_eq_getElem hml)
    have e : its.toArray[m]'hm = w2 := by simpa using (List.getElem?_eq_some_iff.mp hw2).2
    rw [e, eq1 r2]
    exact decide_eq_false fun z => hno m hmj (by rw [List.getElem?_eq_getElem hml, z])
end
/-- the outer clause of two -/
theorem lc2_out {J : It} {n : Nat} {G : Hp → Prop} {Y : Nat → Hp → V → Hp → Prop} (w : L2.Walk J n G Y) {g g1 : TG} {tt tt1 : TT} {wi1 : TI} {te : TE} {vs vs1 : List Nat} {σ : L2.St} {H1 : Hp} {D : Addr} {Qd : Hp → Prop} (Pv : Nat → Hp → Prop) (h0 : Pv 0 (upd H1 D (.lst []))) (hG : ∀ i H, i ≤ n → Pv i H → G H)
    (hs : ∀ i x H H', i < n → Pv i H → Y i H x H' → g x (wipe σ vs) H' fun σ2 H2 => wipe σ2 vs = wipe σ vs ∧ tt σ2 H2 fun b H3 =>
      if b = true then wi1 σ2 H3 fun J1 H4 => ∃ W1 : Nat → Nat → Hp → Prop, (∃ m, W1 0 m H4) ∧ ∀ j k H, W1 j k H →
        (J1.stop j H ∧ Pv (i + 1) H) ∨ (J1.go j H ∧ ∃ Nx1 : Hp → Prop, (∀ H', Nx1 H' → ∃ k', k' < k ∧ W1 (j + 1) k' H') ∧ ∀ x H', J1.yld j H x H' → g1 x (wipe σ2 vs1) H' fun σ3 H5 => wipe σ3 vs1 = wipe σ2 vs1 ∧ tt1 σ3 H5 fun b H6 =>
          if b = true then te σ3 H6 fun y H7 => ∃ acc, H7 D = some (.lst acc) ∧ acc.length < sizeLine ∧ Nx1 (upd H7 D (.lst (acc ++ [y]))) else Nx1 H6)
      else Pv (i + 1) H3) (hd : ∀ H, Pv n H → Qd H) :
    ∃ W : Nat → Nat → Hp → Prop, (∃ m, W 0 m (upd H1 D (.lst []))) ∧ ∀ i m H, W i m H →
      (J.stop i H ∧ Qd H) ∨ (J.go i H ∧ ∃ Nx : Hp → Prop, (∀ H', Nx H' → ∃ m', m' < m ∧ W (i + 1) m' H') ∧ ∀ x H', J.yld i H x H' → g x (wipe σ vs) H' fun σ2 H2 => wipe σ2 vs = wipe σ vs ∧ tt σ2 H2 fun b H3 =>
        if b = true then wi1 σ2 H3 fun J1 H4 => ∃ W1 : Nat → Nat → Hp → Prop, (∃ m, W1 0 m H4) ∧ ∀ j k H, W1 j k H →
          (J1.stop j H ∧ Nx H) ∨ (J1.go j H ∧ ∃ Nx1 : Hp → Prop, (∀ H', Nx1 H' → ∃ k', k' < k ∧ W1 (j + 1) k' H') ∧ ∀ x H', J1.yld j H x H' → g1 x (wipe σ2 vs1) H' fun σ3 H5 => wipe σ3 vs1 = wipe σ2 vs1 ∧ tt1 σ3 H5 fun b H6 =>
            if b = true then te σ3 H6 fun y H7 => ∃ acc, H7 D = some (.lst acc) ∧ acc.length < sizeLine ∧ Nx1 (upd H7 D (.lst (acc ++ [y]))) else Nx1 H6)
        else Nx H3) := by
  refine ⟨fun i m H => m = n - i ∧ i ≤ n ∧ Pv i H, ⟨n, by simp, Nat.zero_le _, h0⟩, ?_⟩
  rintro i m H ⟨rfl, hi, p⟩
  have q := hG i H hi p
  by_cases hlt : i < n
  · exact .inr ⟨w.goes i H hlt q, Pv (i + 1), fun H' p' => ⟨n - (i + 1), by omega, rfl, hlt, p'⟩, fun x H' y => hs i x H H' hlt p (w.yields i H x H' hlt q y)⟩
  · have e : i = n := by omega
    subst e
    exact .inl ⟨w.stops H q, hd H p⟩
/-- the inner one -/
theorem lc2_in {J1 : It} {n : Nat} {G : Hp → Prop} {Y : Nat → Hp → V → Hp → Prop} (w : L2.Walk J1 n G Y) {g1 : TG} {tt1 : TT} {te : TE} {vs1 : List Nat} {σ2 : L2.St} {H4 : Hp} {D : Addr} {Qd : Hp → Prop} (Pv : Nat → Hp → Prop) (h0 : Pv 0 H4) (hG : ∀ i H, i ≤ n → Pv i H → G H)
    (hs : ∀ i x H H', i < n → Pv i H → Y i H x H' → g1 x (wipe σ2 vs1) H' fun σ3 H5 => wipe σ3 vs1 = wipe σ2 vs1 ∧ tt1 σ3 H5 fun b H6 =>
      if b = true then te σ3 H6 fun y H7 => ∃ acc, H7 D = some (.lst acc) ∧ acc.length < sizeLine ∧ Pv (i + 1) (upd H7 D (.lst (acc ++ [y]))) else Pv (i + 1) H6) (hd : ∀ H, Pv n H → Qd H) :
    ∃ W1 : Nat → Nat → Hp → Prop, (∃ m, W1 0 m H4) ∧ ∀ j k H, W1 j k H →
      (J1.stop j H ∧ Qd H) ∨ (J1.go j H ∧ ∃ Nx1 : Hp → Prop, (∀ H', Nx1 H' → ∃ k', k' < k ∧ W1 (j + 1) k' H') ∧ ∀ x H', J1.yld j H x H' → g1 x (wipe σ2 vs1) H' fun σ3 H5 => wipe σ3 vs1 = wipe σ2 vs1 ∧ tt1 σ3 H5 fun b H6 =>
        if b = true then te σ3 H6 fun y H7 => ∃ acc, H7 D = some (.lst acc) ∧ acc.length < sizeLine ∧ Nx1 (upd H7 D (.lst (acc ++ [y]))) else Nx1 H6) := by
  refine ⟨fun i m H => m = n - i ∧ i ≤ n ∧ Pv i H, ⟨n, by simp, Nat.zero_le _, h0⟩, ?_⟩
  rintro i m H ⟨rfl, hi, p⟩
  have q := hG i H hi p
  by_cases hlt : i < n
  · exact .inr ⟨w.goes i H hlt q, Pv (i + 1), fun H' p' => ⟨n - (i + 1), by omega, rfl, hlt, p'⟩, fun x H' y => hs i x H H' hlt p (w.yields i H x H' hlt q y)⟩
  · have e : i = n := by omega
    subst e
    exact .inl ⟨w.stops H q, hd H p⟩
theorem pi_listK {X : Cx} {K : PySem.W.Frag} {tg l : Expr} {tl : TE} (h : X.K = K) (hl : PE X l tl) : PI X tg l (iList K tl) := by
  subst h
  exact pi_list hl
theorem pi_tupK {X : Cx} {K : PySem.W.Frag} {tg l : Expr} {tl : TE} (h : X.K = K) (hl : PE X l tl) : PI X tg l (iTup K tl) := by
  subst h
  exact pi_tup hl
theorem op_catAK {X : Cx} {K : PySem.W.Frag} (h : X.K = K) : OpR X (binaryOp .Add) (rCatA K) := by
  subst h
  exact op_catA
theorem op_neDK {X : Cx} {K : PySem.W.Frag} (h : X.K = K) (hu : X.A.units + 64 < cLine) : OpR X (compareOp .NotEq) (rNeD K) := by
  subst h
  exact op_neD hu
/-! ### notices, and what follows from them -/
noncomputable abbrev Sc := List (Int × Int)
/-- recipient, treaty, event, sequence, schedule -/
structure Ntc where
  z : Str
  n : Nat
  e : Str
  q : Int
  s : Sc
/-- a post: its notices, what was sent last, what was received last, what stands for the payments -/
structure Pt where
  nts : List (Option Ntc)
  last : List ((Nat × Str) × (Int × Sc))
  recv : List ((Str × Nat × Str) × (Int × Sc))
  pd : HO
noncomputable def kfL (k : Nat × Str) : List Key := [.inl (k.1 : Int), .inr k.2]
noncomputable def kfR (k : Str × Nat × Str) : List Key := [.inr k.1, .inl (k.2.1 : Int), .inr k.2.2]
theorem kfL_inj : ∀ i j : Nat × Str, kfL i = kfL j → i = j := by
  rintro ⟨n, e⟩ ⟨m, f⟩ h
  have h1 := List.cons.inj h
  have h2 := List.cons.inj h1.2
  have e1 : ((n : Nat) : Int) = ((m : Nat) : Int) := Sum.inl.inj h1.1
  have e2 : e = f := Sum.inr.inj h2.1
  rw [e2, show n = m by omega]
theorem kfR_inj : ∀ i j : Str × Nat × Str, kfR i = kfR j → i = j := by
  rintro ⟨z, n, e⟩ ⟨y, m, f⟩ h
  have h1 := List.cons.inj h
  have h2 := List.cons.inj h1.2
  have h3 := List.cons.inj h2.2
  have e0 : z = y := Sum.inr.inj h1.1
  have e1 : ((n : Nat) : Int) = ((m : Nat) : Int) := Sum.inl.inj h2.1
  have e2 : e = f := Sum.inr.inj h3.1
  rw [e0, e2, show n = m by omega]
noncomputable def lastOf (P : Pt) (n : Nat) (e : Str) : Int × Sc := (getL P.last (n, e)).getD (0, [])
noncomputable def recvOf (P : Pt) (z : Str) (n : Nat) (e : Str) : Int × Sc := (getL P.recv (z, n, e)).getD (0, [])
/-- the numbers of the notices that are left -/
noncomputable def leftF : Nat → List (Option Ntc) → List Int
  | _, [] => []
  | k, none :: r => leftF (k + 1) r
  | k, some _ :: r => (k : Int) :: leftF (k + 1) r
noncomputable def leftOf (P : Pt) : List Int := leftF 1 P.nts
theorem leftF_app : ∀ (a b : List (Option Ntc)) (k : Nat), leftF k (a ++ b) = leftF k a ++ leftF (k + a.length) b
  | [], _, _ => rfl
  | none :: r, b, k => by
    show leftF (k + 1) (r ++ b) = leftF (k + 1) r ++ _
    rw [leftF_app r b (k + 1), List.length_cons, show k + 1 + r.length = k + (r.length + 1) by omega]
  | some c :: r, b, k => by
    show (k : Int) :: leftF (k + 1) (r ++ b) = (k : Int) :: leftF (k + 1) r ++ _
    rw [leftF_app r b (k + 1), List.length_cons, show k + 1 + r.length = k + (r.length + 1) by omega]
    rfl
theorem leftF_some : ∀ (cs : List Ntc) (k : Nat), leftF k (cs.map some) = (List.range cs.length).map fun i : Nat => (k : Int) + (i : Int)
  | [], _ => rfl
  | c :: r, k => by
    show (k : Int) :: leftF (k + 1) (r.map some) = _
    rw [leftF_some r (k + 1), List.length_cons, List.range_succ_eq_map, List.map_cons, List.map_map, show (k : Int) + ((0 : Nat) : Int) = k by omega]
    congr 1
    refine List.map_congr_left fun i _ => ?_
    show ((k + 1 : Nat) : Int) + (i : Int) = (k : Int) + ((i + 1 : Nat) : Int)
    omega
theorem leftF_len : ∀ (l : List (Option Ntc)) (k : Nat), (leftF k l).length ≤ l.length
  | [], _ => Nat.le_refl _
  | none :: r, k => Nat.le_succ_of_le (leftF_len r (k + 1))
  | some c :: r, k => Nat.succ_le_succ (leftF_len r (k + 1))
theorem leftF_mem : ∀ {l : List (Option Ntc)} {k : Nat} {x : Int}, x ∈ leftF k l ↔ ∃ (j : Nat) (c : Ntc), l[j]? = some (some c) ∧ x = (k : Int) + (j : Int)
  | [], _, _ => by simp [leftF]
  | none :: r, k, x => by
    show x ∈ leftF (k + 1) r ↔ _
    rw [leftF_mem]
    constructor
    · rintro ⟨j, c, h, rfl⟩
      exact ⟨j + 1, c, h, by omega⟩
    · rintro ⟨j, c, h, rfl⟩
      cases j with
      | zero => cases h
      | succ j => exact ⟨j, c, h, by omega⟩
  | some d :: r, k, x => by
    show x ∈ (k : Int) :: leftF (k + 1) r ↔ _
    rw [List.mem_cons, leftF_mem]
    constructor
    · rintro (rfl | ⟨j, c, h, rfl⟩)
      · exact ⟨0, d, rfl, by omega⟩
      · exact ⟨j + 1, c, h, by omega⟩
    · rintro ⟨j, c, h, rfl⟩
      cases j with
      | zero => exact .inl (by omega)
      | succ j => exact .inr ⟨j, c, h, by omega⟩
theorem leftF_drop : ∀ {l : List (Option Ntc)} {j : Nat} {c : Ntc} (k : Nat), l[j]? = some (some c) → ∃ i, (leftF k l)[i]? = some ((k : Int) + (j : Int)) ∧ (∀ m, m < i → (leftF k l)[m]? ≠ some ((k : Int) + (j : Int))) ∧ leftF k (l.set j none) = (leftF k l).take i ++ (leftF k l).drop (i + 1)
  | [], _, _, _, h => by cases h
  | none :: r, 0, _, _, h => by cases h
  | some d :: r, 0, c, k, h => ⟨0, by show some (k : Int) = _; rw [show (k : Int) + ((0 : Nat) : Int) = k by omega], fun m hm => absurd hm (Nat.not_lt_zero m), by show leftF (k + 1) r = [] ++ leftF (k + 1) r; rfl⟩
  | none :: r, j + 1, c, k, h => by
    obtain ⟨i, h1, h2, h3⟩ := leftF_drop (l := r) (j := j) (k + 1) h
    have e : ((k + 1 : Nat) : Int) + (j : Int) = (k : Int) + ((j + 1 : Nat) : Int) := by omega
    rw [e] at h1 h2
    exact ⟨i, h1, h2, h3⟩
  | some d :: r, j + 1, c, k, h => by
    obtain ⟨i, h1, h2, h3⟩ := leftF_drop (l := r) (j := j) (k + 1) h
    have e : ((k + 1 : Nat) : Int) + (j : Int) = (k : Int) + ((j + 1 : Nat) : Int) := by omega
    rw [e] at h1 h2
    refine ⟨i + 1, h1, fun m hm => ?_, ?_⟩
    · cases m with
      | zero =>
        intro z
        have z : (k : Int) = (k : Int) + ((j + 1 : Nat) : Int) := Option.some.inj z
        omega
      | succ m => exact h2 m (by omega)
    · show (k : Int) :: leftF (k + 1) (r.set j none) = _
      rw [h3]
      rfl
/-- the numbers of an insurer's own treaties -/
noncomputable def ownN (c : Str) : Nat → List Trt → List Nat
  | _, [] => []
  | k, t :: r => if t.ced = c then k :: ownN c (k + 1) r else ownN c (k + 1) r
theorem ownN_mem {c : Str} : ∀ {ts : List Trt} {k n : Nat}, n ∈ ownN c k ts ↔ ∃ j t, ts[j]? = some t ∧ t.ced = c ∧ n = k + j
  | [], _, _ => by simp [ownN]
  | t :: r, k, n => by
    have ih := ownN_mem (c := c) (ts := r) (k := k + 1) (n := n)
    have key : (∃ j u, r[j]? = some u ∧ u.ced = c ∧ n = k + 1 + j) ↔ ∃ j u, (t :: r)[j + 1]? = some u ∧ u.ced = c ∧ n = k + (j + 1) := by
      constructor
      · rintro ⟨j, u, h1, h2, h3⟩
        exact ⟨j, u, h1, h2, by omega⟩
      · rintro ⟨j, u, h1, h2, h3⟩
        exact ⟨j, u, h1, h2, by omega⟩
    unfold ownN
    split
    · rename_i e
      rw [List.mem_cons, ih, key]
      constructor
      · rintro (rfl | ⟨j, u, h1, h2, h3⟩)
        · exact ⟨0, t, rfl, e, rfl⟩
        · exact ⟨j + 1, u, h1, h2, h3⟩
      · rintro ⟨j, u, h1, h2, h3⟩
        cases j with
        | zero => exact .inl h3
        | succ j => exact .inr ⟨j, u, h1, h2, h3⟩
    · rename_i e
      rw [ih, key]
      constructor
      · rintro ⟨j, u, h1, h2, h3⟩
        exact ⟨j + 1, u, h1, h2, h3⟩
      · rintro ⟨j, u, h1, h2, h3⟩
        cases j with
        | zero =>
          cases h1
          exact absurd h2 e
        | succ j => exact ⟨j, u, h1, h2, h3⟩
theorem ownN_len (c : Str) : ∀ (ts : List Trt) (k : Nat), (ownN c k ts).length ≤ ts.length
  | [], _ => Nat.le_refl _
  | t :: r, k => by
    unfold ownN
    split
    · exact Nat.succ_le_succ (ownN_len c r (k + 1))
    · exact Nat.le_succ_of_le (ownN_len c r (k + 1))
theorem ownN_step {c : Str} {ts : List Trt} {i : Nat} {t : Trt} (h : ts[i]? = some t) : ownN c i (ts.drop i) = (if t.ced = c then [i] else []) ++ ownN c (i + 1) (ts.drop (i + 1)) := by
  obtain ⟨h1, h2⟩ := List.getElem?_eq_some_iff.mp h
  rw [List.drop_eq_getElem_cons h1, h2]
  show (if t.ced = c then i :: ownN c (i + 1) (ts.drop (i + 1)) else _) = _
  split <;> rfl
theorem ownN_nodup (c : Str) : ∀ (ts : List Trt) (k : Nat), (ownN c k ts).Nodup
  | [], _ => List.nodup_nil
  | t :: r, k => by
    unfold ownN
    split
    · refine List.nodup_cons.mpr ⟨fun h => ?_, ownN_nodup c r (k + 1)⟩
      obtain ⟨j, u, _, _, h3⟩ := ownN_mem.mp h
      omega
    · exact ownN_nodup c r (k + 1)
/-- the insurers in a panel -/
noncomputable def insP (ps : List (Option Str × Int)) : List Str := ps.filterMap (·.1)
noncomputable def cap (x : Int) : Int := if 1000000000 < x then 1000000000 else x
/-- an insurer's part in what a treaty pays -/
noncomputable def ptz (t : Trt) (z : Str) (m : Int) : Int := partOf (some z) (t.pan.zip (alloc m (shs t.pan)))
theorem part_zeros (o : Option Str) : ∀ (ps : List (Option Str × Int)) (l : List Int), (∀ x ∈ l, x = 0) → partOf o (ps.zip l) = 0
  | [], _, _ => rfl
  | _ :: _, [], _ => rfl
  | p :: ps, x :: l, h => by
    show (if p.1 = o then x else 0) + partOf o (ps.zip l) = 0
    rw [part_zeros o ps l fun y hy => h y (List.mem_cons_of_mem _ hy), h x List.mem_cons_self]
    split <;> rfl
theorem ptz_zero {t : Trt} (h : PanOk t.pan) (z : Str) : ptz t z 0 = 0 := by
  refine part_zeros _ _ _ fun x hx => ?_
  rw [alloc_zero _ fun y hy => ?_] at hx
  · obtain ⟨_, _, rfl⟩ := List.mem_map.mp hx
    rfl
  · obtain ⟨e, he, rfl⟩ := List.mem_map.mp hy
    exact (h.ent e he).2.1
/-- what an insurer assumes in a round by what it has received -/
noncomputable def asmF (P : Pt) (z e : Str) (r : Int) : Nat → List Trt → Int
  | _, [] => 0
  | n, t :: ts => ptz t z (atM (r - 1) 0 (recvOf P z n e).2) + asmF P z e r (n + 1) ts
noncomputable def estF (M : Mkt) (P : Pt) (e z : Str) (r : Nat) : Int := cap (lossOf M.los e z + asmF P z e (r : Int) 0 M.trs)
noncomputable def est (M : Mkt) (P : Pt) (e z : Str) : Sc := sch (estF M P e z)
/-- what a treaty pays for a gross loss of its cedent -/
noncomputable def payN (ts : List Trt) (c : Str) (n : Nat) (x : Int) : Int := (getL (((actv c 0 ts).map (·.1)).zip (cedeP c ts x).1) n).getD 0
noncomputable def curF (M : Mkt) (P : Pt) (e c : Str) (n r : Nat) : Int := payN M.trs c n (estF M P e c r)
noncomputable def cur (M : Mkt) (P : Pt) (e c : Str) (n : Nat) : Sc := sch (curF M P e c n)
/-- what an insurer has to report -/
noncomputable def chg (M : Mkt) (P : Pt) (c : Str) : List (Nat × Str × Sc) := (ownN c 0 M.trs).flatMap fun n => (M.evs.filter fun e => decide (cur M P e c n ≠ (lastOf P n e).2)).map fun e => (n, e, cur M P e c n)
/-- the notices of what was sent last for treaties and events -/
noncomputable def rowsOf (ts : List Trt) (L : List ((Nat × Str) × (Int × Sc))) (ks : List (Nat × Str)) : List Ntc :=
  ks.flatMap fun k => (insP ((ts.getD k.1 ⟨"", .share 1, [], false⟩).pan)).map fun z => ⟨z, k.1, k.2, ((getL L k).getD (0, [])).1, ((getL L k).getD (0, [])).2⟩
noncomputable def newL (P : Pt) (cs : List (Nat × Str × Sc)) : List ((Nat × Str) × (Int × Sc)) := cs.foldl (fun L c => putL L (c.1, c.2.1) ((lastOf P c.1 c.2.1).1 + 1, c.2.2)) P.last
noncomputable def sendL (M : Mkt) (P : Pt) (c : Str) : List ((Nat × Str) × (Int × Sc)) := newL P (chg M P c)
noncomputable def sendN (M : Mkt) (P : Pt) (c : Str) : List Ntc := rowsOf M.trs (sendL M P c) ((chg M P c).map fun d => (d.1, d.2.1))
noncomputable def enterP (P : Pt) (rs : List Ntc) : Pt := { P with nts := P.nts ++ rs.map some }
noncomputable def sendP (M : Mkt) (P : Pt) (c : Str) : Pt := { enterP P (sendN M P c) with last := sendL M P c }
noncomputable def reKeys (M : Mkt) (P : Pt) (c : Str) : List (Nat × Str) := (ownN c 0 M.trs).flatMap fun n => (M.evs.filter fun e => (getL P.last (n, e)).isSome).map fun e => (n, e)
noncomputable def reN (M : Mkt) (P : Pt) (c : Str) : List Ntc := rowsOf M.trs P.last (reKeys M P c)
noncomputable def ntAt (P : Pt) (x : Int) : Option Ntc := if 1 ≤ x then (P.nts[(x - 1).toNat]?).join else none
noncomputable def dlvP (P : Pt) (c : Ntc) : Pt := if c.q ≤ (recvOf P c.z c.n c.e).1 then P else { P with recv := putL P.recv (c.z, c.n, c.e) (c.q, c.s) }
noncomputable def dropP (P : Pt) (x : Int) : Pt := { P with nts := P.nts.set (x - 1).toNat none }
noncomputable def worth (P : Pt) (c : Ntc) : Bool := decide (c.q = (lastOf P c.n c.e).1) && decide ((recvOf P c.z c.n c.e).1 < c.q)
noncomputable def worthN (P : Pt) : List Int := (leftOf P).filter fun x => match ntAt P x with | some c => worth P c | none => false
noncomputable def pendI (M : Mkt) (P : Pt) : List Str := M.ins.filter fun z => decide (chg M P z ≠ [])
noncomputable def told (M : Mkt) (P : Pt) (n : Nat) : Bool := M.evs.all fun e => (insP ((M.trs.getD n ⟨"", .share 1, [], false⟩).pan)).all fun z => decide ((recvOf P z n e).1 = (lastOf P n e).1)
noncomputable def quiet (M : Mkt) (P : Pt) : Bool := (List.range M.trs.length).all (told M P) && (M.ins.all fun z => decide (chg M P z = []))
/-! ### where they stand -/
noncomputable def SqAt (K : PySem.W.Frag) (H : Hp) (v : V) (a : Int × Sc) : Prop := ∃ t b : Addr, v = .ref t ∧ SqT K H t [.int a.1, .ref b] ∧ SchAt K H b a.2
theorem SqAt.same {K : PySem.W.Frag} {H H' : Hp} {v : V} {a : Int × Sc} (e : Same H H') (h : SqAt K H v a) : SqAt K H' v a :=
  let ⟨t, b, h1, h2, h3⟩ := h; ⟨t, b, h1, same_sqt e h2, h3.same e⟩
noncomputable def NtAt (K : PySem.W.Frag) (H : Hp) (v : V) (o : Option Ntc) : Prop := match o with
  | none => v = .non
  | some c => ∃ t b : Addr, v = .ref t ∧ SqT K H t [.str c.z, .int (c.n : Int), .str c.e, .int c.q, .ref b] ∧ SchAt K H b c.s
theorem NtAt.same {K : PySem.W.Frag} {H H' : Hp} {v : V} {o : Option Ntc} (e : Same H H') (h : NtAt K H v o) : NtAt K H' v o := by
  cases o with
  | none => exact h
  | some c =>
    obtain ⟨t, b, h1, h2, h3⟩ := h
    exact ⟨t, b, h1, same_sqt e h2, h3.same e⟩
/-- what is no tuple may change -/
noncomputable def Tups (H H' : Hp) : Prop := (∀ b xs, H b = some (.tup xs) → H' b = some (.tup xs)) ∧ ∀ b o xs, H b = some (.frz o (.tup xs)) → H' b = some (.frz o (.tup xs))
theorem Tups.sqt {K : PySem.W.Frag} {H H' : Hp} {a : Addr} {xs : List V} (e : Tups H H') (h : SqT K H a xs) : SqT K H' a xs := by
  rcases h with (h | ⟨o, h⟩) | h
  · exact .inl (.inl (e.1 _ _ h))
  · exact .inl (.inr ⟨o, e.2 _ _ _ h⟩)
  · exact .inr h
theorem Tups.sch {K : PySem.W.Frag} {H H' : Hp} {a : Addr} {s : Sc} (e : Tups H H') (h : SchAt K H a s) : SchAt K H' a s := by
  obtain ⟨ys, h1, h2⟩ := h
  refine ⟨ys, e.sqt h1, AllAt.imp (S := PrAt K) h2 fun y l r => ?_⟩
  obtain ⟨t, e1, e2⟩ := r
  exact ⟨t, e1, e.sqt e2⟩
theorem Tups.sq {K : PySem.W.Frag} {H H' : Hp} {v : V} {a : Int × Sc} (e : Tups H H') (h : SqAt K H v a) : SqAt K H' v a :=
  let ⟨t, b, h1, h2, h3⟩ := h; ⟨t, b, h1, e.sqt h2, e.sch h3⟩
theorem Tups.nt {K : PySem.W.Frag} {H H' : Hp} {v : V} {o : Option Ntc} (e : Tups H H') (h : NtAt K H v o) : NtAt K H' v o := by
  cases o with
  | none => exact h
  | some c =>
    obtain ⟨t, b, h1, h2, h3⟩ := h
    exact ⟨t, b, h1, e.sqt h2, e.sch h3⟩
theorem Tups.pan {K : PySem.W.Frag} {H H' : Hp} {v : V} {ps : List (Option Str × Int)} (e : Tups H H') (h : PanAt K H v ps) : PanAt K H' v ps := by
  obtain ⟨a, xs, rfl, hS, hl, hE⟩ := h
  refine ⟨a, xs, rfl, e.sqt hS, hl, fun i y hy => ?_⟩
  obtain ⟨z, f1, b, rfl, f2⟩ := hE i y hy
  exact ⟨_, f1, b, rfl, e.sqt f2⟩
theorem Tups.trs {K : PySem.W.Frag} {H H' : Hp} {a : Addr} {ts : List Trt} (e : Tups H H') (h : TrsAt K H a ts) : TrsAt K H' a ts := by
  obtain ⟨xs, h1, h2⟩ := h
  refine ⟨xs, e.sqt h1, AllAt.imp (S := TrAt K) h2 fun y t r => ?_⟩
  obtain ⟨a1, vc, vp, rfl, g1, g2, g3⟩ := r
  exact ⟨a1, vc, vp, rfl, e.sqt g1, e.sqt g2, e.pan g3⟩
theorem Tups.fz {H H' : Hp} {a : Addr} {xs : List V} (e : Tups H H') (h : Fz H a xs) : Fz H' a xs := h.imp id fun ⟨o, h1, h2⟩ => ⟨o, e.2 _ _ _ h1, h2⟩
theorem Tups.fzt {K : PySem.W.Frag} {H H' : Hp} {a : Addr} {xs : List V} (e : Tups H H') (h : FzT K H a xs) : FzT K H' a xs := ⟨e.sqt h.1, e.fz h.2⟩
theorem Tups.put {H : Hp} {p : Addr} {u o : HO} (h : H p = some u) (n1 : ∀ xs, u ≠ .tup xs) (n2 : ∀ o xs, u ≠ .frz o (.tup xs)) : Tups H (upd H p o) :=
  ⟨fun b xs hb => by rw [upd_ne (fun e => by rw [e, h] at hb; exact n1 xs (Option.some.inj hb))]; exact hb, fun b o xs hb => by rw [upd_ne (fun e => by rw [e, h] at hb; exact n2 o xs (Option.some.inj hb))]; exact hb⟩
theorem bar2_refl {p a : Addr} (H : Hp) : Bar2 p a H H := fun _ _ _ _ h => h
theorem bar2_trans {p a : Addr} {H H1 H2 : Hp} (x : Bar2 p a H H1) (y : Bar2 p a H1 H2) : Bar2 p a H H2 := fun b u n m h => y b u n m (x b u n m h)
theorem bar2_of {p a : Addr} {H H' : Hp} (s : Same H H') : Bar2 p a H H' := fun b u _ _ h => s b u h
theorem bar2_bar {p a : Addr} {H H' : Hp} (s : Bar p H H') : Bar2 p a H H' := fun b u n _ h => s b u n h
theorem bar2_put {p a : Addr} {H H' : Hp} {o : HO} (s : Bar2 p a H H') : Bar2 p a H (upd H' p o) := fun b u n m q => by
  rw [upd_ne n]
  exact s b u n m q
theorem bar2_put2 {p a : Addr} {H H' : Hp} {o : HO} (s : Bar2 p a H H') : Bar2 p a H (upd H' a o) := fun b u n m q => by
  rw [upd_ne m]
  exact s b u n m q
noncomputable def pf (m an : Addr) (k : Bool) (au al ar ap : Addr) : List (Str × V) := [("market", .ref m), ("notices", .ref an), ("is_kept", .bl k), ("numbers", .ref au), ("last", .ref al), ("received", .ref ar), ("paid", .ref ap)]
section
variable {m an au al ar ap x : Addr} {k b : Bool}
theorem pf_m : (pf m an k au al ar ap).lookup ("market" : Str) = some (.ref m) := by kernel_rfl
theorem pf_n : (pf m an k au al ar ap).lookup ("notices" : Str) = some (.ref an) := by kernel_rfl
theorem pf_k : (pf m an k au al ar ap).lookup ("is_kept" : Str) = some (.bl k) := by kernel_rfl
theorem pf_u : (pf m an k au al ar ap).lookup ("numbers" : Str) = some (.ref au) := by kernel_rfl
theorem pf_l : (pf m an k au al ar ap).lookup ("last" : Str) = some (.ref al) := by kernel_rfl
theorem pf_r : (pf m an k au al ar ap).lookup ("received" : Str) = some (.ref ar) := by kernel_rfl
theorem pf_pn : putF "notices" (.ref x) (pf m an k au al ar ap) = pf m x k au al ar ap := by kernel_rfl
theorem pf_pk : putF "is_kept" (.bl b) (pf m an k au al ar ap) = pf m an b au al ar ap := by kernel_rfl
theorem pf_pu : putF "numbers" (.ref x) (pf m an k au al ar ap) = pf m an k x al ar ap := by kernel_rfl
theorem pf_pl : putF "last" (.ref x) (pf m an k au al ar ap) = pf m an k au x ar ap := by kernel_rfl
theorem pf_pr : putF "received" (.ref x) (pf m an k au al ar ap) = pf m an k au al x ap := by kernel_rfl
theorem pf_no {y : Str} (h : (["market", "notices", "is_kept", "numbers", "last", "received", "paid"] : List Str).contains y = false) : (pf m an k au al ar ap).lookup y = none := by
  have h2 : ∀ x ∈ (["market", "notices", "is_kept", "numbers", "last", "received", "paid"] : List Str), (y == x) = false := fun x hx => by
    cases e : (y == x) with
    | false => rfl
    | true =>
      have : (["market", "notices", "is_kept", "numbers", "last", "received", "paid"] : List Str).contains y = true := List.contains_iff_mem.mpr (by rw [eq_of_beq e]; exact hx)
      rw [h] at this
      cases this
  unfold pf
  rw [List.lookup_cons, h2 _ (by simp), List.lookup_cons, h2 _ (by simp), List.lookup_cons, h2 _ (by simp), List.lookup_cons, h2 _ (by simp), List.lookup_cons, h2 _ (by simp), List.lookup_cons, h2 _ (by simp), List.lookup_cons, h2 _ (by simp)]
  rfl
end
/-- a dict, or another thing that is neither a list nor an instance nor a tuple -/
noncomputable def PdOk (o : HO) : Prop := (∀ C dx fs, o ≠ .ins C dx fs) ∧ ∀ xs, o ≠ .lst xs
noncomputable def PostAt (K : PySem.W.Frag) (C : Addr) (H : Hp) (p m an : Addr) (k : Bool) (P : Pt) : Prop := ∃ dx au al ar ap : Addr, H p = some (.ins C dx (pf m an k au al ar ap)) ∧ (∃ ys, H an = some (.lst ys) ∧ AllAt (NtAt K) H ys P.nts) ∧ FzT K H au ((leftOf P).map V.int) ∧
  (∃ kl, H al = some (.dT kl) ∧ Kv kfL (SqAt K) H kl P.last) ∧ (∃ kr, H ar = some (.dT kr) ∧ Kv kfR (SqAt K) H kr P.recv) ∧ H ap = some P.pd ∧ PdOk P.pd
theorem PostAt.same {K : PySem.W.Frag} {C : Addr} {H H' : Hp} {p m an : Addr} {k : Bool} {P : Pt} (e : Same H H') (h : PostAt K C H p m an k P) : PostAt K C H' p m an k P := by
  obtain ⟨dx, au, al, ar, ap, h0, ⟨ys, h1, h2⟩, h3, ⟨kl, h4, h5⟩, ⟨kr, h6, h7⟩, h8, h9⟩ := h
  exact ⟨dx, au, al, ar, ap, e _ _ h0, ⟨ys, e _ _ h1, h2.same (fun e r => NtAt.same e r) e⟩, h3.same e, ⟨kl, e _ _ h4, h5.imp fun _ _ => SqAt.same e⟩, ⟨kr, e _ _ h6, h7.imp fun _ _ => SqAt.same e⟩, e _ _ h8, h9⟩
/-- a post is kept by what neither touches it nor its notices -/
theorem PostAt.bar {K : PySem.W.Frag} {C : Addr} {H H' : Hp} {p m an q : Addr} {k : Bool} {P : Pt} {D dy : Addr} {gs : List (Str × V)} (hq : H q = some (.ins D dy gs)) (np : q ≠ p) (e : Bar q H H') (h : PostAt K C H p m an k P) : PostAt K C H' p m an k P := by
  obtain ⟨dx, au, al, ar, ap, h0, ⟨ys, h1, h2⟩, h3, ⟨kl, h4, h5⟩, ⟨kr, h6, h7⟩, h8, h9⟩ := h
  have n : ∀ {b : Addr} {u : HO}, H b = some u → (∀ C dx fs, u ≠ .ins C dx fs) → b ≠ q := fun hb hu z => by
    rw [z, hq] at hb
    exact hu _ _ _ (Option.some.inj hb).symm
  have tu : Tups H H' := ⟨fun b xs hb => e b _ (n hb fun _ _ _ z => (nomatch z)) hb, fun b o xs hb => e b _ (n hb fun _ _ _ z => (nomatch z)) hb⟩
  exact ⟨dx, au, al, ar, ap, e _ _ np.symm h0, ⟨ys, e _ _ (n h1 fun _ _ _ z => (nomatch z)) h1, AllAt.imp (S := NtAt K) h2 fun _ _ => tu.nt⟩, tu.fzt h3, ⟨kl, e _ _ (n h4 fun _ _ _ z => (nomatch z)) h4, h5.imp fun _ _ => tu.sq⟩,
    ⟨kr, e _ _ (n h6 fun _ _ _ z => (nomatch z)) h6, h7.imp fun _ _ => tu.sq⟩, e _ _ (n h8 h9.1) h8, h9⟩
/-- what a post asks of its market -/
structure PMk (M : Mkt) : Prop where
  ok : TrsOk M.ins M.trs
  il : M.ins.length ≤ 6
  el : M.evs.length ≤ 3
  tl : M.trs.length ≤ 16
  end_ : M.evs.Nodup
  los : ∀ p ∈ M.los, p.2 ≤ 1000000000
structure PtOk (M : Mkt) (P : Pt) : Prop where
  l : ∀ x ∈ P.last, x.1.1 < M.trs.length ∧ x.1.2 ∈ M.evs ∧ ∃ f, x.2.2 = sch f
  lnd : (P.last.map (·.1)).Nodup
  r : ∀ x ∈ P.recv, x.1.1 ∈ M.ins ∧ x.1.2.1 < M.trs.length ∧ x.1.2.2 ∈ M.evs ∧ ∃ f, x.2.2 = sch f
  rnd : (P.recv.map (·.1)).Nodup
  n : ∀ c, some c ∈ P.nts → c.z ∈ M.ins ∧ c.n < M.trs.length ∧ c.e ∈ M.evs ∧ ∃ f, c.s = sch f
  len : P.nts.length ≤ 2000
/-! ### set_loss once more: the new dict of losses is a new object -/
noncomputable def AwM (x m : Addr) (H : Hp) : Prop := ∀ C dx ai ae at' ad, H m = some (.ins C dx (mf ai ae at' ad)) → ad ≠ x
noncomputable def Km (m : Addr) (H H' : Hp) : Prop := ∀ x kv, H x = some (.dT kv) → AwM x m H → AwM x m H'
theorem mf_inj {C dx ai ae at' ad C' dx' ai' ae' at'' ad' : Addr} (h : some (HO.ins C dx (mf ai ae at' ad)) = some (HO.ins C' dx' (mf ai' ae' at'' ad'))) : ad = ad' := by
  have h1 := Option.some.inj h
  injection h1 with _ _ h2
  unfold mf at h2
  simp only [List.cons.injEq, Prod.mk.injEq, V.ref.injEq, true_and, and_true] at h2
  exact h2.2.2.2
theorem awM_of {x m C dx ai ae at' ad : Addr} {H : Hp} (h : H m = some (.ins C dx (mf ai ae at' ad))) (a : ad ≠ x) : AwM x m H := fun C' dx' ai' ae' at'' ad' h' => by
  rw [h] at h'
  rw [← mf_inj h']
  exact a
theorem km_of {m C dx ai ae at' ad C' dx' ai' ae' at'' ad' : Addr} {H H' : Hp} (h : H m = some (.ins C dx (mf ai ae at' ad))) (h' : H' m = some (.ins C' dx' (mf ai' ae' at'' ad'))) (e : ad' = ad ∨ H ad' = none) : Km m H H' := fun x kv hx a => by
  refine awM_of h' (e.elim (fun z => by rw [z]; exact a _ _ _ _ _ _ h) fun hy z => ?_)
  rw [z, hx] at hy
  cases hy
theorem km_keep {m : Addr} {u : HO} {H H' : Hp} (h : H m = some u) (h' : H' m = some u) : Km m H H' := fun x kv hx a C dx ai ae at' ad h2 => a C dx ai ae at' ad (by rw [h, ← h', h2])
theorem km_pre {m : Addr} {u : HO} {H H1 H2 : Hp} (s : Same H H1) (h : H m = some u) (y : Km m H1 H2) : Km m H H2 := fun x kv hx a => y x kv (s _ _ hx) (km_keep h (s _ _ h) x kv hx a)
noncomputable def sp_set_loss2 (K : PySem.W.Frag) (C CN : Addr) : Sp := fun vs H Q E => ∃ (m : Addr) (e z : Str) (n : Int) (M : Mkt), vs = [.ref m, .str e, .str z, .int n] ∧ MktAt K C H m M ∧ IsName (.str e) ∧ IsName (.str z) ∧ btw (.int n) 0 100000 = true ∧ e ∈ M.evs ∧ z ∈ M.ins ∧ (M.los.map (·.1)).Nodup ∧ M.los.length ≤ 1000 ∧ TrsOk M.ins M.trs ∧ M.evs.length ≤ 1000 ∧
  (((∀ v ∈ M.evs, fate M.ins M.trs (directs M.ins (setL M.los e z n) v) true) ∧ ∀ H', Bar m H H' → Km m H H' → MktAt K C H' m { M with los := setL M.los e z n } → Q .non H') ∨
    ((∃ v ∈ M.evs, fate M.ins M.trs (directs M.ins (setL M.los e z n) v) false) ∧ ∀ H', Same H H' → E (.ref CN) none H'))
/-! ### a market by digits, told exactly -/
noncomputable def mxd (c : Int) (k : Nat) : Int := (c * 48271 + (k : Int) * 69621 + 1) % 2147483647
noncomputable def dgt (c : Int) (k : Nat) : Int := if 1000000000000000000 ≤ c then (c / 1009 ^ k) % 1009 else (mxd c k * mxd c k + mxd c k * 40692) % 2147483399 / 7
noncomputable def dgs (c : Int) (n : Nat) : List Int := (List.range n).map (dgt c)
theorem dgs_len (c : Int) (n : Nat) : (dgs c n).length = n := by unfold dgs; rw [List.length_map, List.length_range]
theorem dgt_pos (c : Int) (k : Nat) : 0 ≤ dgt c k := by
  unfold dgt
  split
  · exact Int.emod_nonneg _ (by decide)
  · exact Int.ediv_nonneg (Int.emod_nonneg _ (by decide)) (by decide)
theorem dgs_pos (c : Int) (n : Nat) : ∀ x ∈ dgs c n, 0 ≤ x := fun x hx => by
  obtain ⟨k, _, rfl⟩ := List.mem_map.mp hx
  exact dgt_pos c k
noncomputable def nth (ns : List Int) (j : Int) : Int := ns.getD (j % (ns.length : Int)).toNat 0
theorem nth_at {ns : List Int} (hl : 0 < ns.length) (hn : ∀ x ∈ ns, 0 ≤ x) (j : Int) : 0 ≤ nth ns j ∧ atI (ns.map V.int) (j % ((ns.map V.int).length : Nat)) = some (.int (nth ns j)) := by
  rw [List.length_map]
  have h1 := Int.emod_nonneg j (show ((ns.length : Nat) : Int) ≠ 0 by omega)
  have h2 := Int.emod_lt_of_pos j (show (0 : Int) < ((ns.length : Nat) : Int) by omega)
  unfold nth
  generalize j % (ns.length : Int) = y at h1 h2 ⊢
  obtain ⟨k, rfl⟩ : ∃ k : Nat, y = (k : Int) := ⟨y.toNat, by omega⟩
  have hk : k < ns.length := by omega
  rw [Int.toNat_natCast, List.getD_eq_getElem?_getD, List.getElem?_eq_getElem hk]
  exact ⟨hn _ (List.getElem_mem hk), atI_nat (at_map (List.getElem?_eq_getElem hk))⟩
noncomputable def dg0 (ns : List Int) (k : Nat) : Int := ns.getD k 0
noncomputable def pickS (xs : List Str) (x : Int) : Str := xs.getD (x % (xs.length : Int)).toNat ""
theorem pickS_at {xs : List Str} (x : Int) (h : 1 ≤ xs.length) : pickS xs x ∈ xs ∧ atI (xs.map V.str) (x % ((xs.map V.str).length : Nat)) = some (.str (pickS xs x)) := by
  rw [List.length_map]
  have h1 := Int.emod_nonneg x (show ((xs.length : Nat) : Int) ≠ 0 by omega)
  have h2 := Int.emod_lt_of_pos x (show (0 : Int) < ((xs.length : Nat) : Int) by omega)
  unfold pickS
  generalize x % (xs.length : Int) = y at h1 h2 ⊢
  obtain ⟨k, rfl⟩ : ∃ k : Nat, y = (k : Int) := ⟨y.toNat, by omega⟩
  have hk : k < xs.length := by omega
  rw [Int.toNat_natCast, List.getD_eq_getElem?_getD, List.getElem?_eq_getElem hk]
  exact ⟨List.getElem_mem hk, atI_nat (by rw [List.getElem?_map, List.getElem?_eq_getElem hk]; rfl)⟩
noncomputable def cvF (ns : List Int) (j : Int) : Cov := if nth ns j % 2 = 0 then .share (100 + 50 * (nth ns (j + 1) % 6)) else .layer (nth ns (j + 1) % 40) (nth ns (j + 2) % 30 + 1)
noncomputable def pnF0 (ns : List Int) (j : Int) : Nat → List Str → List (Option Str × Int)
  | _, [] => []
  | k, z :: r => (if 0 < nth ns (j + (k : Int)) % 3 then [(some z, nth ns (j + (k : Int) + 1) % 4 + 1)] else []) ++ pnF0 ns j (k + 1) r
theorem pnF0_step {ns : List Int} {j : Int} {os : List Str} {i : Nat} {z : Str} (h : os[i]? = some z) : pnF0 ns j i (os.drop i) = (if 0 < nth ns (j + (i : Int)) % 3 then [(some z, nth ns (j + (i : Int) + 1) % 4 + 1)] else []) ++ pnF0 ns j (i + 1) (os.drop (i + 1)) := by
  obtain ⟨h1, h2⟩ := List.getElem?_eq_some_iff.mp h
  rw [List.drop_eq_getElem_cons h1, h2]
  rfl
noncomputable def pnF (ns : List Int) (j : Int) (os : List Str) : List (Option Str × Int) := if nth ns (j + 7) % 3 = 0 ∨ pnF0 ns j 0 os = [] then pnF0 ns j 0 os ++ [(none, nth ns (j + 8) % 4 + 1)] else pnF0 ns j 0 os
open Classical in
noncomputable def lossD (M : Mkt) (d : Int) : Mkt :=
  if ∀ e ∈ M.evs, fate M.ins M.trs (directs M.ins (setL M.los (pickS M.evs d) (pickS M.ins (d / 3)) (d / 17 % 70)) e) true then { M with los := setL M.los (pickS M.evs d) (pickS M.ins (d / 3)) (d / 17 % 70) } else M
theorem lossD_eq (M : Mkt) (d : Int) : (lossD M d).ins = M.ins ∧ (lossD M d).evs = M.evs ∧ (lossD M d).trs = M.trs := by
  unfold lossD
  split <;> exact ⟨rfl, rfl, rfl⟩
theorem lossD_ok {M : Mkt} (hg : DgMkt M) (d : Int) : DgMkt (lossD M d) := by
  unfold lossD
  split
  · rename_i hf
    exact hg.set (pickS_at d hg.el.1).1 (pickS_at (d / 3) hg.il.1).1 (by omega) (by omega) hf
  · exact hg
noncomputable def trK (ns : List Int) (ins : List Str) (k : Nat) : Trt := ⟨pickS ins (dg0 ns (3 + k)), cvF ns ((9 + 5 * k : Nat) : Int), pnF ns ((11 + 6 * k : Nat) : Int) (ins.filter fun z => decide (z ≠ pickS ins (dg0 ns (3 + k)))), false⟩
noncomputable def insF (ns : List Int) : List Str := four.take (dg0 ns 0 % 3 + 2).toNat
noncomputable def evsF (ns : List Int) : List Str := twain.take (dg0 ns 1 % 2 + 1).toNat
noncomputable def trsF (ns : List Int) : List Trt := (List.range (dg0 ns 2 % 6).toNat).map (trK ns (insF ns))
noncomputable def lossF (ns : List Int) (M : Mkt) (n : Nat) : Mkt := (List.range n).foldl (fun M k => lossD M (dg0 ns (41 + k) + 97 * dg0 ns 47)) M
noncomputable def mktF (c : Int) : Mkt := lossF (dgs c 50) ⟨insF (dgs c 50), evsF (dgs c 50), trsF (dgs c 50), []⟩ (dg0 (dgs c 50) 40 % 6).toNat
theorem lossF_succ (ns : List Int) (M : Mkt) (n : Nat) : lossF ns M (n + 1) = lossD (lossF ns M n) (dg0 ns (41 + n) + 97 * dg0 ns 47) := by
  unfold lossF
  rw [List.range_succ, List.foldl_append]
  rfl
theorem lossF_eq (ns : List Int) (M : Mkt) : ∀ n, (lossF ns M n).ins = M.ins ∧ (lossF ns M n).evs = M.evs ∧ (lossF ns M n).trs = M.trs
  | 0 => ⟨rfl, rfl, rfl⟩
  | n + 1 => by
    rw [lossF_succ]
    obtain ⟨a, b, c⟩ := lossF_eq ns M n
    obtain ⟨d, e, f⟩ := lossD_eq (lossF ns M n) (dg0 ns (41 + n) + 97 * dg0 ns 47)
    exact ⟨d.trans a, e.trans b, f.trans c⟩
theorem mktF_tl (c : Int) : (mktF c).trs.length ≤ 5 := by
  unfold mktF
  rw [(lossF_eq _ _ _).2.2]
  show (trsF _).length ≤ 5
  unfold trsF
  rw [List.length_map, List.length_range]
  omega
noncomputable def sp_df_draws (K : PySem.W.Frag) : Sp := fun vs H Q _ => ∃ (c : Int) (n : Nat), vs = [.int c, .int (n : Int)] ∧ n ≤ 60 ∧ ∀ (o : Addr) (H' : Hp), Same H H' → H o = none → H' o = some (.lst ((dgs c n).map V.int)) → Q (.ref o) H'
noncomputable def sp_df_cover (K : PySem.W.Frag) : Sp := fun vs H Q _ => ∃ (a : Addr) (ns : List Int) (j : Nat), vs = [.ref a, .int (j : Int)] ∧ SqL K H a (ns.map V.int) ∧ 0 < ns.length ∧ (∀ x ∈ ns, 0 ≤ x) ∧
  ∀ (t : Addr) (H' : Hp), Same H H' → H t = none → H' t = some (.tup (cvV (cvF ns j))) → CvOk (cvF ns j) → Q (.ref t) H'
noncomputable def sp_df_panel (K : PySem.W.Frag) : Sp := fun vs H Q _ => ∃ (a b : Addr) (ns : List Int) (j : Nat) (c : Str) (ins os : List Str), vs = [.ref a, .int (j : Int), .ref b] ∧ SqL K H a (ns.map V.int) ∧ 0 < ns.length ∧ (∀ x ∈ ns, 0 ≤ x) ∧ SqL K H b (os.map V.str) ∧
  os.Nodup ∧ os.length ≤ 5 ∧ (∀ z ∈ os, z ∈ ins ∧ z ≠ c) ∧ (∀ z ∈ ins, isNm z = true ∧ z.length ≤ 1000) ∧
  ∀ (t : Addr) (H' : Hp), Same H H' → PanAt K H' (.ref t) (pnF ns j os) → DrawnPan ins c (pnF ns j os) → Q (.ref t) H'
noncomputable def sp_df_loss (K : PySem.W.Frag) (C : Addr) : Sp := fun vs H Q _ => ∃ (m : Addr) (d : Int) (M : Mkt), vs = [.ref m, .int d] ∧ MktAt K C H m M ∧ DgMkt M ∧ ∀ (b : Bool) (H' : Hp), Bar m H H' → Km m H H' → MktAt K C H' m (lossD M d) → Q (.bl b) H'
noncomputable def sp_df_filled (K : PySem.W.Frag) (C : Addr) : Sp := fun vs H Q _ => ∃ (m : Addr) (c : Int), vs = [.ref m, .int c] ∧ MktAt K C H m ⟨[], [], [], []⟩ ∧ ∀ (H' : Hp), Bar m H H' → MktAt K C H' m (mktF c) → DgMkt (mktF c) → Q (.ref m) H'
noncomputable def sp_df_market (K : PySem.W.Frag) (C : Addr) : Sp := fun vs H Q _ => ∃ c : Int, vs = [.int c] ∧ ∀ (m : Addr) (H' : Hp), Same H H' → H m = none → MktAt K C H' m (mktF c) → DgMkt (mktF c) → Q (.ref m) H'
/-! ### what the post's defs promise -/
noncomputable def RcAt (K : PySem.W.Frag) (H : Hp) (a : Addr) (L : List ((Str × Nat × Str) × (Int × Sc))) : Prop := ∃ kr, H a = some (.dT kr) ∧ Kv kfR (SqAt K) H kr L
noncomputable def LsAt (K : PySem.W.Frag) (H : Hp) (a : Addr) (L : List ((Nat × Str) × (Int × Sc))) : Prop := ∃ kl, H a = some (.dT kl) ∧ Kv kfL (SqAt K) H kl L
theorem RcAt.same {K : PySem.W.Frag} {H H' : Hp} {a : Addr} {L : List ((Str × Nat × Str) × (Int × Sc))} (e : Same H H') (h : RcAt K H a L) : RcAt K H' a L :=
  let ⟨kr, h1, h2⟩ := h; ⟨kr, e _ _ h1, h2.imp fun _ _ => SqAt.same e⟩
theorem LsAt.same {K : PySem.W.Frag} {H H' : Hp} {a : Addr} {L : List ((Nat × Str) × (Int × Sc))} (e : Same H H') (h : LsAt K H a L) : LsAt K H' a L :=
  let ⟨kr, h1, h2⟩ := h; ⟨kr, e _ _ h1, h2.imp fun _ _ => SqAt.same e⟩
noncomputable def natV (ns : List Nat) : List V := ns.map fun n : Nat => V.int (n : Int)
noncomputable def ChAt (K : PySem.W.Frag) (H : Hp) (v : V) (d : Nat × Str × Sc) : Prop := ∃ t b : Addr, v = .ref t ∧ SqT K H t [.int (d.1 : Int), .str d.2.1, .ref b] ∧ SchAt K H b d.2.2
theorem ChAt.same {K : PySem.W.Frag} {H H' : Hp} {v : V} {d : Nat × Str × Sc} (e : Same H H') (h : ChAt K H v d) : ChAt K H' v d :=
  let ⟨t, b, h1, h2, h3⟩ := h; ⟨t, b, h1, same_sqt e h2, h3.same e⟩
noncomputable def KyAt (K : PySem.W.Frag) (H : Hp) (v : V) (k : Nat × Str) : Prop := ∃ t : Addr, v = .ref t ∧ SqT K H t [.int (k.1 : Int), .str k.2]
theorem KyAt.same {K : PySem.W.Frag} {H H' : Hp} {v : V} {k : Nat × Str} (e : Same H H') (h : KyAt K H v k) : KyAt K H' v k :=
  let ⟨t, h1, h2⟩ := h; ⟨t, h1, same_sqt e h2⟩
noncomputable def idsF (n m : Nat) : List Int := (List.range m).map fun i : Nat => ((n + 1 + i : Nat) : Int)
noncomputable def CuAt (K : PySem.W.Frag) (H : Hp) (d : Addr) (M : Mkt) (P : Pt) (e z : Str) : Prop := ∃ kv, H d = some (.dK kv) ∧ Paired (fun (p : Key × V) (n : Nat) => p.1 = .inl (n : Int) ∧ ∃ b, p.2 = .ref b ∧ SchAt K H b (cur M P e z n)) kv (ownN z 0 M.trs)
theorem CuAt.same {K : PySem.W.Frag} {H H' : Hp} {d : Addr} {M : Mkt} {P : Pt} {e z : Str} (s : Same H H') (h : CuAt K H d M P e z) : CuAt K H' d M P e z :=
  let ⟨kv, h1, h2⟩ := h; ⟨kv, s _ _ h1, Paired.mapP h2 fun _ _ ⟨a, b, c, g⟩ => ⟨a, b, c, g.same s⟩⟩
noncomputable def sp_own_treaties (K : PySem.W.Frag) (C : Addr) : Sp := fun vs H Q _ => ∃ (m : Addr) (M : Mkt) (c : Str), vs = [.ref m, .str c] ∧ MktAt K C H m M ∧ M.trs.length ≤ 1000 ∧ ∀ o H', Same H H' → H o = none → H' o = some (.lst (natV (ownN c 0 M.trs))) → Q (.ref o) H'
noncomputable def sp_assumed_steps (K : PySem.W.Frag) (C : Addr) : Sp := fun vs H Q _ => ∃ (m ar : Addr) (M : Mkt) (P : Pt) (e z : Str), vs = [.ref m, .ref ar, .str e, .str z] ∧ MktAt K C H m M ∧ PMk M ∧ RcAt K H ar P.recv ∧ (∀ n, Asc 0 (recvOf P z n e).2) ∧
  ∀ (d : Addr) (S : List (Int × Int)) (H' : Hp), Same H H' → H' d = some (.dK (S.map fun p => (.inl p.1, .int p.2))) → (S.map (·.1)).Nodup → (∀ p ∈ S, 1 ≤ p.1 ∧ p.1 ≤ 201) → (∀ r, tot r S = asmF P z e r 0 M.trs) → Q (.ref d) H'
noncomputable def sp_estimated_schedule (K : PySem.W.Frag) (C : Addr) : Sp := fun vs H Q _ => ∃ (m ar : Addr) (M : Mkt) (P : Pt) (e z : Str), vs = [.ref m, .ref ar, .str e, .str z] ∧ MktAt K C H m M ∧ PMk M ∧ RcAt K H ar P.recv ∧ (∀ n, Asc 0 (recvOf P z n e).2) ∧
  ∀ (p : Addr) (H' : Hp), Same H H' → SchAt K H' p (est M P e z) → Q (.ref p) H'
noncomputable def sp_current_schedules (K : PySem.W.Frag) (C : Addr) : Sp := fun vs H Q _ => ∃ (m ar : Addr) (M : Mkt) (P : Pt) (e z : Str), vs = [.ref m, .ref ar, .str e, .str z] ∧ MktAt K C H m M ∧ PMk M ∧ RcAt K H ar P.recv ∧ (∀ n, Asc 0 (recvOf P z n e).2) ∧
  ∀ (d : Addr) (H' : Hp), Same H H' → H d = none → CuAt K H' d M P e z → Q (.ref d) H'
noncomputable def sp_copied (K : PySem.W.Frag) : Sp := fun vs H Q _ => ∃ (d : Addr) (kvs : List (List Key × V)), vs = [.ref d] ∧ H d = some (.dT kvs) ∧ (kvs.map (·.1)).Nodup ∧ kvs.length ≤ 1000 ∧ ∀ o H', Same H H' → H o = none → H' o = some (.dT kvs) → Q (.ref o) H'
noncomputable def sp_participants (K : PySem.W.Frag) : Sp := fun vs H Q _ => ∃ (x : V) (ps : List (Option Str × Int)), vs = [x] ∧ PanAt K H x ps ∧ ps.length ≤ 1000 ∧ ∀ o H', Same H H' → H o = none → H' o = some (.lst ((insP ps).map V.str)) → Q (.ref o) H'
noncomputable def sp_pinit (K : PySem.W.Frag) (C : Addr) : Sp := fun vs H Q _ => ∃ p dx m : Addr, vs = [.ref p, .ref m] ∧ H p = some (.ins C dx []) ∧ ∀ an H', Bar p H H' → H an = none → PostAt K C H' p m an false ⟨[], [], [], .dT []⟩ → Q .non H'
noncomputable def sp_plen (K : PySem.W.Frag) (C : Addr) : Sp := fun vs H Q _ => ∃ (p m an : Addr) (k : Bool) (P : Pt), vs = [.ref p] ∧ PostAt K C H p m an k P ∧ Q (.int ((P.nts.length : Nat) : Int)) H
noncomputable def sp_piter (K : PySem.W.Frag) (C : Addr) : Nat → Sp := fun n vs H Q _ => ∃ (p m an : Addr) (k : Bool) (P : Pt), vs = [.ref p] ∧ PostAt K C H p m an k P ∧ ∀ it t, H it = none → n ≤ it → SqT K H t ((leftOf P).map V.int) → Q (.ref it) (upd H it (TiO t it))
noncomputable def sp_notice (K : PySem.W.Frag) (C CN : Addr) : Sp := fun vs H Q E => ∃ (p m an : Addr) (k : Bool) (P : Pt) (x : Int), vs = [.ref p, .int x] ∧ PostAt K C H p m an k P ∧
  ((ntAt P x = none ∧ ∀ d H', Same H H' → H' d = some (.xd [("number", .int x)]) → E (.ref CN) (some d) H') ∨ ∃ c, ntAt P x = some c ∧ ∀ v, NtAt K H v (some c) → Q v H)
noncomputable def sp_last_sequence (K : PySem.W.Frag) (C : Addr) : Sp := fun vs H Q _ => ∃ (p m an : Addr) (k : Bool) (P : Pt) (n : Nat) (e : Str), vs = [.ref p, .int (n : Int), .str e] ∧ PostAt K C H p m an k P ∧ ∀ H', Same H H' → Q (.int (lastOf P n e).1) H'
noncomputable def sp_received_sequence (K : PySem.W.Frag) (C : Addr) : Sp := fun vs H Q _ => ∃ (p m an : Addr) (k : Bool) (P : Pt) (z : Str) (n : Nat) (e : Str), vs = [.ref p, .str z, .int (n : Int), .str e] ∧ PostAt K C H p m an k P ∧ ∀ H', Same H H' → Q (.int (recvOf P z n e).1) H'
noncomputable def sp_changes (K : PySem.W.Frag) (C CM : Addr) : Sp := fun vs H Q _ => ∃ (p m an : Addr) (k : Bool) (M : Mkt) (P : Pt) (z : Str), vs = [.ref p, .str z] ∧ PostAt K C H p m an k P ∧ MktAt K CM H m M ∧ PMk M ∧ PtOk M P ∧
  ∀ o ys H', Same H H' → H o = none → H' o = some (.lst ys) → AllAt (ChAt K) H' ys (chg M P z) → Q (.ref o) H'
noncomputable def sp_take_notices (K : PySem.W.Frag) (C : Addr) : Sp := fun vs H Q _ => ∃ (p dx m an au al ar ap : Addr) (k : Bool) (ys : List V), vs = [.ref p] ∧ H p = some (.ins C dx (pf m an k au al ar ap)) ∧ H an = some (.lst ys) ∧ ys.length ≤ 100000 ∧ (k = false → Q .non H) ∧
  (k = true → ∀ an', H an' = none → Q .non (upd (upd H an' (.lst ys)) p (.ins C dx (pf m an' false au al ar ap))))
/-- what is no dict of a post stays none -/
noncomputable def Aw (x p : Addr) (H : Hp) : Prop := ∀ C dx m an k au al ar ap, H p = some (.ins C dx (pf m an k au al ar ap)) → al ≠ x ∧ ar ≠ x ∧ ap ≠ x
noncomputable def Kx (p : Addr) (H H' : Hp) : Prop := ∀ x kv, H x = some (.dT kv) → Aw x p H → Aw x p H'
theorem pf_inj {C dx m an au al ar ap C' dx' m' an' au' al' ar' ap' : Addr} {k k' : Bool} (h : some (HO.ins C dx (pf m an k au al ar ap)) = some (HO.ins C' dx' (pf m' an' k' au' al' ar' ap'))) : al = al' ∧ ar = ar' ∧ ap = ap' := by
  have h1 := Option.some.inj h
  injection h1 with _ _ h2
  unfold pf at h2
  simp only [List.cons.injEq, Prod.mk.injEq, V.ref.injEq, true_and, and_true] at h2
  exact ⟨h2.2.2.2.2.1, h2.2.2.2.2.2.1, h2.2.2.2.2.2.2⟩
theorem aw_of {x p C dx m an au al ar ap : Addr} {k : Bool} {H : Hp} (h : H p = some (.ins C dx (pf m an k au al ar ap))) (a : al ≠ x ∧ ar ≠ x ∧ ap ≠ x) : Aw x p H := fun C' dx' m' an' k' au' al' ar' ap' h' => by
  rw [h] at h'
  obtain ⟨e1, e2, e3⟩ := pf_inj h'
  rw [← e1, ← e2, ← e3]
  exact a
theorem kx_of {p C dx m an au al ar ap C' dx' m' an' au' al' ar' ap' : Addr} {k k' : Bool} {H H' : Hp} (h : H p = some (.ins C dx (pf m an k au al ar ap))) (h' : H' p = some (.ins C' dx' (pf m' an' k' au' al' ar' ap'))) (e : (al' = al ∨ H al' = none) ∧ (ar' = ar ∨ H ar' = none) ∧ (ap' = ap ∨ H ap' = none)) : Kx p H H' := fun x kv hx a => by
  obtain ⟨a1, a2, a3⟩ := a _ _ _ _ _ _ _ _ _ h
  have n : ∀ y, H y = none → y ≠ x := fun y hy z => by
    rw [z, hx] at hy
    cases hy
  exact aw_of h' ⟨e.1.elim (fun z => by rw [z]; exact a1) (n _), e.2.1.elim (fun z => by rw [z]; exact a2) (n _), e.2.2.elim (fun z => by rw [z]; exact a3) (n _)⟩
theorem kx_keep {p C dx m an au al ar ap : Addr} {k : Bool} {H H' : Hp} (h : H p = some (.ins C dx (pf m an k au al ar ap))) (h' : H' p = some (.ins C dx (pf m an k au al ar ap))) : Kx p H H' := kx_of h h' ⟨.inl rfl, .inl rfl, .inl rfl⟩
theorem kx_pre {p C dx m an au al ar ap : Addr} {k : Bool} {H H1 H2 : Hp} (s : Same H H1) (h : H p = some (.ins C dx (pf m an k au al ar ap))) (y : Kx p H1 H2) : Kx p H H2 := fun x kv hx a => y x kv (s _ _ hx) (kx_keep h (s _ _ h) x kv hx a)
/-- the notices' list: the same one, or a new one if it was kept -/
noncomputable def Nw (H : Hp) (an an' : Addr) (k k' : Bool) : Prop := k' = false ∧ ((k = false ∧ an' = an) ∨ (k = true ∧ H an' = none))
noncomputable def sp_enter (K : PySem.W.Frag) (C CM CT : Addr) : Sp := fun vs H Q E => ∃ (p m an b al : Addr) (k : Bool) (M : Mkt) (P : Pt) (L : List ((Nat × Str) × (Int × Sc))) (ks : List (Nat × Str)) (ys : List V), vs = [.ref p, .ref b, .ref al] ∧ PostAt K C H p m an k P ∧ MktAt K CM H m M ∧ PMk M ∧ P.nts.length ≤ 2000 ∧
  H b = some (.lst ys) ∧ b ≠ an ∧ AllAt (KyAt K) H ys ks ∧ LsAt K H al L ∧ ks.length ≤ 48 ∧ (∀ x ∈ ks, x.1 < M.trs.length ∧ (getL L x).isSome = true) ∧
  ((2000 < P.nts.length + (rowsOf M.trs L ks).length ∧ ∀ H', Same H H' → E (.ref CT) none H') ∨
    (P.nts.length + (rowsOf M.trs L ks).length ≤ 2000 ∧ ∀ t an' k' H', Bar2 p an H H' → Nw H an an' k k' → Kx p H H' → PostAt K C H' p m an' k' (enterP P (rowsOf M.trs L ks)) → SqT K H' t ((idsF P.nts.length (rowsOf M.trs L ks).length).map V.int) → Q (.ref t) H'))
noncomputable def sp_send (K : PySem.W.Frag) (C CM CN CT : Addr) : Sp := fun vs H Q E => ∃ (p m an : Addr) (k : Bool) (M : Mkt) (P : Pt) (z : Str), vs = [.ref p, .str z] ∧ PostAt K C H p m an k P ∧ MktAt K CM H m M ∧ PMk M ∧ PtOk M P ∧
  ((z ∉ M.ins ∧ ∀ d H', Same H H' → H' d = some (.xd [("name", .str z)]) → E (.ref CN) (some d) H') ∨
   (z ∈ M.ins ∧ 2000 < P.nts.length + (sendN M P z).length ∧ ∀ H', Same H H' → E (.ref CT) none H') ∨
   (z ∈ M.ins ∧ P.nts.length + (sendN M P z).length ≤ 2000 ∧ ∀ t an' k' H', Bar2 p an H H' → Nw H an an' k k' → Kx p H H' → PostAt K C H' p m an' k' (sendP M P z) → SqT K H' t ((idsF P.nts.length (sendN M P z).length).map V.int) → Q (.ref t) H'))
noncomputable def sp_resend (K : PySem.W.Frag) (C CM CN CT : Addr) : Sp := fun vs H Q E => ∃ (p m an : Addr) (k : Bool) (M : Mkt) (P : Pt) (z : Str), vs = [.ref p, .str z] ∧ PostAt K C H p m an k P ∧ MktAt K CM H m M ∧ PMk M ∧ PtOk M P ∧
  ((z ∉ M.ins ∧ ∀ d H', Same H H' → H' d = some (.xd [("name", .str z)]) → E (.ref CN) (some d) H') ∨
   (z ∈ M.ins ∧ 2000 < P.nts.length + (reN M P z).length ∧ ∀ H', Same H H' → E (.ref CT) none H') ∨
   (z ∈ M.ins ∧ P.nts.length + (reN M P z).length ≤ 2000 ∧ ∀ t an' k' H', Bar2 p an H H' → Nw H an an' k k' → Kx p H H' → PostAt K C H' p m an' k' (enterP P (reN M P z)) → SqT K H' t ((idsF P.nts.length (reN M P z).length).map V.int) → Q (.ref t) H'))
noncomputable def sp_deliver (K : PySem.W.Frag) (C CN : Addr) : Sp := fun vs H Q E => ∃ (p m an : Addr) (k : Bool) (M : Mkt) (P : Pt) (x : Int), vs = [.ref p, .int x] ∧ PostAt K C H p m an k P ∧ PMk M ∧ PtOk M P ∧
  ((ntAt P x = none ∧ ∀ d H', Same H H' → H' d = some (.xd [("number", .int x)]) → E (.ref CN) (some d) H') ∨
   ∃ c, ntAt P x = some c ∧ ∀ H', Bar p H H' → Kx p H H' → PostAt K C H' p m an k (dlvP P c) → Q (.bl (!decide (c.q ≤ (recvOf P c.z c.n c.e).1))) H')
noncomputable def sp_drop (K : PySem.W.Frag) (C CN : Addr) : Sp := fun vs H Q E => ∃ (p m an : Addr) (k : Bool) (P : Pt) (x : Int), vs = [.ref p, .int x] ∧ PostAt K C H p m an k P ∧ P.nts.length ≤ 2000 ∧
  ((ntAt P x = none ∧ ∀ d H', Same H H' → H' d = some (.xd [("number", .int x)]) → E (.ref CN) (some d) H') ∨
   ∃ c, ntAt P x = some c ∧ ∀ an' k' H', Bar2 p an H H' → Nw H an an' k k' → Kx p H H' → PostAt K C H' p m an' k' (dropP P x) → Q .non H')
noncomputable def sp_estimated (K : PySem.W.Frag) (C CM CN : Addr) : Sp := fun vs H Q E => ∃ (p m an : Addr) (k : Bool) (M : Mkt) (P : Pt) (e z : Str), vs = [.ref p, .str e, .str z] ∧ PostAt K C H p m an k P ∧ MktAt K CM H m M ∧ PMk M ∧ PtOk M P ∧
  ((e ∉ M.evs ∧ ∀ d H', Same H H' → H' d = some (.xd [("name", .str e)]) → E (.ref CN) (some d) H') ∨ (e ∈ M.evs ∧ z ∉ M.ins ∧ ∀ d H', Same H H' → H' d = some (.xd [("name", .str z)]) → E (.ref CN) (some d) H') ∨
   (e ∈ M.evs ∧ z ∈ M.ins ∧ ∀ s H', Same H H' → SchAt K H' s (est M P e z) → Q (.ref s) H'))
noncomputable def sp_is_worth (K : PySem.W.Frag) (C : Addr) : Sp := fun vs H Q _ => ∃ (p m an : Addr) (k : Bool) (P : Pt) (x : Int) (c : Ntc), vs = [.ref p, .int x] ∧ PostAt K C H p m an k P ∧ ntAt P x = some c ∧ ∀ H', Same H H' → Q (.bl (worth P c)) H'
noncomputable def sp_is_told (K : PySem.W.Frag) (C CM : Addr) : Sp := fun vs H Q _ => ∃ (p m an : Addr) (k : Bool) (M : Mkt) (P : Pt) (n : Nat), vs = [.ref p, .int (n : Int)] ∧ PostAt K C H p m an k P ∧ MktAt K CM H m M ∧ PMk M ∧ n < M.trs.length ∧ ∀ H', Same H H' → Q (.bl (told M P n)) H'
noncomputable def sp_pending (K : PySem.W.Frag) (C CM : Addr) : Sp := fun vs H Q _ => ∃ (p m an : Addr) (k : Bool) (M : Mkt) (P : Pt), vs = [.ref p] ∧ PostAt K C H p m an k P ∧ MktAt K CM H m M ∧ PMk M ∧ PtOk M P ∧
  ∀ t a b H', Same H H' → SqT K H' t [.ref a, .ref b] → SqT K H' a ((pendI M P).map V.str) → SqT K H' b ((worthN P).map V.int) → Q (.ref t) H'
noncomputable def sp_is_quiet (K : PySem.W.Frag) (C CM : Addr) : Sp := fun vs H Q _ => ∃ (p m an : Addr) (k : Bool) (M : Mkt) (P : Pt), vs = [.ref p] ∧ PostAt K C H p m an k P ∧ MktAt K CM H m M ∧ PMk M ∧ PtOk M P ∧ ∀ H', Same H H' → Q (.bl (quiet M P)) H'
theorem kvs_nd {kvs : List (List Key × V)} (h : (kvs.map (·.1)).Nodup) {i : Nat} {k : List Key} {v : V} (hi : kvs[i]? = some (k, v)) : ∀ p ∈ kvs.take i, p.1 ≠ k := by
  intro p hp e
  obtain ⟨j, hj⟩ := List.getElem?_of_mem hp
  rw [List.getElem?_take] at hj
  split at hj
  · rename_i hji
    have := nd_at h (i := i) (j := j) (x := k) (by rw [List.getElem?_map, hi]; rfl) (by rw [List.getElem?_map, hj, ← e]; rfl)
    omega
  · cases hj
theorem kvs_is : ∀ {kvs : List (List Key × V)}, (kvs.map (·.1)).Nodup → ∀ {i : Nat} {k : List Key} {v : V}, kvs[i]? = some (k, v) → valV kvs k = some v
  | [], _, _, _, _, hi => by simp at hi
  | p :: r, h, 0, k, v, hi => by
    cases Option.some.inj hi
    exact valV_pos rfl
  | p :: r, h, i + 1, k, v, hi => by
    have hi : r[i]? = some (k, v) := hi
    have h2 := List.nodup_cons.mp h
    rw [valV_neg fun e => h2.1 (List.mem_map.mpr ⟨_, List.mem_of_getElem? hi, e.symm⟩)]
    exact kvs_is h2.2 hi
theorem Kv.getD {κ α : Type} [DecidableEq κ] {kf : κ → List Key} {R : Hp → V → α → Prop} (inj : ∀ i j : κ, kf i = kf j → i = j) {H : Hp} {kvs : List (List Key × V)} {L : List (κ × α)} (h : Kv kf R H kvs L) (k : κ) {d : α} {v : V} (hd : R H v d) : R H ((valV kvs (kf k)).getD v) ((getL L k).getD d) := by
  rcases Kv.get inj k h with ⟨e1, e2⟩ | ⟨a, w, e1, e2, r⟩
  · rw [e1, e2]
    exact hd
  · rw [e1, e2]
    exact r
theorem sq_none {K : PySem.W.Frag} {H : Hp} {N : Addr} (h : ∃ b : Addr, SqT K H N [.int 0, .ref b] ∧ SqT K H b []) : SqAt K H (.ref N) (0, []) :=
  let ⟨b, h1, h2⟩ := h; ⟨N, b, rfl, h1, [], h2, AllAt.nil⟩
theorem insP_step {ps : List (Option Str × Int)} {i : Nat} {e : Option Str × Int} (h : ps[i]? = some e) : insP (ps.take (i + 1)) = insP (ps.take i) ++ match e.1 with | some z => [z] | none => [] := by
  rw [List.take_add_one, h]
  unfold insP
  rw [List.filterMap_append]
  rcases e with ⟨_ | z, s⟩ <;> rfl
theorem insP_le (ps : List (Option Str × Int)) : (insP ps).length ≤ ps.length := List.length_filterMap_le ..
theorem ntAt_of {P : Pt} {x : Int} {c : Ntc} (h : ntAt P x = some c) : 1 ≤ x ∧ P.nts[(x - 1).toNat]? = some (some c) := by
  unfold ntAt at h
  split at h
  · rename_i h1
    refine ⟨h1, ?_⟩
    cases e : P.nts[(x - 1).toNat]? with
    | none =>
      rw [e] at h
      cases h
    | some o =>
      rw [e] at h
      cases o with
      | none => cases h
      | some d => rw [show d = c from Option.some.inj h]
  · cases h
theorem ntAt_in {P : Pt} {x : Int} {o : Option Ntc} (h1 : 1 ≤ x) (h : P.nts[(x - 1).toNat]? = some o) : ntAt P x = o := by
  unfold ntAt
  rw [if_pos h1, h]
  cases o <;> rfl
theorem ntAt_out {P : Pt} {x : Int} (h : ¬ (1 ≤ x ∧ x ≤ (P.nts.length : Int))) : ntAt P x = none := by
  unfold ntAt
  split
  · rename_i h1
    rw [List.getElem?_eq_none (by omega)]
    rfl
  · rfl
theorem nt_val {K : PySem.W.Frag} {H : Hp} {ys : List V} {P : Pt} (h2 : AllAt (NtAt K) H ys P.nts) {x : Int} {o : Option Ntc} (h1 : 1 ≤ x) (h : P.nts[(x - 1).toNat]? = some o) : ∃ v, atI ys (x - 1) = some v ∧ NtAt K H v o := by
  obtain ⟨y, hy, r⟩ := h2.2 _ _ h
  refine ⟨y, ?_, r⟩
  rw [show x - 1 = ((x - 1).toNat : Int) by omega]
  exact atI_nat hy
theorem post_ins {K : PySem.W.Frag} {C : Addr} {H : Hp} {p m an dx au al ar ap : Addr} {k : Bool} {P : Pt} {D dy : Addr} {fs : List (Str × V)} {ys : List V} (hp : H p = some (.ins D dy fs)) (h1 : H an = some (.lst ys)) (h2 : AllAt (NtAt K) H ys P.nts) (h3 : FzT K H au ((leftOf P).map V.int))
    (h4 : LsAt K H al P.last) (h6 : RcAt K H ar P.recv) (h8 : H ap = some P.pd) (h9 : PdOk P.pd) : PostAt K C (upd H p (.ins C dx (pf m an k au al ar ap))) p m an k P := by
  have tu : Tups H (upd H p (.ins C dx (pf m an k au al ar ap))) := Tups.put hp (fun _ z => (nomatch z)) fun _ _ z => (nomatch z)
  have ne : ∀ {b : Addr} {u : HO}, H b = some u → (∀ C dx fs, u ≠ .ins C dx fs) → upd H p (.ins C dx (pf m an k au al ar ap)) b = some u := fun hb hu => by
    rw [upd_ne (fun z => by rw [z, hp] at hb; exact hu _ _ _ (Option.some.inj hb).symm)]
    exact hb
  obtain ⟨kl, h4, h5⟩ := h4
  obtain ⟨kr, h6, h7⟩ := h6
  exact ⟨dx, au, al, ar, ap, upd_same, ⟨ys, ne h1 fun _ _ _ z => (nomatch z), AllAt.imp (S := NtAt K) h2 fun _ _ => tu.nt⟩, tu.fzt h3, ⟨kl, ne h4 fun _ _ _ z => (nomatch z), h5.imp fun _ _ => tu.sq⟩, ⟨kr, ne h6 fun _ _ _ z => (nomatch z), h7.imp fun _ _ => tu.sq⟩, ne h8 h9.1, h9⟩
theorem dec_int (a b : Int) : decide (V.int a = V.int b) = decide (a = b) := by
  by_cases h : a = b
  · rw [decide_eq_true h, decide_eq_true (by rw [h])]
  · rw [decide_eq_false h, decide_eq_false fun e => h (V.int.inj e)]
/-- all schedules that were received are told by rows -/
theorem PtOk.asc {M : Mkt} {P : Pt} (h : PtOk M P) (z e : Str) (n : Nat) : Asc 0 (recvOf P z n e).2 := by
  unfold recvOf
  cases g : getL P.recv (z, n, e) with
  | none => exact True.intro
  | some a =>
    obtain ⟨_, _, _, f, hf⟩ := h.r _ (getL_mem g)
    have hf : a.2 = sch f := hf
    show Asc 0 a.2
    rw [hf]
    exact (sch_norm f).asc
noncomputable def keysR (M : Mkt) : List (Str × Nat × Str) := M.ins.flatMap fun z => (List.range M.trs.length).flatMap fun n => M.evs.map fun e => (z, n, e)
noncomputable def keysL (M : Mkt) : List (Nat × Str) := (List.range M.trs.length).flatMap fun n => M.evs.map fun e => (n, e)
theorem flat_len {α β : Type} (f : α → List β) (c : Nat) : ∀ l : List α, (∀ x ∈ l, (f x).length ≤ c) → (l.flatMap f).length ≤ l.length * c
  | [], _ => by simp
  | x :: r, h => by
    rw [List.flatMap_cons, List.length_append, List.length_cons, Nat.succ_mul]
    have h1 := h x List.mem_cons_self
    have h2 := flat_len f c r fun y hy => h y (List.mem_cons_of_mem _ hy)
    omega
theorem keysL_len {M : Mkt} (h : PMk M) : (keysL M).length ≤ 48 := by
  have h1 := flat_len (fun n => M.evs.map fun e => (n, e)) 3 (List.range M.trs.length) fun n _ => by rw [List.length_map]; exact h.el
  rw [List.length_range] at h1
  have := h.tl
  unfold keysL
  omega
theorem keysR_len {M : Mkt} (h : PMk M) : (keysR M).length ≤ 288 := by
  have h1 := flat_len (fun z => (List.range M.trs.length).flatMap fun n => M.evs.map fun e => (z, n, e)) 48 M.ins fun z _ => by
    have h2 := flat_len (fun n => M.evs.map fun e => (z, n, e)) 3 (List.range M.trs.length) fun n _ => by rw [List.length_map]; exact h.el
    rw [List.length_range] at h2
    have := h.tl
    omega
  have := h.il
  unfold keysR
  omega
theorem PtOk.llen {M : Mkt} {P : Pt} (h : PtOk M P) (hm : PMk M) : P.last.length ≤ 48 := by
  have := nd_len h.lnd (s := keysL M) fun x hx => by
    obtain ⟨p, hp, rfl⟩ := List.mem_map.mp hx
    obtain ⟨h1, h2, _⟩ := h.l p hp
    exact List.mem_flatMap.mpr ⟨p.1.1, List.mem_range.mpr h1, List.mem_map.mpr ⟨p.1.2, h2, rfl⟩⟩
  rw [List.length_map] at this
  exact Nat.le_trans this (keysL_len hm)
theorem PtOk.rlen {M : Mkt} {P : Pt} (h : PtOk M P) (hm : PMk M) : P.recv.length ≤ 288 := by
  have := nd_len h.rnd (s := keysR M) fun x hx => by
    obtain ⟨p, hp, rfl⟩ := List.mem_map.mp hx
    obtain ⟨h1, h2, h3, _⟩ := h.r p hp
    exact List.mem_flatMap.mpr ⟨p.1.1, h1, List.mem_flatMap.mpr ⟨p.1.2.1, List.mem_range.mpr h2, List.mem_map.mpr ⟨p.1.2.2, h3, rfl⟩⟩⟩
  rw [List.length_map] at this
  exact Nat.le_trans this (keysR_len hm)

theorem cut_frm (xs : List V) (k : Nat) : cutV xs (some ((k : Int) + 1)) none = xs.drop (k + 1) := by
  unfold cutV
  rw [show (k : Int) + 1 = ((k + 1 : Nat) : Int) by omega, HT.sIx_none, HT.sIx_nat]
  by_cases h : k + 1 ≤ xs.length
  · rw [Nat.min_eq_left h, List.take_of_length_le]
    rw [List.length_drop]
    exact Nat.le_refl _
  · rw [Nat.min_eq_right (by omega), List.drop_eq_nil_of_le (Nat.le_refl _), List.drop_eq_nil_of_le (by omega), List.take_nil]
theorem AllAt.set {α : Type} {R : Hp → V → α → Prop} {H : Hp} {ys : List V} {ls : List α} (h : AllAt R H ys ls) {j : Nat} {y : V} {l : α} (r : R H y l) : AllAt R H (ys.set j y) (ls.set j l) := by
  refine ⟨by rw [List.length_set, List.length_set]; exact h.1, fun i a ha => ?_⟩
  rw [List.getElem?_set] at ha ⊢
  split at ha
  · rename_i e
    subst e
    split at ha
    · rename_i lt
      cases ha
      rw [if_pos rfl, if_pos (by rw [h.1]; exact lt)]
      exact ⟨y, rfl, r⟩
    · cases ha
  · rename_i e
    rw [if_neg e]
    exact h.2 i a ha
theorem AllAt.app {α : Type} {R : Hp → V → α → Prop} {H : Hp} {ys zs : List V} {ls ms : List α} (h : AllAt R H ys ls) (g : AllAt R H zs ms) : AllAt R H (ys ++ zs) (ls ++ ms) := by
  refine ⟨by rw [List.length_append, List.length_append, h.1, g.1], fun i a ha => ?_⟩
  rw [List.getElem?_append] at ha ⊢
  rw [h.1]
  by_cases e : i < ls.length
  · rw [if_pos e] at ha ⊢
    exact h.2 i a ha
  · rw [if_neg e] at ha ⊢
    exact g.2 _ a ha
theorem tups_bar2 {H H' : Hp} {p a2 D dy : Addr} {fs : List (Str × V)} (hp : H p = some (.ins D dy fs)) (ha : ∀ u, H a2 = some u → ∃ xs, u = .lst xs) (hb : Bar2 p a2 H H') : Tups H H' := by
  refine ⟨fun b xs h => hb b _ (fun z => ?_) (fun z => ?_) h, fun b o xs h => hb b _ (fun z => ?_) (fun z => ?_) h⟩
  · rw [z, hp] at h
    cases h
  · rw [z] at h
    obtain ⟨_, q⟩ := ha _ h
    cases q
  · rw [z, hp] at h
    cases h
  · rw [z] at h
    obtain ⟨_, q⟩ := ha _ h
    cases q
theorem post_by {K : PySem.W.Frag} {C : Addr} {H H' : Hp} {p m a2 dx au al ar ap : Addr} {k : Bool} {P : Pt} {D dy : Addr} {fs : List (Str × V)} {ys : List V} (hp : H p = some (.ins D dy fs)) (ha : ∀ u, H a2 = some u → ∃ xs, u = .lst xs) (hb : Bar2 p a2 H H') (g0 : H' p = some (.ins C dx (pf m a2 k au al ar ap)))
    (g1 : H' a2 = some (.lst ys)) (g2 : AllAt (NtAt K) H' ys P.nts) (h3 : FzT K H au ((leftOf P).map V.int)) (h4 : LsAt K H al P.last) (h6 : RcAt K H ar P.recv) (h8 : H ap = some P.pd) (h9 : PdOk P.pd) : PostAt K C H' p m a2 k P := by
  have tu := tups_bar2 hp ha hb
  have ne : ∀ {b : Addr} {u : HO}, H b = some u → (∀ C dx fs, u ≠ .ins C dx fs) → (∀ xs, u ≠ .lst xs) → H' b = some u := fun {b u} h n1 n2 => hb b u (fun z => by rw [z, hp] at h; exact n1 _ _ _ (Option.some.inj h).symm) (fun z => by
    rw [z] at h
    obtain ⟨xs, q⟩ := ha _ h
    exact n2 xs q) h
  obtain ⟨kl, h4, h5⟩ := h4
  obtain ⟨kr, h6, h7⟩ := h6
  exact ⟨dx, au, al, ar, ap, g0, ⟨ys, g1, g2⟩, tu.fzt h3, ⟨kl, ne h4 (fun _ _ _ z => (nomatch z)) (fun _ z => (nomatch z)), h5.imp fun _ _ => tu.sq⟩, ⟨kr, ne h6 (fun _ _ _ z => (nomatch z)) (fun _ z => (nomatch z)), h7.imp fun _ _ => tu.sq⟩, ne h8 h9.1 h9.2, h9⟩
theorem MktAt.bar2 {K : PySem.W.Frag} {CM : Addr} {H H' : Hp} {p m a2 D dy : Addr} {fs : List (Str × V)} {M : Mkt} (hp : H p = some (.ins D dy fs)) (np : m ≠ p) (ha : ∀ u, H a2 = some u → ∃ xs, u = .lst xs) (hb : Bar2 p a2 H H') (h : MktAt K CM H m M) : MktAt K CM H' m M := by
  have tu := tups_bar2 hp ha hb
  have ne : ∀ {b : Addr} {u : HO}, H b = some u → b ≠ p → (∀ xs, u ≠ .lst xs) → H' b = some u := fun {b u} h n1 n2 => hb b u n1 (fun z => by
    rw [z] at h
    obtain ⟨xs, q⟩ := ha _ h
    exact n2 xs q) h
  obtain ⟨dx, ai, ae, at', ad, h0, h1, h2, h3, h4, h5⟩ := h
  exact ⟨dx, ai, ae, at', ad, ne h0 np (fun _ z => (nomatch z)), tu.sqt h1, tu.sqt h2, tu.trs h3, ne h4 (fun z => by rw [z, hp] at h4; cases h4) (fun _ z => (nomatch z)), tu.fz h5⟩
/-- a market is no post -/
theorem mkt_ne {K : PySem.W.Frag} {C CM : Addr} {H : Hp} {p m m' an : Addr} {k : Bool} {P : Pt} {M : Mkt} (hP : PostAt K C H p m' an k P) (hM : MktAt K CM H m M) : m ≠ p := by
  obtain ⟨dx, au, al, ar, ap, h0, _⟩ := hP
  obtain ⟨dy, ai, ae, at', ad, g0, _⟩ := hM
  intro z
  rw [z, h0] at g0
  have e := Option.some.inj g0
  injection e with _ _ e
  have := congrArg List.length e
  exact absurd this (by show ¬ 7 = 4; decide)
theorem PostAt.lst {K : PySem.W.Frag} {C : Addr} {H : Hp} {p m an : Addr} {k : Bool} {P : Pt} (hP : PostAt K C H p m an k P) : ∃ ys, H an = some (.lst ys) ∧ ys.length = P.nts.length := by
  obtain ⟨dx, au, al, ar, ap, h0, ⟨ys, h1, h2⟩, _⟩ := hP
  exact ⟨ys, h1, h2.1⟩
theorem PostAt.isl {K : PySem.W.Frag} {C : Addr} {H : Hp} {p m an : Addr} {k : Bool} {P : Pt} (hP : PostAt K C H p m an k P) : ∀ u, H an = some u → ∃ xs, u = .lst xs := fun u hu => by
  obtain ⟨ys, h, _⟩ := hP.lst
  rw [h] at hu
  exact ⟨ys, (Option.some.inj hu).symm⟩
noncomputable def rowOf (ts : List Trt) (L : List ((Nat × Str) × (Int × Sc))) (k : Nat × Str) : List Ntc := (insP ((ts.getD k.1 ⟨"", .share 1, [], false⟩).pan)).map fun z => ⟨z, k.1, k.2, ((getL L k).getD (0, [])).1, ((getL L k).getD (0, [])).2⟩
theorem rowsOf_step {ts : List Trt} {L : List ((Nat × Str) × (Int × Sc))} {ks : List (Nat × Str)} {i : Nat} {k : Nat × Str} (h : ks[i]? = some k) : rowsOf ts L (ks.take (i + 1)) = rowsOf ts L (ks.take i) ++ rowOf ts L k := by
  unfold rowsOf
  rw [List.take_add_one, h, List.flatMap_append]
  congr 1
  show rowOf ts L k ++ [] = _
  rw [List.append_nil]
theorem rowsOf_len {ts : List Trt} {L : List ((Nat × Str) × (Int × Sc))} {ks : List (Nat × Str)} (h : ∀ k ∈ ks, k.1 < ts.length) (hp : ∀ t ∈ ts, t.pan.length ≤ 6) : (rowsOf ts L ks).length ≤ ks.length * 6 := by
  refine flat_len _ 6 ks fun k hk => ?_
  rw [List.length_map]
  refine Nat.le_trans (insP_le _) ?_
  have hl := h k hk
  rw [List.getD_eq_getElem?_getD, List.getElem?_eq_getElem hl]
  exact hp _ (List.getElem_mem hl)
theorem ids_rg (n m : Nat) : rgV ((n : Int) + 1) ((n : Int) + (m : Int) + 1) = (idsF n m).map V.int := by
  unfold rgV idsF
  rw [List.map_map, show ((n : Int) + (m : Int) + 1 - ((n : Int) + 1)).toNat = m by omega]
  refine List.map_congr_left fun i _ => ?_
  show V.int ((n : Int) + 1 + (i : Int)) = V.int ((n + 1 + i : Nat) : Int)
  rw [show (n : Int) + 1 + (i : Int) = ((n + 1 + i : Nat) : Int) by omega]
theorem left_enter (P : Pt) (rs : List Ntc) : leftOf (enterP P rs) = leftOf P ++ idsF P.nts.length rs.length := by
  show leftF 1 (P.nts ++ rs.map some) = leftF 1 P.nts ++ _
  rw [leftF_app, leftF_some]
  congr 1
  refine List.map_congr_left fun i _ => ?_
  show ((1 + P.nts.length : Nat) : Int) + (i : Int) = ((P.nts.length + 1 + i : Nat) : Int)
  omega
noncomputable def putC (P : Pt) (L : List ((Nat × Str) × (Int × Sc))) (c : Nat × Str × Sc) : List ((Nat × Str) × (Int × Sc)) := putL L (c.1, c.2.1) ((lastOf P c.1 c.2.1).1 + 1, c.2.2)
theorem newL_step (P : Pt) {cs : List (Nat × Str × Sc)} {i : Nat} {c : Nat × Str × Sc} (h : cs[i]? = some c) : newL P (cs.take (i + 1)) = putC P (newL P (cs.take i)) c := by
  unfold newL
  rw [List.take_add_one, h, List.foldl_append]
  rfl
theorem fold_nd (P : Pt) : ∀ (cs : List (Nat × Str × Sc)) (L : List ((Nat × Str) × (Int × Sc))), (L.map (·.1)).Nodup → ((cs.foldl (putC P) L).map (·.1)).Nodup
  | [], _, h => h
  | c :: r, L, h => fold_nd P r _ (putL_nodup h)
theorem fold_some (P : Pt) : ∀ (cs : List (Nat × Str × Sc)) (L : List ((Nat × Str) × (Int × Sc))) (k : Nat × Str), ((getL L k).isSome = true ∨ k ∈ cs.map fun c => (c.1, c.2.1)) → (getL (cs.foldl (putC P) L) k).isSome = true
  | [], _, _, h => h.elim id fun z => (nomatch z)
  | c :: r, L, k, h => by
    refine fold_some P r _ k ?_
    by_cases e : (c.1, c.2.1) = k
    · left
      unfold putC
      rw [getL_putL, if_pos e]
      rfl
    · rcases h with h | h
      · left
        unfold putC
        rw [getL_putL, if_neg e]
        exact h
      · rcases List.mem_cons.mp h with h | h
        · exact absurd h.symm e
        · exact .inr h
theorem fold_mem (P : Pt) : ∀ (cs : List (Nat × Str × Sc)) (L : List ((Nat × Str) × (Int × Sc))) (x : (Nat × Str) × (Int × Sc)), x ∈ cs.foldl (putC P) L → x ∈ L ∨ ∃ c ∈ cs, x = ((c.1, c.2.1), ((lastOf P c.1 c.2.1).1 + 1, c.2.2))
  | [], _, _, h => .inl h
  | c :: r, L, x, h => by
    rcases fold_mem P r _ x h with h | ⟨d, hd, e⟩
    · rcases putL_mem h with h | h
      · exact .inl h
      · exact .inr ⟨c, List.mem_cons_self, h⟩
    · exact .inr ⟨d, List.mem_cons_of_mem _ hd, e⟩
theorem newL_nd {P : Pt} (h : (P.last.map (·.1)).Nodup) (cs : List (Nat × Str × Sc)) : ((newL P cs).map (·.1)).Nodup := fold_nd P cs P.last h
theorem newL_some (P : Pt) (cs : List (Nat × Str × Sc)) {c : Nat × Str × Sc} (h : c ∈ cs) : (getL (newL P cs) (c.1, c.2.1)).isSome = true := fold_some P cs P.last _ (.inr (List.mem_map.mpr ⟨c, h, rfl⟩))
theorem chg_mem {M : Mkt} {P : Pt} {z : Str} {d : Nat × Str × Sc} (h : d ∈ chg M P z) : d.1 ∈ ownN z 0 M.trs ∧ d.2.1 ∈ M.evs ∧ d.2.2 = cur M P d.2.1 z d.1 ∧ d.2.2 ≠ (lastOf P d.1 d.2.1).2 := by
  obtain ⟨n, hn, h⟩ := List.mem_flatMap.mp h
  obtain ⟨e, he, rfl⟩ := List.mem_map.mp h
  obtain ⟨h1, h2⟩ := List.mem_filter.mp he
  exact ⟨hn, h1, rfl, of_decide_eq_true h2⟩
theorem own_lt {z : Str} {ts : List Trt} {n : Nat} (h : n ∈ ownN z 0 ts) : n < ts.length := by
  obtain ⟨j, t, h1, _, h3⟩ := ownN_mem.mp h
  have := (List.getElem?_eq_some_iff.mp h1).1
  omega
theorem chg_len {M : Mkt} (h : PMk M) (P : Pt) (z : Str) : (chg M P z).length ≤ 48 := by
  have h1 := flat_len (fun n => (M.evs.filter fun e => decide (cur M P e z n ≠ (lastOf P n e).2)).map fun e => (n, e, cur M P e z n)) 3 (ownN z 0 M.trs) fun n _ => by
    rw [List.length_map]
    exact Nat.le_trans (List.length_filter_le _ _) h.el
  have h2 := ownN_len z M.trs 0
  have := h.tl
  have h3 : (chg M P z).length ≤ (ownN z 0 M.trs).length * 3 := h1
  omega
theorem re_mem {M : Mkt} {P : Pt} {z : Str} {k : Nat × Str} (h : k ∈ reKeys M P z) : k.1 ∈ ownN z 0 M.trs ∧ k.2 ∈ M.evs ∧ (getL P.last k).isSome = true := by
  obtain ⟨n, hn, h⟩ := List.mem_flatMap.mp h
  obtain ⟨e, he, rfl⟩ := List.mem_map.mp h
  obtain ⟨h1, h2⟩ := List.mem_filter.mp he
  exact ⟨hn, h1, h2⟩
theorem re_len {M : Mkt} (h : PMk M) (P : Pt) (z : Str) : (reKeys M P z).length ≤ 48 := by
  have h1 := flat_len (fun n => (M.evs.filter fun e => (getL P.last (n, e)).isSome).map fun e => (n, e)) 3 (ownN z 0 M.trs) fun n _ => by
    rw [List.length_map]
    exact Nat.le_trans (List.length_filter_le _ _) h.el
  have h2 := ownN_len z M.trs 0
  have := h.tl
  have h3 : (reKeys M P z).length ≤ (ownN z 0 M.trs).length * 3 := h1
  omega
theorem fl_step {α β : Type} (f : α → List β) {l : List α} {i : Nat} {a : α} (h : l[i]? = some a) : (l.take (i + 1)).flatMap f = (l.take i).flatMap f ++ f a := by
  rw [List.take_add_one, h, List.flatMap_append]
  show _ ++ (f a ++ []) = _
  rw [List.append_nil]
theorem fi_step {α : Type} (f : α → Bool) {l : List α} {i : Nat} {a : α} (h : l[i]? = some a) : (l.take (i + 1)).filter f = (l.take i).filter f ++ if f a = true then [a] else [] := by
  rw [List.take_add_one, h, List.filter_append]
  congr 1
  show [a].filter f = _
  cases e : f a <;> simp [e]
/-! ### the estimates' steps -/
noncomputable def kvI (S : List (Int × Int)) : List (Key × V) := S.map fun p => (.inl p.1, .int p.2)
noncomputable def gD (S : List (Int × Int)) (k : Int) : Int := (getL S k).getD 0
theorem kvI_get (k : Int) : ∀ S : List (Int × Int), (valV (kvI S) (.inl k)).getD (.int 0) = .int (gD S k)
  | [] => rfl
  | (j, a) :: r => by
    unfold gD
    by_cases c : j = k
    · subst c
      rw [show valV (kvI ((j, a) :: r)) (.inl j) = some (.int a) from valV_pos rfl, show getL ((j, a) :: r) j = some a from if_pos rfl]
      rfl
    · rw [show valV (kvI ((j, a) :: r)) (.inl k) = valV (kvI r) (.inl k) from valV_neg fun z => c (Sum.inl.inj z), show getL ((j, a) :: r) k = getL r k from if_neg c]
      exact kvI_get k r
theorem kvI_some {k : Int} : ∀ {S : List (Int × Int)}, k ∈ S.map (·.1) → valV (kvI S) (.inl k) = some (.int (gD S k))
  | (j, a) :: r, h => by
    unfold gD
    by_cases c : j = k
    · subst c
      rw [show valV (kvI ((j, a) :: r)) (.inl j) = some (.int a) from valV_pos rfl, show getL ((j, a) :: r) j = some a from if_pos rfl]
      rfl
    · rw [show valV (kvI ((j, a) :: r)) (.inl k) = valV (kvI r) (.inl k) from valV_neg fun z => c (Sum.inl.inj z), show getL ((j, a) :: r) k = getL r k from if_neg c]
      refine kvI_some ?_
      rcases List.mem_cons.mp h with h | h
      · exact absurd h.symm c
      · exact h
theorem kvI_put {k v : Int} : ∀ {S : List (Int × Int)}, (S.map (·.1)).Nodup → putK (kvI S) (.inl k) (.int v) = kvI (putL S k v)
  | [], _ => rfl
  | (j, a) :: r, h => by
    have h2 := List.nodup_cons.mp h
    unfold putL
    by_cases c : j = k
    · subst c
      rw [if_pos rfl]
      unfold putK
      rw [if_pos (by simp [kvI])]
      show List.map _ ((Sum.inl j, V.int a) :: kvI r) = (Sum.inl j, V.int v) :: kvI r
      rw [List.map_cons]
      congr 1
      · simp
      · unfold kvI
        rw [List.map_map]
        refine List.map_congr_left fun q hq => ?_
        show (if (Sum.inl q.1 : Key) = Sum.inl j then _ else _) = _
        rw [if_neg fun z => h2.1 (List.mem_map.mpr ⟨q, hq, Sum.inl.inj z⟩)]
    · rw [if_neg c]
      have ih := kvI_put (k := k) (v := v) h2.2
      have nk : ¬ (Sum.inl j : Key) = Sum.inl k := fun z => c (Sum.inl.inj z)
      show putK ((Sum.inl j, V.int a) :: kvI r) (.inl k) (.int v) = (Sum.inl j, V.int a) :: kvI (putL r k v)
      rw [← ih]
      unfold putK
      rw [List.any_cons, decide_eq_false nk, Bool.false_or]
      split
      · rw [List.map_cons, if_neg nk]
      · rfl
theorem tot_put (r k v : Int) : ∀ {S : List (Int × Int)}, tot r (putL S k v) = tot r S + if k ≤ r then v - gD S k else 0
  | [] => by
    show (if k ≤ r then v else 0) + 0 = 0 + if k ≤ r then v - 0 else 0
    split <;> omega
  | (j, a) :: t => by
    unfold putL
    by_cases c : j = k
    · subst c
      rw [if_pos rfl, show gD ((j, a) :: t) j = a by unfold gD; rw [show getL ((j, a) :: t) j = some a from if_pos rfl]; rfl]
      show (if j ≤ r then v else 0) + tot r t = (if j ≤ r then a else 0) + tot r t + if j ≤ r then v - a else 0
      split <;> omega
    · rw [if_neg c, show gD ((j, a) :: t) k = gD t k by unfold gD; rw [show getL ((j, a) :: t) k = getL t k from if_neg c]]
      show (if j ≤ r then a else 0) + tot r (putL t k v) = (if j ≤ r then a else 0) + tot r t + _
      rw [tot_put r k v]
      omega
theorem Asc.at_ : ∀ {l : List (Int × Int)} {lo : Int} {j : Nat} {k x : Int}, Asc lo l → l[j]? = some (k, x) → lo ≤ k ∧ k ≤ 200
  | [], _, _, _, _, _, h => by simp at h
  | (k, x) :: r, lo, 0, _, _, ⟨h1, h2, _⟩, h => by
    cases Option.some.inj h
    exact ⟨h1, h2⟩
  | (k, x) :: r, lo, j + 1, _, _, ⟨h1, h2, h3⟩, h => by
    have := Asc.at_ h3 (show r[j]? = some _ from h)
    omega
theorem keys201 {S : List (Int × Int)} (nd : (S.map (·.1)).Nodup) (h : ∀ p ∈ S, 1 ≤ p.1 ∧ p.1 ≤ 201) : S.length ≤ 202 := by
  have := nd_len nd (s := (List.range 202).map fun i : Nat => (i : Int)) fun x hx => by
    obtain ⟨p, hp, rfl⟩ := List.mem_map.mp hx
    obtain ⟨h1, h2⟩ := h p hp
    exact List.mem_map.mpr ⟨p.1.toNat, List.mem_range.mpr (by omega), by omega⟩
  rw [List.length_map, List.length_map, List.length_range] at this
  exact this
/-- the rows that the steps make -/
noncomputable def rws (S : List (Int × Int)) : Int → List Int → List (Int × Int)
  | _, [] => []
  | l, k :: ks => if k ≤ 200 then (k, cap (l + gD S k)) :: rws S (l + gD S k) ks else rws S l ks
noncomputable def sumLe (S : List (Int × Int)) (r : Int) : List Int → Int
  | [] => 0
  | k :: ks => (if k ≤ r then gD S k else 0) + sumLe S r ks
theorem sumLe_perm (S : List (Int × Int)) (r : Int) {a b : List Int} (h : a.Perm b) : sumLe S r a = sumLe S r b := by
  induction h with
  | nil => rfl
  | cons x _ ih =>
    show _ + _ = _ + _
    rw [ih]
  | swap x y l =>
    show (if y ≤ r then gD S y else 0) + ((if x ≤ r then gD S x else 0) + sumLe S r l) = (if x ≤ r then gD S x else 0) + ((if y ≤ r then gD S y else 0) + sumLe S r l)
    omega
  | trans _ _ h1 h2 => exact h1.trans h2
theorem sumLe_tot (S : List (Int × Int)) (r : Int) : ∀ T : List (Int × Int), (∀ p ∈ T, gD S p.1 = p.2) → sumLe S r (T.map (·.1)) = tot r T
  | [], _ => rfl
  | (k, d) :: t, h => by
    show (if k ≤ r then gD S k else 0) + sumLe S r (t.map (·.1)) = (if k ≤ r then d else 0) + tot r t
    rw [sumLe_tot S r t fun p hp => h p (List.mem_cons_of_mem _ hp), h (k, d) List.mem_cons_self]
theorem gD_self : ∀ {S : List (Int × Int)}, (S.map (·.1)).Nodup → ∀ p ∈ S, gD S p.1 = p.2
  | (k, d) :: t, nd, p, hp => by
    have h2 := List.nodup_cons.mp nd
    unfold gD
    rcases List.mem_cons.mp hp with rfl | hp
    · rw [show getL ((k, d) :: t) k = some d from if_pos rfl]
      rfl
    · have c : ¬ k = p.1 := fun z => h2.1 (List.mem_map.mpr ⟨p, hp, z.symm⟩)
      rw [show getL ((k, d) :: t) p.1 = getL t p.1 from if_neg c]
      exact gD_self h2.2 p hp
theorem sumLe_above (S : List (Int × Int)) (r : Int) : ∀ ks : List Int, (∀ k ∈ ks, r < k) → sumLe S r ks = 0
  | [], _ => rfl
  | k :: ks, h => by
    have h1 := h k List.mem_cons_self
    show (if k ≤ r then gD S k else 0) + sumLe S r ks = 0
    rw [if_neg (by omega), sumLe_above S r ks fun x hx => h x (List.mem_cons_of_mem _ hx)]
    rfl
theorem rws_asc (S : List (Int × Int)) : ∀ (ks : List Int) (l lo : Int), ks.Pairwise (· < ·) → (∀ k ∈ ks, lo ≤ k) → Asc lo (rws S l ks)
  | [], _, _, _, _ => True.intro
  | k :: ks, l, lo, h, hl => by
    have h2 := List.pairwise_cons.mp h
    have h1 := hl k List.mem_cons_self
    unfold rws
    split
    · rename_i c
      exact ⟨h1, c, rws_asc S ks _ _ h2.2 fun x hx => by have := h2.1 x hx; omega⟩
    · exact rws_asc S ks _ _ h2.2 fun x hx => hl x (List.mem_cons_of_mem _ hx)
theorem rws_at (S : List (Int × Int)) (r : Int) (hr : r ≤ 200) : ∀ (ks : List Int) (l : Int), ks.Pairwise (· < ·) → atM r (cap l) (rws S l ks) = cap (l + sumLe S r ks)
  | [], l, _ => by
    show cap l = cap (l + 0)
    rw [Int.add_zero]
  | k :: ks, l, h => by
    have h2 := List.pairwise_cons.mp h
    unfold rws
    show _ = cap (l + ((if k ≤ r then gD S k else 0) + sumLe S r ks))
    by_cases c : k ≤ 200
    · rw [if_pos c]
      show (if r < k then cap l else atM r (cap (l + gD S k)) (rws S (l + gD S k) ks)) = _
      by_cases d : r < k
      · rw [if_pos d, if_neg (by omega), sumLe_above S r ks fun x hx => by have := h2.1 x hx; omega]
        rw [Int.add_zero, Int.add_zero]
      · rw [if_neg d, if_pos (by omega), rws_at S r hr ks _ h2.2, Int.add_assoc]
    · rw [if_neg c, if_neg (by omega), rws_at S r hr ks l h2.2, Int.zero_add]
theorem rws_step {S : List (Int × Int)} {ks : List Int} {i : Nat} {k : Int} (l : Int) (h : ks[i]? = some k) : rws S l (ks.drop i) = if k ≤ 200 then (k, cap (l + gD S k)) :: rws S (l + gD S k) (ks.drop (i + 1)) else rws S l (ks.drop (i + 1)) := by
  obtain ⟨h1, h2⟩ := List.getElem?_eq_some_iff.mp h
  rw [List.drop_eq_getElem_cons h1, h2]
  rfl
theorem cap_id {x : Int} (h : x ≤ 1000000000) : cap x = x := if_neg (by omega)
theorem strict_of {ns : List Int} (h : ns.Pairwise (· ≤ ·)) (nd : ns.Nodup) : ns.Pairwise (· < ·) := by
  have := List.Pairwise.and h nd
  exact this.imp fun ⟨a, b⟩ => by omega
/-- the estimate by the steps -/
theorem est_of {M : Mkt} {P : Pt} {e z : Str} {S : List (Int × Int)} {ns : List Int} (hl : lossOf M.los e z ≤ 1000000000) (nd : (S.map (·.1)).Nodup) (rg : ∀ p ∈ S, 1 ≤ p.1 ∧ p.1 ≤ 201) (ht : ∀ r, tot r S = asmF P z e r 0 M.trs) (hp : ns.Perm (S.map (·.1))) (hs : ns.Pairwise (· ≤ ·)) :
    pk 0 ((0, lossOf M.los e z) :: rws S (lossOf M.los e z) ns) = est M P e z := by
  have st := strict_of hs (hp.nodup_iff.mpr nd)
  have ge : ∀ k ∈ ns, 0 + 1 ≤ k := fun k hk => by
    obtain ⟨p, h1, rfl⟩ := List.mem_map.mp (hp.mem_iff.mp hk)
    exact (rg p h1).1
  refine sch_pk ⟨Int.le_refl _, by decide, rws_asc S ns _ _ st ge⟩ fun n hn => ?_
  show (if (n : Int) < 0 then 0 else atM (n : Int) (lossOf M.los e z) (rws S (lossOf M.los e z) ns)) = estF M P e z n
  rw [if_neg (by omega)]
  have := rws_at S (n : Int) (by omega) ns (lossOf M.los e z) st
  rw [cap_id hl] at this
  rw [this, sumLe_perm S n hp, sumLe_tot S n S (gD_self nd), ht]
  rfl
theorem loss_le {M : Mkt} (h : PMk M) (e z : Str) : lossOf M.los e z ≤ 1000000000 := by
  unfold lossOf
  cases q : M.los.find? fun p => decide (p.1 = (e, z)) with
  | none => exact (by decide : (0 : Int) ≤ 1000000000)
  | some p => exact h.los p (List.mem_of_find?_eq_some q)
theorem prog_zero : ∀ {cs : List Cov}, (∀ c ∈ cs, CvOk c) → ∀ x ∈ (prog cs 0).1, x = 0
  | [], _, x, h => by cases h
  | c :: r, hc, x, h => by
    have h0 : pays c 0 = 0 := by
      have := pays_range (hc c List.mem_cons_self) (Int.le_refl 0)
      omega
    have h : x ∈ pays c 0 :: (prog r (0 - pays c 0)).1 := h
    rw [h0, Int.sub_zero] at h
    rcases List.mem_cons.mp h with h | h
    · exact h
    · exact prog_zero (fun d hd => hc d (List.mem_cons_of_mem _ hd)) x h
theorem actv_cov {c : Str} : ∀ {ts : List Trt} {n : Nat} {p : Nat × Cov}, p ∈ actv c n ts → ∃ t ∈ ts, t.cov = p.2
  | [], _, _, h => by cases h
  | t :: r, n, p, h => by
    unfold actv at h
    split at h
    · rcases List.mem_cons.mp h with h | h
      · exact ⟨t, List.mem_cons_self, by rw [h]⟩
      · obtain ⟨u, hu, e⟩ := actv_cov h
        exact ⟨u, List.mem_cons_of_mem _ hu, e⟩
    · obtain ⟨u, hu, e⟩ := actv_cov h
      exact ⟨u, List.mem_cons_of_mem _ hu, e⟩
theorem payN_zero {ts : List Trt} (h : ∀ t ∈ ts, CvOk t.cov) (c : Str) (n : Nat) : payN ts c n 0 = 0 := by
  unfold payN
  cases e : getL (((actv c 0 ts).map (·.1)).zip (cedeP c ts 0).1) n with
  | none => rfl
  | some a =>
    have hm := (List.of_mem_zip (getL_mem e)).2
    refine prog_zero (fun d hd => ?_) a hm
    obtain ⟨p, hp, rfl⟩ := List.mem_map.mp hd
    obtain ⟨t, ht, e2⟩ := actv_cov hp
    rw [← e2]
    exact h t ht
theorem pairsN_get (n : Nat) : ∀ l : List (Nat × Int), (valV (l.map fun p => ((.inl (p.1 : Int) : Key), V.int p.2)) (.inl (n : Int))).getD (.int 0) = .int ((getL l n).getD 0)
  | [] => rfl
  | (j, a) :: r => by
    by_cases c : j = n
    · subst c
      rw [List.map_cons, valV_pos rfl, show getL ((j, a) :: r) j = some a from if_pos rfl]
      rfl
    · rw [List.map_cons, valV_neg (fun z => c (by have : (j : Int) = (n : Int) := Sum.inl.inj z; omega)), show getL ((j, a) :: r) n = getL r n from if_neg c]
      exact pairsN_get n r
theorem atM_map (p : Int → Int) : ∀ (l : List (Int × Int)) (r f : Int), atM r (p f) (l.map fun q => (q.1, p q.2)) = p (atM r f l)
  | [], _, _ => rfl
  | (k, x) :: t, r, f => by
    show (if r < k then p f else atM r (p x) (t.map fun q => (q.1, p q.2))) = p (if r < k then f else atM r x t)
    rw [atM_map p t r x]
    split <;> rfl
theorem Asc.map (p : Int → Int) : ∀ {l : List (Int × Int)} {lo : Int}, Asc lo l → Asc lo (l.map fun q => (q.1, p q.2))
  | [], _, _ => True.intro
  | (k, x) :: t, _, ⟨h1, h2, h3⟩ => ⟨h1, h2, h3.map p⟩
theorem cur_of {M : Mkt} (hok : PMk M) (P : Pt) (e c : Str) (n : Nat) : pk 0 ((est M P e c).map fun q => (q.1, payN M.trs c n q.2)) = cur M P e c n := by
  refine sch_pk ((sch_norm _).asc.map _) fun r hr => ?_
  have := atM_map (payN M.trs c n) (est M P e c) (r : Int) 0
  rw [payN_zero (fun t ht => (hok.ok.ok t ht).c)] at this
  rw [this]
  unfold est
  rw [sch_at _ hr]
  rfl
theorem sch_len (f : Nat → Int) : (sch f).length ≤ 201 := by
  have := Asc.len (sch_norm f).asc (by decide)
  omega
noncomputable def RwD (K : PySem.W.Frag) (ts : List Trt) (c : Str) (H : Hp) (v : V) (p : Int × Int) : Prop := ∃ t d : Addr, v = .ref t ∧ SqT K H t [.int p.1, .ref d] ∧ H d = some (.dK (pairsK ((actv c 0 ts).map (·.1)) (cedeP c ts p.2).1))
theorem RwD.same {K : PySem.W.Frag} {ts : List Trt} {c : Str} {H H' : Hp} {v : V} {p : Int × Int} (e : Same H H') (h : RwD K ts c H v p) : RwD K ts c H' v p :=
  let ⟨t, d, h1, h2, h3⟩ := h; ⟨t, d, h1, same_sqt e h2, e _ _ h3⟩
theorem paired_add {α β : Type} {R : α → β → Prop} {x : α} {y : β} (r : R x y) : ∀ {xs : List α} {ys : List β}, Paired R xs ys → Paired R (xs ++ [x]) (ys ++ [y])
  | _, _, .nil => .cons r .nil
  | _, _, .cons a t => .cons a (paired_add r t)
/-- the value of a dict whose keys are different numbers -/
theorem cu_val {R : V → Nat → Prop} : ∀ {kv : List (Key × V)} {ns : List Nat}, Paired (fun (p : Key × V) (n : Nat) => p.1 = .inl (n : Int) ∧ R p.2 n) kv ns → ∀ {n : Nat}, n ∈ ns → ∃ v, valV kv (.inl (n : Int)) = some v ∧ R v n
  | _, _, .nil, n, h => by cases h
  | _, _, .cons (a := p) (b := m) ⟨r1, r2⟩ t, n, h => by
    by_cases c : m = n
    · subst c
      exact ⟨_, valV_pos r1, r2⟩
    · rw [valV_neg (fun z => c (by rw [r1] at z; have : (m : Int) = (n : Int) := Sum.inl.inj z; omega))]
      refine cu_val t ?_
      rcases List.mem_cons.mp h with h | h
      · exact absurd h.symm c
      · exact h
theorem cu_new {R : V → Nat → Prop} : ∀ {kv : List (Key × V)} {ns : List Nat}, Paired (fun (p : Key × V) (n : Nat) => p.1 = .inl (n : Int) ∧ R p.2 n) kv ns → ∀ {n : Nat}, n ∉ ns → valV kv (.inl (n : Int)) = none
  | _, _, .nil, n, h => rfl
  | _, _, .cons (a := p) (b := m) ⟨r1, r2⟩ t, n, h => by
    rw [valV_neg (fun z => h (by rw [r1] at z; have e : (m : Int) = (n : Int) := Sum.inl.inj z; rw [show n = m by omega]; exact List.mem_cons_self))]
    exact cu_new t fun z => h (List.mem_cons_of_mem _ z)
/-- current: what an insurer's treaties pay, event by event -/
noncomputable def CvAt (K : PySem.W.Frag) (H : Hp) (d : Addr) (M : Mkt) (P : Pt) (z : Str) (es : List Str) : Prop := ∃ kv, H d = some (.dK kv) ∧ Paired (fun (p : Key × V) (e : Str) => p.1 = .inr e ∧ ∃ b, p.2 = .ref b ∧ b ≠ d ∧ CuAt K H b M P e z) kv es
theorem cv_val {R : V → Str → Prop} : ∀ {kv : List (Key × V)} {es : List Str}, Paired (fun (p : Key × V) (e : Str) => p.1 = .inr e ∧ R p.2 e) kv es → ∀ {e : Str}, e ∈ es → ∃ v, valV kv (.inr e) = some v ∧ R v e
  | _, _, .nil, e, h => by cases h
  | _, _, .cons (a := p) (b := m) ⟨r1, r2⟩ t, e, h => by
    by_cases c : m = e
    · subst c
      exact ⟨_, valV_pos r1, r2⟩
    · rw [valV_neg (fun z => c (by rw [r1] at z; exact Sum.inr.inj z))]
      refine cv_val t ?_
      rcases List.mem_cons.mp h with h | h
      · exact absurd h.symm c
      · exact h
theorem cv_new {R : V → Str → Prop} : ∀ {kv : List (Key × V)} {es : List Str}, Paired (fun (p : Key × V) (e : Str) => p.1 = .inr e ∧ R p.2 e) kv es → ∀ {e : Str}, e ∉ es → valV kv (.inr e) = none
  | _, _, .nil, e, h => rfl
  | _, _, .cons (a := p) (b := m) ⟨r1, r2⟩ t, e, h => by
    rw [valV_neg (fun z => h (by rw [r1] at z; rw [← (Sum.inr.inj z : m = e)]; exact List.mem_cons_self))]
    exact cv_new t fun z => h (List.mem_cons_of_mem _ z)
theorem not_take {α : Type} [DecidableEq α] {l : List α} (nd : l.Nodup) {i : Nat} {a : α} (h : l[i]? = some a) : a ∉ l.take i := fun hm => by
  obtain ⟨j, hj⟩ := List.getElem?_of_mem hm
  rw [List.getElem?_take] at hj
  split at hj
  · rename_i lt
    have e1 := List.getElem?_eq_some_iff.mp hj
    have e2 := List.getElem?_eq_some_iff.mp h
    have pw := List.pairwise_iff_getElem.mp nd j i e1.1 e2.1 lt
    exact pw (e1.2.trans e2.2.symm)
  · cases hj
/-! ### deeds at a post -/
theorem dg_pmk {M : Mkt} (h : DgMkt M) : PMk M := by
  refine ⟨h.ok, by have := h.il; omega, by have := h.el; omega, h.tl, ?_, fun p hp => by have := (h.l p hp).2.2.2; omega⟩
  obtain ⟨k, _, _, e⟩ := h.e
  rw [e]
  exact (show twain.Nodup by decide +kernel).sublist (List.take_sublist _ _)
theorem PtOk.mkt {M M' : Mkt} {P : Pt} (h : PtOk M P) (e1 : M'.ins = M.ins) (e2 : M'.evs = M.evs) (e3 : M'.trs.length = M.trs.length) : PtOk M' P := by
  refine ⟨fun x hx => ?_, h.lnd, fun x hx => ?_, h.rnd, fun c hc => ?_, h.len⟩
  · rw [e2, e3]
    exact h.l x hx
  · rw [e1, e2, e3]
    exact h.r x hx
  · rw [e1, e2, e3]
    exact h.n c hc
theorem PtOk.nil (M : Mkt) (o : HO) : PtOk M ⟨[], [], [], o⟩ := ⟨fun x hx => (nomatch hx), List.nodup_nil, fun x hx => (nomatch hx), List.nodup_nil, fun c hc => (nomatch hc), Nat.zero_le _⟩
theorem insP_mem {ps : List (Option Str × Int)} {z : Str} (h : z ∈ insP ps) : ∃ e ∈ ps, e.1 = some z := by
  obtain ⟨e, he, q⟩ := List.mem_filterMap.mp h
  exact ⟨e, he, q⟩
theorem rows_mem {ts : List Trt} {L : List ((Nat × Str) × (Int × Sc))} {ks : List (Nat × Str)} {c : Ntc} (h : c ∈ rowsOf ts L ks) : (c.n, c.e) ∈ ks ∧ c.z ∈ insP (ts.getD c.n ⟨"", .share 1, [], false⟩).pan ∧ c.q = ((getL L (c.n, c.e)).getD (0, [])).1 ∧ c.s = ((getL L (c.n, c.e)).getD (0, [])).2 := by
  obtain ⟨k, hk, h⟩ := List.mem_flatMap.mp h
  obtain ⟨z, hz, rfl⟩ := List.mem_map.mp h
  exact ⟨hk, hz, rfl, rfl⟩
theorem pan_in {M : Mkt} (hok : TrsOk M.ins M.trs) {n : Nat} (hn : n < M.trs.length) {z : Str} (h : z ∈ insP (M.trs.getD n ⟨"", .share 1, [], false⟩).pan) : z ∈ M.ins := by
  obtain ⟨e, he, hz⟩ := insP_mem h
  have ht : M.trs.getD n ⟨"", .share 1, [], false⟩ ∈ M.trs := by
    rw [List.getD_eq_getElem?_getD, List.getElem?_eq_getElem hn]
    exact List.getElem_mem hn
  exact hok.mem _ ht e he z hz
theorem PtOk.enter {M : Mkt} {P : Pt} {L : List ((Nat × Str) × (Int × Sc))} {ks : List (Nat × Str)} (h : PtOk M P) (hok : PMk M) (hk : ∀ k ∈ ks, k.1 < M.trs.length ∧ k.2 ∈ M.evs) (hs : ∀ x ∈ L, ∃ f, x.2.2 = sch f) (hl : P.nts.length + (rowsOf M.trs L ks).length ≤ 2000) : PtOk M (enterP P (rowsOf M.trs L ks)) := by
  refine ⟨h.l, h.lnd, h.r, h.rnd, fun c hc => ?_, by show (P.nts ++ _).length ≤ 2000; rw [List.length_append, List.length_map]; exact hl⟩
  rcases List.mem_append.mp (show some c ∈ P.nts ++ (rowsOf M.trs L ks).map some from hc) with hc | hc
  · exact h.n c hc
  · obtain ⟨d, hd, e⟩ := List.mem_map.mp hc
    cases e
    obtain ⟨h1, h2, _, h4⟩ := rows_mem hd
    obtain ⟨g1, g2⟩ := hk _ h1
    refine ⟨pan_in hok.ok g1 h2, g1, g2, ?_⟩
    rw [h4]
    cases g : getL L (c.n, c.e) with
    | none => exact ⟨fun _ => 0, sch_zero.symm⟩
    | some a => exact hs _ (getL_mem g)
theorem newL_sch {M : Mkt} {P : Pt} (h : PtOk M P) (z : Str) : ∀ x ∈ sendL M P z, x.1.1 < M.trs.length ∧ x.1.2 ∈ M.evs ∧ ∃ f, x.2.2 = sch f := fun x hx => by
  rcases fold_mem P (chg M P z) P.last x hx with hx | ⟨c, hc, rfl⟩
  · exact h.l x hx
  · obtain ⟨h1, h2, h3, _⟩ := chg_mem hc
    exact ⟨own_lt h1, h2, _, h3⟩
theorem PtOk.send {M : Mkt} {P : Pt} (h : PtOk M P) (hok : PMk M) (z : Str) (hl : P.nts.length + (sendN M P z).length ≤ 2000) : PtOk M (sendP M P z) := by
  have hs := newL_sch h z
  have e := PtOk.enter (L := sendL M P z) (ks := (chg M P z).map fun d : Nat × Str × Sc => (d.1, d.2.1)) h hok (fun k hk => ?_) (fun x hx => (hs x hx).2.2) hl
  · exact ⟨hs, newL_nd h.lnd _, e.r, e.rnd, e.n, e.len⟩
  · obtain ⟨d, hd, rfl⟩ := List.mem_map.mp hk
    exact ⟨own_lt (chg_mem hd).1, (chg_mem hd).2.1⟩
theorem PtOk.re {M : Mkt} {P : Pt} (h : PtOk M P) (hok : PMk M) (z : Str) (hl : P.nts.length + (reN M P z).length ≤ 2000) : PtOk M (enterP P (reN M P z)) :=
  PtOk.enter (L := P.last) (ks := reKeys M P z) h hok (fun k hk => ⟨own_lt (re_mem hk).1, (re_mem hk).2.1⟩) (fun x hx => (h.l x hx).2.2) hl
theorem PtOk.dlv {M : Mkt} {P : Pt} (h : PtOk M P) {x : Int} {c : Ntc} (hc : ntAt P x = some c) : PtOk M (dlvP P c) := by
  unfold dlvP
  split
  · exact h
  · obtain ⟨h1, h2, h3, h4⟩ := h.n c (List.mem_of_getElem? (ntAt_of hc).2)
    refine ⟨h.l, h.lnd, fun y hy => ?_, putL_nodup h.rnd, h.n, h.len⟩
    rcases putL_mem hy with hy | rfl
    · exact h.r y hy
    · exact ⟨h1, h2, h3, h4⟩
theorem PtOk.drp {M : Mkt} {P : Pt} (h : PtOk M P) (x : Int) : PtOk M (dropP P x) := by
  refine ⟨h.l, h.lnd, h.r, h.rnd, fun c hc => ?_, by show (P.nts.set _ _).length ≤ 2000; rw [List.length_set]; exact h.len⟩
  rcases List.mem_or_eq_of_mem_set (show some c ∈ P.nts.set (x - 1).toNat none from hc) with hc | hc
  · exact h.n c hc
  · cases hc
/-- at most thirty notices are sent at once -/
theorem insP_le3 {M : Mkt} (hg : DgMkt M) {t : Trt} (ht : t ∈ M.trs) : (insP t.pan).length ≤ 3 := by
  obtain ⟨hc, hd, _⟩ := hg.trs t ht
  have nd : (insP t.pan).Nodup := by
    have h1 := hd.nd
    unfold pnames at h1
    unfold insP
    have : ∀ ps : List (Option Str × Int), (ps.map (·.1)).Nodup → (ps.filterMap (·.1)).Nodup := fun ps => by
      induction ps with
      | nil => exact fun _ => List.nodup_nil
      | cons e r ih =>
        intro h
        rw [List.map_cons, List.nodup_cons] at h
        obtain ⟨o, s⟩ := e
        cases o with
        | none => exact ih h.2
        | some z =>
          show (z :: r.filterMap (·.1)).Nodup
          refine List.nodup_cons.mpr ⟨fun hz => h.1 ?_, ih h.2⟩
          obtain ⟨e, he, q⟩ := List.mem_filterMap.mp hz
          exact List.mem_map.mpr ⟨e, he, q⟩
    exact this _ h1
  have := nd_len nd (s := M.ins.erase t.ced) fun z hz => by
    obtain ⟨e, he, q⟩ := insP_mem hz
    rcases hd.may e.1 (List.mem_map.mpr ⟨e, he, rfl⟩) with h | ⟨y, h, hy, hne⟩
    · rw [q] at h
      cases h
    · rw [q] at h
      cases h
      exact (List.mem_erase_of_ne hne).mpr hy
  rw [List.length_erase_of_mem hc] at this
  have := hg.il
  omega
theorem rows_30 {M : Mkt} (hg : DgMkt M) (h5 : M.trs.length ≤ 5) {L : List ((Nat × Str) × (Int × Sc))} {ks : List (Nat × Str)} (hk : ∀ k ∈ ks, k.1 < M.trs.length) (hl : ks.length ≤ 10) : (rowsOf M.trs L ks).length ≤ 30 := by
  have := flat_len (fun k : Nat × Str => (insP ((M.trs.getD k.1 ⟨"", .share 1, [], false⟩).pan)).map fun z => (⟨z, k.1, k.2, ((getL L k).getD (0, [])).1, ((getL L k).getD (0, [])).2⟩ : Ntc)) 3 ks fun k h => by
    rw [List.length_map]
    have hn := hk k h
    rw [List.getD_eq_getElem?_getD, List.getElem?_eq_getElem hn]
    exact insP_le3 hg (List.getElem_mem hn)
  have h2 : (rowsOf M.trs L ks).length ≤ ks.length * 3 := this
  omega
theorem chg_10 {M : Mkt} (hg : DgMkt M) (h5 : M.trs.length ≤ 5) (P : Pt) (z : Str) : (chg M P z).length ≤ 10 := by
  have h1 := flat_len (fun n => (M.evs.filter fun e => decide (cur M P e z n ≠ (lastOf P n e).2)).map fun e => (n, e, cur M P e z n)) 2 (ownN z 0 M.trs) fun n _ => by
    rw [List.length_map]
    exact Nat.le_trans (List.length_filter_le _ _) hg.el.2
  have h2 := ownN_len z M.trs 0
  have h3 : (chg M P z).length ≤ (ownN z 0 M.trs).length * 2 := h1
  omega
theorem re_10 {M : Mkt} (hg : DgMkt M) (h5 : M.trs.length ≤ 5) (P : Pt) (z : Str) : (reKeys M P z).length ≤ 10 := by
  have h1 := flat_len (fun n => (M.evs.filter fun e => (getL P.last (n, e)).isSome).map fun e => (n, e)) 2 (ownN z 0 M.trs) fun n _ => by
    rw [List.length_map]
    exact Nat.le_trans (List.length_filter_le _ _) hg.el.2
  have h2 := ownN_len z M.trs 0
  have h3 : (reKeys M P z).length ≤ (ownN z 0 M.trs).length * 2 := h1
  omega
theorem send_30 {M : Mkt} (hg : DgMkt M) (h5 : M.trs.length ≤ 5) (P : Pt) (z : Str) : (sendN M P z).length ≤ 30 := by
  refine rows_30 hg h5 (fun k hk => ?_) (by rw [List.length_map]; exact chg_10 hg h5 P z)
  obtain ⟨d, hd, rfl⟩ := List.mem_map.mp hk
  exact own_lt (chg_mem hd).1
theorem re_30 {M : Mkt} (hg : DgMkt M) (h5 : M.trs.length ≤ 5) (P : Pt) (z : Str) : (reN M P z).length ≤ 30 := rows_30 hg h5 (fun k hk => own_lt (re_mem hk).1) (re_10 hg h5 P z)
noncomputable def pickN (ns : List Int) (x : Int) : Int := ns.getD (x % (ns.length : Int)).toNat 0
theorem pickN_at {ns : List Int} (x : Int) (h : 1 ≤ ns.length) : pickN ns x ∈ ns ∧ atI (ns.map V.int) (x % ((ns.map V.int).length : Nat)) = some (.int (pickN ns x)) := by
  rw [List.length_map]
  have h1 := Int.emod_nonneg x (show ((ns.length : Nat) : Int) ≠ 0 by omega)
  have h2 := Int.emod_lt_of_pos x (show (0 : Int) < ((ns.length : Nat) : Int) by omega)
  unfold pickN
  generalize x % (ns.length : Int) = y at h1 h2 ⊢
  obtain ⟨k, rfl⟩ : ∃ k : Nat, y = (k : Int) := ⟨y.toNat, by omega⟩
  have hk : k < ns.length := by omega
  rw [Int.toNat_natCast, List.getD_eq_getElem?_getD, List.getElem?_eq_getElem hk]
  exact ⟨List.getElem_mem hk, atI_nat (at_map (List.getElem?_eq_getElem hk))⟩
theorem left_nt {P : Pt} {x : Int} (h : x ∈ leftOf P) : ∃ c, ntAt P x = some c := by
  obtain ⟨j, c, hj, ex⟩ := leftF_mem.mp h
  exact ⟨c, ntAt_in (by omega) (by rw [show (x - 1).toNat = j by omega]; exact hj)⟩
noncomputable def deedM (M : Mkt) (P : Pt) (digit more : Int) : Mkt × Pt :=
  if digit % 8 < 3 then (M, sendP M P (pickS M.ins more))
  else if digit % 8 < 5 ∧ leftOf P ≠ [] then (M, match ntAt P (pickN (leftOf P) more) with | some c => dlvP P c | none => P)
  else if digit % 8 = 5 ∧ leftOf P ≠ [] then (M, dropP P (pickN (leftOf P) more))
  else if digit % 8 = 6 then (M, enterP P (reN M P (pickS M.ins more)))
  else (lossD M more, P)
/-- what holds of a post and its market between deeds -/
structure DOk (M : Mkt) (P : Pt) : Prop where
  g : DgMkt M
  p : PtOk M P
  t : M.trs.length ≤ 5
theorem DOk.deed {M : Mkt} {P : Pt} (h : DOk M P) (digit more : Int) (hl : P.nts.length + 30 ≤ 2000) : DOk (deedM M P digit more).1 (deedM M P digit more).2 ∧ (deedM M P digit more).2.nts.length ≤ P.nts.length + 30 := by
  have hm := dg_pmk h.g
  have s30 := send_30 h.g h.t P (pickS M.ins more)
  have r30 := re_30 h.g h.t P (pickS M.ins more)
  have le : ∀ rs : List Ntc, rs.length ≤ 30 → (enterP P rs).nts.length ≤ P.nts.length + 30 := fun rs hr => by
    show (P.nts ++ rs.map some).length ≤ _
    rw [List.length_append, List.length_map]
    omega
  unfold deedM
  split
  · exact ⟨⟨h.g, h.p.send hm _ (by omega), h.t⟩, le _ s30⟩
  split
  · cases e : ntAt P (pickN (leftOf P) more) with
    | none => exact ⟨h, Nat.le_add_right _ _⟩
    | some c =>
      refine ⟨⟨h.g, h.p.dlv e, h.t⟩, ?_⟩
      show (dlvP P c).nts.length ≤ _
      unfold dlvP
      split
      · exact Nat.le_add_right _ _
      · exact Nat.le_add_right _ _
  split
  · refine ⟨⟨h.g, h.p.drp _, h.t⟩, ?_⟩
    show (P.nts.set _ _).length ≤ _
    rw [List.length_set]
    exact Nat.le_add_right _ _
  split
  · exact ⟨⟨h.g, h.p.re hm _ (by omega), h.t⟩, le _ r30⟩
  · obtain ⟨e1, e2, e3⟩ := lossD_eq M more
    exact ⟨⟨lossD_ok h.g more, h.p.mkt e1 e2 (by rw [e3]), by rw [e3]; exact h.t⟩, Nat.le_add_right _ _⟩
/-- all but a post, its market and its notices stands as it stood -/
noncomputable def FrP (p m an : Addr) (H : Hp) (a2 : Addr) (H' : Hp) : Prop := (∀ b u, b ≠ p → b ≠ m → b ≠ an → H b = some u → H' b = some u) ∧ (a2 = an ∨ H a2 = none)
theorem FrP.of {p m an : Addr} {H H' : Hp} (s : Same H H') : FrP p m an H an H' := ⟨fun b u _ _ _ h => s b u h, .inl rfl⟩
theorem FrP.trans {p m an a1 a2 : Addr} {H H1 H2 : Hp} {u v : HO} (x : FrP p m an H a1 H1) (y : FrP p m a1 H1 a2 H2) (hp : H1 p = some u) (hm : H1 m = some v) : FrP p m an H a2 H2 := by
  refine ⟨fun b w n1 n2 n3 h => ?_, ?_⟩
  · have h1 := x.1 b w n1 n2 n3 h
    refine y.1 b w n1 n2 (fun e => ?_) h1
    rcases x.2 with q | q
    · exact n3 (e.trans q)
    · rw [e] at h
      rw [h] at q
      cases q
  · rcases y.2 with q | q
    · rw [q]
      exact x.2
    · by_cases e : a2 = an
      · exact .inl e
      · right
        cases h : H a2 with
        | none => rfl
        | some w =>
          have n1 : a2 ≠ p := fun z => by
            rw [z, hp] at q
            cases q
          have n2 : a2 ≠ m := fun z => by
            rw [z, hm] at q
            cases q
          have := x.1 a2 w n1 n2 e h
          rw [q] at this
          cases this
theorem FrP.bar2 {p m an a2 : Addr} {k k' : Bool} {H H' : Hp} (b : Bar2 p an H H') (nw : Nw H an a2 k k') : FrP p m an H a2 H' := ⟨fun c u n1 _ n3 h => b c u n1 n3 h, nw.2.imp (fun h => h.2) fun h => h.2⟩
theorem FrP.barp {p m an : Addr} {H H' : Hp} (b : Bar p H H') : FrP p m an H an H' := ⟨fun c u n1 _ _ h => b c u n1 h, .inl rfl⟩
theorem FrP.barm {p m an : Addr} {H H' : Hp} (b : Bar m H H') : FrP p m an H an H' := ⟨fun c u _ n2 _ h => b c u n2 h, .inl rfl⟩
theorem km_b2 {p m an C dy : Addr} {fs : List (Str × V)} {H H' : Hp} (w : H m = some (.ins C dy fs)) (np : m ≠ p) (isl : ∀ u, H an = some u → ∃ xs, u = .lst xs) (b : Bar2 p an H H') : Km m H H' := km_keep w (b _ _ np (fun z => by
  obtain ⟨_, e⟩ := isl _ (z ▸ w)
  cases e) w)
noncomputable def sp_law_deed (K : PySem.W.Frag) (C CM : Addr) : Sp := fun vs H Q _ => ∃ (p m an : Addr) (k : Bool) (M : Mkt) (P : Pt) (digit more : Int), vs = [.ref p, .int digit, .int more] ∧ PostAt K C H p m an k P ∧ MktAt K CM H m M ∧ DOk M P ∧ P.nts.length + 30 ≤ 2000 ∧
  ∀ v a2 k2 H', FrP p m an H a2 H' → Kx p H H' → Km m H H' → (k = false → k2 = false ∧ a2 = an) → PostAt K C H' p m a2 k2 (deedM M P digit more).2 → MktAt K CM H' m (deedM M P digit more).1 → Q v H'
/-! ### for x, k in zip(list or tuple, range(n)) -/
/-! ### the law's own next round, over a market -/
section
variable {X : Cx}
end
/-! the order in which treaties are reckoned does not matter -/
/-! ### list(reversed(a list)) -/
section
open PySem PySem.Builtin
theorem call_list_rev {prog : Program} {w : World} {A : Around} {E : Value → Shared → Prop} {s : Shared} {it l : Addr} {items : Array Value} {Q : Value → Shared → Prop} (hh : A.handled = none) (hit : s.heap.IsRevIter it l ((items.size : Int) - 1)) (hl : s.heap.IsList l items) (hne : l ≠ it) (hn : items.size ≤ sizeLine)
    (hQ : ∀ (h' : Heap) (tk : Nat) (acc : Array Value) (c : Nat), (∀ b o, b ≠ it → s.heap.get? b = some o → h'.get? b = some o) → ItemsOf (fun i v => items[items.size - 1 - i]? = some v) acc items.size →
      h'.get? s.heap.objs.size = some { cls := .type "list", dict := none, data := .seq acc c, slots := #[] } → Q (.ref s.heap.objs.size) { s with heap := h', toks := tk }) :
    wpAny (model prog w) A (call (.type "list") [.ref it]) Q E s := by
  have W := (Walks.listRev (prog := prog) (w := w) (A := A.in1.in1) hh it l hne items).toS
  obtain ⟨oi, hoi, _⟩ := id hit
  obtain ⟨ol, hol, _⟩ := id hl
  have hSi : s.heap.objs.size ≠ it := Nat.ne_of_gt (Heap.lt_size hoi)
  have hSl : s.heap.objs.size ≠ l := Nat.ne_of_gt (Heap.lt_size hol)
  have hSf : s.heap.objs.size ∉ [it, l] := by simp only [List.mem_cons, List.not_mem_nil, or_false, not_or]; exact ⟨hSi, hSl⟩
  refine callType_codes (Q₁ := fun obj s₁ => obj = .ref s.heap.objs.size ∧ s₁ = { s with heap := s.heap.push { cls := .type "list", data := .seq #[] } }) PySem.F.called_list (PySem.F.typeCall_list_1 _) PySem.F.entry_list_init
    (code_list_new _ ⟨rfl, rfl⟩) fun obj s₁ h₁ => ?_
  obtain ⟨rfl, rfl⟩ := h₁
  have hS : (s.heap.push { cls := .type "list", data := .seq #[] }).get? s.heap.objs.size = some { cls := .type "list", data := .seq #[] } := Heap.get?_push_size _ rfl
  refine ⟨⟨_, hS, rfl⟩, PySem.F.args_list_init_2 _ _, ?_⟩
  show wpAny _ _ (do let old ← Builtin.List.listItems (.ref s.heap.objs.size); Builtin.List.listUpdate (.ref s.heap.objs.size) (fun _ => #[]); letGo old.toList.reverse; Builtin.List.listExtendWith (.ref s.heap.objs.size) (.ref it) .none) _ _ _
  refine wpAny_bind ?_
  unfold Builtin.List.listItems
  refine wpAny_bind (wpAny_seqItems hS rfl (wpAny_pure ?_))
  show wpAny _ _ (updateSeq s.heap.objs.size (fun _ => #[]) >>= fun _ => letGo (#[] : Array Value).toList.reverse >>= fun _ => Builtin.List.listExtendWith (.ref s.heap.objs.size) (.ref it) .none) _ _ _
  refine wpAny_bind (wpAny_updateSeq hS rfl ?_)
  refine wpAny_bind (wpAny_letGo ?_)
  obtain ⟨h2, e2⟩ : ∃ h2, (s.heap.push { cls := .type "list", data := .seq #[] }).update s.heap.objs.size (Obj.mapSeq fun _ => #[]) = h2 := ⟨_, rfl⟩
  have k2 : ∀ b o, s.heap.get? b = some o → h2.get? b = some o := fun b o g => by
    rw [← e2, Heap.get?_update_other _ _ (Nat.ne_of_gt (Heap.lt_size g))]
    exact Heap.get?_push_of_some _ g
  have hS2 : h2.get? s.heap.objs.size = some { cls := .type "list", dict := none, data := .seq #[] 0, slots := #[] } := by
    rw [← e2]
    exact Heap.get?_update_self _ hS rfl
  rw [e2]
  clear e2
  have hit1 : h2.IsRevIter it l ((items.size : Int) - 1) := hit.at fun o e => k2 _ _ e
  have hl1 : h2.IsList l items := hl.at fun o e => k2 _ _ e
  have hT : ({ s with heap := h2 } : Shared).TypeIs (.ref it) "list_reverseiterator" := Heap.IsRevIter.typeIs (s := { s with heap := h2 }) hit1
  have h1 : Builtin.List.listSameRef (.ref s.heap.objs.size) (.ref it) = false := by simp [Builtin.List.listSameRef, hSi]
  unfold Builtin.List.listExtendWith
  refine wpAny_bind (wpAny_typeOf hT ?_)
  rw [if_neg (by rw [h1]; decide)]
  refine wpAny_bind (wpAny_pyIter_revIter (s := { s with heap := h2 }) hit1 ?_)
  refine wpAny_bind (wpAny_holding ?_)
  unfold Builtin.List.listLengthHint
  refine wpAny_bind (wpAny_specialOf hT RT.nolen_lri ?_)
  show wpAny _ _ (specialOf (Value.ref it) (Str.ofString "__length_hint__") >>= _) _ _ _
  refine wpAny_bind (wpAny_specialOf hT RT.hint_lri ?_)
  generalize hid : ("list_reverseiterator.__length_hint__" : String) = id0
  wp_delta
  rw [show splitId id0 = some ("list_reverseiterator", "__length_hint__") from by subst hid; decide +kernel]
  subst hid
  refine wpAny_bind (wpAny_isInstance (b := true) hT (by rw [isSubtype_type]; kernel_rfl) ?_)
  refine wpAny_pure ?_
  rw [if_neg (by decide)]
  have e0 : ((items.size : Nat) : Int) - 1 - ((0 : Nat) : Int) = (items.size : Int) - 1 := by omega
  refine wpAny_pure ⟨plainId_quiet PySem.F.plain_extend_loop _, codeAny_extend_loopS (A := A.in1) W hn _ hSf _ items.size 0 _ _ _ rfl (Nat.zero_le _) ⟨Nat.zero_le _, by rw [e0]; exact hit1, hl1⟩ hS2 (ItemsOf.nil _) fun s' acc' c' hm hS' hacc => ?_⟩
  rw [Moved.eq_with hm] at hS' ⊢
  have := hQ s'.heap s'.toks acc' c' (fun b o hb e => hm.heap b o (fun hmem => ?_) (k2 _ _ e)) hacc hS'
  · exact ⟨rfl, this⟩
  · rcases List.mem_cons.mp hmem with e' | hmem
    · exact absurd (Heap.lt_size e) (by rw [e']; exact Nat.lt_irrefl _)
    · exact hb (List.mem_singleton.mp hmem)
/-- list(reversed(x)), x a list: a new list -/
noncomputable def tListRev (K : PySem.W.Frag) (te : TE) : TE := fun σ H Q => te σ H fun v H1 => ∃ (a : Addr) (xs : List V), v = .ref a ∧ SqL K H1 a xs ∧ ∀ q, H1 q = none → Q (.ref q) (upd H1 q (.lst xs.reverse))
theorem pe_listRev {X : Cx} {e : Expr} {te : TE} {p p2 pos pos2 : PySem.Pos} (hc : X.calm = true) (hg : Gl X "list") (hm : X.mg "list" = none) (hg2 : Gl X "reversed") (hm2 : X.mg "reversed" = none) (he : PE X e te)
    (hs : starEach [e] X.env = (false, eval e X.env) :: starEach [] X.env := by rfl)
    (hs2 : starEach [.Call (.Name "reversed" p2) [e] [] pos2] X.env = (false, eval (.Call (.Name "reversed" p2) [e] [] pos2) X.env) :: starEach [] X.env := by rfl) :
    PE X (.Call (.Name "list" p) [.Call (.Name "reversed" p2) [e] [] pos2] [] pos) (tListRev X.K te) := by
  refine ⟨fun pins s σ H Q I h => ?_⟩
  refine Call_ (ld_blt I hg hm boot_list (PyProof.Rows.callWith_type1 (args_cons (Call_ (ld_blt I hg2 hm2 PyProof.Rows.boot_reversed (PyProof.Rows.callWith_type1 (args_cons (thn (he.run pins s σ H _ I h) fun u s1 ⟨v, H1, I1, r1, q1⟩ => args_nil ?_) hs) hs rfl))) hs2) hs2 rfl))
  obtain ⟨a, xs, ev, hq, q⟩ := q1
  subst ev
  obtain rfl : u = Value.ref a := r1
  obtain ⟨its, rv, p', hz⟩ := I1.list hq
  refine call_reversed_list p'.isList (args_nil ?_)
  have hl := p'.isList
  obtain ⟨ol, hol, _⟩ := id hl
  have hne : a ≠ s1.heap.objs.size := Nat.ne_of_lt (Heap.lt_size hol)
  have hn : its.toArray.size ≤ sizeLine := by rw [List.size_toArray, ← rv.length]; exact hz
  refine call_list_rev (s := { s1 with heap := s1.heap.push (revObj a ((its.toArray.size : Int) - 1)) }) (I1.ok.hd hc) ⟨_, Heap.get?_push_size _ rfl, rfl, rfl⟩ (hl.push _) hne hn fun h' tk acc c hk hi hS => ?_
  have kp : ∀ b o, s1.heap.get? b = some o → h'.get? b = some o := fun b o g => hk b o (Nat.ne_of_lt (Heap.lt_size g)) (Heap.get?_push_of_some _ g)
  have le : s1.heap.objs.size ≤ (s1.heap.push (revObj a ((its.toArray.size : Int) - 1))).objs.size := by
    rw [Heap.size_push]
    omega
  refine ⟨.ref _, upd H1 _ (.lst xs.reverse), I1.laid (t' := tk) kp le (show ObjOk X.prog X.w _ _ _ (.lst xs.reverse) from ⟨by rw [List.length_reverse]; exact hz, acc.toList, c, RT.vals_rev rv hi, ?_⟩), rfl, q _ (I1.hok.fresh le)⟩
  rw [Array.toArray_toList]
  exact hS
end
/-! ### quiet posts: what stands of the sequence numbers -/
structure QI (P : Pt) : Prop where
  n : ∀ c, some c ∈ P.nts → c.q ≤ (lastOf P c.n c.e).1
  r : ∀ z n e, (recvOf P z n e).1 ≤ (lastOf P n e).1
theorem QI.nil (o : HO) : QI ⟨[], [], [], o⟩ := ⟨fun c hc => (nomatch hc), fun _ _ _ => Int.le_refl _⟩
theorem fold_ge (P : Pt) (n : Nat) (e : Str) : ∀ (cs : List (Nat × Str × Sc)) (L : List ((Nat × Str) × (Int × Sc))), (lastOf P n e).1 ≤ ((getL L (n, e)).getD (0, [])).1 →
    (lastOf P n e).1 ≤ ((getL (cs.foldl (fun L c => putL L (c.1, c.2.1) ((lastOf P c.1 c.2.1).1 + 1, c.2.2)) L) (n, e)).getD (0, [])).1
  | [], _, h => h
  | c :: r, L, h => fold_ge P n e r _ (by
      rw [getL_putL]
      split
      · rename_i x
        obtain ⟨h1, h2⟩ := Prod.mk.inj x
        rw [h1, h2]
        show _ ≤ (lastOf P n e).1 + 1
        omega
      · exact h)
theorem send_ge (M : Mkt) (P : Pt) (z : Str) (n : Nat) (e : Str) : (lastOf P n e).1 ≤ (lastOf (sendP M P z) n e).1 := fold_ge P n e (chg M P z) P.last (Int.le_refl _)
theorem QI.send {P : Pt} (h : QI P) (M : Mkt) (z : Str) : QI (sendP M P z) := by
  refine ⟨fun c hc => ?_, fun y n e => Int.le_trans (h.r y n e) (send_ge M P z n e)⟩
  rcases List.mem_append.mp (show some c ∈ P.nts ++ (sendN M P z).map some from hc) with hc | hc
  · exact Int.le_trans (h.n c hc) (send_ge M P z _ _)
  · obtain ⟨d, hd, e⟩ := List.mem_map.mp hc
    cases e
    obtain ⟨_, _, h3, _⟩ := rows_mem hd
    rw [h3]
    exact Int.le_refl _
theorem QI.re {P : Pt} (h : QI P) (M : Mkt) (z : Str) : QI (enterP P (reN M P z)) := by
  refine ⟨fun c hc => ?_, h.r⟩
  rcases List.mem_append.mp (show some c ∈ P.nts ++ (reN M P z).map some from hc) with hc | hc
  · exact h.n c hc
  · obtain ⟨d, hd, e⟩ := List.mem_map.mp hc
    cases e
    obtain ⟨_, _, h3, _⟩ := rows_mem hd
    rw [h3]
    exact Int.le_refl _
theorem recv_dlv (P : Pt) (c : Ntc) (z : Str) (n : Nat) (e : Str) : (recvOf (dlvP P c) z n e).1 = if (c.z, c.n, c.e) = (z, n, e) then (if (recvOf P c.z c.n c.e).1 < c.q then c.q else (recvOf P c.z c.n c.e).1) else (recvOf P z n e).1 := by
  unfold dlvP
  by_cases h : c.q ≤ (recvOf P c.z c.n c.e).1
  · rw [if_pos h, if_neg (show ¬ (recvOf P c.z c.n c.e).1 < c.q by omega)]
    split
    · rename_i x
      obtain ⟨h1, h2⟩ := Prod.mk.inj x
      obtain ⟨h2, h3⟩ := Prod.mk.inj h2
      rw [h1, h2, h3]
    · rfl
  · rw [if_neg h, if_pos (show (recvOf P c.z c.n c.e).1 < c.q by omega)]
    show ((getL (putL P.recv _ _) _).getD (0, [])).1 = _
    rw [getL_putL]
    split
    · rfl
    · rfl
theorem QI.dlv {P : Pt} (h : QI P) {x : Int} {c : Ntc} (hc : ntAt P x = some c) : QI (dlvP P c) := by
  have hn := h.n c (List.mem_of_getElem? (ntAt_of hc).2)
  have el : ∀ n e, lastOf (dlvP P c) n e = lastOf P n e := fun n e => by unfold dlvP; split <;> rfl
  have en : (dlvP P c).nts = P.nts := by unfold dlvP; split <;> rfl
  refine ⟨fun d hd => ?_, fun z n e => ?_⟩
  · rw [el]
    rw [en] at hd
    exact h.n d hd
  · rw [el, recv_dlv]
    split
    · rename_i x
      obtain ⟨h1, h2⟩ := Prod.mk.inj x
      obtain ⟨h2, h3⟩ := Prod.mk.inj h2
      rw [h2, h3] at hn
      have := h.r z n e
      rw [h1, h2, h3]
      split <;> omega
    · exact h.r z n e
theorem QI.drp {P : Pt} (h : QI P) (x : Int) : QI (dropP P x) := by
  refine ⟨fun c hc => ?_, h.r⟩
  rcases List.mem_or_eq_of_mem_set (show some c ∈ P.nts.set (x - 1).toNat none from hc) with hc | hc
  · exact h.n c hc
  · cases hc
theorem QI.deed {P : Pt} (h : QI P) (M : Mkt) (digit more : Int) : QI (deedM M P digit more).2 := by
  unfold deedM
  split
  · exact h.send M _
  split
  · cases e : ntAt P (pickN (leftOf P) more) with
    | none => exact h
    | some c => exact h.dlv e
  split
  · exact h.drp _
  split
  · exact h.re M _
  · exact h
/-! ### a post without notices -/
/-! ### notices tell the same; delivered in any order -/
/-- what a treaty's notices for an event say, by their sequence number -/
noncomputable def CIS (S : Nat → Str → Int → Sc) (P : Pt) : Prop := (∀ c, some c ∈ P.nts → c.s = S c.n c.e c.q) ∧ (∀ z n e, (recvOf P z n e).2 = S n e (recvOf P z n e).1) ∧ ∀ n e, (lastOf P n e).2 = S n e (lastOf P n e).1
theorem CIS.nil (o : HO) : CIS (fun _ _ _ => []) ⟨[], [], [], o⟩ := ⟨fun c hc => (nomatch hc), fun _ _ _ => rfl, fun _ _ => rfl⟩
theorem fold_or (P : Pt) (n : Nat) (e : Str) : ∀ (cs : List (Nat × Str × Sc)) (L : List ((Nat × Str) × (Int × Sc))), ((getL L (n, e)).getD (0, []) = lastOf P n e ∨ ((getL L (n, e)).getD (0, [])).1 = (lastOf P n e).1 + 1) →
    ((getL (cs.foldl (fun L c => putL L (c.1, c.2.1) ((lastOf P c.1 c.2.1).1 + 1, c.2.2)) L) (n, e)).getD (0, []) = lastOf P n e ∨ ((getL (cs.foldl (fun L c => putL L (c.1, c.2.1) ((lastOf P c.1 c.2.1).1 + 1, c.2.2)) L) (n, e)).getD (0, [])).1 = (lastOf P n e).1 + 1)
  | [], _, h => h
  | c :: r, L, h => fold_or P n e r _ (by
      rw [getL_putL]
      split
      · rename_i x
        obtain ⟨h1, h2⟩ := Prod.mk.inj x
        rw [h1, h2]
        exact .inr rfl
      · exact h)
theorem send_or (M : Mkt) (P : Pt) (z : Str) (n : Nat) (e : Str) : lastOf (sendP M P z) n e = lastOf P n e ∨ (lastOf (sendP M P z) n e).1 = (lastOf P n e).1 + 1 := fold_or P n e (chg M P z) P.last (.inl rfl)
theorem CIS.send {S : Nat → Str → Int → Sc} {P : Pt} (h : CIS S P) (hq : QI P) (M : Mkt) (z : Str) : ∃ S', CIS S' (sendP M P z) := by
  have old : ∀ n e q, q ≤ (lastOf P n e).1 → (if q ≤ (lastOf P n e).1 then S n e q else (lastOf (sendP M P z) n e).2) = S n e q := fun n e q l => if_pos l
  have new : ∀ n e, (if (lastOf (sendP M P z) n e).1 ≤ (lastOf P n e).1 then S n e (lastOf (sendP M P z) n e).1 else (lastOf (sendP M P z) n e).2) = (lastOf (sendP M P z) n e).2 := fun n e => by
    rcases send_or M P z n e with g | g
    · rw [g, if_pos (Int.le_refl _)]
      exact (h.2.2 n e).symm
    · rw [if_neg (by omega)]
  refine ⟨fun n e q => if q ≤ (lastOf P n e).1 then S n e q else (lastOf (sendP M P z) n e).2, fun c hc => ?_, fun y n e => ?_, fun n e => (new n e).symm⟩
  · rcases List.mem_append.mp (show some c ∈ P.nts ++ (sendN M P z).map some from hc) with hc | hc
    · exact (h.1 c hc).trans (old _ _ _ (hq.n c hc)).symm
    · obtain ⟨d, hd, e⟩ := List.mem_map.mp hc
      cases e
      obtain ⟨_, _, h3, h4⟩ := rows_mem hd
      have e3 : c.q = (lastOf (sendP M P z) c.n c.e).1 := h3
      have e4 : c.s = (lastOf (sendP M P z) c.n c.e).2 := h4
      show c.s = if c.q ≤ _ then _ else _
      rw [e3, e4]
      exact (new _ _).symm
  · exact (h.2.1 y n e).trans (old _ _ _ (hq.r y n e)).symm
theorem CIS.re {S : Nat → Str → Int → Sc} {P : Pt} (h : CIS S P) (M : Mkt) (z : Str) : CIS S (enterP P (reN M P z)) := by
  refine ⟨fun c hc => ?_, h.2.1, h.2.2⟩
  rcases List.mem_append.mp (show some c ∈ P.nts ++ (reN M P z).map some from hc) with hc | hc
  · exact h.1 c hc
  · obtain ⟨d, hd, e⟩ := List.mem_map.mp hc
    cases e
    obtain ⟨_, _, h3, h4⟩ := rows_mem hd
    rw [h3, h4]
    exact h.2.2 _ _
theorem recv_dlv2 (P : Pt) (c : Ntc) (z : Str) (n : Nat) (e : Str) : recvOf (dlvP P c) z n e = if (c.z, c.n, c.e) = (z, n, e) ∧ (recvOf P c.z c.n c.e).1 < c.q then (c.q, c.s) else recvOf P z n e := by
  unfold dlvP
  by_cases h : c.q ≤ (recvOf P c.z c.n c.e).1
  · rw [if_pos h, if_neg (fun x => by omega)]
  · rw [if_neg h]
    show (getL (putL P.recv _ _) _).getD (0, []) = _
    rw [getL_putL]
    by_cases x : (c.z, c.n, c.e) = (z, n, e)
    · rw [if_pos x, if_pos ⟨x, by omega⟩]
      rfl
    · rw [if_neg x, if_neg (fun y => x y.1)]
      rfl
theorem dlv_nts (P : Pt) (c : Ntc) : (dlvP P c).nts = P.nts := by unfold dlvP; split <;> rfl
theorem dlv_last (P : Pt) (c : Ntc) : (dlvP P c).last = P.last := by unfold dlvP; split <;> rfl
theorem CIS.dlv {S : Nat → Str → Int → Sc} {P : Pt} (h : CIS S P) {c : Ntc} (hc : some c ∈ P.nts) : CIS S (dlvP P c) := by
  refine ⟨fun d hd => h.1 d (by rw [← dlv_nts P c]; exact hd), fun z n e => ?_, fun n e => ?_⟩
  · rw [recv_dlv2]
    split
    · rename_i x
      obtain ⟨_, h2⟩ := Prod.mk.inj x.1
      obtain ⟨h2, h3⟩ := Prod.mk.inj h2
      rw [← h2, ← h3]
      exact h.1 c hc
    · exact h.2.1 z n e
  · have : lastOf (dlvP P c) n e = lastOf P n e := by unfold lastOf; rw [dlv_last]
    rw [this]
    exact h.2.2 n e
theorem CIS.drp {S : Nat → Str → Int → Sc} {P : Pt} (h : CIS S P) (x : Int) : CIS S (dropP P x) := by
  refine ⟨fun c hc => ?_, h.2.1, h.2.2⟩
  rcases List.mem_or_eq_of_mem_set (show some c ∈ P.nts.set (x - 1).toNat none from hc) with hc | hc
  · exact h.1 c hc
  · cases hc
theorem cis_deed {P : Pt} (hq : QI P) (h : ∃ S, CIS S P) (M : Mkt) (digit more : Int) : ∃ S, CIS S (deedM M P digit more).2 := by
  obtain ⟨S, h⟩ := h
  unfold deedM
  split
  · exact h.send hq M _
  split
  · cases e : ntAt P (pickN (leftOf P) more) with
    | none => exact ⟨S, h⟩
    | some c => exact ⟨S, h.dlv (List.mem_of_getElem? (ntAt_of e).2)⟩
  split
  · exact ⟨S, h.drp _⟩
  split
  · exact ⟨S, h.re M _⟩
  · exact ⟨S, h⟩
/-- notices delivered one after another -/
noncomputable def dlv1 (P : Pt) (x : Int) : Pt := match ntAt P x with | some c => dlvP P c | none => P
noncomputable def dlvs (P : Pt) (xs : List Int) : Pt := xs.foldl dlv1 P
theorem dlv1_nts (P : Pt) (x : Int) : (dlv1 P x).nts = P.nts := by
  unfold dlv1
  cases ntAt P x with
  | none => rfl
  | some c => exact dlv_nts P c
theorem dlv1_last (P : Pt) (x : Int) : (dlv1 P x).last = P.last := by
  unfold dlv1
  cases ntAt P x with
  | none => rfl
  | some c => exact dlv_last P c
theorem dlvs_nts : ∀ (xs : List Int) (P : Pt), (dlvs P xs).nts = P.nts
  | [], _ => rfl
  | x :: r, P => (dlvs_nts r (dlv1 P x)).trans (dlv1_nts P x)
theorem dlvs_last : ∀ (xs : List Int) (P : Pt), (dlvs P xs).last = P.last
  | [], _ => rfl
  | x :: r, P => (dlvs_last r (dlv1 P x)).trans (dlv1_last P x)
theorem nt_nts {P P' : Pt} (h : P'.nts = P.nts) (x : Int) : ntAt P' x = ntAt P x := by unfold ntAt; rw [h]
theorem dlvs_add (P : Pt) (xs : List Int) (x : Int) : dlvs P (xs ++ [x]) = dlv1 (dlvs P xs) x := by
  unfold dlvs
  rw [List.foldl_append]
  rfl
theorem dlv1_ge (P : Pt) (x : Int) (z : Str) (n : Nat) (e : Str) : (recvOf P z n e).1 ≤ (recvOf (dlv1 P x) z n e).1 := by
  unfold dlv1
  cases ntAt P x with
  | none => exact Int.le_refl _
  | some c =>
    show _ ≤ (recvOf (dlvP P c) z n e).1
    rw [recv_dlv]
    split
    · rename_i y
      obtain ⟨h1, h2⟩ := Prod.mk.inj y
      obtain ⟨h2, h3⟩ := Prod.mk.inj h2
      rw [h1, h2, h3]
      split <;> omega
    · exact Int.le_refl _
theorem dlvs_ge (z : Str) (n : Nat) (e : Str) : ∀ (xs : List Int) (P : Pt), (recvOf P z n e).1 ≤ (recvOf (dlvs P xs) z n e).1
  | [], _ => Int.le_refl _
  | x :: r, P => Int.le_trans (dlv1_ge P x z n e) (dlvs_ge z n e r (dlv1 P x))
theorem dlvs_in {c : Ntc} {x : Int} : ∀ {xs : List Int} {P : Pt}, x ∈ xs → ntAt P x = some c → c.q ≤ (recvOf (dlvs P xs) c.z c.n c.e).1
  | y :: r, P, h, hc => by
    rcases List.mem_cons.mp h with rfl | h
    · refine Int.le_trans ?_ (dlvs_ge _ _ _ r (dlv1 P x))
      unfold dlv1
      rw [hc]
      show _ ≤ (recvOf (dlvP P c) c.z c.n c.e).1
      rw [recv_dlv, if_pos rfl]
      split <;> omega
    · exact dlvs_in (xs := r) (P := dlv1 P y) h (by rw [nt_nts (dlv1_nts P y)]; exact hc)
theorem dlvs_or (z : Str) (n : Nat) (e : Str) : ∀ (xs : List Int) (P : Pt), (recvOf (dlvs P xs) z n e).1 = (recvOf P z n e).1 ∨ ∃ x ∈ xs, ∃ c, ntAt P x = some c ∧ c.z = z ∧ c.n = n ∧ c.e = e ∧ (recvOf (dlvs P xs) z n e).1 = c.q
  | [], _ => .inl rfl
  | x :: r, P => by
    rcases dlvs_or z n e r (dlv1 P x) with h | ⟨y, hy, c, h1, h2⟩
    · have e1 : (recvOf (dlvs P (x :: r)) z n e).1 = (recvOf (dlv1 P x) z n e).1 := h
      rw [e1]
      unfold dlv1
      cases hc : ntAt P x with
      | none => exact .inl rfl
      | some c =>
        show (recvOf (dlvP P c) z n e).1 = _ ∨ ∃ x ∈ _, ∃ c, _ ∧ _ ∧ _ ∧ _ ∧ (recvOf (dlvP P _) z n e).1 = _
        rw [recv_dlv2]
        split
        · rename_i q
          obtain ⟨g1, g2⟩ := Prod.mk.inj q.1
          obtain ⟨g2, g3⟩ := Prod.mk.inj g2
          exact .inr ⟨x, List.mem_cons_self, c, hc, g1, g2, g3, rfl⟩
        · exact .inl rfl
    · exact .inr ⟨y, List.mem_cons_of_mem _ hy, c, by rw [← nt_nts (dlv1_nts P x)]; exact h1, h2⟩
theorem dlvs_le {P : Pt} {xs ys : List Int} (h : ∀ x ∈ xs, x ∈ ys) (z : Str) (n : Nat) (e : Str) : (recvOf (dlvs P xs) z n e).1 ≤ (recvOf (dlvs P ys) z n e).1 := by
  rcases dlvs_or z n e xs P with g | ⟨x, hx, c, h1, rfl, rfl, rfl, h5⟩
  · rw [g]
    exact dlvs_ge z n e ys P
  · rw [h5]
    exact dlvs_in (h x hx) h1
theorem CIS.dlv1 {S : Nat → Str → Int → Sc} {P : Pt} (h : CIS S P) (x : Int) : CIS S (dlv1 P x) := by
  unfold Sd.dlv1
  cases e : ntAt P x with
  | none => exact h
  | some c => exact h.dlv (List.mem_of_getElem? (ntAt_of e).2)
theorem CIS.dlvs {S : Nat → Str → Int → Sc} : ∀ (xs : List Int) {P : Pt}, CIS S P → CIS S (dlvs P xs)
  | [], _, h => h
  | x :: r, _, h => CIS.dlvs r (h.dlv1 x)
/-- posts that have received the same -/
structure Alike (P P' : Pt) : Prop where
  n : P'.nts = P.nts
  l : P'.last = P.last
  r : ∀ z n e, recvOf P' z n e = recvOf P z n e
theorem alike_any {S : Nat → Str → Int → Sc} {P : Pt} (h : CIS S P) {xs ys : List Int} (e1 : ∀ x ∈ xs, x ∈ ys) (e2 : ∀ x ∈ ys, x ∈ xs) : Alike (dlvs P xs) (dlvs P ys) := by
  refine ⟨by rw [dlvs_nts, dlvs_nts], by rw [dlvs_last, dlvs_last], fun z n e => ?_⟩
  have q : (recvOf (dlvs P ys) z n e).1 = (recvOf (dlvs P xs) z n e).1 := Int.le_antisymm (dlvs_le e2 z n e) (dlvs_le e1 z n e)
  refine Prod.ext q ?_
  rw [(CIS.dlvs ys h).2.1, (CIS.dlvs xs h).2.1, q]
section
variable {P P' : Pt}
theorem Alike.last (h : Alike P P') (n : Nat) (e : Str) : lastOf P' n e = lastOf P n e := by unfold lastOf; rw [h.l]
theorem Alike.asm (h : Alike P P') (z e : Str) (r : Int) : ∀ (ts : List Trt) (n : Nat), asmF P' z e r n ts = asmF P z e r n ts
  | [], _ => rfl
  | t :: ts, n => by
    show ptz t z (atM (r - 1) 0 (recvOf P' z n e).2) + asmF P' z e r (n + 1) ts = ptz t z (atM (r - 1) 0 (recvOf P z n e).2) + asmF P z e r (n + 1) ts
    rw [h.r, h.asm z e r ts (n + 1)]
theorem Alike.estF (h : Alike P P') (M : Mkt) (e z : Str) : Sd.estF M P' e z = Sd.estF M P e z := by
  funext r
  unfold Sd.estF
  rw [h.asm]
theorem Alike.est (h : Alike P P') (M : Mkt) (e z : Str) : Sd.est M P' e z = Sd.est M P e z := by unfold Sd.est; rw [h.estF]
theorem Alike.cur (h : Alike P P') (M : Mkt) (e c : Str) (n : Nat) : Sd.cur M P' e c n = Sd.cur M P e c n := by
  unfold Sd.cur
  congr 1
  funext r
  unfold curF
  rw [h.estF]
theorem Alike.chg (h : Alike P P') (M : Mkt) (c : Str) : Sd.chg M P' c = Sd.chg M P c := by
  unfold Sd.chg
  congr 1
  funext n
  simp only [h.cur, h.last]
theorem Alike.pend (h : Alike P P') (M : Mkt) : pendI M P' = pendI M P := by
  unfold pendI
  simp only [h.chg]
theorem Alike.worthN (h : Alike P P') : Sd.worthN P' = Sd.worthN P := by
  unfold Sd.worthN leftOf
  rw [h.n]
  congr 1
  funext x
  rw [nt_nts h.n]
  cases ntAt P x with
  | none => rfl
  | some c =>
    show worth P' c = worth P c
    unfold worth
    rw [h.last, h.r]
theorem Alike.quiet (h : Alike P P') (M : Mkt) : Sd.quiet M P' = Sd.quiet M P := by
  unfold Sd.quiet told
  simp only [h.chg, h.r, h.last]
end
noncomputable def sp_law (K : PySem.W.Frag) : Sp := fun vs H Q _ => ∃ (a : Addr) (ns : List Int), vs = [.ref a] ∧ SqL K H a (ns.map V.int) ∧ ns.length ≤ 63 ∧ ∀ H', Q (.bl true) H'
/-- so many deeds, drawn from digits -/
noncomputable def deedsM (ns : List Int) (s : Mkt × Pt) : Nat → Mkt × Pt
  | 0 => s
  | k + 1 => deedM (deedsM ns s k).1 (deedsM ns s k).2 (ns.getD (k % 20) 0) (ns.getD (20 + k % 20) 0 + 7 * (k : Int))
theorem deeds_ok {ns : List Int} {M : Mkt} {P : Pt} (hD : DOk M P) (hQ : QI P) (hC : ∃ S, CIS S P) : ∀ k : Nat, P.nts.length + 30 * k ≤ 2000 → DOk (deedsM ns (M, P) k).1 (deedsM ns (M, P) k).2 ∧ QI (deedsM ns (M, P) k).2 ∧ (∃ S, CIS S (deedsM ns (M, P) k).2) ∧ (deedsM ns (M, P) k).2.nts.length ≤ P.nts.length + 30 * k
  | 0, _ => ⟨hD, hQ, hC, Nat.le_refl _⟩
  | k + 1, h => by
    obtain ⟨h1, h2, h3, h4⟩ := deeds_ok hD hQ hC k (by omega)
    obtain ⟨d1, d2⟩ := h1.deed (ns.getD (k % 20) 0) (ns.getD (20 + k % 20) 0 + 7 * (k : Int)) (by omega)
    exact ⟨d1, h2.deed _ _ _, cis_deed h2 h3 _ _ _, by
      show (deedM (deedsM ns (M, P) k).1 (deedsM ns (M, P) k).2 _ _).2.nts.length ≤ _
      omega⟩
noncomputable def sp_l_deeds (K : PySem.W.Frag) (C CM : Addr) : Sp := fun vs H Q _ => ∃ (p m an : Addr) (M : Mkt) (P : Pt) (c : Int) (n : Nat), vs = [.ref p, .int c, .int (n : Int)] ∧ PostAt K C H p m an false P ∧ MktAt K CM H m M ∧ DOk M P ∧ QI P ∧ (∃ S, CIS S P) ∧ P.nts.length + 30 * n ≤ 2000 ∧
  ∀ H', FrP p m an H an H' → PostAt K C H' p m an false (deedsM (dgs c 40) (M, P) n).2 → MktAt K CM H' m (deedsM (dgs c 40) (M, P) n).1 → Q .non H'
/-- what an estimate of the law shows -/
noncomputable def esL (M : Mkt) (P : Pt) : List Sc := M.evs.flatMap fun e => M.ins.map fun z => est M P e z
noncomputable def SchR (K : PySem.W.Frag) (H : Hp) (y : V) (s : Sc) : Prop := ∃ q, y = V.ref q ∧ SchAt K H q s
theorem SchR.same {K : PySem.W.Frag} {H H' : Hp} {y : V} {s : Sc} (e : Same H H') (h : SchR K H y s) : SchR K H' y s := let ⟨q, h1, h2⟩ := h; ⟨q, h1, h2.same e⟩
noncomputable def EsAt (K : PySem.W.Frag) (H : Hp) (v : V) (M : Mkt) (P : Pt) : Prop := ∃ (t f u a b : Addr) (ys : List V), v = .ref t ∧ H t = some (.tup [.ref f, .ref u, .bl (quiet M P)]) ∧ H f = some (.lst ys) ∧ AllAt (SchR K) H ys (esL M P) ∧ SqT K H u [.ref a, .ref b] ∧ SqT K H a ((pendI M P).map V.str) ∧ SqT K H b ((worthN P).map V.int)
noncomputable def sp_l_est (K : PySem.W.Frag) (C CM : Addr) : Sp := fun vs H Q _ => ∃ (p m an : Addr) (k : Bool) (M : Mkt) (P : Pt), vs = [.ref p] ∧ PostAt K C H p m an k P ∧ MktAt K CM H m M ∧ DOk M P ∧ ∀ v H', Same H H' → EsAt K H' v M P → Q v H'
/-! ### two posts beside one another -/
noncomputable def P00 : Pt := ⟨[], [], [], .dT []⟩
theorem post_lput {K : PySem.W.Frag} {C : Addr} {H : Hp} {p m an D : Addr} {k : Bool} {P : Pt} {zs : List V} (hD : H D = some (.lst zs)) (n : an ≠ D) (h : PostAt K C H p m an k P) (o : List V) : PostAt K C (upd H D (.lst o)) p m an k P := by
  obtain ⟨dx, au, al, ar, ap, h0, ⟨ys, h1, h2⟩, h3, ⟨kl, h4, h5⟩, ⟨kr, h6, h7⟩, h8, h9⟩ := h
  have tu := Tups.put (o := .lst o) hD (fun _ z => (nomatch z)) fun _ _ z => (nomatch z)
  have ne : ∀ {b : Addr} {u : HO}, H b = some u → (∀ xs, u ≠ .lst xs) → upd H D (.lst o) b = some u := fun {b u} hb hu => by
    rw [upd_ne (fun e => by rw [e, hD] at hb; exact hu _ (Option.some.inj hb).symm)]
    exact hb
  exact ⟨dx, au, al, ar, ap, ne h0 fun _ z => (nomatch z), ⟨ys, by rw [upd_ne n]; exact h1, AllAt.imp (S := NtAt K) h2 fun _ _ => tu.nt⟩, tu.fzt h3, ⟨kl, ne h4 fun _ z => (nomatch z), h5.imp fun _ _ => tu.sq⟩, ⟨kr, ne h6 fun _ z => (nomatch z), h7.imp fun _ _ => tu.sq⟩, ne h8 h9.2, h9⟩
theorem mkt_lput {K : PySem.W.Frag} {C : Addr} {H : Hp} {m D : Addr} {M : Mkt} {zs : List V} (hD : H D = some (.lst zs)) (h : MktAt K C H m M) (o : List V) : MktAt K C (upd H D (.lst o)) m M := by
  obtain ⟨dx, ai, ae, at', ad, h0, h1, h2, h3, h4, h5⟩ := h
  have tu := Tups.put (o := .lst o) hD (fun _ z => (nomatch z)) fun _ _ z => (nomatch z)
  have ne : ∀ {b : Addr} {u : HO}, H b = some u → (∀ xs, u ≠ .lst xs) → upd H D (.lst o) b = some u := fun {b u} hb hu => by
    rw [upd_ne (fun e => by rw [e, hD] at hb; exact hu _ (Option.some.inj hb).symm)]
    exact hb
  exact ⟨dx, ai, ae, at', ad, ne h0 fun _ z => (nomatch z), tu.sqt h1, tu.sqt h2, tu.trs h3, ne h4 fun _ z => (nomatch z), tu.fz h5⟩
section
variable {K : PySem.W.Frag} {C CM : Addr} {H H' : Hp} {p m an Cp dp Cm dm : Addr} {fp fm : List (Str × V)} {zs : List V}
theorem fr_ne (hp : H p = some (.ins Cp dp fp)) (hm : H m = some (.ins Cm dm fm)) (ha : H an = some (.lst zs)) (f : FrP p m an H an H') {b : Addr} {u : HO} (hb : H b = some u) (n1 : ∀ C dx fs, u ≠ .ins C dx fs) (n2 : ∀ xs, u ≠ .lst xs) : H' b = some u :=
  f.1 b u (fun e => by rw [e, hp] at hb; exact n1 _ _ _ (Option.some.inj hb).symm) (fun e => by rw [e, hm] at hb; exact n1 _ _ _ (Option.some.inj hb).symm) (fun e => by rw [e, ha] at hb; exact n2 _ (Option.some.inj hb).symm) hb
theorem fr_tups (hp : H p = some (.ins Cp dp fp)) (hm : H m = some (.ins Cm dm fm)) (ha : H an = some (.lst zs)) (f : FrP p m an H an H') : Tups H H' :=
  ⟨fun b xs hb => fr_ne hp hm ha f hb (fun _ _ _ z => (nomatch z)) fun _ z => (nomatch z), fun b o xs hb => fr_ne hp hm ha f hb (fun _ _ _ z => (nomatch z)) fun _ z => (nomatch z)⟩
theorem fr_lst (hp : H p = some (.ins Cp dp fp)) (hm : H m = some (.ins Cm dm fm)) (f : FrP p m an H an H') {b : Addr} {xs : List V} (n : b ≠ an) (hb : H b = some (.lst xs)) : H' b = some (.lst xs) :=
  f.1 b _ (fun e => by rw [e, hp] at hb; cases hb) (fun e => by rw [e, hm] at hb; cases hb) n hb
theorem post_fr (hp : H p = some (.ins Cp dp fp)) (hm : H m = some (.ins Cm dm fm)) (ha : H an = some (.lst zs)) (f : FrP p m an H an H') {q m' bn : Addr} {k : Bool} {P : Pt} (n1 : q ≠ p) (n2 : q ≠ m) (n3 : bn ≠ an) (h : PostAt K C H q m' bn k P) : PostAt K C H' q m' bn k P := by
  obtain ⟨dx, au, al, ar, ap, h0, ⟨ys, h1, h2⟩, h3, ⟨kl, h4, h5⟩, ⟨kr, h6, h7⟩, h8, h9⟩ := h
  have tu := fr_tups hp hm ha f
  exact ⟨dx, au, al, ar, ap, f.1 _ _ n1 n2 (fun e => by rw [e, ha] at h0; cases h0) h0, ⟨ys, fr_lst hp hm f n3 h1, AllAt.imp (S := NtAt K) h2 fun _ _ => tu.nt⟩, tu.fzt h3, ⟨kl, fr_ne hp hm ha f h4 (fun _ _ _ z => (nomatch z)) fun _ z => (nomatch z), h5.imp fun _ _ => tu.sq⟩, ⟨kr, fr_ne hp hm ha f h6 (fun _ _ _ z => (nomatch z)) fun _ z => (nomatch z), h7.imp fun _ _ => tu.sq⟩, fr_ne hp hm ha f h8 h9.1 h9.2, h9⟩
theorem mkt_fr (hp : H p = some (.ins Cp dp fp)) (hm : H m = some (.ins Cm dm fm)) (ha : H an = some (.lst zs)) (f : FrP p m an H an H') {m' : Addr} {M : Mkt} (n1 : m' ≠ p) (n2 : m' ≠ m) (h : MktAt K CM H m' M) : MktAt K CM H' m' M := by
  obtain ⟨dx, ai, ae, at', ad, h0, h1, h2, h3, h4, h5⟩ := h
  have tu := fr_tups hp hm ha f
  exact ⟨dx, ai, ae, at', ad, f.1 _ _ n1 n2 (fun e => by rw [e, ha] at h0; cases h0) h0, tu.sqt h1, tu.sqt h2, tu.trs h3, fr_ne hp hm ha f h4 (fun _ _ _ z => (nomatch z)) fun _ z => (nomatch z), tu.fz h5⟩
end
/-- a post, its market, its notices -/
structure Tri where
  p : Addr
  m : Addr
  n : Addr
noncomputable def Dis (t u : Tri) : Prop := t.p ≠ u.p ∧ t.p ≠ u.m ∧ t.m ≠ u.p ∧ t.m ≠ u.m ∧ t.n ≠ u.n
noncomputable def PoAt (K : PySem.W.Frag) (C CM : Addr) (H0 : Hp) (D : Addr) (H : Hp) (t : Tri) (S : Mkt × Pt) : Prop := H0 t.p = none ∧ H0 t.m = none ∧ H0 t.n = none ∧ t.n ≠ D ∧ PostAt K C H t.p t.m t.n false S.2 ∧ MktAt K CM H t.m S.1
theorem PoAt.same {K : PySem.W.Frag} {C CM D : Addr} {H0 H H' : Hp} {t : Tri} {S : Mkt × Pt} (e : Same H H') (h : PoAt K C CM H0 D H t S) : PoAt K C CM H0 D H' t S := ⟨h.1, h.2.1, h.2.2.1, h.2.2.2.1, PostAt.same e h.2.2.2.2.1, MktAt.same e h.2.2.2.2.2⟩
noncomputable def PsAt (K : PySem.W.Frag) (C CM : Addr) (H0 : Hp) (D : Addr) (M : Mkt) (i : Nat) (H : Hp) : Prop := Same H0 H ∧ ∃ L : List Tri, L.length = i ∧ H D = some (.lst (L.map fun t => V.ref t.p)) ∧ (∀ t ∈ L, PoAt K C CM H0 D H t (M, P00)) ∧ L.Pairwise Dis
/-- two posts in a list -/
structure Two (K : PySem.W.Frag) (C CM : Addr) (H0 : Hp) (D : Addr) (t u : Tri) (S S' : Mkt × Pt) (H : Hp) : Prop where
  s : Same H0 H
  d : H D = some (.lst [.ref t.p, .ref u.p])
  a : PoAt K C CM H0 D H t S
  b : PoAt K C CM H0 D H u S'
theorem Two.same {K : PySem.W.Frag} {C CM D : Addr} {H0 H H' : Hp} {t u : Tri} {S S' : Mkt × Pt} (e : Same H H') (h : Two K C CM H0 D t u S S' H) : Two K C CM H0 D t u S S' H' := ⟨h.s.trans e, e _ _ h.d, h.a.same e, h.b.same e⟩
theorem Two.fst {K : PySem.W.Frag} {C CM D : Addr} {H0 H H' : Hp} {t u : Tri} {S S' T : Mkt × Pt} (dis : Dis t u) (h : Two K C CM H0 D t u S S' H) (f : FrP t.p t.m t.n H t.n H') (hP : PostAt K C H' t.p t.m t.n false T.2) (hM : MktAt K CM H' t.m T.1) : Two K C CM H0 D t u T S' H' := by
  obtain ⟨a1, a2, a3, a4, a5, a6⟩ := h.a
  obtain ⟨b1, b2, b3, b4, b5, b6⟩ := h.b
  obtain ⟨d1, d2, d3, d4, d5⟩ := dis
  obtain ⟨_, _, _, _, _, z0, ⟨_, z1, _⟩, _⟩ := id a5
  obtain ⟨_, _, _, _, _, y0, _⟩ := id a6
  exact ⟨fun b w hb => f.1 b w (ne_of_none hb a1) (ne_of_none hb a2) (ne_of_none hb a3) (h.s b w hb), fr_lst z0 y0 f a4.symm h.d, ⟨a1, a2, a3, a4, hP, hM⟩, ⟨b1, b2, b3, b4, post_fr z0 y0 z1 f d1.symm d3.symm d5.symm b5, mkt_fr z0 y0 z1 f d2.symm d4.symm b6⟩⟩
theorem Two.snd {K : PySem.W.Frag} {C CM D : Addr} {H0 H H' : Hp} {t u : Tri} {S S' T : Mkt × Pt} (dis : Dis t u) (h : Two K C CM H0 D t u S S' H) (f : FrP u.p u.m u.n H u.n H') (hP : PostAt K C H' u.p u.m u.n false T.2) (hM : MktAt K CM H' u.m T.1) : Two K C CM H0 D t u S T H' := by
  obtain ⟨a1, a2, a3, a4, a5, a6⟩ := h.a
  obtain ⟨b1, b2, b3, b4, b5, b6⟩ := h.b
  obtain ⟨d1, d2, d3, d4, d5⟩ := dis
  obtain ⟨_, _, _, _, _, z0, ⟨_, z1, _⟩, _⟩ := id b5
  obtain ⟨_, _, _, _, _, y0, _⟩ := id b6
  exact ⟨fun b w hb => f.1 b w (ne_of_none hb b1) (ne_of_none hb b2) (ne_of_none hb b3) (h.s b w hb), fr_lst z0 y0 f b4.symm h.d, ⟨a1, a2, a3, a4, post_fr z0 y0 z1 f d1 d2 d5 a5, mkt_fr z0 y0 z1 f d3 d4 a6⟩, ⟨b1, b2, b3, b4, hP, hM⟩⟩
theorem DOk.dlv1 {M : Mkt} {P : Pt} (h : DOk M P) (x : Int) : DOk M (dlv1 P x) := by
  unfold Sd.dlv1
  cases e : ntAt P x with
  | none => exact h
  | some c => exact ⟨h.g, h.p.dlv e, h.t⟩
theorem DOk.dlvs {M : Mkt} : ∀ (xs : List Int) {P : Pt}, DOk M P → DOk M (dlvs P xs)
  | [], _, h => h
  | x :: r, _, h => DOk.dlvs r (h.dlv1 x)
theorem dlv_again {P : Pt} {c : Ntc} (h : c.q ≤ (recvOf P c.z c.n c.e).1) : dlvP P c = P := if_pos h
theorem dlv_got (P : Pt) (c : Ntc) : c.q ≤ (recvOf (dlvP P c) c.z c.n c.e).1 := by
  rw [recv_dlv, if_pos rfl]
  split <;> omega
noncomputable def pdE (zs : List Str) (ns : List Int) : PyData := .tuple [.tuple (zs.map PyData.str), .tuple (ns.map PyData.int)]
noncomputable def esD (M : Mkt) (P : Pt) : PyData := .tuple [.list ((esL M P).map schD), pdE (pendI M P) (worthN P), .bool (quiet M P)]
theorem esD_alike {P P' : Pt} (h : Alike P P') (M : Mkt) : esD M P' = esD M P := by
  unfold esD esL
  simp only [h.est, h.pend, h.worthN, h.quiet]
theorem dp_strs2 {K : PySem.W.Frag} {H : Hp} : ∀ zs : List Str, DpAll K H (zs.map V.str) (zs.map PyData.str)
  | [] => .nil
  | z :: r => .cons (.str z) (dp_strs2 r)
theorem dp_schs {K : PySem.W.Frag} {H : Hp} : ∀ {ys : List V} {ss : List Sc}, ys.length = ss.length → (∀ (i : Nat) s, ss[i]? = some s → ∃ y, ys[i]? = some y ∧ SchR K H y s) → DpAll K H ys (ss.map schD)
  | [], [], _, _ => .nil
  | [], _ :: _, h, _ => by simp at h
  | _ :: _, [], h, _ => by simp at h
  | y :: ys, p :: ps, h, g => by
    obtain ⟨z, hz, t, rfl, ht⟩ := g 0 p rfl
    cases Option.some.inj hz
    exact .cons (dp_sch ht) (dp_schs (Nat.succ.inj h) fun i q hq => g (i + 1) q hq)
theorem dp_es {K : PySem.W.Frag} {H : Hp} {v : V} {M : Mkt} {P : Pt} (h : EsAt K H v M P) : Dp K H v (esD M P) := by
  obtain ⟨t, f, u, a, b, ys, rfl, h1, h2, h3, h4, h5, h6⟩ := h
  exact .tup (SqT.of h1) (.cons (.lst (SqL.of h2) (dp_schs h3.1 h3.2)) (.cons (.tup h4 (.cons (.tup h5 (dp_strs2 _)) (.cons (.tup h6 (DpAll.ints _)) .nil))) (.cons (.bl _) .nil)))
theorem EsAt.bar {K : PySem.W.Frag} {H H' : Hp} {v : V} {M : Mkt} {P : Pt} {p C dx : Addr} {fs : List (Str × V)} (hp : H p = some (.ins C dx fs)) (e : Bar p H H') (h : EsAt K H v M P) : EsAt K H' v M P := by
  obtain ⟨t, f, u, a, b, ys, rfl, h1, h2, h3, h4, h5, h6⟩ := h
  have tu : Tups H H' := ⟨fun b xs hb => e b _ (fun z => by rw [z, hp] at hb; cases hb) hb, fun b o xs hb => e b _ (fun z => by rw [z, hp] at hb; cases hb) hb⟩
  exact ⟨t, f, u, a, b, ys, rfl, tu.1 _ _ h1, e _ _ (fun z => by rw [z, hp] at h2; cases h2) h2, AllAt.imp (S := SchR K) h3 fun _ _ ⟨q, e1, e2⟩ => ⟨q, e1, tu.sch e2⟩, tu.sqt h4, tu.sqt h5, tu.sqt h6⟩
theorem EsAt.same {K : PySem.W.Frag} {H H' : Hp} {v : V} {M : Mkt} {P : Pt} (e : Same H H') (h : EsAt K H v M P) : EsAt K H' v M P := by
  obtain ⟨t, f, u, a, b, ys, rfl, h1, h2, h3, h4, h5, h6⟩ := h
  exact ⟨t, f, u, a, b, ys, rfl, e _ _ h1, e _ _ h2, AllAt.same (R := SchR K) (fun e r => SchR.same e r) e h3, same_sqt e h4, same_sqt e h5, same_sqt e h6⟩
theorem lay_schs : ∀ ss : List Sc, PyData.canLayAll0 (ss.map schD) = true
  | [] => rfl
  | p :: r => by simp [schD, PyData.canLayAll0, PyData.canLay0, lay_schs r, lay_prs]
theorem dep_schs : ∀ ss : List Sc, PyData.depthAll (ss.map schD) ≤ 2
  | [] => by simp [PyData.depthAll]
  | p :: r => by
    have := dep_schs r
    have := dep_prs p
    simp [schD, PyData.depthAll, PyData.depth]
    omega
theorem lay_strs : ∀ zs : List Str, (∀ z ∈ zs, PyData.strOk z = true) → PyData.canLayAll0 (zs.map PyData.str) = true
  | [], _ => rfl
  | p :: r, h => by simp [PyData.canLayAll0, PyData.canLay0, lay_strs r fun z hz => h z (List.mem_cons_of_mem _ hz), h p List.mem_cons_self]
theorem dep_strs : ∀ zs : List Str, PyData.depthAll (zs.map PyData.str) = 0
  | [] => by simp [PyData.depthAll]
  | p :: r => by simp [PyData.depthAll, PyData.depth, dep_strs r]
theorem shp_es {M : Mkt} (hg : DgMkt M) (P : Pt) : SeqAt.shaped (esD M P) = true := by
  have h1 := dep_schs (esL M P)
  have h2 := lay_strs (pendI M P) fun z hz => by
    have hz := (List.mem_filter.mp hz).1
    obtain ⟨k, _, _, e⟩ := hg.i
    rw [e] at hz
    exact (show ∀ c ∈ four, PyData.strOk c = true by decide +kernel) z (List.mem_of_mem_take hz)
  simp [h2, esD, pdE, SeqAt.shaped, PyData.canLay0, PyData.canLayAll0, PyData.depth, PyData.depthAll, lay_schs, lay_ints, dep_strs, dep_ints]
  omega

end Sd
namespace Sd
open PySem PySem.Spec PyProof.Rows L2
set_option linter.all false
section
variable {P : Program} {w : World} {K : PySem.W.Frag} {mg : Str → Option Value} {base : Heap} {C_BadName C_BadCover C_BadPanel C_BadAmount C_NameTaken C_NoSuchName C_NoSuchNotice C_Twice C_OwnPanel C_TooMany C_NoEnd C_Post C_Market N_NOTHING : Addr}
theorem ok_NameTaken___init {f : Addr} {fd : FuncData} (D_NameTaken___init : Ini K C_NameTaken "NameTaken.__init__" s_NameTaken___init ["self", "name"] f fd) (T : Tx K mg C_BadName C_BadCover C_BadPanel C_BadAmount C_NameTaken C_NoSuchName C_NoSuchNotice C_Twice C_OwnPanel C_TooMany C_NoEnd C_Post C_Market N_NOTHING) :
    FnOk P w K mg base CX0 (1) f fd ["self", "name"] (sp_xi "name" C_NameTaken) := by
  refine D_NameTaken___init.F.ok sc_NameTaken___init (fun vs H Q E h => ?_) (fun cdv A outer s H vs Q E hr h => ?_)
  · obtain ⟨a, v, rfl, ha, q⟩ := h
    rfl
  obtain ⟨a, v, rfl, ha, q⟩ := h
  refine ⟨_, (pss_one (ps_ost (pv 0) (pv 1))), ?_⟩
  exact ⟨_, rfl, _, rfl, a, C_NameTaken, rfl, T.ox_NameTaken.o, T.ox_NameTaken.no, .inl ⟨ha, q⟩⟩

theorem ok_NoSuchName___init {f : Addr} {fd : FuncData} (D_NoSuchName___init : Ini K C_NoSuchName "NoSuchName.__init__" s_NoSuchName___init ["self", "name"] f fd) (T : Tx K mg C_BadName C_BadCover C_BadPanel C_BadAmount C_NameTaken C_NoSuchName C_NoSuchNotice C_Twice C_OwnPanel C_TooMany C_NoEnd C_Post C_Market N_NOTHING) :
    FnOk P w K mg base CX0 (1) f fd ["self", "name"] (sp_xi "name" C_NoSuchName) := by
  refine D_NoSuchName___init.F.ok sc_NoSuchName___init (fun vs H Q E h => ?_) (fun cdv A outer s H vs Q E hr h => ?_)
  · obtain ⟨a, v, rfl, ha, q⟩ := h
    rfl
  obtain ⟨a, v, rfl, ha, q⟩ := h
  refine ⟨_, (pss_one (ps_ost (pv 0) (pv 1))), ?_⟩
  exact ⟨_, rfl, _, rfl, a, C_NoSuchName, rfl, T.ox_NoSuchName.o, T.ox_NoSuchName.no, .inl ⟨ha, q⟩⟩

theorem ok_NoSuchNotice___init {f : Addr} {fd : FuncData} (D_NoSuchNotice___init : Ini K C_NoSuchNotice "NoSuchNotice.__init__" s_NoSuchNotice___init ["self", "number"] f fd) (T : Tx K mg C_BadName C_BadCover C_BadPanel C_BadAmount C_NameTaken C_NoSuchName C_NoSuchNotice C_Twice C_OwnPanel C_TooMany C_NoEnd C_Post C_Market N_NOTHING) :
    FnOk P w K mg base CX0 (1) f fd ["self", "number"] (sp_xi "number" C_NoSuchNotice) := by
  refine D_NoSuchNotice___init.F.ok sc_NoSuchNotice___init (fun vs H Q E h => ?_) (fun cdv A outer s H vs Q E hr h => ?_)
  · obtain ⟨a, v, rfl, ha, q⟩ := h
    rfl
  obtain ⟨a, v, rfl, ha, q⟩ := h
  refine ⟨_, (pss_one (ps_ost (pv 0) (pv 1))), ?_⟩
  exact ⟨_, rfl, _, rfl, a, C_NoSuchNotice, rfl, T.ox_NoSuchNotice.o, T.ox_NoSuchNotice.no, .inl ⟨ha, q⟩⟩

theorem ok_is_between {f : Addr} {fd : FuncData} (D_is_between : Dfn K mg "is_between" s_is_between ["value", "low", "high"] f fd) (T : Tx K mg C_BadName C_BadCover C_BadPanel C_BadAmount C_NameTaken C_NoSuchName C_NoSuchNotice C_Twice C_OwnPanel C_TooMany C_NoEnd C_Post C_Market N_NOTHING) :
    FnOk P w K mg base CX0 (1) f fd ["value", "low", "high"] (sp_is_between K) := by
  refine D_is_between.F.ok sc_is_between (fun vs H Q E h => ?_) (fun cdv A outer s H vs Q E hr h => ?_)
  · obtain ⟨x, lo, hi, rfl, hf, q⟩ := h
    rfl
  obtain ⟨x, lo, hi, rfl, hf, q⟩ := h
  obtain ⟨n, ty, k⟩ := hf
  rcases k with ⟨rfl, b, rfl⟩ | ⟨rfl, i, rfl⟩ | ⟨rfl | rfl | rfl | rfl | rfl, e⟩
  · refine ⟨_, (pss_cons (ps_if (PW.pt (pw_or (pt_val (pe_callB call_isi (by rfl) T.isinstance (by decide +kernel) (pa_cons (pv 0) (pa_cons (pe_bltn (v := .ty "bool") (by rfl) T.bool (by decide +kernel) rfl) pa_nil)))) (pw_or1 (pt_not (pt_val (pe_callB call_isi (by rfl) T.isinstance (by decide +kernel) (pa_cons (pv 0) (pa_cons (pe_bltn (v := .ty "int") (by rfl) T.int (by decide +kernel) rfl) pa_nil))))))))
      (pss_one (ps_ret pe_bl))
      pss_nil)
      (pss_one (ps_ret (pe_chain op_le op_le (pv 1) (pv 0) (pv 2))))), ?_⟩
    refine ⟨_, rfl, _, _, _, _, _, rfl, .ty _, ty, kit_ty (r := true) (by decide +kernel), _, rfl, iteT (iteT ?_)⟩
    exact q
  · refine ⟨_, (pss_cons (ps_if (PW.pt (pw_or (pt_val (pe_callB call_isi (by rfl) T.isinstance (by decide +kernel) (pa_cons (pv 0) (pa_cons (pe_bltn (v := .ty "bool") (by rfl) T.bool (by decide +kernel) rfl) pa_nil)))) (pw_or1 (pt_not (pt_val (pe_callB call_isi (by rfl) T.isinstance (by decide +kernel) (pa_cons (pv 0) (pa_cons (pe_bltn (v := .ty "int") (by rfl) T.int (by decide +kernel) rfl) pa_nil))))))))
      (pss_one (ps_ret pe_bl))
      pss_nil)
      (pss_one (ps_ret (pe_chain op_le op_le (pv 1) (pv 0) (pv 2))))), ?_⟩
    refine ⟨_, rfl, _, _, _, _, _, rfl, .ty _, ty, kit_ty (r := false) (by decide +kernel), _, rfl, iteF ?_⟩
    refine ⟨_, rfl, _, _, _, _, _, rfl, .ty _, ty, kit_ty (r := true) (by decide +kernel), _, rfl, iteF ?_⟩
    refine ⟨_, rfl, _, rfl, _, _, rfl, rfl, _, rfl, ?_⟩
    have q : Q (.bl (decide (lo ≤ i) && decide (i ≤ hi))) H := q
    refine iteB (fun c => ?_) (fun c => ?_)
    · rw [c, Bool.true_and] at q
      exact ⟨_, rfl, _, _, rfl, rfl, q⟩
    · rw [c, Bool.false_and] at q
      exact q
  · refine ⟨_, (pss_cons (ps_if (PW.pt (pw_or (pt_val (pe_callB call_isi (by rfl) T.isinstance (by decide +kernel) (pa_cons (pv 0) (pa_cons (pe_bltn (v := .ty "bool") (by rfl) T.bool (by decide +kernel) rfl) pa_nil)))) (pw_or1 (pt_not (pt_val (pe_callB call_isi (by rfl) T.isinstance (by decide +kernel) (pa_cons (pv 0) (pa_cons (pe_bltn (v := .ty "int") (by rfl) T.int (by decide +kernel) rfl) pa_nil))))))))
      (pss_one (ps_ret pe_bl))
      pss_nil)
      (pss_one (ps_ret (pe_chain op_le op_le (pv 1) (pv 0) (pv 2))))), ?_⟩
    rw [e] at q
    refine ⟨_, rfl, _, _, _, _, _, rfl, .ty _, ty, kit_ty (r := false) (by decide +kernel), _, rfl, iteF ?_⟩
    refine ⟨_, rfl, _, _, _, _, _, rfl, .ty _, ty, kit_ty (r := false) (by decide +kernel), _, rfl, iteT ?_⟩
    exact q
  · refine ⟨_, (pss_cons (ps_if (PW.pt (pw_or (pt_val (pe_callB call_isi (by rfl) T.isinstance (by decide +kernel) (pa_cons (pv 0) (pa_cons (pe_bltn (v := .ty "bool") (by rfl) T.bool (by decide +kernel) rfl) pa_nil)))) (pw_or1 (pt_not (pt_val (pe_callB call_isi (by rfl) T.isinstance (by decide +kernel) (pa_cons (pv 0) (pa_cons (pe_bltn (v := .ty "int") (by rfl) T.int (by decide +kernel) rfl) pa_nil))))))))
      (pss_one (ps_ret pe_bl))
      pss_nil)
      (pss_one (ps_ret (pe_chain op_le op_le (pv 1) (pv 0) (pv 2))))), ?_⟩
    rw [e] at q
    refine ⟨_, rfl, _, _, _, _, _, rfl, .ty _, ty, kit_ty (r := false) (by decide +kernel), _, rfl, iteF ?_⟩
    refine ⟨_, rfl, _, _, _, _, _, rfl, .ty _, ty, kit_ty (r := false) (by decide +kernel), _, rfl, iteT ?_⟩
    exact q
  · refine ⟨_, (pss_cons (ps_if (PW.pt (pw_or (pt_val (pe_callB call_isi (by rfl) T.isinstance (by decide +kernel) (pa_cons (pv 0) (pa_cons (pe_bltn (v := .ty "bool") (by rfl) T.bool (by decide +kernel) rfl) pa_nil)))) (pw_or1 (pt_not (pt_val (pe_callB call_isi (by rfl) T.isinstance (by decide +kernel) (pa_cons (pv 0) (pa_cons (pe_bltn (v := .ty "int") (by rfl) T.int (by decide +kernel) rfl) pa_nil))))))))
      (pss_one (ps_ret pe_bl))
      pss_nil)
      (pss_one (ps_ret (pe_chain op_le op_le (pv 1) (pv 0) (pv 2))))), ?_⟩
    rw [e] at q
    refine ⟨_, rfl, _, _, _, _, _, rfl, .ty _, ty, kit_ty (r := false) (by decide +kernel), _, rfl, iteF ?_⟩
    refine ⟨_, rfl, _, _, _, _, _, rfl, .ty _, ty, kit_ty (r := false) (by decide +kernel), _, rfl, iteT ?_⟩
    exact q
  · refine ⟨_, (pss_cons (ps_if (PW.pt (pw_or (pt_val (pe_callB call_isi (by rfl) T.isinstance (by decide +kernel) (pa_cons (pv 0) (pa_cons (pe_bltn (v := .ty "bool") (by rfl) T.bool (by decide +kernel) rfl) pa_nil)))) (pw_or1 (pt_not (pt_val (pe_callB call_isi (by rfl) T.isinstance (by decide +kernel) (pa_cons (pv 0) (pa_cons (pe_bltn (v := .ty "int") (by rfl) T.int (by decide +kernel) rfl) pa_nil))))))))
      (pss_one (ps_ret pe_bl))
      pss_nil)
      (pss_one (ps_ret (pe_chain op_le op_le (pv 1) (pv 0) (pv 2))))), ?_⟩
    rw [e] at q
    refine ⟨_, rfl, _, _, _, _, _, rfl, .ty _, ty, kit_ty (r := false) (by decide +kernel), _, rfl, iteF ?_⟩
    refine ⟨_, rfl, _, _, _, _, _, rfl, .ty _, ty, kit_ty (r := false) (by decide +kernel), _, rfl, iteT ?_⟩
    exact q
  · refine ⟨_, (pss_cons (ps_if (PW.pt (pw_or (pt_val (pe_callB call_isi (by rfl) T.isinstance (by decide +kernel) (pa_cons (pv 0) (pa_cons (pe_bltn (v := .ty "bool") (by rfl) T.bool (by decide +kernel) rfl) pa_nil)))) (pw_or1 (pt_not (pt_val (pe_callB call_isi (by rfl) T.isinstance (by decide +kernel) (pa_cons (pv 0) (pa_cons (pe_bltn (v := .ty "int") (by rfl) T.int (by decide +kernel) rfl) pa_nil))))))))
      (pss_one (ps_ret pe_bl))
      pss_nil)
      (pss_one (ps_ret (pe_chain op_le op_le (pv 1) (pv 0) (pv 2))))), ?_⟩
    rw [e] at q
    refine ⟨_, rfl, _, _, _, _, _, rfl, .ty _, ty, kit_ty (r := false) (by decide +kernel), _, rfl, iteF ?_⟩
    refine ⟨_, rfl, _, _, _, _, _, rfl, .ty _, ty, kit_ty (r := false) (by decide +kernel), _, rfl, iteT ?_⟩
    exact q

theorem ok_is_name {f : Addr} {fd : FuncData} (D_is_name : Dfn K mg "is_name" s_is_name ["value"] f fd) (T : Tx K mg C_BadName C_BadCover C_BadPanel C_BadAmount C_NameTaken C_NoSuchName C_NoSuchNotice C_Twice C_OwnPanel C_TooMany C_NoEnd C_Post C_Market N_NOTHING) :
    FnOk P w K mg base CX0 (1) f fd ["value"] (sp_is_name K) := by
  refine D_is_name.F.ok sc_is_name (fun vs H Q E h => ?_) (fun cdv A outer s H vs Q E hr h => ?_)
  · obtain ⟨x, rfl, h⟩ := h
    rfl
  obtain ⟨x, rfl, h⟩ := h
  refine ⟨_, (pss_cons (ps_if (PW.pt (pw_or (pt_not (pt_val (pe_callB call_isi (by rfl) T.isinstance (by decide +kernel) (pa_cons (pv 0) (pa_cons (pe_bltn (v := .ty "str") (by rfl) T.str (by decide +kernel) rfl) pa_nil))))) (pw_or1 (pt_not (pt_chain op_le op_le pe_int (pe_callB call_len_str (by rfl) T.len PySem.boot_len (pa_cons (pv 0) pa_nil)) (pe_gi rfl T.g_MOST_LETTERS))))))
      (pss_one (ps_ret pe_bl))
      pss_nil)
      (pss_one (ps_ret (pe_callB (cr_all rfl) (by rfl) T.all (by decide +kernel) (pa_cons (pe_lc (own := [("letter", 1)]) (g := (gName 1)) (tt := tYes) rfl sc_is_name.nd (pi_str (pv 0)) (blkOk_by (own := [("letter", 1)]) (N := (["value", "letter"] : List Str)) (sc := defScope s_is_name) (by decide +kernel)) (fun _ _ _ _ _ => (pg_name (i := 1) sc_is_name.nd rfl (by first | exact Or.inl rfl | exact Or.inr rfl))) (fun _ _ _ _ _ => pts_nil) (fun _ _ _ _ _ => (pe_cmpR op_in_sign (pv 1) (pe_gs rfl T.g_LETTERS) (by with_unfolding_all rfl)))) pa_nil))))), ?_⟩
  rcases h with ⟨⟨z, rfl, hz, hn⟩, q⟩ | ⟨⟨z, rfl, hz, hn⟩ | ⟨t, ty, hk⟩, q⟩
  · refine ⟨_, rfl, _, _, _, _, _, rfl, .ty _, .base (.str z), kit_ty (r := true) (by decide +kernel), _, rfl, iteF ?_⟩
    unfold isNm at hn
    rw [Bool.and_eq_true, Bool.and_eq_true] at hn
    obtain ⟨⟨h1, h2⟩, h3⟩ := hn
    refine ⟨_, rfl, z, rfl, sz (by omega), _, _, rfl, rfl, _, rfl, ?_⟩
    have h1' : decide ((1 : Int) ≤ (z.length : Int)) = true := decide_eq_true (by have := of_decide_eq_true h1; omega)
    rw [h1']
    refine iteT ⟨_, _, rfl, rfl, _, rfl, ?_⟩
    have h2' : decide ((z.length : Int) ≤ 12) = true := decide_eq_true (by have := of_decide_eq_true h2; omega)
    rw [h2']
    refine iteF ?_
    refine ⟨_, rfl, z, rfl, fun D nD => lc_it walk_str (fun i H' => Same H H' ∧ H' D = some (.lst (((z.cps.toList.map fun c => decide (c ∈ lets)).map V.bl).take i))) ⟨same_new nD, upd_same⟩ (fun _ _ _ _ => trivial) ?_ ?_⟩
    · rintro i x H1 H' hi ⟨sm, hD⟩ ⟨rfl, c, hc, rfl⟩
      have hy : ((z.cps.toList.map fun c => decide (c ∈ lets)).map V.bl)[i]? = some (.bl (decide (c ∈ lets))) := by
        rw [List.getElem?_map, List.getElem?_map, Array.getElem?_toList, hc]
        rfl
      exact ⟨rfl, ⟨_, rfl, c, _, rfl, rfl, acc_to nD sm hD hy (by rw [List.length_map, List.length_map]; exact Nat.le_trans hz (by decide))⟩⟩
    · rintro H' ⟨sm, hD⟩
      have hD2 := acc_all (by rw [List.length_map, List.length_map]; rfl) hD
      refine ⟨D, _, rfl, SqL.of hD2, ?_⟩
      rw [List.all_map]
      have e : (z.cps.toList.all (id ∘ fun c => decide (c ∈ lets))) = true := h3
      rw [e]
      exact q H' sm
  · refine ⟨_, rfl, _, _, _, _, _, rfl, .ty _, .base (.str z), kit_ty (r := true) (by decide +kernel), _, rfl, iteF ?_⟩
    unfold isNm at hn
    refine ⟨_, rfl, z, rfl, sz (by omega), _, _, rfl, rfl, _, rfl, ?_⟩
    have e1 : decide ((1 : Int) ≤ (z.length : Int)) = decide (1 ≤ z.length) := by
      by_cases h : 1 ≤ z.length
      · rw [decide_eq_true h, decide_eq_true (by omega)]
      · rw [decide_eq_false h, decide_eq_false (by omega)]
    rw [e1]
    refine iteB (fun h1 => ?_) (fun h1 => ?_)
    · refine ⟨_, _, rfl, rfl, _, rfl, ?_⟩
      have e2 : decide ((z.length : Int) ≤ 12) = decide (z.length ≤ 12) := by
        by_cases h : z.length ≤ 12
        · rw [decide_eq_true h, decide_eq_true (by omega)]
        · rw [decide_eq_false h, decide_eq_false (by omega)]
      rw [e2]
      cases h2 : decide (z.length ≤ 12) with
      | false => exact iteT (q H (Same.refl H))
      | true =>
        rw [h1, h2, Bool.true_and, Bool.true_and] at hn
        refine iteF ?_
        refine ⟨_, rfl, z, rfl, fun D nD => lc_it walk_str (fun i H' => Same H H' ∧ H' D = some (.lst (((z.cps.toList.map fun c => decide (c ∈ lets)).map V.bl).take i))) ⟨same_new nD, upd_same⟩ (fun _ _ _ _ => trivial) ?_ ?_⟩
        · rintro i x H1 H' hi ⟨sm, hD⟩ ⟨rfl, c, hc, rfl⟩
          have hy : ((z.cps.toList.map fun c => decide (c ∈ lets)).map V.bl)[i]? = some (.bl (decide (c ∈ lets))) := by
            rw [List.getElem?_map, List.getElem?_map, Array.getElem?_toList, hc]
            rfl
          exact ⟨rfl, ⟨_, rfl, c, _, rfl, rfl, acc_to nD sm hD hy (by rw [List.length_map, List.length_map]; exact Nat.le_trans hz (by decide))⟩⟩
        · rintro H' ⟨sm, hD⟩
          have hD2 := acc_all (by rw [List.length_map, List.length_map]; rfl) hD
          refine ⟨D, _, rfl, SqL.of hD2, ?_⟩
          rw [List.all_map]
          have e : (z.cps.toList.all (id ∘ fun c => decide (c ∈ lets))) = false := hn
          rw [e]
          exact q H' sm
    · exact ⟨_, rfl, iteT (q H (Same.refl H))⟩
  · exact ⟨_, rfl, _, _, _, _, _, rfl, .ty _, ty, hk, _, rfl, iteT (iteT (q H (Same.refl H)))⟩

theorem ok_check_name {f : Addr} {fd : FuncData} (D_check_name : Dfn K mg "check_name" s_check_name ["value"] f fd) (T : Tx K mg C_BadName C_BadCover C_BadPanel C_BadAmount C_NameTaken C_NoSuchName C_NoSuchNotice C_Twice C_OwnPanel C_TooMany C_NoEnd C_Post C_Market N_NOTHING) {f_is_name : Addr} {fd_is_name : FuncData} (D_is_name : Dfn K mg "is_name" s_is_name ["value"] f_is_name fd_is_name) (G_is_name : FnOk P w K mg base CX0 (1) f_is_name fd_is_name ["value"] (sp_is_name K)) :
    FnOk P w K mg base (L2.CX P w) (2) f fd ["value"] (sp_check_name K C_BadName) := by
  refine D_check_name.F.okX sc_check_name (fun vs H Q E h => ?_) (fun cdv A outer s H vs Q E hr h => ?_)
  · obtain ⟨x, rfl, h⟩ := h
    rfl
  obtain ⟨x, rfl, h⟩ := h
  refine ⟨_, (pss_one (ps_if (pt_not (pt_val (pe_call G_is_name (hr.mono (by first | decide | omega)) rfl D_is_name.m D_is_name.F.kp D_is_name.b .nil pass0 (pa_cons (pv 0) pa_nil))))
      (pss_one (ps_raise rfl (takes_of rfl rfl rfl rfl) (pmk_own PySem.F.excBase_ValueError T.exc_BadName.x T.exc_BadName.g T.exc_BadName.k (raises_own T.exc_BadName.b T.exc_BadName.t) rfl)))
      pss_nil)), ?_⟩
  rcases h with ⟨h, q⟩ | ⟨h, q⟩
  · exact ⟨_, rfl, _, rfl, .inl ⟨h, fun H' sm => ⟨_, rfl, iteF (q H' sm)⟩⟩⟩
  · exact ⟨_, rfl, _, rfl, .inr ⟨h, fun H' sm => ⟨_, rfl, iteT (q H' sm)⟩⟩⟩

theorem ok_check_known {f : Addr} {fd : FuncData} (D_check_known : Dfn K mg "check_known" s_check_known ["name", "names"] f fd) (T : Tx K mg C_BadName C_BadCover C_BadPanel C_BadAmount C_NameTaken C_NoSuchName C_NoSuchNotice C_Twice C_OwnPanel C_TooMany C_NoEnd C_Post C_Market N_NOTHING) {f_NoSuchName___init : Addr} {fd_NoSuchName___init : FuncData} (D_NoSuchName___init : Ini K C_NoSuchName "NoSuchName.__init__" s_NoSuchName___init ["self", "name"] f_NoSuchName___init fd_NoSuchName___init) (G_NoSuchName___init : FnOk P w K mg base CX0 (1) f_NoSuchName___init fd_NoSuchName___init ["self", "name"] (sp_xi "name" C_NoSuchName)) :
    FnOk P w K mg base (L2.CX P w) (3) f fd ["name", "names"] (sp_check_known K C_NoSuchName) := by
  refine D_check_known.F.okX sc_check_known (fun vs H Q E h => ?_) (fun cdv A outer s H vs Q E hr h => ?_)
  · obtain ⟨z, a, ys, rfl, hS, h⟩ := h
    rfl
  obtain ⟨z, a, ys, rfl, hS, h⟩ := h
  refine ⟨_, (pss_one (ps_if (pt_cmpR op_notIn_seq (pv 0) (pv 1) (by with_unfolding_all rfl))
      (pss_one (ps_raise rfl (takes_of rfl rfl rfl rfl) (pmk_oex T.ox_NoSuchName.o D_NoSuchName___init.i D_NoSuchName___init.t G_NoSuchName___init (hr.mono (by first | decide | omega)) D_NoSuchName___init.b .nil pass0 rfl T.ox_NoSuchName.g (pa_cons (pv 0) pa_nil))))
      pss_nil)), ?_⟩
  refine ⟨_, rfl, _, rfl, a, ys.map V.str, rfl, .inr hS, rfl, flat_strs ys, ?_⟩
  rw [inV_str]
  rcases h with ⟨hz, q⟩ | ⟨hz, q⟩
  · rw [decide_eq_true hz]
    exact ⟨_, rfl, iteF q⟩
  · rw [decide_eq_false hz]
    exact ⟨_, rfl, iteT ⟨_, rfl, mkO_to fun d nd => q d nd⟩⟩

theorem ok_check_names {f : Addr} {fd : FuncData} (D_check_names : Dfn K mg "check_names" s_check_names ["market", "event", "insurer"] f fd) (T : Tx K mg C_BadName C_BadCover C_BadPanel C_BadAmount C_NameTaken C_NoSuchName C_NoSuchNotice C_Twice C_OwnPanel C_TooMany C_NoEnd C_Post C_Market N_NOTHING) {f_check_known : Addr} {fd_check_known : FuncData} (D_check_known : Dfn K mg "check_known" s_check_known ["name", "names"] f_check_known fd_check_known) (G_check_known : FnOk P w K mg base (L2.CX P w) (3) f_check_known fd_check_known ["name", "names"] (sp_check_known K C_NoSuchName)) :
    FnOk P w K mg base (L2.CX P w) (4) f fd ["market", "event", "insurer"] (sp_check_names K C_Market C_NoSuchName) := by
  refine D_check_names.F.okX sc_check_names (fun vs H Q E h => ?_) (fun cdv A outer s H vs Q E hr h => ?_)
  · obtain ⟨m, M, e, z, rfl, hM, h⟩ := h
    rfl
  obtain ⟨m, M, e, z, rfl, hM, h⟩ := h
  refine ⟨_, (pss_cons (ps_expr (pe_call G_check_known (hr.mono (by first | decide | omega)) rfl D_check_known.m D_check_known.F.kp D_check_known.b .nil (passes_call (takes_of rfl rfl rfl rfl) (fun _ _ _ _ h => h)) (pa_cons (pv 1) (pa_cons (pe_fld (pv 0) rfl) pa_nil))))
      (pss_one (ps_expr (pe_call G_check_known (hr.mono (by first | decide | omega)) rfl D_check_known.m D_check_known.F.kp D_check_known.b .nil (passes_call (takes_of rfl rfl rfl rfl) (fun _ _ _ _ h => h)) (pa_cons (pv 2) (pa_cons (pe_fld (pv 0) rfl) pa_nil)))))), ?_⟩
  obtain ⟨dx, ai, ae, at', ad, h0, h1, h2, h3, h4, h5⟩ := id hM
  refine ⟨_, rfl, _, rfl, m, C_Market, dx, _, _, rfl, h0, T.cl_Market, T.no_Market_events, mf_e, e, ae, M.evs, rfl, h2, ?_⟩
  rcases h with ⟨he, q⟩ | ⟨he, hz, q⟩ | ⟨he, hz, q⟩
  · exact .inr ⟨he, fun d nd => q d _ (same_new nd) upd_same⟩
  · refine .inl ⟨he, ?_⟩
    exact ⟨_, rfl, _, rfl, m, C_Market, dx, _, _, rfl, h0, T.cl_Market, T.no_Market_insurers, mf_i, z, ai, M.ins, rfl, h1, .inr ⟨hz, fun d nd => q d _ (same_new nd) upd_same⟩⟩
  · refine .inl ⟨he, ?_⟩
    exact ⟨_, rfl, _, rfl, m, C_Market, dx, _, _, rfl, h0, T.cl_Market, T.no_Market_insurers, mf_i, z, ai, M.ins, rfl, h1, .inl ⟨hz, q H (Same.refl H)⟩⟩

theorem ok_is_entry {f : Addr} {fd : FuncData} (D_is_entry : Dfn K mg "is_entry" s_is_entry ["value"] f fd) (T : Tx K mg C_BadName C_BadCover C_BadPanel C_BadAmount C_NameTaken C_NoSuchName C_NoSuchNotice C_Twice C_OwnPanel C_TooMany C_NoEnd C_Post C_Market N_NOTHING) {f_is_name : Addr} {fd_is_name : FuncData} (D_is_name : Dfn K mg "is_name" s_is_name ["value"] f_is_name fd_is_name) (G_is_name : FnOk P w K mg base CX0 (1) f_is_name fd_is_name ["value"] (sp_is_name K)) {f_is_between : Addr} {fd_is_between : FuncData} (D_is_between : Dfn K mg "is_between" s_is_between ["value", "low", "high"] f_is_between fd_is_between) (G_is_between : FnOk P w K mg base CX0 (1) f_is_between fd_is_between ["value", "low", "high"] (sp_is_between K)) :
    FnOk P w K mg base CX0 (2) f fd ["value"] (sp_is_entry K) := by
  refine D_is_entry.F.ok sc_is_entry (fun vs H Q E h => ?_) (fun cdv A outer s H vs Q E hr h => ?_)
  · obtain ⟨x, rfl, h⟩ := h
    rfl
  obtain ⟨x, rfl, h⟩ := h
  refine ⟨_, (pss_cons (ps_if (PW.pt (pw_or (pt_not (pt_val (pe_callB call_isi (by rfl) T.isinstance (by decide +kernel) (pa_cons (pv 0) (pa_cons (pe_bltn (v := .ty "tuple") (by rfl) T.tuple (by decide +kernel) rfl) pa_nil))))) (pw_or1 (pt_cmpR op_ne (pe_callB call_len_seq (by rfl) T.len PySem.boot_len (pa_cons (pv 0) pa_nil)) pe_int (nomark _)))))
      (pss_one (ps_ret pe_bl))
      pss_nil)
      (pss_cons (ps_asg (pv 0) (pg_tup rfl (pgs_cons (pg_name (i := 1) sc_is_entry.nd rfl (by first | exact Or.inl rfl | exact Or.inr rfl)) (pgs_cons (pg_name (i := 2) sc_is_entry.nd rfl (by first | exact Or.inl rfl | exact Or.inr rfl)) pgs_nil))))
      (pss_cons (ps_if (PW.pt (pw_and (pt_cmpR op_notN (pv 1) pe_non (nomark _)) (pw_and1 (pt_not (pt_val (pe_call G_is_name (hr.mono (by first | decide | omega)) rfl D_is_name.m D_is_name.F.kp D_is_name.b .nil pass0 (pa_cons (pv 1) pa_nil)))))))
      (pss_one (ps_ret pe_bl))
      pss_nil)
      (pss_one (ps_ret (pe_call G_is_between (hr.mono (by first | decide | omega)) rfl D_is_between.m D_is_between.F.kp D_is_between.b .nil pass0 (pa_cons (pv 2) (pa_cons pe_int (pa_cons (pe_gi rfl T.g_MOST_SHARES) pa_nil))))))))), ?_⟩
  rcases h with ⟨e, ⟨a, rfl, hS⟩, ⟨hn, h1, h2⟩, q⟩ | ⟨⟨t, ty, hk⟩ | ⟨a, xs, rfl, hS, hl, h⟩, q⟩
  · refine ⟨_, rfl, _, _, _, _, _, rfl, .ty _, tyx_tup hS, kit_ty (r := true) (by decide +kernel), _, rfl, iteF ?_⟩
    refine ⟨_, rfl, a, _, rfl, .inr hS, rfl, _, rfl, iteF ?_⟩
    refine ⟨_, rfl, a, _, rfl, hS, rfl, _, _, rfl, _, _, rfl, rfl, ?_⟩
    have e2 : btw (.int e.2) 1 100 = true := by
      show (decide (1 ≤ e.2) && decide (e.2 ≤ 100)) = true
      rw [decide_eq_true h1, decide_eq_true h2]
      rfl
    rcases e with ⟨_ | z, n⟩
    · refine ⟨_, rfl, rfl, _, rfl, iteF (iteF ?_)⟩
      refine ⟨_, rfl, .int n, 1, 100, rfl, ty_flat rfl, ?_⟩
      rw [show btw (.int n) 1 100 = true from e2]
      exact q H (Same.refl H)
    · obtain ⟨hz, hz2⟩ := hn z rfl
      refine ⟨_, rfl, rfl, _, rfl, iteT ?_⟩
      refine ⟨_, rfl, _, rfl, .inl ⟨⟨z, rfl, hz2, hz⟩, fun H' sm => ⟨_, rfl, iteF ?_⟩⟩⟩
      refine ⟨_, rfl, .int n, 1, 100, rfl, ty_flat rfl, ?_⟩
      rw [show btw (.int n) 1 100 = true from e2]
      exact q H' sm
  · exact ⟨_, rfl, _, _, _, _, _, rfl, .ty _, ty, hk, _, rfl, iteT (iteT (q H (Same.refl H)))⟩
  · refine ⟨_, rfl, _, _, _, _, _, rfl, .ty _, tyx_tup hS, kit_ty (r := true) (by decide +kernel), _, rfl, iteF ?_⟩
    refine ⟨_, rfl, a, _, rfl, .inr hS, rfl, _, rfl, ?_⟩
    by_cases h2 : xs.length = 2
    · have e2 : decide (V.int ((xs.length : Nat) : Int) = V.int 2) = true := decide_eq_true (by rw [h2]; rfl)
      rw [e2]
      refine iteF ?_
      rcases h with h | ⟨p, s, rfl, fs, h⟩
      · exact absurd h2 h
      refine ⟨_, rfl, a, _, rfl, hS, rfl, _, _, rfl, _, _, rfl, rfl, ?_⟩
      have fin : ∀ H', Same H H' → btw s 1 100 = false → tRet (tCall (sp_is_between K) [] E0 (tCons (tVar 2) (tCons (tC (.int 1)) (tCons (tC (.int 100)) tNil)))) { nx := fun _ H' => Q .non H', rt := Q } [some (.ref a), some p, some s] H' := fun H' sm hb => by
        refine ⟨_, rfl, s, 1, 100, rfl, ty_flat fs, ?_⟩
        rw [hb]
        exact q H' sm
      rcases h with ⟨np, h⟩ | ⟨rfl | h, hb⟩
      · refine ⟨_, rfl, rfl, ?_⟩
        rw [decide_eq_false np]
        refine ⟨_, rfl, iteT ?_⟩
        exact ⟨_, rfl, _, rfl, .inr ⟨h, fun H' sm => ⟨_, rfl, iteT (q H' sm)⟩⟩⟩
      · exact ⟨_, rfl, rfl, _, rfl, iteF (iteF (fin H (Same.refl H) hb))⟩
      · obtain ⟨z, rfl, hz⟩ := id h
        refine ⟨_, rfl, rfl, _, rfl, iteT ?_⟩
        exact ⟨_, rfl, _, rfl, .inl ⟨h, fun H' sm => ⟨_, rfl, iteF (fin H' sm hb)⟩⟩⟩
    · have e2 : decide (V.int ((xs.length : Nat) : Int) = V.int 2) = false := decide_eq_false (fun e => h2 (by have := V.int.inj e; omega))
      rw [e2]
      exact iteT (q H (Same.refl H))

theorem ok_is_panel {f : Addr} {fd : FuncData} (D_is_panel : Dfn K mg "is_panel" s_is_panel ["value"] f fd) (T : Tx K mg C_BadName C_BadCover C_BadPanel C_BadAmount C_NameTaken C_NoSuchName C_NoSuchNotice C_Twice C_OwnPanel C_TooMany C_NoEnd C_Post C_Market N_NOTHING) {f_is_entry : Addr} {fd_is_entry : FuncData} (D_is_entry : Dfn K mg "is_entry" s_is_entry ["value"] f_is_entry fd_is_entry) (G_is_entry : FnOk P w K mg base CX0 (2) f_is_entry fd_is_entry ["value"] (sp_is_entry K)) :
    FnOk P w K mg base CX0 (3) f fd ["value"] (sp_is_panel K) := by
  refine D_is_panel.F.ok sc_is_panel (fun vs H Q E h => ?_) (fun cdv A outer s H vs Q E hr h => ?_)
  · obtain ⟨x, rfl, h⟩ := h
    rfl
  obtain ⟨x, rfl, h⟩ := h
  refine ⟨_, (pss_cons (ps_if (PW.pt (pw_or (pt_not (pt_val (pe_callB call_isi (by rfl) T.isinstance (by decide +kernel) (pa_cons (pv 0) (pa_cons (pe_bltn (v := .ty "tuple") (by rfl) T.tuple (by decide +kernel) rfl) pa_nil))))) (pw_or1 (pt_not (pt_chain op_le op_le pe_int (pe_callB call_len_seq (by rfl) T.len PySem.boot_len (pa_cons (pv 0) pa_nil)) (pe_gi rfl T.g_MOST_ENTRIES))))))
      (pss_one (ps_ret pe_bl))
      pss_nil)
      (pss_cons (ps_if (pt_not (pt_val (pe_callB (cr_all rfl) (by rfl) T.all (by decide +kernel) (pa_cons (pe_lc (own := [("entry", 1)]) (g := (gName 1)) (tt := tYes) rfl sc_is_panel.nd (pi_tup (pv 0)) (blkOk_by (own := [("entry", 1)]) (N := (["value", "entry", "_", "shares"] : List Str)) (sc := defScope s_is_panel) (by decide +kernel)) (fun _ _ _ _ _ => (pg_name (i := 1) sc_is_panel.nd rfl (by first | exact Or.inl rfl | exact Or.inr rfl))) (fun _ _ _ _ _ => pts_nil) (fun _ _ _ _ _ => (pe_call G_is_entry (hr.mono (by first | decide | omega)) rfl D_is_entry.m D_is_entry.F.kp D_is_entry.b .nil pass0 (pa_cons (pv 1) pa_nil)))) pa_nil))))
      (pss_one (ps_ret pe_bl))
      pss_nil)
      (pss_one (ps_ret (pe_cmpR op_le (pe_callB (cr_sumS rfl) (by rfl) T.sum (by decide +kernel) (pa_cons (pe_lc (own := [("_", 2), ("shares", 3)]) (g := (gTup K 2 (gCons (gName 2) (gCons (gName 3) gNil)))) (tt := tYes) rfl sc_is_panel.nd (pi_tup (pv 0)) (blkOk_by (own := [("_", 2), ("shares", 3)]) (N := (["value", "entry", "_", "shares"] : List Str)) (sc := defScope s_is_panel) (by decide +kernel)) (fun _ _ _ _ _ => (pg_tup rfl (pgs_cons (pg_name (i := 2) sc_is_panel.nd rfl (by first | exact Or.inl rfl | exact Or.inr rfl)) (pgs_cons (pg_name (i := 3) sc_is_panel.nd rfl (by first | exact Or.inl rfl | exact Or.inr rfl)) pgs_nil)))) (fun _ _ _ _ _ => pts_nil) (fun _ _ _ _ _ => (pv 3))) pa_nil)) (pe_gi rfl T.g_MOST_SHARES) (nomark _)))))), ?_⟩
  have U : (∃ t, TyX K H x t ∧ PySem.W.kitOne K t (.type "tuple") = some false ∧ ∀ H', Same H H' → Q (.bl false) H') ∨
      (∃ (a : Addr) (xs : List V), x = .ref a ∧ SqT K H a xs ∧ xs.length ≤ 1000 ∧ (xs.length = 0 ∨ 6 < xs.length) ∧ ∀ H', Same H H' → Q (.bl false) H') ∨
      ∃ (a : Addr) (xs : List V) (bs : List Bool), x = .ref a ∧ SqT K H a xs ∧ 1 ≤ xs.length ∧ xs.length ≤ 6 ∧ Cls6 K H xs bs ∧
        ((bs.all id = false ∧ ∀ H', Same H H' → Q (.bl false) H') ∨ (bs.all id = true ∧ ∃ ns : List Int, ns.length = xs.length ∧ (∀ (i : Nat) y, xs[i]? = some y → ∃ b p n, y = .ref b ∧ SqT K H b [p, .int n] ∧ ns[i]? = some n) ∧ ∀ H', Same H H' → Q (.bl (decide (ns.sum ≤ 100))) H')) := by
    rcases h with ⟨ps, ⟨a, xs, rfl, hS, hl, hE⟩, hok, q⟩ | ⟨⟨t, ty, hk⟩ | ⟨a, xs, bs, rfl, hS, hl, h⟩ | ⟨ps, ⟨a, xs, rfl, hS, hl, hE⟩, h1, h6, hok, hsum⟩, q⟩
    · obtain ⟨g1, g2, g3, g4⟩ := cls_good hl hE hok.ent
      have h1 := hok.lo
      have h6 := hok.hi
      refine .inr (.inr ⟨a, xs, _, rfl, hS, by omega, by omega, g1, .inr ⟨g2, _, g3, g4, ?_⟩⟩)
      rw [decide_eq_true hok.sum]
      exact q
    · exact .inl ⟨t, ty, hk, q⟩
    · by_cases h0 : xs.length = 0
      · exact .inr (.inl ⟨a, xs, rfl, hS, hl, .inl h0, q⟩)
      · by_cases h6 : 6 < xs.length
        · exact .inr (.inl ⟨a, xs, rfl, hS, hl, .inr h6, q⟩)
        · rcases h with h | h | ⟨hb, ha, hc⟩
          · exact absurd h h0
          · exact absurd h h6
          · exact .inr (.inr ⟨a, xs, bs, rfl, hS, by omega, by omega, ⟨hb, hc⟩, .inl ⟨ha, q⟩⟩)
    · obtain ⟨g1, g2, g3, g4⟩ := cls_good hl hE hok
      refine .inr (.inr ⟨a, xs, _, rfl, hS, by omega, by omega, g1, .inr ⟨g2, _, g3, g4, ?_⟩⟩)
      rw [decide_eq_false (by omega)]
      exact q
  rcases U with ⟨t, ty, hk, q⟩ | ⟨a, xs, rfl, hS, hl, h, q⟩ | ⟨a, xs, bs, rfl, hS, h1, h6, ⟨hb, hc⟩, h⟩
  · exact ⟨_, rfl, _, _, _, _, _, rfl, .ty _, ty, hk, _, rfl, iteT (iteT (q H (Same.refl H)))⟩
  · refine ⟨_, rfl, _, _, _, _, _, rfl, .ty _, tyx_tup hS, kit_ty (r := true) (by decide +kernel), _, rfl, iteF ?_⟩
    refine ⟨_, rfl, a, _, rfl, .inr hS, _, _, rfl, rfl, _, rfl, ?_⟩
    rcases h with h | h
    · rw [decide_eq_false (show ¬ (1 : Int) ≤ ((xs.length : Nat) : Int) by omega)]
      exact ⟨_, rfl, iteT (q H (Same.refl H))⟩
    · rw [decide_eq_true (show (1 : Int) ≤ ((xs.length : Nat) : Int) by omega)]
      refine iteT ⟨_, _, rfl, rfl, _, rfl, ?_⟩
      rw [decide_eq_false (show ¬ ((xs.length : Nat) : Int) ≤ 6 by omega)]
      exact iteT (q H (Same.refl H))
  · refine ⟨_, rfl, _, _, _, _, _, rfl, .ty _, tyx_tup hS, kit_ty (r := true) (by decide +kernel), _, rfl, iteF ?_⟩
    refine ⟨_, rfl, a, _, rfl, .inr hS, _, _, rfl, rfl, _, rfl, ?_⟩
    rw [decide_eq_true (show (1 : Int) ≤ ((xs.length : Nat) : Int) by omega)]
    refine iteT ⟨_, _, rfl, rfl, _, rfl, ?_⟩
    rw [decide_eq_true (show ((xs.length : Nat) : Int) ≤ 6 by omega)]
    refine iteF ?_
    have hbl : (bs.map V.bl).length = xs.length := by rw [List.length_map, hb]
    refine ⟨_, rfl, a, rfl, ⟨_, hS⟩, fun D nD => lc_tup (K := K) (a := a) (xs := xs) (fun i H' => Same H H' ∧ H' D = some (.lst ((bs.map V.bl).take i))) ⟨same_new nD, upd_same⟩ (fun i H' _ z => same_sqt z.1 hS) ?_ ?_⟩
    · rintro i y H' hi ⟨sm, hD⟩
      have hil := (List.getElem?_eq_some_iff.mp hi).1
      have hbi : bs[i]? = some bs[i] := List.getElem?_eq_getElem (by omega)
      have hy : (bs.map V.bl)[i]? = some (.bl bs[i]) := by
        rw [List.getElem?_map, hbi]
        rfl
      refine ⟨rfl, ?_⟩
      rcases hc i y _ hi hbi with ⟨eb, e, hA, hok⟩ | ⟨eb, hB⟩
      · rw [eb] at hy
        exact ⟨_, rfl, y, rfl, .inl ⟨e, EntAt.same sm hA, hok, fun H1 s1 => acc_to nD (sm.trans s1) (s1 _ _ hD) hy (by omega)⟩⟩
      · rw [eb] at hy
        exact ⟨_, rfl, y, rfl, .inr ⟨BadEnt.same sm hB, fun H1 s1 => acc_to nD (sm.trans s1) (s1 _ _ hD) hy (by omega)⟩⟩
    · rintro H' ⟨sm, hD⟩
      have hD2 := acc_all hbl.symm hD
      refine ⟨D, bs, rfl, SqL.of hD2, _, rfl, ?_⟩
      rcases h with ⟨ha, q⟩ | ⟨ha, ns, hn, hx, q⟩
      · rw [ha]
        exact iteT (q H' sm)
      · rw [ha]
        refine iteF ?_
        have hS' := same_sqt sm hS
        refine ⟨_, rfl, a, rfl, ⟨_, hS'⟩, fun G nG => lc_tup (K := K) (a := a) (xs := xs) (fun i H1 => Same H' H1 ∧ H1 G = some (.lst ((ns.map V.int).take i))) ⟨same_new nG, upd_same⟩ (fun i H1 _ z => same_sqt z.1 hS') ?_ ?_⟩
        · rintro i y H1 hi ⟨s1, hG⟩
          obtain ⟨b, p, n, rfl, hb2, hn2⟩ := hx i y hi
          refine ⟨b, _, rfl, same_sqt (sm.trans s1) hb2, rfl, _, _, rfl, _, _, rfl, rfl, rfl, ?_⟩
          exact ⟨_, rfl, acc_to nG s1 hG (at_map hn2) (by rw [List.length_map]; omega)⟩
        · rintro H1 ⟨s1, hG⟩
          have hG2 := acc_all (by rw [List.length_map, hn]) hG
          exact ⟨G, ns, rfl, .inl (SqL.of hG2), _, _, rfl, rfl, q H1 (sm.trans s1)⟩

theorem ok_check_panel {f : Addr} {fd : FuncData} (D_check_panel : Dfn K mg "check_panel" s_check_panel ["value"] f fd) (T : Tx K mg C_BadName C_BadCover C_BadPanel C_BadAmount C_NameTaken C_NoSuchName C_NoSuchNotice C_Twice C_OwnPanel C_TooMany C_NoEnd C_Post C_Market N_NOTHING) {f_is_panel : Addr} {fd_is_panel : FuncData} (D_is_panel : Dfn K mg "is_panel" s_is_panel ["value"] f_is_panel fd_is_panel) (G_is_panel : FnOk P w K mg base CX0 (3) f_is_panel fd_is_panel ["value"] (sp_is_panel K)) :
    FnOk P w K mg base (L2.CX P w) (4) f fd ["value"] (sp_check_panel K C_BadPanel) := by
  refine D_check_panel.F.okX sc_check_panel (fun vs H Q E h => ?_) (fun cdv A outer s H vs Q E hr h => ?_)
  · obtain ⟨x, rfl, h⟩ := h
    rfl
  obtain ⟨x, rfl, h⟩ := h
  refine ⟨_, (pss_one (ps_if (pt_not (pt_val (pe_call G_is_panel (hr.mono (by first | decide | omega)) rfl D_is_panel.m D_is_panel.F.kp D_is_panel.b .nil pass0 (pa_cons (pv 0) pa_nil))))
      (pss_one (ps_raise rfl (takes_of rfl rfl rfl rfl) (pmk_own PySem.F.excBase_ValueError T.exc_BadPanel.x T.exc_BadPanel.g T.exc_BadPanel.k (raises_own T.exc_BadPanel.b T.exc_BadPanel.t) rfl)))
      pss_nil)), ?_⟩
  rcases h with ⟨ps, h, hok, q⟩ | ⟨h, q⟩
  · exact ⟨_, rfl, _, rfl, .inl ⟨ps, h, hok, fun H' sm => ⟨_, rfl, iteF (q H' sm)⟩⟩⟩
  · exact ⟨_, rfl, _, rfl, .inr ⟨h, fun H' sm => ⟨_, rfl, iteT (q H' sm)⟩⟩⟩

theorem ok_allocate {f : Addr} {fd : FuncData} (D_allocate : Dfn K mg "allocate" s_allocate ["amount", "shares"] f fd) (T : Tx K mg C_BadName C_BadCover C_BadPanel C_BadAmount C_NameTaken C_NoSuchName C_NoSuchNotice C_Twice C_OwnPanel C_TooMany C_NoEnd C_Post C_Market N_NOTHING) :
    FnOk P w K mg base CX0 (1) f fd ["amount", "shares"] (sp_allocate K) := by
  refine D_allocate.F.ok sc_allocate (fun vs H Q E h => ?_) (fun cdv A outer s H vs Q E hr h => ?_)
  · obtain ⟨a, s, sh, rfl, hS, q⟩ := h
    rfl
  obtain ⟨a, s, sh, rfl, hS, q⟩ := h
  have S0 := hS.pos.sum1 hS.ne
  have small : ∀ v ∈ sh, -(2 ^ 64) < v ∧ v < 2 ^ 64 := fun v hv => by
    have h1 := hS.pos v hv
    have h2 := le_sum hS.pos v hv
    have h3 := hS.sum
    omega
  have hlen : sh.length ≤ 100000 := by
    have h1 := len_sum hS.pos
    have h3 := hS.sum
    omega
  have hsum := hS.sum
  obtain ⟨hsq, hpos, hne, _⟩ := hS
  rcases hsq with hq | hq
  · refine ⟨_, (pss_cons (ps_asg (pe_callB call_divmod (by rfl) T.divmod (by decide +kernel) (pa_cons (pv 0) (pa_cons (pe_callB (cr_sumS rfl) (by rfl) T.sum (by decide +kernel) (pa_cons (pv 1) pa_nil)) pa_nil))) (pg_tup rfl (pgs_cons (pg_name (i := 2) sc_allocate.nd rfl (by first | exact Or.inl rfl | exact Or.inr rfl)) (pgs_cons (pg_name (i := 3) sc_allocate.nd rfl (by first | exact Or.inl rfl | exact Or.inr rfl)) pgs_nil))))
      (pss_cons (ps_set (i := 4) sc_allocate.nd rfl (by first | exact Or.inl rfl | exact Or.inr rfl) (pe_lst pa_nil))
      (pss_cons (ps_for PassesOwn.never rfl (pi_list (pv 1)) (pg_name (i := 5) sc_allocate.nd rfl (by first | exact Or.inl rfl | exact Or.inr rfl))
      (pss_cons (ps_set (i := 6) sc_allocate.nd rfl (by first | exact Or.inl rfl | exact Or.inr rfl) (pe_callB (call_min2 rfl) (by rfl) T.min (by decide +kernel) (pa_cons (pv 5) (pa_cons (pv 3) pa_nil))))
      (pss_cons (ps_expr (pe_bm PySem.F.plainAttrs_list PySem.F.slot_list_append PySem.F.type_list_append mt_append (pv 4) (pa_cons (pe_op op_add (pe_op op_mul (pv 5) (pv 2)) (pv 6)) pa_nil)))
      (pss_one (ps_aug (i := 3) sc_allocate.nd rfl (by first | exact Or.inl rfl | exact Or.inr rfl) (pv 6) ip_sub)))))
      (pss_one (ps_ret (pe_callTy call_tuple_of (by rfl) T.tuple (by decide +kernel) (pa_cons (pv 4) pa_nil))))))), ?_⟩
    refine ⟨_, rfl, _, rfl, s, sh, rfl, .inl hq, _, _, rfl, ⟨S0, by omega⟩, fun p np => ⟨p, _, rfl, SqT.of upd_same, rfl, _, _, rfl, _, _, rfl, rfl, Nat.zero_le _, fun o no => ?_⟩⟩
    have s1 : Same H (upd (upd H p (.tup [.int (a / sh.sum), .int (a % sh.sum)])) o (.lst [])) := same_add (same_new np) no
    refine ⟨_, rfl, s, rfl, ⟨_, s1.seq hq⟩, for_list (K := K) (a := s) (xs := sh.map V.int) (fun i σ H' => ∃ (r : Int) (acc : List Int) (v1 v2 : Option V), σ = [some (.int a), some (.ref s), some (.int (a / sh.sum)), some (.int r), some (.ref o), v1, v2] ∧ Same H H' ∧
      H' o = some (.lst (acc.map V.int)) ∧ acc.length = i ∧ alloc a sh = acc ++ go (a / sh.sum) r (sh.drop i)) ⟨a % sh.sum, [], none, none, rfl, s1, upd_same, rfl, rfl⟩ (fun i σ H' _ ⟨_, _, _, _, _, sm, _⟩ => sm.seq hq) ?_ ?_⟩
    · rintro i y σ H' hi ⟨r, acc, v1, v2, rfl, sm, ho, hl, hal⟩
      obtain ⟨v, rfl, hv⟩ := of_at_map hi
      have hil := (List.getElem?_eq_some_iff.mp hv).1
      have hb := small v (List.mem_of_getElem? hv)
      rw [go_step hv] at hal
      refine ⟨_, rfl, _, rfl, _, _, rfl, ?_⟩
      refine ⟨_, rfl, .inl ⟨rfl, _, SqL.of ho⟩, _, rfl, _, rfl, _, _, rfl, rfl, .inl hb, _, rfl, _, _, rfl, rfl, o, _, _, rfl, rfl, ho, by rw [List.length_map]; exact szl (by omega), ?_⟩
      refine ⟨_, rfl, _, rfl, _, _, rfl, rfl, ?_⟩
      refine ⟨r - cut2 v r, acc ++ [v * (a / sh.sum) + cut2 v r], _, _, rfl, same_put sm (free2 np no), ?_, ?_, ?_⟩
      · rw [upd_same, List.map_append]
        rfl
      · rw [List.length_append, hl]
        rfl
      · rw [hal, List.append_assoc]
        rfl
    · rintro σ H' ⟨r, acc, v1, v2, rfl, sm, ho, hl, hal⟩
      rw [List.length_map] at hal
      rw [List.drop_eq_nil_of_le (Nat.le_refl _)] at hal
      have hal2 : alloc a sh = acc := hal.trans (List.append_nil _)
      refine ⟨_, rfl, o, _, rfl, .inl ⟨SqL.of ho, fun l nl => ?_⟩⟩
      exact q l _ (same_add sm nl) (sm.free nl) (by rw [upd_same, hal2])
  · refine ⟨_, (pss_cons (ps_asg (pe_callB call_divmod (by rfl) T.divmod (by decide +kernel) (pa_cons (pv 0) (pa_cons (pe_callB (cr_sumS rfl) (by rfl) T.sum (by decide +kernel) (pa_cons (pv 1) pa_nil)) pa_nil))) (pg_tup rfl (pgs_cons (pg_name (i := 2) sc_allocate.nd rfl (by first | exact Or.inl rfl | exact Or.inr rfl)) (pgs_cons (pg_name (i := 3) sc_allocate.nd rfl (by first | exact Or.inl rfl | exact Or.inr rfl)) pgs_nil))))
      (pss_cons (ps_set (i := 4) sc_allocate.nd rfl (by first | exact Or.inl rfl | exact Or.inr rfl) (pe_lst pa_nil))
      (pss_cons (ps_for PassesOwn.never rfl (pi_tup (pv 1)) (pg_name (i := 5) sc_allocate.nd rfl (by first | exact Or.inl rfl | exact Or.inr rfl))
      (pss_cons (ps_set (i := 6) sc_allocate.nd rfl (by first | exact Or.inl rfl | exact Or.inr rfl) (pe_callB (call_min2 rfl) (by rfl) T.min (by decide +kernel) (pa_cons (pv 5) (pa_cons (pv 3) pa_nil))))
      (pss_cons (ps_expr (pe_bm PySem.F.plainAttrs_list PySem.F.slot_list_append PySem.F.type_list_append mt_append (pv 4) (pa_cons (pe_op op_add (pe_op op_mul (pv 5) (pv 2)) (pv 6)) pa_nil)))
      (pss_one (ps_aug (i := 3) sc_allocate.nd rfl (by first | exact Or.inl rfl | exact Or.inr rfl) (pv 6) ip_sub)))))
      (pss_one (ps_ret (pe_callTy call_tuple_of (by rfl) T.tuple (by decide +kernel) (pa_cons (pv 4) pa_nil))))))), ?_⟩
    refine ⟨_, rfl, _, rfl, s, sh, rfl, .inr hq, _, _, rfl, ⟨S0, by omega⟩, fun p np => ⟨p, _, rfl, SqT.of upd_same, rfl, _, _, rfl, _, _, rfl, rfl, Nat.zero_le _, fun o no => ?_⟩⟩
    have s1 : Same H (upd (upd H p (.tup [.int (a / sh.sum), .int (a % sh.sum)])) o (.lst [])) := same_add (same_new np) no
    refine ⟨_, rfl, s, rfl, ⟨_, same_sqt s1 hq⟩, for_tup (K := K) (a := s) (xs := sh.map V.int) (fun i σ H' => ∃ (r : Int) (acc : List Int) (v1 v2 : Option V), σ = [some (.int a), some (.ref s), some (.int (a / sh.sum)), some (.int r), some (.ref o), v1, v2] ∧ Same H H' ∧
      H' o = some (.lst (acc.map V.int)) ∧ acc.length = i ∧ alloc a sh = acc ++ go (a / sh.sum) r (sh.drop i)) ⟨a % sh.sum, [], none, none, rfl, s1, upd_same, rfl, rfl⟩ (fun i σ H' _ ⟨_, _, _, _, _, sm, _⟩ => same_sqt sm hq) ?_ ?_⟩
    · rintro i y σ H' hi ⟨r, acc, v1, v2, rfl, sm, ho, hl, hal⟩
      obtain ⟨v, rfl, hv⟩ := of_at_map hi
      have hil := (List.getElem?_eq_some_iff.mp hv).1
      have hb := small v (List.mem_of_getElem? hv)
      rw [go_step hv] at hal
      refine ⟨_, rfl, _, rfl, _, _, rfl, ?_⟩
      refine ⟨_, rfl, .inl ⟨rfl, _, SqL.of ho⟩, _, rfl, _, rfl, _, _, rfl, rfl, .inl hb, _, rfl, _, _, rfl, rfl, o, _, _, rfl, rfl, ho, by rw [List.length_map]; exact szl (by omega), ?_⟩
      refine ⟨_, rfl, _, rfl, _, _, rfl, rfl, ?_⟩
      refine ⟨r - cut2 v r, acc ++ [v * (a / sh.sum) + cut2 v r], _, _, rfl, same_put sm (free2 np no), ?_, ?_, ?_⟩
      · rw [upd_same, List.map_append]
        rfl
      · rw [List.length_append, hl]
        rfl
      · rw [hal, List.append_assoc]
        rfl
    · rintro σ H' ⟨r, acc, v1, v2, rfl, sm, ho, hl, hal⟩
      rw [List.length_map] at hal
      rw [List.drop_eq_nil_of_le (Nat.le_refl _)] at hal
      have hal2 : alloc a sh = acc := hal.trans (List.append_nil _)
      refine ⟨_, rfl, o, _, rfl, .inl ⟨SqL.of ho, fun l nl => ?_⟩⟩
      exact q l _ (same_add sm nl) (sm.free nl) (by rw [upd_same, hal2])

theorem ok_is_cover {f : Addr} {fd : FuncData} (D_is_cover : Dfn K mg "is_cover" s_is_cover ["value"] f fd) (T : Tx K mg C_BadName C_BadCover C_BadPanel C_BadAmount C_NameTaken C_NoSuchName C_NoSuchNotice C_Twice C_OwnPanel C_TooMany C_NoEnd C_Post C_Market N_NOTHING) {f_is_between : Addr} {fd_is_between : FuncData} (D_is_between : Dfn K mg "is_between" s_is_between ["value", "low", "high"] f_is_between fd_is_between) (G_is_between : FnOk P w K mg base CX0 (1) f_is_between fd_is_between ["value", "low", "high"] (sp_is_between K)) :
    FnOk P w K mg base CX0 (2) f fd ["value"] (sp_is_cover K) := by
  refine D_is_cover.F.ok sc_is_cover (fun vs H Q E h => ?_) (fun cdv A outer s H vs Q E hr h => ?_)
  · obtain ⟨x, rfl, h⟩ := h
    rfl
  obtain ⟨x, rfl, h⟩ := h
  refine ⟨_, (pss_cons (ps_if (PW.pt (pw_or (pt_not (pt_val (pe_callB call_isi (by rfl) T.isinstance (by decide +kernel) (pa_cons (pv 0) (pa_cons (pe_bltn (v := .ty "tuple") (by rfl) T.tuple (by decide +kernel) rfl) pa_nil))))) (pw_or1 (pt_cmpR op_eq (pe_callB call_len_seq (by rfl) T.len PySem.boot_len (pa_cons (pv 0) pa_nil)) pe_int (nomark _)))))
      (pss_one (ps_ret pe_bl))
      pss_nil)
      (pss_cons (ps_asg (pv 0) (pg_star (n := 2) (i := 1) rfl (pgs_cons (pg_name (i := 1) sc_is_cover.nd rfl (by first | exact Or.inl rfl | exact Or.inr rfl)) (pgs_star (pg_name (i := 2) sc_is_cover.nd rfl (by first | exact Or.inl rfl | exact Or.inr rfl)) pgs_nil)) (by decide)))
      (pss_cons (ps_if (pt_cmpR op_eq (pv 1) pe_str (nomark _))
      (pss_one (ps_ret (pe_and (pe_cmpR op_eq (pe_callB call_len_seq (by rfl) T.len PySem.boot_len (pa_cons (pv 2) pa_nil)) pe_int (nomark _)) (pe_one (pe_call G_is_between (hr.mono (by first | decide | omega)) rfl D_is_between.m D_is_between.F.kp D_is_between.b .nil pass0 (pa_cons (pe_ix (r := rIxL K) ix_list (pv 2) pe_int (fun _ _ => rfl)) (pa_cons pe_int (pa_cons (pe_gi rfl T.g_WHOLE) pa_nil))))))))
      pss_nil)
      (pss_cons (ps_if (pt_cmpR op_eq (pv 1) pe_str (nomark _))
      (pss_one (ps_ret (pe_and (pe_cmpR op_eq (pe_callB call_len_seq (by rfl) T.len PySem.boot_len (pa_cons (pv 2) pa_nil)) pe_int (nomark _)) (pe_and (pe_call G_is_between (hr.mono (by first | decide | omega)) rfl D_is_between.m D_is_between.F.kp D_is_between.b .nil pass0 (pa_cons (pe_ix (r := rIxL K) ix_list (pv 2) pe_int (fun _ _ => rfl)) (pa_cons pe_int (pa_cons (pe_gi rfl T.g_MOST_RETENTION) pa_nil)))) (pe_one (pe_call G_is_between (hr.mono (by first | decide | omega)) rfl D_is_between.m D_is_between.F.kp D_is_between.b .nil pass0 (pa_cons (pe_ix (r := rIxL K) ix_list (pv 2) pe_int (fun _ _ => rfl)) (pa_cons pe_int (pa_cons (pe_gi rfl T.g_MOST_LIMIT) pa_nil)))))))))
      pss_nil)
      (pss_one (ps_ret pe_bl)))))), ?_⟩
  rcases h with ⟨t, ty, hk, q⟩ | ⟨a, xs, rfl, hS, hl, hf, q⟩
  · exact ⟨_, rfl, _, _, _, _, _, rfl, .ty _, ty, hk, _, rfl, iteT (iteT q)⟩
  · refine ⟨_, rfl, _, _, _, _, _, rfl, .ty _, tyx_tup hS, kit_ty (r := true) (by decide +kernel), _, rfl, iteF ?_⟩
    refine ⟨_, rfl, a, xs, rfl, .inr hS, rfl, _, rfl, ?_⟩
    cases xs with
    | nil =>
      refine iteT ?_
      exact q H (Same.refl H)
    | cons w r =>
      have e0 : decide (V.int (((w :: r).length : Nat) : Int) = V.int 0) = false := decide_eq_false (fun e => by
        have := V.int.inj e
        rw [List.length_cons] at this
        omega)
      rw [e0]
      refine iteF ?_
      rw [List.all_cons, Bool.and_eq_true] at hf
      rw [List.length_cons] at hl
      refine ⟨_, rfl, a, w :: r, rfl, hS, (by rw [List.length_cons]; omega), (by rw [List.length_cons]; omega), fun D nD => ?_⟩
      have hr : ((w :: r).drop 1).take ((w :: r).length + 1 - 2) = r := List.take_of_length_le (by
        rw [List.length_cons]
        show r.length ≤ r.length + 1 + 1 - 2
        omega)
      rw [hr]
      refine ⟨_, _, rfl, _, _, rfl, List.drop_eq_nil_of_le (by
        rw [List.length_cons]
        show r.length ≤ r.length + 1 + 1 - 2
        omega), ?_⟩
      have sD : Same H (upd H D (.lst r)) := same_new nD
      have hD : upd H D (.lst r) D = some (.lst r) := upd_same
      obtain ⟨H1, h1⟩ : ∃ H1, upd H D (.lst r) = H1 := ⟨_, rfl⟩
      rw [h1] at sD hD ⊢
      have q := q H1 sD
      have scw : ∀ z : Str, scal w (.str z) = true := fun z => by
        cases w <;> first | rfl | (cases hf.1)
      refine ⟨_, rfl, scw _, _, rfl, ?_⟩
      refine iteB (fun c => ?_) (fun c => ?_)
      · have ew : w = .str "share" := of_decide_eq_true c
        subst ew
        refine ⟨_, rfl, D, r, rfl, .inl (SqL.of hD), rfl, _, rfl, ?_⟩
        cases r with
        | nil => exact q
        | cons x r2 =>
          cases r2 with
          | nil =>
            refine iteT ?_
            have fx : flatV x = true := by
              have := hf.2
              rw [List.all_cons, Bool.and_eq_true] at this
              exact this.1
            refine ⟨_, rfl, D, _, _, x, rfl, rfl, SqL.of hD, rfl, x, 1, 1000, rfl, ty_flat fx, ?_⟩
            have e : isCov [.str "share", x] = btw x 1 1000 := by
              show (decide (("share" : Str) = "share") && btw x 1 1000) = btw x 1 1000
              rw [decide_eq_true rfl, Bool.true_and]
            rw [e] at q
            exact q
          | cons y r3 =>
            have e1 : decide (V.int (((x :: y :: r3).length : Nat) : Int) = V.int 1) = false := decide_eq_false (fun e => by
              have := V.int.inj e
              rw [List.length_cons, List.length_cons] at this
              omega)
            rw [e1]
            refine iteF ?_
            have e2 : isCov (.str "share" :: x :: y :: r3) = false := by
              cases r3 with
              | nil =>
                show (decide (("share" : Str) = "layer") && (btw x 0 100000 && btw y 1 100000)) = false
                rw [decide_eq_false (fun e => share_layer e.symm), Bool.false_and]
              | cons _ _ => rfl
            rw [e2] at q
            exact q
      · have nw : ¬ w = .str "share" := of_decide_eq_false c
        refine ⟨_, rfl, scw _, _, rfl, ?_⟩
        refine iteB (fun d => ?_) (fun d => ?_)
        · have ew : w = .str "layer" := of_decide_eq_true d
          subst ew
          refine ⟨_, rfl, D, r, rfl, .inl (SqL.of hD), rfl, _, rfl, ?_⟩
          match r, q, hD, hf with
          | [], q, _, _ => exact q
          | [x], q, _, _ =>
            have e2 : isCov [.str "layer", x] = false := by
              show (decide (("layer" : Str) = "share") && btw x 1 1000) = false
              rw [decide_eq_false share_layer, Bool.false_and]
            rw [e2] at q
            exact q
          | [x, y], q, hD, hf =>
            refine iteT ?_
            have f2 := hf.2
            rw [List.all_cons, List.all_cons, Bool.and_eq_true, Bool.and_eq_true] at f2
            have e : isCov [.str "layer", x, y] = (btw x 0 100000 && btw y 1 100000) := by
              show (decide (("layer" : Str) = "layer") && (btw x 0 100000 && btw y 1 100000)) = (btw x 0 100000 && btw y 1 100000)
              rw [decide_eq_true (rfl : ("layer" : Str) = "layer")]
              exact Bool.true_and _
            rw [e] at q
            refine ⟨_, rfl, D, _, _, x, rfl, rfl, SqL.of hD, rfl, x, 0, 100000, rfl, ty_flat f2.1, _, rfl, ?_⟩
            refine iteB (fun g => ?_) (fun g => ?_)
            · rw [g, Bool.true_and] at q
              exact ⟨_, rfl, D, _, _, y, rfl, rfl, SqL.of hD, rfl, y, 1, 100000, rfl, ty_flat f2.2.1, q⟩
            · rw [g, Bool.false_and] at q
              exact q
          | x :: y :: z :: r4, q, _, _ =>
            have e1 : decide (V.int (((x :: y :: z :: r4).length : Nat) : Int) = V.int 2) = false := decide_eq_false (fun e => by
              have := V.int.inj e
              rw [List.length_cons, List.length_cons, List.length_cons] at this
              omega)
            rw [e1]
            refine iteF ?_
            exact q
        · have nw2 : ¬ w = .str "layer" := of_decide_eq_false d
          have e2 : isCov (w :: r) = false := by
            cases w with
            | str z =>
              have n1 : ¬ z = "share" := fun e => nw (by rw [e])
              have n2 : ¬ z = "layer" := fun e => nw2 (by rw [e])
              match r with
              | [] => rfl
              | [x] =>
                show (decide (z = "share") && btw x 1 1000) = false
                rw [decide_eq_false n1, Bool.false_and]
              | [x, y] =>
                show (decide (z = "layer") && (btw x 0 100000 && btw y 1 100000)) = false
                rw [decide_eq_false n2, Bool.false_and]
              | _ :: _ :: _ :: _ => rfl
            | _ => rfl
          rw [e2] at q
          exact q

theorem ok_check_cover {f : Addr} {fd : FuncData} (D_check_cover : Dfn K mg "check_cover" s_check_cover ["value"] f fd) (T : Tx K mg C_BadName C_BadCover C_BadPanel C_BadAmount C_NameTaken C_NoSuchName C_NoSuchNotice C_Twice C_OwnPanel C_TooMany C_NoEnd C_Post C_Market N_NOTHING) {f_is_cover : Addr} {fd_is_cover : FuncData} (D_is_cover : Dfn K mg "is_cover" s_is_cover ["value"] f_is_cover fd_is_cover) (G_is_cover : FnOk P w K mg base CX0 (2) f_is_cover fd_is_cover ["value"] (sp_is_cover K)) :
    FnOk P w K mg base (L2.CX P w) (3) f fd ["value"] (sp_check_cover K C_BadCover) := by
  refine D_check_cover.F.okX sc_check_cover (fun vs H Q E h => ?_) (fun cdv A outer s H vs Q E hr h => ?_)
  · obtain ⟨x, rfl, h⟩ := h
    rfl
  obtain ⟨x, rfl, h⟩ := h
  refine ⟨_, (pss_one (ps_if (pt_not (pt_val (pe_call G_is_cover (hr.mono (by first | decide | omega)) rfl D_is_cover.m D_is_cover.F.kp D_is_cover.b .nil pass0 (pa_cons (pv 0) pa_nil))))
      (pss_one (ps_raise rfl (takes_of rfl rfl rfl rfl) (pmk_own PySem.F.excBase_ValueError T.exc_BadCover.x T.exc_BadCover.g T.exc_BadCover.k (raises_own T.exc_BadCover.b T.exc_BadCover.t) rfl)))
      pss_nil)), ?_⟩
  rcases h with ⟨⟨a, c, rfl, hS, hok⟩, q⟩ | ⟨⟨t, ty, hk⟩ | ⟨a, xs, rfl, hS, hl, hf, hc⟩, q⟩
  · refine ⟨_, rfl, _, rfl, .inr ⟨a, cvV c, rfl, hS, cv_len c, flat_cvV c, fun H' sm => ⟨_, rfl, ?_⟩⟩⟩
    rw [isCov_cvV hok]
    exact iteF (q H' sm)
  · exact ⟨_, rfl, _, rfl, .inl ⟨t, ty, hk, _, rfl, iteT (q H (Same.refl H))⟩⟩
  · refine ⟨_, rfl, _, rfl, .inr ⟨a, xs, rfl, hS, hl, hf, fun H' sm => ⟨_, rfl, ?_⟩⟩⟩
    rw [hc]
    exact iteT (q H' sm)

theorem ok_recovery {f : Addr} {fd : FuncData} (D_recovery : Dfn K mg "recovery" s_recovery ["cover", "loss"] f fd) (T : Tx K mg C_BadName C_BadCover C_BadPanel C_BadAmount C_NameTaken C_NoSuchName C_NoSuchNotice C_Twice C_OwnPanel C_TooMany C_NoEnd C_Post C_Market N_NOTHING) :
    FnOk P w K mg base CX0 (1) f fd ["cover", "loss"] (sp_recovery K) := by
  refine D_recovery.F.ok sc_recovery (fun vs H Q E h => ?_) (fun cdv A outer s H vs Q E hr h => ?_)
  · obtain ⟨a, c, x, rfl, hS, hc, q⟩ := h
    rfl
  obtain ⟨a, c, x, rfl, hS, hc, q⟩ := h
  refine ⟨_, (pss_cons (ps_if (pt_cmpR op_eq (pe_ix (r := rIxT K) ix_tup (pv 0) pe_int (fun _ _ => rfl)) pe_str (nomark _))
      (pss_one (ps_ret (pe_op op_fdiv (pe_op op_mul (pe_ix (r := rIxT K) ix_tup (pv 0) pe_int (fun _ _ => rfl)) (pv 1)) (pe_gi rfl T.g_WHOLE))))
      pss_nil)
      (pss_cons (ps_asg (pv 0) (pg_tup rfl (pgs_cons (pg_name (i := 2) sc_recovery.nd rfl (by first | exact Or.inl rfl | exact Or.inr rfl)) (pgs_cons (pg_name (i := 3) sc_recovery.nd rfl (by first | exact Or.inl rfl | exact Or.inr rfl)) (pgs_cons (pg_name (i := 4) sc_recovery.nd rfl (by first | exact Or.inl rfl | exact Or.inr rfl)) pgs_nil)))))
      (pss_one (ps_ret (pe_callB (call_min2 rfl) (by rfl) T.min (by decide +kernel) (pa_cons (pe_callB (call_max2 rfl) (by rfl) T.max (by decide +kernel) (pa_cons (pe_op op_sub (pv 1) (pv 3)) (pa_cons pe_int pa_nil))) (pa_cons (pv 4) pa_nil))))))), ?_⟩
  cases c with
  | share p =>
    obtain ⟨h1, h2⟩ := hc
    refine ⟨_, rfl, a, _, _, _, rfl, rfl, hS, rfl, rfl, _, rfl, ?_⟩
    refine iteT ?_
    exact ⟨_, rfl, a, _, _, _, rfl, rfl, hS, rfl, _, rfl, _, _, rfl, rfl, .inl ⟨by omega, by omega⟩, _, _, rfl, rfl, ⟨by decide, by decide⟩, q⟩
  | layer r l =>
    obtain ⟨h1, h2, h3, h4⟩ := hc
    refine ⟨_, rfl, a, _, _, _, rfl, rfl, hS, rfl, rfl, _, rfl, ?_⟩
    rw [show decide (V.str "layer" = V.str "share") = false from decide_eq_false (fun e => share_layer (V.str.inj e))]
    refine iteF ?_
    refine ⟨_, rfl, a, _, rfl, hS, rfl, _, _, rfl, _, _, rfl, _, _, rfl, rfl, ?_⟩
    refine ⟨_, rfl, _, rfl, _, _, rfl, rfl, _, _, rfl, _, rfl, _, _, rfl, ?_⟩
    rw [max_min r l x h3]
    exact q

theorem ok_programme {f : Addr} {fd : FuncData} (D_programme : Dfn K mg "programme" s_programme ["covers", "loss"] f fd) (T : Tx K mg C_BadName C_BadCover C_BadPanel C_BadAmount C_NameTaken C_NoSuchName C_NoSuchNotice C_Twice C_OwnPanel C_TooMany C_NoEnd C_Post C_Market N_NOTHING) {f_recovery : Addr} {fd_recovery : FuncData} (D_recovery : Dfn K mg "recovery" s_recovery ["cover", "loss"] f_recovery fd_recovery) (G_recovery : FnOk P w K mg base CX0 (1) f_recovery fd_recovery ["cover", "loss"] (sp_recovery K)) :
    FnOk P w K mg base CX0 (2) f fd ["covers", "loss"] (sp_programme K) := by
  refine D_programme.F.ok sc_programme (fun vs H Q E h => ?_) (fun cdv A outer s H vs Q E hr h => ?_)
  · obtain ⟨s, x, ys, cs, rfl, hq, hC, hl, q⟩ := h
    rfl
  obtain ⟨s, x, ys, cs, rfl, hq, hC, hl, q⟩ := h
  have hyl : ys.length = cs.length := hC.1
  rcases hq with hq | hq
  · refine ⟨_, (pss_cons (ps_set (i := 2) sc_programme.nd rfl (by first | exact Or.inl rfl | exact Or.inr rfl) (pe_lst pa_nil))
      (pss_cons (ps_set (i := 3) sc_programme.nd rfl (by first | exact Or.inl rfl | exact Or.inr rfl) (pv 1))
      (pss_cons (ps_for PassesOwn.never rfl (pi_list (pv 0)) (pg_name (i := 4) sc_programme.nd rfl (by first | exact Or.inl rfl | exact Or.inr rfl))
      (pss_cons (ps_set (i := 5) sc_programme.nd rfl (by first | exact Or.inl rfl | exact Or.inr rfl) (pe_call G_recovery (hr.mono (by first | decide | omega)) rfl D_recovery.m D_recovery.F.kp D_recovery.b .nil pass0 (pa_cons (pv 4) (pa_cons (pv 3) pa_nil))))
      (pss_cons (ps_expr (pe_bm PySem.F.plainAttrs_list PySem.F.slot_list_append PySem.F.type_list_append mt_append (pv 2) (pa_cons (pv 5) pa_nil)))
      (pss_one (ps_aug (i := 3) sc_programme.nd rfl (by first | exact Or.inl rfl | exact Or.inr rfl) (pv 5) ip_sub)))))
      (pss_one (ps_ret (pe_tup (pa_cons (pe_callTy call_tuple_of (by rfl) T.tuple (by decide +kernel) (pa_cons (pv 2) pa_nil)) (pa_cons (pv 3) pa_nil)))))))), ?_⟩
    refine ⟨Nat.zero_le _, fun o no => ?_⟩
    have s1 := same_new (o := .lst []) no
    refine ⟨_, rfl, _, rfl, s, rfl, ⟨_, s1.seq hq⟩, for_list (K := K) (a := s) (xs := ys) (fun i σ H' => ∃ (r : Int) (acc : List Int) (v1 v2 : Option V), σ = [some (.ref s), some (.int x), some (.ref o), some (.int r), v1, v2] ∧ Same H H' ∧ H' o = some (.lst (acc.map V.int)) ∧ acc.length = i ∧
      prog cs x = (acc ++ (prog (cs.drop i) r).1, (prog (cs.drop i) r).2)) ⟨x, [], none, none, rfl, s1, upd_same, rfl, rfl⟩ (fun i σ H' _ ⟨_, _, _, _, _, sm, _⟩ => sm.seq hq) ?_ ?_⟩
    · rintro i y σ H' hi ⟨r, acc, v1, v2, rfl, sm, ho, hal, hp⟩
      obtain ⟨a, c, rfl, hc, ha, hok⟩ := hC.get hi
      have hil := (List.getElem?_eq_some_iff.mp hc).1
      rw [prog_step hc] at hp
      refine ⟨_, rfl, _, rfl, a, c, r, rfl, same_sqt sm ha, hok, ?_⟩
      refine ⟨_, rfl, .inl ⟨rfl, _, SqL.of ho⟩, _, rfl, o, _, _, rfl, rfl, ho, by rw [List.length_map]; exact szl (by omega), ?_⟩
      refine ⟨_, rfl, _, rfl, _, _, rfl, rfl, ?_⟩
      refine ⟨r - pays c r, acc ++ [pays c r], _, _, rfl, same_put sm no, ?_, ?_, ?_⟩
      · rw [upd_same, List.map_append]
        rfl
      · rw [List.length_append, hal]
        rfl
      · rw [hp, List.append_assoc]
        rfl
    · rintro σ H' ⟨r, acc, v1, v2, rfl, sm, ho, hal, hp⟩
      rw [hyl, List.drop_eq_nil_of_le (Nat.le_refl _)] at hp
      have hp2 : prog cs x = (acc, r) := by
        rw [hp]
        show (acc ++ [], r) = (acc, r)
        rw [List.append_nil]
      rw [hp2] at q
      refine ⟨_, rfl, o, _, rfl, .inl ⟨SqL.of ho, fun t nt => ⟨_, rfl, sz (by show 2 ≤ 100000; decide), fun p np => ?_⟩⟩⟩
      exact q t p _ (same_add (same_add sm nt) np) (same_new np _ _ upd_same) upd_same
  · refine ⟨_, (pss_cons (ps_set (i := 2) sc_programme.nd rfl (by first | exact Or.inl rfl | exact Or.inr rfl) (pe_lst pa_nil))
      (pss_cons (ps_set (i := 3) sc_programme.nd rfl (by first | exact Or.inl rfl | exact Or.inr rfl) (pv 1))
      (pss_cons (ps_for PassesOwn.never rfl (pi_tup (pv 0)) (pg_name (i := 4) sc_programme.nd rfl (by first | exact Or.inl rfl | exact Or.inr rfl))
      (pss_cons (ps_set (i := 5) sc_programme.nd rfl (by first | exact Or.inl rfl | exact Or.inr rfl) (pe_call G_recovery (hr.mono (by first | decide | omega)) rfl D_recovery.m D_recovery.F.kp D_recovery.b .nil pass0 (pa_cons (pv 4) (pa_cons (pv 3) pa_nil))))
      (pss_cons (ps_expr (pe_bm PySem.F.plainAttrs_list PySem.F.slot_list_append PySem.F.type_list_append mt_append (pv 2) (pa_cons (pv 5) pa_nil)))
      (pss_one (ps_aug (i := 3) sc_programme.nd rfl (by first | exact Or.inl rfl | exact Or.inr rfl) (pv 5) ip_sub)))))
      (pss_one (ps_ret (pe_tup (pa_cons (pe_callTy call_tuple_of (by rfl) T.tuple (by decide +kernel) (pa_cons (pv 2) pa_nil)) (pa_cons (pv 3) pa_nil)))))))), ?_⟩
    refine ⟨Nat.zero_le _, fun o no => ?_⟩
    have s1 := same_new (o := .lst []) no
    refine ⟨_, rfl, _, rfl, s, rfl, ⟨_, same_sqt s1 hq⟩, for_tup (K := K) (a := s) (xs := ys) (fun i σ H' => ∃ (r : Int) (acc : List Int) (v1 v2 : Option V), σ = [some (.ref s), some (.int x), some (.ref o), some (.int r), v1, v2] ∧ Same H H' ∧ H' o = some (.lst (acc.map V.int)) ∧ acc.length = i ∧
      prog cs x = (acc ++ (prog (cs.drop i) r).1, (prog (cs.drop i) r).2)) ⟨x, [], none, none, rfl, s1, upd_same, rfl, rfl⟩ (fun i σ H' _ ⟨_, _, _, _, _, sm, _⟩ => same_sqt sm hq) ?_ ?_⟩
    · rintro i y σ H' hi ⟨r, acc, v1, v2, rfl, sm, ho, hal, hp⟩
      obtain ⟨a, c, rfl, hc, ha, hok⟩ := hC.get hi
      have hil := (List.getElem?_eq_some_iff.mp hc).1
      rw [prog_step hc] at hp
      refine ⟨_, rfl, _, rfl, a, c, r, rfl, same_sqt sm ha, hok, ?_⟩
      refine ⟨_, rfl, .inl ⟨rfl, _, SqL.of ho⟩, _, rfl, o, _, _, rfl, rfl, ho, by rw [List.length_map]; exact szl (by omega), ?_⟩
      refine ⟨_, rfl, _, rfl, _, _, rfl, rfl, ?_⟩
      refine ⟨r - pays c r, acc ++ [pays c r], _, _, rfl, same_put sm no, ?_, ?_, ?_⟩
      · rw [upd_same, List.map_append]
        rfl
      · rw [List.length_append, hal]
        rfl
      · rw [hp, List.append_assoc]
        rfl
    · rintro σ H' ⟨r, acc, v1, v2, rfl, sm, ho, hal, hp⟩
      rw [hyl, List.drop_eq_nil_of_le (Nat.le_refl _)] at hp
      have hp2 : prog cs x = (acc, r) := by
        rw [hp]
        show (acc ++ [], r) = (acc, r)
        rw [List.append_nil]
      rw [hp2] at q
      refine ⟨_, rfl, o, _, rfl, .inl ⟨SqL.of ho, fun t nt => ⟨_, rfl, sz (by show 2 ≤ 100000; decide), fun p np => ?_⟩⟩⟩
      exact q t p _ (same_add (same_add sm nt) np) (same_new np _ _ upd_same) upd_same

theorem ok_active_covers {f : Addr} {fd : FuncData} (D_active_covers : Dfn K mg "active_covers" s_active_covers ["treaties", "cedent"] f fd) (T : Tx K mg C_BadName C_BadCover C_BadPanel C_BadAmount C_NameTaken C_NoSuchName C_NoSuchNotice C_Twice C_OwnPanel C_TooMany C_NoEnd C_Post C_Market N_NOTHING) :
    FnOk P w K mg base CX0 (1) f fd ["treaties", "cedent"] (sp_active_covers K) := by
  refine D_active_covers.F.ok sc_active_covers (fun vs H Q E h => ?_) (fun cdv A outer s H vs Q E hr h => ?_)
  · obtain ⟨a, ts, ced, rfl, ⟨xs, hS, hA⟩, hl, q⟩ := h
    rfl
  obtain ⟨a, ts, ced, rfl, ⟨xs, hS, hA⟩, hl, q⟩ := h
  refine ⟨_, (pss_one (ps_ret (pe_lc (own := [("number", 2), ("owner", 3), ("cover", 4), ("_", 5), ("ended", 6)]) (g := (gTup K 2 (gCons (gName 2) (gCons (gTup K 4 (gCons (gName 3) (gCons (gName 4) (gCons (gName 5) (gCons (gName 6) gNil))))) gNil)))) rfl sc_active_covers.nd (pi_enumS true (by rfl) T.enumerate (pa_cons (pv 0) pa_nil)) (blkOk_by (own := [("number", 2), ("owner", 3), ("cover", 4), ("_", 5), ("ended", 6)]) (N := (["treaties", "cedent", "number", "owner", "cover", "_", "ended"] : List Str)) (sc := defScope s_active_covers) (by decide +kernel)) (fun _ _ _ _ _ => (pg_tup rfl (pgs_cons (pg_name (i := 2) sc_active_covers.nd rfl (by first | exact Or.inl rfl | exact Or.inr rfl)) (pgs_cons (pg_tup rfl (pgs_cons (pg_name (i := 3) sc_active_covers.nd rfl (by first | exact Or.inl rfl | exact Or.inr rfl)) (pgs_cons (pg_name (i := 4) sc_active_covers.nd rfl (by first | exact Or.inl rfl | exact Or.inr rfl)) (pgs_cons (pg_name (i := 5) sc_active_covers.nd rfl (by first | exact Or.inl rfl | exact Or.inr rfl)) (pgs_cons (pg_name (i := 6) sc_active_covers.nd rfl (by first | exact Or.inl rfl | exact Or.inr rfl)) pgs_nil))))) pgs_nil)))) (fun _ _ _ _ _ => (pts_one (PW.pt (pw_and (pt_cmpR op_eq (pv 3) (pv 1) (nomark _)) (pw_and1 (pt_not (pt_val (pv 6)))))))) (fun _ _ _ _ _ => (pe_tup (pa_cons (pv 2) (pa_cons (pv 4) pa_nil))))))), ?_⟩
  have hxl := hA.1
  refine ⟨_, rfl, a, xs, rfl, hS, fun D nD => lc_it (walk_E (tp := true) (a := a) (xs := xs)) (fun i H' => Same H H' ∧ ∃ (ys : List V) (l : List (Nat × Cov)), H' D = some (.lst ys) ∧ AllAt (ActAt K) H' ys l ∧ l.length ≤ i ∧ actv ced 0 ts = l ++ actv ced i (ts.drop i)) ⟨same_new nD, [], [], upd_same, .nil, Nat.zero_le _, rfl⟩ (fun i H' _ z => same_sqt z.1 hS) ?_ ?_⟩
  · rintro i v H1 H' hi ⟨sm, ys, l, hD, hy, hli, hac⟩ ⟨T0, x, y, rfl, nT, rfl, e1, e2⟩
    cases e1
    obtain ⟨t, ht, a1, vc, vp, rfl, g1, g2, g3⟩ := hA.get e2
    rw [actv_step ht] at hac
    have s1 : Same H (upd H1 T0 (.tup [.int (i : Nat), .ref a1])) := same_add sm nT
    have s2 : Same H1 (upd H1 T0 (.tup [.int (i : Nat), .ref a1])) := same_new nT
    generalize hw : wipe _ _ = w0
    have ew : w0 = [some (.ref a), some (.str ced), none, none, none, none, none] := by
      rw [← hw]
      kernel_rfl
    clear hw
    subst ew
    refine ⟨T0, _, rfl, SqT.of upd_same, rfl, ?_⟩
    refine ⟨_, _, rfl, _, _, rfl, ?_⟩
    refine ⟨a1, _, rfl, same_sqt s1 g1, rfl, ?_⟩
    refine ⟨_, _, rfl, ?_⟩
    refine ⟨_, _, rfl, ?_⟩
    refine ⟨_, _, rfl, ?_⟩
    refine ⟨_, _, rfl, ?_⟩
    refine ⟨rfl, ?_⟩
    refine ⟨rfl, ?_⟩
    refine ⟨by kernel_rfl, ?_⟩
    have hD1 : (upd H1 T0 (.tup [.int (i : Nat), .ref a1])) D = some (.lst ys) := s2 _ _ hD
    have hyA : AllAt (ActAt K) (upd H1 T0 (.tup [.int (i : Nat), .ref a1])) ys l := AllAt.same (R := ActAt K) (fun e r => ActAt.same e r) s2 hy
    have no : (decide (t.ced = ced) && !t.ended) = false → Same H (upd H1 T0 (.tup [.int (i : Nat), .ref a1])) ∧ ∃ (ys : List V) (l : List (Nat × Cov)), (upd H1 T0 (.tup [.int (i : Nat), .ref a1])) D = some (.lst ys) ∧ AllAt (ActAt K) (upd H1 T0 (.tup [.int (i : Nat), .ref a1])) ys l ∧ l.length ≤ i + 1 ∧ actv ced 0 ts = l ++ actv ced (i + 1) (ts.drop (i + 1)) := fun e => by
      rw [e] at hac
      exact ⟨s1, ys, l, hD1, hyA, by omega, hac⟩
    have ec : decide (V.str t.ced = V.str ced) = decide (t.ced = ced) := by
      by_cases h : t.ced = ced
      · rw [decide_eq_true h, decide_eq_true (by rw [h])]
      · rw [decide_eq_false h, decide_eq_false (fun e => h (V.str.inj e))]
    refine ⟨_, rfl, _, rfl, rfl, _, rfl, ?_⟩
    rw [ec]
    refine iteB (fun c1 => ?_) (fun c1 => ?_)
    · refine ⟨_, rfl, _, rfl, ?_⟩
      cases he : t.ended with
      | true => exact no (by rw [c1, he]; rfl)
      | false =>
        rw [c1, he] at hac
        obtain ⟨H2, h2⟩ : ∃ H2, (upd H1 T0 (.tup [.int (i : Nat), .ref a1])) = H2 := ⟨_, rfl⟩
        rw [h2] at s1 s2 hD1 hyA ⊢
        refine ⟨_, rfl, _, rfl, sz (by show 2 ≤ 100000; decide), fun b nb => ?_⟩
        have sb : Same H2 (upd H2 b (.tup [.int (i : Nat), .ref vc])) := same_new nb
        refine ⟨ys, sb _ _ hD1, szl (by rw [hyA.1]; omega), same_put (s1.trans sb) nD, ys ++ [.ref b], l ++ [(i, t.cov)], upd_same, ?_, by rw [List.length_append]; show l.length + 1 ≤ i + 1; omega, ?_⟩
        · have hDb := sb _ _ hD1
          refine AllAt.imp (AllAt.add (AllAt.same (R := ActAt K) (fun e r => ActAt.same e r) sb hyA) (y := .ref b) (l := (i, t.cov)) ⟨b, vc, rfl, SqT.of upd_same, same_sqt (s1.trans sb) g2⟩) fun y p r => ActAt.put hDb r
        · rw [hac, List.append_assoc]
          rfl
    · exact no (by rw [c1]; rfl)
  · rintro H' ⟨sm, ys, l, hD, hy, hli, hac⟩
    rw [hxl, List.drop_eq_nil_of_le (Nat.le_refl _)] at hac
    have e : actv ced 0 ts = l := hac.trans (List.append_nil _)
    exact q D H' ys sm hD (by rw [e]; exact hy)

theorem ok_cede {f : Addr} {fd : FuncData} (D_cede : Dfn K mg "cede" s_cede ["treaties", "cedent", "loss"] f fd) (T : Tx K mg C_BadName C_BadCover C_BadPanel C_BadAmount C_NameTaken C_NoSuchName C_NoSuchNotice C_Twice C_OwnPanel C_TooMany C_NoEnd C_Post C_Market N_NOTHING) {f_active_covers : Addr} {fd_active_covers : FuncData} (D_active_covers : Dfn K mg "active_covers" s_active_covers ["treaties", "cedent"] f_active_covers fd_active_covers) (G_active_covers : FnOk P w K mg base CX0 (1) f_active_covers fd_active_covers ["treaties", "cedent"] (sp_active_covers K)) {f_programme : Addr} {fd_programme : FuncData} (D_programme : Dfn K mg "programme" s_programme ["covers", "loss"] f_programme fd_programme) (G_programme : FnOk P w K mg base CX0 (2) f_programme fd_programme ["covers", "loss"] (sp_programme K)) :
    FnOk P w K mg base CX0 (3) f fd ["treaties", "cedent", "loss"] (sp_cede K) := by
  refine D_cede.F.ok sc_cede (fun vs H Q E h => ?_) (fun cdv A outer s H vs Q E hr h => ?_)
  · obtain ⟨a, ts, ced, x, rfl, hT, hl, hok, q⟩ := h
    rfl
  obtain ⟨a, ts, ced, x, rfl, hT, hl, hok, q⟩ := h
  refine ⟨_, (pss_cons (ps_set (i := 3) sc_cede.nd rfl (by first | exact Or.inl rfl | exact Or.inr rfl) (pe_call G_active_covers (hr.mono (by first | decide | omega)) rfl D_active_covers.m D_active_covers.F.kp D_active_covers.b .nil pass0 (pa_cons (pv 0) (pa_cons (pv 1) pa_nil))))
      (pss_cons (ps_asg (pe_call G_programme (hr.mono (by first | decide | omega)) rfl D_programme.m D_programme.F.kp D_programme.b .nil pass0 (pa_cons (pe_lc (own := [("_", 6), ("cover", 7)]) (g := (gTup K 2 (gCons (gName 6) (gCons (gName 7) gNil)))) (tt := tYes) rfl sc_cede.nd (pi_list (pv 3)) (blkOk_by (own := [("_", 6), ("cover", 7)]) (N := (["treaties", "cedent", "loss", "covers", "amounts", "net", "_", "cover", "number", "amount"] : List Str)) (sc := defScope s_cede) (by decide +kernel)) (fun _ _ _ _ _ => (pg_tup rfl (pgs_cons (pg_name (i := 6) sc_cede.nd rfl (by first | exact Or.inl rfl | exact Or.inr rfl)) (pgs_cons (pg_name (i := 7) sc_cede.nd rfl (by first | exact Or.inl rfl | exact Or.inr rfl)) pgs_nil)))) (fun _ _ _ _ _ => pts_nil) (fun _ _ _ _ _ => (pv 7))) (pa_cons (pv 2) pa_nil))) (pg_tup rfl (pgs_cons (pg_name (i := 4) sc_cede.nd rfl (by first | exact Or.inl rfl | exact Or.inr rfl)) (pgs_cons (pg_name (i := 5) sc_cede.nd rfl (by first | exact Or.inl rfl | exact Or.inr rfl)) pgs_nil))))
      (pss_one (ps_ret (pe_tup (pa_cons (pe_dc (own := [("number", 8), ("_", 6), ("amount", 9)]) (g := (gTup K 2 (gCons (gTup K 2 (gCons (gName 8) (gCons (gName 6) gNil))) (gCons (gName 9) gNil)))) (tt := tYes) rfl sc_cede.nd (pi_zipS false true (by rfl) T.zip (pa_cons (pv 3) (pa_cons (pv 4) pa_nil))) (blkOk_by (own := [("number", 8), ("_", 6), ("amount", 9)]) (N := (["treaties", "cedent", "loss", "covers", "amounts", "net", "_", "cover", "number", "amount"] : List Str)) (sc := defScope s_cede) (by decide +kernel)) (fun _ _ _ _ _ => (pg_tup rfl (pgs_cons (pg_tup rfl (pgs_cons (pg_name (i := 8) sc_cede.nd rfl (by first | exact Or.inl rfl | exact Or.inr rfl)) (pgs_cons (pg_name (i := 6) sc_cede.nd rfl (by first | exact Or.inl rfl | exact Or.inr rfl)) pgs_nil))) (pgs_cons (pg_name (i := 9) sc_cede.nd rfl (by first | exact Or.inl rfl | exact Or.inr rfl)) pgs_nil)))) (fun _ _ _ _ _ => pts_nil) (fun _ _ _ _ _ => (pv 8)) (fun _ _ _ _ _ => (pv 9))) (pa_cons (pv 5) pa_nil))))))), ?_⟩
  refine ⟨_, rfl, _, rfl, a, ts, ced, rfl, hT, hl, fun o H1 ys s1 ho hy => ?_⟩
  have hal := actv_len ced 0 ts
  obtain ⟨ac, hac⟩ : ∃ ac, actv ced 0 ts = ac := ⟨_, rfl⟩
  unfold cedeP at q
  rw [hac] at hy hal q
  have hyl := hy.1
  have acok : ∀ p ∈ ac, CvOk p.2 := fun p hp => (actv_ok (ced := ced) (n := 0) hok p (by rw [hac]; exact hp)).1
  obtain ⟨zs, hzl, hz⟩ := pick (R := fun y (p : Nat × Cov) z => ∃ b vc : Addr, y = .ref b ∧ z = .ref vc ∧ SqT K H1 b [.int (p.1 : Nat), .ref vc] ∧ SqT K H1 vc (cvV p.2)) hyl fun i p hp => by
    obtain ⟨y, h1, b, vc, e, h2, h3⟩ := hy.2 i p hp
    exact ⟨y, h1, .ref vc, b, vc, e, rfl, h2, h3⟩
  dsimp only
  refine nx_to ?_
  generalize hw : List.set _ _ _ = w0
  have ew : w0 = [some (.ref a), some (.str ced), some (.int x), some (.ref o), none, none, none, none, none, none] := by
    rw [← hw]
    kernel_rfl
  clear hw
  subst ew
  refine ⟨_, rfl, o, rfl, ⟨_, SqL.of ho⟩, fun D nD => lc_list (K := K) (a := o) (xs := ys) (fun i H' => Same H1 H' ∧ H' D = some (.lst (zs.take i))) ⟨same_new nD, upd_same⟩ (fun i H' _ z => z.1.seq (SqL.of ho)) ?_ ?_⟩
  · rintro i y H' hi ⟨sm, hD⟩
    obtain ⟨p, hp, _⟩ := hy.get hi
    obtain ⟨y2, z, h1, h2, b, vc, rfl, rfl, h3, h4⟩ := hz i p hp
    rw [hi] at h1
    cases h1
    generalize hw : wipe _ _ = w0
    have ew : w0 = [some (.ref a), some (.str ced), some (.int x), some (.ref o), none, none, none, none, none, none] := by
      rw [← hw]
      kernel_rfl
    clear hw
    subst ew
    refine ⟨b, _, rfl, same_sqt sm h3, rfl, ?_⟩
    refine ⟨_, _, rfl, _, _, rfl, rfl, by kernel_rfl, ?_⟩
    exact ⟨_, rfl, acc_to nD sm hD h2 (by omega)⟩
  · rintro H2 ⟨s2, hD⟩
    have hD2 := acc_all (by omega) hD
    have hC : CovsAt K H2 zs (ac.map (·.2)) := by
      refine ⟨by rw [hzl, List.length_map], fun i c hc => ?_⟩
      rw [List.getElem?_map] at hc
      cases hp : ac[i]? with
      | none =>
        rw [hp] at hc
        cases hc
      | some p =>
        rw [hp] at hc
        cases hc
        obtain ⟨y2, z, h1, h2, b, vc, rfl, rfl, h3, h4⟩ := hz i p hp
        exact ⟨vc, h2, same_sqt s2 h4, acok p (List.mem_of_getElem? hp)⟩
    refine ⟨_, rfl, D, x, zs, _, rfl, .inl (SqL.of hD2), hC, by rw [List.length_map]; omega, fun t p H3 s3 ht hp => ?_⟩
    refine ⟨p, _, rfl, SqT.of hp, rfl, _, _, rfl, _, _, rfl, rfl, ?_⟩
    have s13 : Same H1 H3 := s2.trans s3
    generalize hw : List.set _ _ _ = w0
    have ew : w0 = [some (.ref a), some (.str ced), some (.int x), some (.ref o), some (.ref t), some (.int (prog (ac.map (·.2)) x).2), none, none, none, none] := by
      rw [← hw]
      kernel_rfl
    clear hw
    subst ew
    have hpl : (prog (ac.map (·.2)) x).1.length = ac.length := by rw [prog_len, List.length_map]
    refine ⟨_, rfl, _, rfl, o, t, ys, _, rfl, SqL.of (s13 _ _ ho), SqT.of ht, fun G nG => dc_it (walk_Z (t1 := false) (t2 := true) (xs := ys) (ys := (prog (ac.map (·.2)) x).1.map V.int) rfl)
      (fun i H' => Same H3 H' ∧ H' G = some (.dK ((pairsK (ac.map (·.1)) (prog (ac.map (·.2)) x).1).take i))) ⟨same_new nG, upd_same⟩ (fun i H' _ z => ⟨z.1.seq (SqL.of (s13 _ _ ho)), same_sqt z.1 (SqT.of ht)⟩) ?_ ?_⟩
    · rintro i v H4 H5 hi ⟨s4, hG⟩ ⟨T0, y, w, rfl, nT, rfl, e1, e2⟩
      have e1 : ys[i]? = some y := e1
      obtain ⟨pr, hpr, _⟩ := hy.get e1
      obtain ⟨y2, z, h1, h2, b, vc, rfl, rfl, h3, h4⟩ := hz i pr hpr
      rw [e1] at h1
      cases h1
      obtain ⟨am, rfl, ham⟩ := of_at_map e2
      have s5 : Same H4 (upd H4 T0 (.tup [.ref b, .int am])) := same_new nT
      generalize hw : wipe _ _ = w0
      have ew : w0 = [some (.ref a), some (.str ced), some (.int x), some (.ref o), some (.ref t), some (.int (prog (ac.map (·.2)) x).2), none, none, none, none] := by
        rw [← hw]
        kernel_rfl
      clear hw
      subst ew
      refine ⟨T0, _, rfl, SqT.of upd_same, rfl, ?_⟩
      refine ⟨_, _, rfl, b, _, rfl, same_sqt (s13.trans (s4.trans s5)) h3, rfl, ?_⟩
      refine ⟨_, _, rfl, _, _, rfl, rfl, _, _, rfl, rfl, by kernel_rfl, ?_⟩
      have hn : (ac.map (·.1))[i]? = some pr.1 := by
        rw [List.getElem?_map, hpr]
        rfl
      refine ⟨_, rfl, _, rfl, _, .inl (pr.1 : Int), rfl, s5 _ _ hG, ?_, same_put (s4.trans s5) nG, ?_⟩
      · rw [List.length_take]
        have := (List.getElem?_eq_some_iff.mp hpr).1
        exact szl (by omega)
      · rw [upd_same, putK_new (pairsK_new (by rw [← hac]; exact actv_up) hn), List.take_add_one, pairsK_get hn ham]
        rfl
    · rintro H4 ⟨s4, hG⟩
      have hzl2 : (pairsK (ac.map (·.1)) (prog (ac.map (·.2)) x).1).length = min ys.length ((prog (ac.map (·.2)) x).1.map V.int).length := by
        unfold pairsK
        rw [List.length_map, List.length_zip, List.length_map, List.length_map]
        omega
      rw [← hzl2, List.take_of_length_le (Nat.le_refl _)] at hG
      refine ⟨_, rfl, sz (by show 2 ≤ 100000; decide), fun r nr => ?_⟩
      exact q r G _ (s1.trans (s13.trans (same_add s4 nr))) ((s1.trans s13).free nG) (same_new nr _ _ hG) upd_same

theorem ok_treaty_payments {f : Addr} {fd : FuncData} (D_treaty_payments : Dfn K mg "treaty_payments" s_treaty_payments ["insurers", "treaties", "gross"] f fd) (T : Tx K mg C_BadName C_BadCover C_BadPanel C_BadAmount C_NameTaken C_NoSuchName C_NoSuchNotice C_Twice C_OwnPanel C_TooMany C_NoEnd C_Post C_Market N_NOTHING) {f_cede : Addr} {fd_cede : FuncData} (D_cede : Dfn K mg "cede" s_cede ["treaties", "cedent", "loss"] f_cede fd_cede) (G_cede : FnOk P w K mg base CX0 (3) f_cede fd_cede ["treaties", "cedent", "loss"] (sp_cede K)) :
    FnOk P w K mg base CX0 (4) f fd ["insurers", "treaties", "gross"] (sp_treaty_payments K) := by
  refine D_treaty_payments.F.ok sc_treaty_payments (fun vs H Q E h => ?_) (fun cdv A outer s H vs Q E hr h => ?_)
  · obtain ⟨a, b, c, ins, ts, gross, rfl, hI, hT, hl, hok, hG, q⟩ := h
    rfl
  obtain ⟨a, b, c, ins, ts, gross, rfl, hI, hT, hl, hok, hG, q⟩ := h
  refine ⟨_, (pss_cons (ps_set (i := 3) sc_treaty_payments.nd rfl (by first | exact Or.inl rfl | exact Or.inr rfl) (pe_op op_rep (pe_lst (pa_cons pe_int pa_nil)) (pe_callB call_len_seq (by rfl) T.len PySem.boot_len (pa_cons (pv 1) pa_nil))))
      (pss_cons (ps_for PassesOwn.never rfl (pi_zipS true true (by rfl) T.zip (pa_cons (pv 0) (pa_cons (pv 2) pa_nil))) (pg_tup rfl (pgs_cons (pg_name (i := 4) sc_treaty_payments.nd rfl (by first | exact Or.inl rfl | exact Or.inr rfl)) (pgs_cons (pg_name (i := 5) sc_treaty_payments.nd rfl (by first | exact Or.inl rfl | exact Or.inr rfl)) pgs_nil)))
      (pss_cons (ps_asg (pe_call G_cede (hr.mono (by first | decide | omega)) rfl D_cede.m D_cede.F.kp D_cede.b .nil pass0 (pa_cons (pv 1) (pa_cons (pv 4) (pa_cons (pv 5) pa_nil)))) (pg_tup rfl (pgs_cons (pg_name (i := 6) sc_treaty_payments.nd rfl (by first | exact Or.inl rfl | exact Or.inr rfl)) (pgs_cons (pg_name (i := 7) sc_treaty_payments.nd rfl (by first | exact Or.inl rfl | exact Or.inr rfl)) pgs_nil))))
      (pss_one (ps_lock (ps_for PassesOwn.never rfl (pi_items (pv 6)) (pg_tup rfl (pgs_cons (pg_name (i := 8) sc_treaty_payments.nd rfl (by first | exact Or.inl rfl | exact Or.inr rfl)) (pgs_cons (pg_name (i := 9) sc_treaty_payments.nd rfl (by first | exact Or.inl rfl | exact Or.inr rfl)) pgs_nil)))
      (pss_one (ps_asg (pv 9) (pg_sub (pv 3) (pv 8) set_list))))))))
      (pss_one (ps_ret (pe_callTy call_tuple_of (by rfl) T.tuple (by decide +kernel) (pa_cons (pv 3) pa_nil)))))), ?_⟩
  obtain ⟨xs, hS, hA⟩ := id hT
  have hxl := hA.1
  refine ⟨sz (by show 1 ≤ 100000; decide), fun z nz => ⟨_, rfl, b, xs, rfl, .inr (same_sqt (same_new nz) hS), z, ((xs.length : Nat) : Int), [.int 0], rfl, rfl, upd_same, by omega, by omega, ?_, fun o no => ?_⟩⟩
  · rw [show ((xs.length : Nat) : Int).toNat = xs.length by omega]
    exact sz (by show 1 * xs.length ≤ 100000; omega)
  have nO : H o = none := free2 nz no
  have s0 : Same H (upd (upd H z (.lst [.int 0])) o (.lst (List.replicate ((xs.length : Nat) : Int).toNat [V.int 0]).flatten)) := same_add (same_new nz) no
  have h0 : (upd (upd H z (.lst [.int 0])) o (.lst (List.replicate ((xs.length : Nat) : Int).toNat [V.int 0]).flatten)) o = some (.lst ((payP ts [] (List.replicate ts.length 0)).map V.int)) := by
    rw [upd_same, show ((xs.length : Nat) : Int).toNat = xs.length by omega, rep0, hxl]
    rfl
  obtain ⟨H1, h1⟩ : ∃ H1, (upd (upd H z (.lst [.int 0])) o (.lst (List.replicate ((xs.length : Nat) : Int).toNat [V.int 0]).flatten)) = H1 := ⟨_, rfl⟩
  rw [h1] at s0 h0 ⊢
  dsimp only
  refine nx_to ?_
  generalize hw : List.set _ _ _ = w0
  have ew : w0 = [some (.ref a), some (.ref b), some (.ref c), some (.ref o), none, none, none, none, none, none] := by
    rw [← hw]
    kernel_rfl
  clear hw
  subst ew
  refine ⟨_, rfl, _, rfl, a, c, _, _, rfl, same_sqt s0 hI, same_sqt s0 hG, for_it (walk_Z (t1 := true) (t2 := true) (xs := ins.map V.str) (ys := gross.map V.int) rfl)
    (fun j σ H' => ∃ v1 v2 v3 v4 v5 v6 : Option V, σ = [some (.ref a), some (.ref b), some (.ref c), some (.ref o), v1, v2, v3, v4, v5, v6] ∧ Same H H' ∧ H' o = some (.lst ((payP ts ((ins.zip gross).take j) (List.replicate ts.length 0)).map V.int)))
    ⟨_, _, _, _, _, _, rfl, s0, h0⟩ (fun j σ H' _ ⟨_, _, _, _, _, _, _, sm, _⟩ => ⟨same_sqt sm hI, same_sqt sm hG⟩) ?_ ?_⟩
  · rintro j v σ H2 H3 hj ⟨v1, v2, v3, v4, v5, v6, rfl, sm, ho⟩ ⟨T0, y, w, rfl, nT, rfl, e1, e2⟩
    obtain ⟨x, rfl, hx⟩ := of_at_map (show (gross.map V.int)[j]? = some w from e2)
    have e1 : (ins.map V.str)[j]? = some y := e1
    rw [List.getElem?_map] at e1
    obtain ⟨ced, hc, rfl⟩ : ∃ ced, ins[j]? = some ced ∧ y = .str ced := by
      cases h : ins[j]? with
      | none =>
        rw [h] at e1
        cases e1
      | some ced =>
        rw [h] at e1
        exact ⟨ced, rfl, (Option.some.inj e1).symm⟩
    have hz : (ins.zip gross)[j]? = some (ced, x) := List.getElem?_zip_eq_some.mpr ⟨hc, hx⟩
    have s3 : Same H2 (upd H2 T0 (.tup [.str ced, .int x])) := same_new nT
    refine ⟨T0, _, rfl, SqT.of upd_same, rfl, _, _, rfl, _, _, rfl, rfl, ?_⟩
    refine ⟨_, rfl, _, rfl, _, rfl, b, ts, ced, x, rfl, TrsAt.same (sm.trans s3) hT, hl, hok, fun p d H4 s4 nd hd hp => ?_⟩
    refine ⟨p, _, rfl, SqT.of hp, rfl, _, _, rfl, _, _, rfl, rfl, ?_⟩
    have s4' : Same H2 H4 := s3.trans s4
    have ho4 := s4' _ _ ho
    have nod : o ≠ d := ne_of_none (s3 _ _ ho) nd
    obtain ⟨ns, hns⟩ : ∃ ns, (actv ced 0 ts).map (·.1) = ns := ⟨_, rfl⟩
    obtain ⟨as, has⟩ : ∃ as, (cedeP ced ts x).1 = as := ⟨_, rfl⟩
    obtain ⟨ps, hps⟩ : ∃ ps, payP ts ((ins.zip gross).take j) (List.replicate ts.length 0) = ps := ⟨_, rfl⟩
    have hpl : ps.length = ts.length := by
      rw [← hps, payP_len, List.length_replicate]
    rw [hps] at ho4
    rw [hns, has] at hd
    have nlt : ∀ n ∈ ns, n < ts.length := fun n hn => by
      rw [← hns] at hn
      obtain ⟨q, hq, rfl⟩ := List.mem_map.mp hn
      have := (actv_ok (n := 0) hok q hq).2
      omega
    refine ⟨d, _, hd, trivial, fun od => ?_⟩
    refine ⟨_, rfl, d, od, _, rfl, upd_same, for_it walk_items (fun i σ H' => ∃ v1 v2 v3 v4 v5 v6 : Option V, σ = [some (.ref a), some (.ref b), some (.ref c), some (.ref o), v1, v2, v3, v4, v5, v6] ∧ H' d = some (.frz od (.dK (pairsK ns as))) ∧ Bar2 o d H4 H' ∧ H' o = some (.lst ((putP ps ((ns.zip as).take i)).map V.int)))
      ⟨_, _, _, _, _, _, rfl, upd_same, fun b' u n1 n2 e => by rw [upd_ne n2]; exact e, by rw [upd_ne nod]; exact ho4⟩ (fun i σ H' _ ⟨_, _, _, _, _, _, _, hd', _⟩ => hd') ?_ ?_⟩
    · rintro i v σ H5 H6 hi ⟨u1, u2, u3, u4, u5, u6, rfl, hd5, b5, ho5⟩ ⟨T1, y, w, rfl, nT1, rfl, g1, g2⟩
      have g1 : ((pairsK ns as)[i]?.map fun kv => kV kv.1) = some y := g1
      have g2 : ((pairsK ns as)[i]?.map Prod.snd) = some w := g2
      unfold pairsK at g1 g2
      rw [List.getElem?_map] at g1 g2
      cases hq : (ns.zip as)[i]? with
      | none =>
        rw [hq] at g1
        cases g1
      | some q =>
        rw [hq] at g1 g2
        cases g1
        cases g2
        obtain ⟨z1, z2⟩ := List.getElem?_zip_eq_some.mp hq
        have hn := nlt _ (List.mem_of_getElem? z1)
        have nT1o : o ≠ T1 := ne_of_none ho5 nT1
        have nT1d : d ≠ T1 := ne_of_none hd5 nT1
        refine ⟨T1, _, rfl, SqT.of upd_same, rfl, _, _, rfl, _, _, rfl, rfl, ?_⟩
        refine ⟨_, rfl, _, rfl, _, rfl, o, _, (q.1 : Int), q.1, rfl, rfl, (by rw [upd_ne nT1o]; exact ho5), ixN_n (by rw [List.length_map, putP_len, hpl]; exact hn), ?_⟩
        refine ⟨_, _, _, _, _, _, rfl, ?_, fun b' u n1 n2 e => ?_, ?_⟩
        · rw [upd_ne nod.symm, upd_ne nT1d]
          exact hd5
        · have e5 := b5 b' u n1 n2 e
          rw [upd_ne n1, upd_ne (ne_of_none e5 nT1)]
          exact e5
        · rw [upd_same, List.take_add_one, hq]
          show some (HO.lst (((putP ps ((ns.zip as).take i)).map V.int).set q.1 (.int q.2))) = some (HO.lst ((putP ps ((ns.zip as).take i ++ [q])).map V.int))
          rw [putP_add, List.map_set]
    · rintro σ H5 ⟨u1, u2, u3, u4, u5, u6, rfl, hd5, b5, ho5⟩
      refine ⟨hd5, _, _, _, _, _, _, rfl, ?_, ?_⟩
      · intro b' u e
        have n1 : b' ≠ o := ne_of_none e nO
        by_cases n2 : b' = d
        · subst n2
          have := (sm.trans s4') _ _ e
          rw [hd] at this
          rw [upd_same]
          exact this
        · rw [upd_ne n2]
          exact b5 b' u n1 n2 ((sm.trans s4') _ _ e)
      · have hzl : (pairsK ns as).length = (ns.zip as).length := List.length_map ..
        rw [hzl, List.take_of_length_le (Nat.le_refl _)] at ho5
        rw [upd_ne nod, ho5, List.take_add_one, hz]
        show some (HO.lst ((putP ps (ns.zip as)).map V.int)) = some (HO.lst ((payP ts ((ins.zip gross).take j ++ [(ced, x)]) _).map V.int))
        rw [payP_add, hps, hns, has]
  · rintro σ H2 ⟨v1, v2, v3, v4, v5, v6, rfl, sm, ho⟩
    have hzl : min (ins.map V.str).length (gross.map V.int).length = (ins.zip gross).length := by
      rw [List.length_map, List.length_map, List.length_zip]
    rw [hzl, List.take_of_length_le (Nat.le_refl _)] at ho
    refine ⟨_, rfl, o, _, rfl, .inl ⟨SqL.of ho, fun p np => ?_⟩⟩
    exact q p _ (same_add sm np) (sm.free np) upd_same

theorem ok_panel_parts {f : Addr} {fd : FuncData} (D_panel_parts : Dfn K mg "panel_parts" s_panel_parts ["panel", "amount"] f fd) (T : Tx K mg C_BadName C_BadCover C_BadPanel C_BadAmount C_NameTaken C_NoSuchName C_NoSuchNotice C_Twice C_OwnPanel C_TooMany C_NoEnd C_Post C_Market N_NOTHING) {f_allocate : Addr} {fd_allocate : FuncData} (D_allocate : Dfn K mg "allocate" s_allocate ["amount", "shares"] f_allocate fd_allocate) (G_allocate : FnOk P w K mg base CX0 (1) f_allocate fd_allocate ["amount", "shares"] (sp_allocate K)) :
    FnOk P w K mg base CX0 (2) f fd ["panel", "amount"] (sp_panel_parts K) := by
  refine D_panel_parts.F.ok sc_panel_parts (fun vs H Q E h => ?_) (fun cdv A outer s H vs Q E hr h => ?_)
  · obtain ⟨x, ps, m, rfl, hP, hok, q⟩ := h
    rfl
  obtain ⟨x, ps, m, rfl, hP, hok, q⟩ := h
  refine ⟨_, (pss_one (ps_ret (pe_call G_allocate (hr.mono (by first | decide | omega)) rfl D_allocate.m D_allocate.F.kp D_allocate.b .nil pass0 (pa_cons (pv 1) (pa_cons (pe_lc (own := [("_", 2), ("shares", 3)]) (g := (gTup K 2 (gCons (gName 2) (gCons (gName 3) gNil)))) (tt := tYes) rfl sc_panel_parts.nd (pi_tup (pv 0)) (blkOk_by (own := [("_", 2), ("shares", 3)]) (N := (["panel", "amount", "_", "shares"] : List Str)) (sc := defScope s_panel_parts) (by decide +kernel)) (fun _ _ _ _ _ => (pg_tup rfl (pgs_cons (pg_name (i := 2) sc_panel_parts.nd rfl (by first | exact Or.inl rfl | exact Or.inr rfl)) (pgs_cons (pg_name (i := 3) sc_panel_parts.nd rfl (by first | exact Or.inl rfl | exact Or.inr rfl)) pgs_nil)))) (fun _ _ _ _ _ => pts_nil) (fun _ _ _ _ _ => (pv 3))) pa_nil))))), ?_⟩
  obtain ⟨a, xs, rfl, hS, hl, hE⟩ := PanAt.ent hP
  have h6 := hok.hi
  have hsl : (shs ps).length = ps.length := List.length_map ..
  refine ⟨_, rfl, _, rfl, a, rfl, ⟨_, hS⟩, fun D nD => lc_tup (K := K) (a := a) (xs := xs) (fun i H' => Same H H' ∧ H' D = some (.lst (((shs ps).map V.int).take i))) ⟨same_new nD, upd_same⟩ (fun i H' _ z => same_sqt z.1 hS) ?_ ?_⟩
  · rintro i y H' hi ⟨sm, hD⟩
    obtain ⟨e, b, he, rfl, hb⟩ := hE i y hi
    refine ⟨b, _, rfl, same_sqt sm hb, rfl, _, _, rfl, _, _, rfl, rfl, rfl, ?_⟩
    have hy : ((shs ps).map V.int)[i]? = some (.int e.2) := by
      refine at_map ?_
      show (ps.map (·.2))[i]? = some e.2
      rw [List.getElem?_map, he]
      rfl
    exact ⟨_, rfl, acc_to nD sm hD hy (by rw [List.length_map]; omega)⟩
  · rintro H' ⟨sm, hD⟩
    have hD2 := acc_all (by rw [List.length_map]; omega) hD
    refine ⟨m, D, shs ps, rfl, ⟨.inl (SqL.of hD2), shs_pos hok, shs_ne hok, ?_⟩, fun p H2 s2 np hp => q p H2 (sm.trans s2) (sm.free np) hp⟩
    have := hok.sum
    show (ps.map (·.2)).sum ≤ 100000
    omega

theorem ok_part_of {f : Addr} {fd : FuncData} (D_part_of : Dfn K mg "part_of" s_part_of ["panel", "name", "amount"] f fd) (T : Tx K mg C_BadName C_BadCover C_BadPanel C_BadAmount C_NameTaken C_NoSuchName C_NoSuchNotice C_Twice C_OwnPanel C_TooMany C_NoEnd C_Post C_Market N_NOTHING) {f_panel_parts : Addr} {fd_panel_parts : FuncData} (D_panel_parts : Dfn K mg "panel_parts" s_panel_parts ["panel", "amount"] f_panel_parts fd_panel_parts) (G_panel_parts : FnOk P w K mg base CX0 (2) f_panel_parts fd_panel_parts ["panel", "amount"] (sp_panel_parts K)) :
    FnOk P w K mg base CX0 (3) f fd ["panel", "name", "amount"] (sp_part_of K) := by
  refine D_part_of.F.ok sc_part_of (fun vs H Q E h => ?_) (fun cdv A outer s H vs Q E hr h => ?_)
  · obtain ⟨x, ps, o, m, rfl, hP, hok, q⟩ := h
    rfl
  obtain ⟨x, ps, o, m, rfl, hP, hok, q⟩ := h
  refine ⟨_, (pss_cons (ps_set (i := 3) sc_part_of.nd rfl (by first | exact Or.inl rfl | exact Or.inr rfl) (pe_call G_panel_parts (hr.mono (by first | decide | omega)) rfl D_panel_parts.m D_panel_parts.F.kp D_panel_parts.b .nil pass0 (pa_cons (pv 0) (pa_cons (pv 2) pa_nil))))
      (pss_one (ps_ret (pe_callB (cr_sumS rfl) (by rfl) T.sum (by decide +kernel) (pa_cons (pe_lc (own := [("participant", 4), ("_", 5), ("part", 6)]) (g := (gTup K 2 (gCons (gTup K 2 (gCons (gName 4) (gCons (gName 5) gNil))) (gCons (gName 6) gNil)))) rfl sc_part_of.nd (pi_zipS true true (by rfl) T.zip (pa_cons (pv 0) (pa_cons (pv 3) pa_nil))) (blkOk_by (own := [("participant", 4), ("_", 5), ("part", 6)]) (N := (["panel", "name", "amount", "parts", "participant", "_", "part"] : List Str)) (sc := defScope s_part_of) (by decide +kernel)) (fun _ _ _ _ _ => (pg_tup rfl (pgs_cons (pg_tup rfl (pgs_cons (pg_name (i := 4) sc_part_of.nd rfl (by first | exact Or.inl rfl | exact Or.inr rfl)) (pgs_cons (pg_name (i := 5) sc_part_of.nd rfl (by first | exact Or.inl rfl | exact Or.inr rfl)) pgs_nil))) (pgs_cons (pg_name (i := 6) sc_part_of.nd rfl (by first | exact Or.inl rfl | exact Or.inr rfl)) pgs_nil)))) (fun _ _ _ _ _ => (pts_one (pt_cmpR op_eq (pv 4) (pv 1) (nomark _)))) (fun _ _ _ _ _ => (pv 6))) pa_nil))))), ?_⟩
  refine ⟨_, rfl, _, rfl, x, ps, m, rfl, hP, hok, fun t H1 s1 nt ht => ?_⟩
  obtain ⟨pa, px, rfl, hpS, hpl, hpE⟩ := PanAt.ent (PanAt.same s1 hP)
  dsimp only
  refine nx_to ?_
  generalize hw : List.set _ _ _ = w0
  have ew : w0 = [some (.ref pa), some (optV o), some (.int m), some (.ref t), none, none, none] := by
    rw [← hw]
    kernel_rfl
  clear hw
  subst ew
  have hal : (alloc m (shs ps)).length = ps.length := by rw [alloc_len, shs, List.length_map]
  refine ⟨_, rfl, _, rfl, pa, t, px, _, rfl, hpS, SqT.of ht, fun D nD => lc_it (walk_Z (t1 := true) (t2 := true) (xs := px) (ys := (alloc m (shs ps)).map V.int) rfl)
    (fun i H' => Same H1 H' ∧ H' D = some (.lst ((partL o ((ps.zip (alloc m (shs ps))).take i)).map V.int)) ∧ i ≤ 6) ⟨same_new nD, upd_same, Nat.zero_le _⟩ (fun i H' _ z => ⟨same_sqt z.1 hpS, same_sqt z.1 (SqT.of ht)⟩) ?_ ?_⟩
  · rintro i v H4 H5 hi ⟨s4, hG, h6⟩ ⟨T0, y, w, rfl, nT, rfl, e1, e2⟩
    have e1 : px[i]? = some y := e1
    obtain ⟨en, b, he, rfl, hb⟩ := hpE i y e1
    obtain ⟨am, rfl, ham⟩ := of_at_map e2
    have s5 : Same H4 (upd H4 T0 (.tup [.ref b, .int am])) := same_new nT
    generalize hw : wipe _ _ = w0
    have ew : w0 = [some (.ref pa), some (optV o), some (.int m), some (.ref t), none, none, none] := by
      rw [← hw]
      kernel_rfl
    clear hw
    subst ew
    refine ⟨T0, _, rfl, SqT.of upd_same, rfl, ?_⟩
    refine ⟨_, _, rfl, b, _, rfl, same_sqt (s4.trans s5) hb, rfl, ?_⟩
    refine ⟨_, _, rfl, _, _, rfl, rfl, _, _, rfl, rfl, by kernel_rfl, ?_⟩
    have hi6 : i < 6 := by
      have a := (List.getElem?_eq_some_iff.mp he).1
      have c := hok.hi
      omega
    have hz : (ps.zip (alloc m (shs ps)))[i]? = some (en, am) := by
      rw [List.getElem?_zip_eq_some]
      exact ⟨he, ham⟩
    have st := partL_step (o := o) hz
    have s45 := s4.trans s5
    have hG5 := s5 _ _ hG
    have hsc : scal (optV en.1) (optV o) = true := by cases en.1 <;> cases o <;> rfl
    have ec : decide (optV en.1 = optV o) = decide (en.1 = o) := by
      by_cases z : en.1 = o
      · rw [decide_eq_true z, decide_eq_true (by rw [z])]
      · rw [decide_eq_false z, decide_eq_false (fun e => z (optV_inj e))]
    refine ⟨_, rfl, _, rfl, hsc, _, rfl, ?_⟩
    rw [ec]
    by_cases z : en.1 = o
    · rw [decide_eq_true z]
      rw [if_pos z] at st
      refine iteT ⟨_, rfl, _, hG5, ?_, same_put s45 nD, ?_, hi6⟩
      · have le : (partL o ((ps.zip (alloc m (shs ps))).take i)).length ≤ i := by
          unfold partL
          rw [List.length_map]
          exact Nat.le_trans (List.length_filter_le _ _) (by rw [List.length_take]; exact Nat.min_le_left _ _)
        rw [List.length_map]
        exact szl (by omega)
      · rw [upd_same, st, List.map_append]
        rfl
    · rw [decide_eq_false z]
      rw [if_neg z, List.append_nil] at st
      exact iteF ⟨s45, by rw [st]; exact hG5, hi6⟩
  · rintro H4 ⟨s4, hG, _⟩
    have hm : min px.length ((alloc m (shs ps)).map V.int).length = (ps.zip (alloc m (shs ps))).length := by
      rw [List.length_map, List.length_zip, hal, hpl]
    rw [hm, List.take_of_length_le (Nat.le_refl _)] at hG
    refine ⟨D, _, rfl, .inl (SqL.of hG), ?_⟩
    rw [partL_sum]
    exact q _ (s1.trans s4)

theorem ok_next_gross {f : Addr} {fd : FuncData} (D_next_gross : Dfn K mg "next_gross" s_next_gross ["insurers", "treaties", "direct", "gross"] f fd) (T : Tx K mg C_BadName C_BadCover C_BadPanel C_BadAmount C_NameTaken C_NoSuchName C_NoSuchNotice C_Twice C_OwnPanel C_TooMany C_NoEnd C_Post C_Market N_NOTHING) {f_treaty_payments : Addr} {fd_treaty_payments : FuncData} (D_treaty_payments : Dfn K mg "treaty_payments" s_treaty_payments ["insurers", "treaties", "gross"] f_treaty_payments fd_treaty_payments) (G_treaty_payments : FnOk P w K mg base CX0 (4) f_treaty_payments fd_treaty_payments ["insurers", "treaties", "gross"] (sp_treaty_payments K)) {f_panel_parts : Addr} {fd_panel_parts : FuncData} (D_panel_parts : Dfn K mg "panel_parts" s_panel_parts ["panel", "amount"] f_panel_parts fd_panel_parts) (G_panel_parts : FnOk P w K mg base CX0 (2) f_panel_parts fd_panel_parts ["panel", "amount"] (sp_panel_parts K)) :
    FnOk P w K mg base CX0 (5) f fd ["insurers", "treaties", "direct", "gross"] (sp_next_gross K) := by
  refine D_next_gross.F.ok sc_next_gross (fun vs H Q E h => ?_) (fun cdv A outer s H vs Q E hr h => ?_)
  · obtain ⟨a, b, c, d, ins, ts, ds, gs, rfl, hI, hT, hok, hD, hdl, hG, q⟩ := h
    rfl
  obtain ⟨a, b, c, d, ins, ts, ds, gs, rfl, hI, hT, hok, hD, hdl, hG, q⟩ := h
  refine ⟨_, (pss_cons (ps_set (i := 4) sc_next_gross.nd rfl (by first | exact Or.inl rfl | exact Or.inr rfl) (pe_dc (own := [("insurer", 14), ("loss", 15)]) (g := (gTup K 2 (gCons (gName 14) (gCons (gName 15) gNil)))) (tt := tYes) rfl sc_next_gross.nd (pi_zipS true true (by rfl) T.zip (pa_cons (pv 0) (pa_cons (pv 2) pa_nil))) (blkOk_by (own := [("insurer", 14), ("loss", 15)]) (N := (["insurers", "treaties", "direct", "gross", "losses", "paid", "cedent", "cover", "panel", "ended", "amount", "participant", "_", "part", "insurer", "loss"] : List Str)) (sc := defScope s_next_gross) (by decide +kernel)) (fun _ _ _ _ _ => (pg_tup rfl (pgs_cons (pg_name (i := 14) sc_next_gross.nd rfl (by first | exact Or.inl rfl | exact Or.inr rfl)) (pgs_cons (pg_name (i := 15) sc_next_gross.nd rfl (by first | exact Or.inl rfl | exact Or.inr rfl)) pgs_nil)))) (fun _ _ _ _ _ => pts_nil) (fun _ _ _ _ _ => (pv 14)) (fun _ _ _ _ _ => (pv 15))))
      (pss_cons (ps_set (i := 5) sc_next_gross.nd rfl (by first | exact Or.inl rfl | exact Or.inr rfl) (pe_call G_treaty_payments (hr.mono (by first | decide | omega)) rfl D_treaty_payments.m D_treaty_payments.F.kp D_treaty_payments.b .nil pass0 (pa_cons (pv 0) (pa_cons (pv 1) (pa_cons (pv 3) pa_nil)))))
      (pss_cons (ps_for PassesOwn.never rfl (pi_zipS true true (by rfl) T.zip (pa_cons (pv 1) (pa_cons (pv 5) pa_nil))) (pg_tup rfl (pgs_cons (pg_tup rfl (pgs_cons (pg_name (i := 6) sc_next_gross.nd rfl (by first | exact Or.inl rfl | exact Or.inr rfl)) (pgs_cons (pg_name (i := 7) sc_next_gross.nd rfl (by first | exact Or.inl rfl | exact Or.inr rfl)) (pgs_cons (pg_name (i := 8) sc_next_gross.nd rfl (by first | exact Or.inl rfl | exact Or.inr rfl)) (pgs_cons (pg_name (i := 9) sc_next_gross.nd rfl (by first | exact Or.inl rfl | exact Or.inr rfl)) pgs_nil))))) (pgs_cons (pg_name (i := 10) sc_next_gross.nd rfl (by first | exact Or.inl rfl | exact Or.inr rfl)) pgs_nil)))
      (pss_one (ps_for PassesOwn.never rfl (pi_zipS true true (by rfl) T.zip (pa_cons (pv 8) (pa_cons (pe_call G_panel_parts (hr.mono (by first | decide | omega)) rfl D_panel_parts.m D_panel_parts.F.kp D_panel_parts.b .nil pass0 (pa_cons (pv 8) (pa_cons (pv 10) pa_nil))) pa_nil))) (pg_tup rfl (pgs_cons (pg_tup rfl (pgs_cons (pg_name (i := 11) sc_next_gross.nd rfl (by first | exact Or.inl rfl | exact Or.inr rfl)) (pgs_cons (pg_name (i := 12) sc_next_gross.nd rfl (by first | exact Or.inl rfl | exact Or.inr rfl)) pgs_nil))) (pgs_cons (pg_name (i := 13) sc_next_gross.nd rfl (by first | exact Or.inl rfl | exact Or.inr rfl)) pgs_nil)))
      (pss_one (ps_if (pt_cmpR op_notN (pv 11) pe_non (nomark _))
      (pss_one (ps_daug (hu_of hr) (pv 4) (pv 11) (pv 13) in_add (fun _ _ _ => rfl)))
      pss_nil)))))
      (pss_one (ps_ret (pe_callTy call_tuple_of (by rfl) T.tuple (by decide +kernel) (pa_cons (pe_lc (own := [("insurer", 14)]) (g := (gName 14)) (tt := tYes) rfl sc_next_gross.nd (pi_tup (pv 0)) (blkOk_by (own := [("insurer", 14)]) (N := (["insurers", "treaties", "direct", "gross", "losses", "paid", "cedent", "cover", "panel", "ended", "amount", "participant", "_", "part", "insurer", "loss"] : List Str)) (sc := defScope s_next_gross) (by decide +kernel)) (fun _ _ _ _ _ => (pg_name (i := 14) sc_next_gross.nd rfl (by first | exact Or.inl rfl | exact Or.inr rfl))) (fun _ _ _ _ _ => pts_nil) (fun _ _ _ _ _ => (pe_dget (hu_of hr) (pv 4) (pv 14) (fun _ _ => rfl)))) pa_nil))))))), ?_⟩
  have hlI : (ins.map V.str).length = ins.length := List.length_map ..
  refine ⟨_, rfl, _, rfl, a, c, _, _, rfl, hI, hD, fun G nG => dc_it (walk_Z (t1 := true) (t2 := true) (xs := ins.map V.str) (ys := ds.map V.int) rfl) (fun i H' => Same H H' ∧ H' G = some (.dK ((pairsS ins ds).take i))) ⟨same_new nG, upd_same⟩ (fun i H' _ z => ⟨same_sqt z.1 hI, same_sqt z.1 hD⟩) ?_ ?_⟩
  · rintro i v H1 H2 hi ⟨sm, hG0⟩ ⟨T0, y, w, rfl, nT, rfl, e1, e2⟩
    obtain ⟨x, rfl, hx⟩ := of_at_map (show (ds.map V.int)[i]? = some w from e2)
    obtain ⟨z, rfl, hz⟩ := of_at_str (show (ins.map V.str)[i]? = some y from e1)
    generalize hw : wipe _ _ = w0
    have ew : w0 = [some (.ref a), some (.ref b), some (.ref c), some (.ref d), none, none, none, none, none, none, none, none, none, none, none, none] := by
      rw [← hw]
      kernel_rfl
    clear hw
    subst ew
    have s3 : Same H1 (upd H1 T0 (.tup [.str z, .int x])) := same_new nT
    refine ⟨T0, _, rfl, SqT.of upd_same, rfl, _, _, rfl, _, _, rfl, rfl, by kernel_rfl, ?_⟩
    refine ⟨_, rfl, _, rfl, _, .inr z, rfl, s3 _ _ hG0, ?_, same_put (sm.trans s3) nG, ?_⟩
    · rw [List.length_take]
      have := (List.getElem?_eq_some_iff.mp hz).1
      have := hok.few
      exact szl (by omega)
    · rw [upd_same, putK_new (pairsS_new hok.nd hz), List.take_add_one, pairsS_get hz hx]
      rfl
  · rintro H1 ⟨s1, hG1⟩
    have hzl : min (ins.map V.str).length (ds.map V.int).length = (pairsS ins ds).length := by
      unfold pairsS
      rw [List.length_map, List.length_map, List.length_map, List.length_zip]
    rw [hzl, List.take_of_length_le (Nat.le_refl _)] at hG1
    dsimp only
    refine nx_to ?_
    generalize hw : List.set _ _ _ = w0
    have ew : w0 = [some (.ref a), some (.ref b), some (.ref c), some (.ref d), some (.ref G), none, none, none, none, none, none, none, none, none, none, none] := by
      rw [← hw]
      kernel_rfl
    clear hw
    subst ew
    refine ⟨_, rfl, _, rfl, _, rfl, a, b, d, ins, ts, gs, rfl, same_sqt s1 hI, TrsAt.same s1 hT, hok.len, fun t ht => (hok.ok t ht).c, same_sqt s1 hG, fun tp H2 s2 ntp htp => ?_⟩
    obtain ⟨pay, hpay⟩ : ∃ pay, tpay ts ins gs = pay := ⟨_, rfl⟩
    have hpl : pay.length = ts.length := by
      rw [← hpay]
      unfold tpay
      rw [payP_len, List.length_replicate]
    rw [hpay] at htp
    have s12 := s1.trans s2
    have hI2 := same_sqt s12 hI
    obtain ⟨xs, hS2, hA2⟩ := TrsAt.same s12 hT
    have hG2 := s2 _ _ hG1
    have nGp : ∀ {H' : Hp}, Bar G H2 H' → Same H H' := fun e => Bar.keep nG ((Bar.of s12).trans e)
    have tG : G ≠ tp := ne_of_none hG1 ntp
    dsimp only
    refine nx_to ?_
    generalize hw : List.set _ _ _ = w0
    have ew : w0 = [some (.ref a), some (.ref b), some (.ref c), some (.ref d), some (.ref G), some (.ref tp), none, none, none, none, none, none, none, none, none, none] := by
      rw [← hw]
      kernel_rfl
    clear hw
    subst ew
    obtain ⟨xs0, hS0, hA0⟩ := id hT
    refine ⟨_, rfl, _, rfl, b, tp, xs0, _, rfl, same_sqt s12 hS0, SqT.of htp, for_it (walk_Z (t1 := true) (t2 := true) (xs := xs0) (ys := pay.map V.int) rfl)
      (fun j σ H' => ∃ v1 v2 v3 v4 v5 v6 v7 v8 v9 v0 : Option V, σ = [some (.ref a), some (.ref b), some (.ref c), some (.ref d), some (.ref G), some (.ref tp), v1, v2, v3, v4, v5, v6, v7, v8, v9, v0] ∧ Bar G H2 H' ∧ H' G = some (.dK (pairsS ins (addTrs ins ((ts.zip pay).take j) ds))))
      ⟨_, _, _, _, _, _, _, _, _, _, rfl, Bar.refl _, hG2⟩ (fun j σ H' _ ⟨_, _, _, _, _, _, _, _, _, _, _, bb, _⟩ => ⟨same_sqt (nGp bb) hS0, SqT.of (bb _ _ tG.symm htp)⟩) ?_ ?_⟩
    · rintro j v σ H3 H4 hj ⟨v1, v2, v3, v4, v5, v6, v7, v8, v9, v0, rfl, bb, hG3⟩ ⟨T0, y, w, rfl, nT, rfl, e1, e2⟩
      obtain ⟨m, rfl, hm⟩ := of_at_map (show (pay.map V.int)[j]? = some w from e2)
      have e1 : xs0[j]? = some y := e1
      obtain ⟨t, ht, a1, vc, vp, rfl, g1, g2, g3⟩ := hA0.get e1
      obtain ⟨pa, px, rfl, hpS, hpl2, hpE⟩ := PanAt.ent g3
      have htm := List.mem_of_getElem? ht
      have s4 : Same H3 (upd H3 T0 (.tup [.ref a1, .int m])) := same_new nT
      have hz : (ts.zip pay)[j]? = some (t, m) := List.getElem?_zip_eq_some.mpr ⟨ht, hm⟩
      obtain ⟨H4, h4⟩ : ∃ H4, (upd H3 T0 (.tup [.ref a1, .int m])) = H4 := ⟨_, rfl⟩
      have hT0 : H4 T0 = some (.tup [.ref a1, .int m]) := by
        rw [← h4]
        exact upd_same
      rw [h4] at s4 ⊢
      have s04 : Same H H4 := (nGp bb).trans s4
      refine ⟨T0, _, rfl, SqT.of hT0, rfl, ?_⟩
      refine ⟨_, _, rfl, a1, _, rfl, same_sqt s04 g1, rfl, ?_⟩
      refine ⟨_, _, rfl, ?_⟩
      refine ⟨_, _, rfl, ?_⟩
      refine ⟨_, _, rfl, ?_⟩
      refine ⟨_, _, rfl, rfl, ?_⟩
      refine ⟨_, _, rfl, rfl, ?_⟩
      generalize hw : List.set _ _ _ = w0
      have ew : w0 = [some (.ref a), some (.ref b), some (.ref c), some (.ref d), some (.ref G), some (.ref tp), some (.str t.ced), some (.ref vc), some (.ref pa), some (.bl t.ended), some (.int m), v6, v7, v8, v9, v0] := by
        rw [← hw]
        rfl
      clear hw
      subst ew
      refine ⟨_, rfl, _, rfl, _, rfl, .ref pa, t.pan, m, rfl, PanAt.same s04 g3, (hok.ok t htm).p, fun pp H5 s5 npp hpp => ?_⟩
      have s05 := s04.trans s5
      obtain ⟨parts, hparts⟩ : ∃ parts, alloc m (shs t.pan) = parts := ⟨_, rfl⟩
      rw [hparts] at hpp
      have hpn : parts.length = t.pan.length := by
        rw [← hparts, alloc_len]
        exact List.length_map ..
      have hG5 := (s4.trans s5) _ _ hG3
      obtain ⟨ls, hls⟩ : ∃ ls, addTrs ins ((ts.zip pay).take j) ds = ls := ⟨_, rfl⟩
      have hll : ls.length = ins.length := by rw [← hls, addTrs_len, hdl]
      rw [hls] at hG5
      have b5 : ∀ {H' : Hp}, Bar G H5 H' → Bar G H2 H' := fun e => bb.trans ((Bar.of (s4.trans s5)).trans e)
      have pG : G ≠ pp := ne_of_none (s4 _ _ hG3) npp
      refine ⟨pa, pp, px, _, rfl, same_sqt s05 hpS, SqT.of hpp, for_it (walk_Z (t1 := true) (t2 := true) (xs := px) (ys := parts.map V.int) rfl)
        (fun i σ H' => ∃ v1 v2 v3 v4 v5 v6 v7 v8 v9 v0 : Option V, σ = [some (.ref a), some (.ref b), some (.ref c), some (.ref d), some (.ref G), some (.ref tp), v1, v2, v3, v4, v5, v6, v7, v8, v9, v0] ∧ Bar G H5 H' ∧ H' G = some (.dK (pairsS ins (addPan ins ((t.pan.zip parts).take i) ls))))
        ⟨_, _, _, _, _, _, _, _, _, _, rfl, Bar.refl _, hG5⟩ (fun i σ H' _ ⟨_, _, _, _, _, _, _, _, _, _, _, be, _⟩ => ⟨same_sqt (nGp (b5 be)) hpS, SqT.of (be _ _ pG.symm hpp)⟩) ?_ ?_⟩
      · rintro i v σ H6 H7 hi ⟨u1, u2, u3, u4, u5, u6, u7, u8, u9, u0, rfl, be, hG6⟩ ⟨T1, y, w, rfl, nT1, rfl, f1, f2⟩
        obtain ⟨part, rfl, hpart⟩ := of_at_map (show (parts.map V.int)[i]? = some w from f2)
        have f1 : px[i]? = some y := f1
        obtain ⟨e, eb, he, rfl, heS⟩ := hpE i y f1
        have hzz : (t.pan.zip parts)[i]? = some (e, part) := List.getElem?_zip_eq_some.mpr ⟨he, hpart⟩
        have s7 : Same H6 (upd H6 T1 (.tup [.ref eb, .int part])) := same_new nT1
        obtain ⟨H7, h7⟩ : ∃ H7, (upd H6 T1 (.tup [.ref eb, .int part])) = H7 := ⟨_, rfl⟩
        have hT1 : H7 T1 = some (.tup [.ref eb, .int part]) := by
          rw [← h7]
          exact upd_same
        rw [h7] at s7 ⊢
        refine ⟨T1, _, rfl, SqT.of hT1, rfl, ?_⟩
        refine ⟨_, _, rfl, eb, _, rfl, same_sqt ((nGp (b5 be)).trans s7) heS, rfl, ?_⟩
        refine ⟨_, _, rfl, ?_⟩
        refine ⟨_, _, rfl, rfl, ?_⟩
        refine ⟨_, _, rfl, rfl, ?_⟩
        have hG7 := s7 _ _ hG6
        have be7 : Bar G H5 H7 := be.trans (Bar.of s7)
        obtain ⟨l2, hl2⟩ : ∃ l2, addPan ins ((t.pan.zip parts).take i) ls = l2 := ⟨_, rfl⟩
        have hl2l : l2.length = ins.length := by rw [← hl2, addPan_len, hll]
        rw [hl2] at hG7
        rcases e with ⟨_ | z, n⟩
        · refine ⟨_, rfl, rfl, _, rfl, iteF ?_⟩
          refine ⟨_, _, _, _, _, _, _, _, _, _, rfl, be7, ?_⟩
          rw [List.take_add_one, hzz]
          show H7 G = some (.dK (pairsS ins (addPan ins ((t.pan.zip parts).take i ++ [((none, n), part)]) ls)))
          rw [addPan_add, hl2]
          exact hG7
        · have hzin := hok.mem t htm (some z, n) (List.mem_of_getElem? he) z rfl
          obtain ⟨k, hk⟩ := List.getElem?_of_mem hzin
          have hkl := (List.getElem?_eq_some_iff.mp hk).1
          have hx : l2[k]? = some l2[k] := List.getElem?_eq_getElem (by omega)
          refine ⟨_, rfl, rfl, _, rfl, iteT ?_⟩
          refine ⟨_, rfl, _, rfl, G, .int l2[k], rfl, .inl ⟨_, .inr z, .inl hG7, rfl, (pairsS_val hok.nd hk hx).symm⟩, _, rfl, _, _, rfl, rfl, _, .inl ⟨_, .inr z, hG7, rfl, ?_, rfl⟩, ?_⟩
          · unfold pairsS
            rw [List.length_map, List.length_zip]
            have := hok.few
            exact szl (by omega)
          · refine ⟨_, _, _, _, _, _, _, _, _, _, rfl, Bar.put be7, ?_⟩
            rw [upd_same, List.take_add_one, hzz]
            show some (HO.dK (putK (pairsS ins l2) (.inr z) (.int (l2[k] + part)))) = some (HO.dK (pairsS ins (addPan ins ((t.pan.zip parts).take i ++ [((some z, n), part)]) ls)))
            rw [addPan_add, hl2, pairsS_put hok.nd hk hx]
            show _ = some (HO.dK (pairsS ins (addAt ins l2 z part)))
            rw [addAt_set hok.nd hk hx]
      · rintro σ H6 ⟨u1, u2, u3, u4, u5, u6, u7, u8, u9, u0, rfl, be, hG6⟩
        refine ⟨_, _, _, _, _, _, _, _, _, _, rfl, b5 be, ?_⟩
        have hzl : min px.length (parts.map V.int).length = (t.pan.zip parts).length := by
          rw [List.length_map, List.length_zip, hpl2]
        rw [hzl, List.take_of_length_le (Nat.le_refl _)] at hG6
        rw [hG6, List.take_add_one, hz]
        show _ = some (HO.dK (pairsS ins (addTrs ins ((ts.zip pay).take j ++ [(t, m)]) ds)))
        rw [addTrs_add, hls, hparts]
    · rintro σ H3 ⟨v1, v2, v3, v4, v5, v6, v7, v8, v9, v0, rfl, bb, hG3⟩
      have hzl : min xs0.length (pay.map V.int).length = (ts.zip pay).length := by
        rw [List.length_map, List.length_zip, hA0.1]
      rw [hzl, List.take_of_length_le (Nat.le_refl _)] at hG3
      have hfin : addTrs ins (ts.zip pay) ds = nextG ins ts ds gs := by
        unfold nextG
        rw [hpay]
      rw [hfin] at hG3
      obtain ⟨ls, hls⟩ : ∃ ls, nextG ins ts ds gs = ls := ⟨_, rfl⟩
      have hll : ls.length = ins.length := by
        rw [← hls]
        unfold nextG
        rw [addTrs_len, hdl]
      rw [hls] at hG3 q
      have s03 := nGp bb
      refine ⟨_, rfl, a, rfl, ⟨_, same_sqt s03 hI⟩, fun D nD => lc_tup (K := K) (a := a) (xs := ins.map V.str) (fun i H' => Same H3 H' ∧ H' D = some (.lst ((ls.map V.int).take i))) ⟨same_new nD, upd_same⟩ (fun i H' _ z => same_sqt (s03.trans z.1) hI) ?_ ?_⟩
      · rintro i y H' hi ⟨sm, hD4⟩
        obtain ⟨z, rfl, hz⟩ := of_at_str hi
        have hil := (List.getElem?_eq_some_iff.mp hz).1
        have hx : ls[i]? = some ls[i] := List.getElem?_eq_getElem (by omega)
        exact ⟨rfl, ⟨_, rfl, _, rfl, G, .int ls[i], rfl, .inl ⟨_, .inr z, .inl (sm _ _ hG3), rfl, (pairsS_val hok.nd hz hx).symm⟩, acc_to nD sm hD4 (at_map hx) (by rw [List.length_map]; have := hok.few; omega)⟩⟩
      · rintro H' ⟨sm, hD4⟩
        have hD5 := acc_all (by rw [List.length_map, List.length_map, hll]) hD4
        refine ⟨D, _, rfl, .inl ⟨SqL.of hD5, fun p np => ?_⟩⟩
        exact q p _ (same_add (s03.trans sm) np) ((s03.trans sm).free np) upd_same

theorem ok_rounds_to_end {f : Addr} {fd : FuncData} (D_rounds_to_end : Dfn K mg "rounds_to_end" s_rounds_to_end ["insurers", "treaties", "direct"] f fd) (T : Tx K mg C_BadName C_BadCover C_BadPanel C_BadAmount C_NameTaken C_NoSuchName C_NoSuchNotice C_Twice C_OwnPanel C_TooMany C_NoEnd C_Post C_Market N_NOTHING) {f_next_gross : Addr} {fd_next_gross : FuncData} (D_next_gross : Dfn K mg "next_gross" s_next_gross ["insurers", "treaties", "direct", "gross"] f_next_gross fd_next_gross) (G_next_gross : FnOk P w K mg base CX0 (5) f_next_gross fd_next_gross ["insurers", "treaties", "direct", "gross"] (sp_next_gross K)) :
    FnOk P w K mg base (L2.CX P w) (6) f fd ["insurers", "treaties", "direct"] (sp_rounds K C_NoEnd) := by
  refine D_rounds_to_end.F.okX sc_rounds_to_end (fun vs H Q E h => ?_) (fun cdv A outer s H vs Q E hr h => ?_)
  · obtain ⟨a, b, c, ins, ts, ds, rfl, hI, hT, hok, hD, hdl, q1, q2⟩ := h
    rfl
  obtain ⟨a, b, c, ins, ts, ds, rfl, hI, hT, hok, hD, hdl, q1, q2⟩ := h
  refine ⟨_, (pss_cons (ps_set (i := 3) sc_rounds_to_end.nd rfl (by first | exact Or.inl rfl | exact Or.inr rfl) (pe_lst (pa_cons (pv 2) pa_nil)))
      (pss_cons (ps_for (passes_of rfl) rfl (pi_range1 (by rfl) T.range (pa_cons (pe_op op_add (pe_gi rfl T.g_LAST_ROUND) pe_int) pa_nil)) (pg_name (i := 4) sc_rounds_to_end.nd rfl (by first | exact Or.inl rfl | exact Or.inr rfl))
      (pss_cons (ps_set (i := 5) sc_rounds_to_end.nd rfl (by first | exact Or.inl rfl | exact Or.inr rfl) (pe_call G_next_gross (hr.mono (by first | decide | omega)) rfl D_next_gross.m D_next_gross.F.kp D_next_gross.b .nil pass0 (pa_cons (pv 0) (pa_cons (pv 1) (pa_cons (pv 2) (pa_cons (pe_ix (r := rIxL K) ix_list (pv 3) (pe_un un_neg pe_int) (fun _ _ => rfl)) pa_nil))))))
      (pss_cons (ps_if (pt_cmpR (op_eqD hr.units) (pv 5) (pe_ix (r := rIxL K) ix_list (pv 3) (pe_un un_neg pe_int) (fun _ _ => rfl)) (nomark _))
      (pss_cons (ps_if (pt_val (pe_callB (cr_any rfl) (by rfl) T.any (by decide +kernel) (pa_cons (pe_lc (own := [("loss", 6)]) (g := (gName 6)) (tt := tYes) rfl sc_rounds_to_end.nd (pi_tup (pv 5)) (blkOk_by (own := [("loss", 6)]) (N := (["insurers", "treaties", "direct", "rows", "_", "behind", "loss"] : List Str)) (sc := defScope s_rounds_to_end) (by decide +kernel)) (fun _ _ _ _ _ => (pg_name (i := 6) sc_rounds_to_end.nd rfl (by first | exact Or.inl rfl | exact Or.inr rfl))) (fun _ _ _ _ _ => pts_nil) (fun _ _ _ _ _ => (pe_cmpR op_gt (pv 6) (pe_gi rfl T.g_MOST_GROSS) (nomark _)))) pa_nil)))
      (pss_one (ps_raise rfl (takes_of rfl rfl rfl rfl) (pmk_own PySem.F.excBase_ValueError T.exc_NoEnd.x T.exc_NoEnd.g T.exc_NoEnd.k (raises_own T.exc_NoEnd.b T.exc_NoEnd.t) rfl)))
      pss_nil)
      (pss_one (ps_ret (pe_callTy call_tuple_of (by rfl) T.tuple (by decide +kernel) (pa_cons (pv 3) pa_nil)))))
      pss_nil)
      (pss_one (ps_expr (pe_bm PySem.F.plainAttrs_list PySem.F.slot_list_append PySem.F.type_list_append mt_append (pv 3) (pa_cons (pv 5) pa_nil)))))))
      (pss_one (ps_raise rfl (takes_of rfl rfl rfl rfl) (pmk_own PySem.F.excBase_ValueError T.exc_NoEnd.x T.exc_NoEnd.g T.exc_NoEnd.k (raises_own T.exc_NoEnd.b T.exc_NoEnd.t) rfl))))), ?_⟩
  refine ⟨_, rfl, sz (by show 1 ≤ 100000; decide), fun o no => ?_⟩
  dsimp only
  refine nx_to ?_
  generalize hw : List.set _ _ _ = w0
  have ew : w0 = [some (.ref a), some (.ref b), some (.ref c), some (.ref o), none, none, none] := by
    rw [← hw]
    kernel_rfl
  clear hw
  subst ew
  refine ⟨_, _, rfl, rfl, 201, rfl, by decide, by decide, for_range (lo := 0) (n := 201) (fun i σ H' => ∃ v4 v5 v6 : Option V, σ = [some (.ref a), some (.ref b), some (.ref c), some (.ref o), v4, v5, v6] ∧ Same H H' ∧ (∀ j, j < i → row ins ts ds (j + 1) ≠ row ins ts ds j) ∧
    ∃ (ys : List V) (y : Addr), H' o = some (.lst (ys ++ [.ref y])) ∧ AllAt (RowR K) H' (ys ++ [.ref y]) ((List.range (i + 1)).map (row ins ts ds)) ∧ SqT K H' y ((row ins ts ds i).map V.int))
    ⟨_, _, _, rfl, same_new no, fun j hj => absurd hj (Nat.not_lt_zero j), [], c, upd_same, ?_, same_sqt (same_new no) hD⟩ ?_ ?_⟩
  · refine ⟨rfl, fun i r hr => ?_⟩
    cases i with
    | zero =>
      cases hr
      exact ⟨.ref c, rfl, c, rfl, same_sqt (same_new no) hD⟩
    | succ i => simp at hr
  · rintro i σ H1 hi ⟨v4, v5, v6, rfl, sm, hne, ys, y, ho, hA, hy⟩
    have hal := hA.1
    rw [List.length_append, List.length_map, List.length_range] at hal
    have hal : ys.length + 1 = i + 1 := hal
    refine ⟨_, rfl, _, rfl, _, rfl, _, rfl, 1, rfl, o, _, _, .ref y, rfl, rfl, SqL.of ho, atI_last _ _, ?_⟩
    refine ⟨a, b, c, y, ins, ts, ds, row ins ts ds i, rfl, same_sqt sm hI, TrsAt.same sm hT, hok, same_sqt sm hD, hdl, hy, fun g H2 s2 ng hg => ?_⟩
    have hg2 : H2 g = some (.tup ((row ins ts ds (i + 1)).map V.int)) := hg
    have s02 := sm.trans s2
    have hy2 := same_sqt s2 hy
    have ho2 := s2 _ _ ho
    have hA2 : AllAt (RowR K) H2 (ys ++ [.ref y]) ((List.range (i + 1)).map (row ins ts ds)) := AllAt.same (R := RowR K) (fun e r => RowR.same e r) s2 hA
    dsimp only
    refine nx_to ?_
    generalize hw : List.set _ _ _ = w0
    have ew : w0 = [some (.ref a), some (.ref b), some (.ref c), some (.ref o), some (.int (0 + (i : Int))), some (.ref g), v6] := by
      rw [← hw]
      rfl
    clear hw
    subst ew
    refine ⟨_, rfl, _, rfl, 1, rfl, o, _, _, .ref y, rfl, rfl, SqL.of ho2, atI_last _ _, ?_⟩
    refine ⟨.tuple ((row ins ts ds (i + 1)).map PyData.int), .tuple ((row ins ts ds i).map PyData.int), .tup (SqT.of hg2) (DpAll.ints _), .tup hy2 (DpAll.ints _), shp_ints _, shp_ints _, _, rfl, ?_⟩
    rw [eqv_tup]
    refine iteB (fun c1 => ?_) (fun c1 => ?_)
    · have he := of_decide_eq_true c1
      obtain ⟨qe, qr⟩ := q1 i (by omega) he hne
      have hrl := row_len (ts := ts) hdl (i + 1)
      have hfew := hok.few
      refine ⟨_, rfl, g, rfl, ⟨_, SqT.of hg2⟩, fun D nD => lc_tup (K := K) (a := g) (xs := (row ins ts ds (i + 1)).map V.int) (fun k H' => Same H2 H' ∧ H' D = some (.lst ((((row ins ts ds (i + 1)).map fun x => decide (1000000000 < x)).map V.bl).take k))) ⟨same_new nD, upd_same⟩ (fun k H' _ z => SqT.of (z.1 _ _ hg2)) ?_ ?_⟩
      · rintro k v H' hk ⟨s3, hD3⟩
        obtain ⟨x, rfl, hx⟩ := of_at_map hk
        have hb : (((row ins ts ds (i + 1)).map fun x => decide (1000000000 < x)).map V.bl)[k]? = some (.bl (decide (1000000000 < x))) := by
          rw [List.getElem?_map, List.getElem?_map, hx]
          rfl
        exact ⟨rfl, ⟨_, rfl, _, _, rfl, rfl, acc_to nD s3 hD3 hb (by rw [List.length_map, List.length_map]; omega)⟩⟩
      · rintro H' ⟨s3, hD3⟩
        have hD4 := acc_all (by rw [List.length_map, List.length_map, List.length_map]) hD3
        refine ⟨D, _, rfl, SqL.of hD4, _, rfl, ?_⟩
        rw [List.any_map]
        have eb : (row ins ts ds (i + 1)).any (id ∘ fun x => decide (1000000000 < x)) = big (row ins ts ds i) := by
          rw [he]
          rfl
        rw [eb]
        refine iteB (fun c2 => ?_) (fun c2 => ?_)
        · exact qe c2 _ (s02.trans s3)
        · refine ⟨_, rfl, o, _, rfl, .inl ⟨SqL.of (s3 _ _ ho2), fun p np => ?_⟩⟩
          have s4 : Same H2 (upd H' p (.tup (ys ++ [.ref y]))) := same_add s3 np
          exact qr c2 p _ (s02.trans s4) ⟨_, SqT.of upd_same, AllAt.same (R := RowR K) (fun e r => RowR.same e r) s4 hA2⟩
    · have hne1 := of_decide_eq_false c1
      refine ⟨_, rfl, .inl ⟨rfl, _, SqL.of ho2⟩, _, rfl, o, _, _, rfl, rfl, ho2, by rw [List.length_append]; show ys.length + 1 < sizeLine; exact szl (by omega), ?_⟩
      refine ⟨_, _, _, rfl, same_put s02 no, fun j hj => ?_, ys ++ [.ref y], g, upd_same, ?_, sqt_put ho2 (SqT.of hg2)⟩
      · by_cases e : j = i
        · rw [e]
          exact hne1
        · exact hne j (by omega)
      · rw [List.range_succ, List.map_append]
        exact AllAt.add (AllAt.imp (S := RowR K) hA2 fun v r h => RowR.put ho2 h) ⟨g, rfl, sqt_put ho2 (SqT.of hg2)⟩
  · rintro σ H1 ⟨v4, v5, v6, rfl, sm, hne, _⟩
    exact q2 (fun i hi => hne i (by omega)) _ sm

theorem ok_packed {f : Addr} {fd : FuncData} (D_packed : Dfn K mg "packed" s_packed ["rows"] f fd) (T : Tx K mg C_BadName C_BadCover C_BadPanel C_BadAmount C_NameTaken C_NoSuchName C_NoSuchNotice C_Twice C_OwnPanel C_TooMany C_NoEnd C_Post C_Market N_NOTHING) :
    FnOk P w K mg base CX0 (1) f fd ["rows"] (sp_packed K) := by
  refine D_packed.F.ok sc_packed (fun vs H Q E h => ?_) (fun cdv A outer s H vs Q E hr h => ?_)
  · obtain ⟨a, ys, ps, rfl, hS, hA, hl, q⟩ := h
    rfl
  obtain ⟨a, ys, ps, rfl, hS, hA, hl, q⟩ := h
  refine ⟨_, (pss_cons (ps_set (i := 1) sc_packed.nd rfl (by first | exact Or.inl rfl | exact Or.inr rfl) (pe_lst pa_nil))
      (pss_cons (ps_set (i := 2) sc_packed.nd rfl (by first | exact Or.inl rfl | exact Or.inr rfl) pe_int)
      (pss_cons (ps_for PassesOwn.never rfl (pi_list (pv 0)) (pg_tup rfl (pgs_cons (pg_name (i := 3) sc_packed.nd rfl (by first | exact Or.inl rfl | exact Or.inr rfl)) (pgs_cons (pg_name (i := 4) sc_packed.nd rfl (by first | exact Or.inl rfl | exact Or.inr rfl)) pgs_nil)))
      (pss_one (ps_if (pt_cmpR op_ne (pv 4) (pv 2) (nomark _))
      (pss_cons (ps_expr (pe_bm PySem.F.plainAttrs_list PySem.F.slot_list_append PySem.F.type_list_append mt_append (pv 1) (pa_cons (pe_tup (pa_cons (pv 3) (pa_cons (pv 4) pa_nil))) pa_nil)))
      (pss_one (ps_set (i := 2) sc_packed.nd rfl (by first | exact Or.inl rfl | exact Or.inr rfl) (pv 4))))
      pss_nil)))
      (pss_one (ps_ret (pe_callTy call_tuple_of (by rfl) T.tuple (by decide +kernel) (pa_cons (pv 1) pa_nil))))))), ?_⟩
  refine ⟨Nat.zero_le _, fun o no => ⟨_, rfl, a, rfl, ⟨_, (same_new no).seq hS⟩, for_list (K := K) (a := a) (xs := ys) (fun i σ H' => ∃ (acc : List V) (ps1 : List (Int × Int)) (b : Int) (v3 v4 : Option V), σ = [some (.ref a), some (.ref o), some (.int b), v3, v4] ∧ Same H H' ∧ H' o = some (.lst acc) ∧ PrsAt K H' acc ps1 ∧ acc.length ≤ i ∧ pk 0 ps = ps1 ++ pk b (ps.drop i))
    ⟨[], [], 0, none, none, rfl, same_new no, upd_same, AllAt.nil, Nat.zero_le _, rfl⟩ (fun i σ H' _ ⟨_, _, _, _, _, _, sm, _⟩ => sm.seq hS) ?_ ?_⟩⟩
  · rintro i y σ H' hi ⟨acc, ps1, b, v3, v4, rfl, sm, ho, hA1, hl1, hp⟩
    obtain ⟨⟨k, x⟩, hk, t, rfl, ht⟩ := AllAt.get (PrsAt.same sm hA) hi
    have hil := (List.getElem?_eq_some_iff.mp hk).1
    refine ⟨t, _, rfl, ht, rfl, _, _, rfl, _, _, rfl, rfl, ?_⟩
    refine ⟨_, rfl, _, rfl, rfl, _, rfl, ?_⟩
    rw [pk_step hk] at hp
    by_cases c : x = b
    · rw [if_pos c] at hp
      rw [show (!decide (V.int x = V.int b)) = false by rw [c, decide_eq_true rfl]; rfl]
      exact iteF ⟨acc, ps1, b, _, _, rfl, sm, ho, hA1, by omega, hp⟩
    · rw [if_neg c] at hp
      rw [show (!decide (V.int x = V.int b)) = true by rw [decide_eq_false (fun e => c (V.int.inj e))]; rfl]
      refine iteT ⟨_, rfl, .inl ⟨rfl, _, SqL.of ho⟩, _, rfl, _, rfl, sz (by show 2 ≤ 100000; decide), fun t2 nt2 => ?_⟩
      have s2 : Same H' (upd H' t2 (.tup [.int k, .int x])) := same_new nt2
      refine ⟨o, _, _, rfl, rfl, s2 _ _ ho, szl (by omega), _, rfl, acc ++ [.ref t2], ps1 ++ [(k, x)], x, _, _, rfl, same_put (sm.trans s2) no, upd_same, ?_, by rw [List.length_append]; show acc.length + 1 ≤ _; omega, by rw [hp, List.append_assoc]; rfl⟩
      refine AllAt.imp (S := PrAt K) (AllAt.add (PrsAt.same s2 hA1) (⟨t2, rfl, SqT.of upd_same⟩ : PrAt K _ (.ref t2) (k, x))) fun y l r => ?_
      obtain ⟨t3, rfl, h3⟩ := r
      exact ⟨t3, rfl, sqt_put (s2 _ _ ho) h3⟩
  · rintro σ H' ⟨acc, ps1, b, v3, v4, rfl, sm, ho, hA1, hl1, hp⟩
    rw [hA.1, List.drop_eq_nil_of_le (Nat.le_refl _)] at hp
    have hp : pk 0 ps = ps1 := hp.trans (List.append_nil _)
    refine ⟨_, rfl, o, acc, rfl, .inl ⟨SqL.of ho, fun p np => q p _ (same_add sm np) (sm.free np) ⟨acc, SqT.of upd_same, ?_⟩⟩⟩
    rw [hp]
    exact PrsAt.same (same_new np) hA1

theorem ok_own_treaties {f : Addr} {fd : FuncData} (D_own_treaties : Dfn K mg "own_treaties" s_own_treaties ["market", "insurer"] f fd) (T : Tx K mg C_BadName C_BadCover C_BadPanel C_BadAmount C_NameTaken C_NoSuchName C_NoSuchNotice C_Twice C_OwnPanel C_TooMany C_NoEnd C_Post C_Market N_NOTHING) :
    FnOk P w K mg base CX0 (1) f fd ["market", "insurer"] (sp_own_treaties K C_Market) := by
  refine D_own_treaties.F.ok sc_own_treaties (fun vs H Q E h => ?_) (fun cdv A outer s H vs Q E hr h => ?_)
  · obtain ⟨m, M, c, rfl, hM, hl, q⟩ := h
    rfl
  obtain ⟨m, M, c, rfl, hM, hl, q⟩ := h
  refine ⟨_, (pss_one (ps_ret (pe_lc (own := [("number", 2), ("cedent", 3), ("_", 4), ("_", 4), ("_", 4)]) (g := (gTup K 2 (gCons (gName 2) (gCons (gTup K 4 (gCons (gName 3) (gCons (gName 4) (gCons (gName 4) (gCons (gName 4) gNil))))) gNil)))) rfl sc_own_treaties.nd (pi_enumS true (by rfl) T.enumerate (pa_cons (pe_fld (pv 0) rfl) pa_nil)) (blkOk_by (own := [("number", 2), ("cedent", 3), ("_", 4), ("_", 4), ("_", 4)]) (N := (["market", "insurer", "number", "cedent", "_"] : List Str)) (sc := defScope s_own_treaties) (by decide +kernel)) (fun _ _ _ _ _ => (pg_tup rfl (pgs_cons (pg_name (i := 2) sc_own_treaties.nd rfl (by first | exact Or.inl rfl | exact Or.inr rfl)) (pgs_cons (pg_tup rfl (pgs_cons (pg_name (i := 3) sc_own_treaties.nd rfl (by first | exact Or.inl rfl | exact Or.inr rfl)) (pgs_cons (pg_name (i := 4) sc_own_treaties.nd rfl (by first | exact Or.inl rfl | exact Or.inr rfl)) (pgs_cons (pg_name (i := 4) sc_own_treaties.nd rfl (by first | exact Or.inl rfl | exact Or.inr rfl)) (pgs_cons (pg_name (i := 4) sc_own_treaties.nd rfl (by first | exact Or.inl rfl | exact Or.inr rfl)) pgs_nil))))) pgs_nil)))) (fun _ _ _ _ _ => (pts_one (pt_cmpR op_eq (pv 3) (pv 1) (nomark _)))) (fun _ _ _ _ _ => (pv 2))))), ?_⟩
  obtain ⟨dx, ai, ae, at', ad, h0, h1, h2, ⟨xs, hS, hA⟩, h4, h5⟩ := id hM
  have hxl := hA.1
  refine ⟨_, rfl, m, C_Market, dx, _, _, rfl, h0, T.cl_Market, T.no_Market_treaties, mf_t, at', xs, rfl, hS, fun D nD => lc_it (walk_E (tp := true) (a := at') (xs := xs)) (fun i H' => Same H H' ∧ ∃ l : List Nat, H' D = some (.lst (natV l)) ∧ l.length ≤ i ∧ ownN c 0 M.trs = l ++ ownN c i (M.trs.drop i)) ⟨same_new nD, [], upd_same, Nat.zero_le _, rfl⟩ (fun i H' _ z => same_sqt z.1 hS) ?_ ?_⟩
  · rintro i v H1 H' hi ⟨sm, l, hD, hli, hac⟩ ⟨T0, x, y, rfl, nT, rfl, e1, e2⟩
    cases e1
    obtain ⟨t, ht, a1, vc, vp, rfl, g1, g2, g3⟩ := hA.get e2
    rw [ownN_step ht] at hac
    have s1 : Same H (upd H1 T0 (.tup [.int (i : Nat), .ref a1])) := same_add sm nT
    have s2 : Same H1 (upd H1 T0 (.tup [.int (i : Nat), .ref a1])) := same_new nT
    generalize hw : wipe _ _ = w0
    have ew : w0 = [some (.ref m), some (.str c), none, none, none] := by
      rw [← hw]
      kernel_rfl
    clear hw
    subst ew
    refine ⟨T0, _, rfl, SqT.of upd_same, rfl, _, _, rfl, _, _, rfl, a1, _, rfl, same_sqt s1 g1, rfl, _, _, rfl, _, _, rfl, _, _, rfl, _, _, rfl, rfl, rfl, by kernel_rfl, _, rfl, _, rfl, rfl, _, rfl, ?_⟩
    have ec : decide (V.str t.ced = V.str c) = decide (t.ced = c) := by
      by_cases h : t.ced = c
      · rw [decide_eq_true h, decide_eq_true (by rw [h])]
      · rw [decide_eq_false h, decide_eq_false (fun e => h (V.str.inj e))]
    rw [ec]
    have hD1 := s2 _ _ hD
    refine iteB (fun c1 => ?_) (fun c1 => ?_)
    · rw [if_pos (of_decide_eq_true c1)] at hac
      refine ⟨_, rfl, _, hD1, by unfold natV; rw [List.length_map]; exact szl (by have := (List.getElem?_eq_some_iff.mp ht).1; omega), same_put s1 nD, l ++ [i], ?_, by rw [List.length_append]; exact Nat.succ_le_succ hli, by rw [hac, List.append_assoc]⟩
      rw [upd_same]
      unfold natV
      rw [List.map_append]
      rfl
    · rw [if_neg (of_decide_eq_false c1), List.nil_append] at hac
      exact ⟨s1, l, hD1, by omega, hac⟩
  · rintro H' ⟨sm, l, hD, hli, hac⟩
    rw [hxl, List.drop_eq_nil_of_le (Nat.le_refl _)] at hac
    have e : ownN c 0 M.trs = l := hac.trans (List.append_nil _)
    exact q D H' sm nD (by rw [e]; exact hD)

theorem ok_assumed_steps {f : Addr} {fd : FuncData} (D_assumed_steps : Dfn K mg "assumed_steps" s_assumed_steps ["market", "received", "event", "insurer"] f fd) (T : Tx K mg C_BadName C_BadCover C_BadPanel C_BadAmount C_NameTaken C_NoSuchName C_NoSuchNotice C_Twice C_OwnPanel C_TooMany C_NoEnd C_Post C_Market N_NOTHING) {f_part_of : Addr} {fd_part_of : FuncData} (D_part_of : Dfn K mg "part_of" s_part_of ["panel", "name", "amount"] f_part_of fd_part_of) (G_part_of : FnOk P w K mg base CX0 (3) f_part_of fd_part_of ["panel", "name", "amount"] (sp_part_of K)) :
    FnOk P w K mg base CX0 (4) f fd ["market", "received", "event", "insurer"] (sp_assumed_steps K C_Market) := by
  refine D_assumed_steps.F.ok sc_assumed_steps (fun vs H Q E h => ?_) (fun cdv A outer s H vs Q E hr h => ?_)
  · obtain ⟨m, ar, M, P, e, z, rfl, hM, hok, hR, hAs, q⟩ := h
    rfl
  obtain ⟨m, ar, M, P, e, z, rfl, hM, hok, hR, hAs, q⟩ := h
  refine ⟨_, (pss_cons (ps_set (i := 4) sc_assumed_steps.nd rfl (by first | exact Or.inl rfl | exact Or.inr rfl) pe_dnewK)
      (pss_cons (ps_for PassesOwn.never rfl (pi_enumS true (by rfl) T.enumerate (pa_cons (pe_fld (pv 0) rfl) pa_nil)) (pg_tup rfl (pgs_cons (pg_name (i := 5) sc_assumed_steps.nd rfl (by first | exact Or.inl rfl | exact Or.inr rfl)) (pgs_cons (pg_tup rfl (pgs_cons (pg_name (i := 6) sc_assumed_steps.nd rfl (by first | exact Or.inl rfl | exact Or.inr rfl)) (pgs_cons (pg_name (i := 6) sc_assumed_steps.nd rfl (by first | exact Or.inl rfl | exact Or.inr rfl)) (pgs_cons (pg_name (i := 7) sc_assumed_steps.nd rfl (by first | exact Or.inl rfl | exact Or.inr rfl)) (pgs_cons (pg_name (i := 6) sc_assumed_steps.nd rfl (by first | exact Or.inl rfl | exact Or.inr rfl)) pgs_nil))))) pgs_nil)))
      (pss_cons (ps_asg (pe_dget2 (hu_of hr) (pv 1) (pe_tup (pa_cons (pv 3) (pa_cons (pv 5) (pa_cons (pv 2) pa_nil)))) (pe_glob (v := .ref N_NOTHING) rfl T.g_NOTHING rfl) ⟨rfl, rfl, rfl, rfl⟩) (pg_tup rfl (pgs_cons (pg_name (i := 6) sc_assumed_steps.nd rfl (by first | exact Or.inl rfl | exact Or.inr rfl)) (pgs_cons (pg_name (i := 8) sc_assumed_steps.nd rfl (by first | exact Or.inl rfl | exact Or.inr rfl)) pgs_nil))))
      (pss_cons (ps_set (i := 9) sc_assumed_steps.nd rfl (by first | exact Or.inl rfl | exact Or.inr rfl) pe_int)
      (pss_one (ps_for PassesOwn.never rfl (pi_tup (pv 8)) (pg_tup rfl (pgs_cons (pg_name (i := 10) sc_assumed_steps.nd rfl (by first | exact Or.inl rfl | exact Or.inr rfl)) (pgs_cons (pg_name (i := 11) sc_assumed_steps.nd rfl (by first | exact Or.inl rfl | exact Or.inr rfl)) pgs_nil)))
      (pss_cons (ps_set (i := 12) sc_assumed_steps.nd rfl (by first | exact Or.inl rfl | exact Or.inr rfl) (pe_call G_part_of (hr.mono (by first | decide | omega)) rfl D_part_of.m D_part_of.F.kp D_part_of.b .nil pass0 (pa_cons (pv 7) (pa_cons (pv 3) (pa_cons (pv 11) pa_nil)))))
      (pss_cons (ps_dput (hu_of hr) (pv 4) (pe_op op_add (pv 10) pe_int) (pe_op op_sub (pe_op op_add (pe_dget2 (hu_of hr) (pv 4) (pe_op op_add (pv 10) pe_int) pe_int ⟨rfl, rfl, rfl, rfl⟩) (pv 12)) (pv 9)) rfl)
      (pss_one (ps_set (i := 9) sc_assumed_steps.nd rfl (by first | exact Or.inl rfl | exact Or.inr rfl) (pv 12))))))))))
      (pss_one (ps_ret (pv 4))))), ?_⟩
  obtain ⟨dx, ai, ae, at', ad, h0, h1, h2, ⟨xs, hS, hA⟩, h4, h5⟩ := id hM
  obtain ⟨kr, hr1, hr2⟩ := id hR
  have hxl := hA.1
  have tl := hok.tl
  refine fun d nd => ?_
  dsimp only
  refine nx_to ?_
  generalize hw0 : List.set _ _ _ = w0
  have ew : w0 = [some (.ref m), some (.ref ar), some (.str e), some (.str z), some (.ref d), none, none, none, none, none, none, none, none] := by
    rw [← hw0]
    kernel_rfl
  clear hw0
  subst ew
  have s0 := same_new (o := .dK []) nd
  refine ⟨_, rfl, m, C_Market, dx, _, _, rfl, s0 _ _ h0, T.cl_Market, T.no_Market_treaties, mf_t, at', xs, rfl, same_sqt s0 hS, for_it (walk_E (tp := true) (a := at') (xs := xs)) (fun i σ H' => ∃ (v5 v6 v7 v8 v9 v10 v11 v12 : Option V) (S : List (Int × Int)), σ = [some (.ref m), some (.ref ar), some (.str e), some (.str z), some (.ref d), v5, v6, v7, v8, v9, v10, v11, v12] ∧ Same H H' ∧ H' d = some (.dK (kvI S)) ∧ (S.map (·.1)).Nodup ∧ (∀ p ∈ S, 1 ≤ p.1 ∧ p.1 ≤ 201) ∧ ∀ r, tot r S + asmF P z e r i (M.trs.drop i) = asmF P z e r 0 M.trs)
    ⟨_, _, _, _, _, _, _, _, [], rfl, s0, upd_same, List.nodup_nil, fun p hp => (nomatch hp), fun r => by show 0 + _ = _; rw [Int.zero_add]; rfl⟩ (fun i σ H' _ ⟨_, _, _, _, _, _, _, _, _, _, sm, _⟩ => same_sqt sm hS) ?_ ?_⟩
  · rintro i v σ H1 H2 hi ⟨v5, v6, v7, v8, v9, v10, v11, v12, S, rfl, sm, hd, hnd, hrg, htot⟩ ⟨T0, x, y, rfl, nT, rfl, e1, e2⟩
    cases e1
    obtain ⟨t, ht, a1, vc, vp, rfl, g1, g2, g3⟩ := hA.get e2
    have hil := (List.getElem?_eq_some_iff.mp ht).1
    have hpok := (hok.ok.ok t (List.mem_of_getElem? ht)).p
    have est : ∀ r, asmF P z e r i (M.trs.drop i) = ptz t z (atM (r - 1) 0 (recvOf P z i e).2) + asmF P z e r (i + 1) (M.trs.drop (i + 1)) := fun r => by
      obtain ⟨q1, q2⟩ := List.getElem?_eq_some_iff.mp ht
      rw [List.drop_eq_getElem_cons q1, q2]
      rfl
    have s1 : Same H (upd H1 T0 (.tup [.int (i : Nat), .ref a1])) := same_add sm nT
    have s2 : Same H1 (upd H1 T0 (.tup [.int (i : Nat), .ref a1])) := same_new nT
    have hT0 : upd H1 T0 (.tup [.int (i : Nat), .ref a1]) T0 = some (.tup [.int (i : Nat), .ref a1]) := upd_same
    have hd2 := s2 _ _ hd
    obtain ⟨H3, e3⟩ : ∃ H3, upd H1 T0 (.tup [.int (i : Nat), .ref a1]) = H3 := ⟨_, rfl⟩
    rw [e3] at s1 s2 hT0 hd2 ⊢
    clear e3
    refine ⟨T0, _, rfl, SqT.of hT0, rfl, _, _, rfl, _, _, rfl, a1, _, rfl, same_sqt s1 g1, rfl, _, _, rfl, _, _, rfl, _, _, rfl, _, _, rfl, rfl, rfl, ?_⟩
    generalize hw0 : List.set _ _ _ = w0
    have ew : w0 = [some (.ref m), some (.ref ar), some (.str e), some (.str z), some (.ref d), some (.int (i : Nat)), some (.bl t.ended), some vp, v8, v9, v10, v11, v12] := by
      rw [← hw0]
      kernel_rfl
    clear hw0
    subst ew
    refine ⟨_, rfl, ar, rfl, isD_t (.inl (s1 _ _ hr1)), _, rfl, _, rfl, _, rfl, sz (by show 3 ≤ 100000; decide), fun kb nkb => ?_⟩
    have s3 := same_new (o := .tup [.str z, .int (i : Nat), .str e]) nkb
    have s13 := s1.trans s3
    have rr := (hr2.imp fun _ _ => SqAt.same s13).getD kfR_inj (z, i, e) (sq_none (T.k_NOTHING _))
    refine ⟨_, .inr ⟨_, kfR (z, i, e), kb, .inl (s13 _ _ hr1), rfl, upd_same, rfl⟩, ?_⟩
    obtain ⟨t2, b, ev, hS2, ⟨ys, hys, hpr⟩⟩ := rr
    rw [ev]
    have hsc : Asc 0 (recvOf P z i e).2 := hAs i
    obtain ⟨sc, esc⟩ : ∃ sc, (recvOf P z i e).2 = sc := ⟨_, rfl⟩
    have hpr : PrsAt K _ ys (recvOf P z i e).2 := hpr
    rw [esc] at hsc hpr est
    refine ⟨t2, _, rfl, hS2, rfl, _, _, rfl, _, _, rfl, rfl, ?_⟩
    generalize hw0 : List.set _ _ _ = w0
    have ew : w0 = [some (.ref m), some (.ref ar), some (.str e), some (.str z), some (.ref d), some (.int (i : Nat)), some (.int (recvOf P z i e).1), some vp, some (.ref b), v9, v10, v11, v12] := by
      rw [← hw0]
      kernel_rfl
    clear hw0
    subst ew
    have hd3 := s3 _ _ hd2
    obtain ⟨H4, e4⟩ : ∃ H4, upd H3 kb (.tup [.str z, .int (i : Nat), .str e]) = H4 := ⟨_, rfl⟩
    rw [e4] at s3 s13 hys hpr hd3 ⊢
    clear e4
    dsimp only
    refine nx_to ?_
    refine ⟨_, rfl, b, rfl, ⟨_, hys⟩, for_tup (K := K) (a := b) (xs := ys) (fun j σ H' => ∃ (a : Int) (v10 v11 v12 : Option V) (S : List (Int × Int)), σ = [some (.ref m), some (.ref ar), some (.str e), some (.str z), some (.ref d), some (.int (i : Nat)), some (.int (recvOf P z i e).1), some vp, some (.ref b), some (.int a), v10, v11, v12] ∧ Same H H' ∧ Bar d H4 H' ∧ H' d = some (.dK (kvI S)) ∧ (S.map (·.1)).Nodup ∧ (∀ p ∈ S, 1 ≤ p.1 ∧ p.1 ≤ 201) ∧ ∀ r, tot r S + tot r (stp (ptz t z) a (sc.drop j)) + asmF P z e r (i + 1) (M.trs.drop (i + 1)) = asmF P z e r 0 M.trs)
      ⟨0, _, _, _, S, rfl, s13, Bar.refl _, hd3, hnd, hrg, fun r => ?_⟩ (fun j σ H' _ ⟨_, _, _, _, _, _, _, bb, _⟩ => (show Tups H4 H' from ⟨fun c xs h => bb _ _ (fun q => by rw [q, hd3] at h; cases h) h, fun c u xs h => bb _ _ (fun q => by rw [q, hd3] at h; cases h) h⟩).sqt hys) ?_ ?_⟩
    · have := stp_tot (p := ptz t z) (b := 0) r hsc
      rw [ptz_zero hpok] at this
      rw [List.drop_zero, this]
      have h6 := htot r
      rw [est r] at h6
      omega
    · rintro j v σ H5 hj ⟨a, w10, w11, w12, S1, rfl, s5, b5, hd5, hnd5, hrg5, htot5⟩
      have tu : Tups H4 H5 := ⟨fun c xs h => b5 _ _ (fun q => by rw [q, hd3] at h; cases h) h, fun c u xs h => b5 _ _ (fun q => by rw [q, hd3] at h; cases h) h⟩
      obtain ⟨⟨ks, x⟩, hk, t3, rfl, ht3⟩ := hpr.get hj
      have rgk := hsc.at_ hk
      have ld := keys201 hnd5 hrg5
      refine ⟨t3, _, rfl, tu.sqt ht3, rfl, _, _, rfl, _, _, rfl, rfl, ?_⟩
      generalize hw0 : List.set _ _ _ = w0
      have ew : w0 = [some (.ref m), some (.ref ar), some (.str e), some (.str z), some (.ref d), some (.int (i : Nat)), some (.int (recvOf P z i e).1), some vp, some (.ref b), some (.int a), some (.int ks), some (.int x), w12] := by
        rw [← hw0]
        kernel_rfl
      clear hw0
      subst ew
      refine ⟨_, rfl, _, rfl, _, rfl, vp, t.pan, some z, x, rfl, PanAt.same s5 g3, hpok, fun H6 s6 => ?_⟩
      dsimp only
      refine nx_to ?_
      generalize hw0 : List.set _ _ _ = w0
      have ew : w0 = [some (.ref m), some (.ref ar), some (.str e), some (.str z), some (.ref d), some (.int (i : Nat)), some (.int (recvOf P z i e).1), some vp, some (.ref b), some (.int a), some (.int ks), some (.int x), some (.int (ptz t z x))] := by
        rw [← hw0]
        kernel_rfl
      clear hw0
      subst ew
      have hd6 := s6 _ _ hd5
      refine ⟨_, rfl, d, rfl, .inl ⟨_, .inl hd6⟩, _, rfl, _, _, rfl, rfl, _, .inl ⟨_, .inl (ks + 1), .inl hd6, rfl, rfl⟩, ?_⟩
      rw [kvI_get]
      refine ⟨_, rfl, _, _, rfl, rfl, _, rfl, _, _, rfl, rfl, _, rfl, _, rfl, _, _, rfl, rfl, d, _, rfl, .inl ⟨_, .inl (ks + 1), hd6, rfl, by unfold kvI; rw [List.length_map]; exact szl (by omega), rfl⟩, ?_⟩
      rw [kvI_put hnd5]
      refine ⟨_, rfl, ptz t z x, _, _, _, putL S1 (ks + 1) (gD S1 (ks + 1) + ptz t z x - a), rfl, same_put (s5.trans s6) nd, b5.trans ((Bar.of s6).trans (Bar.put (Bar.refl _))), upd_same, putL_nodup hnd5, fun p hp => ?_, fun r => ?_⟩
      · rcases putL_mem hp with hp | rfl
        · exact hrg5 p hp
        · show 1 ≤ ks + 1 ∧ ks + 1 ≤ 201
          omega
      · rw [tot_put]
        have h6 := htot5 r
        obtain ⟨q1, q2⟩ := List.getElem?_eq_some_iff.mp hk
        rw [List.drop_eq_getElem_cons q1, q2] at h6
        have e7 : tot r (stp (ptz t z) a ((ks, x) :: sc.drop (j + 1))) = (if ks + 1 ≤ r then ptz t z x - a else 0) + tot r (stp (ptz t z) (ptz t z x) (sc.drop (j + 1))) := rfl
        rw [e7] at h6
        split
        · rename_i c
          rw [if_pos c] at h6
          omega
        · rename_i c
          rw [if_neg c] at h6
          omega
    · rintro σ H5 ⟨a, w10, w11, w12, S1, rfl, s5, b5, hd5, hnd5, hrg5, htot5⟩
      rw [hpr.1, List.drop_eq_nil_of_le (Nat.le_refl _)] at htot5
      exact ⟨_, _, _, _, _, _, _, _, S1, rfl, s5, hd5, hnd5, hrg5, fun r => by have := htot5 r; rw [show tot r (stp (ptz t z) a []) = 0 from rfl, Int.add_zero] at this; exact this⟩
  · rintro σ H' ⟨v5, v6, v7, v8, v9, v10, v11, v12, S, rfl, sm, hd, hnd, hrg, htot⟩
    rw [hxl, List.drop_eq_nil_of_le (Nat.le_refl _)] at htot
    exact ⟨_, rfl, q d S H' sm hd hnd hrg fun r => by have := htot r; rw [show asmF P z e r M.trs.length [] = 0 from rfl, Int.add_zero] at this; exact this⟩

theorem ok_estimated_schedule {f : Addr} {fd : FuncData} (D_estimated_schedule : Dfn K mg "estimated_schedule" s_estimated_schedule ["market", "received", "event", "insurer"] f fd) (T : Tx K mg C_BadName C_BadCover C_BadPanel C_BadAmount C_NameTaken C_NoSuchName C_NoSuchNotice C_Twice C_OwnPanel C_TooMany C_NoEnd C_Post C_Market N_NOTHING) {f_assumed_steps : Addr} {fd_assumed_steps : FuncData} (D_assumed_steps : Dfn K mg "assumed_steps" s_assumed_steps ["market", "received", "event", "insurer"] f_assumed_steps fd_assumed_steps) (G_assumed_steps : FnOk P w K mg base CX0 (4) f_assumed_steps fd_assumed_steps ["market", "received", "event", "insurer"] (sp_assumed_steps K C_Market)) {f_packed : Addr} {fd_packed : FuncData} (D_packed : Dfn K mg "packed" s_packed ["rows"] f_packed fd_packed) (G_packed : FnOk P w K mg base CX0 (1) f_packed fd_packed ["rows"] (sp_packed K)) :
    FnOk P w K mg base CX0 (5) f fd ["market", "received", "event", "insurer"] (sp_estimated_schedule K C_Market) := by
  refine D_estimated_schedule.F.ok sc_estimated_schedule (fun vs H Q E h => ?_) (fun cdv A outer s H vs Q E hr h => ?_)
  · obtain ⟨m, ar, M, P, e, z, rfl, hM, hok, hR, hA, q⟩ := h
    rfl
  obtain ⟨m, ar, M, P, e, z, rfl, hM, hok, hR, hA, q⟩ := h
  refine ⟨_, (pss_cons (ps_set (i := 4) sc_estimated_schedule.nd rfl (by first | exact Or.inl rfl | exact Or.inr rfl) (pe_call G_assumed_steps (hr.mono (by first | decide | omega)) rfl D_assumed_steps.m D_assumed_steps.F.kp D_assumed_steps.b .nil pass0 (pa_cons (pv 0) (pa_cons (pv 1) (pa_cons (pv 2) (pa_cons (pv 3) pa_nil))))))
      (pss_cons (ps_set (i := 5) sc_estimated_schedule.nd rfl (by first | exact Or.inl rfl | exact Or.inr rfl) (pe_dget2 (hu_of hr) (pe_fld (pv 0) rfl) (pe_tup (pa_cons (pv 2) (pa_cons (pv 3) pa_nil))) pe_int ⟨rfl, rfl, rfl, rfl⟩))
      (pss_cons (ps_set (i := 6) sc_estimated_schedule.nd rfl (by first | exact Or.inl rfl | exact Or.inr rfl) (pe_lst (pa_cons (pe_tup (pa_cons pe_int (pa_cons (pv 5) pa_nil))) pa_nil)))
      (pss_cons (ps_for PassesOwn.never rfl (pi_list (pe_callB (call_sortedDA rfl) (by rfl) T.sorted (by decide +kernel) (pa_cons (pv 4) pa_nil))) (pg_name (i := 7) sc_estimated_schedule.nd rfl (by first | exact Or.inl rfl | exact Or.inr rfl))
      (pss_one (ps_if (pt_cmpR op_le (pv 7) (pe_gi rfl T.g_LAST_ROUND) (nomark _))
      (pss_cons (ps_aug (i := 5) sc_estimated_schedule.nd rfl (by first | exact Or.inl rfl | exact Or.inr rfl) (pe_dget (hu_of hr) (pv 4) (pv 7) (fun _ _ => rfl)) ip_add)
      (pss_one (ps_expr (pe_bm PySem.F.plainAttrs_list PySem.F.slot_list_append PySem.F.type_list_append mt_append (pv 6) (pa_cons (pe_tup (pa_cons (pv 7) (pa_cons (pe_callB (call_min2 rfl) (by rfl) T.min (by decide +kernel) (pa_cons (pv 5) (pa_cons (pe_gi rfl T.g_MOST_GROSS) pa_nil))) pa_nil))) pa_nil)))))
      pss_nil)))
      (pss_one (ps_ret (pe_call G_packed (hr.mono (by first | decide | omega)) rfl D_packed.m D_packed.F.kp D_packed.b .nil pass0 (pa_cons (pv 6) pa_nil)))))))), ?_⟩
  obtain ⟨dx, ai, ae, at', ad, h0, h1, h2, h3, h4, h5⟩ := id hM
  have ll := loss_le hok e z
  refine ⟨_, rfl, _, rfl, _, rfl, _, rfl, m, ar, M, P, e, z, rfl, hM, hok, hR, hA, fun d S H1 s1 hd hnd hrg ht => ?_⟩
  have ls := keys201 hnd hrg
  refine ⟨_, rfl, m, C_Market, dx, _, _, rfl, s1 _ _ h0, T.cl_Market, T.no_Market_losses, mf_l, ad, rfl, isD_t (.inl (s1 _ _ h4)), _, rfl, _, rfl, sz (by show 2 ≤ 100000; decide), fun kb nkb => ?_⟩
  have s2 := same_new (o := .tup [.str e, .str z]) nkb
  refine ⟨_, .inr ⟨_, [.inr e, .inr z], kb, .inl ((s1.trans s2) _ _ h4), rfl, upd_same, rfl⟩, ?_⟩
  rw [lkv_get]
  obtain ⟨l0, hl0⟩ : ∃ l0, lossOf M.los e z = l0 := ⟨_, rfl⟩
  have ee := fun ns => est_of (M := M) (P := P) (e := e) (z := z) (S := S) (ns := ns) ll hnd hrg ht
  rw [hl0] at ee
  rw [hl0]
  have hd2 := s2 _ _ hd
  have s12 := s1.trans s2
  obtain ⟨H2, e2⟩ : ∃ H2, upd H1 kb (.tup [.str e, .str z]) = H2 := ⟨_, rfl⟩
  rw [e2] at s2 s12 hd2 ⊢
  clear e2
  refine ⟨_, rfl, sz (by show 2 ≤ 100000; decide), fun t0 nt0 => ?_⟩
  have s3 := same_new (o := .tup [.int 0, .int l0]) nt0
  have ht0 : upd H2 t0 (.tup [.int 0, .int l0]) t0 = some (.tup [.int 0, .int l0]) := upd_same
  have hd3 := s3 _ _ hd2
  have s13 := s12.trans s3
  obtain ⟨H3, e3⟩ : ∃ H3, upd H2 t0 (.tup [.int 0, .int l0]) = H3 := ⟨_, rfl⟩
  rw [e3] at s3 s13 hd3 ht0 ⊢
  clear e3
  refine ⟨sz (by show 1 ≤ 100000; decide), fun rw0 nrw => ?_⟩
  have s4 := same_new (o := .lst [.ref t0]) nrw
  have hrw : upd H3 rw0 (.lst [.ref t0]) rw0 = some (.lst [.ref t0]) := upd_same
  have s14 := s13.trans s4
  have hd4 := s4 _ _ hd3
  have ht4 := s4 _ _ ht0
  obtain ⟨H4, e4⟩ : ∃ H4, upd H3 rw0 (.lst [.ref t0]) = H4 := ⟨_, rfl⟩
  rw [e4] at s4 s14 hd4 hrw ht4 ⊢
  clear e4
  dsimp only
  refine nx_to ?_
  generalize hw0 : List.set _ _ _ = w0
  have ew : w0 = [some (.ref m), some (.ref ar), some (.str e), some (.str z), some (.ref d), some (.int l0), some (.ref rw0), none] := by
    rw [← hw0]
    kernel_rfl
  clear hw0
  subst ew
  refine ⟨_, rfl, d, kvI S, S.map (·.1), rfl, .inl hd4, by unfold kvI; rw [List.map_map, List.map_map]; rfl, fun ns sp hperm hsort nsp => ?_⟩
  have nl : ns.length ≤ 202 := by
    rw [hperm.length_eq, List.length_map]
    exact ls
  have s5 := same_new (o := .lst (ns.map V.int)) nsp
  have hsp : upd H4 sp (.lst (ns.map V.int)) sp = some (.lst (ns.map V.int)) := upd_same
  have hrw5 := s5 _ _ hrw
  have hd5 := s5 _ _ hd4
  have ht5 := s5 _ _ ht4
  have s15 := s14.trans s5
  have nsr : sp ≠ rw0 := fun q => by
    rw [q, hrw] at nsp
    cases nsp
  have nrwH : H rw0 = none := s13.free nrw
  obtain ⟨H5, e5⟩ : ∃ H5, upd H4 sp (.lst (ns.map V.int)) = H5 := ⟨_, rfl⟩
  rw [e5] at s5 s15 hsp hrw5 hd5 ht5 ⊢
  clear e5
  refine ⟨sp, rfl, ⟨_, SqL.of hsp⟩, for_list (K := K) (a := sp) (xs := ns.map V.int) (fun i σ H' => ∃ (l : Int) (v7 : Option V) (zs : List V) (ps : List (Int × Int)), σ = [some (.ref m), some (.ref ar), some (.str e), some (.str z), some (.ref d), some (.int l), some (.ref rw0), v7] ∧ Bar rw0 H5 H' ∧ H' rw0 = some (.lst zs) ∧ PrsAt K H' zs ps ∧ zs.length ≤ 1 + i ∧ (0, l0) :: rws S l0 ns = ps ++ rws S l (ns.drop i))
    ⟨l0, _, [.ref t0], [(0, l0)], rfl, Bar.refl _, hrw5, AllAt.add AllAt.nil ⟨t0, rfl, SqT.of ht5⟩, Nat.le_refl _, rfl⟩ (fun i σ H' _ ⟨_, _, _, _, _, b, _⟩ => SqL.of (b _ _ nsr hsp)) ?_ ?_⟩
  · rintro i v σ H6 hi ⟨l, v7, zs, ps, rfl, b6, hz6, hp6, hl6, hr6⟩
    obtain ⟨k, rfl, hk⟩ := of_at_map hi
    have hil := (List.getElem?_eq_some_iff.mp hk).1
    rw [rws_step l hk] at hr6
    have hd6 : H6 d = some (.dK (kvI S)) := b6 _ _ (fun q => by rw [q, hrw5] at hd5; cases hd5) hd5
    refine ⟨_, rfl, _, _, rfl, rfl, _, rfl, ?_⟩
    by_cases c : k ≤ 200
    · rw [if_pos c] at hr6
      rw [decide_eq_true c]
      refine iteT ⟨_, rfl, _, rfl, _, rfl, d, _, rfl, .inl ⟨_, .inl k, .inl hd6, rfl, (kvI_some (hperm.mem_iff.mp (List.mem_of_getElem? hk))).symm⟩, _, _, rfl, rfl, ?_⟩
      refine ⟨_, rfl, .inl ⟨rfl, _, SqL.of hz6⟩, _, rfl, _, rfl, _, _, rfl, ?_⟩
      have ec : (if (1000000000 : Int) < l + gD S k then (1000000000 : Int) else l + gD S k) = cap (l + gD S k) := rfl
      rw [ec]
      refine ⟨sz (by show 2 ≤ 100000; decide), fun t7 nt7 => ?_⟩
      have s7 := same_new (o := .tup [.int k, .int (cap (l + gD S k))]) nt7
      have hz7 := s7 _ _ hz6
      refine ⟨rw0, _, _, rfl, rfl, hz7, szl (by omega), _, _, _, ps ++ [(k, cap (l + gD S k))], rfl, b6.trans ((Bar.of s7).trans (Bar.put (Bar.refl _))), upd_same, ?_, by rw [List.length_append]; show zs.length + 1 ≤ _; omega, by rw [hr6, List.append_assoc]; rfl⟩
      refine AllAt.imp (S := PrAt K) (AllAt.add (PrsAt.same s7 hp6) (⟨t7, rfl, SqT.of upd_same⟩ : PrAt K _ (.ref t7) (k, cap (l + gD S k)))) fun y q ⟨t8, e8, h8⟩ => ⟨t8, e8, sqt_put hz7 h8⟩
    · rw [if_neg c] at hr6
      rw [decide_eq_false c]
      exact iteF ⟨_, _, zs, ps, rfl, b6, hz6, hp6, by omega, hr6⟩
  · rintro σ H6 ⟨l, v7, zs, ps, rfl, b6, hz6, hp6, hl6, hr6⟩
    rw [List.length_map] at hr6 hl6
    rw [List.drop_eq_nil_of_le (Nat.le_refl _)] at hr6
    have hr6 : (0, l0) :: rws S l0 ns = ps := hr6.trans (List.append_nil _)
    have pl := hp6.1
    refine ⟨_, rfl, rw0, zs, ps, rfl, SqL.of hz6, hp6, by omega, fun p H7 s7 np hs => ?_⟩
    rw [← hr6, ee ns hperm hsort] at hs
    refine q p H7 (fun b u hb => s7 _ _ (b6 _ _ (ne_of_none hb nrwH) (s15 _ _ hb))) hs

theorem ok_current_schedules {f : Addr} {fd : FuncData} (D_current_schedules : Dfn K mg "current_schedules" s_current_schedules ["market", "received", "event", "insurer"] f fd) (T : Tx K mg C_BadName C_BadCover C_BadPanel C_BadAmount C_NameTaken C_NoSuchName C_NoSuchNotice C_Twice C_OwnPanel C_TooMany C_NoEnd C_Post C_Market N_NOTHING) {f_estimated_schedule : Addr} {fd_estimated_schedule : FuncData} (D_estimated_schedule : Dfn K mg "estimated_schedule" s_estimated_schedule ["market", "received", "event", "insurer"] f_estimated_schedule fd_estimated_schedule) (G_estimated_schedule : FnOk P w K mg base CX0 (5) f_estimated_schedule fd_estimated_schedule ["market", "received", "event", "insurer"] (sp_estimated_schedule K C_Market)) {f_cede : Addr} {fd_cede : FuncData} (D_cede : Dfn K mg "cede" s_cede ["treaties", "cedent", "loss"] f_cede fd_cede) (G_cede : FnOk P w K mg base CX0 (3) f_cede fd_cede ["treaties", "cedent", "loss"] (sp_cede K)) {f_own_treaties : Addr} {fd_own_treaties : FuncData} (D_own_treaties : Dfn K mg "own_treaties" s_own_treaties ["market", "insurer"] f_own_treaties fd_own_treaties) (G_own_treaties : FnOk P w K mg base CX0 (1) f_own_treaties fd_own_treaties ["market", "insurer"] (sp_own_treaties K C_Market)) {f_packed : Addr} {fd_packed : FuncData} (D_packed : Dfn K mg "packed" s_packed ["rows"] f_packed fd_packed) (G_packed : FnOk P w K mg base CX0 (1) f_packed fd_packed ["rows"] (sp_packed K)) :
    FnOk P w K mg base CX0 (6) f fd ["market", "received", "event", "insurer"] (sp_current_schedules K C_Market) := by
  refine D_current_schedules.F.ok sc_current_schedules (fun vs H Q E h => ?_) (fun cdv A outer s H vs Q E hr h => ?_)
  · obtain ⟨m, ar, M, P, e, z, rfl, hM, hok, hR, hA, q⟩ := h
    rfl
  obtain ⟨m, ar, M, P, e, z, rfl, hM, hok, hR, hA, q⟩ := h
  refine ⟨_, (pss_cons (ps_set (i := 4) sc_current_schedules.nd rfl (by first | exact Or.inl rfl | exact Or.inr rfl) (pe_call G_estimated_schedule (hr.mono (by first | decide | omega)) rfl D_estimated_schedule.m D_estimated_schedule.F.kp D_estimated_schedule.b .nil pass0 (pa_cons (pv 0) (pa_cons (pv 1) (pa_cons (pv 2) (pa_cons (pv 3) pa_nil))))))
      (pss_cons (ps_set (i := 5) sc_current_schedules.nd rfl (by first | exact Or.inl rfl | exact Or.inr rfl) (pe_lc (own := [("start", 6), ("loss", 7)]) (g := (gTup K 2 (gCons (gName 6) (gCons (gName 7) gNil)))) (tt := tYes) rfl sc_current_schedules.nd (pi_tup (pv 4)) (blkOk_by (own := [("start", 6), ("loss", 7)]) (N := (["market", "received", "event", "insurer", "losses", "rows", "start", "loss", "number", "amounts"] : List Str)) (sc := defScope s_current_schedules) (by decide +kernel)) (fun _ _ _ _ _ => (pg_tup rfl (pgs_cons (pg_name (i := 6) sc_current_schedules.nd rfl (by first | exact Or.inl rfl | exact Or.inr rfl)) (pgs_cons (pg_name (i := 7) sc_current_schedules.nd rfl (by first | exact Or.inl rfl | exact Or.inr rfl)) pgs_nil)))) (fun _ _ _ _ _ => pts_nil) (fun _ _ _ _ _ => (pe_tup (pa_cons (pv 6) (pa_cons (pe_ix (r := rIxT K) ix_tup (pe_call G_cede (hr.mono (by first | decide | omega)) rfl D_cede.m D_cede.F.kp D_cede.b .nil pass0 (pa_cons (pe_fldK (K := K) rfl (pv 0) rfl) (pa_cons (pv 3) (pa_cons (pv 7) pa_nil)))) pe_int (fun _ _ => rfl)) pa_nil))))))
      (pss_one (ps_ret (pe_dc (own := [("number", 8)]) (g := (gName 8)) (tt := tYes) rfl sc_current_schedules.nd (pi_list (pe_call G_own_treaties (hr.mono (by first | decide | omega)) rfl D_own_treaties.m D_own_treaties.F.kp D_own_treaties.b .nil pass0 (pa_cons (pv 0) (pa_cons (pv 3) pa_nil)))) (blkOk_by (own := [("number", 8)]) (N := (["market", "received", "event", "insurer", "losses", "rows", "start", "loss", "number", "amounts"] : List Str)) (sc := defScope s_current_schedules) (by decide +kernel)) (fun _ _ _ _ _ => (pg_name (i := 8) sc_current_schedules.nd rfl (by first | exact Or.inl rfl | exact Or.inr rfl))) (fun _ _ _ _ _ => pts_nil) (fun _ _ _ _ _ => (pv 8)) (fun _ _ _ _ _ => (pe_call G_packed (hr.mono (by first | decide | omega)) rfl D_packed.m D_packed.F.kp D_packed.b .nil pass0 (pa_cons (pe_lc (own := [("start", 6), ("amounts", 9)]) (g := (gTup K 2 (gCons (gName 6) (gCons (gName 9) gNil)))) (tt := tYes) rfl sc_current_schedules.nd (pi_listK (K := K) rfl (pv 5)) (blkOk_by (own := [("start", 6), ("amounts", 9)]) (by first | rfl | kernel_rfl)) (fun _ _ _ _ _ => (pg_tup rfl (pgs_cons (pg_name (i := 6) sc_current_schedules.nd rfl (by first | exact Or.inl rfl | exact Or.inr rfl)) (pgs_cons (pg_name (i := 9) sc_current_schedules.nd rfl (by first | exact Or.inl rfl | exact Or.inr rfl)) pgs_nil)))) (fun _ _ _ _ _ => pts_nil) (fun _ _ _ _ _ => (pe_tup (pa_cons (pv 6) (pa_cons (pe_dget2 (hu_of hr) (pv 9) (pv 8) pe_int ⟨rfl, rfl, rfl, rfl⟩) pa_nil))))) pa_nil)))))))), ?_⟩
  obtain ⟨dx, ai, ae, at', ad, h0, h1, h2, h3, h4, h5⟩ := id hM
  have tl := hok.tl
  refine ⟨_, rfl, _, rfl, _, rfl, _, rfl, m, ar, M, P, e, z, rfl, hM, hok, hR, hA, fun a H1 s1 hs => ?_⟩
  obtain ⟨ys, hys, hpr⟩ := hs
  have el : (est M P e z).length ≤ 201 := sch_len _
  obtain ⟨sc, hsc⟩ : ∃ sc, est M P e z = sc := ⟨_, rfl⟩
  have cu := cur_of hok P e z
  rw [hsc] at hpr el cu
  dsimp only
  refine nx_to ?_
  generalize hw0 : List.set _ _ _ = w0
  have ew : w0 = [some (.ref m), some (.ref ar), some (.str e), some (.str z), some (.ref a), none, none, none, none, none] := by
    rw [← hw0]
    kernel_rfl
  clear hw0
  subst ew
  refine ⟨_, rfl, a, rfl, ⟨_, hys⟩, fun D nD => lc_tup (K := K) (a := a) (xs := ys) (fun i H' => Same H1 H' ∧ ∃ zs, H' D = some (.lst zs) ∧ AllAt (RwD K M.trs z) H' zs (sc.take i)) ⟨same_new nD, [], upd_same, .nil⟩ (fun i H' _ w => same_sqt w.1 hys) ?_ ?_⟩
  · rintro i v H2 hi ⟨s2, zs, hD, hz⟩
    obtain ⟨⟨k, x⟩, hk, t, rfl, ht⟩ := hpr.get hi
    have hil := (List.getElem?_eq_some_iff.mp hk).1
    generalize hw0 : wipe _ _ = w0
    have ew : w0 = [some (.ref m), some (.ref ar), some (.str e), some (.str z), some (.ref a), none, none, none, none, none] := by
      rw [← hw0]
      kernel_rfl
    clear hw0
    subst ew
    have s12 := s1.trans s2
    refine ⟨t, _, rfl, same_sqt s2 ht, rfl, _, _, rfl, _, _, rfl, rfl, by kernel_rfl, ?_⟩
    refine ⟨_, rfl, _, rfl, m, C_Market, dx, _, _, rfl, s12 _ _ h0, T.cl_Market, T.no_Market_treaties, mf_t, _, rfl, _, rfl, at', M.trs, z, x, rfl, TrsAt.same s12 h3, by omega, fun t ht => (hok.ok.ok t ht).c, fun p d H3 s3 nd hd hp => ?_⟩
    refine ⟨p, _, 0, .ref d, rfl, rfl, SqT.of hp, rfl, sz (by show 2 ≤ 100000; decide), fun t2 nt2 => ?_⟩
    have s4 := same_new (o := .tup [.int k, .ref d]) nt2
    have s24 := s3.trans s4
    have hD4 := s24 _ _ hD
    have zl := hz.1
    rw [List.length_take] at zl
    refine ⟨zs, hD4, szl (by omega), same_put (s2.trans s24) nD, _, upd_same, ?_⟩
    rw [List.take_add_one, hk]
    have ndD : ∀ {b : Addr} {kv : List (Key × V)}, (upd H3 t2 (.tup [.int k, .ref d])) b = some (.dK kv) → b ≠ D := fun hb q => by
      rw [q, hD4] at hb
      cases hb
    refine AllAt.imp (S := RwD K M.trs z) (AllAt.add (AllAt.same (R := RwD K M.trs z) (fun e r => RwD.same e r) s24 hz) (⟨t2, d, rfl, SqT.of upd_same, s4 _ _ hd⟩ : RwD K M.trs z _ (.ref t2) (k, x))) fun y q ⟨t8, d8, e8, h8, g8⟩ => ⟨t8, d8, e8, sqt_put hD4 h8, by rw [upd_ne (ndD g8)]; exact g8⟩
  rintro H2 ⟨s2, zs, hD, hz⟩
  rw [hpr.1, List.take_of_length_le (Nat.le_refl _)] at hz
  dsimp only
  refine nx_to ?_
  generalize hw0 : List.set _ _ _ = w0
  have ew : w0 = [some (.ref m), some (.ref ar), some (.str e), some (.str z), some (.ref a), some (.ref D), none, none, none, none] := by
    rw [← hw0]
    kernel_rfl
  clear hw0
  subst ew
  have s02 := s1.trans s2
  have zl := hz.1
  refine ⟨_, rfl, _, rfl, m, M, z, rfl, MktAt.same s02 hM, by omega, fun o H3 s3 no ho => ?_⟩
  have hD3 := s3 _ _ hD
  have hz3 := AllAt.same (R := RwD K M.trs z) (fun e r => RwD.same e r) s3 hz
  have onl := ownN_len z M.trs 0
  have ond := ownN_nodup z M.trs 0
  obtain ⟨ow, how⟩ : ∃ ow, ownN z 0 M.trs = ow := ⟨_, rfl⟩
  rw [how] at ho onl ond
  have fin : ∀ d H', Same H H' → H d = none → (∃ kv, H' d = some (.dK kv) ∧ Paired (fun (p : Key × V) (n : Nat) => p.1 = .inl (n : Int) ∧ ∃ b, p.2 = .ref b ∧ SchAt K H' b (cur M P e z n)) kv ow) → Q (.ref d) H' := fun d H' s n h => q d H' s n (by unfold CuAt; rw [how]; exact h)
  refine ⟨o, rfl, ⟨_, SqL.of ho⟩, fun G nG => dc_it (walk_list (K := K) (a := o) (xs := natV ow)) (fun i H' => Same H3 H' ∧ ∃ kv, H' G = some (.dK kv) ∧ Paired (fun (p : Key × V) (n : Nat) => p.1 = .inl (n : Int) ∧ ∃ b, p.2 = .ref b ∧ SchAt K H' b (cur M P e z n)) kv (ow.take i)) ⟨same_new nG, [], upd_same, .nil⟩ (fun i H' _ w => SqL.of (w.1 _ _ ho)) ?_ ?_⟩
  · rintro i v H4 H5 hi ⟨s4, kv, hG, hkv⟩ ⟨rfl, hv⟩
    unfold natV at hv
    rw [List.getElem?_map] at hv
    obtain ⟨n, hn, rfl⟩ := Option.map_eq_some_iff.mp hv
    have hnl := (List.getElem?_eq_some_iff.mp hn).1
    have hn16 : (natV ow).length = ow.length := List.length_map ..
    generalize hw0 : wipe _ _ = w0
    have ew : w0 = [some (.ref m), some (.ref ar), some (.str e), some (.str z), some (.ref a), some (.ref D), none, none, none, none] := by
      rw [← hw0]
      kernel_rfl
    clear hw0
    subst ew
    have hD5 := s4 _ _ hD3
    have hz5 := AllAt.same (R := RwD K M.trs z) (fun e r => RwD.same e r) s4 hz3
    refine ⟨by kernel_rfl, _, rfl, _, rfl, D, rfl, ⟨_, SqL.of hD5⟩, fun J nJ => lc_list (K := K) (a := D) (xs := zs) (fun j H' => Same H5 H' ∧ ∃ ws, H' J = some (.lst ws) ∧ PrsAt K H' ws ((sc.take j).map fun q => (q.1, payN M.trs z n q.2))) ⟨same_new nJ, [], upd_same, .nil⟩ (fun j H' _ w => SqL.of (w.1 _ _ hD5)) ?_ ?_⟩
    · rintro j v6 H6 hj ⟨s6, ws, hJ, hw⟩
      obtain ⟨⟨k, x⟩, hk, t, d, rfl, ht, hd⟩ := hz5.get hj
      have hjl := (List.getElem?_eq_some_iff.mp hk).1
      generalize hw0 : wipe _ _ = w0
      have ew : w0 = [some (.ref m), some (.ref ar), some (.str e), some (.str z), some (.ref a), some (.ref D), none, none, some (.int (n : Int)), none] := by
        rw [← hw0]
        kernel_rfl
      clear hw0
      subst ew
      refine ⟨t, _, rfl, same_sqt s6 ht, rfl, _, _, rfl, _, _, rfl, rfl, by kernel_rfl, ?_⟩
      have hd6 := s6 _ _ hd
      refine ⟨_, rfl, _, rfl, d, rfl, .inl ⟨_, .inl hd6⟩, _, rfl, _, .inl ⟨_, .inl (n : Int), .inl hd6, rfl, rfl⟩, ?_⟩
      have ev : (valV (pairsK ((actv z 0 M.trs).map (·.1)) (cedeP z M.trs x).1) (.inl (n : Int))).getD (.int 0) = .int (payN M.trs z n x) := pairsN_get n _
      rw [ev]
      refine ⟨sz (by show 2 ≤ 100000; decide), fun t7 nt7 => ?_⟩
      have s7 := same_new (o := .tup [.int k, .int (payN M.trs z n x)]) nt7
      have hJ7 := s7 _ _ hJ
      have wl := hw.1
      rw [List.length_map, List.length_take] at wl
      refine ⟨ws, hJ7, szl (by omega), same_put (s6.trans s7) nJ, _, upd_same, ?_⟩
      rw [List.take_add_one, hk, List.map_append]
      refine AllAt.imp (S := PrAt K) (AllAt.add (PrsAt.same s7 hw) (⟨t7, rfl, SqT.of upd_same⟩ : PrAt K _ (.ref t7) (k, payN M.trs z n x))) fun y q ⟨t8, e8, h8⟩ => ⟨t8, e8, sqt_put hJ7 h8⟩
    · rintro H6 ⟨s6, ws, hJ, hw⟩
      rw [zl, List.take_of_length_le (Nat.le_refl _)] at hw
      refine ⟨J, ws, _, rfl, SqL.of hJ, hw, by rw [List.length_map]; omega, fun p H7 s7 np hs => ?_⟩
      rw [cu n] at hs
      have s57 := s6.trans s7
      have hG7 := s57 _ _ hG
      have kl := Paired.length hkv
      rw [List.length_take] at kl
      have nin : n ∉ ow.take i := fun hm => by
        obtain ⟨jj, hjj⟩ := List.getElem?_of_mem hm
        rw [List.getElem?_take] at hjj
        split at hjj
        · rename_i lt
          have e1 := (List.getElem?_eq_some_iff.mp hjj)
          have e2 := (List.getElem?_eq_some_iff.mp hn)
          have pw := List.pairwise_iff_getElem.mp ond jj i e1.1 e2.1 lt
          exact pw (e1.2.trans e2.2.symm)
        · cases hjj
      refine ⟨kv, .inl (n : Int), rfl, hG7, szl (by omega), same_put (s4.trans s57) nG, _, upd_same, ?_⟩
      rw [L2.putK_new _ (cu_new (R := fun v n => ∃ b, v = .ref b ∧ SchAt K H5 b (cur M P e z n)) hkv nin), List.take_add_one, hn]
      have tp := Tups.put (o := .dK (kv ++ [(.inl (n : Int), .ref p)])) hG7 (fun _ z => (nomatch z)) fun _ _ z => (nomatch z)
      exact paired_add ⟨rfl, p, rfl, tp.sch hs⟩ (Paired.mapP hkv fun _ _ ⟨r1, b, r2, r3⟩ => ⟨r1, b, r2, tp.sch (r3.same s57)⟩)
  · rintro H4 ⟨s4, kv, hG, hkv⟩
    have hn16 : (natV ow).length = ow.length := List.length_map ..
    rw [hn16, List.take_of_length_le (Nat.le_refl _)] at hkv
    exact fin G H4 (s02.trans (s3.trans s4)) ((s02.trans s3).free nG) ⟨kv, hG, hkv⟩

theorem ok_copied {f : Addr} {fd : FuncData} (D_copied : Dfn K mg "copied" s_copied ["table"] f fd) (T : Tx K mg C_BadName C_BadCover C_BadPanel C_BadAmount C_NameTaken C_NoSuchName C_NoSuchNotice C_Twice C_OwnPanel C_TooMany C_NoEnd C_Post C_Market N_NOTHING) :
    FnOk P w K mg base CX0 (1) f fd ["table"] (sp_copied K) := by
  refine D_copied.F.ok sc_copied (fun vs H Q E h => ?_) (fun cdv A outer s H vs Q E hr h => ?_)
  · obtain ⟨d, kvs, rfl, hd, hnd, hl, q⟩ := h
    rfl
  obtain ⟨d, kvs, rfl, hd, hnd, hl, q⟩ := h
  refine ⟨_, (pss_one (ps_ret (pe_lock (pe_dct (hu_of hr) (own := [("key", 1)]) (g := (gName 1)) (tt := tYes) rfl sc_copied.nd (pi_keys (pv 0)) (blkOk_by (own := [("key", 1)]) (N := (["table", "key"] : List Str)) (sc := defScope s_copied) (by decide +kernel)) (fun _ _ _ _ _ => (pg_name (i := 1) sc_copied.nd rfl (by first | exact Or.inl rfl | exact Or.inr rfl))) (fun _ _ _ _ _ => pts_nil) (fun _ _ _ _ _ => (pv 1)) (fun _ _ _ _ _ => (pe_dget (hu_of hr) (pv 0) (pv 1) (fun _ _ => rfl))))))), ?_⟩
  refine ⟨d, _, hd, trivial, fun od => ⟨_, rfl, d, od, rfl, .inr ⟨_, upd_same, fun D nD => ?_⟩⟩⟩
  have hfz : upd H d (.frz od (.dT kvs)) d = some (.frz od (.dT kvs)) := upd_same
  have nD2 : D ≠ d := fun e => by rw [e, upd_same] at nD; cases nD
  have nDH : H D = none := by
    rw [upd_ne nD2] at nD
    exact nD
  refine dct_it (walk_keysT (kvs := kvs)) (fun i H' => Same (upd H d (.frz od (.dT kvs))) H' ∧ H' D = some (.dT (kvs.take i))) ⟨same_new nD, upd_same⟩ (fun i H' _ w => w.1 _ _ hfz) ?_ ?_
  · rintro i x H3 H4 hi ⟨sm, hD⟩ ⟨rfl, k, v, kb, hk, rfl, hkb⟩
    generalize hw : wipe _ _ = w0
    have ew : w0 = [some (.ref d), none] := by
      rw [← hw]
      kernel_rfl
    clear hw
    subst ew
    refine ⟨by kernel_rfl, _, rfl, _, rfl, _, rfl, d, v, rfl, .inr ⟨_, k, kb, .inr ⟨od, sm _ _ hfz⟩, rfl, hkb, (kvs_is hnd hk).symm⟩, _, k, kb, rfl, hD, hkb, ?_, same_put sm nD, ?_⟩
    · rw [List.length_take]
      exact szl (by omega)
    · rw [upd_same, putT_new (kvs_nd hnd hk), List.take_add_one, hk]
      rfl
  · rintro H4 ⟨s4, hD⟩
    rw [List.take_of_length_le (Nat.le_refl _)] at hD
    refine ⟨s4 _ _ hfz, q D _ (fun b u hb => ?_) nDH ?_⟩
    · by_cases e1 : b = d
      · subst e1
        rw [hd] at hb
        rw [upd_same]
        exact hb
      · rw [upd_ne e1]
        exact s4 _ _ (by rw [upd_ne e1]; exact hb)
    · rw [upd_ne nD2]
      exact hD

theorem ok_participants {f : Addr} {fd : FuncData} (D_participants : Dfn K mg "participants" s_participants ["panel"] f fd) (T : Tx K mg C_BadName C_BadCover C_BadPanel C_BadAmount C_NameTaken C_NoSuchName C_NoSuchNotice C_Twice C_OwnPanel C_TooMany C_NoEnd C_Post C_Market N_NOTHING) :
    FnOk P w K mg base CX0 (1) f fd ["panel"] (sp_participants K) := by
  refine D_participants.F.ok sc_participants (fun vs H Q E h => ?_) (fun cdv A outer s H vs Q E hr h => ?_)
  · obtain ⟨x, ps, rfl, hP, hl, q⟩ := h
    rfl
  obtain ⟨x, ps, rfl, hP, hl, q⟩ := h
  refine ⟨_, (pss_one (ps_ret (pe_lc (own := [("participant", 1), ("_", 2)]) (g := (gTup K 2 (gCons (gName 1) (gCons (gName 2) gNil)))) rfl sc_participants.nd (pi_tup (pv 0)) (blkOk_by (own := [("participant", 1), ("_", 2)]) (N := (["panel", "participant", "_"] : List Str)) (sc := defScope s_participants) (by decide +kernel)) (fun _ _ _ _ _ => (pg_tup rfl (pgs_cons (pg_name (i := 1) sc_participants.nd rfl (by first | exact Or.inl rfl | exact Or.inr rfl)) (pgs_cons (pg_name (i := 2) sc_participants.nd rfl (by first | exact Or.inl rfl | exact Or.inr rfl)) pgs_nil)))) (fun _ _ _ _ _ => (pts_one (pt_cmpR op_notN (pv 1) pe_non (nomark _)))) (fun _ _ _ _ _ => (pv 1))))), ?_⟩
  obtain ⟨pa, px, rfl, hpS, hpl, hpE⟩ := PanAt.ent hP
  refine ⟨_, rfl, pa, rfl, ⟨_, hpS⟩, fun D nD => lc_tup (K := K) (a := pa) (xs := px) (fun i H' => Same H H' ∧ H' D = some (.lst ((insP (ps.take i)).map V.str))) ⟨same_new nD, upd_same⟩ (fun i H' _ w => same_sqt w.1 hpS) ?_ ?_⟩
  · rintro i y H' hi ⟨sm, hD⟩
    obtain ⟨en, b, he, rfl, hb⟩ := hpE i y hi
    have e := insP_step he
    generalize hw : wipe _ _ = w0
    have ew : w0 = [some (.ref pa), none, none] := by
      rw [← hw]
      kernel_rfl
    clear hw
    subst ew
    refine ⟨b, _, rfl, same_sqt sm hb, rfl, _, _, rfl, _, _, rfl, rfl, by kernel_rfl, ?_⟩
    rcases en with ⟨_ | z, sh⟩
    · refine ⟨_, rfl, rfl, _, rfl, iteF ⟨sm, ?_⟩⟩
      rw [e]
      exact (List.append_nil _).symm ▸ hD
    · refine ⟨_, rfl, rfl, _, rfl, iteT ⟨_, rfl, _, hD, ?_, same_put sm nD, ?_⟩⟩
      · rw [List.length_map]
        have := insP_le (ps.take i)
        rw [List.length_take] at this
        exact szl (by omega)
      · rw [upd_same, e, List.map_append]
        rfl
  · rintro H' ⟨sm, hD⟩
    rw [hpl, List.take_of_length_le (Nat.le_refl _)] at hD
    exact q D H' sm nD hD

theorem ok_Post___init {f : Addr} {fd : FuncData} (D_Post___init : Mki K C_Post "Post.__init__" s_Post___init ["self", "market"] f fd) (T : Tx K mg C_BadName C_BadCover C_BadPanel C_BadAmount C_NameTaken C_NoSuchName C_NoSuchNotice C_Twice C_OwnPanel C_TooMany C_NoEnd C_Post C_Market N_NOTHING) :
    FnOk P w K mg base CX0 (1) f fd ["self", "market"] (sp_pinit K C_Post) := by
  refine D_Post___init.F.ok sc_Post___init (fun vs H Q E h => ?_) (fun cdv A outer s H vs Q E hr h => ?_)
  · obtain ⟨p, dx, m, rfl, hp, q⟩ := h
    rfl
  obtain ⟨p, dx, m, rfl, hp, q⟩ := h
  refine ⟨_, (pss_cons (ps_fld (pv 0) (pv 1) rfl)
      (pss_cons (ps_fld (pv 0) (pe_lst pa_nil) rfl)
      (pss_cons (ps_fld (pv 0) pe_bl rfl)
      (pss_cons (ps_fld (pv 0) (pe_tup pa_nil) rfl)
      (pss_cons (ps_fld (pv 0) pe_dnewT rfl)
      (pss_cons (ps_fld (pv 0) pe_dnewT rfl)
      (pss_one (ps_fld (pv 0) pe_dnewT rfl)))))))), ?_⟩
  have hlen : ∀ (f : Str) (v : V) (fs : List (Str × V)) (n : Nat), fs.length ≤ n → (putF f v fs).length ≤ n + 1 := fun f v fs n h => by
    have := putF_le f v fs
    omega
  refine ⟨_, rfl, _, rfl, p, C_Post, dx, [], rfl, hp, T.cl_Post, T.no_Post_market, by decide, ?_⟩
  obtain ⟨F1, f1⟩ : ∃ F, putF "market" (.ref m) ([] : List (Str × V)) = F := ⟨_, rfl⟩
  have l1 : F1.length ≤ 1 := by rw [← f1]; exact hlen _ _ _ 0 (Nat.le_refl _)
  rw [f1]
  obtain ⟨H1, e1⟩ : ∃ H1, upd H p (.ins C_Post dx F1) = H1 := ⟨_, rfl⟩
  have p1 : H1 p = some (.ins C_Post dx F1) := by rw [← e1]; exact upd_same
  have b1 : Bar p H H1 := by rw [← e1]; exact Bar.put (Bar.refl H)
  rw [e1]
  clear e1
  refine ⟨Nat.zero_le _, fun an nn => ⟨_, rfl, p, C_Post, dx, F1, rfl, ne_keep nn p1, T.cl_Post, T.no_Post_notices, by omega, ?_⟩⟩
  obtain ⟨F2, f2⟩ : ∃ F, putF "notices" (.ref an) F1 = F := ⟨_, rfl⟩
  have l2 : F2.length ≤ 2 := by rw [← f2]; exact hlen _ _ _ 1 l1
  obtain ⟨b2, a2, p2, x2⟩ := fld_step (u := .lst []) (o' := .ins C_Post dx F2) nn p1
  rw [f2]
  obtain ⟨H2, e2⟩ : ∃ H2, upd (upd H1 an (.lst [])) p (.ins C_Post dx F2) = H2 := ⟨_, rfl⟩
  rw [e2] at b2 a2 p2 ⊢
  clear e2
  refine ⟨_, rfl, p, C_Post, dx, F2, rfl, p2, T.cl_Post, T.no_Post_is_kept, by omega, ?_⟩
  obtain ⟨F3, f3⟩ : ∃ F, putF "is_kept" (.bl false) F2 = F := ⟨_, rfl⟩
  have l3 : F3.length ≤ 3 := by rw [← f3]; exact hlen _ _ _ 2 l2
  rw [f3]
  obtain ⟨H3, e3⟩ : ∃ H3, upd H2 p (.ins C_Post dx F3) = H3 := ⟨_, rfl⟩
  have p3 : H3 p = some (.ins C_Post dx F3) := by rw [← e3]; exact upd_same
  have b3 : Bar p H2 H3 := by rw [← e3]; exact Bar.put (Bar.refl H2)
  rw [e3]
  clear e3
  refine ⟨Nat.zero_le _, fun au nu => ⟨_, rfl, p, C_Post, dx, F3, rfl, ne_keep nu p3, T.cl_Post, T.no_Post_numbers, by omega, ?_⟩⟩
  obtain ⟨F4, f4⟩ : ∃ F, putF "numbers" (.ref au) F3 = F := ⟨_, rfl⟩
  have l4 : F4.length ≤ 4 := by rw [← f4]; exact hlen _ _ _ 3 l3
  obtain ⟨b4, a4, p4, x4⟩ := fld_step (u := .tup []) (o' := .ins C_Post dx F4) nu p3
  rw [f4]
  obtain ⟨H4, e4⟩ : ∃ H4, upd (upd H3 au (.tup [])) p (.ins C_Post dx F4) = H4 := ⟨_, rfl⟩
  rw [e4] at b4 a4 p4 ⊢
  clear e4
  refine fun al nl => ⟨_, rfl, p, C_Post, dx, F4, rfl, ne_keep nl p4, T.cl_Post, T.no_Post_last, by omega, ?_⟩
  obtain ⟨F5, f5⟩ : ∃ F, putF "last" (.ref al) F4 = F := ⟨_, rfl⟩
  have l5 : F5.length ≤ 5 := by rw [← f5]; exact hlen _ _ _ 4 l4
  obtain ⟨b5, a5, p5, x5⟩ := fld_step (u := .dT []) (o' := .ins C_Post dx F5) nl p4
  rw [f5]
  obtain ⟨H5, e5⟩ : ∃ H5, upd (upd H4 al (.dT [])) p (.ins C_Post dx F5) = H5 := ⟨_, rfl⟩
  rw [e5] at b5 a5 p5 ⊢
  clear e5
  refine fun ar nr => ⟨_, rfl, p, C_Post, dx, F5, rfl, ne_keep nr p5, T.cl_Post, T.no_Post_received, by omega, ?_⟩
  obtain ⟨F6, f6⟩ : ∃ F, putF "received" (.ref ar) F5 = F := ⟨_, rfl⟩
  have l6 : F6.length ≤ 6 := by rw [← f6]; exact hlen _ _ _ 5 l5
  obtain ⟨b6, a6, p6, x6⟩ := fld_step (u := .dT []) (o' := .ins C_Post dx F6) nr p5
  rw [f6]
  obtain ⟨H6, e6⟩ : ∃ H6, upd (upd H5 ar (.dT [])) p (.ins C_Post dx F6) = H6 := ⟨_, rfl⟩
  rw [e6] at b6 a6 p6 ⊢
  clear e6
  refine fun ap np => ⟨_, rfl, p, C_Post, dx, F6, rfl, ne_keep np p6, T.cl_Post, T.no_Post_paid, by omega, ?_⟩
  obtain ⟨b7, a7, p7, x7⟩ := fld_step (u := .dT []) (o' := .ins C_Post dx (pf m an false au al ar ap)) np p6
  have ef : putF "paid" (.ref ap) F6 = pf m an false au al ar ap := by
    rw [← f6, ← f5, ← f4, ← f3, ← f2, ← f1]
    kernel_rfl
  rw [ef]
  obtain ⟨H7, e7⟩ : ∃ H7, upd (upd H6 ap (.dT [])) p (.ins C_Post dx (pf m an false au al ar ap)) = H7 := ⟨_, rfl⟩
  rw [e7] at b7 a7 p7 ⊢
  clear e7
  have k27 : Bar p H2 H7 := b3.trans (b4.trans (b5.trans (b6.trans b7)))
  refine q an H7 (b1.trans (b2.trans k27)) ?_ ⟨dx, au, al, ar, ap, p7, ⟨[], k27 _ _ x2 a2, .nil⟩, ⟨SqT.of (b5.trans (b6.trans b7) _ _ x4 a4), .inl rfl⟩, ⟨[], b6.trans b7 _ _ x5 a5, .nil⟩, ⟨[], b7 _ _ x6 a6, .nil⟩, a7, fun _ _ _ z => (nomatch z), fun _ z => (nomatch z)⟩
  exact Bar.free b1 x2 nn

theorem ok_Post___len {f : Addr} {fd : FuncData} (D_Post___len : Mth K C_Post "__len__" "Post.__len__" s_Post___len ["self"] f fd) (T : Tx K mg C_BadName C_BadCover C_BadPanel C_BadAmount C_NameTaken C_NoSuchName C_NoSuchNotice C_Twice C_OwnPanel C_TooMany C_NoEnd C_Post C_Market N_NOTHING) :
    FnOk P w K mg base CX0 (1) f fd ["self"] (sp_plen K C_Post) := by
  refine D_Post___len.F.ok sc_Post___len (fun vs H Q E h => ?_) (fun cdv A outer s H vs Q E hr h => ?_)
  · obtain ⟨p, m, an, k, P, rfl, hP, q⟩ := h
    rfl
  obtain ⟨p, m, an, k, P, rfl, hP, q⟩ := h
  refine ⟨_, (pss_one (ps_ret (pe_callB call_len_seq (by rfl) T.len PySem.boot_len (pa_cons (pe_fld (pv 0) rfl) pa_nil)))), ?_⟩
  obtain ⟨dx, au, al, ar, ap, h0, ⟨ys, h1, h2⟩, _⟩ := id hP
  refine ⟨_, rfl, p, C_Post, dx, _, _, rfl, h0, T.cl_Post, T.no_Post_notices, pf_n, an, _, rfl, .inl (SqL.of h1), ?_⟩
  rw [h2.1]
  exact q

theorem ok_Post___iter {f : Addr} {fd : FuncData} (D_Post___iter : Mth K C_Post "__iter__" "Post.__iter__" s_Post___iter ["self"] f fd) (T : Tx K mg C_BadName C_BadCover C_BadPanel C_BadAmount C_NameTaken C_NoSuchName C_NoSuchNotice C_Twice C_OwnPanel C_TooMany C_NoEnd C_Post C_Market N_NOTHING) :
    FnY P w K mg base CX0 (1) f fd ["self"] (sp_piter K C_Post) := by
  refine fnY_of D_Post___iter.F sc_Post___iter (fun _ vs H Q E h => ?_) (fun cdv A outer s H vs Q E hr h => ?_)
  · obtain ⟨p, m, an, k, P, rfl, hP, q⟩ := h
    rfl
  obtain ⟨p, m, an, k, P, rfl, hP, q⟩ := h
  refine ⟨_, (pss_one (ps_ret (pe_callB call_iterT (by rfl) T.iter (by decide +kernel) (pa_cons (pe_fld (pv 0) rfl) pa_nil)))), ?_⟩
  obtain ⟨dx, au, al, ar, ap, h0, ⟨ys, h1, h2⟩, h3, _⟩ := id hP
  exact ⟨_, rfl, p, C_Post, dx, _, _, rfl, h0, T.cl_Post, T.no_Post_numbers, pf_u, au, _, rfl, h3.1, fun it ni hn => q it au ni hn h3.1⟩

theorem ok_Post_send {f : Addr} {fd : FuncData} (D_Post_send : Mth K C_Post "send" "Post.send" s_Post_send ["self", "insurer"] f fd) (T : Tx K mg C_BadName C_BadCover C_BadPanel C_BadAmount C_NameTaken C_NoSuchName C_NoSuchNotice C_Twice C_OwnPanel C_TooMany C_NoEnd C_Post C_Market N_NOTHING) {f_check_known : Addr} {fd_check_known : FuncData} (D_check_known : Dfn K mg "check_known" s_check_known ["name", "names"] f_check_known fd_check_known) (G_check_known : FnOk P w K mg base (L2.CX P w) (3) f_check_known fd_check_known ["name", "names"] (sp_check_known K C_NoSuchName)) {f_Post__changes : Addr} {fd_Post__changes : FuncData} (D_Post__changes : Mth K C_Post "_changes" "Post._changes" s_Post__changes ["self", "insurer"] f_Post__changes fd_Post__changes) (G_Post__changes : FnOk P w K mg base CX0 (7) f_Post__changes fd_Post__changes ["self", "insurer"] (sp_changes K C_Post C_Market)) {f_copied : Addr} {fd_copied : FuncData} (D_copied : Dfn K mg "copied" s_copied ["table"] f_copied fd_copied) (G_copied : FnOk P w K mg base CX0 (1) f_copied fd_copied ["table"] (sp_copied K)) {f_Post__last_sequence : Addr} {fd_Post__last_sequence : FuncData} (D_Post__last_sequence : Mth K C_Post "_last_sequence" "Post._last_sequence" s_Post__last_sequence ["self", "number", "event"] f_Post__last_sequence fd_Post__last_sequence) (G_Post__last_sequence : FnOk P w K mg base CX0 (1) f_Post__last_sequence fd_Post__last_sequence ["self", "number", "event"] (sp_last_sequence K C_Post)) {f_Post__enter : Addr} {fd_Post__enter : FuncData} (D_Post__enter : Mth K C_Post "_enter" "Post._enter" s_Post__enter ["self", "keys", "last"] f_Post__enter fd_Post__enter) (G_Post__enter : FnOk P w K mg base (L2.CX P w) (2) f_Post__enter fd_Post__enter ["self", "keys", "last"] (sp_enter K C_Post C_Market C_TooMany)) :
    FnOk P w K mg base (L2.CX P w) (8) f fd ["self", "insurer"] (sp_send K C_Post C_Market C_NoSuchName C_TooMany) := by
  refine D_Post_send.F.okX sc_Post_send (fun vs H Q E h => ?_) (fun cdv A outer s H vs Q E hr h => ?_)
  · obtain ⟨p, m, an, k, M, P, z, rfl, hP, hM, hok, hpt, h⟩ := h
    rfl
  obtain ⟨p, m, an, k, M, P, z, rfl, hP, hM, hok, hpt, h⟩ := h
  refine ⟨_, (pss_cons (ps_expr (pe_call G_check_known (hr.mono (by first | decide | omega)) rfl D_check_known.m D_check_known.F.kp D_check_known.b .nil (passes_call (takes_of rfl rfl rfl rfl) (fun _ _ _ _ h => h)) (pa_cons (pv 1) (pa_cons (pe_fld (pe_fld (pv 0) rfl) rfl) pa_nil))))
      (pss_cons (ps_set (i := 2) sc_Post_send.nd rfl (by first | exact Or.inl rfl | exact Or.inr rfl) (pe_meth (pv 0) T.cl_Post D_Post__changes.m G_Post__changes (hr.mono (by first | decide | omega)) D_Post__changes.b .nil pass0 (pa_cons (pv 1) pa_nil)))
      (pss_cons (ps_set (i := 3) sc_Post_send.nd rfl (by first | exact Or.inl rfl | exact Or.inr rfl) (pe_call G_copied (hr.mono (by first | decide | omega)) rfl D_copied.m D_copied.F.kp D_copied.b .nil pass0 (pa_cons (pe_fld (pv 0) rfl) pa_nil)))
      (pss_cons (ps_for (passes_of rfl) rfl (pi_list (pv 2)) (pg_tup rfl (pgs_cons (pg_name (i := 4) sc_Post_send.nd rfl (by first | exact Or.inl rfl | exact Or.inr rfl)) (pgs_cons (pg_name (i := 5) sc_Post_send.nd rfl (by first | exact Or.inl rfl | exact Or.inr rfl)) (pgs_cons (pg_name (i := 6) sc_Post_send.nd rfl (by first | exact Or.inl rfl | exact Or.inr rfl)) pgs_nil))))
      (pss_one (ps_dput (hu_of hr) (pv 3) (pe_tup (pa_cons (pv 4) (pa_cons (pv 5) pa_nil))) (pe_tup (pa_cons (pe_op op_add (pe_meth (pv 0) T.cl_Post D_Post__last_sequence.m G_Post__last_sequence (hr.mono (by first | decide | omega)) D_Post__last_sequence.b .nil pass0 (pa_cons (pv 4) (pa_cons (pv 5) pa_nil))) pe_int) (pa_cons (pv 6) pa_nil))) rfl)))
      (pss_cons (ps_set (i := 7) sc_Post_send.nd rfl (by first | exact Or.inl rfl | exact Or.inr rfl) (pe_meth (pv 0) T.cl_Post D_Post__enter.m G_Post__enter (hr.mono (by first | decide | omega)) D_Post__enter.b .nil (passes_call (takes_of rfl rfl rfl rfl) (fun _ _ _ _ h => h)) (pa_cons (pe_lc (own := [("number", 4), ("event", 5), ("_", 8)]) (g := (gTup K 3 (gCons (gName 4) (gCons (gName 5) (gCons (gName 8) gNil))))) (tt := tYes) rfl sc_Post_send.nd (pi_list (pv 2)) (blkOk_by (own := [("number", 4), ("event", 5), ("_", 8)]) (N := (["self", "insurer", "changes", "last", "number", "event", "schedule", "numbers", "_"] : List Str)) (sc := defScope s_Post_send) (by decide +kernel)) (fun _ _ _ _ _ => (pg_tup rfl (pgs_cons (pg_name (i := 4) sc_Post_send.nd rfl (by first | exact Or.inl rfl | exact Or.inr rfl)) (pgs_cons (pg_name (i := 5) sc_Post_send.nd rfl (by first | exact Or.inl rfl | exact Or.inr rfl)) (pgs_cons (pg_name (i := 8) sc_Post_send.nd rfl (by first | exact Or.inl rfl | exact Or.inr rfl)) pgs_nil))))) (fun _ _ _ _ _ => pts_nil) (fun _ _ _ _ _ => (pe_tup (pa_cons (pv 4) (pa_cons (pv 5) pa_nil))))) (pa_cons (pv 3) pa_nil))))
      (pss_cons (ps_fld (pv 0) (pv 3) rfl)
      (pss_one (ps_ret (pv 7))))))))), ?_⟩
  obtain ⟨dx, au, al, ar, ap, h0, ⟨zs, h1, h2⟩, h3, h4, h6, h8, h9⟩ := id hP
  obtain ⟨dy, ai, ae, at', ad, g0, g1, g2, g3, g4, g5⟩ := id hM
  refine ⟨_, rfl, _, rfl, p, C_Post, dx, _, _, rfl, h0, T.cl_Post, T.no_Post_market, pf_m, m, C_Market, dy, _, _, rfl, g0, T.cl_Market, T.no_Market_insurers, mf_i, z, ai, M.ins, rfl, g1, ?_⟩
  rcases (show (z ∉ M.ins ∧ _) ∨ (z ∈ M.ins ∧ ((2000 < P.nts.length + (sendN M P z).length ∧ _) ∨ (P.nts.length + (sendN M P z).length ≤ 2000 ∧ _))) from h.imp id fun h => h.elim (fun h => ⟨h.1, .inl h.2⟩) fun h => ⟨h.1, .inr h.2⟩) with ⟨hz, q⟩ | ⟨hz, h⟩
  · exact .inr ⟨hz, fun d nd => q d _ (same_new nd) upd_same⟩
  refine .inl ⟨hz, ?_⟩
  refine ⟨_, rfl, p, dx, _, rfl, h0, pf_no (by decide +kernel), _, rfl, p, m, an, k, M, P, z, rfl, hP, hM, hok, hpt, fun o ys H1 s1 no ho hys => ?_⟩
  obtain ⟨kl, h4, h5⟩ := h4
  have hkl := h5.len
  have hll := hpt.llen hok
  refine ⟨_, rfl, p, C_Post, dx, _, _, rfl, s1 _ _ h0, T.cl_Post, T.no_Post_last, pf_l, al, kl, rfl, s1 _ _ h4, h5.nodup kfL_inj hpt.lnd, by omega, fun D H2 s2 nD hD => ?_⟩
  have s02 := s1.trans s2
  have hys2 := AllAt.same (R := ChAt K) (fun e r => ChAt.same e r) s2 hys
  have cl := chg_len hok P z
  dsimp only
  refine nx_to ?_
  generalize hw0 : List.set _ _ _ = w0
  have ew : w0 = [some (.ref p), some (.str z), some (.ref o), some (.ref D), none, none, none, none, none] := by
    rw [← hw0]
    kernel_rfl
  clear hw0
  subst ew
  have ho2 := s2 _ _ ho
  have noD : o ≠ D := fun e => by
    rw [e, nD] at ho
    cases ho
  have k0 := s02 _ _ h0
  refine ⟨_, rfl, o, rfl, ⟨_, SqL.of ho2⟩, for_list (K := K) (a := o) (xs := ys) (fun i σ H' => ∃ (v4 v5 v6 : Option V), σ = [some (.ref p), some (.str z), some (.ref o), some (.ref D), v4, v5, v6, none, none] ∧ Bar D H2 H' ∧ LsAt K H' D (newL P ((chg M P z).take i)) ∧ (newL P ((chg M P z).take i)).length ≤ 48 + i) ⟨_, _, _, rfl, Bar.refl _, ⟨kl, hD, h5.imp fun _ _ => SqAt.same s02⟩, hll⟩ (fun i σ H' _ ⟨_, _, _, _, b, _⟩ => SqL.of (b _ _ noD ho2)) ?_ ?_⟩
  · rintro i v σ H3 hi ⟨v4, v5, v6, rfl, b3, ⟨kd, hd, hkd⟩, hln⟩
    obtain ⟨⟨n, e, sc⟩, hc, t, b, rfl, hS, hs⟩ := hys2.get hi
    have st := newL_step P hc
    have tu : Tups H2 H3 := ⟨fun c xs h => b3 _ _ (fun q => by rw [q, hD] at h; cases h) h, fun c u xs h => b3 _ _ (fun q => by rw [q, hD] at h; cases h) h⟩
    have hil := (List.getElem?_eq_some_iff.mp hc).1
    refine ⟨t, _, rfl, tu.sqt hS, rfl, _, _, rfl, _, _, rfl, _, _, rfl, rfl, ?_⟩
    have j0 : H3 p = some (.ins C_Post dx (pf m an k au al ar ap)) := b3 _ _ (fun q => by rw [q, hD] at k0; cases k0) k0
    have hP3 : PostAt K C_Post H3 p m an k P := by
      obtain ⟨kr, r1, r2⟩ := RcAt.same s02 h6
      have nn : ∀ {b : Addr} {u : HO}, H2 b = some u → b ≠ D → H3 b = some u := fun h n => b3 _ _ n h
      have nD1 : ∀ {b : Addr} {u : HO}, H b = some u → b ≠ D := fun h q => by
        have := s1 _ _ h
        rw [q, nD] at this
        cases this
      exact ⟨dx, au, al, ar, ap, j0, ⟨zs, nn (s02 _ _ h1) (nD1 h1), AllAt.imp (S := NtAt K) (AllAt.same (R := NtAt K) (fun e r => NtAt.same e r) s02 h2) fun _ _ => tu.nt⟩, tu.fzt (h3.same s02), ⟨kl, nn (s02 _ _ h4) (nD1 h4), (h5.imp fun _ _ => SqAt.same s02).imp fun _ _ => tu.sq⟩, ⟨kr, nn r1 (by obtain ⟨_, q, _⟩ := h6; exact nD1 q), r2.imp fun _ _ => tu.sq⟩, nn (s02 _ _ h8) (nD1 h8), h9⟩
    refine ⟨_, rfl, p, dx, _, rfl, j0, pf_no (by decide +kernel), _, rfl, _, rfl, p, m, an, k, P, n, e, rfl, hP3, fun H5 s5 => ⟨_, _, rfl, rfl, _, rfl, sz (by show 2 ≤ 100000; decide), fun t2 nt2 => ?_⟩⟩
    have s6 := same_new (o := .tup [.int ((lastOf P n e).1 + 1), .ref b]) nt2
    refine ⟨_, rfl, _, rfl, _, rfl, sz (by show 2 ≤ 100000; decide), fun kb nkb => ?_⟩
    have s7 := same_new (o := .tup [.int (n : Int), .str e]) nkb
    have s57 := s6.trans s7
    have s37 := s5.trans s57
    have hd7 := s37 _ _ hd
    have hlk := hkd.len
    refine ⟨D, _, rfl, .inr ⟨kd, kfL (n, e), kb, hd7, rfl, upd_same, szl (by omega), rfl⟩, ?_⟩
    have ht2 : upd (upd H5 t2 (.tup [.int ((lastOf P n e).1 + 1), .ref b])) kb (.tup [.int (n : Int), .str e]) t2 = some (.tup [.int ((lastOf P n e).1 + 1), .ref b]) := s7 _ _ upd_same
    have tp := Tups.put (o := .dT (putK kd (kfL (n, e)) (.ref t2))) hd7 (fun _ z => (nomatch z)) fun _ _ z => (nomatch z)
    have sq2 : SqAt K (upd (upd H5 t2 (.tup [.int ((lastOf P n e).1 + 1), .ref b])) kb (.tup [.int (n : Int), .str e])) (.ref t2) ((lastOf P n e).1 + 1, sc) := ⟨t2, b, rfl, SqT.of ht2, SchAt.same s37 (tu.sch hs)⟩
    refine ⟨_, _, _, rfl, b3.trans ((Bar.of s37).trans (Bar.put (Bar.refl _))), ⟨_, upd_same, ?_⟩, ?_⟩
    · rw [st]
      exact (Kv.put kfL_inj sq2 (newL_nd hpt.lnd _) (hkd.imp fun _ _ => SqAt.same s37)).imp fun _ _ => tp.sq
    · rw [st]
      have := putL_len (newL P ((chg M P z).take i)) (n, e) ((lastOf P n e).1 + 1, sc)
      show (putL (newL P ((chg M P z).take i)) (n, e) ((lastOf P n e).1 + 1, sc)).length ≤ _
      omega
  rintro σ H3 ⟨v4, v5, v6, rfl, b3, hLs, hln⟩
  rw [hys2.1, List.take_of_length_le (Nat.le_refl _)] at hLs hln
  obtain ⟨kd, hd, hkd⟩ := id hLs
  have tu : Tups H2 H3 := ⟨fun c xs h => b3 _ _ (fun q => by rw [q, hD] at h; cases h) h, fun c u xs h => b3 _ _ (fun q => by rw [q, hD] at h; cases h) h⟩
  have nn : ∀ {b : Addr} {u : HO}, H2 b = some u → b ≠ D → H3 b = some u := fun h n => b3 _ _ n h
  have nD1 : ∀ {b : Addr} {u : HO}, H b = some u → b ≠ D := fun h q => by
    have := s1 _ _ h
    rw [q, nD] at this
    cases this
  have j0 : H3 p = some (.ins C_Post dx (pf m an k au al ar ap)) := nn k0 (nD1 h0)
  have hP3 : PostAt K C_Post H3 p m an k P := by
    obtain ⟨kr, r1, r2⟩ := RcAt.same s02 h6
    exact ⟨dx, au, al, ar, ap, j0, ⟨zs, nn (s02 _ _ h1) (nD1 h1), AllAt.imp (S := NtAt K) (AllAt.same (R := NtAt K) (fun e r => NtAt.same e r) s02 h2) fun _ _ => tu.nt⟩, tu.fzt (h3.same s02), ⟨kl, nn (s02 _ _ h4) (nD1 h4), (h5.imp fun _ _ => SqAt.same s02).imp fun _ _ => tu.sq⟩, ⟨kr, nn r1 (by obtain ⟨_, q, _⟩ := h6; exact nD1 q), r2.imp fun _ _ => tu.sq⟩, nn (s02 _ _ h8) (nD1 h8), h9⟩
  have s03 : Same H H3 := fun b u hb => nn (s02 _ _ hb) (nD1 hb)
  have hM3 := MktAt.same s03 hM
  have ho3 : H3 o = some (.lst ys) := nn ho2 noD
  have hys3 : AllAt (ChAt K) H3 ys (chg M P z) := AllAt.imp (S := ChAt K) hys2 fun y d ⟨t, b, e1, e2, e3⟩ => ⟨t, b, e1, tu.sqt e2, tu.sch e3⟩
  refine ⟨_, rfl, p, dx, _, rfl, j0, pf_no (by decide +kernel), _, rfl, o, rfl, ⟨_, SqL.of ho3⟩, fun G nG => lc_list (K := K) (a := o) (xs := ys) (fun i H' => Same H3 H' ∧ ∃ ws, H' G = some (.lst ws) ∧ AllAt (KyAt K) H' ws (((chg M P z).take i).map fun d => (d.1, d.2.1))) ⟨same_new nG, [], upd_same, .nil⟩ (fun i H' _ w => SqL.of (w.1 _ _ ho3)) ?_ ?_⟩
  · rintro i v H4 hi ⟨s4, ws, hG, hws⟩
    obtain ⟨⟨n, e, sc⟩, hc, t, b, rfl, hS, hs⟩ := hys3.get hi
    have hil := (List.getElem?_eq_some_iff.mp hc).1
    generalize hw0 : wipe _ _ = w0
    have ew : w0 = [some (.ref p), some (.str z), some (.ref o), some (.ref D), none, none, v6, none, none] := by
      rw [← hw0]
      kernel_rfl
    clear hw0
    subst ew
    refine ⟨t, _, rfl, same_sqt s4 hS, rfl, _, _, rfl, _, _, rfl, _, _, rfl, rfl, by kernel_rfl, _, rfl, _, rfl, sz (by show 2 ≤ 100000; decide), fun t2 nt2 => ?_⟩
    have s5 := same_new (o := .tup [.int (n : Int), .str e]) nt2
    have hG5 := s5 _ _ hG
    have wl := hws.1
    rw [List.length_map, List.length_take] at wl
    refine ⟨ws, hG5, szl (by omega), same_put (s4.trans s5) nG, _, upd_same, ?_⟩
    rw [List.take_add_one, hc, List.map_append]
    refine AllAt.imp (S := KyAt K) (AllAt.add (AllAt.same (R := KyAt K) (fun e r => KyAt.same e r) s5 hws) (⟨t2, rfl, SqT.of upd_same⟩ : KyAt K _ (.ref t2) (n, e))) fun y l ⟨t3, e1, e2⟩ => ⟨t3, e1, sqt_put hG5 e2⟩
  rintro H4 ⟨s4, ws, hG, hws⟩
  rw [hys.1, List.take_of_length_le (Nat.le_refl _)] at hws
  have s04 := s03.trans s4
  have nGa : G ≠ an := fun e => by
    have := s03 _ _ h1
    rw [← e, nG] at this
    cases this
  refine ⟨_, rfl, p, m, an, G, D, k, M, P, newL P (chg M P z), _, ws, rfl, PostAt.same s4 hP3, MktAt.same s4 hM3, hok, hpt.len, hG, nGa, hws, hLs.same s4, by rw [List.length_map]; exact cl, fun x hx => ?_, ?_⟩
  · obtain ⟨d, hd, rfl⟩ := List.mem_map.mp hx
    exact ⟨own_lt (chg_mem hd).1, newL_some P _ hd⟩
  rcases h with ⟨hb, q⟩ | ⟨hb, q⟩
  · exact .inl ⟨hb, fun H5 s5 => q H5 (s04.trans s5)⟩
  refine .inr ⟨hb, fun tt a2 k2 H5 b5 nw hkx hP5 ht => ?_⟩
  obtain ⟨ex, eu, el, er, ep, i0, ⟨ws5, i1, i2⟩, i3, i4, i6, i8, i9⟩ := id hP5
  have hd5 : LsAt K H5 D (newL P (chg M P z)) := by
    obtain ⟨kd4, q1, q2⟩ := hLs.same s4
    have hp4 := s4 _ _ j0
    have ha4 : ∀ u, H4 an = some u → ∃ xs, u = .lst xs := fun u hu => by
      rw [s04 _ _ h1] at hu
      exact ⟨zs, (Option.some.inj hu).symm⟩
    refine ⟨kd4, b5 _ _ (fun e => by rw [e, hp4] at q1; cases q1) (fun e => ?_) q1, q2.imp fun _ _ => (tups_bar2 hp4 ha4 b5).sq⟩
    rw [e] at q1
    obtain ⟨_, z⟩ := ha4 _ q1
    cases z
  refine ⟨_, rfl, _, rfl, p, C_Post, ex, _, rfl, i0, T.cl_Post, T.no_Post_last, by show 7 < 1000; decide, ?_⟩
  rw [pf_pl]
  have tp := Tups.put (o := .ins C_Post ex (pf m a2 k2 eu D er ep)) i0 (fun _ z => (nomatch z)) fun _ _ z => (nomatch z)
  have nw2 : Nw H an a2 k k2 := ⟨nw.1, nw.2.imp id fun ⟨e1, e2⟩ => ⟨e1, s04.free e2⟩⟩
  have kx2 : Kx p H (upd H5 p (.ins C_Post ex (pf m a2 k2 eu D er ep))) := fun x kv hx a => by
    have a5 := hkx x kv (s04 _ _ hx) (kx_keep h0 (s04 _ _ h0) x kv hx a)
    obtain ⟨_, b2, b3⟩ := a5 _ _ _ _ _ _ _ _ _ i0
    exact aw_of upd_same ⟨fun e => (by rw [← e, s1.free nD] at hx; cases hx), b2, b3⟩
  exact ⟨_, rfl, q tt a2 k2 _ (bar2_put (bar2_trans (bar2_of s04) b5)) nw2 kx2 (post_ins (P := sendP M P z) i0 i1 i2 i3 hd5 i6 i8 i9) (tp.sqt ht)⟩

theorem ok_Post_resend {f : Addr} {fd : FuncData} (D_Post_resend : Mth K C_Post "resend" "Post.resend" s_Post_resend ["self", "insurer"] f fd) (T : Tx K mg C_BadName C_BadCover C_BadPanel C_BadAmount C_NameTaken C_NoSuchName C_NoSuchNotice C_Twice C_OwnPanel C_TooMany C_NoEnd C_Post C_Market N_NOTHING) {f_check_known : Addr} {fd_check_known : FuncData} (D_check_known : Dfn K mg "check_known" s_check_known ["name", "names"] f_check_known fd_check_known) (G_check_known : FnOk P w K mg base (L2.CX P w) (3) f_check_known fd_check_known ["name", "names"] (sp_check_known K C_NoSuchName)) {f_own_treaties : Addr} {fd_own_treaties : FuncData} (D_own_treaties : Dfn K mg "own_treaties" s_own_treaties ["market", "insurer"] f_own_treaties fd_own_treaties) (G_own_treaties : FnOk P w K mg base CX0 (1) f_own_treaties fd_own_treaties ["market", "insurer"] (sp_own_treaties K C_Market)) {f_Post__enter : Addr} {fd_Post__enter : FuncData} (D_Post__enter : Mth K C_Post "_enter" "Post._enter" s_Post__enter ["self", "keys", "last"] f_Post__enter fd_Post__enter) (G_Post__enter : FnOk P w K mg base (L2.CX P w) (2) f_Post__enter fd_Post__enter ["self", "keys", "last"] (sp_enter K C_Post C_Market C_TooMany)) :
    FnOk P w K mg base (L2.CX P w) (4) f fd ["self", "insurer"] (sp_resend K C_Post C_Market C_NoSuchName C_TooMany) := by
  refine D_Post_resend.F.okX sc_Post_resend (fun vs H Q E h => ?_) (fun cdv A outer s H vs Q E hr h => ?_)
  · obtain ⟨p, m, an, k, M, P, z, rfl, hP, hM, hok, hpt, h⟩ := h
    rfl
  obtain ⟨p, m, an, k, M, P, z, rfl, hP, hM, hok, hpt, h⟩ := h
  refine ⟨_, (pss_cons (ps_expr (pe_call G_check_known (hr.mono (by first | decide | omega)) rfl D_check_known.m D_check_known.F.kp D_check_known.b .nil (passes_call (takes_of rfl rfl rfl rfl) (fun _ _ _ _ h => h)) (pa_cons (pv 1) (pa_cons (pe_fld (pe_fld (pv 0) rfl) rfl) pa_nil))))
      (pss_cons (ps_setLc2 (i := 2) (own := [("number", 3), ("event", 4)]) (vs1 := [4]) (g := (gName 3)) (g1 := (gName 4)) (tt := tYes) rfl sc_Post_resend.nd rfl rfl (sw_true rfl rfl rfl (by decide +kernel)) (pi_list (pe_call G_own_treaties (hr.mono (by first | decide | omega)) rfl D_own_treaties.m D_own_treaties.F.kp D_own_treaties.b .nil pass0 (pa_cons (pe_fld (pv 0) rfl) (pa_cons (pv 1) pa_nil)))) (blkOk_by (own := [("number", 3), ("event", 4)]) (N := (["self", "insurer", "keys", "number", "event"] : List Str)) (sc := defScope s_Post_resend) (by decide +kernel)) (by decide) (fun _ _ _ _ _ => (pg_name (i := 3) sc_Post_resend.nd rfl (by first | exact Or.inl rfl | exact Or.inr rfl))) (fun _ _ _ _ _ => pts_nil) (fun _ _ _ _ _ => (pi_tupK (K := K) rfl (pe_fldK (K := K) rfl (pe_fldK (K := K) rfl (pv 0) rfl) rfl))) (fun _ _ _ _ _ => (pg_name (i := 4) sc_Post_resend.nd rfl (by first | exact Or.inl rfl | exact Or.inr rfl))) (fun _ _ _ _ _ => (pts_one (pt_cmp (pc_din (hu_of hr) (pe_tup (pa_cons (pv 3) (pa_cons (pv 4) pa_nil))) (pe_fldK (K := K) rfl (pv 0) rfl))))) (fun _ _ _ _ _ => (pe_tup (pa_cons (pv 3) (pa_cons (pv 4) pa_nil)))))
      (pss_one (ps_ret (pe_meth (pv 0) T.cl_Post D_Post__enter.m G_Post__enter (hr.mono (by first | decide | omega)) D_Post__enter.b .nil (passes_call (takes_of rfl rfl rfl rfl) (fun _ _ _ _ h => h)) (pa_cons (pv 2) (pa_cons (pe_fld (pv 0) rfl) pa_nil))))))), ?_⟩
  obtain ⟨dx, au, al, ar, ap, h0, ⟨zs, h1, h2⟩, h3, ⟨kl, h4, h5⟩, h6, h8, h9⟩ := id hP
  obtain ⟨dy, ai, ae, at', ad, g0, g1, g2, g3, g4, g5⟩ := id hM
  refine ⟨_, rfl, _, rfl, p, C_Post, dx, _, _, rfl, h0, T.cl_Post, T.no_Post_market, pf_m, m, C_Market, dy, _, _, rfl, g0, T.cl_Market, T.no_Market_insurers, mf_i, z, ai, M.ins, rfl, g1, ?_⟩
  rcases (show (z ∉ M.ins ∧ _) ∨ (z ∈ M.ins ∧ ((2000 < P.nts.length + (reN M P z).length ∧ _) ∨ (P.nts.length + (reN M P z).length ≤ 2000 ∧ _))) from h.imp id fun h => h.elim (fun h => ⟨h.1, .inl h.2⟩) fun h => ⟨h.1, .inr h.2⟩) with ⟨hz, q⟩ | ⟨hz, h⟩
  · exact .inr ⟨hz, fun d nd => q d _ (same_new nd) upd_same⟩
  refine .inl ⟨hz, ?_⟩
  have tl := hok.tl
  have rl := re_len hok P z
  refine ⟨_, rfl, p, C_Post, dx, _, _, rfl, h0, T.cl_Post, T.no_Post_market, pf_m, _, rfl, m, M, z, rfl, hM, by omega, fun o H1 s1 no ho => ?_⟩
  obtain ⟨ow, how⟩ : ∃ ow, ownN z 0 M.trs = ow := ⟨_, rfl⟩
  rw [how] at ho
  have olen : ow.length ≤ 16 := by
    rw [← how]
    exact Nat.le_trans (ownN_len z M.trs 0) tl
  obtain ⟨fk, hfk⟩ : ∃ fk : Nat → List (Nat × Str), (fun n => (M.evs.filter fun e => (getL P.last (n, e)).isSome).map fun e => (n, e)) = fk := ⟨_, rfl⟩
  have fk3 : ∀ n, (fk n).length ≤ 3 := fun n => by
    rw [← hfk]
    show (List.map _ _).length ≤ 3
    rw [List.length_map]
    exact Nat.le_trans (List.length_filter_le _ _) hok.el
  have rk : reKeys M P z = ow.flatMap fk := by
    unfold reKeys
    rw [how, hfk]
  refine ⟨o, rfl, ⟨_, SqL.of ho⟩, fun D nD => lc2_out (walk_list (K := K) (a := o) (xs := natV ow)) (fun i H' => Same H1 H' ∧ ∃ ws, H' D = some (.lst ws) ∧ AllAt (KyAt K) H' ws ((ow.take i).flatMap fk)) ⟨same_new nD, [], upd_same, .nil⟩ (fun i H' _ z => SqL.of (z.1 _ _ ho)) ?_ ?_⟩
  · rintro i v H2 H3 hi ⟨s2, ws, hD, hw⟩ ⟨rfl, hv⟩
    unfold natV at hv
    rw [List.getElem?_map] at hv
    obtain ⟨n, hn, rfl⟩ := Option.map_eq_some_iff.mp hv
    have st := fl_step fk hn
    have bd := flat_len fk 3 (ow.take i) fun x _ => fk3 x
    rw [List.length_take] at bd
    generalize hw0 : wipe _ _ = w0
    have ew : w0 = [some (.ref p), some (.str z), none, none, none] := by
      rw [← hw0]
      kernel_rfl
    clear hw0
    subst ew
    have s12 := s1.trans s2
    refine ⟨by kernel_rfl, _, rfl, p, C_Post, dx, _, _, rfl, s12 _ _ h0, T.cl_Post, T.no_Post_market, pf_m, m, C_Market, dy, _, _, rfl, s12 _ _ g0, T.cl_Market, T.no_Market_events, mf_e, ae, rfl, ⟨_, same_sqt s12 g2⟩, lc2_in (walk_tup (K := K) (a := ae) (xs := M.evs.map V.str)) (fun j H' => Same H1 H' ∧ ∃ ws, H' D = some (.lst ws) ∧ AllAt (KyAt K) H' ws ((ow.take i).flatMap fk ++ ((M.evs.take j).filter fun e => (getL P.last (n, e)).isSome).map fun e => (n, e))) ⟨s2, ws, hD, by rw [List.take_zero]; exact (List.append_nil _).symm ▸ hw⟩ (fun j H' _ z => same_sqt (s1.trans z.1) g2) ?_ ?_⟩
    · rintro j v4 H4 H5 hj ⟨s4, ws4, hD4, hw4⟩ ⟨rfl, hv4⟩
      obtain ⟨e, rfl, he⟩ := of_at_str hv4
      have hjl := (List.getElem?_eq_some_iff.mp he).1
      generalize hw0 : wipe _ _ = w0
      have ew : w0 = [some (.ref p), some (.str z), none, some (.int (n : Int)), none] := by
        rw [← hw0]
        kernel_rfl
      clear hw0
      subst ew
      refine ⟨by kernel_rfl, _, rfl, _, rfl, sz (by show 2 ≤ 100000; decide), fun kb nkb => ?_⟩
      have s5 := same_new (o := .tup [.int (n : Int), .str e]) nkb
      have s15 := s1.trans (s4.trans s5)
      have fs := fi_step (fun e => (getL P.last (n, e)).isSome) he
      have wl := hw4.1
      have fl2 : ((M.evs.take j).filter fun e => (getL P.last (n, e)).isSome).length ≤ 3 := Nat.le_trans (List.length_filter_le _ _) (by rw [List.length_take]; have := hok.el; omega)
      rw [List.length_append, List.length_map] at wl
      refine ⟨_, rfl, p, C_Post, dx, _, _, rfl, s15 _ _ h0, T.cl_Post, T.no_Post_last, pf_l, al, _, rfl, .inr ⟨kl, kfL (n, e), kb, .inl (s15 _ _ h4), rfl, upd_same, rfl⟩, _, rfl, ?_⟩
      have hD5 := s5 _ _ hD4
      have hw5 := AllAt.same (R := KyAt K) (fun e r => KyAt.same e r) s5 hw4
      rcases Kv.get kfL_inj (n, e) h5 with ⟨q1, q2⟩ | ⟨a, w, q1, q2, _⟩
      · rw [q2]
        refine iteF ⟨s4.trans s5, ws4, hD5, ?_⟩
        rw [fs, q1]
        exact (List.append_nil (List.filter _ _)).symm ▸ hw5
      · rw [q2]
        refine iteT ⟨_, rfl, _, rfl, sz (by show 2 ≤ 100000; decide), fun t2 nt2 => ?_⟩
        have s6 := same_new (o := .tup [.int (n : Int), .str e]) nt2
        have hD6 := s6 _ _ hD5
        refine ⟨ws4, hD6, szl (by omega), same_put ((s4.trans s5).trans s6) nD, _, upd_same, ?_⟩
        rw [fs, q1, if_pos (show (some a).isSome = true from rfl), List.map_append, ← List.append_assoc]
        refine AllAt.imp (S := KyAt K) (AllAt.add (AllAt.same (R := KyAt K) (fun e r => KyAt.same e r) s6 hw5) (⟨t2, rfl, SqT.of upd_same⟩ : KyAt K _ (.ref t2) (n, e))) fun y l ⟨t3, e1, e2⟩ => ⟨t3, e1, sqt_put hD6 e2⟩
    · rintro H4 ⟨s4, ws4, hD4, hw4⟩
      rw [List.length_map, List.take_of_length_le (Nat.le_refl _)] at hw4
      refine ⟨s4, ws4, hD4, ?_⟩
      rw [st, ← hfk]
      rw [← hfk] at hw4
      exact hw4
  rintro H2 ⟨s2, ws, hD, hw⟩
  have nl : (natV ow).length = ow.length := List.length_map ..
  rw [nl, List.take_of_length_le (Nat.le_refl _), ← rk] at hw
  dsimp only
  refine nx_to ?_
  generalize hw0 : List.set _ _ _ = w0
  have ew : w0 = [some (.ref p), some (.str z), some (.ref D), none, none] := by
    rw [← hw0]
    kernel_rfl
  clear hw0
  subst ew
  have s02 := s1.trans s2
  have k0 := s02 _ _ h0
  have nDa : D ≠ an := fun e => by
    have := s1 _ _ h1
    rw [← e, nD] at this
    cases this
  refine ⟨_, rfl, p, dx, _, rfl, k0, pf_no (by decide +kernel), _, rfl, _, rfl, p, C_Post, dx, _, _, rfl, k0, T.cl_Post, T.no_Post_last, pf_l, p, m, an, D, al, k, M, P, P.last, _, ws, rfl, PostAt.same s02 hP, MktAt.same s02 hM, hok, hpt.len, hD, nDa, hw, ⟨kl, s02 _ _ h4, h5.imp fun _ _ => SqAt.same s02⟩, rl, fun x hx => ⟨own_lt (re_mem hx).1, (re_mem hx).2.2⟩, ?_⟩
  rcases h with ⟨hb, q⟩ | ⟨hb, q⟩
  · exact .inl ⟨hb, fun H5 s5 => q H5 (s02.trans s5)⟩
  · exact .inr ⟨hb, fun tt a2 k2 H5 b5 nw hkx hP5 ht => q tt a2 k2 H5 (bar2_trans (bar2_of s02) b5) ⟨nw.1, nw.2.imp id fun ⟨e1, e2⟩ => ⟨e1, s02.free e2⟩⟩ (kx_pre s02 h0 hkx) hP5 ht⟩

theorem ok_Post_deliver {f : Addr} {fd : FuncData} (D_Post_deliver : Mth K C_Post "deliver" "Post.deliver" s_Post_deliver ["self", "number"] f fd) (T : Tx K mg C_BadName C_BadCover C_BadPanel C_BadAmount C_NameTaken C_NoSuchName C_NoSuchNotice C_Twice C_OwnPanel C_TooMany C_NoEnd C_Post C_Market N_NOTHING) {f_Post_notice : Addr} {fd_Post_notice : FuncData} (D_Post_notice : Mth K C_Post "notice" "Post.notice" s_Post_notice ["self", "number"] f_Post_notice fd_Post_notice) (G_Post_notice : FnOk P w K mg base (L2.CX P w) (3) f_Post_notice fd_Post_notice ["self", "number"] (sp_notice K C_Post C_NoSuchNotice)) {f_Post__received_sequence : Addr} {fd_Post__received_sequence : FuncData} (D_Post__received_sequence : Mth K C_Post "_received_sequence" "Post._received_sequence" s_Post__received_sequence ["self", "recipient", "number", "event"] f_Post__received_sequence fd_Post__received_sequence) (G_Post__received_sequence : FnOk P w K mg base CX0 (1) f_Post__received_sequence fd_Post__received_sequence ["self", "recipient", "number", "event"] (sp_received_sequence K C_Post)) {f_copied : Addr} {fd_copied : FuncData} (D_copied : Dfn K mg "copied" s_copied ["table"] f_copied fd_copied) (G_copied : FnOk P w K mg base CX0 (1) f_copied fd_copied ["table"] (sp_copied K)) :
    FnOk P w K mg base (L2.CX P w) (4) f fd ["self", "number"] (sp_deliver K C_Post C_NoSuchNotice) := by
  refine D_Post_deliver.F.okX sc_Post_deliver (fun vs H Q E h => ?_) (fun cdv A outer s H vs Q E hr h => ?_)
  · obtain ⟨p, m, an, k, M, P, x, rfl, hP, hok, hpt, h⟩ := h
    rfl
  obtain ⟨p, m, an, k, M, P, x, rfl, hP, hok, hpt, h⟩ := h
  refine ⟨_, (pss_cons (ps_asg (pe_meth (pv 0) T.cl_Post D_Post_notice.m G_Post_notice (hr.mono (by first | decide | omega)) D_Post_notice.b .nil (passes_call (takes_of rfl rfl rfl rfl) (fun _ _ _ _ h => h)) (pa_cons (pv 1) pa_nil)) (pg_tup rfl (pgs_cons (pg_name (i := 2) sc_Post_deliver.nd rfl (by first | exact Or.inl rfl | exact Or.inr rfl)) (pgs_cons (pg_name (i := 3) sc_Post_deliver.nd rfl (by first | exact Or.inl rfl | exact Or.inr rfl)) (pgs_cons (pg_name (i := 4) sc_Post_deliver.nd rfl (by first | exact Or.inl rfl | exact Or.inr rfl)) (pgs_cons (pg_name (i := 5) sc_Post_deliver.nd rfl (by first | exact Or.inl rfl | exact Or.inr rfl)) (pgs_cons (pg_name (i := 6) sc_Post_deliver.nd rfl (by first | exact Or.inl rfl | exact Or.inr rfl)) pgs_nil)))))))
      (pss_cons (ps_if (pt_cmpR op_le (pv 5) (pe_meth (pv 0) T.cl_Post D_Post__received_sequence.m G_Post__received_sequence (hr.mono (by first | decide | omega)) D_Post__received_sequence.b .nil pass0 (pa_cons (pv 2) (pa_cons (pv 3) (pa_cons (pv 4) pa_nil)))) (nomark _))
      (pss_one (ps_ret pe_bl))
      pss_nil)
      (pss_cons (ps_set (i := 7) sc_Post_deliver.nd rfl (by first | exact Or.inl rfl | exact Or.inr rfl) (pe_call G_copied (hr.mono (by first | decide | omega)) rfl D_copied.m D_copied.F.kp D_copied.b .nil pass0 (pa_cons (pe_fld (pv 0) rfl) pa_nil)))
      (pss_cons (ps_dput (hu_of hr) (pv 7) (pe_tup (pa_cons (pv 2) (pa_cons (pv 3) (pa_cons (pv 4) pa_nil)))) (pe_tup (pa_cons (pv 5) (pa_cons (pv 6) pa_nil))) rfl)
      (pss_cons (ps_fld (pv 0) (pv 7) rfl)
      (pss_one (ps_ret pe_bl))))))), ?_⟩
  obtain ⟨dx, au, al, ar, ap, h0, ⟨ys, h1, h2⟩, h3, h4, ⟨kr, h6, h7⟩, h8, h9⟩ := id hP
  refine ⟨_, rfl, p, dx, _, rfl, h0, pf_no (by decide +kernel), _, rfl, p, m, an, k, P, x, rfl, hP, ?_⟩
  rcases h with ⟨hn, q⟩ | ⟨c, hc, q⟩
  · exact .inl ⟨hn, q⟩
  refine .inr ⟨c, hc, fun v hv => ?_⟩
  obtain ⟨t, b, rfl, hS, hs⟩ := hv
  refine ⟨t, _, rfl, hS, rfl, _, _, rfl, _, _, rfl, _, _, rfl, _, _, rfl, _, _, rfl, rfl, ?_⟩
  refine ⟨_, rfl, _, rfl, p, dx, _, rfl, h0, pf_no (by decide +kernel), _, rfl, _, rfl, _, rfl, p, m, an, k, P, c.z, c.n, c.e, rfl, hP, fun H1 s1 => ⟨_, _, rfl, rfl, _, rfl, ?_⟩⟩
  by_cases le : c.q ≤ (recvOf P c.z c.n c.e).1
  · have e : dlvP P c = P := if_pos le
    rw [e, decide_eq_true le] at q
    rw [decide_eq_true le]
    exact iteT (q H1 (Bar.of s1) (kx_keep h0 (s1 _ _ h0)) (PostAt.same s1 hP))
  have e : dlvP P c = { P with recv := putL P.recv (c.z, c.n, c.e) (c.q, c.s) } := if_neg le
  rw [e, decide_eq_false le] at q
  rw [decide_eq_false le]
  have hrl := hpt.rlen hok
  have hkl := h7.len
  refine iteF ⟨_, rfl, p, C_Post, dx, _, _, rfl, s1 _ _ h0, T.cl_Post, T.no_Post_received, pf_r, ar, kr, rfl, s1 _ _ h6, h7.nodup kfR_inj hpt.rnd, by omega, fun D H2 s2 nD hD => ?_⟩
  have s02 := s1.trans s2
  refine ⟨_, rfl, _, rfl, sz (by show 2 ≤ 100000; decide), fun t2 nt2 => ?_⟩
  have s3 := same_new (o := .tup [.int c.q, .ref b]) nt2
  refine ⟨_, rfl, _, rfl, _, rfl, _, rfl, sz (by show 3 ≤ 100000; decide), fun kb nkb => ?_⟩
  have s4 := same_new (o := .tup [.str c.z, .int (c.n : Int), .str c.e]) nkb
  have s24 := s3.trans s4
  have s04 := s02.trans s24
  have hD4 := s24 _ _ hD
  refine ⟨D, _, rfl, .inr ⟨kr, kfR (c.z, c.n, c.e), kb, hD4, rfl, upd_same, szl (by omega), rfl⟩, ?_⟩
  obtain ⟨H5, e5⟩ : ∃ H5, upd (upd (upd H2 t2 (.tup [.int c.q, .ref b])) kb (.tup [.str c.z, .int (c.n : Int), .str c.e])) D (.dT (putK kr (kfR (c.z, c.n, c.e)) (.ref t2))) = H5 := ⟨_, rfl⟩
  have s05 : Same H H5 := by
    rw [← e5]
    exact same_put s04 (s1.free nD)
  have hD5 : H5 D = some (.dT (putK kr (kfR (c.z, c.n, c.e)) (.ref t2))) := by
    rw [← e5]
    exact upd_same
  have ht5 : H5 t2 = some (.tup [.int c.q, .ref b]) := by
    have := s4 _ _ (upd_same (H := H2) (a := t2) (o := .tup [.int c.q, .ref b]))
    rw [← e5, upd_ne (ne_of_none hD nt2).symm]
    exact this
  rw [e5]
  clear e5
  refine ⟨_, rfl, _, rfl, p, C_Post, dx, _, rfl, s05 _ _ h0, T.cl_Post, T.no_Post_received, by show 7 < 1000; decide, ?_⟩
  rw [pf_pr]
  have nw : RcAt K H5 D (putL P.recv (c.z, c.n, c.e) (c.q, c.s)) := ⟨_, hD5, Kv.put kfR_inj ⟨t2, b, rfl, SqT.of ht5, hs.same s05⟩ hpt.rnd (h7.imp fun _ _ => SqAt.same s05)⟩
  exact q _ (Bar.put (Bar.of s05)) (kx_of h0 upd_same ⟨.inl rfl, .inr (s1.free nD), .inl rfl⟩) (post_ins (P := { P with recv := putL P.recv (c.z, c.n, c.e) (c.q, c.s) }) (s05 _ _ h0) (s05 _ _ h1) (h2.same (fun e r => NtAt.same e r) s05) (h3.same s05) (LsAt.same s05 h4) nw (s05 _ _ h8) h9)

theorem ok_Post_drop {f : Addr} {fd : FuncData} (D_Post_drop : Mth K C_Post "drop" "Post.drop" s_Post_drop ["self", "number"] f fd) (T : Tx K mg C_BadName C_BadCover C_BadPanel C_BadAmount C_NameTaken C_NoSuchName C_NoSuchNotice C_Twice C_OwnPanel C_TooMany C_NoEnd C_Post C_Market N_NOTHING) {f_Post_notice : Addr} {fd_Post_notice : FuncData} (D_Post_notice : Mth K C_Post "notice" "Post.notice" s_Post_notice ["self", "number"] f_Post_notice fd_Post_notice) (G_Post_notice : FnOk P w K mg base (L2.CX P w) (3) f_Post_notice fd_Post_notice ["self", "number"] (sp_notice K C_Post C_NoSuchNotice)) {f_Post__take_notices : Addr} {fd_Post__take_notices : FuncData} (D_Post__take_notices : Mth K C_Post "_take_notices" "Post._take_notices" s_Post__take_notices ["self"] f_Post__take_notices fd_Post__take_notices) (G_Post__take_notices : FnOk P w K mg base CX0 (1) f_Post__take_notices fd_Post__take_notices ["self"] (sp_take_notices K C_Post)) :
    FnOk P w K mg base (L2.CX P w) (4) f fd ["self", "number"] (sp_drop K C_Post C_NoSuchNotice) := by
  refine D_Post_drop.F.okX sc_Post_drop (fun vs H Q E h => ?_) (fun cdv A outer s H vs Q E hr h => ?_)
  · obtain ⟨p, m, an, k, P, x, rfl, hP, hlen, h⟩ := h
    rfl
  obtain ⟨p, m, an, k, P, x, rfl, hP, hlen, h⟩ := h
  refine ⟨_, (pss_cons (ps_expr (pe_meth (pv 0) T.cl_Post D_Post_notice.m G_Post_notice (hr.mono (by first | decide | omega)) D_Post_notice.b .nil (passes_call (takes_of rfl rfl rfl rfl) (fun _ _ _ _ h => h)) (pa_cons (pv 1) pa_nil)))
      (pss_cons (ps_set (i := 2) sc_Post_drop.nd rfl (by first | exact Or.inl rfl | exact Or.inr rfl) (pe_bmT PySem.F.slot_tuple_index PySem.F.type_tuple_index mt_tup_indexI (pe_fld (pv 0) rfl) (pa_cons (pv 1) pa_nil)))
      (pss_cons (ps_fld (pv 0) (pe_op op_catZ (pe_slice sl_tupZ (pe_fld (pv 0) rfl) po_none (po_some (pv 2))) (pe_slice sl_tupZ (pe_fld (pv 0) rfl) (po_some (pe_op op_add (pv 2) pe_int)) po_none)) rfl)
      (pss_cons (ps_expr (pe_meth0 (pv 0) T.cl_Post D_Post__take_notices.m G_Post__take_notices (hr.mono (by first | decide | omega)) D_Post__take_notices.b .nil pass0))
      (pss_one (ps_asg pe_non (pg_sub (pe_fld (pv 0) rfl) (pe_op op_sub (pv 1) pe_int) set_list))))))), ?_⟩
  obtain ⟨dx, au, al, ar, ap, h0, ⟨ys, h1, h2⟩, h3, h4, h6, h8, h9⟩ := id hP
  have hyl := h2.1
  refine ⟨_, rfl, p, dx, _, rfl, h0, pf_no (by decide +kernel), _, rfl, p, m, an, k, P, x, rfl, hP, ?_⟩
  rcases h with ⟨hn, q⟩ | ⟨c, hc, q⟩
  · exact .inl ⟨hn, q⟩
  refine .inr ⟨c, hc, fun v hv => ?_⟩
  clear hv
  obtain ⟨x1, ho⟩ := ntAt_of hc
  obtain ⟨i, hi, hno, hdr⟩ := leftF_drop 1 ho
  have ex : ((1 : Nat) : Int) + (((x - 1).toNat : Nat) : Int) = x := by omega
  rw [ex] at hi hno
  have hi : (leftOf P)[i]? = some x := hi
  have hll := leftF_len P.nts 1
  have hll : (leftOf P).length ≤ P.nts.length := hll
  have tf : TupF H au ((leftOf P).map V.int) := h3.2.get fun z => by
    have := at_map hi
    rw [z] at this
    cases this
  refine ⟨_, rfl, p, C_Post, dx, _, _, rfl, h0, T.cl_Post, T.no_Post_numbers, pf_u, ⟨au, _, rfl, tf⟩, _, rfl, au, leftOf P, x, i, rfl, rfl, h3.1, hi, hno, ?_⟩
  refine ⟨_, rfl, p, C_Post, dx, _, _, rfl, h0, T.cl_Post, T.no_Post_numbers, pf_u, _, rfl, _, rfl, au, _, rfl, h3, fun p1 H1 s1 z1 => ?_⟩
  refine ⟨_, rfl, p, C_Post, dx, _, _, rfl, s1 _ _ h0, T.cl_Post, T.no_Post_numbers, pf_u, _, rfl, _, _, rfl, rfl, _, rfl, au, _, rfl, h3.same s1, fun p2 H2 s2 z2 => ?_⟩
  rw [cut_to] at z1
  rw [cut_frm] at z2
  refine ⟨p1, p2, _, _, rfl, rfl, z1.same s2, z2, ?_, fun p3 H3 s3 z3 => ?_⟩
  · rw [List.length_take, List.length_drop, List.length_map]
    exact sz (by omega)
  have s03 := (s1.trans s2).trans s3
  have zl : FzT K H3 p3 ((leftOf (dropP P x)).map V.int) := by
    have e : leftOf (dropP P x) = (leftOf P).take i ++ (leftOf P).drop (i + 1) := hdr
    rw [e, List.map_append, List.map_take, List.map_drop]
    exact z3
  have k0 := s03 _ _ h0
  have k1 := s03 _ _ h1
  have npn : p ≠ an := fun z => by
    rw [← z, k0] at k1
    cases k1
  have hj : (x - 1).toNat < ys.length := by
    rw [hyl]
    exact (List.getElem?_eq_some_iff.mp ho).1
  refine ⟨_, rfl, p, C_Post, dx, _, rfl, k0, T.cl_Post, T.no_Post_numbers, by show 7 < 1000; decide, ?_⟩
  rw [pf_pu]
  obtain ⟨H4, e4⟩ : ∃ H4, upd H3 p (.ins C_Post dx (pf m an k p3 al ar ap)) = H4 := ⟨_, rfl⟩
  have j0 : H4 p = some (.ins C_Post dx (pf m an k p3 al ar ap)) := by rw [← e4]; exact upd_same
  have j1 : H4 an = some (.lst ys) := by rw [← e4, upd_ne npn.symm]; exact k1
  have b4 : Bar p H3 H4 := by rw [← e4]; exact Bar.put (Bar.refl H3)
  rw [e4]
  clear e4
  refine ⟨_, rfl, p, dx, _, rfl, j0, pf_no (by decide +kernel), p, dx, m, an, p3, al, ar, ap, k, ys, rfl, j0, j1, by omega, fun ek => ?_, fun ek a2 na2 => ?_⟩
  · subst ek
    refine ⟨_, rfl, p, C_Post, dx, _, _, rfl, j0, T.cl_Post, T.no_Post_notices, pf_n, _, rfl, _, _, rfl, rfl, an, ys, _, (x - 1).toNat, rfl, rfl, j1, ?_, ?_⟩
    · rw [show x - 1 = ((x - 1).toNat : Int) by omega]
      exact ixN_n hj
    have b6 : Bar2 p an H3 (upd H4 an (.lst (ys.set (x - 1).toNat .non))) := bar2_put2 (bar2_bar b4)
    have ha : ∀ u, H3 an = some u → ∃ xs, u = .lst xs := fun u hu => by
      rw [k1] at hu
      exact ⟨ys, (Option.some.inj hu).symm⟩
    have tu := tups_bar2 k0 ha b6
    refine q an false _ (bar2_trans (bar2_of s03) b6) ⟨rfl, .inl ⟨rfl, rfl⟩⟩ (kx_of h0 (by rw [upd_ne npn]; exact j0) ⟨.inl rfl, .inl rfl, .inl rfl⟩) (post_by k0 ha b6 (by rw [upd_ne npn]; exact j0) upd_same ?_ zl (LsAt.same s03 h4) (RcAt.same s03 h6) (s03 _ _ h8) h9)
    exact AllAt.set (AllAt.imp (S := NtAt K) (AllAt.same (R := NtAt K) (fun e r => NtAt.same e r) s03 h2) fun _ _ => tu.nt) rfl
  · subst ek
    have na3 : H3 a2 = none := Bar.free b4 (fun z => by rw [z, j0] at na2; cases na2) na2
    have npa : p ≠ a2 := ne_of_none j0 na2
    have g0 : upd (upd H4 a2 (.lst ys)) p (.ins C_Post dx (pf m a2 false p3 al ar ap)) p = some (.ins C_Post dx (pf m a2 false p3 al ar ap)) := upd_same
    have g1 : upd (upd H4 a2 (.lst ys)) p (.ins C_Post dx (pf m a2 false p3 al ar ap)) a2 = some (.lst ys) := by rw [upd_ne npa.symm, upd_same]
    have b5 : Bar2 p a2 H3 (upd (upd H4 a2 (.lst ys)) p (.ins C_Post dx (pf m a2 false p3 al ar ap))) := bar2_put (bar2_put2 (bar2_bar b4))
    obtain ⟨H5, e5⟩ : ∃ H5, upd (upd H4 a2 (.lst ys)) p (.ins C_Post dx (pf m a2 false p3 al ar ap)) = H5 := ⟨_, rfl⟩
    rw [e5] at g0 g1 b5 ⊢
    clear e5
    refine ⟨_, rfl, p, C_Post, dx, _, _, rfl, g0, T.cl_Post, T.no_Post_notices, pf_n, _, rfl, _, _, rfl, rfl, a2, ys, _, (x - 1).toNat, rfl, rfl, g1, ?_, ?_⟩
    · rw [show x - 1 = ((x - 1).toNat : Int) by omega]
      exact ixN_n hj
    have b6 : Bar2 p a2 H3 (upd H5 a2 (.lst (ys.set (x - 1).toNat .non))) := bar2_put2 b5
    have ha : ∀ u, H3 a2 = some u → ∃ xs, u = .lst xs := fun u hu => by
      rw [na3] at hu
      cases hu
    have tu := tups_bar2 k0 ha b6
    refine q a2 false _ (fun b u n1 n2 hb => b6 b u n1 (fun z => ?_) (s03 _ _ hb)) ⟨rfl, .inr ⟨rfl, s03.free na3⟩⟩ (kx_of h0 (by rw [upd_ne npa]; exact g0) ⟨.inl rfl, .inl rfl, .inl rfl⟩) (post_by k0 ha b6 (by rw [upd_ne npa]; exact g0) upd_same ?_ zl (LsAt.same s03 h4) (RcAt.same s03 h6) (s03 _ _ h8) h9)
    · have := s03 _ _ hb
      rw [z, na3] at this
      cases this
    · exact AllAt.set (AllAt.imp (S := NtAt K) (AllAt.same (R := NtAt K) (fun e r => NtAt.same e r) s03 h2) fun _ _ => tu.nt) rfl

theorem ok_Post_notice {f : Addr} {fd : FuncData} (D_Post_notice : Mth K C_Post "notice" "Post.notice" s_Post_notice ["self", "number"] f fd) (T : Tx K mg C_BadName C_BadCover C_BadPanel C_BadAmount C_NameTaken C_NoSuchName C_NoSuchNotice C_Twice C_OwnPanel C_TooMany C_NoEnd C_Post C_Market N_NOTHING) {f_is_between : Addr} {fd_is_between : FuncData} (D_is_between : Dfn K mg "is_between" s_is_between ["value", "low", "high"] f_is_between fd_is_between) (G_is_between : FnOk P w K mg base CX0 (1) f_is_between fd_is_between ["value", "low", "high"] (sp_is_between K)) {f_NoSuchNotice___init : Addr} {fd_NoSuchNotice___init : FuncData} (D_NoSuchNotice___init : Ini K C_NoSuchNotice "NoSuchNotice.__init__" s_NoSuchNotice___init ["self", "number"] f_NoSuchNotice___init fd_NoSuchNotice___init) (G_NoSuchNotice___init : FnOk P w K mg base CX0 (1) f_NoSuchNotice___init fd_NoSuchNotice___init ["self", "number"] (sp_xi "number" C_NoSuchNotice)) :
    FnOk P w K mg base (L2.CX P w) (3) f fd ["self", "number"] (sp_notice K C_Post C_NoSuchNotice) := by
  refine D_Post_notice.F.okX sc_Post_notice (fun vs H Q E h => ?_) (fun cdv A outer s H vs Q E hr h => ?_)
  · obtain ⟨p, m, an, k, P, x, rfl, hP, h⟩ := h
    rfl
  obtain ⟨p, m, an, k, P, x, rfl, hP, h⟩ := h
  refine ⟨_, (pss_cons (ps_if (PW.pt (pw_or (pt_not (pt_val (pe_call G_is_between (hr.mono (by first | decide | omega)) rfl D_is_between.m D_is_between.F.kp D_is_between.b .nil pass0 (pa_cons (pv 1) (pa_cons pe_int (pa_cons (pe_callB call_len_seq (by rfl) T.len PySem.boot_len (pa_cons (pe_fld (pv 0) rfl) pa_nil)) pa_nil)))))) (pw_or1 (pt_cmpR op_isN (pe_ix (r := rIxL K) ix_list (pe_fld (pv 0) rfl) (pe_op op_sub (pv 1) pe_int) (fun _ _ => rfl)) pe_non (nomark _)))))
      (pss_one (ps_raise rfl (takes_of rfl rfl rfl rfl) (pmk_oex T.ox_NoSuchNotice.o D_NoSuchNotice___init.i D_NoSuchNotice___init.t G_NoSuchNotice___init (hr.mono (by first | decide | omega)) D_NoSuchNotice___init.b .nil pass0 rfl T.ox_NoSuchNotice.g (pa_cons (pv 1) pa_nil))))
      pss_nil)
      (pss_one (ps_ret (pe_ix (r := rIxL K) ix_list (pe_fld (pv 0) rfl) (pe_op op_sub (pv 1) pe_int) (fun _ _ => rfl))))), ?_⟩
  obtain ⟨dx, au, al, ar, ap, h0, ⟨ys, h1, h2⟩, _⟩ := id hP
  have hyl := h2.1
  refine ⟨_, rfl, _, rfl, p, C_Post, dx, _, _, rfl, h0, T.cl_Post, T.no_Post_notices, pf_n, an, _, rfl, .inl (SqL.of h1), .int x, 1, _, rfl, ty_flat rfl, _, rfl, ?_⟩
  by_cases hb : 1 ≤ x ∧ x ≤ (ys.length : Int)
  · have e : btw (.int x) 1 (ys.length : Int) = true := by
      show (decide (1 ≤ x) && decide (x ≤ (ys.length : Int))) = true
      rw [decide_eq_true hb.1, decide_eq_true hb.2]
      rfl
    rw [e]
    obtain ⟨o, ho⟩ : ∃ o, P.nts[(x - 1).toNat]? = some o := ⟨_, List.getElem?_eq_getElem (by omega)⟩
    obtain ⟨v, hat, r⟩ := nt_val h2 hb.1 ho
    have en := ntAt_in hb.1 ho
    refine iteF ⟨_, rfl, p, C_Post, dx, _, _, rfl, h0, T.cl_Post, T.no_Post_notices, pf_n, _, rfl, _, _, rfl, rfl, an, ys, _, v, rfl, rfl, SqL.of h1, hat, rfl, _, rfl, ?_⟩
    cases o with
    | none =>
      have ev : v = .non := r
      rw [decide_eq_true ev]
      rcases h with ⟨_, q⟩ | ⟨c, hc, _⟩
      · exact iteT ⟨_, rfl, mkO_to fun d nd => q d _ (same_new nd) upd_same⟩
      · rw [en] at hc
        cases hc
    | some c =>
      obtain ⟨t, b, ev, hS, hs⟩ := id r
      rw [decide_eq_false (by rw [ev]; exact fun z => (nomatch z))]
      rcases h with ⟨hn, _⟩ | ⟨d, hd, q⟩
      · rw [en] at hn
        cases hn
      · rw [en] at hd
        cases hd
        exact iteF ⟨_, rfl, p, C_Post, dx, _, _, rfl, h0, T.cl_Post, T.no_Post_notices, pf_n, _, rfl, _, _, rfl, rfl, an, ys, _, v, rfl, rfl, SqL.of h1, hat, q v r⟩
  · have e : btw (.int x) 1 (ys.length : Int) = false := by
      show (decide (1 ≤ x) && decide (x ≤ (ys.length : Int))) = false
      rw [← Bool.decide_and]
      exact decide_eq_false hb
    rw [e]
    rcases h with ⟨_, q⟩ | ⟨c, hc, _⟩
    · exact iteT ⟨_, rfl, mkO_to fun d nd => q d _ (same_new nd) upd_same⟩
    · rw [ntAt_out (by omega)] at hc
      cases hc

theorem ok_Post_estimated {f : Addr} {fd : FuncData} (D_Post_estimated : Mth K C_Post "estimated" "Post.estimated" s_Post_estimated ["self", "event", "insurer"] f fd) (T : Tx K mg C_BadName C_BadCover C_BadPanel C_BadAmount C_NameTaken C_NoSuchName C_NoSuchNotice C_Twice C_OwnPanel C_TooMany C_NoEnd C_Post C_Market N_NOTHING) {f_check_names : Addr} {fd_check_names : FuncData} (D_check_names : Dfn K mg "check_names" s_check_names ["market", "event", "insurer"] f_check_names fd_check_names) (G_check_names : FnOk P w K mg base (L2.CX P w) (4) f_check_names fd_check_names ["market", "event", "insurer"] (sp_check_names K C_Market C_NoSuchName)) {f_estimated_schedule : Addr} {fd_estimated_schedule : FuncData} (D_estimated_schedule : Dfn K mg "estimated_schedule" s_estimated_schedule ["market", "received", "event", "insurer"] f_estimated_schedule fd_estimated_schedule) (G_estimated_schedule : FnOk P w K mg base CX0 (5) f_estimated_schedule fd_estimated_schedule ["market", "received", "event", "insurer"] (sp_estimated_schedule K C_Market)) :
    FnOk P w K mg base (L2.CX P w) (6) f fd ["self", "event", "insurer"] (sp_estimated K C_Post C_Market C_NoSuchName) := by
  refine D_Post_estimated.F.okX sc_Post_estimated (fun vs H Q E h => ?_) (fun cdv A outer s H vs Q E hr h => ?_)
  · obtain ⟨p, m, an, k, M, P, e, z, rfl, hP, hM, hok, hpt, h⟩ := h
    rfl
  obtain ⟨p, m, an, k, M, P, e, z, rfl, hP, hM, hok, hpt, h⟩ := h
  refine ⟨_, (pss_cons (ps_expr (pe_call G_check_names (hr.mono (by first | decide | omega)) rfl D_check_names.m D_check_names.F.kp D_check_names.b .nil (passes_call (takes_of rfl rfl rfl rfl) (fun _ _ _ _ h => h)) (pa_cons (pe_fld (pv 0) rfl) (pa_cons (pv 1) (pa_cons (pv 2) pa_nil)))))
      (pss_one (ps_ret (pe_call G_estimated_schedule (hr.mono (by first | decide | omega)) rfl D_estimated_schedule.m D_estimated_schedule.F.kp D_estimated_schedule.b .nil pass0 (pa_cons (pe_fld (pv 0) rfl) (pa_cons (pe_fld (pv 0) rfl) (pa_cons (pv 1) (pa_cons (pv 2) pa_nil)))))))), ?_⟩
  obtain ⟨dx, au, al, ar, ap, h0, ⟨ys, h1, h2⟩, h3, h4, h6, h8, h9⟩ := id hP
  refine ⟨_, rfl, p, C_Post, dx, _, _, rfl, h0, T.cl_Post, T.no_Post_market, pf_m, _, rfl, _, rfl, m, M, e, z, rfl, hM, ?_⟩
  rcases h with ⟨he, q⟩ | ⟨he, hz, q⟩ | ⟨he, hz, q⟩
  · exact .inl ⟨he, q⟩
  · exact .inr (.inl ⟨he, hz, q⟩)
  · refine .inr (.inr ⟨he, hz, fun H1 s1 => ?_⟩)
    have k0 := s1 _ _ h0
    exact ⟨_, rfl, p, C_Post, dx, _, _, rfl, k0, T.cl_Post, T.no_Post_market, pf_m, _, rfl, p, C_Post, dx, _, _, rfl, k0, T.cl_Post, T.no_Post_received, pf_r, _, rfl, _, rfl, m, ar, M, P, e, z, rfl, MktAt.same s1 hM, hok, RcAt.same s1 h6, fun n => hpt.asc z e n, fun a H2 s2 hs => q a H2 (s1.trans s2) hs⟩

theorem ok_Post_pending {f : Addr} {fd : FuncData} (D_Post_pending : Mth K C_Post "pending" "Post.pending" s_Post_pending ["self"] f fd) (T : Tx K mg C_BadName C_BadCover C_BadPanel C_BadAmount C_NameTaken C_NoSuchName C_NoSuchNotice C_Twice C_OwnPanel C_TooMany C_NoEnd C_Post C_Market N_NOTHING) {f_Post__changes : Addr} {fd_Post__changes : FuncData} (D_Post__changes : Mth K C_Post "_changes" "Post._changes" s_Post__changes ["self", "insurer"] f_Post__changes fd_Post__changes) (G_Post__changes : FnOk P w K mg base CX0 (7) f_Post__changes fd_Post__changes ["self", "insurer"] (sp_changes K C_Post C_Market)) {f_Post__is_worth : Addr} {fd_Post__is_worth : FuncData} (D_Post__is_worth : Mth K C_Post "_is_worth" "Post._is_worth" s_Post__is_worth ["self", "number"] f_Post__is_worth fd_Post__is_worth) (G_Post__is_worth : FnOk P w K mg base CX0 (2) f_Post__is_worth fd_Post__is_worth ["self", "number"] (sp_is_worth K C_Post)) :
    FnOk P w K mg base CX0 (8) f fd ["self"] (sp_pending K C_Post C_Market) := by
  refine D_Post_pending.F.ok sc_Post_pending (fun vs H Q E h => ?_) (fun cdv A outer s H vs Q E hr h => ?_)
  · obtain ⟨p, m, an, k, M, P, rfl, hP, hM, hok, hpt, q⟩ := h
    rfl
  obtain ⟨p, m, an, k, M, P, rfl, hP, hM, hok, hpt, q⟩ := h
  refine ⟨_, (pss_cons (ps_setLc (i := 1) (own := [("insurer", 3)]) (g := (gName 3)) rfl sc_Post_pending.nd rfl rfl (sw_true rfl rfl rfl (by decide +kernel)) (pi_tup (pe_fld (pe_fld (pv 0) rfl) rfl)) (blkOk_by (own := [("insurer", 3)]) (N := (["self", "insurers", "numbers", "insurer", "number"] : List Str)) (sc := defScope s_Post_pending) (by decide +kernel)) (fun _ _ _ _ _ => (pg_name (i := 3) sc_Post_pending.nd rfl (by first | exact Or.inl rfl | exact Or.inr rfl))) (fun _ _ _ _ _ => (pts_one (pt_cmpR op_gt (pe_callB (call_lenK (K := K) rfl) (by rfl) T.len PySem.boot_len (pa_cons (pe_meth (pv 0) T.cl_Post D_Post__changes.m G_Post__changes (hr.mono (by first | decide | omega)) D_Post__changes.b .nil pass0 (pa_cons (pv 3) pa_nil)) pa_nil)) pe_int (nomark _)))) (fun _ _ _ _ _ => (pv 3)))
      (pss_cons (ps_setLc (i := 2) (own := [("number", 4)]) (g := (gName 4)) rfl sc_Post_pending.nd rfl rfl (sw_true rfl rfl rfl (by decide +kernel)) (pi_tup (pe_fld (pv 0) rfl)) (blkOk_by (own := [("number", 4)]) (N := (["self", "insurers", "numbers", "insurer", "number"] : List Str)) (sc := defScope s_Post_pending) (by decide +kernel)) (fun _ _ _ _ _ => (pg_name (i := 4) sc_Post_pending.nd rfl (by first | exact Or.inl rfl | exact Or.inr rfl))) (fun _ _ _ _ _ => (pts_one (pt_val (pe_meth (pv 0) T.cl_Post D_Post__is_worth.m G_Post__is_worth (hr.mono (by first | decide | omega)) D_Post__is_worth.b .nil pass0 (pa_cons (pv 4) pa_nil))))) (fun _ _ _ _ _ => (pv 4)))
      (pss_one (ps_ret (pe_tup (pa_cons (pe_callTy call_tuple_of (by rfl) T.tuple (by decide +kernel) (pa_cons (pv 1) pa_nil)) (pa_cons (pe_callTy call_tuple_of (by rfl) T.tuple (by decide +kernel) (pa_cons (pv 2) pa_nil)) pa_nil))))))), ?_⟩
  obtain ⟨dx, au, al, ar, ap, h0, ⟨ys, h1, h2⟩, h3, h4, h6, h8, h9⟩ := id hP
  obtain ⟨dy, ai, ae, at', ad, g0, g1, g2, g3, g4, g5⟩ := id hM
  have il := hok.il
  refine ⟨_, rfl, p, C_Post, dx, _, _, rfl, h0, T.cl_Post, T.no_Post_market, pf_m, m, C_Market, dy, _, _, rfl, g0, T.cl_Market, T.no_Market_insurers, mf_i, ai, rfl, ⟨_, g1⟩, fun D nD => lc_tup (K := K) (a := ai) (xs := M.ins.map V.str) (fun i H' => Same H H' ∧ H' D = some (.lst (((M.ins.take i).filter fun z => decide (chg M P z ≠ [])).map V.str))) ⟨same_new nD, upd_same⟩ (fun i H' _ w => same_sqt w.1 g1) ?_ ?_⟩
  · rintro i v H1 hi ⟨s1, hD⟩
    obtain ⟨z, rfl, hz⟩ := of_at_str hi
    have hil := (List.getElem?_eq_some_iff.mp hz).1
    have fs := fi_step (fun z => decide (chg M P z ≠ [])) hz
    have fl : ((M.ins.take i).filter fun z => decide (chg M P z ≠ [])).length ≤ 6 := Nat.le_trans (List.length_filter_le _ _) (by rw [List.length_take]; omega)
    generalize hw0 : wipe _ _ = w0
    have ew : w0 = [some (.ref p), none, none, none, none] := by
      rw [← hw0]
      kernel_rfl
    clear hw0
    subst ew
    refine ⟨by kernel_rfl, _, rfl, p, dx, _, rfl, s1 _ _ h0, pf_no (by decide +kernel), _, rfl, p, m, an, k, M, P, z, rfl, PostAt.same s1 hP, MktAt.same s1 hM, hok, hpt, fun o cs H2 s2 no ho hcs => ?_⟩
    refine ⟨o, _, rfl, .inl (SqL.of ho), _, _, rfl, rfl, _, rfl, ?_⟩
    have hD2 := s2 _ _ hD
    have ec : decide ((0 : Int) < (cs.length : Int)) = decide (chg M P z ≠ []) := by
      have := hcs.1
      cases hc : chg M P z with
      | nil =>
        rw [hc] at this
        rw [this]
        rfl
      | cons a r =>
        rw [hc] at this
        rw [this]
        exact (decide_eq_true (by rw [List.length_cons]; omega)).trans (decide_eq_true (fun z => (nomatch z))).symm
    rw [ec]
    refine iteB (fun c => ?_) (fun c => ?_)
    · rw [if_pos c] at fs
      refine ⟨_, rfl, _, hD2, by rw [List.length_map]; exact szl (by omega), same_put (s1.trans s2) nD, ?_⟩
      rw [upd_same, fs, List.map_append]
      rfl
    · rw [if_neg (by rw [c]; exact Bool.false_ne_true), List.append_nil] at fs
      refine ⟨s1.trans s2, ?_⟩
      rw [fs]
      exact hD2
  rintro H1 ⟨s1, hD⟩
  rw [List.length_map, List.take_of_length_le (Nat.le_refl _)] at hD
  have hD : H1 D = some (.lst ((pendI M P).map V.str)) := hD
  dsimp only
  refine nx_to ?_
  generalize hw0 : List.set _ _ _ = w0
  have ew : w0 = [some (.ref p), some (.ref D), none, none, none] := by
    rw [← hw0]
    kernel_rfl
  clear hw0
  subst ew
  obtain ⟨wf, hwf⟩ : ∃ wf : Int → Bool, (fun x => match ntAt P x with | some c => worth P c | none => false) = wf := ⟨_, rfl⟩
  have hll : (leftOf P).length ≤ P.nts.length := leftF_len P.nts 1
  have hln := hpt.len
  refine ⟨_, rfl, p, C_Post, dx, _, _, rfl, s1 _ _ h0, T.cl_Post, T.no_Post_numbers, pf_u, au, rfl, ⟨_, same_sqt s1 h3.1⟩, fun G nG => lc_tup (K := K) (a := au) (xs := (leftOf P).map V.int) (fun i H' => Same H1 H' ∧ H' G = some (.lst ((((leftOf P).take i).filter wf).map V.int))) ⟨same_new nG, upd_same⟩ (fun i H' _ w => same_sqt (s1.trans w.1) h3.1) ?_ ?_⟩
  · rintro i v H2 hi ⟨s2, hG⟩
    obtain ⟨x, rfl, hx⟩ := of_at_map hi
    have hil := (List.getElem?_eq_some_iff.mp hx).1
    have fs := fi_step wf hx
    have fl : (((leftOf P).take i).filter wf).length ≤ i := Nat.le_trans (List.length_filter_le _ _) (by rw [List.length_take]; omega)
    obtain ⟨j, c, hjc, ex⟩ := leftF_mem.mp (List.mem_of_getElem? hx)
    have hc : ntAt P x = some c := ntAt_in (by omega) (by rw [show (x - 1).toNat = j by omega]; exact hjc)
    have hwx : wf x = worth P c := by
      rw [← hwf]
      show (match ntAt P x with | some c => worth P c | none => false) = _
      rw [hc]
    generalize hw0 : wipe _ _ = w0
    have ew : w0 = [some (.ref p), some (.ref D), none, none, none] := by
      rw [← hw0]
      kernel_rfl
    clear hw0
    subst ew
    have s12 := s1.trans s2
    refine ⟨by kernel_rfl, _, rfl, p, dx, _, rfl, s12 _ _ h0, pf_no (by decide +kernel), _, rfl, p, m, an, k, P, x, c, rfl, PostAt.same s12 hP, hc, fun H3 s3 => ⟨_, rfl, ?_⟩⟩
    have hG3 := s3 _ _ hG
    rw [← hwx]
    refine iteB (fun c => ?_) (fun c => ?_)
    · rw [if_pos c] at fs
      refine ⟨_, rfl, _, hG3, by rw [List.length_map]; exact szl (by omega), same_put (s2.trans s3) nG, ?_⟩
      rw [upd_same, fs, List.map_append]
      rfl
    · rw [if_neg (by rw [c]; exact Bool.false_ne_true), List.append_nil] at fs
      refine ⟨s2.trans s3, ?_⟩
      rw [fs]
      exact hG3
  rintro H2 ⟨s2, hG⟩
  rw [List.length_map, List.take_of_length_le (Nat.le_refl _)] at hG
  have hG : H2 G = some (.lst ((worthN P).map V.int)) := by
    rw [← hwf] at hG
    exact hG
  dsimp only
  refine nx_to ?_
  refine ⟨_, rfl, D, _, rfl, .inl ⟨SqL.of (s2 _ _ hD), fun a na => ?_⟩⟩
  have s3 := same_new (o := .tup ((pendI M P).map V.str)) na
  refine ⟨_, rfl, G, _, rfl, .inl ⟨SqL.of (s3 _ _ hG), fun b nb => ?_⟩⟩
  have s4 := same_new (o := .tup ((worthN P).map V.int)) nb
  refine ⟨sz (by show 2 ≤ 100000; decide), fun t nt => ?_⟩
  have s5 := same_new (o := .tup [.ref a, .ref b]) nt
  exact q t a b _ (((s1.trans s2).trans (s3.trans s4)).trans s5) (SqT.of upd_same) (SqT.of ((s4.trans s5) _ _ upd_same)) (SqT.of (s5 _ _ upd_same))

theorem ok_Post_is_quiet {f : Addr} {fd : FuncData} (D_Post_is_quiet : Mth K C_Post "is_quiet" "Post.is_quiet" s_Post_is_quiet ["self"] f fd) (T : Tx K mg C_BadName C_BadCover C_BadPanel C_BadAmount C_NameTaken C_NoSuchName C_NoSuchNotice C_Twice C_OwnPanel C_TooMany C_NoEnd C_Post C_Market N_NOTHING) {f_Post__is_told : Addr} {fd_Post__is_told : FuncData} (D_Post__is_told : Mth K C_Post "_is_told" "Post._is_told" s_Post__is_told ["self", "number"] f_Post__is_told fd_Post__is_told) (G_Post__is_told : FnOk P w K mg base CX0 (2) f_Post__is_told fd_Post__is_told ["self", "number"] (sp_is_told K C_Post C_Market)) {f_Post__changes : Addr} {fd_Post__changes : FuncData} (D_Post__changes : Mth K C_Post "_changes" "Post._changes" s_Post__changes ["self", "insurer"] f_Post__changes fd_Post__changes) (G_Post__changes : FnOk P w K mg base CX0 (7) f_Post__changes fd_Post__changes ["self", "insurer"] (sp_changes K C_Post C_Market)) :
    FnOk P w K mg base CX0 (8) f fd ["self"] (sp_is_quiet K C_Post C_Market) := by
  refine D_Post_is_quiet.F.ok sc_Post_is_quiet (fun vs H Q E h => ?_) (fun cdv A outer s H vs Q E hr h => ?_)
  · obtain ⟨p, m, an, k, M, P, rfl, hP, hM, hok, hpt, q⟩ := h
    rfl
  obtain ⟨p, m, an, k, M, P, rfl, hP, hM, hok, hpt, q⟩ := h
  refine ⟨_, (pss_cons (ps_if (pt_not (pt_val (pe_callB (cr_all rfl) (by rfl) T.all (by decide +kernel) (pa_cons (pe_lc (own := [("number", 2)]) (g := (gName 2)) (tt := tYes) rfl sc_Post_is_quiet.nd (pi_range1 (by rfl) T.range (pa_cons (pe_callB call_len_seq (by rfl) T.len PySem.boot_len (pa_cons (pe_fld (pe_fld (pv 0) rfl) rfl) pa_nil)) pa_nil)) (blkOk_by (own := [("number", 2)]) (N := (["self", "insurer", "number"] : List Str)) (sc := defScope s_Post_is_quiet) (by decide +kernel)) (fun _ _ _ _ _ => (pg_name (i := 2) sc_Post_is_quiet.nd rfl (by first | exact Or.inl rfl | exact Or.inr rfl))) (fun _ _ _ _ _ => pts_nil) (fun _ _ _ _ _ => (pe_meth (pv 0) T.cl_Post D_Post__is_told.m G_Post__is_told (hr.mono (by first | decide | omega)) D_Post__is_told.b .nil pass0 (pa_cons (pv 2) pa_nil)))) pa_nil))))
      (pss_one (ps_ret pe_bl))
      pss_nil)
      (pss_cons (ps_for PassesOwn.never rfl (pi_tup (pe_fld (pe_fld (pv 0) rfl) rfl)) (pg_name (i := 1) sc_Post_is_quiet.nd rfl (by first | exact Or.inl rfl | exact Or.inr rfl))
      (pss_one (ps_if (pt_cmpR op_gt (pe_callB call_len_seq (by rfl) T.len PySem.boot_len (pa_cons (pe_meth (pv 0) T.cl_Post D_Post__changes.m G_Post__changes (hr.mono (by first | decide | omega)) D_Post__changes.b .nil pass0 (pa_cons (pv 1) pa_nil)) pa_nil)) pe_int (nomark _))
      (pss_one (ps_ret pe_bl))
      pss_nil)))
      (pss_one (ps_ret pe_bl)))), ?_⟩
  obtain ⟨dx, au, al, ar, ap, h0, ⟨ys, h1, h2⟩, h3, h4, h6, h8, h9⟩ := id hP
  obtain ⟨dy, ai, ae, at', ad, g0, g1, g2, ⟨xs, hS, hA⟩, g4, g5⟩ := id hM
  have hxl := hA.1
  have tl := hok.tl
  refine ⟨_, rfl, p, C_Post, dx, _, _, rfl, h0, T.cl_Post, T.no_Post_market, pf_m, m, C_Market, dy, _, _, rfl, g0, T.cl_Market, T.no_Market_treaties, mf_t, at', xs, rfl, .inr hS, ((M.trs.length : Nat) : Int), by rw [hxl], by omega, by omega, fun D nD => ?_⟩
  rw [show ((M.trs.length : Nat) : Int).toNat = M.trs.length by omega]
  refine lc_range (lo := 0) (n := M.trs.length) (fun i H' => Same H H' ∧ H' D = some (.lst (((List.range i).map (told M P)).map V.bl))) ⟨same_new nD, upd_same⟩ ?_ ?_
  · rintro i H1 hi ⟨s1, hD⟩
    generalize hw0 : wipe _ _ = w0
    have ew : w0 = [some (.ref p), none, none] := by
      rw [← hw0]
      kernel_rfl
    clear hw0
    subst ew
    rw [Int.zero_add]
    refine ⟨by kernel_rfl, _, rfl, p, dx, _, rfl, s1 _ _ h0, pf_no (by decide +kernel), _, rfl, p, m, an, k, M, P, i, rfl, PostAt.same s1 hP, MktAt.same s1 hM, hok, hi, fun H2 s2 => ?_⟩
    refine ⟨_, s2 _ _ hD, by rw [List.length_map, List.length_map, List.length_range]; exact szl (by omega), same_put (s1.trans s2) nD, ?_⟩
    rw [upd_same, List.range_succ, List.map_append, List.map_append]
    rfl
  rintro H1 ⟨s1, hD⟩
  refine ⟨D, _, rfl, SqL.of hD, _, rfl, ?_⟩
  have e1 : ((List.range M.trs.length).map (told M P)).all id = (List.range M.trs.length).all (told M P) := by
    rw [List.all_map]
    rfl
  rw [e1]
  cases ht : (List.range M.trs.length).all (told M P) with
  | false =>
    have := q H1 s1
    unfold quiet at this
    rw [ht, Bool.false_and] at this
    exact iteT this
  | true =>
    refine iteF ?_
    refine ⟨_, rfl, p, C_Post, dx, _, _, rfl, s1 _ _ h0, T.cl_Post, T.no_Post_market, pf_m, m, C_Market, dy, _, _, rfl, s1 _ _ g0, T.cl_Market, T.no_Market_insurers, mf_i, ai, rfl, ⟨_, same_sqt s1 g1⟩, for_tup (K := K) (a := ai) (xs := M.ins.map V.str) (fun i σ H' => ∃ v : Option V, σ = [some (.ref p), v, none] ∧ Same H H' ∧ (M.ins.take i).all (fun z => decide (chg M P z = [])) = true) ⟨_, rfl, s1, rfl⟩ (fun i σ H' _ ⟨_, _, sm, _⟩ => same_sqt sm g1) ?_ ?_⟩
    · rintro i v σ H2 hi ⟨w, rfl, s2, ha⟩
      obtain ⟨z, rfl, hz⟩ := of_at_str hi
      refine ⟨_, rfl, p, dx, _, rfl, s2 _ _ h0, pf_no (by decide +kernel), _, rfl, p, m, an, k, M, P, z, rfl, PostAt.same s2 hP, MktAt.same s2 hM, hok, hpt, fun o cs H3 s3 no ho hcs => ?_⟩
      refine ⟨o, _, rfl, .inl (SqL.of ho), _, _, rfl, rfl, _, rfl, ?_⟩
      have hl := hcs.1
      cases hc : chg M P z with
      | nil =>
        rw [hc] at hl
        rw [hl]
        refine iteF ⟨_, rfl, s2.trans s3, ?_⟩
        rw [List.take_add_one, hz, List.all_append, ha]
        show (true && ([z].all _)) = true
        simp [hc]
      | cons a r =>
        rw [hc] at hl
        rw [hl]
        rw [decide_eq_true (show (0 : Int) < (((a :: r).length : Nat) : Int) by rw [List.length_cons]; omega)]
        have := q H3 (s2.trans s3)
        have e : quiet M P = false := by
          unfold quiet
          rw [ht, Bool.true_and]
          cases hq : M.ins.all fun z => decide (chg M P z = []) with
          | false => rfl
          | true =>
            have := List.all_eq_true.mp hq z (List.mem_of_getElem? hz)
            rw [hc] at this
            exact absurd (of_decide_eq_true this) (fun z => (nomatch z))
        rw [e] at this
        exact iteT this
    · rintro σ H2 ⟨w, rfl, s2, ha⟩
      rw [List.length_map, List.take_of_length_le (Nat.le_refl _)] at ha
      have := q H2 s2
      unfold quiet at this
      rw [ht, ha] at this
      exact this

theorem ok_Post__last_sequence {f : Addr} {fd : FuncData} (D_Post__last_sequence : Mth K C_Post "_last_sequence" "Post._last_sequence" s_Post__last_sequence ["self", "number", "event"] f fd) (T : Tx K mg C_BadName C_BadCover C_BadPanel C_BadAmount C_NameTaken C_NoSuchName C_NoSuchNotice C_Twice C_OwnPanel C_TooMany C_NoEnd C_Post C_Market N_NOTHING) :
    FnOk P w K mg base CX0 (1) f fd ["self", "number", "event"] (sp_last_sequence K C_Post) := by
  refine D_Post__last_sequence.F.ok sc_Post__last_sequence (fun vs H Q E h => ?_) (fun cdv A outer s H vs Q E hr h => ?_)
  · obtain ⟨p, m, an, k, P, n, e, rfl, hP, q⟩ := h
    rfl
  obtain ⟨p, m, an, k, P, n, e, rfl, hP, q⟩ := h
  refine ⟨_, (pss_one (ps_ret (pe_ix (r := rIxT K) ix_tup (pe_dget2 (hu_of hr) (pe_fld (pv 0) rfl) (pe_tup (pa_cons (pv 1) (pa_cons (pv 2) pa_nil))) (pe_glob (v := .ref N_NOTHING) rfl T.g_NOTHING rfl) ⟨rfl, rfl, rfl, rfl⟩) pe_int (fun _ _ => rfl)))), ?_⟩
  obtain ⟨dx, au, al, ar, ap, h0, ⟨ys, h1, h2⟩, h3, ⟨kl, h4, h5⟩, _⟩ := id hP
  refine ⟨_, rfl, p, C_Post, dx, _, _, rfl, h0, T.cl_Post, T.no_Post_last, pf_l, al, rfl, isD_t (.inl h4), _, rfl, _, rfl, sz (by show 2 ≤ 100000; decide), fun b nb => ?_⟩
  have s1 := same_new (o := .tup [.int (n : Int), .str e]) nb
  have r := (h5.imp fun _ _ => SqAt.same s1).getD kfL_inj (n, e) (sq_none (T.k_NOTHING _))
  refine ⟨_, .inr ⟨_, kfL (n, e), b, .inl (s1 _ _ h4), rfl, upd_same, rfl⟩, ?_⟩
  obtain ⟨t, c, ev, hS, hs⟩ := r
  rw [ev]
  exact ⟨t, _, 0, _, rfl, rfl, hS, rfl, q _ s1⟩

theorem ok_Post__received_sequence {f : Addr} {fd : FuncData} (D_Post__received_sequence : Mth K C_Post "_received_sequence" "Post._received_sequence" s_Post__received_sequence ["self", "recipient", "number", "event"] f fd) (T : Tx K mg C_BadName C_BadCover C_BadPanel C_BadAmount C_NameTaken C_NoSuchName C_NoSuchNotice C_Twice C_OwnPanel C_TooMany C_NoEnd C_Post C_Market N_NOTHING) :
    FnOk P w K mg base CX0 (1) f fd ["self", "recipient", "number", "event"] (sp_received_sequence K C_Post) := by
  refine D_Post__received_sequence.F.ok sc_Post__received_sequence (fun vs H Q E h => ?_) (fun cdv A outer s H vs Q E hr h => ?_)
  · obtain ⟨p, m, an, k, P, z, n, e, rfl, hP, q⟩ := h
    rfl
  obtain ⟨p, m, an, k, P, z, n, e, rfl, hP, q⟩ := h
  refine ⟨_, (pss_one (ps_ret (pe_ix (r := rIxT K) ix_tup (pe_dget2 (hu_of hr) (pe_fld (pv 0) rfl) (pe_tup (pa_cons (pv 1) (pa_cons (pv 2) (pa_cons (pv 3) pa_nil)))) (pe_glob (v := .ref N_NOTHING) rfl T.g_NOTHING rfl) ⟨rfl, rfl, rfl, rfl⟩) pe_int (fun _ _ => rfl)))), ?_⟩
  obtain ⟨dx, au, al, ar, ap, h0, ⟨ys, h1, h2⟩, h3, ⟨kl, h4, h5⟩, ⟨kr, h6, h7⟩, _⟩ := id hP
  refine ⟨_, rfl, p, C_Post, dx, _, _, rfl, h0, T.cl_Post, T.no_Post_received, pf_r, ar, rfl, isD_t (.inl h6), _, rfl, _, rfl, _, rfl, sz (by show 3 ≤ 100000; decide), fun b nb => ?_⟩
  have s1 := same_new (o := .tup [.str z, .int (n : Int), .str e]) nb
  have r := (h7.imp fun _ _ => SqAt.same s1).getD kfR_inj (z, n, e) (sq_none (T.k_NOTHING _))
  refine ⟨_, .inr ⟨_, kfR (z, n, e), b, .inl (s1 _ _ h6), rfl, upd_same, rfl⟩, ?_⟩
  obtain ⟨t, c, ev, hS, hs⟩ := r
  rw [ev]
  exact ⟨t, _, 0, _, rfl, rfl, hS, rfl, q _ s1⟩

theorem ok_Post__changes {f : Addr} {fd : FuncData} (D_Post__changes : Mth K C_Post "_changes" "Post._changes" s_Post__changes ["self", "insurer"] f fd) (T : Tx K mg C_BadName C_BadCover C_BadPanel C_BadAmount C_NameTaken C_NoSuchName C_NoSuchNotice C_Twice C_OwnPanel C_TooMany C_NoEnd C_Post C_Market N_NOTHING) {f_current_schedules : Addr} {fd_current_schedules : FuncData} (D_current_schedules : Dfn K mg "current_schedules" s_current_schedules ["market", "received", "event", "insurer"] f_current_schedules fd_current_schedules) (G_current_schedules : FnOk P w K mg base CX0 (6) f_current_schedules fd_current_schedules ["market", "received", "event", "insurer"] (sp_current_schedules K C_Market)) {f_own_treaties : Addr} {fd_own_treaties : FuncData} (D_own_treaties : Dfn K mg "own_treaties" s_own_treaties ["market", "insurer"] f_own_treaties fd_own_treaties) (G_own_treaties : FnOk P w K mg base CX0 (1) f_own_treaties fd_own_treaties ["market", "insurer"] (sp_own_treaties K C_Market)) :
    FnOk P w K mg base CX0 (7) f fd ["self", "insurer"] (sp_changes K C_Post C_Market) := by
  refine D_Post__changes.F.ok sc_Post__changes (fun vs H Q E h => ?_) (fun cdv A outer s H vs Q E hr h => ?_)
  · obtain ⟨p, m, an, k, M, P, z, rfl, hP, hM, hok, hpt, q⟩ := h
    rfl
  obtain ⟨p, m, an, k, M, P, z, rfl, hP, hM, hok, hpt, q⟩ := h
  refine ⟨_, (pss_cons (ps_set (i := 2) sc_Post__changes.nd rfl (by first | exact Or.inl rfl | exact Or.inr rfl) (pe_fld (pv 0) rfl))
      (pss_cons (ps_set (i := 3) sc_Post__changes.nd rfl (by first | exact Or.inl rfl | exact Or.inr rfl) (pe_dc (own := [("event", 4)]) (g := (gName 4)) (tt := tYes) rfl sc_Post__changes.nd (pi_tup (pe_fld (pv 2) rfl)) (blkOk_by (own := [("event", 4)]) (N := (["self", "insurer", "market", "current", "event", "number"] : List Str)) (sc := defScope s_Post__changes) (by decide +kernel)) (fun _ _ _ _ _ => (pg_name (i := 4) sc_Post__changes.nd rfl (by first | exact Or.inl rfl | exact Or.inr rfl))) (fun _ _ _ _ _ => pts_nil) (fun _ _ _ _ _ => (pv 4)) (fun _ _ _ _ _ => (pe_call G_current_schedules (hr.mono (by first | decide | omega)) rfl D_current_schedules.m D_current_schedules.F.kp D_current_schedules.b .nil pass0 (pa_cons (pv 2) (pa_cons (pe_fldK (K := K) rfl (pv 0) rfl) (pa_cons (pv 4) (pa_cons (pv 1) pa_nil))))))))
      (pss_one (ps_ret (pe_lc2 (own := [("number", 5), ("event", 4)]) (vs1 := [4]) (g := (gName 5)) (g1 := (gName 4)) (tt := tYes) rfl sc_Post__changes.nd (pi_list (pe_call G_own_treaties (hr.mono (by first | decide | omega)) rfl D_own_treaties.m D_own_treaties.F.kp D_own_treaties.b .nil pass0 (pa_cons (pv 2) (pa_cons (pv 1) pa_nil)))) (blkOk_by (own := [("number", 5), ("event", 4)]) (N := (["self", "insurer", "market", "current", "event", "number"] : List Str)) (sc := defScope s_Post__changes) (by decide +kernel)) (by decide) (fun _ _ _ _ _ => (pg_name (i := 5) sc_Post__changes.nd rfl (by first | exact Or.inl rfl | exact Or.inr rfl))) (fun _ _ _ _ _ => pts_nil) (fun _ _ _ _ _ => (pi_tupK (K := K) rfl (pe_fldK (K := K) rfl (pv 2) rfl))) (fun _ _ _ _ _ => (pg_name (i := 4) sc_Post__changes.nd rfl (by first | exact Or.inl rfl | exact Or.inr rfl))) (fun _ _ _ _ _ => (pts_one (pt_cmpR (op_neDK (K := K) rfl hr.units) (pe_dget (hu_of hr) (pe_dget (hu_of hr) (pv 3) (pv 4) (fun _ _ => rfl)) (pv 5) (fun _ _ => rfl)) (pe_ix (r := rIxT K) ix_tup (pe_dget2 (hu_of hr) (pe_fldK (K := K) rfl (pv 0) rfl) (pe_tup (pa_cons (pv 5) (pa_cons (pv 4) pa_nil))) (pe_glob (v := .ref N_NOTHING) rfl T.g_NOTHING rfl) ⟨rfl, rfl, rfl, rfl⟩) pe_int (fun _ _ => rfl)) (nomark _)))) (fun _ _ _ _ _ => (pe_tup (pa_cons (pv 5) (pa_cons (pv 4) (pa_cons (pe_dget (hu_of hr) (pe_dget (hu_of hr) (pv 3) (pv 4) (fun _ _ => rfl)) (pv 5) (fun _ _ => rfl)) pa_nil)))))))))), ?_⟩
  obtain ⟨dx, au, al, ar, ap, h0, ⟨ys, h1, h2⟩, h3, ⟨kl, h4, h5⟩, h6, h8, h9⟩ := id hP
  obtain ⟨dy, ai, ae, at', ad, g0, g1, g2, g3, g4, g5⟩ := id hM
  have tl := hok.tl
  have el := hok.el
  refine ⟨_, rfl, p, C_Post, dx, _, _, rfl, h0, T.cl_Post, T.no_Post_market, pf_m, ?_⟩
  dsimp only
  refine nx_to ?_
  generalize hw0 : List.set _ _ _ = w0
  have ew : w0 = [some (.ref p), some (.str z), some (.ref m), none, none, none] := by
    rw [← hw0]
    kernel_rfl
  clear hw0
  subst ew
  refine ⟨_, rfl, m, C_Market, dy, _, _, rfl, g0, T.cl_Market, T.no_Market_events, mf_e, ae, rfl, ⟨_, g2⟩, fun G nG => dc_it (walk_tup (K := K) (a := ae) (xs := M.evs.map V.str)) (fun i H' => Same H H' ∧ CvAt K H' G M P z (M.evs.take i)) ⟨same_new nG, [], upd_same, .nil⟩ (fun i H' _ w => same_sqt w.1 g2) ?_ ?_⟩
  · rintro i v H1 H2 hi ⟨s1, kv, hG, hkv⟩ ⟨rfl, hv⟩
    obtain ⟨e, rfl, he⟩ := of_at_str hv
    have hil := (List.getElem?_eq_some_iff.mp he).1
    generalize hw0 : wipe _ _ = w0
    have ew : w0 = [some (.ref p), some (.str z), some (.ref m), none, none, none] := by
      rw [← hw0]
      kernel_rfl
    clear hw0
    subst ew
    refine ⟨by kernel_rfl, _, rfl, _, rfl, _, rfl, p, C_Post, dx, _, _, rfl, s1 _ _ h0, T.cl_Post, T.no_Post_received, pf_r, _, rfl, _, rfl, m, ar, M, P, e, z, rfl, MktAt.same s1 hM, hok, RcAt.same s1 h6, fun n => hpt.asc z e n, fun d H3 s3 nd hd => ?_⟩
    have hG3 := s3 _ _ hG
    have kl := Paired.length hkv
    rw [List.length_take] at kl
    refine ⟨kv, .inr e, rfl, hG3, szl (by omega), same_put (s1.trans s3) nG, _, upd_same, ?_⟩
    rw [L2.putK_new _ (cv_new (R := fun v e => ∃ b, v = .ref b ∧ b ≠ G ∧ CuAt K H2 b M P e z) hkv (not_take hok.end_ he)), List.take_add_one, he]
    have tp := Tups.put (o := .dK (kv ++ [(.inr e, .ref d)])) hG3 (fun _ z => (nomatch z)) fun _ _ z => (nomatch z)
    have cp : ∀ {b : Addr} {e2 : Str}, b ≠ G → CuAt K H3 b M P e2 z → CuAt K (upd H3 G (.dK (kv ++ [(.inr e, .ref d)]))) b M P e2 z := fun n h => by
      obtain ⟨k2, q1, q2⟩ := h
      exact ⟨k2, by rw [upd_ne n]; exact q1, Paired.mapP q2 fun _ _ ⟨r1, b, r2, r3⟩ => ⟨r1, b, r2, tp.sch r3⟩⟩
    have ndG : d ≠ G := (ne_of_none hG nd).symm
    exact paired_add ⟨rfl, d, rfl, ndG, cp ndG hd⟩ (Paired.mapP hkv fun _ _ ⟨r1, b, r2, r3, r4⟩ => ⟨r1, b, r2, r3, cp r3 (r4.same s3)⟩)
  rintro H1 ⟨s1, kv, hG, hkv⟩
  have evl : (M.evs.map V.str).length = M.evs.length := List.length_map ..
  rw [evl, List.take_of_length_le (Nat.le_refl _)] at hkv
  dsimp only
  refine nx_to ?_
  generalize hw0 : List.set _ _ _ = w0
  have ew : w0 = [some (.ref p), some (.str z), some (.ref m), some (.ref G), none, none] := by
    rw [← hw0]
    kernel_rfl
  clear hw0
  subst ew
  refine ⟨_, rfl, _, rfl, m, M, z, rfl, MktAt.same s1 hM, by omega, fun o H2 s2 no ho => ?_⟩
  have s02 := s1.trans s2
  have hG2 := s2 _ _ hG
  have hkv2 : Paired (fun (p : Key × V) (e : Str) => p.1 = .inr e ∧ ∃ b, p.2 = .ref b ∧ b ≠ G ∧ CuAt K H2 b M P e z) kv M.evs := Paired.mapP hkv fun _ _ ⟨r1, b, r2, r3, r4⟩ => ⟨r1, b, r2, r3, r4.same s2⟩
  have onl := ownN_len z M.trs 0
  have omem : ∀ n ∈ ownN z 0 M.trs, n ∈ ownN z 0 M.trs := fun n h => h
  obtain ⟨ow, how⟩ : ∃ ow, ownN z 0 M.trs = ow := ⟨_, rfl⟩
  obtain ⟨fk, hfk⟩ : ∃ fk : Nat → List (Nat × Str × Sc), (fun n => (M.evs.filter fun e => decide (cur M P e z n ≠ (lastOf P n e).2)).map fun e => (n, e, cur M P e z n)) = fk := ⟨_, rfl⟩
  have fk3 : ∀ n, (fk n).length ≤ 3 := fun n => by
    rw [← hfk]
    show (List.map _ _).length ≤ 3
    rw [List.length_map]
    exact Nat.le_trans (List.length_filter_le _ _) hok.el
  have rk : chg M P z = ow.flatMap fk := by
    unfold chg
    rw [how, hfk]
  rw [rk] at q
  rw [how] at ho onl omem
  have hn16 : (natV ow).length = ow.length := List.length_map ..
  refine ⟨o, rfl, ⟨_, SqL.of ho⟩, fun D nD => lc2_out (walk_list (K := K) (a := o) (xs := natV ow)) (fun i H' => Same H2 H' ∧ ∃ ws, H' D = some (.lst ws) ∧ AllAt (ChAt K) H' ws ((ow.take i).flatMap fk)) ⟨same_new nD, [], upd_same, .nil⟩ (fun i H' _ z => SqL.of (z.1 _ _ ho)) ?_ ?_⟩
  · rintro i v H3 H4 hi ⟨s3, ws, hD, hw⟩ ⟨rfl, hv⟩
    unfold natV at hv
    rw [List.getElem?_map] at hv
    obtain ⟨n, hn, rfl⟩ := Option.map_eq_some_iff.mp hv
    have st := fl_step fk hn
    have hno : n ∈ ownN z 0 M.trs := by rw [how]; exact List.mem_of_getElem? hn
    have hnl := (List.getElem?_eq_some_iff.mp hn).1
    have bd := flat_len fk 3 (ow.take i) fun x _ => fk3 x
    rw [List.length_take] at bd
    generalize hw0 : wipe _ _ = w0
    have ew : w0 = [some (.ref p), some (.str z), some (.ref m), some (.ref G), none, none] := by
      rw [← hw0]
      kernel_rfl
    clear hw0
    subst ew
    have s03 := s02.trans s3
    refine ⟨by kernel_rfl, _, rfl, m, C_Market, dy, _, _, rfl, s03 _ _ g0, T.cl_Market, T.no_Market_events, mf_e, ae, rfl, ⟨_, same_sqt s03 g2⟩, lc2_in (walk_tup (K := K) (a := ae) (xs := M.evs.map V.str)) (fun j H' => Same H2 H' ∧ ∃ ws, H' D = some (.lst ws) ∧ AllAt (ChAt K) H' ws ((ow.take i).flatMap fk ++ ((M.evs.take j).filter fun e => decide (cur M P e z n ≠ (lastOf P n e).2)).map fun e => (n, e, cur M P e z n))) ⟨s3, ws, hD, by rw [List.take_zero]; exact (List.append_nil _).symm ▸ hw⟩ (fun j H' _ z => same_sqt (s02.trans z.1) g2) ?_ ?_⟩
    · rintro j v4 H5 H6 hj ⟨s5, ws5, hD5, hw5⟩ ⟨rfl, hv4⟩
      obtain ⟨e, rfl, he⟩ := of_at_str hv4
      have hjl := (List.getElem?_eq_some_iff.mp he).1
      generalize hw0 : wipe _ _ = w0
      have ew : w0 = [some (.ref p), some (.str z), some (.ref m), some (.ref G), none, some (.int (n : Int))] := by
        rw [← hw0]
        kernel_rfl
      clear hw0
      subst ew
      obtain ⟨v1, hv1, cb, rfl, ncb, kv2, hc1, hc2⟩ := cv_val (R := fun v e => ∃ b, v = .ref b ∧ b ≠ G ∧ CuAt K H2 b M P e z) hkv2 (List.mem_of_getElem? he)
      obtain ⟨v2, hv2, sb, rfl, hsb⟩ := cu_val (R := fun v n => ∃ b, v = .ref b ∧ SchAt K H2 b (cur M P e z n)) hc2 hno
      refine ⟨by kernel_rfl, _, rfl, _, rfl, G, .ref cb, rfl, .inl ⟨kv, .inr e, .inl (s5 _ _ hG2), rfl, hv1.symm⟩, _, rfl, cb, .ref sb, rfl, .inl ⟨kv2, .inl (n : Int), .inl (s5 _ _ hc1), rfl, hv2.symm⟩, ?_⟩
      have s25 := s02.trans s5
      refine ⟨_, rfl, p, C_Post, dx, _, _, rfl, s25 _ _ h0, T.cl_Post, T.no_Post_last, pf_l, al, rfl, isD_t (.inl (s25 _ _ h4)), _, rfl, _, rfl, sz (by show 2 ≤ 100000; decide), fun kb nkb => ?_⟩
      have s6 := same_new (o := .tup [.int (n : Int), .str e]) nkb
      have s26 := s25.trans s6
      have r := (h5.imp fun _ _ => SqAt.same s26).getD kfL_inj (n, e) (sq_none (T.k_NOTHING _))
      refine ⟨_, .inr ⟨_, kfL (n, e), kb, .inl (s26 _ _ h4), rfl, upd_same, rfl⟩, ?_⟩
      obtain ⟨t, c, ev, hS, hs⟩ := r
      rw [ev]
      have hsb6 := hsb.same (s5.trans s6)
      refine ⟨t, _, 1, _, rfl, rfl, hS, rfl, _, _, dp_sch hsb6, dp_sch hs, shaped_sch _, shaped_sch _, _, rfl, ?_⟩
      rw [eqv_sch]
      have eb : (!decide (cur M P e z n = ((getL P.last (n, e)).getD (0, [])).2)) = decide (cur M P e z n ≠ (lastOf P n e).2) := by
        rw [← decide_not]
        rfl
      rw [eb]
      have fs := fi_step (fun e => decide (cur M P e z n ≠ (lastOf P n e).2)) he
      have wl := hw5.1
      have fl2 : ((M.evs.take j).filter fun e => decide (cur M P e z n ≠ (lastOf P n e).2)).length ≤ 3 := Nat.le_trans (List.length_filter_le _ _) (by rw [List.length_take]; omega)
      rw [List.length_append, List.length_map] at wl
      have hD6 := s6 _ _ hD5
      have hw6 := AllAt.same (R := ChAt K) (fun e r => ChAt.same e r) s6 hw5
      refine iteB (fun cc => ?_) (fun cc => ?_)
      · rw [if_pos cc] at fs
        refine ⟨_, rfl, _, rfl, _, rfl, _, rfl, G, .ref cb, rfl, .inl ⟨kv, .inr e, .inl ((s5.trans s6) _ _ hG2), rfl, hv1.symm⟩, _, rfl, cb, .ref sb, rfl, .inl ⟨kv2, .inl (n : Int), .inl ((s5.trans s6) _ _ hc1), rfl, hv2.symm⟩, sz (by show 3 ≤ 100000; decide), fun t2 nt2 => ?_⟩
        have s7 := same_new (o := .tup [.int (n : Int), .str e, .ref sb]) nt2
        have hD7 := s7 _ _ hD6
        refine ⟨ws5, hD7, szl (by omega), same_put ((s5.trans s6).trans s7) nD, _, upd_same, ?_⟩
        rw [fs, List.map_append, ← List.append_assoc]
        have tp := Tups.put (o := .lst (ws5 ++ [.ref t2])) hD7 (fun _ z => (nomatch z)) fun _ _ z => (nomatch z)
        refine AllAt.imp (S := ChAt K) (AllAt.add (AllAt.same (R := ChAt K) (fun e r => ChAt.same e r) s7 hw6) (⟨t2, sb, rfl, SqT.of upd_same, hsb6.same s7⟩ : ChAt K _ (.ref t2) (n, e, cur M P e z n))) fun y l ⟨t3, b3, e1, e2, e3⟩ => ⟨t3, b3, e1, tp.sqt e2, tp.sch e3⟩
      · rw [if_neg (by rw [cc]; exact Bool.false_ne_true), List.append_nil] at fs
        refine ⟨s5.trans s6, ws5, hD6, ?_⟩
        rw [fs]
        exact hw6
    · rintro H5 ⟨s5, ws5, hD5, hw5⟩
      rw [evl, List.take_of_length_le (Nat.le_refl _)] at hw5
      refine ⟨s5, ws5, hD5, ?_⟩
      rw [st, ← hfk]
      rw [← hfk] at hw5
      exact hw5
  · rintro H3 ⟨s3, ws, hD, hw⟩
    rw [hn16, List.take_of_length_le (Nat.le_refl _)] at hw
    exact q D ws H3 (s02.trans s3) (s02.free nD) hD hw

theorem ok_Post__enter {f : Addr} {fd : FuncData} (D_Post__enter : Mth K C_Post "_enter" "Post._enter" s_Post__enter ["self", "keys", "last"] f fd) (T : Tx K mg C_BadName C_BadCover C_BadPanel C_BadAmount C_NameTaken C_NoSuchName C_NoSuchNotice C_Twice C_OwnPanel C_TooMany C_NoEnd C_Post C_Market N_NOTHING) {f_participants : Addr} {fd_participants : FuncData} (D_participants : Dfn K mg "participants" s_participants ["panel"] f_participants fd_participants) (G_participants : FnOk P w K mg base CX0 (1) f_participants fd_participants ["panel"] (sp_participants K)) {f_Post__take_notices : Addr} {fd_Post__take_notices : FuncData} (D_Post__take_notices : Mth K C_Post "_take_notices" "Post._take_notices" s_Post__take_notices ["self"] f_Post__take_notices fd_Post__take_notices) (G_Post__take_notices : FnOk P w K mg base CX0 (1) f_Post__take_notices fd_Post__take_notices ["self"] (sp_take_notices K C_Post)) :
    FnOk P w K mg base (L2.CX P w) (2) f fd ["self", "keys", "last"] (sp_enter K C_Post C_Market C_TooMany) := by
  refine D_Post__enter.F.okX sc_Post__enter (fun vs H Q E h => ?_) (fun cdv A outer s H vs Q E hr h => ?_)
  · obtain ⟨p, m, an, b, al, k, M, P, L, ks, ys, rfl, hP, hM, hok, hlen, hb, nba, hks, hL, h48, hkk, h⟩ := h
    rfl
  obtain ⟨p, m, an, b, al, k, M, P, L, ks, ys, rfl, hP, hM, hok, hlen, hb, nba, hks, hL, h48, hkk, h⟩ := h
  refine ⟨_, (pss_cons (ps_setLc2 (i := 3) (own := [("number", 6), ("event", 7), ("recipient", 8)]) (vs1 := [8]) (g := (gTup K 2 (gCons (gName 6) (gCons (gName 7) gNil)))) (g1 := (gName 8)) (tt := tYes) (tt1 := tYes) rfl sc_Post__enter.nd rfl rfl (sw_true rfl rfl rfl (by decide +kernel)) (pi_list (pv 1)) (blkOk_by (own := [("number", 6), ("event", 7), ("recipient", 8)]) (N := (["self", "keys", "last", "rows", "ahead", "numbers", "number", "event", "recipient"] : List Str)) (sc := defScope s_Post__enter) (by decide +kernel)) (by decide) (fun _ _ _ _ _ => (pg_tup rfl (pgs_cons (pg_name (i := 6) sc_Post__enter.nd rfl (by first | exact Or.inl rfl | exact Or.inr rfl)) (pgs_cons (pg_name (i := 7) sc_Post__enter.nd rfl (by first | exact Or.inl rfl | exact Or.inr rfl)) pgs_nil)))) (fun _ _ _ _ _ => pts_nil) (fun _ _ _ _ _ => (pi_listK (K := K) rfl (pe_call G_participants (hr.mono (by first | decide | omega)) rfl D_participants.m D_participants.F.kp D_participants.b .nil pass0 (pa_cons (pe_ix (r := rIxT K) ix_tup (pe_ix (r := rIxT K) ix_tup (pe_fldK (K := K) rfl (pe_fldK (K := K) rfl (pv 0) rfl) rfl) (pv 6) (fun _ _ => rfl)) pe_int (fun _ _ => rfl)) pa_nil)))) (fun _ _ _ _ _ => (pg_name (i := 8) sc_Post__enter.nd rfl (by first | exact Or.inl rfl | exact Or.inr rfl))) (fun _ _ _ _ _ => pts_nil) (fun _ _ _ _ _ => (pe_op (op_catAK (K := K) rfl) (pe_tup (pa_cons (pv 8) (pa_cons (pv 6) (pa_cons (pv 7) pa_nil)))) (pe_dget (hu_of hr) (pv 2) (pe_tup (pa_cons (pv 6) (pa_cons (pv 7) pa_nil))) (fun _ _ => rfl)))))
      (pss_cons (ps_set (i := 4) sc_Post__enter.nd rfl (by first | exact Or.inl rfl | exact Or.inr rfl) (pe_callB call_len_seq (by rfl) T.len PySem.boot_len (pa_cons (pe_fld (pv 0) rfl) pa_nil)))
      (pss_cons (ps_if (pt_cmpR op_gt (pe_op op_add (pv 4) (pe_callB call_len_seq (by rfl) T.len PySem.boot_len (pa_cons (pv 3) pa_nil))) (pe_gi rfl T.g_MOST_NOTICES) (nomark _))
      (pss_one (ps_raise rfl (takes_of rfl rfl rfl rfl) (pmk_own PySem.F.excBase_ValueError T.exc_TooMany.x T.exc_TooMany.g T.exc_TooMany.k (raises_own T.exc_TooMany.b T.exc_TooMany.t) rfl)))
      pss_nil)
      (pss_cons (ps_set (i := 5) sc_Post__enter.nd rfl (by first | exact Or.inl rfl | exact Or.inr rfl) (pe_callTy (call_tupleRng rfl) (by rfl) T.tuple (by decide +kernel) (pa_cons (pe_callTy cr_range2 (by rfl) T.range (by decide +kernel) (pa_cons (pe_op op_add (pv 4) pe_int) (pa_cons (pe_op op_add (pe_op op_add (pv 4) (pe_callB call_len_seq (by rfl) T.len PySem.boot_len (pa_cons (pv 3) pa_nil))) pe_int) pa_nil))) pa_nil)))
      (pss_cons (ps_expr (pe_meth0 (pv 0) T.cl_Post D_Post__take_notices.m G_Post__take_notices (hr.mono (by first | decide | omega)) D_Post__take_notices.b .nil pass0))
      (pss_cons (ps_expr (pe_bm PySem.F.plainAttrs_list PySem.F.slot_list_extend PySem.F.type_list_extend mt_extend (pe_fld (pv 0) rfl) (pa_cons (pv 3) pa_nil)))
      (pss_cons (ps_fld (pv 0) (pe_op op_catZ (pe_fld (pv 0) rfl) (pv 5)) rfl)
      (pss_one (ps_ret (pv 5)))))))))), ?_⟩
  obtain ⟨dx, au, alp, ar, ap, h0, ⟨zs, h1, h2⟩, h3, h4, h6, h8, h9⟩ := id hP
  obtain ⟨dy, ai, ae, at', ad, g0, g1, g2, ⟨xs, hS, hA⟩, g4, g5⟩ := id hM
  have hyl := h2.1
  have rl := rowsOf_len (L := L) (fun x hx => (hkk x hx).1) fun t ht => (hok.ok.ok t ht).p.hi
  have rl288 : (rowsOf M.trs L ks).length ≤ 288 := by omega
  obtain ⟨kl, hl1, hl2⟩ := id hL
  refine ⟨_, rfl, b, rfl, ⟨_, SqL.of hb⟩, fun D nD => lc2_out (walk_list (K := K) (a := b) (xs := ys)) (fun i H' => Same H H' ∧ ∃ ws, H' D = some (.lst ws) ∧ AllAt (NtAt K) H' ws ((rowsOf M.trs L (ks.take i)).map some)) ⟨same_new nD, [], upd_same, .nil⟩ (fun i H' _ z => SqL.of (z.1 _ _ hb)) ?_ ?_⟩
  · rintro i v H1 H2 hi ⟨s1, ws, hD, hw⟩ ⟨rfl, hv⟩
    obtain ⟨ky, hky, t0, rfl, ht0⟩ := hks.get hv
    obtain ⟨hn, hsome⟩ := hkk ky (List.mem_of_getElem? hky)
    obtain ⟨t, ht⟩ : ∃ t, M.trs[ky.1]? = some t := ⟨_, List.getElem?_eq_getElem hn⟩
    obtain ⟨y, hy, a1, vc, vp, rfl, f1, f2, f3⟩ := hA.2 ky.1 t ht
    have hp := (hok.ok.ok t (List.mem_of_getElem? ht)).p
    have et : M.trs.getD ky.1 ⟨"", .share 1, [], false⟩ = t := by rw [List.getD_eq_getElem?_getD, ht]; rfl
    have st := rowsOf_step (ts := M.trs) (L := L) hky
    obtain ⟨sv, hsv⟩ := Option.isSome_iff_exists.mp hsome
    have er : rowOf M.trs L ky = (insP t.pan).map fun z => ⟨z, ky.1, ky.2, sv.1, sv.2⟩ := by
      unfold rowOf
      rw [et, hsv]
      rfl
    generalize hw0 : wipe _ _ = w0
    have ew : w0 = [some (.ref p), some (.ref b), some (.ref al), none, none, none, none, none, none] := by
      rw [← hw0]
      kernel_rfl
    clear hw0
    subst ew
    have rb : (rowsOf M.trs L (ks.take i)).length ≤ 288 := by
      have := rowsOf_len (ts := M.trs) (L := L) (ks := ks.take i) (fun x hx => (hkk x (List.mem_of_mem_take hx)).1) fun t ht => (hok.ok.ok t ht).p.hi
      rw [List.length_take] at this
      omega
    refine ⟨t0, _, rfl, same_sqt s1 ht0, rfl, _, _, rfl, _, _, rfl, rfl, by kernel_rfl, ?_⟩
    refine ⟨_, rfl, p, C_Post, dx, _, _, rfl, s1 _ _ h0, T.cl_Post, T.no_Post_market, pf_m, m, C_Market, dy, _, _, rfl, s1 _ _ g0, T.cl_Market, T.no_Market_treaties, mf_t, _, rfl, at', xs, _, .ref a1, rfl, rfl, same_sqt s1 hS, atI_nat hy, a1, _, 2, vp, rfl, rfl, same_sqt s1 f1, rfl, vp, t.pan, rfl, PanAt.same s1 f3, by have := hp.hi; omega, fun o H3 s3 no ho => ?_⟩
    have s13 := s1.trans s3
    have hDo := s3 _ _ hD
    refine ⟨o, rfl, ⟨_, SqL.of ho⟩, lc2_in (walk_list (K := K) (a := o) (xs := (insP t.pan).map V.str)) (fun j H' => Same H H' ∧ Bar D H3 H' ∧ ∃ ws, H' D = some (.lst ws) ∧ AllAt (NtAt K) H' ws ((rowsOf M.trs L (ks.take i) ++ (rowOf M.trs L ky).take j).map some)) ⟨s13, Bar.refl _, ws, hDo, ?_⟩ (fun j H' _ z => SqL.of (z.2.1 _ _ (fun q => by rw [q, hDo] at ho; cases ho; exact absurd no (by rw [q, hD]; exact fun z => (nomatch z))) ho)) ?_ ?_⟩
    · rw [List.take_zero, List.append_nil]
      exact AllAt.same (R := NtAt K) (fun e r => NtAt.same e r) s3 hw
    · rintro j v4 H4 H5 hj ⟨s4, b4, ws4, hD4, hw4⟩ ⟨rfl, hv4⟩
      obtain ⟨z, rfl, hz⟩ := of_at_str hv4
      generalize hw0 : wipe _ _ = w0
      have ew : w0 = [some (.ref p), some (.ref b), some (.ref al), none, none, none, some (.int (ky.1 : Int)), some (.str ky.2), none] := by
        rw [← hw0]
        kernel_rfl
      clear hw0
      subst ew
      refine ⟨by kernel_rfl, ?_⟩
      refine ⟨_, rfl, _, rfl, _, rfl, sz (by show 3 ≤ 100000; decide), fun t1 nt1 => ?_⟩
      have s5 := same_new (o := .tup [.str z, .int (ky.1 : Int), .str ky.2]) nt1
      refine ⟨_, rfl, _, rfl, _, rfl, sz (by show 2 ≤ 100000; decide), fun kb nkb => ?_⟩
      have s6 := same_new (o := .tup [.int (ky.1 : Int), .str ky.2]) nkb
      have s56 := s5.trans s6
      have s46 := s4.trans s56
      rcases Kv.get kfL_inj ky (hl2.imp fun _ _ => SqAt.same s46) with ⟨q, _⟩ | ⟨sv2, v2, q, hval, t2, b2, ev2, hS2, hs2⟩
      · rw [hsv] at q
        cases q
      rw [hsv] at q
      cases q
      subst ev2
      refine ⟨al, _, rfl, .inr ⟨kl, kfL ky, kb, .inl (s46 _ _ hl1), rfl, upd_same, hval.symm⟩, ?_⟩
      have ht1 : SqT K (upd (upd H5 t1 (.tup [.str z, .int (ky.1 : Int), .str ky.2])) kb (.tup [.int (ky.1 : Int), .str ky.2])) t1 [.str z, .int (ky.1 : Int), .str ky.2] := same_sqt s6 (SqT.of upd_same)
      refine cat_any ht1 hS2 (sz (by show 5 ≤ 100000; decide)) fun r H6 s7 hr => ?_
      have s47 := s56.trans s7
      have hD6 := s47 _ _ hD4
      have nr : NtAt K H6 (.ref r) (some ⟨z, ky.1, ky.2, sv.1, sv.2⟩) := ⟨r, b2, rfl, hr, hs2.same s7⟩
      have hrow : (rowOf M.trs L ky)[j]? = some ⟨z, ky.1, ky.2, sv.1, sv.2⟩ := by
        rw [er, List.getElem?_map, hz]
        rfl
      have all6 := AllAt.add (AllAt.same (R := NtAt K) (fun e r => NtAt.same e r) s47 hw4) nr
      have wl : ws4.length ≤ 300 := by
        have := hw4.1
        rw [List.length_map, List.length_append, List.length_take] at this
        have h7 : (rowOf M.trs L ky).length ≤ 6 := by
          rw [er, List.length_map]
          exact Nat.le_trans (insP_le _) hp.hi
        omega
      refine ⟨ws4, hD6, szl (by omega), same_put (s4.trans s47) nD, b4.trans ((Bar.of s47).trans (Bar.put (Bar.refl _))), _, upd_same, ?_⟩
      rw [List.take_add_one, hrow, ← List.append_assoc, List.map_append]
      refine AllAt.imp (S := NtAt K) all6 fun y l r2 => ?_
      exact (Tups.put hD6 (fun _ z => (nomatch z)) fun _ _ z => (nomatch z)).nt r2
    · rintro H4 ⟨s4, b4, ws4, hD4, hw4⟩
      refine ⟨s4, ws4, hD4, ?_⟩
      have el : ((insP t.pan).map V.str).length = (rowOf M.trs L ky).length := by rw [er, List.length_map, List.length_map]
      rw [el, List.take_of_length_le (Nat.le_refl _)] at hw4
      rw [st]
      exact hw4
  rintro H1 ⟨s1, ws, hD, hw⟩
  rw [hks.1, List.take_of_length_le (Nat.le_refl _)] at hw
  obtain ⟨rs, hrs⟩ : ∃ rs, rowsOf M.trs L ks = rs := ⟨_, rfl⟩
  rw [hrs] at hw h rl288
  have hwl : ws.length = rs.length := by rw [hw.1, List.length_map]
  dsimp only
  refine nx_to ?_
  generalize hw0 : List.set _ _ _ = w0
  have ew : w0 = [some (.ref p), some (.ref b), some (.ref al), some (.ref D), none, none, none, none, none] := by
    rw [← hw0]
    kernel_rfl
  clear hw0
  subst ew
  have k0 := s1 _ _ h0
  have k1 := s1 _ _ h1
  have npn : p ≠ an := fun z => by
    rw [← z, k0] at k1
    cases k1
  have nDp : D ≠ p := fun z => by
    rw [z, k0] at hD
    cases hD
  have nDa : D ≠ an := fun z => by
    rw [z, h1] at nD
    cases nD
  refine ⟨_, rfl, p, C_Post, dx, _, _, rfl, k0, T.cl_Post, T.no_Post_notices, pf_n, an, _, rfl, .inl (SqL.of k1), ?_⟩
  refine ⟨_, rfl, _, rfl, D, _, rfl, .inl (SqL.of hD), _, _, rfl, rfl, _, _, rfl, rfl, _, rfl, ?_⟩
  rw [hyl, hwl]
  rcases h with ⟨hbig, q⟩ | ⟨hle, q⟩
  · rw [decide_eq_true (show (2000 : Int) < (P.nts.length : Int) + (rs.length : Int) by omega)]
    exact iteT (q H1 s1)
  rw [decide_eq_false (show ¬ (2000 : Int) < (P.nts.length : Int) + (rs.length : Int) by omega)]
  refine iteF ?_
  refine ⟨_, rfl, _, _, rfl, rfl, _, rfl, _, rfl, D, _, rfl, .inl (SqL.of hD), _, _, rfl, rfl, _, _, rfl, rfl, _, _, rfl, fun rg nrg => ?_⟩
  have s2 := same_new (o := .rng ((P.nts.length : Int) + 1) ((P.nts.length : Int) + (rs.length : Int) + 1)) nrg
  rw [hwl]
  refine ⟨rg, _, _, rfl, upd_same, RgOk.of_le (by omega) (by omega) (by omega) (by omega), fun tt H2 ntt s3 htt => ?_⟩
  rw [ids_rg] at htt
  have s13 := s1.trans (s2.trans s3)
  have j0 := s13 _ _ h0
  have j1 := s13 _ _ h1
  have jD := (s2.trans s3) _ _ hD
  have hw2 := AllAt.same (R := NtAt K) (fun e r => NtAt.same e r) (s2.trans s3) hw
  have hN2 := AllAt.same (R := NtAt K) (fun e r => NtAt.same e r) s13 h2
  have both := AllAt.app hN2 hw2
  have leq := left_enter P rs
  refine ⟨_, rfl, p, dx, _, rfl, j0, pf_no (by decide +kernel), p, dx, m, an, au, alp, ar, ap, k, zs, rfl, j0, j1, by omega, fun ek => ?_, fun ek a2 na2 => ?_⟩
  · subst ek
    refine ⟨_, rfl, p, C_Post, dx, _, _, rfl, j0, T.cl_Post, T.no_Post_notices, pf_n, .inl ⟨rfl, _, SqL.of j1⟩, _, rfl, an, D, zs, ws, rfl, rfl, j1, jD, sz (by omega), ?_⟩
    have b4 : Bar2 p an H2 (upd H2 an (.lst (zs ++ ws))) := bar2_put2 (bar2_refl _)
    have ha : ∀ u, H2 an = some u → ∃ xs, u = .lst xs := fun u hu => by
      rw [j1] at hu
      exact ⟨zs, (Option.some.inj hu).symm⟩
    have tu := tups_bar2 j0 ha b4
    refine ⟨_, rfl, p, C_Post, dx, _, _, rfl, by rw [upd_ne npn]; exact j0, T.cl_Post, T.no_Post_numbers, pf_u, _, rfl, au, tt, _, _, rfl, rfl, tu.fzt (h3.same s13), tu.fzt (.of htt), ?_, fun p3 H3 s4 z3 => ?_⟩
    · rw [List.length_map, List.length_map]
      have := leftF_len P.nts 1
      have h5 : (leftOf P).length ≤ P.nts.length := this
      have h6 : (idsF P.nts.length rs.length).length = rs.length := by unfold idsF; rw [List.length_map, List.length_range]
      exact sz (by omega)
    have i0 : H3 p = some (.ins C_Post dx (pf m an false au alp ar ap)) := s4 _ _ (by rw [upd_ne npn]; exact j0)
    refine ⟨_, rfl, p, C_Post, dx, _, rfl, i0, T.cl_Post, T.no_Post_numbers, by show 7 < 1000; decide, ?_⟩
    rw [pf_pu]
    have b5 : Bar2 p an H2 (upd H3 p (.ins C_Post dx (pf m an false p3 alp ar ap))) := bar2_put (bar2_trans b4 (bar2_of s4))
    have tu5 := tups_bar2 j0 ha b5
    rw [← List.map_append, ← leq] at z3
    refine ⟨_, rfl, ?_⟩
    refine q tt an false _ (bar2_trans (bar2_of s13) b5) ⟨rfl, .inl ⟨rfl, rfl⟩⟩ (kx_of h0 upd_same ⟨.inl rfl, .inl rfl, .inl rfl⟩) ?_ (tu5.sqt htt.sqt)
    have i1 : upd H3 p (.ins C_Post dx (pf m an false p3 alp ar ap)) an = some (.lst (zs ++ ws)) := by
      rw [upd_ne npn.symm]
      exact s4 _ _ upd_same
    have tu3 := (Tups.put (u := .ins C_Post dx (pf m an false au alp ar ap)) (o := .ins C_Post dx (pf m an false p3 alp ar ap)) i0 (fun _ z => (nomatch z)) fun _ _ z => (nomatch z))
    obtain ⟨kl4, hl4, hk4⟩ := LsAt.same s13 h4
    obtain ⟨kr6, hr6, hk6⟩ := RcAt.same s13 h6
    have nn : ∀ {b : Addr} {u : HO}, H2 b = some u → (∀ C dx fs, u ≠ .ins C dx fs) → (∀ xs, u ≠ .lst xs) → upd H3 p (.ins C_Post dx (pf m an false p3 alp ar ap)) b = some u := fun {b u} h n1 n2 => b5 b u (fun z => by rw [z, j0] at h; exact n1 _ _ _ (Option.some.inj h).symm) (fun z => by rw [z, j1] at h; exact n2 _ (Option.some.inj h).symm) h
    exact ⟨dx, p3, alp, ar, ap, upd_same, ⟨_, i1, AllAt.imp (S := NtAt K) both fun _ _ => tu5.nt⟩, tu3.fzt z3, ⟨kl4, nn hl4 (fun _ _ _ z => (nomatch z)) (fun _ z => (nomatch z)), hk4.imp fun _ _ => tu5.sq⟩, ⟨kr6, nn hr6 (fun _ _ _ z => (nomatch z)) (fun _ z => (nomatch z)), hk6.imp fun _ _ => tu5.sq⟩, nn (s13 _ _ h8) h9.1 h9.2, h9⟩
  · subst ek
    have npa : p ≠ a2 := ne_of_none j0 na2
    have nDa2 : D ≠ a2 := ne_of_none jD na2
    obtain ⟨Hk, eHk⟩ : ∃ Hk, upd (upd H2 a2 (.lst zs)) p (.ins C_Post dx (pf m a2 false au alp ar ap)) = Hk := ⟨_, rfl⟩
    have g0' : Hk p = some (.ins C_Post dx (pf m a2 false au alp ar ap)) := by rw [← eHk]; exact upd_same
    have g1' : Hk a2 = some (.lst zs) := by rw [← eHk, upd_ne npa.symm]; exact upd_same
    have gD : Hk D = some (.lst ws) := by rw [← eHk, upd_ne nDp, upd_ne nDa2]; exact jD
    have b3 : Bar2 p a2 H2 Hk := by rw [← eHk]; exact bar2_put (bar2_put2 (bar2_refl _))
    rw [eHk]
    clear eHk
    refine ⟨_, rfl, p, C_Post, dx, _, _, rfl, g0', T.cl_Post, T.no_Post_notices, pf_n, .inl ⟨rfl, _, SqL.of g1'⟩, _, rfl, a2, D, zs, ws, rfl, rfl, g1', gD, sz (by omega), ?_⟩
    have b4 : Bar2 p a2 H2 (upd Hk a2 (.lst (zs ++ ws))) := bar2_put2 b3
    have ha : ∀ u, H2 a2 = some u → ∃ xs, u = .lst xs := fun u hu => by
      rw [na2] at hu
      cases hu
    have tu := tups_bar2 j0 ha b4
    refine ⟨_, rfl, p, C_Post, dx, _, _, rfl, by rw [upd_ne npa]; exact g0', T.cl_Post, T.no_Post_numbers, pf_u, _, rfl, au, tt, _, _, rfl, rfl, tu.fzt (h3.same s13), tu.fzt (.of htt), ?_, fun p3 H3 s4 z3 => ?_⟩
    · rw [List.length_map, List.length_map]
      have := leftF_len P.nts 1
      have h5 : (leftOf P).length ≤ P.nts.length := this
      have h6 : (idsF P.nts.length rs.length).length = rs.length := by unfold idsF; rw [List.length_map, List.length_range]
      exact sz (by omega)
    have i0 : H3 p = some (.ins C_Post dx (pf m a2 false au alp ar ap)) := s4 _ _ (by rw [upd_ne npa]; exact g0')
    refine ⟨_, rfl, p, C_Post, dx, _, rfl, i0, T.cl_Post, T.no_Post_numbers, by show 7 < 1000; decide, ?_⟩
    rw [pf_pu]
    have b5 : Bar2 p a2 H2 (upd H3 p (.ins C_Post dx (pf m a2 false p3 alp ar ap))) := bar2_put (bar2_trans b4 (bar2_of s4))
    have tu5 := tups_bar2 j0 ha b5
    rw [← List.map_append, ← leq] at z3
    refine ⟨_, rfl, ?_⟩
    have i1 : upd H3 p (.ins C_Post dx (pf m a2 false p3 alp ar ap)) a2 = some (.lst (zs ++ ws)) := by
      rw [upd_ne npa.symm]
      exact s4 _ _ upd_same
    have tu3 := (Tups.put (u := .ins C_Post dx (pf m a2 false au alp ar ap)) (o := .ins C_Post dx (pf m a2 false p3 alp ar ap)) i0 (fun _ z => (nomatch z)) fun _ _ z => (nomatch z))
    obtain ⟨kl4, hl4, hk4⟩ := LsAt.same s13 h4
    obtain ⟨kr6, hr6, hk6⟩ := RcAt.same s13 h6
    have nn : ∀ {b : Addr} {u : HO}, H2 b = some u → (∀ C dx fs, u ≠ .ins C dx fs) → (∀ xs, u ≠ .lst xs) → upd H3 p (.ins C_Post dx (pf m a2 false p3 alp ar ap)) b = some u := fun {b u} h n1 n2 => b5 b u (fun z => by rw [z, j0] at h; exact n1 _ _ _ (Option.some.inj h).symm) (fun z => by rw [z, na2] at h; cases h) h
    refine q tt a2 false _ (fun b u n1 n2 hb => b5 b u n1 (fun z => ?_) (s13 _ _ hb)) ⟨rfl, .inr ⟨rfl, s13.free na2⟩⟩ (kx_of h0 upd_same ⟨.inl rfl, .inl rfl, .inl rfl⟩) ⟨dx, p3, alp, ar, ap, upd_same, ⟨_, i1, AllAt.imp (S := NtAt K) both fun _ _ => tu5.nt⟩, tu3.fzt z3, ⟨kl4, nn hl4 (fun _ _ _ z => (nomatch z)) (fun _ z => (nomatch z)), hk4.imp fun _ _ => tu5.sq⟩, ⟨kr6, nn hr6 (fun _ _ _ z => (nomatch z)) (fun _ z => (nomatch z)), hk6.imp fun _ _ => tu5.sq⟩, nn (s13 _ _ h8) h9.1 h9.2, h9⟩ (tu5.sqt htt.sqt)
    have := s13 _ _ hb
    rw [z, na2] at this
    cases this

theorem ok_Post__take_notices {f : Addr} {fd : FuncData} (D_Post__take_notices : Mth K C_Post "_take_notices" "Post._take_notices" s_Post__take_notices ["self"] f fd) (T : Tx K mg C_BadName C_BadCover C_BadPanel C_BadAmount C_NameTaken C_NoSuchName C_NoSuchNotice C_Twice C_OwnPanel C_TooMany C_NoEnd C_Post C_Market N_NOTHING) :
    FnOk P w K mg base CX0 (1) f fd ["self"] (sp_take_notices K C_Post) := by
  refine D_Post__take_notices.F.ok sc_Post__take_notices (fun vs H Q E h => ?_) (fun cdv A outer s H vs Q E hr h => ?_)
  · obtain ⟨p, dx, m, an, au, al, ar, ap, k, ys, rfl, h0, h1, hl, q1, q2⟩ := h
    rfl
  obtain ⟨p, dx, m, an, au, al, ar, ap, k, ys, rfl, h0, h1, hl, q1, q2⟩ := h
  refine ⟨_, (pss_one (ps_if (pt_val (pe_fld (pv 0) rfl))
      (pss_cons (ps_fld (pv 0) (pe_callTy call_list_of (by rfl) T.list (by decide +kernel) (pa_cons (pe_fld (pv 0) rfl) pa_nil)) rfl)
      (pss_one (ps_fld (pv 0) pe_bl rfl)))
      pss_nil)), ?_⟩
  refine ⟨_, rfl, p, C_Post, dx, _, _, rfl, h0, T.cl_Post, T.no_Post_is_kept, pf_k, k, rfl, ?_⟩
  cases k with
  | false => exact iteF (q1 rfl)
  | true =>
    refine iteT ⟨_, rfl, p, C_Post, dx, _, _, rfl, h0, T.cl_Post, T.no_Post_notices, pf_n, an, ys, rfl, .inl (SqL.of h1), fun l nl => ⟨_, rfl, p, C_Post, dx, _, rfl, ne_keep nl h0, T.cl_Post, T.no_Post_notices, by show 7 < 1000; decide, ?_⟩⟩
    rw [pf_pn]
    refine ⟨_, rfl, p, C_Post, dx, _, rfl, upd_same, T.cl_Post, T.no_Post_is_kept, by show 7 < 1000; decide, ?_⟩
    rw [pf_pk, upd_upd]
    exact q2 rfl l nl

theorem ok_Post__is_worth {f : Addr} {fd : FuncData} (D_Post__is_worth : Mth K C_Post "_is_worth" "Post._is_worth" s_Post__is_worth ["self", "number"] f fd) (T : Tx K mg C_BadName C_BadCover C_BadPanel C_BadAmount C_NameTaken C_NoSuchName C_NoSuchNotice C_Twice C_OwnPanel C_TooMany C_NoEnd C_Post C_Market N_NOTHING) {f_Post__last_sequence : Addr} {fd_Post__last_sequence : FuncData} (D_Post__last_sequence : Mth K C_Post "_last_sequence" "Post._last_sequence" s_Post__last_sequence ["self", "number", "event"] f_Post__last_sequence fd_Post__last_sequence) (G_Post__last_sequence : FnOk P w K mg base CX0 (1) f_Post__last_sequence fd_Post__last_sequence ["self", "number", "event"] (sp_last_sequence K C_Post)) {f_Post__received_sequence : Addr} {fd_Post__received_sequence : FuncData} (D_Post__received_sequence : Mth K C_Post "_received_sequence" "Post._received_sequence" s_Post__received_sequence ["self", "recipient", "number", "event"] f_Post__received_sequence fd_Post__received_sequence) (G_Post__received_sequence : FnOk P w K mg base CX0 (1) f_Post__received_sequence fd_Post__received_sequence ["self", "recipient", "number", "event"] (sp_received_sequence K C_Post)) :
    FnOk P w K mg base CX0 (2) f fd ["self", "number"] (sp_is_worth K C_Post) := by
  refine D_Post__is_worth.F.ok sc_Post__is_worth (fun vs H Q E h => ?_) (fun cdv A outer s H vs Q E hr h => ?_)
  · obtain ⟨p, m, an, k, P, x, c, rfl, hP, hc, q⟩ := h
    rfl
  obtain ⟨p, m, an, k, P, x, c, rfl, hP, hc, q⟩ := h
  refine ⟨_, (pss_cons (ps_asg (pe_ix (r := rIxL K) ix_list (pe_fld (pv 0) rfl) (pe_op op_sub (pv 1) pe_int) (fun _ _ => rfl)) (pg_tup rfl (pgs_cons (pg_name (i := 2) sc_Post__is_worth.nd rfl (by first | exact Or.inl rfl | exact Or.inr rfl)) (pgs_cons (pg_name (i := 3) sc_Post__is_worth.nd rfl (by first | exact Or.inl rfl | exact Or.inr rfl)) (pgs_cons (pg_name (i := 4) sc_Post__is_worth.nd rfl (by first | exact Or.inl rfl | exact Or.inr rfl)) (pgs_cons (pg_name (i := 5) sc_Post__is_worth.nd rfl (by first | exact Or.inl rfl | exact Or.inr rfl)) (pgs_cons (pg_name (i := 6) sc_Post__is_worth.nd rfl (by first | exact Or.inl rfl | exact Or.inr rfl)) pgs_nil)))))))
      (pss_one (ps_ret (pe_and (pe_cmpR op_eq (pv 5) (pe_meth (pv 0) T.cl_Post D_Post__last_sequence.m G_Post__last_sequence (hr.mono (by first | decide | omega)) D_Post__last_sequence.b .nil pass0 (pa_cons (pv 3) (pa_cons (pv 4) pa_nil))) (nomark _)) (pe_one (pe_cmpR op_gt (pv 5) (pe_meth (pv 0) T.cl_Post D_Post__received_sequence.m G_Post__received_sequence (hr.mono (by first | decide | omega)) D_Post__received_sequence.b .nil pass0 (pa_cons (pv 2) (pa_cons (pv 3) (pa_cons (pv 4) pa_nil)))) (nomark _))))))), ?_⟩
  obtain ⟨dx, au, al, ar, ap, h0, ⟨ys, h1, h2⟩, _⟩ := id hP
  obtain ⟨x1, ho⟩ := ntAt_of hc
  obtain ⟨v, hat, t, b, ev, hS, hs⟩ := nt_val h2 x1 ho
  subst ev
  refine ⟨_, rfl, p, C_Post, dx, _, _, rfl, h0, T.cl_Post, T.no_Post_notices, pf_n, _, rfl, _, _, rfl, rfl, an, ys, _, _, rfl, rfl, SqL.of h1, hat, t, _, rfl, hS, rfl, _, _, rfl, _, _, rfl, _, _, rfl, _, _, rfl, _, _, rfl, rfl, ?_⟩
  refine ⟨_, rfl, _, rfl, p, dx, _, rfl, h0, pf_no (by decide +kernel), _, rfl, _, rfl, p, m, an, k, P, c.n, c.e, rfl, hP, fun H1 s1 => ⟨rfl, _, rfl, ?_⟩⟩
  rw [dec_int]
  by_cases e1 : c.q = (lastOf P c.n c.e).1
  · rw [decide_eq_true e1]
    refine iteT ⟨_, rfl, _, rfl, p, dx, _, rfl, s1 _ _ h0, pf_no (by decide +kernel), _, rfl, _, rfl, _, rfl, p, m, an, k, P, c.z, c.n, c.e, rfl, PostAt.same s1 hP, fun H2 s2 => ⟨_, _, rfl, rfl, ?_⟩⟩
    have := q H2 (s1.trans s2)
    unfold worth at this
    rw [decide_eq_true e1, Bool.true_and] at this
    exact this
  · rw [decide_eq_false e1]
    have := q H1 s1
    unfold worth at this
    rw [decide_eq_false e1, Bool.false_and] at this
    exact iteF this

theorem ok_Post__is_told {f : Addr} {fd : FuncData} (D_Post__is_told : Mth K C_Post "_is_told" "Post._is_told" s_Post__is_told ["self", "number"] f fd) (T : Tx K mg C_BadName C_BadCover C_BadPanel C_BadAmount C_NameTaken C_NoSuchName C_NoSuchNotice C_Twice C_OwnPanel C_TooMany C_NoEnd C_Post C_Market N_NOTHING) {f_participants : Addr} {fd_participants : FuncData} (D_participants : Dfn K mg "participants" s_participants ["panel"] f_participants fd_participants) (G_participants : FnOk P w K mg base CX0 (1) f_participants fd_participants ["panel"] (sp_participants K)) {f_Post__received_sequence : Addr} {fd_Post__received_sequence : FuncData} (D_Post__received_sequence : Mth K C_Post "_received_sequence" "Post._received_sequence" s_Post__received_sequence ["self", "recipient", "number", "event"] f_Post__received_sequence fd_Post__received_sequence) (G_Post__received_sequence : FnOk P w K mg base CX0 (1) f_Post__received_sequence fd_Post__received_sequence ["self", "recipient", "number", "event"] (sp_received_sequence K C_Post)) {f_Post__last_sequence : Addr} {fd_Post__last_sequence : FuncData} (D_Post__last_sequence : Mth K C_Post "_last_sequence" "Post._last_sequence" s_Post__last_sequence ["self", "number", "event"] f_Post__last_sequence fd_Post__last_sequence) (G_Post__last_sequence : FnOk P w K mg base CX0 (1) f_Post__last_sequence fd_Post__last_sequence ["self", "number", "event"] (sp_last_sequence K C_Post)) :
    FnOk P w K mg base CX0 (2) f fd ["self", "number"] (sp_is_told K C_Post C_Market) := by
  refine D_Post__is_told.F.ok sc_Post__is_told (fun vs H Q E h => ?_) (fun cdv A outer s H vs Q E hr h => ?_)
  · obtain ⟨p, m, an, k, M, P, n, rfl, hP, hM, hok, hn, q⟩ := h
    rfl
  obtain ⟨p, m, an, k, M, P, n, rfl, hP, hM, hok, hn, q⟩ := h
  refine ⟨_, (pss_cons (ps_set (i := 2) sc_Post__is_told.nd rfl (by first | exact Or.inl rfl | exact Or.inr rfl) (pe_call G_participants (hr.mono (by first | decide | omega)) rfl D_participants.m D_participants.F.kp D_participants.b .nil pass0 (pa_cons (pe_ix (r := rIxT K) ix_tup (pe_ix (r := rIxT K) ix_tup (pe_fld (pe_fld (pv 0) rfl) rfl) (pv 1) (fun _ _ => rfl)) pe_int (fun _ _ => rfl)) pa_nil)))
      (pss_one (ps_ret (pe_callB (cr_all rfl) (by rfl) T.all (by decide +kernel) (pa_cons (pe_lc2 (own := [("event", 3), ("insurer", 4)]) (vs1 := [4]) (g := (gName 3)) (g1 := (gName 4)) (tt := tYes) (tt1 := tYes) rfl sc_Post__is_told.nd (pi_tup (pe_fld (pe_fld (pv 0) rfl) rfl)) (blkOk_by (own := [("event", 3), ("insurer", 4)]) (N := (["self", "number", "insurers", "event", "insurer"] : List Str)) (sc := defScope s_Post__is_told) (by decide +kernel)) (by decide) (fun _ _ _ _ _ => (pg_name (i := 3) sc_Post__is_told.nd rfl (by first | exact Or.inl rfl | exact Or.inr rfl))) (fun _ _ _ _ _ => pts_nil) (fun _ _ _ _ _ => (pi_listK (K := K) rfl (pv 2))) (fun _ _ _ _ _ => (pg_name (i := 4) sc_Post__is_told.nd rfl (by first | exact Or.inl rfl | exact Or.inr rfl))) (fun _ _ _ _ _ => pts_nil) (fun _ _ _ _ _ => (pe_cmpR op_eq (pe_meth (pv 0) T.cl_Post D_Post__received_sequence.m G_Post__received_sequence (hr.mono (by first | decide | omega)) D_Post__received_sequence.b .nil pass0 (pa_cons (pv 4) (pa_cons (pv 1) (pa_cons (pv 3) pa_nil)))) (pe_meth (pv 0) T.cl_Post D_Post__last_sequence.m G_Post__last_sequence (hr.mono (by first | decide | omega)) D_Post__last_sequence.b .nil pass0 (pa_cons (pv 1) (pa_cons (pv 3) pa_nil))) (nomark _)))) pa_nil))))), ?_⟩
  obtain ⟨dx, au, al, ar, ap, h0, ⟨ys, h1, h2⟩, h3, h4, h6, h8, h9⟩ := id hP
  obtain ⟨dy, ai, ae, at', ad, g0, g1, g2, ⟨xs, hS, hA⟩, g4, g5⟩ := id hM
  obtain ⟨t, ht⟩ : ∃ t, M.trs[n]? = some t := ⟨_, List.getElem?_eq_getElem hn⟩
  obtain ⟨y, hy, a1, vc, vp, rfl, f1, f2, f3⟩ := hA.2 n t ht
  have hp := (hok.ok.ok t (List.mem_of_getElem? ht)).p
  have et : M.trs.getD n ⟨"", .share 1, [], false⟩ = t := by rw [List.getD_eq_getElem?_getD, ht]; rfl
  refine ⟨_, rfl, p, C_Post, dx, _, _, rfl, h0, T.cl_Post, T.no_Post_market, pf_m, m, C_Market, dy, _, _, rfl, g0, T.cl_Market, T.no_Market_treaties, mf_t, _, rfl, at', xs, _, .ref a1, rfl, rfl, hS, atI_nat hy, a1, _, 2, vp, rfl, rfl, f1, rfl, vp, t.pan, rfl, f3, by have := hp.hi; omega, fun o H1 s1 no ho => ?_⟩
  have hP1 := PostAt.same s1 hP
  have il := insP_le t.pan
  have ph := hp.hi
  have el := hok.el
  obtain ⟨w, hw⟩ : ∃ w : Str → Str → Bool, (fun e z => decide ((recvOf P z n e).1 = (lastOf P n e).1)) = w := ⟨_, rfl⟩
  have we : ∀ e z, decide ((recvOf P z n e).1 = (lastOf P n e).1) = w e z := fun e z => by rw [← hw]
  refine ⟨_, rfl, p, C_Post, dx, _, _, rfl, s1 _ _ h0, T.cl_Post, T.no_Post_market, pf_m, m, C_Market, dy, _, _, rfl, s1 _ _ g0, T.cl_Market, T.no_Market_events, mf_e, ae, rfl, ⟨_, same_sqt s1 g2⟩, fun D nD => lc2_out (walk_tup (K := K) (a := ae) (xs := M.evs.map V.str)) (fun i H' => Same H1 H' ∧ H' D = some (.lst ((((M.evs.take i).flatMap fun e => (insP t.pan).map (w e))).map V.bl))) ⟨same_new nD, upd_same⟩ (fun i H' _ z => same_sqt (s1.trans z.1) g2) ?_ ?_⟩
  · rintro i v H2 H3 hi ⟨s2, hD⟩ ⟨rfl, hv⟩
    obtain ⟨e, rfl, he⟩ := of_at_str hv
    generalize hw0 : wipe _ _ = w0
    have ew : w0 = [some (.ref p), some (.int (n : Int)), some (.ref o), none, none] := by
      rw [← hw0]
      kernel_rfl
    clear hw0
    subst ew
    have bd : ((M.evs.take i).flatMap fun e => (insP t.pan).map (w e)).length ≤ 18 := by
      have := flat_len (fun e => (insP t.pan).map (w e)) 6 (M.evs.take i) fun x _ => by rw [List.length_map]; omega
      rw [List.length_take] at this
      omega
    have st : (M.evs.take (i + 1)).flatMap (fun e => (insP t.pan).map (w e)) = (M.evs.take i).flatMap (fun e => (insP t.pan).map (w e)) ++ (insP t.pan).map (w e) := by
      rw [List.take_add_one, he, List.flatMap_append]
      simp
    refine ⟨by kernel_rfl, _, rfl, o, rfl, ⟨_, SqL.of (s2 _ _ ho)⟩, lc2_in (walk_list (K := K) (a := o) (xs := (insP t.pan).map V.str)) (fun j H' => Same H1 H' ∧ H' D = some (.lst ((((M.evs.take i).flatMap fun e => (insP t.pan).map (w e)) ++ ((insP t.pan).take j).map (w e)).map V.bl))) ⟨s2, by rw [List.take_zero, List.map_nil, List.append_nil]; exact hD⟩ (fun j H' _ z => SqL.of (z.1 _ _ ho)) ?_ ?_⟩
    · rintro j v H4 H5 hj ⟨s4, hD4⟩ ⟨rfl, hv4⟩
      obtain ⟨z, rfl, hz⟩ := of_at_str hv4
      generalize hw0 : wipe _ _ = w0
      have ew : w0 = [some (.ref p), some (.int (n : Int)), some (.ref o), some (.str e), none] := by
        rw [← hw0]
        kernel_rfl
      clear hw0
      subst ew
      have k0 := s4 _ _ (s1 _ _ h0)
      refine ⟨by kernel_rfl, _, rfl, p, dx, _, rfl, k0, pf_no (by decide +kernel), _, rfl, _, rfl, _, rfl, p, m, an, k, P, z, n, e, rfl, PostAt.same s4 hP1, fun H6 s6 => ?_⟩
      refine ⟨_, rfl, p, dx, _, rfl, s6 _ _ k0, pf_no (by decide +kernel), _, rfl, _, rfl, p, m, an, k, P, n, e, rfl, PostAt.same (s4.trans s6) hP1, fun H7 s7 => ⟨rfl, ?_⟩⟩
      rw [dec_int, we]
      have s47 := s4.trans (s6.trans s7)
      have hD7 := (s6.trans s7) _ _ hD4
      have lj : ((insP t.pan).take j).length ≤ 6 := by
        rw [List.length_take]
        omega
      refine ⟨_, hD7, ?_, same_put s47 nD, ?_⟩
      · rw [List.length_map, List.length_append, List.length_map]
        exact szl (by omega)
      · rw [upd_same, List.take_add_one, hz, List.map_append, List.map_append, List.map_append, List.append_assoc, List.map_append]
        rfl
    · rintro H4 ⟨s4, hD4⟩
      rw [List.length_map, List.take_of_length_le (Nat.le_refl _)] at hD4
      exact ⟨s4, by rw [st]; exact hD4⟩
  · rintro H2 ⟨s2, hD⟩
    rw [List.length_map, List.take_of_length_le (Nat.le_refl _)] at hD
    refine ⟨D, _, rfl, SqL.of hD, ?_⟩
    have := q H2 (s1.trans s2)
    have e : told M P n = ((M.evs.flatMap fun e => (insP t.pan).map (w e)).all id) := by
      unfold told
      rw [et, List.all_flatMap]
      congr 1
      funext e
      rw [List.all_map]
      congr 1
      funext z
      exact we e z
    rw [e] at this
    exact this

theorem ok_check_new_name {f : Addr} {fd : FuncData} (D_check_new_name : Dfn K mg "check_new_name" s_check_new_name ["name", "names", "most"] f fd) (T : Tx K mg C_BadName C_BadCover C_BadPanel C_BadAmount C_NameTaken C_NoSuchName C_NoSuchNotice C_Twice C_OwnPanel C_TooMany C_NoEnd C_Post C_Market N_NOTHING) {f_check_name : Addr} {fd_check_name : FuncData} (D_check_name : Dfn K mg "check_name" s_check_name ["value"] f_check_name fd_check_name) (G_check_name : FnOk P w K mg base (L2.CX P w) (2) f_check_name fd_check_name ["value"] (sp_check_name K C_BadName)) {f_NameTaken___init : Addr} {fd_NameTaken___init : FuncData} (D_NameTaken___init : Ini K C_NameTaken "NameTaken.__init__" s_NameTaken___init ["self", "name"] f_NameTaken___init fd_NameTaken___init) (G_NameTaken___init : FnOk P w K mg base CX0 (1) f_NameTaken___init fd_NameTaken___init ["self", "name"] (sp_xi "name" C_NameTaken)) :
    FnOk P w K mg base (L2.CX P w) (3) f fd ["name", "names", "most"] (sp_check_new_name K C_BadName C_TooMany C_NameTaken) := by
  refine D_check_new_name.F.okX sc_check_new_name (fun vs H Q E h => ?_) (fun cdv A outer s H vs Q E hr h => ?_)
  · obtain ⟨x, a, ys, n, rfl, hS, h⟩ := h
    rfl
  obtain ⟨x, a, ys, n, rfl, hS, h⟩ := h
  refine ⟨_, (pss_cons (ps_expr (pe_call G_check_name (hr.mono (by first | decide | omega)) rfl D_check_name.m D_check_name.F.kp D_check_name.b .nil (passes_call (takes_of rfl rfl rfl rfl) (fun _ _ _ _ h => h)) (pa_cons (pv 0) pa_nil)))
      (pss_cons (ps_if (pt_cmpR op_ge (pe_callB call_len_seq (by rfl) T.len PySem.boot_len (pa_cons (pv 1) pa_nil)) (pv 2) (nomark _))
      (pss_one (ps_raise rfl (takes_of rfl rfl rfl rfl) (pmk_own PySem.F.excBase_ValueError T.exc_TooMany.x T.exc_TooMany.g T.exc_TooMany.k (raises_own T.exc_TooMany.b T.exc_TooMany.t) rfl)))
      pss_nil)
      (pss_one (ps_if (pt_cmpR op_in_seq (pv 0) (pv 1) (by with_unfolding_all rfl))
      (pss_one (ps_raise rfl (takes_of rfl rfl rfl rfl) (pmk_oex T.ox_NameTaken.o D_NameTaken___init.i D_NameTaken___init.t G_NameTaken___init (hr.mono (by first | decide | omega)) D_NameTaken___init.b .nil pass0 rfl T.ox_NameTaken.g (pa_cons (pv 0) pa_nil))))
      pss_nil)))), ?_⟩
  rcases h with ⟨h, q⟩ | ⟨z, rfl, h, q⟩
  · exact ⟨_, rfl, _, rfl, .inr ⟨h, q⟩⟩
  · refine ⟨_, rfl, _, rfl, .inl ⟨h, fun H' sm => ?_⟩⟩
    refine ⟨_, rfl, a, _, rfl, .inr (same_sqt sm hS), _, rfl, _, _, rfl, rfl, _, rfl, ?_⟩
    rw [List.length_map]
    rcases q with ⟨hn, q⟩ | ⟨hn, hz, q⟩ | ⟨hn, hz, q⟩
    · rw [decide_eq_true hn]
      exact iteT (q H' sm)
    · rw [decide_eq_false hn]
      refine iteF ⟨_, rfl, _, rfl, a, _, rfl, .inr (same_sqt sm hS), rfl, flat_strs ys, ?_⟩
      rw [inV_str, decide_eq_true hz]
      exact ⟨_, rfl, iteT ⟨_, rfl, mkO_to fun d nd => q _ d (same_add sm nd) upd_same⟩⟩
    · rw [decide_eq_false hn]
      refine iteF ⟨_, rfl, _, rfl, a, _, rfl, .inr (same_sqt sm hS), rfl, flat_strs ys, ?_⟩
      rw [inV_str, decide_eq_false hz]
      exact ⟨_, rfl, iteF (q H' sm)⟩

theorem ok_check_placed {f : Addr} {fd : FuncData} (D_check_placed : Dfn K mg "check_placed" s_check_placed ["cedent", "panel", "insurers"] f fd) (T : Tx K mg C_BadName C_BadCover C_BadPanel C_BadAmount C_NameTaken C_NoSuchName C_NoSuchNotice C_Twice C_OwnPanel C_TooMany C_NoEnd C_Post C_Market N_NOTHING) {f_check_known : Addr} {fd_check_known : FuncData} (D_check_known : Dfn K mg "check_known" s_check_known ["name", "names"] f_check_known fd_check_known) (G_check_known : FnOk P w K mg base (L2.CX P w) (3) f_check_known fd_check_known ["name", "names"] (sp_check_known K C_NoSuchName)) :
    FnOk P w K mg base (L2.CX P w) (4) f fd ["cedent", "panel", "insurers"] (sp_check_placed K C_NoSuchName C_Twice C_OwnPanel) := by
  refine D_check_placed.F.okX sc_check_placed (fun vs H Q E h => ?_) (fun cdv A outer s H vs Q E hr h => ?_)
  · obtain ⟨c, x, a, ins, ps, rfl, hP, hn, hI, q⟩ := h
    rfl
  obtain ⟨c, x, a, ins, ps, rfl, hP, hn, hI, q⟩ := h
  refine ⟨_, (pss_cons (ps_expr (pe_call G_check_known (hr.mono (by first | decide | omega)) rfl D_check_known.m D_check_known.F.kp D_check_known.b .nil (passes_call (takes_of rfl rfl rfl rfl) (fun _ _ _ _ h => h)) (pa_cons (pv 0) (pa_cons (pv 2) pa_nil))))
      (pss_cons (ps_setLc (i := 3) (own := [("participant", 4), ("_", 5)]) (g := (gTup K 2 (gCons (gName 4) (gCons (gName 5) gNil)))) (tt := tYes) rfl sc_check_placed.nd rfl rfl (sw_true rfl rfl rfl (by decide +kernel)) (pi_tup (pv 1)) (blkOk_by (own := [("participant", 4), ("_", 5)]) (N := (["cedent", "panel", "insurers", "participants", "participant", "_"] : List Str)) (sc := defScope s_check_placed) (by decide +kernel)) (fun _ _ _ _ _ => (pg_tup rfl (pgs_cons (pg_name (i := 4) sc_check_placed.nd rfl (by first | exact Or.inl rfl | exact Or.inr rfl)) (pgs_cons (pg_name (i := 5) sc_check_placed.nd rfl (by first | exact Or.inl rfl | exact Or.inr rfl)) pgs_nil)))) (fun _ _ _ _ _ => pts_nil) (fun _ _ _ _ _ => (pv 4)))
      (pss_cons (ps_for (passes_of rfl) rfl (pi_list (pv 3)) (pg_name (i := 4) sc_check_placed.nd rfl (by first | exact Or.inl rfl | exact Or.inr rfl))
      (pss_one (ps_if (pt_cmpR op_notN (pv 4) pe_non (nomark _))
      (pss_one (ps_expr (pe_call G_check_known (hr.mono (by first | decide | omega)) rfl D_check_known.m D_check_known.F.kp D_check_known.b .nil (passes_call (takes_of rfl rfl rfl rfl) (fun _ _ _ _ h => h)) (pa_cons (pv 4) (pa_cons (pv 2) pa_nil)))))
      pss_nil)))
      (pss_cons (ps_if (pt_cmpR op_lt (pe_lenSetO rfl (by rfl) T.len (by rfl) T.set (pv 3)) (pe_callB call_len_seq (by rfl) T.len PySem.boot_len (pa_cons (pv 3) pa_nil)) (nomark _))
      (pss_one (ps_raise rfl (takes_of rfl rfl rfl rfl) (pmk_own PySem.F.excBase_ValueError T.exc_Twice.x T.exc_Twice.g T.exc_Twice.k (raises_own T.exc_Twice.b T.exc_Twice.t) rfl)))
      pss_nil)
      (pss_one (ps_if (pt_cmpR op_in_seq (pv 0) (pv 3) (by with_unfolding_all rfl))
      (pss_one (ps_raise rfl (takes_of rfl rfl rfl rfl) (pmk_own PySem.F.excBase_ValueError T.exc_OwnPanel.x T.exc_OwnPanel.g T.exc_OwnPanel.k (raises_own T.exc_OwnPanel.b T.exc_OwnPanel.t) rfl)))
      pss_nil)))))), ?_⟩
  obtain ⟨pa, px, rfl, hpS, hpl, hpE⟩ := PanAt.ent hP
  refine ⟨_, rfl, _, rfl, c, a, ins, rfl, hI, ?_⟩
  by_cases hc : c ∈ ins
  rotate_left
  · refine .inr ⟨hc, fun d nd => ?_⟩
    have e : placed c ps ins = some (.known c) := if_pos hc
    rw [e] at q
    exact q _ d (same_new nd) (upd_same)
  refine .inl ⟨hc, ?_⟩
  have e : placed c ps ins = _ := if_neg (fun h => h hc)
  refine ⟨_, rfl, pa, rfl, ⟨_, hpS⟩, fun D nD => lc_tup (K := K) (a := pa) (xs := px) (fun i H' => Same H H' ∧ H' D = some (.lst (((pnames ps).map optV).take i))) ⟨same_new nD, upd_same⟩ (fun i H' _ w => same_sqt w.1 hpS) ?_ ?_⟩
  · rintro i y H' hi ⟨sm, hD⟩
    obtain ⟨en, b, he, rfl, hb⟩ := hpE i y hi
    have hi1 := (List.getElem?_eq_some_iff.mp hi).1
    generalize hw : wipe _ _ = w0
    have ew : w0 = [some (.str c), some (.ref pa), some (.ref a), none, none, none] := by
      rw [← hw]
      kernel_rfl
    clear hw
    subst ew
    refine ⟨b, _, rfl, same_sqt sm hb, rfl, ?_⟩
    refine ⟨_, _, rfl, ?_⟩
    refine ⟨_, _, rfl, rfl, by kernel_rfl, ?_⟩
    refine ⟨_, rfl, acc_to nD sm hD ?_ ?_⟩
    · rw [List.getElem?_map, pnames, List.getElem?_map, he]
      rfl
    · rw [List.length_map, pnames, List.length_map]
      omega
  · rintro H1 ⟨s1, hD⟩
    have hnl : (pnames ps).length = px.length := by rw [pnames, List.length_map, hpl]
    have hD1 : H1 D = some (.lst ((pnames ps).map optV)) := acc_all (by rw [List.length_map, hnl]) hD
    dsimp only
    refine nx_to ?_
    generalize hw : List.set _ _ _ = w0
    have ew : w0 = [some (.str c), some (.ref pa), some (.ref a), some (.ref D), none, none] := by
      rw [← hw]
      kernel_rfl
    clear hw
    subst ew
    have hI1 := same_sqt s1 hI
    refine ⟨_, rfl, D, rfl, ⟨_, SqL.of hD1⟩, for_list (K := K) (a := D) (xs := (pnames ps).map optV) (fun i σ H' => (∃ v4 v5 : Option V, σ = [some (.str c), some (.ref pa), some (.ref a), some (.ref D), v4, v5] ∧ H' = H1) ∧ firstUn ins ((pnames ps).take i) = none) ⟨⟨none, none, rfl, rfl⟩, rfl⟩ (fun i σ H' _ ⟨⟨_, _, _, e⟩, _⟩ => by rw [e]; exact SqL.of hD1) ?_ ?_⟩
    · rintro i v σ H' hi ⟨⟨v4, v5, rfl, rfl⟩, hk⟩
      rw [List.getElem?_map] at hi
      obtain ⟨o, ho, rfl⟩ := Option.map_eq_some_iff.mp hi
      cases o with
      | none => exact ⟨_, rfl, rfl, _, rfl, iteF ⟨⟨_, _, rfl, rfl⟩, firstUn_next hk ho (fun z e => by cases e)⟩⟩
      | some z =>
        refine ⟨_, rfl, rfl, _, rfl, iteT ?_⟩
        by_cases hz : z ∈ ins
        · exact ⟨_, rfl, _, rfl, z, a, ins, rfl, hI1, .inl ⟨hz, ⟨_, _, rfl, rfl⟩, firstUn_next hk ho (fun z' e => by cases e; exact hz)⟩⟩
        · refine ⟨_, rfl, _, rfl, z, a, ins, rfl, hI1, .inr ⟨hz, fun d nd => ?_⟩⟩
          rw [firstUn_at hk ho hz] at e
          rw [e] at q
          exact q _ d (same_add s1 nd) upd_same
    · rintro σ H' ⟨⟨v4, v5, rfl, rfl⟩, hk⟩
      rw [List.take_of_length_le (by rw [List.length_map]; exact Nat.le_refl _)] at hk
      rw [hk] at e
      have hnp : (pnames ps).length ≤ 1000 := by omega
      refine ⟨_, rfl, D, pnames ps, rfl, SqL.of hD1, hnp, _, rfl, D, _, rfl, .inl (SqL.of hD1), _, _, rfl, rfl, _, rfl, ?_⟩
      have lt := onces_lt ((pnames ps).map lfO)
      rw [List.length_map, lfO_nodup] at lt
      by_cases hd : (pnames ps).Nodup
      · rw [decide_eq_false (fun z => by
          rw [List.length_map] at z
          exact lt.mp (Int.ofNat_lt.mp z) hd)]
        refine iteF ?_
        refine ⟨_, rfl, _, rfl, D, _, rfl, .inl (SqL.of hD1), rfl, flat_optVs _, ?_⟩
        rw [inV_opt]
        dsimp only at e
        rw [if_neg (fun z => z hd)] at e
        by_cases ho : some c ∈ pnames ps
        · rw [if_pos ho] at e
          rw [e] at q
          rw [decide_eq_true ho]
          exact ⟨_, rfl, iteT (q _ s1)⟩
        · rw [if_neg ho] at e
          rw [e] at q
          rw [decide_eq_false ho]
          exact ⟨_, rfl, iteF (q _ s1)⟩
      · rw [decide_eq_true (by
          rw [List.length_map]
          exact Int.ofNat_lt.mpr (lt.mpr hd))]
        refine iteT ?_
        dsimp only at e
        rw [if_pos hd] at e
        rw [e] at q
        exact q _ s1

theorem ok_direct_losses {f : Addr} {fd : FuncData} (D_direct_losses : Dfn K mg "direct_losses" s_direct_losses ["insurers", "losses", "event"] f fd) (T : Tx K mg C_BadName C_BadCover C_BadPanel C_BadAmount C_NameTaken C_NoSuchName C_NoSuchNotice C_Twice C_OwnPanel C_TooMany C_NoEnd C_Post C_Market N_NOTHING) :
    FnOk P w K mg base CX0 (1) f fd ["insurers", "losses", "event"] (sp_direct_losses K) := by
  refine D_direct_losses.F.ok sc_direct_losses (fun vs H Q E h => ?_) (fun cdv A outer s H vs Q E hr h => ?_)
  · obtain ⟨a, d, e, ins, L, rfl, hI, hl, hL, q⟩ := h
    rfl
  obtain ⟨a, d, e, ins, L, rfl, hI, hl, hL, q⟩ := h
  refine ⟨_, (pss_one (ps_ret (pe_callTy call_tuple_of (by rfl) T.tuple (by decide +kernel) (pa_cons (pe_lc (own := [("insurer", 3)]) (g := (gName 3)) (tt := tYes) rfl sc_direct_losses.nd (pi_tup (pv 0)) (blkOk_by (own := [("insurer", 3)]) (N := (["insurers", "losses", "event", "insurer"] : List Str)) (sc := defScope s_direct_losses) (by decide +kernel)) (fun _ _ _ _ _ => (pg_name (i := 3) sc_direct_losses.nd rfl (by first | exact Or.inl rfl | exact Or.inr rfl))) (fun _ _ _ _ _ => pts_nil) (fun _ _ _ _ _ => (pe_dget2 (hu_of hr) (pv 1) (pe_tup (pa_cons (pv 2) (pa_cons (pv 3) pa_nil))) pe_int ⟨rfl, rfl, rfl, rfl⟩))) pa_nil)))), ?_⟩
  refine ⟨_, rfl, a, rfl, ⟨_, hI⟩, fun D nD => lc_tup (K := K) (a := a) (xs := ins.map V.str) (fun i H' => Same H H' ∧ H' D = some (.lst (((directs ins L e).map V.int).take i))) ⟨same_new nD, upd_same⟩ (fun i H' _ z => same_sqt z.1 hI) ?_ ?_⟩
  · rintro i y H' hi ⟨sm, hD⟩
    obtain ⟨z, rfl, hz⟩ := of_at_str hi
    have hv : ((directs ins L e).map V.int)[i]? = some (.int (lossOf L e z)) := by
      refine at_map ?_
      show (ins.map (lossOf L e))[i]? = _
      rw [List.getElem?_map, hz]
      rfl
    have hL' := rd_same sm hL
    refine ⟨rfl, ⟨_, rfl, d, rfl, isD_t hL', _, rfl, _, rfl, sz (by show 2 ≤ 100000; decide), fun k nk => ?_⟩⟩
    · have hL2 := rd_same (same_new (o := .tup [.str e, .str z]) nk) hL'
      refine ⟨_, .inr ⟨_, [.inr e, .inr z], k, hL2, rfl, upd_same, rfl⟩, ?_⟩
      rw [lkv_get]
      exact acc_to nD (same_add sm nk) ((same_new nk) _ _ hD) hv (by rw [List.length_map]; show (ins.map _).length ≤ 100000; rw [List.length_map]; omega)
  · rintro H' ⟨sm, hD⟩
    have hD2 := acc_all (by rw [List.length_map, List.length_map]; show _ = (ins.map _).length; rw [List.length_map]) hD
    exact ⟨D, _, rfl, .inl ⟨SqL.of hD2, fun p np => q p _ (same_add sm np) (sm.free np) upd_same⟩⟩

theorem ok_Market___init {f : Addr} {fd : FuncData} (D_Market___init : Mki K C_Market "Market.__init__" s_Market___init ["self"] f fd) (T : Tx K mg C_BadName C_BadCover C_BadPanel C_BadAmount C_NameTaken C_NoSuchName C_NoSuchNotice C_Twice C_OwnPanel C_TooMany C_NoEnd C_Post C_Market N_NOTHING) :
    FnOk P w K mg base CX0 (1) f fd ["self"] (sp_minit K C_Market) := by
  refine D_Market___init.F.ok sc_Market___init (fun vs H Q E h => ?_) (fun cdv A outer s H vs Q E hr h => ?_)
  · obtain ⟨m, dx, rfl, hm, q⟩ := h
    rfl
  obtain ⟨m, dx, rfl, hm, q⟩ := h
  refine ⟨_, (pss_cons (ps_fld (pv 0) (pe_tup pa_nil) rfl)
      (pss_cons (ps_fld (pv 0) (pe_tup pa_nil) rfl)
      (pss_cons (ps_fld (pv 0) (pe_tup pa_nil) rfl)
      (pss_one (ps_fld (pv 0) pe_dnewT rfl))))), ?_⟩
  have hlen : ∀ (f : Str) (v : V) (fs : List (Str × V)) (n : Nat), fs.length < n → n < 1000 → (putF f v fs).length < 1000 := fun f v fs n h1 h2 => by
    have := putF_le f v fs
    omega
  refine ⟨Nat.zero_le _, fun a1 n1 => ⟨_, rfl, m, C_Market, dx, [], rfl, ne_keep n1 hm, T.cl_Market, T.no_Market_insurers, by decide, ?_⟩⟩
  obtain ⟨b1, e1, m1, x1⟩ := fld_step (u := .tup []) (o' := .ins C_Market dx (putF "insurers" (.ref a1) [])) n1 hm
  obtain ⟨H1, h1⟩ : ∃ H1, upd (upd H a1 (.tup [])) m (.ins C_Market dx (putF "insurers" (.ref a1) [])) = H1 := ⟨_, rfl⟩
  rw [h1] at b1 e1 m1 ⊢
  refine ⟨Nat.zero_le _, fun a2 n2 => ⟨_, rfl, m, C_Market, dx, _, rfl, ne_keep n2 m1, T.cl_Market, T.no_Market_events, by show 1 < 1000; decide, ?_⟩⟩
  obtain ⟨b2, e2, m2, x2⟩ := fld_step (u := .tup []) (o' := .ins C_Market dx (putF "events" (.ref a2) (putF "insurers" (.ref a1) []))) n2 m1
  obtain ⟨H2, h2⟩ : ∃ H2, upd (upd H1 a2 (.tup [])) m (.ins C_Market dx (putF "events" (.ref a2) (putF "insurers" (.ref a1) []))) = H2 := ⟨_, rfl⟩
  rw [h2] at b2 e2 m2 ⊢
  refine ⟨Nat.zero_le _, fun a3 n3 => ⟨_, rfl, m, C_Market, dx, _, rfl, ne_keep n3 m2, T.cl_Market, T.no_Market_treaties, by have := putF_le "events" (.ref a2) (putF "insurers" (.ref a1) []); have : (putF "insurers" (.ref a1) []).length = 1 := rfl; omega, ?_⟩⟩
  obtain ⟨b3, e3, m3, x3⟩ := fld_step (u := .tup []) (o' := .ins C_Market dx (putF "treaties" (.ref a3) (putF "events" (.ref a2) (putF "insurers" (.ref a1) [])))) n3 m2
  obtain ⟨H3, h3⟩ : ∃ H3, upd (upd H2 a3 (.tup [])) m (.ins C_Market dx (putF "treaties" (.ref a3) (putF "events" (.ref a2) (putF "insurers" (.ref a1) [])))) = H3 := ⟨_, rfl⟩
  rw [h3] at b3 e3 m3 ⊢
  refine fun a4 n4 => ⟨_, rfl, m, C_Market, dx, _, rfl, ne_keep n4 m3, T.cl_Market, T.no_Market_losses, by have := putF_le "treaties" (.ref a3) (putF "events" (.ref a2) (putF "insurers" (.ref a1) [])); have := putF_le "events" (.ref a2) (putF "insurers" (.ref a1) []); have : (putF "insurers" (.ref a1) []).length = 1 := rfl; omega, ?_⟩
  obtain ⟨b4, e4, m4, x4⟩ := fld_step (u := .dT []) (o' := .ins C_Market dx (mf a1 a2 a3 a4)) n4 m3
  have ef : putF "losses" (.ref a4) (putF "treaties" (.ref a3) (putF "events" (.ref a2) (putF "insurers" (.ref a1) []))) = mf a1 a2 a3 a4 := by kernel_rfl
  rw [ef]
  obtain ⟨H4, h4⟩ : ∃ H4, upd (upd H3 a4 (.dT [])) m (.ins C_Market dx (mf a1 a2 a3 a4)) = H4 := ⟨_, rfl⟩
  rw [h4] at b4 e4 m4 ⊢
  refine q H4 (b1.trans (b2.trans (b3.trans b4))) ⟨dx, a1, a2, a3, a4, m4, SqT.of ?_, SqT.of ?_, ⟨[], SqT.of ?_, .nil⟩, e4, .inl rfl⟩
  · exact b4 _ _ x1 (b3 _ _ x1 (b2 _ _ x1 e1))
  · exact b4 _ _ x2 (b3 _ _ x2 e2)
  · exact b4 _ _ x3 e3

theorem ok_Market_add_insurer {f : Addr} {fd : FuncData} (D_Market_add_insurer : Mth K C_Market "add_insurer" "Market.add_insurer" s_Market_add_insurer ["self", "name"] f fd) (T : Tx K mg C_BadName C_BadCover C_BadPanel C_BadAmount C_NameTaken C_NoSuchName C_NoSuchNotice C_Twice C_OwnPanel C_TooMany C_NoEnd C_Post C_Market N_NOTHING) {f_check_new_name : Addr} {fd_check_new_name : FuncData} (D_check_new_name : Dfn K mg "check_new_name" s_check_new_name ["name", "names", "most"] f_check_new_name fd_check_new_name) (G_check_new_name : FnOk P w K mg base (L2.CX P w) (3) f_check_new_name fd_check_new_name ["name", "names", "most"] (sp_check_new_name K C_BadName C_TooMany C_NameTaken)) :
    FnOk P w K mg base (L2.CX P w) (4) f fd ["self", "name"] (sp_add_insurer K C_Market C_BadName C_TooMany C_NameTaken) := by
  refine D_Market_add_insurer.F.okX sc_Market_add_insurer (fun vs H Q E h => ?_) (fun cdv A outer s H vs Q E hr h => ?_)
  · obtain ⟨m, x, M, rfl, hM, h⟩ := h
    rfl
  obtain ⟨m, x, M, rfl, hM, h⟩ := h
  refine ⟨_, (pss_cons (ps_expr (pe_call G_check_new_name (hr.mono (by first | decide | omega)) rfl D_check_new_name.m D_check_new_name.F.kp D_check_new_name.b .nil (passes_call (takes_of rfl rfl rfl rfl) (fun _ _ _ _ h => h)) (pa_cons (pv 1) (pa_cons (pe_fld (pv 0) rfl) (pa_cons (pe_con (pv 0) rfl) pa_nil)))))
      (pss_cons (ps_fld (pv 0) (pe_op op_catF (pe_fld (pv 0) rfl) (pe_tupF (pa_cons (pv 1) pa_nil))) rfl)
      (pss_one (ps_ret (pe_callB call_len_seq (by rfl) T.len PySem.boot_len (pa_cons (pe_fld (pv 0) rfl) pa_nil)))))), ?_⟩
  obtain ⟨dx, ai, ae, at', ad, h0, h1, h2, h3, h4, h5⟩ := id hM
  obtain ⟨u, hcon⟩ := T.con_Market_MOST_INSURERS
  refine ⟨_, rfl, _, rfl, m, C_Market, dx, _, _, rfl, h0, T.cl_Market, T.no_Market_insurers, mf_i, _, rfl, m, C_Market, dx, _, .int 6, u, rfl, h0, T.cl_Market, hcon, mf_no (by decide +kernel), x, ai, M.ins, 6, rfl, h1, ?_⟩
  rcases h with h | ⟨z, rfl, hz, ⟨hl, q⟩ | ⟨hl, hm, q⟩ | ⟨hl, hm, q⟩⟩
  · exact .inl h
  · exact .inr ⟨z, rfl, hz, .inl ⟨by omega, q⟩⟩
  · exact .inr ⟨z, rfl, hz, .inr (.inl ⟨by omega, hm, q⟩)⟩
  · refine .inr ⟨z, rfl, hz, .inr (.inr ⟨by omega, hm, fun H1 s1 => ?_⟩)⟩
    have hM1 := MktAt.same s1 hM
    have g0 := s1 _ _ h0
    refine ⟨_, rfl, m, C_Market, dx, _, _, rfl, g0, T.cl_Market, T.no_Market_insurers, mf_i, _, rfl, sz (by show 1 ≤ 100000; decide), fun t Ht nt st htF => ?_⟩
    refine catF_any (same_sqt (s1.trans st) h1) htF (by simp) (by rw [List.length_map]; exact sz (by show M.ins.length + 1 ≤ 100000; omega)) fun p H2 s2 hpF => ?_
    have s02 := (s1.trans st).trans s2
    refine ⟨_, rfl, m, C_Market, dx, _, rfl, s02 _ _ h0, T.cl_Market, T.no_Market_insurers, by show 4 < 1000; decide, ?_⟩
    rw [mf_pi]
    have np : ∀ {a : Addr} {xs : List V}, SqT K H2 a xs → SqT K (upd H2 m (.ins C_Market dx (mf p ae at' ad))) a xs := fun h => sqt_ins (s02 _ _ h0) h
    have e1 : M.ins.map V.str ++ [V.str z] = (M.ins ++ [z]).map V.str := by
      rw [List.map_append]
      rfl
    rw [e1] at hpF
    have hp := TupF.sqt (K := K) hpF
    refine ⟨_, rfl, m, C_Market, dx, _, _, rfl, upd_same, T.cl_Market, T.no_Market_insurers, mf_i, p, _, rfl, .inr (np hp), ?_⟩
    rw [List.length_map, List.length_append]
    refine q _ (Bar.put (Bar.of s02)) ⟨dx, p, ae, at', ad, upd_same, np hp, np (same_sqt s02 h2), trs_ins (s02 _ _ h0) (TrsAt.same s02 h3), ?_, .inr (hpF.put (s02 _ _ h0) fun _ e => (nomatch e))⟩
    rw [upd_ne (fun e => by rw [e, h0] at h4; cases h4)]
    exact s02 _ _ h4

theorem ok_Market_add_event {f : Addr} {fd : FuncData} (D_Market_add_event : Mth K C_Market "add_event" "Market.add_event" s_Market_add_event ["self", "name"] f fd) (T : Tx K mg C_BadName C_BadCover C_BadPanel C_BadAmount C_NameTaken C_NoSuchName C_NoSuchNotice C_Twice C_OwnPanel C_TooMany C_NoEnd C_Post C_Market N_NOTHING) {f_check_new_name : Addr} {fd_check_new_name : FuncData} (D_check_new_name : Dfn K mg "check_new_name" s_check_new_name ["name", "names", "most"] f_check_new_name fd_check_new_name) (G_check_new_name : FnOk P w K mg base (L2.CX P w) (3) f_check_new_name fd_check_new_name ["name", "names", "most"] (sp_check_new_name K C_BadName C_TooMany C_NameTaken)) :
    FnOk P w K mg base (L2.CX P w) (4) f fd ["self", "name"] (sp_add_event K C_Market C_BadName C_TooMany C_NameTaken) := by
  refine D_Market_add_event.F.okX sc_Market_add_event (fun vs H Q E h => ?_) (fun cdv A outer s H vs Q E hr h => ?_)
  · obtain ⟨m, x, M, rfl, hM, h⟩ := h
    rfl
  obtain ⟨m, x, M, rfl, hM, h⟩ := h
  refine ⟨_, (pss_cons (ps_expr (pe_call G_check_new_name (hr.mono (by first | decide | omega)) rfl D_check_new_name.m D_check_new_name.F.kp D_check_new_name.b .nil (passes_call (takes_of rfl rfl rfl rfl) (fun _ _ _ _ h => h)) (pa_cons (pv 1) (pa_cons (pe_fld (pv 0) rfl) (pa_cons (pe_con (pv 0) rfl) pa_nil)))))
      (pss_cons (ps_fld (pv 0) (pe_op op_catA (pe_fld (pv 0) rfl) (pe_tup (pa_cons (pv 1) pa_nil))) rfl)
      (pss_one (ps_ret (pe_callB call_len_seq (by rfl) T.len PySem.boot_len (pa_cons (pe_fld (pv 0) rfl) pa_nil)))))), ?_⟩
  obtain ⟨dx, ai, ae, at', ad, h0, h1, h2, h3, h4, h5⟩ := id hM
  obtain ⟨u, hcon⟩ := T.con_Market_MOST_EVENTS
  refine ⟨_, rfl, _, rfl, m, C_Market, dx, _, _, rfl, h0, T.cl_Market, T.no_Market_events, mf_e, _, rfl, m, C_Market, dx, _, .int 3, u, rfl, h0, T.cl_Market, hcon, mf_no (by decide +kernel), x, ae, M.evs, 3, rfl, h2, ?_⟩
  rcases h with h | ⟨z, rfl, hz, ⟨hl, q⟩ | ⟨hl, hm, q⟩ | ⟨hl, hm, q⟩⟩
  · exact .inl h
  · exact .inr ⟨z, rfl, hz, .inl ⟨by omega, q⟩⟩
  · exact .inr ⟨z, rfl, hz, .inr (.inl ⟨by omega, hm, q⟩)⟩
  · refine .inr ⟨z, rfl, hz, .inr (.inr ⟨by omega, hm, fun H1 s1 => ?_⟩)⟩
    have g0 := s1 _ _ h0
    refine ⟨_, rfl, m, C_Market, dx, _, _, rfl, g0, T.cl_Market, T.no_Market_events, mf_e, _, rfl, sz (by show 1 ≤ 100000; decide), fun t nt => ?_⟩
    refine cat_any (same_sqt (same_add s1 nt) h2) (SqT.of upd_same) (by rw [List.length_map]; exact sz (by show M.evs.length + 1 ≤ 100000; omega)) fun p H2 s2 hp => ?_
    have s02 := (same_add s1 nt).trans s2
    refine ⟨_, rfl, m, C_Market, dx, _, rfl, s02 _ _ h0, T.cl_Market, T.no_Market_events, by show 4 < 1000; decide, ?_⟩
    rw [mf_pe]
    have np : ∀ {a : Addr} {xs : List V}, SqT K H2 a xs → SqT K (upd H2 m (.ins C_Market dx (mf ai p at' ad))) a xs := fun h => sqt_ins (s02 _ _ h0) h
    have e1 : M.evs.map V.str ++ [V.str z] = (M.evs ++ [z]).map V.str := by
      rw [List.map_append]
      rfl
    rw [e1] at hp
    refine ⟨_, rfl, m, C_Market, dx, _, _, rfl, upd_same, T.cl_Market, T.no_Market_events, mf_e, p, _, rfl, .inr (np hp), ?_⟩
    rw [List.length_map, List.length_append]
    refine q _ (Bar.put (Bar.of s02)) ⟨dx, ai, p, at', ad, upd_same, np (same_sqt s02 h1), np hp, trs_ins (s02 _ _ h0) (TrsAt.same s02 h3), ?_, (h5.same s02).ins (s02 _ _ h0)⟩
    rw [upd_ne (fun e => by rw [e, h0] at h4; cases h4)]
    exact s02 _ _ h4

theorem ok_Market_add_treaty {f : Addr} {fd : FuncData} (D_Market_add_treaty : Mth K C_Market "add_treaty" "Market.add_treaty" s_Market_add_treaty ["self", "cedent", "cover", "panel"] f fd) (T : Tx K mg C_BadName C_BadCover C_BadPanel C_BadAmount C_NameTaken C_NoSuchName C_NoSuchNotice C_Twice C_OwnPanel C_TooMany C_NoEnd C_Post C_Market N_NOTHING) {f_check_name : Addr} {fd_check_name : FuncData} (D_check_name : Dfn K mg "check_name" s_check_name ["value"] f_check_name fd_check_name) (G_check_name : FnOk P w K mg base (L2.CX P w) (2) f_check_name fd_check_name ["value"] (sp_check_name K C_BadName)) {f_check_cover : Addr} {fd_check_cover : FuncData} (D_check_cover : Dfn K mg "check_cover" s_check_cover ["value"] f_check_cover fd_check_cover) (G_check_cover : FnOk P w K mg base (L2.CX P w) (3) f_check_cover fd_check_cover ["value"] (sp_check_cover K C_BadCover)) {f_check_panel : Addr} {fd_check_panel : FuncData} (D_check_panel : Dfn K mg "check_panel" s_check_panel ["value"] f_check_panel fd_check_panel) (G_check_panel : FnOk P w K mg base (L2.CX P w) (4) f_check_panel fd_check_panel ["value"] (sp_check_panel K C_BadPanel)) {f_check_placed : Addr} {fd_check_placed : FuncData} (D_check_placed : Dfn K mg "check_placed" s_check_placed ["cedent", "panel", "insurers"] f_check_placed fd_check_placed) (G_check_placed : FnOk P w K mg base (L2.CX P w) (4) f_check_placed fd_check_placed ["cedent", "panel", "insurers"] (sp_check_placed K C_NoSuchName C_Twice C_OwnPanel)) {f_Market__check_ends : Addr} {fd_Market__check_ends : FuncData} (D_Market__check_ends : Mth K C_Market "_check_ends" "Market._check_ends" s_Market__check_ends ["self", "treaties", "losses"] f_Market__check_ends fd_Market__check_ends) (G_Market__check_ends : FnOk P w K mg base (L2.CX P w) (7) f_Market__check_ends fd_Market__check_ends ["self", "treaties", "losses"] (sp_check_ends K C_Market C_NoEnd)) :
    FnOk P w K mg base (L2.CX P w) (8) f fd ["self", "cedent", "cover", "panel"] (sp_add_treaty K C_Market C_BadName C_BadCover C_BadPanel C_NoSuchName C_Twice C_OwnPanel C_TooMany C_NoEnd) := by
  refine D_Market_add_treaty.F.okX sc_Market_add_treaty (fun vs H Q E h => ?_) (fun cdv A outer s H vs Q E hr h => ?_)
  · obtain ⟨m, x, y, w, M, rfl, hM, h⟩ := h
    rfl
  obtain ⟨m, x, y, w, M, rfl, hM, h⟩ := h
  refine ⟨_, (pss_cons (ps_expr (pe_call G_check_name (hr.mono (by first | decide | omega)) rfl D_check_name.m D_check_name.F.kp D_check_name.b .nil (passes_call (takes_of rfl rfl rfl rfl) (fun _ _ _ _ h => h)) (pa_cons (pv 1) pa_nil)))
      (pss_cons (ps_expr (pe_call G_check_cover (hr.mono (by first | decide | omega)) rfl D_check_cover.m D_check_cover.F.kp D_check_cover.b .nil (passes_call (takes_of rfl rfl rfl rfl) (fun _ _ _ _ h => h)) (pa_cons (pv 2) pa_nil)))
      (pss_cons (ps_expr (pe_call G_check_panel (hr.mono (by first | decide | omega)) rfl D_check_panel.m D_check_panel.F.kp D_check_panel.b .nil (passes_call (takes_of rfl rfl rfl rfl) (fun _ _ _ _ h => h)) (pa_cons (pv 3) pa_nil)))
      (pss_cons (ps_expr (pe_call G_check_placed (hr.mono (by first | decide | omega)) rfl D_check_placed.m D_check_placed.F.kp D_check_placed.b .nil (passes_call (takes_of rfl rfl rfl rfl) (fun _ _ _ _ h => h)) (pa_cons (pv 1) (pa_cons (pv 3) (pa_cons (pe_fld (pv 0) rfl) pa_nil)))))
      (pss_cons (ps_set (i := 4) sc_Market_add_treaty.nd rfl (by first | exact Or.inl rfl | exact Or.inr rfl) (pe_callB call_len_seq (by rfl) T.len PySem.boot_len (pa_cons (pe_fld (pv 0) rfl) pa_nil)))
      (pss_cons (ps_if (pt_cmpR op_ge (pv 4) (pe_con (pv 0) rfl) (nomark _))
      (pss_one (ps_raise rfl (takes_of rfl rfl rfl rfl) (pmk_own PySem.F.excBase_ValueError T.exc_TooMany.x T.exc_TooMany.g T.exc_TooMany.k (raises_own T.exc_TooMany.b T.exc_TooMany.t) rfl)))
      pss_nil)
      (pss_cons (ps_set (i := 5) sc_Market_add_treaty.nd rfl (by first | exact Or.inl rfl | exact Or.inr rfl) (pe_op op_catA (pe_fld (pv 0) rfl) (pe_tup (pa_cons (pe_tup (pa_cons (pv 1) (pa_cons (pv 2) (pa_cons (pv 3) (pa_cons pe_bl pa_nil))))) pa_nil))))
      (pss_cons (ps_expr (pe_meth (pv 0) T.cl_Market D_Market__check_ends.m G_Market__check_ends (hr.mono (by first | decide | omega)) D_Market__check_ends.b .nil (passes_call (takes_of rfl rfl rfl rfl) (fun _ _ _ _ h => h)) (pa_cons (pv 5) (pa_cons (pe_fld (pv 0) rfl) pa_nil))))
      (pss_cons (ps_fld (pv 0) (pv 5) rfl)
      (pss_one (ps_ret (pv 4)))))))))))), ?_⟩
  obtain ⟨dx, ai, ae, at', ad, h0, h1, h2, h3, h4, hI5⟩ := id hM
  rcases h with ⟨hn, q⟩ | ⟨hn, hc, q⟩ | ⟨hn, hc, hp, q⟩ | ⟨c, vc, cov, ps, rfl, hn, rfl, hS, hcv, hpA, hpO, h⟩
  · exact ⟨_, rfl, _, rfl, .inr ⟨hn, q⟩⟩
  · refine ⟨_, rfl, _, rfl, .inl ⟨hn, fun H1 s1 => ?_⟩⟩
    exact ⟨_, rfl, _, rfl, .inr ⟨NoCov.same' s1 hc, fun H2 s2 => q H2 (s1.trans s2)⟩⟩
  · refine ⟨_, rfl, _, rfl, .inl ⟨hn, fun H1 s1 => ?_⟩⟩
    refine ⟨_, rfl, _, rfl, .inl ⟨IsCovV.same' s1 hc, fun H2 s2 => ?_⟩⟩
    exact ⟨_, rfl, _, rfl, .inr ⟨NoPan.same (s1.trans s2) hp, fun H3 s3 => q H3 (s1.trans (s2.trans s3))⟩⟩
  refine ⟨_, rfl, _, rfl, .inl ⟨hn, fun H1 s1 => ?_⟩⟩
  refine ⟨_, rfl, _, rfl, .inl ⟨⟨vc, cov, rfl, same_sqt s1 hS, hcv⟩, fun H2 s2 => ?_⟩⟩
  have s02 := s1.trans s2
  refine ⟨_, rfl, _, rfl, .inl ⟨_, PanAt.same s02 hpA, hpO, fun H3 s3 => ?_⟩⟩
  have s03 := s02.trans s3
  have hps : ps.length ≤ 1000 := by
    have := hpO.hi
    omega
  refine ⟨_, rfl, _, rfl, _, rfl, m, C_Market, dx, _, _, rfl, s03 _ _ h0, T.cl_Market, T.no_Market_insurers, mf_i, c, w, ai, M.ins, ps, rfl, PanAt.same s03 hpA, hps, same_sqt s03 h1, ?_⟩
  have more : placed c ps M.ins = none → ((16 ≤ M.trs.length ∧ M.trs.length ≤ 100000 ∧ ∀ H', Same H H' → E (.ref C_TooMany) none H') ∨ (M.trs.length < 16 ∧ TrsOk M.ins (M.trs ++ [⟨c, cov, ps, false⟩]) ∧ M.evs.length ≤ 1000 ∧ Fates K C_Market C_NoEnd H m { M with trs := M.trs ++ [⟨c, cov, ps, false⟩] } (Q (.int ((M.trs.length : Nat) : Int))) E)) := fun e => by
    rcases h with ⟨x, e2, _⟩ | ⟨_, h⟩ | ⟨_, h⟩
    · rw [e] at e2
      cases e2
    · exact .inl h
    · exact .inr h
  cases hr : placed c ps M.ins with
  | some z =>
    have q : PlcEnd C_NoSuchName C_Twice C_OwnPanel H (some z) Q E := by
      rcases h with ⟨x, e2, q⟩ | ⟨e2, _⟩ | ⟨e2, _⟩
      · rw [hr] at e2
        cases e2
        exact q
      · rw [hr] at e2
        cases e2
      · rw [hr] at e2
        cases e2
    cases z with
    | known z => exact fun H' d s => q H' d (s03.trans s)
    | twice => exact fun H' s => q H' (s03.trans s)
    | own => exact fun H' s => q H' (s03.trans s)
  | none =>
  refine fun H4 s4 => ?_
  have s04 := s03.trans s4
  have g0 := s04 _ _ h0
  obtain ⟨u, hcon⟩ := T.con_Market_MOST_TREATIES
  obtain ⟨xs, hxS, hxA⟩ := TrsAt.same s04 h3
  have hxl := hxA.1
  refine ⟨_, rfl, m, C_Market, dx, _, _, rfl, g0, T.cl_Market, T.no_Market_treaties, mf_t, at', xs, rfl, .inr hxS, ?_⟩
  refine ⟨_, rfl, _, rfl, m, C_Market, dx, _, .int 16, u, rfl, g0, T.cl_Market, hcon, mf_no (by decide +kernel), _, _, rfl, rfl, _, rfl, ?_⟩
  rcases more hr with ⟨h16, h17, q⟩ | ⟨hl, hok, hev, hf⟩
  · rw [decide_eq_true (show (16 : Int) ≤ ((xs.length : Nat) : Int) by omega)]
    exact iteT (q _ s04)
  rw [decide_eq_false (show ¬ (16 : Int) ≤ ((xs.length : Nat) : Int) by omega)]
  refine iteF ?_
  refine ⟨_, rfl, m, C_Market, dx, _, _, rfl, g0, T.cl_Market, T.no_Market_treaties, mf_t, ?_⟩
  refine ⟨_, rfl, _, rfl, _, rfl, sz (by show 4 ≤ 100000; decide), fun t nt => ⟨sz (by show 1 ≤ 100000; decide), fun t2 nt2 => ?_⟩⟩
  obtain ⟨H5, h5⟩ : ∃ H5, upd H4 t (.tup [.str c, .ref vc, w, .bl false]) = H5 := ⟨_, rfl⟩
  have s45 : Same H4 H5 := by
    rw [← h5]
    exact same_new nt
  have ht : H5 t = some (.tup [.str c, .ref vc, w, .bl false]) := by
    rw [← h5]
    exact upd_same
  have nt2' : H5 t2 = none := by
    rw [← h5]
    exact nt2
  have s56 : Same H5 (upd H5 t2 (.tup [.ref t])) := same_new nt2'
  have s06 : Same H (upd H5 t2 (.tup [.ref t])) := s04.trans (s45.trans s56)
  rw [h5]
  refine cat_any (same_sqt (s45.trans s56) hxS) (SqT.of upd_same) (sz (by show xs.length + 1 ≤ 100000; omega)) fun p H7 s7 hp => ?_
  have s07 := s06.trans s7
  have k0 := s07 _ _ h0
  have htr : TrsAt K H7 p (M.trs ++ [⟨c, cov, ps, false⟩]) := by
    refine ⟨_, hp, AllAt.add (AllAt.same (R := TrAt K) (fun e r => TrAt.same e r) (s45.trans (s56.trans s7)) hxA) ?_⟩
    have hpA7 := PanAt.same s07 hpA
    exact ⟨t, vc, w, rfl, SqT.of (s7 _ _ (s56 _ _ ht)), same_sqt s07 hS, hpA7⟩
  dsimp only
  refine nx_to ?_
  refine ⟨_, rfl, m, dx, _, rfl, k0, mf_no (by decide +kernel), _, rfl, _, rfl, m, C_Market, dx, _, _, rfl, k0, T.cl_Market, T.no_Market_losses, mf_l, m, M, p, ad, _, M.los, rfl, MktAt.same s07 hM, htr, hok, s07 _ _ h4, hev, ?_⟩
  rcases hf with ⟨hf, q⟩ | ⟨hf, q⟩
  · refine .inl ⟨hf, fun H8 s8 => ?_⟩
    have s08 := s07.trans s8
    refine ⟨_, rfl, _, rfl, m, C_Market, dx, _, rfl, s08 _ _ h0, T.cl_Market, T.no_Market_treaties, by show 4 < 1000; decide, ?_⟩
    rw [mf_pt]
    refine ⟨_, rfl, ?_⟩
    rw [hxl]
    have hm8 := s08 _ _ h0
    refine q _ (Bar.put (Bar.of s08)) ⟨dx, ai, ae, p, ad, upd_same, sqt_ins hm8 (same_sqt s08 h1), sqt_ins hm8 (same_sqt s08 h2), trs_ins hm8 (TrsAt.same s8 htr), ?_, (hI5.same s08).ins hm8⟩
    rw [upd_ne (fun e => by rw [e, h0] at h4; cases h4)]
    exact s08 _ _ h4
  · exact .inr ⟨hf, fun H8 s8 => q H8 (s07.trans s8)⟩

theorem ok_Market_set_loss {f : Addr} {fd : FuncData} (D_Market_set_loss : Mth K C_Market "set_loss" "Market.set_loss" s_Market_set_loss ["self", "event", "insurer", "amount"] f fd) (T : Tx K mg C_BadName C_BadCover C_BadPanel C_BadAmount C_NameTaken C_NoSuchName C_NoSuchNotice C_Twice C_OwnPanel C_TooMany C_NoEnd C_Post C_Market N_NOTHING) {f_check_name : Addr} {fd_check_name : FuncData} (D_check_name : Dfn K mg "check_name" s_check_name ["value"] f_check_name fd_check_name) (G_check_name : FnOk P w K mg base (L2.CX P w) (2) f_check_name fd_check_name ["value"] (sp_check_name K C_BadName)) {f_is_between : Addr} {fd_is_between : FuncData} (D_is_between : Dfn K mg "is_between" s_is_between ["value", "low", "high"] f_is_between fd_is_between) (G_is_between : FnOk P w K mg base CX0 (1) f_is_between fd_is_between ["value", "low", "high"] (sp_is_between K)) {f_check_known : Addr} {fd_check_known : FuncData} (D_check_known : Dfn K mg "check_known" s_check_known ["name", "names"] f_check_known fd_check_known) (G_check_known : FnOk P w K mg base (L2.CX P w) (3) f_check_known fd_check_known ["name", "names"] (sp_check_known K C_NoSuchName)) {f_Market__check_ends : Addr} {fd_Market__check_ends : FuncData} (D_Market__check_ends : Mth K C_Market "_check_ends" "Market._check_ends" s_Market__check_ends ["self", "treaties", "losses"] f_Market__check_ends fd_Market__check_ends) (G_Market__check_ends : FnOk P w K mg base (L2.CX P w) (7) f_Market__check_ends fd_Market__check_ends ["self", "treaties", "losses"] (sp_check_ends K C_Market C_NoEnd)) :
    FnOk P w K mg base (L2.CX P w) (8) f fd ["self", "event", "insurer", "amount"] (sp_set_loss2 K C_Market C_NoEnd) := by
  refine D_Market_set_loss.F.okX sc_Market_set_loss (fun vs H Q E h => ?_) (fun cdv A outer s H vs Q E hr h => ?_)
  · obtain ⟨m, e, z, n, M, rfl, hM, hne, hnz, hn, hev, hin, hnd, hll, hok, hfew, hf⟩ := h
    rfl
  obtain ⟨m, e, z, n, M, rfl, hM, hne, hnz, hn, hev, hin, hnd, hll, hok, hfew, hf⟩ := h
  refine ⟨_, (pss_cons (ps_expr (pe_call G_check_name (hr.mono (by first | decide | omega)) rfl D_check_name.m D_check_name.F.kp D_check_name.b .nil (passes_call (takes_of rfl rfl rfl rfl) (fun _ _ _ _ h => h)) (pa_cons (pv 1) pa_nil)))
      (pss_cons (ps_expr (pe_call G_check_name (hr.mono (by first | decide | omega)) rfl D_check_name.m D_check_name.F.kp D_check_name.b .nil (passes_call (takes_of rfl rfl rfl rfl) (fun _ _ _ _ h => h)) (pa_cons (pv 2) pa_nil)))
      (pss_cons (ps_if (pt_not (pt_val (pe_call G_is_between (hr.mono (by first | decide | omega)) rfl D_is_between.m D_is_between.F.kp D_is_between.b .nil pass0 (pa_cons (pv 3) (pa_cons pe_int (pa_cons (pe_gi rfl T.g_MOST_DIRECT) pa_nil))))))
      (pss_one (ps_raise rfl (takes_of rfl rfl rfl rfl) (pmk_own PySem.F.excBase_ValueError T.exc_BadAmount.x T.exc_BadAmount.g T.exc_BadAmount.k (raises_own T.exc_BadAmount.b T.exc_BadAmount.t) rfl)))
      pss_nil)
      (pss_cons (ps_expr (pe_call G_check_known (hr.mono (by first | decide | omega)) rfl D_check_known.m D_check_known.F.kp D_check_known.b .nil (passes_call (takes_of rfl rfl rfl rfl) (fun _ _ _ _ h => h)) (pa_cons (pv 1) (pa_cons (pe_fld (pv 0) rfl) pa_nil))))
      (pss_cons (ps_expr (pe_call G_check_known (hr.mono (by first | decide | omega)) rfl D_check_known.m D_check_known.F.kp D_check_known.b .nil (passes_call (takes_of rfl rfl rfl rfl) (fun _ _ _ _ h => h)) (pa_cons (pv 2) (pa_cons (pe_fld (pv 0) rfl) pa_nil))))
      (pss_cons (ps_lock (ps_setDct (i := 4) (own := [("key", 5)]) (g := (gName 5)) (tt := tYes) (hu_of hr) rfl sc_Market_set_loss.nd rfl rfl (sw_dict rfl rfl rfl (by decide +kernel)) (pi_keys (pe_fld (pv 0) rfl)) (blkOk_by (own := [("key", 5)]) (N := (["self", "event", "insurer", "amount", "losses", "key"] : List Str)) (sc := defScope s_Market_set_loss) (by decide +kernel)) (fun _ _ _ _ _ => (pg_name (i := 5) sc_Market_set_loss.nd rfl (by first | exact Or.inl rfl | exact Or.inr rfl))) (fun _ _ _ _ _ => pts_nil) (fun _ _ _ _ _ => (pv 5)) (fun _ _ _ _ _ => (pe_dget (hu_of hr) (pe_fldK (K := K) rfl (pv 0) rfl) (pv 5) (fun _ _ => rfl)))))
      (pss_cons (ps_dput (hu_of hr) (pv 4) (pe_tup (pa_cons (pv 1) (pa_cons (pv 2) pa_nil))) (pv 3) rfl)
      (pss_cons (ps_expr (pe_meth (pv 0) T.cl_Market D_Market__check_ends.m G_Market__check_ends (hr.mono (by first | decide | omega)) D_Market__check_ends.b .nil (passes_call (takes_of rfl rfl rfl rfl) (fun _ _ _ _ h => h)) (pa_cons (pe_fld (pv 0) rfl) (pa_cons (pv 4) pa_nil))))
      (pss_one (ps_fld (pv 0) (pv 4) rfl)))))))))), ?_⟩
  obtain ⟨dx, ai, ae, at', ad, h0, h1, h2, h3, h4, hI5⟩ := id hM
  refine ⟨_, rfl, _, rfl, .inl ⟨hne, fun H1 s1 => ?_⟩⟩
  refine ⟨_, rfl, _, rfl, .inl ⟨hnz, fun H2 s2 => ?_⟩⟩
  refine ⟨_, rfl, .int n, 0, 100000, rfl, ty_flat rfl, _, rfl, ?_⟩
  rw [hn]
  refine iteF ?_
  have s02 := s1.trans s2
  have g0 := s02 _ _ h0
  refine ⟨_, rfl, _, rfl, m, C_Market, dx, _, _, rfl, g0, T.cl_Market, T.no_Market_events, mf_e, e, ae, M.evs, rfl, same_sqt s02 h2, .inl ⟨hev, ?_⟩⟩
  refine ⟨_, rfl, _, rfl, m, C_Market, dx, _, _, rfl, g0, T.cl_Market, T.no_Market_insurers, mf_i, z, ai, M.ins, rfl, same_sqt s02 h1, .inl ⟨hin, ?_⟩⟩
  have g4 := s02 _ _ h4
  have nam : m ≠ ad := fun e => by rw [e, g4] at g0; cases g0
  refine ⟨ad, _, g4, trivial, fun od => ?_⟩
  have hfz : upd H2 ad (.frz od (.dT (lkv M.los))) ad = some (.frz od (.dT (lkv M.los))) := upd_same
  have k0 : upd H2 ad (.frz od (.dT (lkv M.los))) m = some (.ins C_Market dx (mf ai ae at' ad)) := by
    rw [upd_ne nam]
    exact g0
  refine ⟨_, rfl, m, C_Market, dx, _, _, rfl, k0, T.cl_Market, T.no_Market_losses, mf_l, ad, od, rfl, .inr ⟨_, upd_same, fun D nD => ?_⟩⟩
  have nD2 : D ≠ ad := fun e => by rw [e, upd_same] at nD; cases nD
  have nDH : H2 D = none := by
    rw [upd_ne nD2] at nD
    exact nD
  refine dct_it (walk_keysT (kvs := lkv M.los)) (fun i H' => Same (upd H2 ad (.frz od (.dT (lkv M.los)))) H' ∧ H' D = some (.dT ((lkv M.los).take i))) ⟨same_new nD, upd_same⟩ (fun i H' _ w => w.1 _ _ hfz) ?_ ?_
  · rintro i x H3 H4 hi ⟨sm, hD⟩ ⟨rfl, k, v, kb, hk, rfl, hkb⟩
    generalize hw : wipe _ _ = w0
    have ew : w0 = [some (.ref m), some (.str e), some (.str z), some (.int n), none, none] := by
      rw [← hw]
      kernel_rfl
    clear hw
    subst ew
    refine ⟨by kernel_rfl, _, rfl, _, rfl, m, C_Market, dx, _, _, rfl, sm _ _ k0, T.cl_Market, T.no_Market_losses, mf_l, _, rfl, ad, v, rfl, .inr ⟨_, k, kb, .inr ⟨od, sm _ _ hfz⟩, rfl, hkb, (lkv_is hnd hk).symm⟩, _, k, kb, rfl, hD, hkb, ?_, same_put sm nD, ?_⟩
    · rw [List.length_take]
      exact szl (by unfold lkv; rw [List.length_map]; omega)
    · rw [upd_same, putT_new (lkv_nd hnd hk), List.take_add_one, hk]
      rfl
  rintro H4 ⟨s4, hD⟩
  rw [List.take_of_length_le (Nat.le_refl _)] at hD
  dsimp only
  refine nx_to ?_
  refine ⟨s4 _ _ hfz, ?_⟩
  generalize hw : List.set _ _ _ = w0
  have ew : w0 = [some (.ref m), some (.str e), some (.str z), some (.int n), some (.ref D), none] := by
    rw [← hw]
    kernel_rfl
  clear hw
  subst ew
  obtain ⟨H3, h3e⟩ : ∃ H3, upd H4 ad (.dT (lkv M.los)) = H3 := ⟨_, rfl⟩
  have s23 : Same H2 H3 := fun b u hb => by
    rw [← h3e]
    by_cases e1 : b = ad
    · subst e1
      rw [g4] at hb
      rw [upd_same]
      exact hb
    · rw [upd_ne e1]
      exact s4 _ _ (by rw [upd_ne e1]; exact hb)
  have hD3 : H3 D = some (.dT (lkv M.los)) := by
    rw [← h3e, upd_ne nD2]
    exact hD
  rw [h3e]
  refine ⟨_, rfl, _, rfl, _, rfl, _, rfl, sz (by show 2 ≤ 100000; decide), fun k nk => ?_⟩
  have nDk : D ≠ k := ne_of_none hD3 nk
  have s25 : Same H2 (upd H3 k (.tup [.str e, .str z])) := same_add s23 nk
  refine ⟨D, _, rfl, .inr ⟨lkv M.los, [.inr e, .inr z], k, ?_, rfl, upd_same, szl (by unfold lkv; rw [List.length_map]; omega), rfl⟩, ?_⟩
  · rw [upd_ne nDk]
    exact hD3
  rw [lkv_put]
  have s26 : Same H2 (upd (upd H3 k (.tup [.str e, .str z])) D (.dT (lkv (setL M.los e z n)))) := same_put s25 nDH
  have hD6 : (upd (upd H3 k (.tup [.str e, .str z])) D (.dT (lkv (setL M.los e z n)))) D = some (.dT (lkv (setL M.los e z n))) := upd_same
  obtain ⟨H6, h6⟩ : ∃ H6, (upd (upd H3 k (.tup [.str e, .str z])) D (.dT (lkv (setL M.los e z n)))) = H6 := ⟨_, rfl⟩
  rw [h6] at s26 hD6 ⊢
  have s06 := s02.trans s26
  have k6 := s06 _ _ h0
  refine ⟨_, rfl, m, dx, _, rfl, k6, mf_no (by decide +kernel), _, rfl, m, C_Market, dx, _, _, rfl, k6, T.cl_Market, T.no_Market_treaties, mf_t, _, rfl, m, M, at', D, M.trs, _, rfl, MktAt.same s06 hM, TrsAt.same s06 h3, hok, hD6, hfew, ?_⟩
  rcases hf with ⟨hf, q⟩ | ⟨hf, q⟩
  · refine .inl ⟨hf, fun H7 s7 => ?_⟩
    have s07 := s06.trans s7
    have k7 := s07 _ _ h0
    refine ⟨_, rfl, _, rfl, m, C_Market, dx, _, rfl, k7, T.cl_Market, T.no_Market_losses, by show 4 < 1000; decide, ?_⟩
    rw [mf_pl]
    refine q _ (Bar.put (Bar.of s07)) (km_of h0 upd_same (.inr (s02.free nDH))) ⟨dx, ai, ae, at', D, upd_same, sqt_ins k7 (same_sqt s07 h1), sqt_ins k7 (same_sqt s07 h2), trs_ins k7 (TrsAt.same s07 h3), ?_, (hI5.same s07).ins k7⟩
    have hD7 := s7 _ _ hD6
    rw [upd_ne (fun e => by rw [e, k7] at hD7; cases hD7)]
    exact hD7
  · exact .inr ⟨hf, fun H7 s7 => q H7 (s06.trans s7)⟩

theorem ok_Market_direct {f : Addr} {fd : FuncData} (D_Market_direct : Mth K C_Market "direct" "Market.direct" s_Market_direct ["self", "event"] f fd) (T : Tx K mg C_BadName C_BadCover C_BadPanel C_BadAmount C_NameTaken C_NoSuchName C_NoSuchNotice C_Twice C_OwnPanel C_TooMany C_NoEnd C_Post C_Market N_NOTHING) {f_check_known : Addr} {fd_check_known : FuncData} (D_check_known : Dfn K mg "check_known" s_check_known ["name", "names"] f_check_known fd_check_known) (G_check_known : FnOk P w K mg base (L2.CX P w) (3) f_check_known fd_check_known ["name", "names"] (sp_check_known K C_NoSuchName)) {f_direct_losses : Addr} {fd_direct_losses : FuncData} (D_direct_losses : Dfn K mg "direct_losses" s_direct_losses ["insurers", "losses", "event"] f_direct_losses fd_direct_losses) (G_direct_losses : FnOk P w K mg base CX0 (1) f_direct_losses fd_direct_losses ["insurers", "losses", "event"] (sp_direct_losses K)) :
    FnOk P w K mg base (L2.CX P w) (4) f fd ["self", "event"] (sp_direct K C_Market C_NoSuchName) := by
  refine D_Market_direct.F.okX sc_Market_direct (fun vs H Q E h => ?_) (fun cdv A outer s H vs Q E hr h => ?_)
  · obtain ⟨m, M, e, rfl, hM, hl, h⟩ := h
    rfl
  obtain ⟨m, M, e, rfl, hM, hl, h⟩ := h
  refine ⟨_, (pss_cons (ps_expr (pe_call G_check_known (hr.mono (by first | decide | omega)) rfl D_check_known.m D_check_known.F.kp D_check_known.b .nil (passes_call (takes_of rfl rfl rfl rfl) (fun _ _ _ _ h => h)) (pa_cons (pv 1) (pa_cons (pe_fld (pv 0) rfl) pa_nil))))
      (pss_one (ps_ret (pe_call G_direct_losses (hr.mono (by first | decide | omega)) rfl D_direct_losses.m D_direct_losses.F.kp D_direct_losses.b .nil pass0 (pa_cons (pe_fld (pv 0) rfl) (pa_cons (pe_fld (pv 0) rfl) (pa_cons (pv 1) pa_nil))))))), ?_⟩
  obtain ⟨dx, ai, ae, at', ad, h0, h1, h2, h3, h4, h5⟩ := id hM
  refine ⟨_, rfl, _, rfl, m, C_Market, dx, _, _, rfl, h0, T.cl_Market, T.no_Market_events, mf_e, e, ae, M.evs, rfl, h2, ?_⟩
  rcases h with ⟨he, q⟩ | ⟨he, q⟩
  · refine .inl ⟨he, ?_⟩
    exact ⟨_, rfl, m, C_Market, dx, _, _, rfl, h0, T.cl_Market, T.no_Market_insurers, mf_i, _, rfl, m, C_Market, dx, _, _, rfl, h0, T.cl_Market, T.no_Market_losses, mf_l, _, rfl, ai, ad, e, M.ins, M.los, rfl, h1, hl, .inl h4, fun p H' s np hp => q p H' s np hp⟩
  · exact .inr ⟨he, fun d nd => q d _ (same_new nd) upd_same⟩

theorem ok_Market__check_ends {f : Addr} {fd : FuncData} (D_Market__check_ends : Mth K C_Market "_check_ends" "Market._check_ends" s_Market__check_ends ["self", "treaties", "losses"] f fd) (T : Tx K mg C_BadName C_BadCover C_BadPanel C_BadAmount C_NameTaken C_NoSuchName C_NoSuchNotice C_Twice C_OwnPanel C_TooMany C_NoEnd C_Post C_Market N_NOTHING) {f_rounds_to_end : Addr} {fd_rounds_to_end : FuncData} (D_rounds_to_end : Dfn K mg "rounds_to_end" s_rounds_to_end ["insurers", "treaties", "direct"] f_rounds_to_end fd_rounds_to_end) (G_rounds_to_end : FnOk P w K mg base (L2.CX P w) (6) f_rounds_to_end fd_rounds_to_end ["insurers", "treaties", "direct"] (sp_rounds K C_NoEnd)) {f_direct_losses : Addr} {fd_direct_losses : FuncData} (D_direct_losses : Dfn K mg "direct_losses" s_direct_losses ["insurers", "losses", "event"] f_direct_losses fd_direct_losses) (G_direct_losses : FnOk P w K mg base CX0 (1) f_direct_losses fd_direct_losses ["insurers", "losses", "event"] (sp_direct_losses K)) :
    FnOk P w K mg base (L2.CX P w) (7) f fd ["self", "treaties", "losses"] (sp_check_ends K C_Market C_NoEnd) := by
  refine D_Market__check_ends.F.okX sc_Market__check_ends (fun vs H Q E h => ?_) (fun cdv A outer s H vs Q E hr h => ?_)
  · obtain ⟨m, M, at', ad, ts, L, rfl, hM, hT, hok, hL, he, h⟩ := h
    rfl
  obtain ⟨m, M, at', ad, ts, L, rfl, hM, hT, hok, hL, he, h⟩ := h
  refine ⟨_, (pss_one (ps_for (passes_of rfl) rfl (pi_tup (pe_fld (pv 0) rfl)) (pg_name (i := 3) sc_Market__check_ends.nd rfl (by first | exact Or.inl rfl | exact Or.inr rfl))
      (pss_one (ps_expr (pe_call G_rounds_to_end (hr.mono (by first | decide | omega)) rfl D_rounds_to_end.m D_rounds_to_end.F.kp D_rounds_to_end.b .nil (passes_call (takes_of rfl rfl rfl rfl) (fun _ _ _ _ h => h)) (pa_cons (pe_fld (pv 0) rfl) (pa_cons (pv 1) (pa_cons (pe_call G_direct_losses (hr.mono (by first | decide | omega)) rfl D_direct_losses.m D_direct_losses.F.kp D_direct_losses.b .nil pass0 (pa_cons (pe_fld (pv 0) rfl) (pa_cons (pv 2) (pa_cons (pv 3) pa_nil)))) pa_nil)))))))), ?_⟩
  obtain ⟨dx, ai, ae, at0, ad0, h0, h1, h2, h3, h4, h5⟩ := id hM
  have hfew := hok.few
  refine ⟨_, rfl, m, C_Market, dx, _, _, rfl, h0, T.cl_Market, T.no_Market_events, mf_e, ae, rfl, ⟨_, h2⟩, for_tup (K := K) (a := ae) (xs := M.evs.map V.str) (fun i σ H' => ∃ v : Option V, σ = [some (.ref m), some (.ref at'), some (.ref ad), v] ∧ Same H H' ∧ ∀ j, j < i → ∀ e, M.evs[j]? = some e → fate M.ins ts (directs M.ins L e) true)
    ⟨none, rfl, Same.refl _, fun j hj => absurd hj (Nat.not_lt_zero j)⟩ (fun i σ H' _ ⟨_, _, sm, _⟩ => same_sqt sm h2) ?_ ?_⟩
  · rintro i y σ H' hi ⟨v, rfl, sm, hf⟩
    obtain ⟨e, rfl, hev⟩ := of_at_str hi
    have g0 := sm _ _ h0
    have hdl : (directs M.ins L e).length = M.ins.length := List.length_map ..
    refine ⟨_, rfl, m, C_Market, dx, _, _, rfl, g0, T.cl_Market, T.no_Market_insurers, mf_i, _, rfl, _, rfl, m, C_Market, dx, _, _, rfl, g0, T.cl_Market, T.no_Market_insurers, mf_i, _, rfl, _, rfl, ai, ad, e, M.ins, L, rfl, same_sqt sm h1, hfew, .inl (sm _ _ hL), fun c H2 s2 nc hc => ?_⟩
    have s02 := sm.trans s2
    have step : fate M.ins ts (directs M.ins L e) true → ∀ H3, Same H2 H3 → ∃ v : Option V, ([some (.ref m), some (.ref at'), some (.ref ad), some (.str e)] : L2.St) = [some (.ref m), some (.ref at'), some (.ref ad), v] ∧ Same H H3 ∧ ∀ j, j < i + 1 → ∀ e, M.evs[j]? = some e → fate M.ins ts (directs M.ins L e) true := fun ht H3 s3 => by
      refine ⟨_, rfl, s02.trans s3, fun j hj e2 he2 => ?_⟩
      by_cases ej : j = i
      · subst ej
        rw [hev] at he2
        cases he2
        exact ht
      · exact hf j (by omega) e2 he2
    have bad : fate M.ins ts (directs M.ins L e) false → ∀ H3, Same H2 H3 → E (.ref C_NoEnd) none H3 := fun hb H3 s3 => by
      rcases h with ⟨ha, _⟩ | ⟨_, q⟩
      · exact (fate_one (ha e (List.mem_of_getElem? hev)) hb).elim
      · exact q H3 (s02.trans s3)
    refine ⟨ai, at', c, M.ins, ts, _, rfl, same_sqt s02 h1, TrsAt.same s02 hT, hok, SqT.of hc, hdl, fun k hk hr hfst => ⟨fun hb H3 s3 => ?_, fun hb p H3 s3 _ => ?_⟩, fun hn H3 s3 => ?_⟩
    · exact bad (.inl ⟨k, hk, hr, hfst, hb⟩) H3 s3
    · exact step ⟨k, hk, hr, hfst, hb⟩ H3 s3
    · exact bad (.inr hn) H3 s3
  · rintro σ H' ⟨v, rfl, sm, hf⟩
    rcases h with ⟨_, q⟩ | ⟨⟨e, he2, hb⟩, _⟩
    · exact q _ sm
    · obtain ⟨j, hj⟩ := List.getElem?_of_mem he2
      have hjl := (List.getElem?_eq_some_iff.mp hj).1
      exact (fate_one (hf j (by rw [List.length_map]; exact hjl) e hj) hb).elim

theorem ok_law_cell {f : Addr} {fd : FuncData} (D_law_cell : Dfn K mg "_law_cell" s_law_cell ["script", "k"] f fd) (T : Tx K mg C_BadName C_BadCover C_BadPanel C_BadAmount C_NameTaken C_NoSuchName C_NoSuchNotice C_Twice C_OwnPanel C_TooMany C_NoEnd C_Post C_Market N_NOTHING) :
    FnOk P w K mg base CX0 (1) f fd ["script", "k"] (sp_law_cell K) := by
  refine D_law_cell.F.ok sc_law_cell (fun vs H Q E h => ?_) (fun cdv A outer s H vs Q E hr h => ?_)
  · obtain ⟨a, ns, j, rfl, hS, q⟩ := h
    rfl
  obtain ⟨a, ns, j, rfl, hS, q⟩ := h
  refine ⟨_, (pss_cons (ps_if (pt_cmpR op_lt (pv 1) (pe_callB call_len_seq (by rfl) T.len PySem.boot_len (pa_cons (pv 0) pa_nil)) (nomark _))
      (pss_one (ps_ret (pe_ix (r := rIxL K) ix_list (pv 0) (pv 1) (fun _ _ => rfl))))
      pss_nil)
      (pss_one (ps_ret pe_int))), ?_⟩
  refine ⟨_, rfl, _, rfl, a, _, rfl, .inl hS, _, _, rfl, rfl, _, rfl, ?_⟩
  refine iteB (fun c => ?_) (fun c => ?_)
  · have c' : (j : Int) < ((ns.map V.int).length : Nat) := of_decide_eq_true c
    rw [List.length_map] at c'
    exact ⟨_, rfl, _, rfl, a, _, _, V.int (cell ns j), rfl, rfl, hS, atI_nat (at_map (cell_in (by omega))), q⟩
  · have c' : ¬ (j : Int) < ((ns.map V.int).length : Nat) := of_decide_eq_false c
    rw [List.length_map] at c'
    have e : cell ns j = 0 := cell_out (by omega)
    rw [e] at q
    exact q

theorem ok_law_draws {f : Addr} {fd : FuncData} (D_law_draws : Dfn K mg "_law_draws" s_law_draws ["cell", "count"] f fd) (T : Tx K mg C_BadName C_BadCover C_BadPanel C_BadAmount C_NameTaken C_NoSuchName C_NoSuchNotice C_Twice C_OwnPanel C_TooMany C_NoEnd C_Post C_Market N_NOTHING) :
    FnOk P w K mg base CX0 (1) f fd ["cell", "count"] (sp_df_draws K) := by
  refine D_law_draws.F.ok sc_law_draws (fun vs H Q E h => ?_) (fun cdv A outer s H vs Q E hr h => ?_)
  · obtain ⟨c, n, rfl, hn, q⟩ := h
    rfl
  obtain ⟨c, n, rfl, hn, q⟩ := h
  refine ⟨_, (pss_cons (ps_set (i := 2) sc_law_draws.nd rfl (by first | exact Or.inl rfl | exact Or.inr rfl) (pe_lst pa_nil))
      (pss_cons (ps_set (i := 3) sc_law_draws.nd rfl (by first | exact Or.inl rfl | exact Or.inr rfl) (pe_callTy call_int1 (by rfl) T.int (by decide +kernel) (pa_cons (pv 0) pa_nil)))
      (pss_cons (ps_for PassesOwn.never rfl (pi_range1 (by rfl) T.range (pa_cons (pv 1) pa_nil)) (pg_name (i := 4) sc_law_draws.nd rfl (by first | exact Or.inl rfl | exact Or.inr rfl))
      (pss_cons (ps_set (i := 5) sc_law_draws.nd rfl (by first | exact Or.inl rfl | exact Or.inr rfl) (pe_op op_mod (pe_callTy call_int1 (by rfl) T.int (by decide +kernel) (pa_cons (pe_op op_add (pe_op op_add (pe_op op_mul (pv 0) pe_int) (pe_op op_mul (pv 4) pe_int)) pe_int) pa_nil)) pe_int))
      (pss_one (ps_if (pt_cmpR op_ge (pv 0) (pe_op op_pow pe_int pe_int) (nomark _))
      (pss_cons (ps_expr (pe_bm PySem.F.plainAttrs_list PySem.F.slot_list_append PySem.F.type_list_append mt_append (pv 2) (pa_cons (pe_op op_mod (pv 3) pe_int) pa_nil)))
      (pss_one (ps_set (i := 3) sc_law_draws.nd rfl (by first | exact Or.inl rfl | exact Or.inr rfl) (pe_op op_fdiv (pv 3) pe_int))))
      (pss_one (ps_expr (pe_bm PySem.F.plainAttrs_list PySem.F.slot_list_append PySem.F.type_list_append mt_append (pv 2) (pa_cons (pe_op op_fdiv (pe_op op_mod (pe_callTy call_int1 (by rfl) T.int (by decide +kernel) (pa_cons (pe_op op_add (pe_op op_mul (pv 5) (pv 5)) (pe_op op_mul (pv 5) pe_int)) pa_nil)) pe_int) pe_int) pa_nil))))))))
      (pss_one (ps_ret (pv 2)))))), ?_⟩
  refine ⟨Nat.zero_le _, fun o no => ?_⟩
  dsimp only
  refine nx_to ?_
  refine seq_to ⟨_, rfl, .inl ⟨_, rfl, ?_⟩⟩
  refine seq_to ⟨_, rfl, (n : Int), rfl, by omega, by omega, ?_⟩
  rw [show (n : Int).toNat = n by omega]
  refine for_range (lo := 0) (n := n) (fun i σ H' => ∃ (r : Int) (kv mv : Option V), σ = [some (.int c), some (.int (n : Int)), some (.ref o), some (.int r), kv, mv] ∧ Same H H' ∧ H' o = some (.lst ((dgs c i).map V.int)) ∧ (1000000000000000000 ≤ c → r = c / 1009 ^ i)) ⟨c, none, none, rfl, same_new no, upd_same, fun _ => by rw [Int.pow_zero, Int.ediv_one]⟩ ?_ ?_
  · rintro i σ H' hi ⟨r, kv, mv, rfl, sm, ho, hr⟩
    have ea : (dgs c i).map V.int ++ [V.int (dgt c i)] = (dgs c (i + 1)).map V.int := by
      unfold dgs
      rw [List.range_succ, List.map_append, List.map_append]
      rfl
    have hz : ((dgs c i).map V.int).length < sizeLine := by rw [List.length_map, dgs_len]; exact szl (by omega)
    refine ⟨_, rfl, _, _, rfl, rfl, .inr (by decide), _, rfl, _, _, rfl, rfl, .inr (by decide), _, _, rfl, rfl, _, _, rfl, rfl, .inl ⟨_, rfl, _, _, rfl, rfl, (by show (0 : Int) < 2147483647; decide), ?_⟩⟩
    generalize hx : ((c * 48271 + (0 + (i : Int)) * 69621 + 1) % 2147483647) = x
    have x0 : 0 ≤ x ∧ x < 2147483647 := by omega
    have hm : mxd c i = x := by
      rw [← hx, Int.zero_add]
      rfl
    refine ⟨_, rfl, _, _, rfl, rfl, ⟨by decide, by decide, by decide⟩, _, _, rfl, rfl, _, rfl, ?_⟩
    refine iteB (fun c2 => ?_) (fun c2 => ?_)
    · have c3 : (1000000000000000000 : Int) ≤ c := of_decide_eq_true c2
      have e : dgt c i = r % 1009 := by
        unfold dgt
        rw [if_pos c3, hr c3]
      refine ⟨_, rfl, .inl ⟨rfl, _, SqL.of ho⟩, _, rfl, _, _, rfl, rfl, (by show (0 : Int) < 1009; decide), o, _, _, rfl, rfl, ho, hz, ?_⟩
      refine ⟨_, rfl, _, _, rfl, rfl, ⟨by decide, by decide⟩, ?_⟩
      refine ⟨r / 1009, _, _, rfl, same_put sm no, ?_, fun _ => ?_⟩
      · rw [upd_same, ← ea, e]
      · rw [hr c3, Int.ediv_ediv_of_nonneg (Int.pow_nonneg (by decide)), Int.pow_succ]
    · have c3 : ¬ (1000000000000000000 : Int) ≤ c := of_decide_eq_false c2
      have e : dgt c i = (x * x + x * 40692) % 2147483399 / 7 := by
        unfold dgt
        rw [if_neg c3, hm]
      refine ⟨_, rfl, .inl ⟨rfl, _, SqL.of ho⟩, _, rfl, _, rfl, _, _, rfl, rfl, .inl (by constructor <;> omega), _, rfl, _, _, rfl, rfl, .inr (by decide), _, _, rfl, rfl, .inl ⟨_, rfl, _, _, rfl, rfl, (by show (0 : Int) < 2147483399; decide), _, _, rfl, rfl, ⟨by decide, by decide⟩, o, _, _, rfl, rfl, ho, hz, ?_⟩⟩
      refine ⟨r, _, _, rfl, same_put sm no, ?_, fun h => absurd h c3⟩
      rw [upd_same, ← ea, e, ← hx]
  · rintro σ H' ⟨r, kv, mv, rfl, sm, ho, hr⟩
    exact ⟨_, rfl, q o H' sm no ho⟩

theorem ok_law_cover {f : Addr} {fd : FuncData} (D_law_cover : Dfn K mg "_law_cover" s_law_cover ["n", "at"] f fd) (T : Tx K mg C_BadName C_BadCover C_BadPanel C_BadAmount C_NameTaken C_NoSuchName C_NoSuchNotice C_Twice C_OwnPanel C_TooMany C_NoEnd C_Post C_Market N_NOTHING) :
    FnOk P w K mg base CX0 (1) f fd ["n", "at"] (sp_df_cover K) := by
  refine D_law_cover.F.ok sc_law_cover (fun vs H Q E h => ?_) (fun cdv A outer s H vs Q E hr h => ?_)
  · obtain ⟨a, ns, j, rfl, hS, hl, hn, q⟩ := h
    rfl
  obtain ⟨a, ns, j, rfl, hS, hl, hn, q⟩ := h
  refine ⟨_, (pss_cons (ps_if (pt_cmpR op_eq (pe_op op_mod (pe_ix (r := rIxL K) ix_list (pv 0) (pe_op op_mod (pv 1) (pe_callB call_len_seq (by rfl) T.len PySem.boot_len (pa_cons (pv 0) pa_nil))) (fun _ _ => rfl)) pe_int) pe_int (nomark _))
      (pss_one (ps_ret (pe_tup (pa_cons pe_str (pa_cons (pe_op op_add pe_int (pe_op op_mul pe_int (pe_op op_mod (pe_ix (r := rIxL K) ix_list (pv 0) (pe_op op_mod (pe_op op_add (pv 1) pe_int) (pe_callB call_len_seq (by rfl) T.len PySem.boot_len (pa_cons (pv 0) pa_nil))) (fun _ _ => rfl)) pe_int))) pa_nil)))))
      pss_nil)
      (pss_one (ps_ret (pe_tup (pa_cons pe_str (pa_cons (pe_op op_mod (pe_ix (r := rIxL K) ix_list (pv 0) (pe_op op_mod (pe_op op_add (pv 1) pe_int) (pe_callB call_len_seq (by rfl) T.len PySem.boot_len (pa_cons (pv 0) pa_nil))) (fun _ _ => rfl)) pe_int) (pa_cons (pe_op op_add (pe_op op_mod (pe_ix (r := rIxL K) ix_list (pv 0) (pe_op op_mod (pe_op op_add (pv 1) pe_int) (pe_callB call_len_seq (by rfl) T.len PySem.boot_len (pa_cons (pv 0) pa_nil))) (fun _ _ => rfl)) pe_int) pe_int) pa_nil))))))), ?_⟩
  have pl : (0 : Int) < (((ns.map V.int).length : Nat) : Int) := by rw [List.length_map]; omega
  obtain ⟨v0n, at0⟩ := nth_at hl hn (j : Int)
  obtain ⟨v1n, at1⟩ := nth_at hl hn ((j : Int) + 1)
  obtain ⟨v2n, at2⟩ := nth_at hl hn ((j : Int) + 2)
  refine ⟨_, rfl, _, rfl, _, rfl, a, _, rfl, .inl hS, _, _, rfl, rfl, pl, a, _, _, _, rfl, rfl, hS, at0, _, _, rfl, rfl, (by show (0 : Int) < 2; decide), rfl, _, rfl, ?_⟩
  refine iteB (fun c2 => ?_) (fun c2 => ?_)
  · refine ⟨_, rfl, _, rfl, _, _, rfl, rfl, _, rfl, a, _, rfl, .inl hS, _, _, rfl, rfl, pl, a, _, _, _, rfl, rfl, hS, at1, _, _, rfl, rfl, (by show (0 : Int) < 6; decide), _, _, rfl, rfl, .inl (by decide), _, _, rfl, rfl, sz (by show 2 ≤ 100000; decide), fun t nt => ?_⟩
    have c3 : nth ns (j : Int) % 2 = 0 := V.int.inj (of_decide_eq_true c2)
    have e : cvF ns (j : Int) = .share (100 + 50 * (nth ns ((j : Int) + 1) % 6)) := if_pos c3
    rw [e] at q
    refine q t _ (same_new nt) nt upd_same ?_
    show 1 ≤ 100 + 50 * (nth ns ((j : Int) + 1) % 6) ∧ 100 + 50 * (nth ns ((j : Int) + 1) % 6) ≤ 1000
    omega
  · refine ⟨_, rfl, _, rfl, _, _, rfl, rfl, _, rfl, a, _, rfl, .inl hS, _, _, rfl, rfl, pl, a, _, _, _, rfl, rfl, hS, at1, _, _, rfl, rfl, (by show (0 : Int) < 40; decide), _, rfl, _, rfl, _, _, rfl, rfl, _, rfl, a, _, rfl, .inl hS, _, _, rfl, rfl, pl, a, _, _, _, rfl, rfl, hS, at2, _, _, rfl, rfl, (by show (0 : Int) < 30; decide), _, _, rfl, rfl, sz (by show 3 ≤ 100000; decide), fun t nt => ?_⟩
    have c3 : ¬ nth ns (j : Int) % 2 = 0 := fun z => (of_decide_eq_false c2) (by show V.int (nth ns (j : Int) % 2) = V.int 0; rw [z])
    have e : cvF ns (j : Int) = .layer (nth ns ((j : Int) + 1) % 40) (nth ns ((j : Int) + 2) % 30 + 1) := if_neg c3
    rw [e] at q
    refine q t _ (same_new nt) nt upd_same ?_
    refine ⟨?_, ?_, ?_, ?_⟩
    all_goals omega


theorem ok_law_panel {f : Addr} {fd : FuncData} (D_law_panel : Dfn K mg "_law_panel" s_law_panel ["n", "at", "names"] f fd) (T : Tx K mg C_BadName C_BadCover C_BadPanel C_BadAmount C_NameTaken C_NoSuchName C_NoSuchNotice C_Twice C_OwnPanel C_TooMany C_NoEnd C_Post C_Market N_NOTHING) :
    FnOk P w K mg base CX0 (1) f fd ["n", "at", "names"] (sp_df_panel K) := by
  refine D_law_panel.F.ok sc_law_panel (fun vs H Q E h => ?_) (fun cdv A outer s H vs Q E hr h => ?_)
  · obtain ⟨a, b, ns, j, c, ins, os, rfl, hS, hl, hn, hB, hnd, hlen, hos, hnm, q⟩ := h
    rfl
  obtain ⟨a, b, ns, j, c, ins, os, rfl, hS, hl, hn, hB, hnd, hlen, hos, hnm, q⟩ := h
  refine ⟨_, (pss_cons (ps_set (i := 3) sc_law_panel.nd rfl (by first | exact Or.inl rfl | exact Or.inr rfl) (pe_lst pa_nil))
      (pss_cons (ps_for PassesOwn.never rfl (pi_range1 (by rfl) T.range (pa_cons (pe_callB call_len_seq (by rfl) T.len PySem.boot_len (pa_cons (pv 2) pa_nil)) pa_nil)) (pg_name (i := 4) sc_law_panel.nd rfl (by first | exact Or.inl rfl | exact Or.inr rfl))
      (pss_one (ps_if (pt_cmpR op_gt (pe_op op_mod (pe_ix (r := rIxL K) ix_list (pv 0) (pe_op op_mod (pe_op op_add (pv 1) (pv 4)) (pe_callB call_len_seq (by rfl) T.len PySem.boot_len (pa_cons (pv 0) pa_nil))) (fun _ _ => rfl)) pe_int) pe_int (nomark _))
      (pss_one (ps_expr (pe_bm PySem.F.plainAttrs_list PySem.F.slot_list_append PySem.F.type_list_append mt_append (pv 3) (pa_cons (pe_tup (pa_cons (pe_ix (r := rIxL K) ix_list (pv 2) (pv 4) (fun _ _ => rfl)) (pa_cons (pe_op op_add (pe_op op_mod (pe_ix (r := rIxL K) ix_list (pv 0) (pe_op op_mod (pe_op op_add (pe_op op_add (pv 1) (pv 4)) pe_int) (pe_callB call_len_seq (by rfl) T.len PySem.boot_len (pa_cons (pv 0) pa_nil))) (fun _ _ => rfl)) pe_int) pe_int) pa_nil))) pa_nil))))
      pss_nil)))
      (pss_cons (ps_if (PW.pt (pw_or (pt_cmpR op_eq (pe_op op_mod (pe_ix (r := rIxL K) ix_list (pv 0) (pe_op op_mod (pe_op op_add (pv 1) pe_int) (pe_callB call_len_seq (by rfl) T.len PySem.boot_len (pa_cons (pv 0) pa_nil))) (fun _ _ => rfl)) pe_int) pe_int (nomark _)) (pw_or1 (pt_cmpR op_eq (pe_callB call_len_seq (by rfl) T.len PySem.boot_len (pa_cons (pv 3) pa_nil)) pe_int (nomark _)))))
      (pss_one (ps_expr (pe_bm PySem.F.plainAttrs_list PySem.F.slot_list_append PySem.F.type_list_append mt_append (pv 3) (pa_cons (pe_tup (pa_cons pe_non (pa_cons (pe_op op_add (pe_op op_mod (pe_ix (r := rIxL K) ix_list (pv 0) (pe_op op_mod (pe_op op_add (pv 1) pe_int) (pe_callB call_len_seq (by rfl) T.len PySem.boot_len (pa_cons (pv 0) pa_nil))) (fun _ _ => rfl)) pe_int) pe_int) pa_nil))) pa_nil))))
      pss_nil)
      (pss_one (ps_ret (pe_callTy call_tuple_of (by rfl) T.tuple (by decide +kernel) (pa_cons (pv 3) pa_nil))))))), ?_⟩
  refine ⟨Nat.zero_le _, fun D nD => ?_⟩
  have s0 := same_new (o := .lst []) nD
  have hD0 : upd H D (.lst []) D = some (.lst []) := upd_same
  obtain ⟨H0, h0⟩ : ∃ H0, upd H D (.lst []) = H0 := ⟨_, rfl⟩
  rw [h0] at s0 hD0 ⊢
  clear h0
  dsimp only
  refine nx_to ?_
  have pl : (0 : Int) < (((ns.map V.int).length : Nat) : Int) := by rw [List.length_map]; omega
  have kN : ∀ {H' : Hp}, Same H H' → SqL K H' a (ns.map V.int) := fun e => e.seq hS
  have kB : ∀ {H' : Hp}, Same H H' → SqL K H' b (os.map V.str) := fun e => e.seq hB
  refine seq_to ⟨_, rfl, b, _, rfl, .inl (kB s0), ((os.length : Nat) : Int), by rw [List.length_map], by omega, by omega, ?_⟩
  rw [show ((os.length : Nat) : Int).toNat = os.length by omega]
  refine for_range (lo := 0) (n := os.length) (fun i σ H' => ∃ (ys : List V) (ps : List (Option Str × Int)) (kv : Option V), σ = [some (.ref a), some (.int (j : Int)), some (.ref b), some (.ref D), kv] ∧ Same H H' ∧ H' D = some (.lst ys) ∧ AllAt (EntAt K) H' ys ps ∧ DgSt os i ps ∧ pnF0 ns j 0 os = ps ++ pnF0 ns j i (os.drop i))
    ⟨_, _, _, rfl, s0, hD0, AllAt.nil, ⟨List.nil_sublist _, fun e he => (nomatch he)⟩, rfl⟩ ?_ ?_
  · rintro i σ H' hi ⟨ys, ps, kv, rfl, sm, hD, hA, st, hpn⟩
    obtain ⟨z, hz⟩ : ∃ z, os[i]? = some z := ⟨_, List.getElem?_eq_getElem hi⟩
    rw [pnF0_step hz] at hpn
    obtain ⟨v0n, at0⟩ := nth_at hl hn ((j : Int) + (0 + (i : Int)))
    obtain ⟨v1n, at1⟩ := nth_at hl hn ((j : Int) + (0 + (i : Int)) + 1)
    rw [← Int.zero_add (i : Int)] at hpn
    refine ⟨_, rfl, _, rfl, _, rfl, _, _, rfl, rfl, _, rfl, a, _, rfl, .inl (kN sm), _, _, rfl, rfl, pl, a, _, _, _, rfl, rfl, kN sm, at0, _, _, rfl, rfl, (by show (0 : Int) < 3; decide), _, _, rfl, rfl, _, rfl, ?_⟩
    have la := hA.1
    have ls : ps.length ≤ os.length := by
      have h1 := st.sub.length_le
      rw [List.length_map, List.length_take] at h1
      have h2 : (pnames ps).length = ps.length := List.length_map ..
      omega
    refine iteB (fun c2 => ?_) (fun c2 => ?_)
    · refine ⟨_, rfl, .inl ⟨rfl, _, SqL.of hD⟩, _, rfl, _, rfl, b, _, _, .str z, rfl, rfl, kB sm, by rw [zi]; exact atI_nat (by rw [List.getElem?_map, hz]; rfl), _, rfl, _, rfl, _, rfl, _, _, rfl, rfl, _, _, rfl, rfl, _, rfl, a, _, rfl, .inl (kN sm), _, _, rfl, rfl, pl, a, _, _, _, rfl, rfl, kN sm, at1, _, _, rfl, rfl, (by show (0 : Int) < 4; decide), _, _, rfl, rfl, sz (by show 2 ≤ 100000; decide), fun t nt => ?_⟩
      have s9 := same_new (o := .tup [.str z, .int (nth ns ((j : Int) + (0 + (i : Int)) + 1) % 4 + 1)]) nt
      have hD9 := s9 _ _ hD
      have hA9 : AllAt (EntAt K) (upd H' t (.tup [.str z, .int (nth ns ((j : Int) + (0 + (i : Int)) + 1) % 4 + 1)])) (ys ++ [.ref t]) (ps ++ [(some z, nth ns ((j : Int) + (0 + (i : Int)) + 1) % 4 + 1)]) := AllAt.add (AllAt.same (R := EntAt K) (fun e r => ent_same e r) s9 hA) ⟨t, rfl, SqT.of upd_same⟩
      exact ⟨D, _, _, rfl, rfl, hD9, szl (by omega), _, _, _, rfl, same_put (sm.trans s9) nD, upd_same, AllAt.imp (S := EntAt K) hA9 fun y e r => ent_put hD9 r, st.add hz (by omega) (by omega), by rw [if_pos (of_decide_eq_true c2)] at hpn; rw [hpn, List.append_assoc]⟩
    · rw [if_neg (of_decide_eq_false c2), List.nil_append] at hpn
      exact ⟨_, _, _, rfl, sm, hD, hA, st.up hz, hpn⟩
  rintro σ H1 ⟨ys, ps, kv, rfl, s1, hD, hA, st, hpn⟩
  dsimp only
  rw [List.drop_eq_nil_of_le (Nat.le_refl _)] at hpn
  have hps : pnF0 ns j 0 os = ps := hpn.trans (List.append_nil _)
  obtain ⟨v7n, at7⟩ := nth_at hl hn ((j : Int) + 7)
  obtain ⟨v8n, at8⟩ := nth_at hl hn ((j : Int) + 8)
  have la := hA.1
  have ls : ps.length ≤ os.length := by
    have h1 := st.sub.length_le
    rw [List.length_map, List.length_take] at h1
    have h2 : (pnames ps).length = ps.length := List.length_map ..
    omega
  have fin : ∀ {H' : Hp} {zs : List V}, Same H H' → H' D = some (.lst zs) → AllAt (EntAt K) H' zs (pnF ns j os) → DrawnPan ins c (pnF ns j os) → ∀ t, H' t = none → Q (.ref t) (upd H' t (.tup zs)) := fun {H' zs} sm hD hA hp t nt => by
    have s6 := same_new (o := .tup zs) nt
    exact q t _ (sm.trans s6) ⟨t, zs, rfl, SqT.of upd_same, hA.1, (AllAt.same (R := EntAt K) (fun e r => ent_same e r) s6 hA).2⟩ hp
  refine with_rest (t := tIfS _ _ _) (u := tRet _) (fun σ' H' => ∃ (zs : List V) (kw : Option V), σ' = [some (.ref a), some (.int (j : Int)), some (.ref b), some (.ref D), kw] ∧ Same H H' ∧ H' D = some (.lst zs) ∧ AllAt (EntAt K) H' zs (pnF ns j os) ∧ DrawnPan ins c (pnF ns j os)) ?_ (fun R0 => ?_)
  · rintro σ H2 ⟨zs, kw, rfl, s2, hD2, hA2, hp⟩
    exact ⟨_, rfl, D, _, rfl, .inl ⟨SqL.of hD2, fun t nt => fin s2 hD2 hA2 hp t nt⟩⟩
  refine ⟨_, rfl, _, rfl, _, _, rfl, rfl, _, rfl, a, _, rfl, .inl (kN s1), _, _, rfl, rfl, pl, a, _, _, _, rfl, rfl, kN s1, at7, _, _, rfl, rfl, (by show (0 : Int) < 3; decide), rfl, _, rfl, ?_⟩
  refine iteB (fun c2 => iteT ?_) (fun c2 => ⟨_, rfl, D, _, rfl, .inl (SqL.of hD), rfl, _, rfl, iteB (fun c3 => ?_) (fun c3 => ?_)⟩)
  · refine ⟨_, rfl, .inl ⟨rfl, _, SqL.of hD⟩, _, rfl, _, rfl, _, _, rfl, rfl, _, rfl, a, _, rfl, .inl (kN s1), _, _, rfl, rfl, pl, a, _, _, _, rfl, rfl, kN s1, at8, _, _, rfl, rfl, (by show (0 : Int) < 4; decide), _, _, rfl, rfl, sz (by show 2 ≤ 100000; decide), fun t nt => ?_⟩
    have s9 := same_new (o := .tup [.non, .int (nth ns ((j : Int) + 8) % 4 + 1)]) nt
    have hD9 := s9 _ _ hD
    have hA9 : AllAt (EntAt K) (upd H1 t (.tup [.non, .int (nth ns ((j : Int) + 8) % 4 + 1)])) (ys ++ [.ref t]) (ps ++ [(none, nth ns ((j : Int) + 8) % 4 + 1)]) := AllAt.add (AllAt.same (R := EntAt K) (fun e r => ent_same e r) s9 hA) ⟨t, rfl, SqT.of upd_same⟩
    have hc : nth ns ((j : Int) + 7) % 3 = 0 := V.int.inj (of_decide_eq_true c2)
    have ep : pnF ns j os = ps ++ [(none, nth ns ((j : Int) + 8) % 4 + 1)] := by
      unfold pnF
      rw [if_pos (.inl hc), hps]
    exact ⟨D, _, _, rfl, rfl, hD9, szl (by omega), R0 _ _ ⟨_, kv, rfl, same_put (s1.trans s9) nD, upd_same, by rw [ep]; exact AllAt.imp (S := EntAt K) hA9 fun y e r => ent_put hD9 r, by rw [ep]; exact st.fin hnd hlen hos hnm (.inr ⟨nth ns ((j : Int) + 8) % 4 + 1, by omega, by omega, rfl⟩) (by rw [List.length_append]; exact Nat.le_add_left _ _)⟩⟩
  · refine ⟨_, rfl, .inl ⟨rfl, _, SqL.of hD⟩, _, rfl, _, rfl, _, _, rfl, rfl, _, rfl, a, _, rfl, .inl (kN s1), _, _, rfl, rfl, pl, a, _, _, _, rfl, rfl, kN s1, at8, _, _, rfl, rfl, (by show (0 : Int) < 4; decide), _, _, rfl, rfl, sz (by show 2 ≤ 100000; decide), fun t nt => ?_⟩
    have s9 := same_new (o := .tup [.non, .int (nth ns ((j : Int) + 8) % 4 + 1)]) nt
    have hD9 := s9 _ _ hD
    have hA9 : AllAt (EntAt K) (upd H1 t (.tup [.non, .int (nth ns ((j : Int) + 8) % 4 + 1)])) (ys ++ [.ref t]) (ps ++ [(none, nth ns ((j : Int) + 8) % 4 + 1)]) := AllAt.add (AllAt.same (R := EntAt K) (fun e r => ent_same e r) s9 hA) ⟨t, rfl, SqT.of upd_same⟩
    have hl0 : (((ys.length : Nat) : Int)) = 0 := V.int.inj (of_decide_eq_true c3)
    have hp0 : ps = [] := List.eq_nil_of_length_eq_zero (by omega)
    have ep : pnF ns j os = ps ++ [(none, nth ns ((j : Int) + 8) % 4 + 1)] := by
      unfold pnF
      rw [if_pos (.inr (hps.trans hp0)), hps]
    exact ⟨D, _, _, rfl, rfl, hD9, szl (by omega), R0 _ _ ⟨_, kv, rfl, same_put (s1.trans s9) nD, upd_same, by rw [ep]; exact AllAt.imp (S := EntAt K) hA9 fun y e r => ent_put hD9 r, by rw [ep]; exact st.fin hnd hlen hos hnm (.inr ⟨nth ns ((j : Int) + 8) % 4 + 1, by omega, by omega, rfl⟩) (by rw [List.length_append]; exact Nat.le_add_left _ _)⟩⟩
  · have c3' : ¬ V.int (((ys.length : Nat) : Int)) = V.int 0 := of_decide_eq_false c3
    have p1 : 1 ≤ ps.length := by
      rcases Nat.eq_zero_or_pos ps.length with e | e
      · rw [la, e] at c3'
        exact absurd rfl c3'
      · exact e
    have ep : pnF ns j os = ps := by
      unfold pnF
      rw [if_neg, hps]
      rintro (h | h)
      · exact (of_decide_eq_false c2) (by show V.int (nth ns ((j : Int) + 7) % 3) = V.int 0; rw [h])
      · rw [hps] at h
        rw [h] at p1
        exact absurd p1 (by decide)
    exact R0 _ _ ⟨ys, kv, rfl, s1, hD, by rw [ep]; exact hA, by rw [ep]; exact st.fin hnd hlen hos hnm (.inl rfl) p1⟩

theorem ok_law_filled {f : Addr} {fd : FuncData} (D_law_filled : Dfn K mg "_law_filled" s_law_filled ["market", "cell"] f fd) (T : Tx K mg C_BadName C_BadCover C_BadPanel C_BadAmount C_NameTaken C_NoSuchName C_NoSuchNotice C_Twice C_OwnPanel C_TooMany C_NoEnd C_Post C_Market N_NOTHING) {f_law_draws : Addr} {fd_law_draws : FuncData} (D_law_draws : Dfn K mg "_law_draws" s_law_draws ["cell", "count"] f_law_draws fd_law_draws) (G_law_draws : FnOk P w K mg base CX0 (1) f_law_draws fd_law_draws ["cell", "count"] (sp_df_draws K)) {f_Market_add_insurer : Addr} {fd_Market_add_insurer : FuncData} (D_Market_add_insurer : Mth K C_Market "add_insurer" "Market.add_insurer" s_Market_add_insurer ["self", "name"] f_Market_add_insurer fd_Market_add_insurer) (G_Market_add_insurer : FnOk P w K mg base (L2.CX P w) (4) f_Market_add_insurer fd_Market_add_insurer ["self", "name"] (sp_add_insurer K C_Market C_BadName C_TooMany C_NameTaken)) {f_Market_add_event : Addr} {fd_Market_add_event : FuncData} (D_Market_add_event : Mth K C_Market "add_event" "Market.add_event" s_Market_add_event ["self", "name"] f_Market_add_event fd_Market_add_event) (G_Market_add_event : FnOk P w K mg base (L2.CX P w) (4) f_Market_add_event fd_Market_add_event ["self", "name"] (sp_add_event K C_Market C_BadName C_TooMany C_NameTaken)) {f_Market_add_treaty : Addr} {fd_Market_add_treaty : FuncData} (D_Market_add_treaty : Mth K C_Market "add_treaty" "Market.add_treaty" s_Market_add_treaty ["self", "cedent", "cover", "panel"] f_Market_add_treaty fd_Market_add_treaty) (G_Market_add_treaty : FnOk P w K mg base (L2.CX P w) (8) f_Market_add_treaty fd_Market_add_treaty ["self", "cedent", "cover", "panel"] (sp_add_treaty K C_Market C_BadName C_BadCover C_BadPanel C_NoSuchName C_Twice C_OwnPanel C_TooMany C_NoEnd)) {f_law_cover : Addr} {fd_law_cover : FuncData} (D_law_cover : Dfn K mg "_law_cover" s_law_cover ["n", "at"] f_law_cover fd_law_cover) (G_law_cover : FnOk P w K mg base CX0 (1) f_law_cover fd_law_cover ["n", "at"] (sp_df_cover K)) {f_law_panel : Addr} {fd_law_panel : FuncData} (D_law_panel : Dfn K mg "_law_panel" s_law_panel ["n", "at", "names"] f_law_panel fd_law_panel) (G_law_panel : FnOk P w K mg base CX0 (1) f_law_panel fd_law_panel ["n", "at", "names"] (sp_df_panel K)) {f_law_loss : Addr} {fd_law_loss : FuncData} (D_law_loss : Dfn K mg "_law_loss" s_law_loss ["market", "digit"] f_law_loss fd_law_loss) (G_law_loss : FnOk P w K mg base CX0 (9) f_law_loss fd_law_loss ["market", "digit"] (sp_df_loss K C_Market)) :
    FnOk P w K mg base CX0 (10) f fd ["market", "cell"] (sp_df_filled K C_Market) := by
  refine D_law_filled.F.ok sc_law_filled (fun vs H Q E h => ?_) (fun cdv A outer s H vs Q E hr h => ?_)
  · obtain ⟨m, c, rfl, hM, q⟩ := h
    rfl
  obtain ⟨m, c, rfl, hM, q⟩ := h
  refine ⟨_, (pss_cons (ps_set (i := 2) sc_law_filled.nd rfl (by first | exact Or.inl rfl | exact Or.inr rfl) (pe_call G_law_draws (hr.mono (by first | decide | omega)) rfl D_law_draws.m D_law_draws.F.kp D_law_draws.b .nil pass0 (pa_cons (pe_callTy call_int1 (by rfl) T.int (by decide +kernel) (pa_cons (pv 1) pa_nil)) (pa_cons pe_int pa_nil))))
      (pss_cons (ps_for PassesOwn.never rfl (pi_tup (pe_slice sl_tupA (pe_tup (pa_cons pe_str (pa_cons pe_str (pa_cons pe_str (pa_cons pe_str pa_nil))))) po_none (po_some (pe_op op_add (pe_op op_mod (pe_ix (r := rIxL K) ix_list (pv 2) pe_int (fun _ _ => rfl)) pe_int) pe_int)))) (pg_name (i := 3) sc_law_filled.nd rfl (by first | exact Or.inl rfl | exact Or.inr rfl))
      (pss_one (ps_expr (pe_meth (pv 0) T.cl_Market D_Market_add_insurer.m G_Market_add_insurer (hr.mono (by first | decide | omega)) D_Market_add_insurer.b .nil passL (pa_cons (pv 3) pa_nil)))))
      (pss_cons (ps_for PassesOwn.never rfl (pi_tup (pe_slice sl_tupA (pe_tup (pa_cons pe_str (pa_cons pe_str pa_nil))) po_none (po_some (pe_op op_add (pe_op op_mod (pe_ix (r := rIxL K) ix_list (pv 2) pe_int (fun _ _ => rfl)) pe_int) pe_int)))) (pg_name (i := 4) sc_law_filled.nd rfl (by first | exact Or.inl rfl | exact Or.inr rfl))
      (pss_one (ps_expr (pe_meth (pv 0) T.cl_Market D_Market_add_event.m G_Market_add_event (hr.mono (by first | decide | omega)) D_Market_add_event.b .nil passL (pa_cons (pv 4) pa_nil)))))
      (pss_cons (ps_for PassesOwn.never rfl (pi_range1 (by rfl) T.range (pa_cons (pe_op op_mod (pe_ix (r := rIxL K) ix_list (pv 2) pe_int (fun _ _ => rfl)) pe_int) pa_nil)) (pg_name (i := 5) sc_law_filled.nd rfl (by first | exact Or.inl rfl | exact Or.inr rfl))
      (pss_cons (ps_set (i := 6) sc_law_filled.nd rfl (by first | exact Or.inl rfl | exact Or.inr rfl) (pe_ix (r := rIxT K) ix_tup (pe_fld (pv 0) rfl) (pe_op op_mod (pe_ix (r := rIxL K) ix_list (pv 2) (pe_op op_add pe_int (pv 5)) (fun _ _ => rfl)) (pe_callB call_len_seq (by rfl) T.len PySem.boot_len (pa_cons (pe_fld (pv 0) rfl) pa_nil))) (fun _ _ => rfl)))
      (pss_cons (ps_setLc (i := 7) (own := [("name", 3)]) (g := (gName 3)) rfl sc_law_filled.nd rfl rfl (sw_true rfl rfl rfl (by decide +kernel)) (pi_tup (pe_fld (pv 0) rfl)) (blkOk_by (own := [("name", 3)]) (N := (["market", "cell", "n", "name", "event", "k", "cedent", "others"] : List Str)) (sc := defScope s_law_filled) (by decide +kernel)) (fun _ _ _ _ _ => (pg_name (i := 3) sc_law_filled.nd rfl (by first | exact Or.inl rfl | exact Or.inr rfl))) (fun _ _ _ _ _ => (pts_one (pt_cmpR op_ne (pv 3) (pv 6) (nomark _)))) (fun _ _ _ _ _ => (pv 3)))
      (pss_one (ps_try_only rfl rfl ⟨rfl, by decide, .inl T.exc_NoEnd.g⟩ takes0 (fun W pn xe tk _ => (pss_one (ps_expr (by exact (pe_methT (pv 0) T.cl_Market D_Market_add_treaty.m G_Market_add_treaty (hr.mono (by first | decide | omega)) D_Market_add_treaty.b (fun σ => passAt tk σ) (by exact (pa_cons (pv 6) (pa_cons (pe_call G_law_cover (hr.mono (by first | decide | omega)) rfl D_law_cover.m D_law_cover.F.kp D_law_cover.b .nil pass0 (pa_cons (pv 2) (pa_cons (pe_op op_add pe_int (pe_op op_mul pe_int (pv 5))) pa_nil))) (pa_cons (pe_call G_law_panel (hr.mono (by first | decide | omega)) rfl D_law_panel.m D_law_panel.F.kp D_law_panel.b .nil pass0 (pa_cons (pv 2) (pa_cons (pe_op op_add pe_int (pe_op op_mul pe_int (pv 5))) (pa_cons (pv 7) pa_nil)))) pa_nil))))))))) (fun a oe cls d pn hz hf => (pss_one ps_continue)))))))
      (pss_cons (ps_for PassesOwn.never rfl (pi_range1 (by rfl) T.range (pa_cons (pe_op op_mod (pe_ix (r := rIxL K) ix_list (pv 2) pe_int (fun _ _ => rfl)) pe_int) pa_nil)) (pg_name (i := 5) sc_law_filled.nd rfl (by first | exact Or.inl rfl | exact Or.inr rfl))
      (pss_one (ps_expr (pe_call G_law_loss (hr.mono (by first | decide | omega)) rfl D_law_loss.m D_law_loss.F.kp D_law_loss.b .nil pass0 (pa_cons (pv 0) (pa_cons (pe_op op_add (pe_ix (r := rIxL K) ix_list (pv 2) (pe_op op_add pe_int (pv 5)) (fun _ _ => rfl)) (pe_op op_mul pe_int (pe_ix (r := rIxL K) ix_list (pv 2) pe_int (fun _ _ => rfl)))) pa_nil))))))
      (pss_one (ps_ret (pv 0)))))))), ?_⟩
  refine seq_to (asg_to ⟨_, rfl, .inl ⟨_, rfl, c, 50, rfl, by decide, fun o H1 s1 no hN => ?_⟩⟩)
  obtain ⟨ns, hns⟩ : ∃ ns, dgs c 50 = ns := ⟨_, rfl⟩
  have hl : ns.length = 50 := by rw [← hns]; exact dgs_len c 50
  have hn : ∀ x ∈ ns, 0 ≤ x := by rw [← hns]; exact dgs_pos c 50
  rw [hns] at hN
  have qe : mktF c = lossF ns ⟨insF ns, evsF ns, trsF ns, []⟩ (dg0 ns 40 % 6).toNat := by unfold mktF; rw [hns]
  rw [qe] at q
  dsimp only
  refine nx_to ?_
  have dg : ∀ j, j < 50 → 0 ≤ dg0 ns j ∧ atI (ns.map V.int) (j : Nat) = some (.int (dg0 ns j)) := fun j hj => by
    have e : dg0 ns j = ns[j]'(by omega) := by unfold dg0; rw [List.getD_eq_getElem?_getD, List.getElem?_eq_getElem (by omega)]; rfl
    rw [e]
    exact ⟨hn _ (List.getElem_mem _), atI_nat (at_map (List.getElem?_eq_getElem (by omega)))⟩
  have hM1 := MktAt.same s1 hM
  have hmo : ∃ dx fs, H m = some (.ins C_Market dx fs) := by
    obtain ⟨dx, ai, ae, at', ad, h0, _⟩ := hM
    exact ⟨dx, _, h0⟩
  have om : o ≠ m := fun e => by
    obtain ⟨dx, fs, h⟩ := hmo
    rw [← e, no] at h
    cases h
  have mk : ∀ {H' : Hp} {M : Mkt}, MktAt K C_Market H' m M → ∃ dx fs, H' m = some (.ins C_Market dx fs) := fun h => by
    obtain ⟨dx, ai, ae, at', ad, h0, _⟩ := h
    exact ⟨dx, _, h0⟩
  have b1 : Bar m H H1 := Bar.of s1
  -- the insurers
  obtain ⟨p0, a0⟩ := dg 0 (by decide)
  obtain ⟨v0, e_v0⟩ : ∃ v, dg0 ns 0 = v := ⟨_, rfl⟩
  rw [e_v0] at p0 a0
  obtain ⟨k0, hk0, k02, k04⟩ : ∃ k : Nat, v0 % 3 + 2 = (k : Int) ∧ 2 ≤ k ∧ k ≤ 4 := ⟨(v0 % 3 + 2).toNat, by omega, by omega, by omega⟩
  have eins : insF ns = four.take k0 := by unfold insF; rw [e_v0, show (v0 % 3 + 2).toNat = k0 by omega]
  have fl : (four.take k0).length = k0 := by
    rw [List.length_take, show four.length = 4 from rfl]
    omega
  have fnd : (four.take k0).Nodup := (show four.Nodup by decide +kernel).sublist (List.take_sublist _ _)
  have fnm : ∀ z ∈ four.take k0, isNm z = true ∧ z.length ≤ 1000 := fun z hz => (show ∀ c ∈ four, isNm c = true ∧ c.length ≤ 1000 by decide +kernel) z (List.mem_of_mem_take hz)
  refine seq_to ⟨sz (by show 4 ≤ 100000; decide), fun t nt => ?_⟩
  have e1 := same_new (o := .tup [.str "ada", .str "bob", .str "cyd", .str "dan"]) nt
  refine ⟨_, rfl, o, _, _, .int v0, rfl, rfl, e1.seq (SqL.of hN), a0, _, _, rfl, rfl, (by show (0 : Int) < 3; decide), _, _, rfl, rfl, _, rfl, slA_to (SqT.of upd_same) hk0 fun A H2 s2 hA => ?_⟩
  generalize hw : List.set _ _ _ = w0
  have ew : w0 = [some (.ref m), some (.int c), some (.ref o), none, none, none, none, none] := by
    rw [← hw]
    kernel_rfl
  clear hw
  subst ew
  have s12 := e1.trans s2
  have hN2 := s12 _ _ hN
  have hM2 := MktAt.same s12 hM1
  obtain ⟨dx2, fs2, hm2⟩ := mk hM2
  have b2 : Bar m H H2 := b1.trans (Bar.of s12)
  have hA : SqT K H2 A ((four.take k0).map V.str) := by
    rw [List.map_take]
    exact hA
  refine ⟨A, rfl, ⟨_, hA⟩, for_tup (K := K) (a := A) (xs := (four.take k0).map V.str) (fun i σ H' => ∃ v3 : Option V, σ = [some (.ref m), some (.int c), some (.ref o), v3, none, none, none, none] ∧ Bar m H2 H' ∧ MktAt K C_Market H' m ⟨(four.take k0).take i, [], [], []⟩) ⟨_, rfl, Bar.refl _, hM2⟩ (fun i σ H' _ ⟨_, _, b, _⟩ => sqt_bar b hm2 hA) ?_ ?_⟩
  · rintro i v σ H' hi ⟨v3, rfl, b, hMk⟩
    obtain ⟨z, rfl, hz⟩ := of_at_str hi
    have hil := (List.getElem?_eq_some_iff.mp hz).1
    obtain ⟨dx1, ai, ae, at', ad, h0, _⟩ := id hMk
    have hn := fnm z (List.mem_of_getElem? hz)
    refine ⟨_, rfl, m, dx1, _, rfl, h0, mf_no (by decide +kernel), _, rfl, m, _, _, rfl, hMk, .inr ⟨z, rfl, ⟨z, rfl, hn.2, hn.1⟩, .inr (.inr ⟨by show ((four.take k0).take i).length < 6; rw [List.length_take]; omega, fun hm => ?_, fun H2 b2 hM2 => ?_⟩)⟩⟩
    · obtain ⟨j, hj⟩ := List.getElem?_of_mem hm
      rw [List.getElem?_take] at hj
      split at hj
      · rename_i hji
        have := nodup_at fnd hj hz
        omega
      · cases hj
    · refine ⟨_, rfl, b.trans b2, ?_⟩
      rw [List.take_add_one, hz]
      exact hM2
  rintro σ H3 ⟨v3, rfl, b23, hM3⟩
  rw [List.length_map, List.take_of_length_le (Nat.le_refl _)] at hM3
  dsimp only
  have b3 := b2.trans b23
  have hN3 := b23 _ _ om hN2
  -- the events
  obtain ⟨p1, a1⟩ := dg 1 (by decide)
  obtain ⟨v1, e_v1⟩ : ∃ v, dg0 ns 1 = v := ⟨_, rfl⟩
  rw [e_v1] at p1 a1
  obtain ⟨k1, hk1, k12, k14⟩ : ∃ k : Nat, v1 % 2 + 1 = (k : Int) ∧ 1 ≤ k ∧ k ≤ 2 := ⟨(v1 % 2 + 1).toNat, by omega, by omega, by omega⟩
  have eevs : evsF ns = twain.take k1 := by unfold evsF; rw [e_v1, show (v1 % 2 + 1).toNat = k1 by omega]
  have gl : (twain.take k1).length = k1 := by
    rw [List.length_take, show twain.length = 2 from rfl]
    omega
  have gnd : (twain.take k1).Nodup := (show twain.Nodup by decide +kernel).sublist (List.take_sublist _ _)
  have gnm : ∀ z ∈ twain.take k1, isNm z = true ∧ z.length ≤ 1000 := fun z hz => (show ∀ c ∈ twain, isNm c = true ∧ c.length ≤ 1000 by decide +kernel) z (List.mem_of_mem_take hz)
  refine seq_to ⟨sz (by show 2 ≤ 100000; decide), fun t2 nt2 => ?_⟩
  have e3 := same_new (o := .tup [.str "storm", .str "flood"]) nt2
  refine ⟨_, rfl, o, _, _, .int v1, rfl, rfl, e3.seq (SqL.of hN3), a1, _, _, rfl, rfl, (by show (0 : Int) < 2; decide), _, _, rfl, rfl, _, rfl, slA_to (SqT.of upd_same) hk1 fun B H4 s4 hB => ?_⟩
  have s34 := e3.trans s4
  have hN4 := s34 _ _ hN3
  have hM4 := MktAt.same s34 hM3
  obtain ⟨dx4, fs4, hm4⟩ := mk hM4
  have b4 : Bar m H H4 := b3.trans (Bar.of s34)
  have hB : SqT K H4 B ((twain.take k1).map V.str) := by
    rw [List.map_take]
    exact hB
  refine ⟨B, rfl, ⟨_, hB⟩, for_tup (K := K) (a := B) (xs := (twain.take k1).map V.str) (fun i σ H' => ∃ v3 v4 : Option V, σ = [some (.ref m), some (.int c), some (.ref o), v3, v4, none, none, none] ∧ Bar m H4 H' ∧ MktAt K C_Market H' m ⟨four.take k0, (twain.take k1).take i, [], []⟩) ⟨_, _, rfl, Bar.refl _, hM4⟩ (fun i σ H' _ ⟨_, _, _, b, _⟩ => sqt_bar b hm4 hB) ?_ ?_⟩
  · rintro i v σ H' hi ⟨v3, v4, rfl, b, hMk⟩
    obtain ⟨z, rfl, hz⟩ := of_at_str hi
    have hil := (List.getElem?_eq_some_iff.mp hz).1
    obtain ⟨dx1, ai, ae, at', ad, h0, _⟩ := id hMk
    have hn := gnm z (List.mem_of_getElem? hz)
    refine ⟨_, rfl, m, dx1, _, rfl, h0, mf_no (by decide +kernel), _, rfl, m, _, _, rfl, hMk, .inr ⟨z, rfl, ⟨z, rfl, hn.2, hn.1⟩, .inr (.inr ⟨by show ((twain.take k1).take i).length < 3; rw [List.length_take]; omega, fun hm => ?_, fun H2 b2 hM2 => ?_⟩)⟩⟩
    · obtain ⟨j, hj⟩ := List.getElem?_of_mem hm
      rw [List.getElem?_take] at hj
      split at hj
      · rename_i hji
        have := nodup_at gnd hj hz
        omega
      · cases hj
    · refine ⟨_, _, rfl, b.trans b2, ?_⟩
      rw [List.take_add_one, hz]
      exact hM2
  rintro σ H5 ⟨v3, v4, rfl, b45, hM5⟩
  rw [List.length_map, List.take_of_length_le (Nat.le_refl _)] at hM5
  dsimp only
  have b5 := b4.trans b45
  have hN5 := b45 _ _ om hN4
  have hg5 : DgMkt ⟨four.take k0, twain.take k1, [], []⟩ := ⟨⟨k0, by omega, k04, rfl⟩, ⟨k1, k12, k14, rfl⟩, ⟨fnd, fun t h => (nomatch h), fun t h => (nomatch h), by show 0 ≤ 1000; decide, by show (four.take k0).length ≤ 1000; omega⟩, by show 0 ≤ 16; decide, fun t h => (nomatch h), .nil, fun p h => (nomatch h), fun e he => by
    show fate (four.take k0) [] (directs (four.take k0) [] e) true
    rw [directs_nil]
    exact fate_zero ⟨fnd, fun t h => (nomatch h), fun t h => (nomatch h), by decide, by omega⟩⟩
  -- the treaties
  obtain ⟨p2, a2⟩ := dg 2 (by decide)
  obtain ⟨v2, e_v2⟩ : ∃ v, dg0 ns 2 = v := ⟨_, rfl⟩
  rw [e_v2] at p2 a2
  obtain ⟨k2, hk2, k25⟩ : ∃ k : Nat, v2 % 6 = (k : Int) ∧ k ≤ 5 := ⟨(v2 % 6).toNat, by omega, by omega⟩
  refine seq_to ⟨_, rfl, o, _, _, .int v2, rfl, rfl, SqL.of hN5, a2, _, _, rfl, rfl, (by show (0 : Int) < 6; decide), (k2 : Int), congrArg (fun x => [V.int x]) hk2, by omega, by omega, ?_⟩
  rw [show ((k2 : Nat) : Int).toNat = k2 by omega]
  refine for_range (lo := 0) (n := k2) (fun i σ H' => ∃ (ts : List Trt) (v3 v4 v5 v6 v7 : Option V), σ = [some (.ref m), some (.int c), some (.ref o), v3, v4, v5, v6, v7] ∧ Bar m H5 H' ∧ MktAt K C_Market H' m ⟨four.take k0, twain.take k1, ts, []⟩ ∧ DgMkt ⟨four.take k0, twain.take k1, ts, []⟩ ∧ ts.length ≤ i ∧ ts = (List.range i).map (trK ns (insF ns))) ⟨[], _, _, _, _, _, rfl, Bar.refl _, hM5, hg5, Nat.le_refl _, rfl⟩ ?_ ?_
  · rintro i σ H' hi ⟨ts, v3, v4, v5, v6, v7, rfl, b, hMk, hgk, htl, hts⟩
    obtain ⟨dx1, ai, ae, at', ad, h0, h1, h2, h3, h4, h5⟩ := id hMk
    have hN6 := b _ _ om hN5
    obtain ⟨p8, a8⟩ := dg (3 + i) (by omega)
    obtain ⟨v8, e_v8⟩ : ∃ v, dg0 ns (3 + i) = v := ⟨_, rfl⟩
    rw [e_v8] at p8 a8
    obtain ⟨hcd, atz⟩ := pickS_at (xs := four.take k0) v8 (by omega)
    obtain ⟨cd, ecd⟩ : ∃ z, pickS (four.take k0) v8 = z := ⟨_, rfl⟩
    rw [ecd] at hcd atz
    have pi : (0 : Int) < ((((four.take k0).map V.str).length : Nat) : Int) := by rw [List.length_map]; omega
    refine seq_to (asg_to ⟨_, rfl, m, C_Market, dx1, _, _, rfl, h0, T.cl_Market, T.no_Market_insurers, mf_i, _, rfl, _, rfl, _, _, rfl, rfl, o, _, _, .int v8, rfl, rfl, SqL.of hN6, ?_, _, rfl, m, C_Market, dx1, _, _, rfl, h0, T.cl_Market, T.no_Market_insurers, mf_i, ai, _, rfl, .inr h1, _, _, rfl, rfl, pi, ai, _, _, .str cd, rfl, rfl, h1, atz, ?_⟩)
    · rw [show (3 : Int) + (0 + (i : Int)) = ((3 + i : Nat) : Int) by omega]
      exact a8
    dsimp only
    refine nx_to ?_
    generalize hw : List.set _ _ _ = w0
    have ew : w0 = [some (.ref m), some (.int c), some (.ref o), v3, v4, some (.int (0 + (i : Int))), some (.str cd), v7] := by
      rw [← hw]
      kernel_rfl
    clear hw
    subst ew
    refine seq_to (asg_to ⟨_, rfl, m, C_Market, dx1, _, _, rfl, h0, T.cl_Market, T.no_Market_insurers, mf_i, ai, rfl, ⟨_, h1⟩, fun G nG => lc_tup (K := K) (a := ai) (xs := (four.take k0).map V.str) (fun i H2 => Same H' H2 ∧ H2 G = some (.lst ((((four.take k0).take i).filter fun z => decide (z ≠ cd)).map V.str))) ⟨same_new nG, upd_same⟩ (fun i H2 _ h => same_sqt h.1 h1) ?_ ?_⟩)
    · rintro i y H2 hi ⟨sm, hG⟩
      obtain ⟨z, rfl, hz⟩ := of_at_str hi
      have hil := (List.getElem?_eq_some_iff.mp hz).1
      have st := filt_step (c := cd) hz
      refine ⟨rfl, _, rfl, _, rfl, rfl, _, rfl, ?_⟩
      have dd : (!decide (V.str z = V.str cd)) = decide (z ≠ cd) := by
        by_cases e : z = cd
        · subst e
          simp
        · rw [decide_eq_false (fun q => e (V.str.inj q)), decide_eq_true e]
          rfl
      rw [dd]
      have le := List.length_filter_le (fun z => decide (z ≠ cd)) ((four.take k0).take i)
      rw [List.length_take] at le
      refine iteB (fun e => ?_) (fun e => ?_)
      · rw [if_pos (of_decide_eq_true e)] at st
        refine ⟨_, rfl, _, hG, by rw [List.length_map]; exact szl (by omega), same_put sm nG, ?_⟩
        rw [upd_same, st, List.map_append]
        rfl
      · rw [if_neg (of_decide_eq_false e), List.append_nil] at st
        refine ⟨sm, ?_⟩
        rw [st]
        exact hG
    rintro H6 ⟨s6, hG⟩
    rw [List.length_map, List.take_of_length_le (Nat.le_refl _)] at hG
    dsimp only
    refine nx_to ?_
    have g0 := s6 _ _ h0
    have hN7 := s6 _ _ hN6
    have hM7 := MktAt.same s6 hMk
    have hcn := fnm cd hcd
    have os5 : ((four.take k0).filter fun z => decide (z ≠ cd)).length ≤ 5 := Nat.le_trans (List.length_filter_le _ _) (by omega)
    have osm : ∀ z ∈ (four.take k0).filter fun z => decide (z ≠ cd), z ∈ four.take k0 ∧ z ≠ cd := fun z hz => by
      obtain ⟨q1, q2⟩ := List.mem_filter.mp hz
      exact ⟨q1, of_decide_eq_true q2⟩
    refine ⟨_, rfl, m, dx1, _, rfl, g0, mf_no (by decide +kernel), _, rfl, _, rfl, _, rfl, _, _, rfl, rfl, .inl (by decide), _, _, rfl, rfl, o, ns, 9 + 5 * i, ?_, SqL.of hN7, by omega, hn, fun t H8 s8 nt8 ht8 hcv => ?_⟩
    · show [V.ref o, V.int (9 + 5 * (0 + (i : Int)))] = [V.ref o, V.int ((9 + 5 * i : Nat) : Int)]
      rw [show (9 : Int) + 5 * (0 + (i : Int)) = ((9 + 5 * i : Nat) : Int) by omega]
    have hN8 := s8 _ _ hN7
    refine ⟨_, rfl, _, rfl, _, _, rfl, rfl, .inl (by decide), _, _, rfl, rfl, _, rfl, o, G, ns, 11 + 6 * i, cd, four.take k0, _, ?_, SqL.of hN8, by omega, hn, SqL.of (s8 _ _ hG), filt_nd cd fnd, os5, osm, fnm, fun pt H9 s9 hP hDP => ?_⟩
    · show [V.ref o, V.int (11 + 6 * (0 + (i : Int))), V.ref G] = [V.ref o, V.int ((11 + 6 * i : Nat) : Int), V.ref G]
      rw [show (11 : Int) + 6 * (0 + (i : Int)) = ((11 + 6 * i : Nat) : Int) by omega]
    have etr : trK ns (insF ns) i = ⟨cd, cvF ns ((9 + 5 * i : Nat) : Int), pnF ns ((11 + 6 * i : Nat) : Int) ((four.take k0).filter fun z => decide (z ≠ cd)), false⟩ := by
      unfold trK
      rw [eins, e_v8, ecd]
    obtain ⟨cv, ecv⟩ : ∃ cv, cvF ns ((9 + 5 * i : Nat) : Int) = cv := ⟨_, rfl⟩
    obtain ⟨ps, eps⟩ : ∃ ps, pnF ns ((11 + 6 * i : Nat) : Int) ((four.take k0).filter fun z => decide (z ≠ cd)) = ps := ⟨_, rfl⟩
    rw [ecv] at ht8 hcv etr
    rw [eps] at hP hDP etr
    have s69 := s6.trans (s8.trans s9)
    have hM9 := MktAt.same s69 hMk
    have ok1 : TrsOk (four.take k0) (ts ++ [⟨cd, cv, ps, false⟩]) := trs_more hgk.ok (by omega) ⟨hcv, hDP.ok⟩ fun e he z hz => by
      rcases hDP.may e.1 (List.mem_map.mpr ⟨e, he, rfl⟩) with q | ⟨y, q, hy, _⟩
      · rw [hz] at q
        cases q
      · rw [hz] at q
        cases Option.some.inj q
        exact hy
    refine ⟨m, _, _, _, _, rfl, hM9, .inr (.inr (.inr ⟨cd, t, cv, ps, rfl, ⟨cd, rfl, hcn.2, hcn.1⟩, rfl, SqT.of (s9 _ _ ht8), hcv, hP, hDP.ok, .inr (.inr ⟨placed_drawn hcd hDP, by show ts.length < 16; omega, ok1, by show (twain.take k1).length ≤ 1000; omega, .inl ⟨fun e he => ?_, fun Hz bz hMz => ?_⟩⟩)⟩))⟩
    · show fate (four.take k0) (ts ++ [⟨cd, cv, ps, false⟩]) (directs (four.take k0) [] e) true
      rw [directs_nil]
      exact fate_zero ok1
    · exact ⟨_, _, _, _, _, _, rfl, b.trans ((Bar.of s69).trans bz), hMz, hgk.add (by omega) ok1 ⟨hcd, hDP, rfl⟩, by rw [List.length_append]; exact Nat.succ_le_succ htl, by rw [List.range_succ, List.map_append, ← hts, ← etr]; rfl⟩
  rintro σ H6 ⟨ts, v3, v4, v5, v6, v7, rfl, b56, hM6, hg6, htl, hts⟩
  have ets : trsF ns = ts := by unfold trsF; rw [e_v2, show (v2 % 6).toNat = k2 by omega, hts]
  rw [eins, eevs, ets] at q
  dsimp only
  have hN6 := b56 _ _ om hN5
  have b6 := b5.trans b56
  -- the losses
  obtain ⟨p9, a9⟩ := dg 40 (by decide)
  obtain ⟨v9, e_v9⟩ : ∃ v, dg0 ns 40 = v := ⟨_, rfl⟩
  rw [e_v9] at p9 a9
  obtain ⟨k3, hk3, k35⟩ : ∃ k : Nat, v9 % 6 = (k : Int) ∧ k ≤ 5 := ⟨(v9 % 6).toNat, by omega, by omega⟩
  obtain ⟨pb, ab⟩ := dg 47 (by decide)
  obtain ⟨vb, e_vb⟩ : ∃ v, dg0 ns 47 = v := ⟨_, rfl⟩
  rw [e_vb] at pb ab
  refine seq_to ⟨_, rfl, o, _, _, .int v9, rfl, rfl, SqL.of hN6, a9, _, _, rfl, rfl, (by show (0 : Int) < 6; decide), (k3 : Int), congrArg (fun x => [V.int x]) hk3, by omega, by omega, ?_⟩
  rw [show ((k3 : Nat) : Int).toNat = k3 by omega]
  refine for_range (lo := 0) (n := k3) (fun i σ H' => ∃ (v3 v4 v5 v6 v7 : Option V), σ = [some (.ref m), some (.int c), some (.ref o), v3, v4, v5, v6, v7] ∧ Bar m H6 H' ∧ MktAt K C_Market H' m (lossF ns ⟨four.take k0, twain.take k1, ts, []⟩ i) ∧ DgMkt (lossF ns ⟨four.take k0, twain.take k1, ts, []⟩ i)) ⟨_, _, _, _, _, rfl, Bar.refl _, hM6, hg6⟩ ?_ ?_
  · rintro i σ H' hi ⟨v3, v4, v5, v6, v7, rfl, b, hMk, hgk⟩
    have hNk := b _ _ om hN6
    obtain ⟨pa, aa⟩ := dg (41 + i) (by omega)
    obtain ⟨va, e_va⟩ : ∃ v, dg0 ns (41 + i) = v := ⟨_, rfl⟩
    rw [e_va] at pa aa
    refine ⟨_, rfl, _, rfl, _, rfl, _, _, rfl, rfl, o, _, _, .int va, rfl, rfl, SqL.of hNk, ?_, _, rfl, o, _, _, .int vb, rfl, rfl, SqL.of hNk, ab, _, _, rfl, rfl, .inl (by decide), _, _, rfl, rfl, m, _, _, rfl, hMk, hgk, fun bb Hz bz _ hMz => ?_⟩
    · rw [show (41 : Int) + (0 + (i : Int)) = ((41 + i : Nat) : Int) by omega]
      exact aa
    · have es : lossD (lossF ns ⟨four.take k0, twain.take k1, ts, []⟩ i) (va + 97 * vb) = lossF ns ⟨four.take k0, twain.take k1, ts, []⟩ (i + 1) := by rw [lossF_succ, e_va, e_vb]
      have hgz := lossD_ok hgk (va + 97 * vb)
      rw [es] at hMz hgz
      exact ⟨_, _, _, _, _, rfl, b.trans bz, hMz, hgz⟩
  rintro σ H7 ⟨v3, v4, v5, v6, v7, rfl, b67, hM7, hg7⟩
  rw [e_v9, show (v9 % 6).toNat = k3 by omega] at q
  exact ⟨_, rfl, q H7 (b6.trans b67) hM7 hg7⟩

theorem ok_law_loss {f : Addr} {fd : FuncData} (D_law_loss : Dfn K mg "_law_loss" s_law_loss ["market", "digit"] f fd) (T : Tx K mg C_BadName C_BadCover C_BadPanel C_BadAmount C_NameTaken C_NoSuchName C_NoSuchNotice C_Twice C_OwnPanel C_TooMany C_NoEnd C_Post C_Market N_NOTHING) {f_Market_set_loss : Addr} {fd_Market_set_loss : FuncData} (D_Market_set_loss : Mth K C_Market "set_loss" "Market.set_loss" s_Market_set_loss ["self", "event", "insurer", "amount"] f_Market_set_loss fd_Market_set_loss) (G_Market_set_loss : FnOk P w K mg base (L2.CX P w) (8) f_Market_set_loss fd_Market_set_loss ["self", "event", "insurer", "amount"] (sp_set_loss2 K C_Market C_NoEnd)) :
    FnOk P w K mg base CX0 (9) f fd ["market", "digit"] (sp_df_loss K C_Market) := by
  refine D_law_loss.F.ok sc_law_loss (fun vs H Q E h => ?_) (fun cdv A outer s H vs Q E hr h => ?_)
  · obtain ⟨m, d, M, rfl, hM, hg, q⟩ := h
    rfl
  obtain ⟨m, d, M, rfl, hM, hg, q⟩ := h
  refine ⟨_, (pss_cons (ps_set (i := 2) sc_law_loss.nd rfl (by first | exact Or.inl rfl | exact Or.inr rfl) (pe_ix (r := rIxT K) ix_tup (pe_fld (pv 0) rfl) (pe_op op_mod (pv 1) (pe_callB call_len_seq (by rfl) T.len PySem.boot_len (pa_cons (pe_fld (pv 0) rfl) pa_nil))) (fun _ _ => rfl)))
      (pss_cons (ps_set (i := 3) sc_law_loss.nd rfl (by first | exact Or.inl rfl | exact Or.inr rfl) (pe_ix (r := rIxT K) ix_tup (pe_fld (pv 0) rfl) (pe_op op_mod (pe_op op_fdiv (pv 1) pe_int) (pe_callB call_len_seq (by rfl) T.len PySem.boot_len (pa_cons (pe_fld (pv 0) rfl) pa_nil))) (fun _ _ => rfl)))
      (pss_cons (ps_try_only rfl rfl ⟨rfl, by decide, .inl T.exc_NoEnd.g⟩ takes0 (fun W pn xe tk _ => (pss_one (ps_expr (by exact (pe_methT (pv 0) T.cl_Market D_Market_set_loss.m G_Market_set_loss (hr.mono (by first | decide | omega)) D_Market_set_loss.b (fun σ => passAt tk σ) (by exact (pa_cons (pv 2) (pa_cons (pv 3) (pa_cons (pe_op op_mod (pe_op op_fdiv (pv 1) pe_int) pe_int) pa_nil))))))))) (fun a oe cls d pn hz hf => (pss_one (ps_ret pe_bl))))
      (pss_one (ps_ret pe_bl))))), ?_⟩
  obtain ⟨dx, ai, ae, at', ad, h0, h1, h2, h3, h4, h5⟩ := id hM
  have hil := hg.il
  have hel := hg.el
  have hll := hg.ll
  have pe : (0 : Int) < (((M.evs.map V.str).length : Nat) : Int) := by rw [List.length_map]; omega
  have pi : (0 : Int) < (((M.ins.map V.str).length : Nat) : Int) := by rw [List.length_map]; omega
  obtain ⟨he, ate⟩ := pickS_at (xs := M.evs) d hel.1
  obtain ⟨e, ee⟩ : ∃ e, pickS M.evs d = e := ⟨_, rfl⟩
  rw [ee] at he ate
  obtain ⟨hz, atz⟩ := pickS_at (xs := M.ins) (d / 3) hil.1
  obtain ⟨z, ez⟩ : ∃ z, pickS M.ins (d / 3) = z := ⟨_, rfl⟩
  rw [ez] at hz atz
  have hne := hg.enm e he
  have hnz := hg.inm z hz
  have hn : 0 ≤ d / 17 % 70 ∧ d / 17 % 70 ≤ 69 := by omega
  have hbt : btw (.int (d / 17 % 70)) 0 100000 = true := by
    show (decide (0 ≤ d / 17 % 70) && decide (d / 17 % 70 ≤ 100000)) = true
    rw [decide_eq_true hn.1, decide_eq_true (by omega)]
    rfl
  refine seq_to (asg_to ⟨_, rfl, m, C_Market, dx, _, _, rfl, h0, T.cl_Market, T.no_Market_events, mf_e, _, rfl, _, rfl, m, C_Market, dx, _, _, rfl, h0, T.cl_Market, T.no_Market_events, mf_e, ae, _, rfl, .inr h2, _, _, rfl, rfl, pe, ae, _, _, .str e, rfl, rfl, h2, ate, ?_⟩)
  dsimp only
  refine nx_to ?_
  refine seq_to (asg_to ⟨_, rfl, m, C_Market, dx, _, _, rfl, h0, T.cl_Market, T.no_Market_insurers, mf_i, _, rfl, _, _, rfl, rfl, ⟨by decide, by decide⟩, _, rfl, m, C_Market, dx, _, _, rfl, h0, T.cl_Market, T.no_Market_insurers, mf_i, ai, _, rfl, .inr h1, _, _, rfl, rfl, pi, ai, _, _, .str z, rfl, rfl, h1, atz, ?_⟩)
  dsimp only
  refine nx_to ?_
  refine seq_to ⟨_, rfl, m, dx, _, rfl, h0, mf_no (by decide +kernel), _, rfl, _, rfl, _, rfl, _, _, rfl, rfl, ⟨by decide, by decide⟩, _, _, rfl, rfl, (by show (0 : Int) < 70; decide), m, e, z, _, M, rfl, hM, ⟨_, rfl, hne.2, hne.1⟩, ⟨_, rfl, hnz.2, hnz.1⟩, hbt, he, hz, hg.lnd, by omega, hg.ok, by omega, ?_⟩
  rcases Classical.em (∀ e' ∈ M.evs, fate M.ins M.trs (directs M.ins (setL M.los e z (d / 17 % 70)) e') true) with hf | hf
  · have el : lossD M d = { M with los := setL M.los e z (d / 17 % 70) } := by
      unfold lossD
      rw [ee, ez, if_pos hf]
    rw [el] at q
    exact .inl ⟨hf, fun H' b km hM' => q true H' b km hM'⟩
  · have el : lossD M d = M := by
      unfold lossD
      rw [ee, ez, if_neg hf]
    rw [el] at q
    refine .inr ⟨?_, fun H' s => ⟨true, T.exc_NoEnd.e, fun _ a _ => q false H' (Bar.of s) (km_keep h0 (s _ _ h0)) (MktAt.same s hM), fun z => (nomatch z)⟩⟩
    obtain ⟨e', h⟩ := Classical.not_forall.mp hf
    obtain ⟨he', h⟩ := Classical.not_imp.mp h
    exact ⟨e', he', (fate_any _ _ _).resolve_left h⟩

theorem ok_law_market {f : Addr} {fd : FuncData} (D_law_market : Dfn K mg "_law_market" s_law_market ["cell"] f fd) (T : Tx K mg C_BadName C_BadCover C_BadPanel C_BadAmount C_NameTaken C_NoSuchName C_NoSuchNotice C_Twice C_OwnPanel C_TooMany C_NoEnd C_Post C_Market N_NOTHING) {f_law_filled : Addr} {fd_law_filled : FuncData} (D_law_filled : Dfn K mg "_law_filled" s_law_filled ["market", "cell"] f_law_filled fd_law_filled) (G_law_filled : FnOk P w K mg base CX0 (10) f_law_filled fd_law_filled ["market", "cell"] (sp_df_filled K C_Market)) {f_Market___init : Addr} {fd_Market___init : FuncData} (D_Market___init : Mki K C_Market "Market.__init__" s_Market___init ["self"] f_Market___init fd_Market___init) (G_Market___init : FnOk P w K mg base CX0 (1) f_Market___init fd_Market___init ["self"] (sp_minit K C_Market)) :
    FnOk P w K mg base CX0 (11) f fd ["cell"] (sp_df_market K C_Market) := by
  refine D_law_market.F.ok sc_law_market (fun vs H Q E h => ?_) (fun cdv A outer s H vs Q E hr h => ?_)
  · obtain ⟨c, rfl, q⟩ := h
    rfl
  obtain ⟨c, rfl, q⟩ := h
  refine ⟨_, (pss_one (ps_ret (pe_call G_law_filled (hr.mono (by first | decide | omega)) rfl D_law_filled.m D_law_filled.F.kp D_law_filled.b .nil pass0 (pa_cons (pe_make0 D_Market___init.m G_Market___init (hr.mono (by first | decide | omega)) rfl T.m_Market D_Market___init.b .nil pass0) (pa_cons (pv 0) pa_nil))))), ?_⟩
  refine fun m dx n1 n2 n3 => ⟨m, dx, rfl, upd_same, fun H1 b1 hM1 => ⟨rfl, _, rfl, m, c, rfl, hM1, fun H' b2 hM hg => ?_⟩⟩
  have s1 : Same H H1 := fun b u hb => b1 b u (ne_of_none hb n1) (by rw [upd_ne (ne_of_none hb n1), upd_ne (ne_of_none hb n2)]; exact hb)
  exact q m H' (Bar.keep n1 ((Bar.of s1).trans b2)) n1 hM hg

theorem ok_law_deed {f : Addr} {fd : FuncData} (D_law_deed : Dfn K mg "_law_deed" s_law_deed ["post", "digit", "more"] f fd) (T : Tx K mg C_BadName C_BadCover C_BadPanel C_BadAmount C_NameTaken C_NoSuchName C_NoSuchNotice C_Twice C_OwnPanel C_TooMany C_NoEnd C_Post C_Market N_NOTHING) {f_Post___len : Addr} {fd_Post___len : FuncData} (D_Post___len : Mth K C_Post "__len__" "Post.__len__" s_Post___len ["self"] f_Post___len fd_Post___len) (G_Post___len : FnOk P w K mg base CX0 (1) f_Post___len fd_Post___len ["self"] (sp_plen K C_Post)) {f_Post___iter : Addr} {fd_Post___iter : FuncData} (D_Post___iter : Mth K C_Post "__iter__" "Post.__iter__" s_Post___iter ["self"] f_Post___iter fd_Post___iter) (G_Post___iter : FnY P w K mg base CX0 (1) f_Post___iter fd_Post___iter ["self"] (sp_piter K C_Post)) {f_Post_send : Addr} {fd_Post_send : FuncData} (D_Post_send : Mth K C_Post "send" "Post.send" s_Post_send ["self", "insurer"] f_Post_send fd_Post_send) (G_Post_send : FnOk P w K mg base (L2.CX P w) (8) f_Post_send fd_Post_send ["self", "insurer"] (sp_send K C_Post C_Market C_NoSuchName C_TooMany)) {f_Post_deliver : Addr} {fd_Post_deliver : FuncData} (D_Post_deliver : Mth K C_Post "deliver" "Post.deliver" s_Post_deliver ["self", "number"] f_Post_deliver fd_Post_deliver) (G_Post_deliver : FnOk P w K mg base (L2.CX P w) (4) f_Post_deliver fd_Post_deliver ["self", "number"] (sp_deliver K C_Post C_NoSuchNotice)) {f_Post_drop : Addr} {fd_Post_drop : FuncData} (D_Post_drop : Mth K C_Post "drop" "Post.drop" s_Post_drop ["self", "number"] f_Post_drop fd_Post_drop) (G_Post_drop : FnOk P w K mg base (L2.CX P w) (4) f_Post_drop fd_Post_drop ["self", "number"] (sp_drop K C_Post C_NoSuchNotice)) {f_Post_resend : Addr} {fd_Post_resend : FuncData} (D_Post_resend : Mth K C_Post "resend" "Post.resend" s_Post_resend ["self", "insurer"] f_Post_resend fd_Post_resend) (G_Post_resend : FnOk P w K mg base (L2.CX P w) (4) f_Post_resend fd_Post_resend ["self", "insurer"] (sp_resend K C_Post C_Market C_NoSuchName C_TooMany)) {f_law_loss : Addr} {fd_law_loss : FuncData} (D_law_loss : Dfn K mg "_law_loss" s_law_loss ["market", "digit"] f_law_loss fd_law_loss) (G_law_loss : FnOk P w K mg base CX0 (9) f_law_loss fd_law_loss ["market", "digit"] (sp_df_loss K C_Market)) :
    FnOk P w K mg base CX0 (10) f fd ["post", "digit", "more"] (sp_law_deed K C_Post C_Market) := by
  refine D_law_deed.F.ok sc_law_deed (fun vs H Q E h => ?_) (fun cdv A outer s H vs Q E hr h => ?_)
  · obtain ⟨p, m, an, k, M, P, digit, more, rfl, hP, hM, hD, hl, q⟩ := h
    rfl
  obtain ⟨p, m, an, k, M, P, digit, more, rfl, hP, hM, hD, hl, q⟩ := h
  refine ⟨_, (pss_cons (ps_set (i := 3) sc_law_deed.nd rfl (by first | exact Or.inl rfl | exact Or.inr rfl) (pe_fld (pv 0) rfl))
      (pss_cons (ps_set (i := 4) sc_law_deed.nd rfl (by first | exact Or.inl rfl | exact Or.inr rfl) (pe_ix (r := rIxT K) ix_tup (pe_fld (pv 3) rfl) (pe_op op_mod (pv 2) (pe_callB call_len_seq (by rfl) T.len PySem.boot_len (pa_cons (pe_fld (pv 3) rfl) pa_nil))) (fun _ _ => rfl)))
      (pss_cons (ps_set (i := 5) sc_law_deed.nd rfl (by first | exact Or.inl rfl | exact Or.inr rfl) (pe_callTy (call_listOwnT D_Post___iter.m G_Post___iter D_Post___iter.b D_Post___len.m G_Post___len D_Post___len.b rfl (hr.mono (by first | decide | omega)) (hr.mono (by first | decide | omega))) (by rfl) T.list (by decide +kernel) (pa_cons (pv 0) pa_nil)))
      (pss_cons (ps_if (pt_cmpR op_lt (pe_op op_mod (pv 1) pe_int) pe_int (nomark _))
      (pss_one (ps_ret (pe_meth (pv 0) T.cl_Post D_Post_send.m G_Post_send (hr.mono (by first | decide | omega)) D_Post_send.b .nil passL (pa_cons (pv 4) pa_nil))))
      pss_nil)
      (pss_cons (ps_if (PW.pt (pw_and (pt_cmpR op_lt (pe_op op_mod (pv 1) pe_int) pe_int (nomark _)) (pw_and1 (pt_cmpR op_gt (pe_callB call_len_seq (by rfl) T.len PySem.boot_len (pa_cons (pv 5) pa_nil)) pe_int (nomark _)))))
      (pss_one (ps_ret (pe_meth (pv 0) T.cl_Post D_Post_deliver.m G_Post_deliver (hr.mono (by first | decide | omega)) D_Post_deliver.b .nil passL (pa_cons (pe_ix (r := rIxL K) ix_list (pv 5) (pe_op op_mod (pv 2) (pe_callB call_len_seq (by rfl) T.len PySem.boot_len (pa_cons (pv 5) pa_nil))) (fun _ _ => rfl)) pa_nil))))
      pss_nil)
      (pss_cons (ps_if (PW.pt (pw_and (pt_cmpR op_eq (pe_op op_mod (pv 1) pe_int) pe_int (nomark _)) (pw_and1 (pt_cmpR op_gt (pe_callB call_len_seq (by rfl) T.len PySem.boot_len (pa_cons (pv 5) pa_nil)) pe_int (nomark _)))))
      (pss_one (ps_ret (pe_meth (pv 0) T.cl_Post D_Post_drop.m G_Post_drop (hr.mono (by first | decide | omega)) D_Post_drop.b .nil passL (pa_cons (pe_ix (r := rIxL K) ix_list (pv 5) (pe_op op_mod (pv 2) (pe_callB call_len_seq (by rfl) T.len PySem.boot_len (pa_cons (pv 5) pa_nil))) (fun _ _ => rfl)) pa_nil))))
      pss_nil)
      (pss_cons (ps_if (pt_cmpR op_eq (pe_op op_mod (pv 1) pe_int) pe_int (nomark _))
      (pss_one (ps_ret (pe_meth (pv 0) T.cl_Post D_Post_resend.m G_Post_resend (hr.mono (by first | decide | omega)) D_Post_resend.b .nil passL (pa_cons (pv 4) pa_nil))))
      pss_nil)
      (pss_one (ps_ret (pe_call G_law_loss (hr.mono (by first | decide | omega)) rfl D_law_loss.m D_law_loss.F.kp D_law_loss.b .nil pass0 (pa_cons (pv 3) (pa_cons (pv 2) pa_nil)))))))))))), ?_⟩
  obtain ⟨dx, au, al, ar, ap, h0, h1, h2, h3, h4, h5, h6⟩ := id hP
  obtain ⟨dy, ai, ae, at', ad, g0, g1, g2, g3, g4, g5⟩ := id hM
  have hm := dg_pmk hD.g
  have hil := hD.g.il
  have np := mkt_ne hP hM
  have isl := hP.isl
  refine ⟨_, rfl, p, C_Post, dx, _, _, rfl, h0, T.cl_Post, T.no_Post_market, pf_m, ?_⟩
  dsimp only
  refine nx_to ?_
  obtain ⟨hz, atz⟩ := pickS_at (xs := M.ins) more hil.1
  have pi : (0 : Int) < (((M.ins.map V.str).length : Nat) : Int) := by rw [List.length_map]; omega
  refine seq_to (asg_to ⟨_, rfl, m, C_Market, dy, _, _, rfl, g0, T.cl_Market, T.no_Market_insurers, mf_i, _, rfl, _, rfl, m, C_Market, dy, _, _, rfl, g0, T.cl_Market, T.no_Market_insurers, mf_i, ai, _, rfl, .inr g1, _, _, rfl, rfl, pi, ai, _, _, .str (pickS M.ins more), rfl, rfl, g1, atz, ?_⟩)
  dsimp only
  refine nx_to ?_
  have hll : (leftOf P).length ≤ P.nts.length := leftF_len P.nts 1
  refine seq_to (asg_to ⟨_, rfl, p, dx, _, (leftOf P).map V.int, rfl, h0, by rw [List.length_map]; omega, fun n H' s => ⟨p, m, an, k, P, rfl, PostAt.same s hP, fun it t ni hn hS => ⟨it, t, rfl, ni, hn, rfl, hS⟩⟩, fun H' s => ⟨p, m, an, k, P, rfl, PostAt.same s hP, P.nts.length, rfl, by omega, rfl⟩, fun S H1 s1 nS hS => ?_⟩)
  dsimp only
  refine nx_to ?_
  generalize hw0 : List.set _ _ _ = w0
  have ew : w0 = [some (.ref p), some (.int digit), some (.int more), some (.ref m), some (.str (pickS M.ins more)), some (.ref S)] := by
    rw [← hw0]
    kernel_rfl
  clear hw0
  subst ew
  have hP1 := PostAt.same s1 hP
  have hM1 := MktAt.same s1 hM
  have k0 := s1 _ _ h0
  have w0 := s1 _ _ g0
  have dl : decide ((0 : Int) < (((leftOf P).map V.int).length : Nat)) = decide (leftOf P ≠ []) := by
    rw [List.length_map]
    cases h : leftOf P with
    | nil => rfl
    | cons a r => exact (decide_eq_true (by rw [List.length_cons]; omega)).trans (decide_eq_true (fun z => (nomatch z))).symm
  have q' : ∀ v a2 k2 H', FrP p m an H1 a2 H' → Kx p H1 H' → Km m H1 H' → (k = false → k2 = false ∧ a2 = an) → PostAt K C_Post H' p m a2 k2 (deedM M P digit more).2 → MktAt K C_Market H' m (deedM M P digit more).1 → Q v H' := fun v a2 k2 H' f kx km e => q v a2 k2 H' (FrP.trans (FrP.of s1) f k0 w0) (kx_pre s1 h0 kx) (km_pre s1 g0 km) e
  clear q
  unfold deedM at q'
  refine seq_to ⟨_, rfl, _, _, rfl, rfl, (by show (0 : Int) < 8; decide), _, _, rfl, rfl, _, rfl, ?_⟩
  by_cases c1 : digit % 8 < 3
  · rw [decide_eq_true c1]
    rw [if_pos c1] at q'
    have s30 := send_30 hD.g hD.t P (pickS M.ins more)
    exact iteT ⟨_, rfl, p, dx, _, rfl, k0, pf_no (by decide +kernel), _, rfl, p, m, an, k, M, P, _, rfl, hP1, hM1, hm, hD.p, .inr (.inr ⟨hz, by omega, fun t a2 k2 H2 b2 nw kx hP2 _ => q' _ a2 k2 H2 (FrP.bar2 b2 nw) kx (km_b2 w0 np hP1.isl b2) (fun e => ⟨nw.1, nw.2.elim (fun h => h.2) fun h => by rw [e] at h; exact absurd h.1 (by decide)⟩) hP2 (MktAt.bar2 k0 np hP1.isl b2 hM1)⟩)⟩
  rw [decide_eq_false c1]
  rw [if_neg c1] at q'
  refine iteF (next_to ?_)
  dsimp only
  have pl : leftOf P ≠ [] → (0 : Int) < ((((leftOf P).map V.int).length : Nat) : Int) := fun h => by
    rw [List.length_map]
    cases h2 : leftOf P with
    | nil => exact absurd h2 h
    | cons a r =>
      rw [List.length_cons]
      omega
  have l1 : leftOf P ≠ [] → 1 ≤ (leftOf P).length := fun h => by
    have := pl h
    rw [List.length_map] at this
    omega
  refine with_rest (t := tIfS _ _ _) (u := tSeq _ _) (fun σ' H' => σ' = [some (.ref p), some (.int digit), some (.int more), some (.ref m), some (.str (pickS M.ins more)), some (.ref S)] ∧ H1 = H' ∧ ¬ (digit % 8 < 5 ∧ leftOf P ≠ [])) ?_ (fun R0 => ?_)
  rotate_left
  · refine ⟨_, rfl, _, _, rfl, rfl, (by show (0 : Int) < 8; decide), _, _, rfl, rfl, _, rfl, ?_⟩
    by_cases c2 : digit % 8 < 5
    · rw [decide_eq_true c2]
      refine iteT ⟨_, rfl, S, _, rfl, .inl (SqL.of hS), _, _, rfl, rfl, _, rfl, ?_⟩
      rw [dl]
      by_cases c3 : leftOf P ≠ []
      · rw [decide_eq_true c3]
        rw [if_pos ⟨c2, c3⟩] at q'
        obtain ⟨hx, atx⟩ := pickN_at (ns := leftOf P) more (l1 c3)
        obtain ⟨c, hc⟩ := left_nt hx
        rw [hc] at q'
        exact iteT ⟨_, rfl, p, dx, _, rfl, k0, pf_no (by decide +kernel), _, rfl, _, rfl, _, rfl, S, _, rfl, .inl (SqL.of hS), _, _, rfl, rfl, pl c3, S, _, _, _, rfl, rfl, SqL.of hS, atx, p, m, an, k, M, P, _, rfl, hP1, hm, hD.p, .inr ⟨c, hc, fun H2 b2 kx hP2 => q' _ an k H2 (FrP.barp b2) kx (km_b2 w0 np hP1.isl (bar2_bar b2)) (fun e => ⟨e, rfl⟩) hP2 (MktAt.bar2 k0 np hP1.isl (bar2_bar b2) hM1)⟩⟩
      · rw [decide_eq_false c3]
        exact iteF (R0 _ _ ⟨rfl, rfl, fun h => c3 h.2⟩)
    · rw [decide_eq_false c2]
      exact iteF (R0 _ _ ⟨rfl, rfl, fun h => c2 h.1⟩)
  rintro σ' H' ⟨rfl, rfl, c2⟩
  rw [if_neg c2] at q'
  refine with_rest (t := tIfS _ _ _) (u := tSeq _ _) (fun σ' H' => σ' = [some (.ref p), some (.int digit), some (.int more), some (.ref m), some (.str (pickS M.ins more)), some (.ref S)] ∧ H1 = H' ∧ ¬ (digit % 8 = 5 ∧ leftOf P ≠ [])) ?_ (fun R0 => ?_)
  rotate_left
  · refine ⟨_, rfl, _, _, rfl, rfl, (by show (0 : Int) < 8; decide), rfl, _, rfl, ?_⟩
    have e5 : decide ((fun i j : Int => V.int (i % j)) digit 8 = V.int 5) = decide (digit % 8 = 5) := dec_int _ _
    rw [e5]
    by_cases c4 : digit % 8 = 5
    · rw [decide_eq_true c4]
      refine iteT ⟨_, rfl, S, _, rfl, .inl (SqL.of hS), _, _, rfl, rfl, _, rfl, ?_⟩
      rw [dl]
      by_cases c3 : leftOf P ≠ []
      · rw [decide_eq_true c3]
        rw [if_pos ⟨c4, c3⟩] at q'
        obtain ⟨hx, atx⟩ := pickN_at (ns := leftOf P) more (l1 c3)
        obtain ⟨c, hc⟩ := left_nt hx
        exact iteT ⟨_, rfl, p, dx, _, rfl, k0, pf_no (by decide +kernel), _, rfl, _, rfl, _, rfl, S, _, rfl, .inl (SqL.of hS), _, _, rfl, rfl, pl c3, S, _, _, _, rfl, rfl, SqL.of hS, atx, p, m, an, k, P, _, rfl, hP1, by omega, .inr ⟨c, hc, fun a2 k2 H2 b2 nw kx hP2 => q' _ a2 k2 H2 (FrP.bar2 b2 nw) kx (km_b2 w0 np hP1.isl b2) (fun e => ⟨nw.1, nw.2.elim (fun h => h.2) fun h => by rw [e] at h; exact absurd h.1 (by decide)⟩) hP2 (MktAt.bar2 k0 np hP1.isl b2 hM1)⟩⟩
      · rw [decide_eq_false c3]
        exact iteF (R0 _ _ ⟨rfl, rfl, fun h => c3 h.2⟩)
    · rw [decide_eq_false c4]
      exact iteF (R0 _ _ ⟨rfl, rfl, fun h => c4 h.1⟩)
  rintro σ' H' ⟨rfl, rfl, c4⟩
  rw [if_neg c4] at q'
  have e6 : decide ((fun i j : Int => V.int (i % j)) digit 8 = V.int 6) = decide (digit % 8 = 6) := dec_int _ _
  refine seq_to ⟨_, rfl, _, _, rfl, rfl, (by show (0 : Int) < 8; decide), rfl, _, rfl, ?_⟩
  rw [e6]
  by_cases c5 : digit % 8 = 6
  · rw [decide_eq_true c5]
    rw [if_pos c5] at q'
    have r30 := re_30 hD.g hD.t P (pickS M.ins more)
    exact iteT ⟨_, rfl, p, dx, _, rfl, k0, pf_no (by decide +kernel), _, rfl, p, m, an, k, M, P, _, rfl, hP1, hM1, hm, hD.p, .inr (.inr ⟨hz, by omega, fun t a2 k2 H2 b2 nw kx hP2 _ => q' _ a2 k2 H2 (FrP.bar2 b2 nw) kx (km_b2 w0 np hP1.isl b2) (fun e => ⟨nw.1, nw.2.elim (fun h => h.2) fun h => by rw [e] at h; exact absurd h.1 (by decide)⟩) hP2 (MktAt.bar2 k0 np hP1.isl b2 hM1)⟩)⟩
  · rw [decide_eq_false c5]
    rw [if_neg c5] at q'
    exact iteF ⟨_, rfl, _, rfl, m, more, M, rfl, hM1, hD.g, fun b H2 b2 km hM2 => q' _ an k H2 (FrP.barm b2) (kx_keep k0 (b2 _ _ np.symm k0)) km (fun e => ⟨e, rfl⟩) (PostAt.bar w0 np b2 hP1) hM2⟩

theorem ok_law_deeds {f : Addr} {fd : FuncData} (D_law_deeds : Dfn K mg "_law_deeds" s_law_deeds ["post", "cell", "count"] f fd) (T : Tx K mg C_BadName C_BadCover C_BadPanel C_BadAmount C_NameTaken C_NoSuchName C_NoSuchNotice C_Twice C_OwnPanel C_TooMany C_NoEnd C_Post C_Market N_NOTHING) {f_law_draws : Addr} {fd_law_draws : FuncData} (D_law_draws : Dfn K mg "_law_draws" s_law_draws ["cell", "count"] f_law_draws fd_law_draws) (G_law_draws : FnOk P w K mg base CX0 (1) f_law_draws fd_law_draws ["cell", "count"] (sp_df_draws K)) {f_law_deed : Addr} {fd_law_deed : FuncData} (D_law_deed : Dfn K mg "_law_deed" s_law_deed ["post", "digit", "more"] f_law_deed fd_law_deed) (G_law_deed : FnOk P w K mg base CX0 (10) f_law_deed fd_law_deed ["post", "digit", "more"] (sp_law_deed K C_Post C_Market)) :
    FnOk P w K mg base CX0 (11) f fd ["post", "cell", "count"] (sp_l_deeds K C_Post C_Market) := by
  refine D_law_deeds.F.ok sc_law_deeds (fun vs H Q E h => ?_) (fun cdv A outer s H vs Q E hr h => ?_)
  · obtain ⟨p, m, an, M, P, c, n, rfl, hP, hM, hD, hQ, hC, hl, q⟩ := h
    rfl
  obtain ⟨p, m, an, M, P, c, n, rfl, hP, hM, hD, hQ, hC, hl, q⟩ := h
  refine ⟨_, (pss_cons (ps_set (i := 3) sc_law_deeds.nd rfl (by first | exact Or.inl rfl | exact Or.inr rfl) (pe_call G_law_draws (hr.mono (by first | decide | omega)) rfl D_law_draws.m D_law_draws.F.kp D_law_draws.b .nil pass0 (pa_cons (pe_callTy call_int1 (by rfl) T.int (by decide +kernel) (pa_cons (pv 1) pa_nil)) (pa_cons pe_int pa_nil))))
      (pss_one (ps_for PassesOwn.never rfl (pi_range1 (by rfl) T.range (pa_cons (pv 2) pa_nil)) (pg_name (i := 4) sc_law_deeds.nd rfl (by first | exact Or.inl rfl | exact Or.inr rfl))
      (pss_one (ps_expr (pe_call G_law_deed (hr.mono (by first | decide | omega)) rfl D_law_deed.m D_law_deed.F.kp D_law_deed.b .nil pass0 (pa_cons (pv 0) (pa_cons (pe_ix (r := rIxL K) ix_list (pv 3) (pe_op op_mod (pv 4) pe_int) (fun _ _ => rfl)) (pa_cons (pe_op op_add (pe_ix (r := rIxL K) ix_list (pv 3) (pe_op op_add pe_int (pe_op op_mod (pv 4) pe_int)) (fun _ _ => rfl)) (pe_op op_mul pe_int (pv 4))) pa_nil))))))))), ?_⟩
  refine seq_to (asg_to ⟨_, rfl, .inl ⟨_, rfl, _, 40, rfl, by decide, fun no H1 s1 nno hno => ?_⟩⟩)
  dsimp only
  refine nx_to ?_
  generalize hw0 : List.set _ _ _ = w0
  have ew : w0 = [some (.ref p), some (.int c), some (.int (n : Int)), some (.ref no), none] := by
    rw [← hw0]
    kernel_rfl
  clear hw0
  subst ew
  obtain ⟨ns, ens⟩ : ∃ ns, dgs c 40 = ns := ⟨_, rfl⟩
  have hn40 : ns.length = 40 := by rw [← ens]; exact dgs_len _ _
  rw [ens] at hno q
  clear ens
  obtain ⟨dx, au, al, ar, ap, h0, ⟨ys, hanL, _⟩, _⟩ := id hP
  obtain ⟨dy, ai, ae, at', ad, g0, _⟩ := id hM
  have n1 : no ≠ p := (ne_of_none h0 nno).symm
  have n2 : no ≠ m := (ne_of_none g0 nno).symm
  have n3 : no ≠ an := (ne_of_none hanL nno).symm
  refine ⟨_, rfl, (n : Int), rfl, by omega, by omega, ?_⟩
  rw [show ((n : Nat) : Int).toNat = n by omega]
  refine for_range (lo := 0) (n := n) (fun i σ H' => ∃ v4 : Option V, σ = [some (.ref p), some (.int c), some (.int (n : Int)), some (.ref no), v4] ∧ FrP p m an H an H' ∧ PostAt K C_Post H' p m an false (deedsM ns (M, P) i).2 ∧ MktAt K C_Market H' m (deedsM ns (M, P) i).1 ∧ H' no = some (.lst (ns.map V.int))) ⟨_, rfl, FrP.of s1, PostAt.same s1 hP, MktAt.same s1 hM, hno⟩ ?_ (fun σ H' ⟨_, _, f, hp, hm, _⟩ => q H' f hp hm)
  rintro i σ H2 hi ⟨v4, rfl, fr, hP2, hM2, hno2⟩
  obtain ⟨dk1, dk2, dk3, dk4⟩ := deeds_ok (ns := ns) hD hQ hC i (by omega)
  have e0 : (0 + (i : Int)) = (i : Int) := Int.zero_add _
  have ej : (i : Int) % 20 = ((i % 20 : Nat) : Int) := by omega
  have lj : i % 20 < 20 := Nat.mod_lt _ (by decide)
  rw [e0]
  have a1 : atI (ns.map V.int) ((i : Int) % 20) = some (.int (ns.getD (i % 20) 0)) := by
    rw [ej]
    refine atI_nat (at_map ?_)
    rw [List.getD_eq_getElem?_getD, List.getElem?_eq_getElem (by omega)]
    rfl
  have a2 : atI (ns.map V.int) (20 + (i : Int) % 20) = some (.int (ns.getD (20 + i % 20) 0)) := by
    rw [ej, show (20 : Int) + ((i % 20 : Nat) : Int) = ((20 + i % 20 : Nat) : Int) by omega]
    refine atI_nat (at_map ?_)
    rw [List.getD_eq_getElem?_getD, List.getElem?_eq_getElem (by omega)]
    rfl
  obtain ⟨_, _, _, _, _, k0, _⟩ := id hP2
  obtain ⟨_, _, _, _, _, k1, _⟩ := id hM2
  refine ⟨_, rfl, _, rfl, _, rfl, _, _, rfl, rfl, (by show (0 : Int) < 20; decide), no, _, _, _, rfl, rfl, SqL.of hno2, a1, _, rfl, _, rfl, _, _, rfl, rfl, (by show (0 : Int) < 20; decide), _, _, rfl, rfl, no, _, _, _, rfl, rfl, SqL.of hno2, a2, _, rfl, _, _, rfl, rfl, .inl (by decide), _, _, rfl, rfl, p, m, an, false, _, _, _, _, rfl, hP2, hM2, dk1, by omega, fun v a3 k3 H3 fr3 _ _ hk hP3 hM3 => ?_⟩
  obtain ⟨e1, e2⟩ := hk rfl
  subst e1 e2
  exact ⟨_, rfl, FrP.trans fr fr3 k0 k1, hP3, hM3, fr3.1 _ _ n1 n2 n3 hno2⟩

theorem ok_law_estimates {f : Addr} {fd : FuncData} (D_law_estimates : Dfn K mg "_law_estimates" s_law_estimates ["post"] f fd) (T : Tx K mg C_BadName C_BadCover C_BadPanel C_BadAmount C_NameTaken C_NoSuchName C_NoSuchNotice C_Twice C_OwnPanel C_TooMany C_NoEnd C_Post C_Market N_NOTHING) {f_Post_estimated : Addr} {fd_Post_estimated : FuncData} (D_Post_estimated : Mth K C_Post "estimated" "Post.estimated" s_Post_estimated ["self", "event", "insurer"] f_Post_estimated fd_Post_estimated) (G_Post_estimated : FnOk P w K mg base (L2.CX P w) (6) f_Post_estimated fd_Post_estimated ["self", "event", "insurer"] (sp_estimated K C_Post C_Market C_NoSuchName)) {f_Post_pending : Addr} {fd_Post_pending : FuncData} (D_Post_pending : Mth K C_Post "pending" "Post.pending" s_Post_pending ["self"] f_Post_pending fd_Post_pending) (G_Post_pending : FnOk P w K mg base CX0 (8) f_Post_pending fd_Post_pending ["self"] (sp_pending K C_Post C_Market)) {f_Post_is_quiet : Addr} {fd_Post_is_quiet : FuncData} (D_Post_is_quiet : Mth K C_Post "is_quiet" "Post.is_quiet" s_Post_is_quiet ["self"] f_Post_is_quiet fd_Post_is_quiet) (G_Post_is_quiet : FnOk P w K mg base CX0 (8) f_Post_is_quiet fd_Post_is_quiet ["self"] (sp_is_quiet K C_Post C_Market)) :
    FnOk P w K mg base CX0 (9) f fd ["post"] (sp_l_est K C_Post C_Market) := by
  refine D_law_estimates.F.ok sc_law_estimates (fun vs H Q E h => ?_) (fun cdv A outer s H vs Q E hr h => ?_)
  · obtain ⟨p, m, an, k, M, P, rfl, hP, hM, hD, q⟩ := h
    rfl
  obtain ⟨p, m, an, k, M, P, rfl, hP, hM, hD, q⟩ := h
  refine ⟨_, (pss_cons (ps_set (i := 1) sc_law_estimates.nd rfl (by first | exact Or.inl rfl | exact Or.inr rfl) (pe_lst pa_nil))
      (pss_cons (ps_for PassesOwn.never rfl (pi_tup (pe_fld (pe_fld (pv 0) rfl) rfl)) (pg_name (i := 2) sc_law_estimates.nd rfl (by first | exact Or.inl rfl | exact Or.inr rfl))
      (pss_one (ps_expr (pe_bm PySem.F.plainAttrs_list PySem.F.slot_list_extend PySem.F.type_list_extend mt_extend (pv 1) (pa_cons (pe_lc (own := [("name", 3)]) (g := (gName 3)) (tt := tYes) rfl sc_law_estimates.nd (pi_tup (pe_fld (pe_fld (pv 0) rfl) rfl)) (blkOk_by (own := [("name", 3)]) (N := (["post", "found", "event", "name"] : List Str)) (sc := defScope s_law_estimates) (by decide +kernel)) (fun _ _ _ _ _ => (pg_name (i := 3) sc_law_estimates.nd rfl (by first | exact Or.inl rfl | exact Or.inr rfl))) (fun _ _ _ _ _ => pts_nil) (fun _ _ _ _ _ => (pe_meth (pv 0) T.cl_Post D_Post_estimated.m G_Post_estimated (hr.mono (by first | decide | omega)) D_Post_estimated.b .nil passL (pa_cons (pv 2) (pa_cons (pv 3) pa_nil))))) pa_nil)))))
      (pss_one (ps_ret (pe_tup (pa_cons (pv 1) (pa_cons (pe_meth0 (pv 0) T.cl_Post D_Post_pending.m G_Post_pending (hr.mono (by first | decide | omega)) D_Post_pending.b .nil pass0) (pa_cons (pe_meth0 (pv 0) T.cl_Post D_Post_is_quiet.m G_Post_is_quiet (hr.mono (by first | decide | omega)) D_Post_is_quiet.b .nil pass0) pa_nil)))))))), ?_⟩
  obtain ⟨dx, au, al, ar, ap, h0, _⟩ := id hP
  obtain ⟨dy, ai, ae, at', ad, g0, g1, g2, g3, g4, g5⟩ := id hM
  have hm := dg_pmk hD.g
  have il := hm.il
  have el := hm.el
  refine seq_to (asg_to ⟨Nat.zero_le _, fun D nD => ?_⟩)
  dsimp only
  refine nx_to ?_
  generalize hw0 : List.set _ _ _ = w0
  have ew : w0 = [some (.ref p), some (.ref D), none, none] := by
    rw [← hw0]
    kernel_rfl
  clear hw0
  subst ew
  have s0 := same_new (o := .lst []) nD
  have hD0 : upd H D (.lst []) D = some (.lst []) := upd_same
  obtain ⟨H0, e0⟩ : ∃ H0, upd H D (.lst []) = H0 := ⟨_, rfl⟩
  rw [e0] at s0 hD0 ⊢
  clear e0
  obtain ⟨g, hg⟩ : ∃ g : Str → List Sc, (fun e => M.ins.map fun z => est M P e z) = g := ⟨_, rfl⟩
  have hge : ∀ e, (M.ins.map fun z => est M P e z) = g e := fun e => by rw [← hg]
  have hes : esL M P = M.evs.flatMap g := by rw [← hg]; rfl
  have hgl : ∀ e, (g e).length ≤ 6 := fun e => by rw [← hge, List.length_map]; exact il
  refine seq_to ⟨_, rfl, p, C_Post, dx, _, _, rfl, s0 _ _ h0, T.cl_Post, T.no_Post_market, pf_m, m, C_Market, dy, _, _, rfl, s0 _ _ g0, T.cl_Market, T.no_Market_events, mf_e, ae, rfl, ⟨_, same_sqt s0 g2⟩, for_tup (K := K) (a := ae) (xs := M.evs.map V.str) (fun i σ H' => ∃ v2 : Option V, σ = [some (.ref p), some (.ref D), v2, none] ∧ Same H H' ∧ ∃ ys, H' D = some (.lst ys) ∧ AllAt (SchR K) H' ys ((M.evs.take i).flatMap g)) ⟨_, rfl, s0, [], hD0, .nil⟩ (fun i σ H' _ ⟨_, _, sm, _⟩ => same_sqt sm g2) ?_ ?_⟩
  · rintro i v σ H1 hi ⟨v2, rfl, s1, ys, hD1, hys⟩
    obtain ⟨e, rfl, he⟩ := of_at_str hi
    have hem := List.mem_of_getElem? he
    have bd : ((M.evs.take i).flatMap g).length ≤ 18 := by
      have := flat_len g 6 (M.evs.take i) fun x _ => hgl x
      rw [List.length_take] at this
      omega
    have st : (M.evs.take (i + 1)).flatMap g = (M.evs.take i).flatMap g ++ g e := by
      rw [List.take_add_one, he, List.flatMap_append]
      simp
    have k0 := s1 _ _ h0
    have k1 := s1 _ _ g0
    refine ⟨_, rfl, .inl ⟨rfl, _, SqL.of hD1⟩, _, rfl, p, C_Post, dx, _, _, rfl, k0, T.cl_Post, T.no_Post_market, pf_m, m, C_Market, dy, _, _, rfl, k1, T.cl_Market, T.no_Market_insurers, mf_i, ai, rfl, ⟨_, same_sqt s1 g1⟩, fun F nF => lc_tup (K := K) (a := ai) (xs := M.ins.map V.str) (fun j H' => Same H1 H' ∧ ∃ ws, H' F = some (.lst ws) ∧ AllAt (SchR K) H' ws ((M.ins.take j).map fun z => est M P e z)) ⟨same_new nF, [], upd_same, .nil⟩ (fun j H' _ w => same_sqt (s1.trans w.1) g1) ?_ ?_⟩
    · rintro j v H2 hj ⟨s2, ws, hF, hws⟩
      obtain ⟨z, rfl, hz⟩ := of_at_str hj
      have hzm := List.mem_of_getElem? hz
      have hjl := (List.getElem?_eq_some_iff.mp hz).1
      have s12 := s1.trans s2
      generalize hw0 : wipe _ _ = w0
      have ew : w0 = [some (.ref p), some (.ref D), some (.str e), none] := by
        rw [← hw0]
        kernel_rfl
      clear hw0
      subst ew
      refine ⟨by kernel_rfl, _, rfl, p, dx, _, rfl, s12 _ _ h0, pf_no (by decide +kernel), _, rfl, _, rfl, p, m, an, k, M, P, e, z, rfl, PostAt.same s12 hP, MktAt.same s12 hM, hm, hD.p, .inr (.inr ⟨hem, hzm, fun s H3 s3 hs => ?_⟩)⟩
      have hF3 := s3 _ _ hF
      have wl := hws.1
      rw [List.length_map, List.length_take] at wl
      refine ⟨ws, hF3, szl (by omega), same_put (s2.trans s3) nF, _, upd_same, ?_⟩
      rw [List.take_add_one, hz, List.map_append]
      have tu := Tups.put (o := .lst (ws ++ [.ref s])) hF3 (fun _ z => (nomatch z)) fun _ _ z => (nomatch z)
      exact AllAt.imp (S := SchR K) (AllAt.add (AllAt.same (R := SchR K) (fun e r => SchR.same e r) s3 hws) (⟨s, rfl, hs⟩ : SchR K H3 (.ref s) (est M P e z))) fun y l ⟨q, e1, e2⟩ => ⟨q, e1, tu.sch e2⟩
    · rintro H2 ⟨s2, ws, hF, hws⟩
      rw [List.length_map, List.take_of_length_le (Nat.le_refl _), hge] at hws
      have hD2 := s2 _ _ hD1
      have l1 := hys.1
      have l2 := hws.1
      have := hgl e
      refine ⟨D, F, ys, ws, rfl, rfl, hD2, hF, sz (by omega), ?_⟩
      have tu := Tups.put (o := .lst (ys ++ ws)) hD2 (fun _ z => (nomatch z)) fun _ _ z => (nomatch z)
      refine ⟨_, rfl, same_put (s1.trans s2) nD, _, upd_same, ?_⟩
      rw [st]
      exact AllAt.imp (S := SchR K) (AllAt.app (AllAt.same (R := SchR K) (fun e r => SchR.same e r) s2 hys) hws) fun y l ⟨q, e1, e2⟩ => ⟨q, e1, tu.sch e2⟩
  rintro σ H1 ⟨v2, rfl, s1, ys, hD1, hys⟩
  rw [List.length_map, List.take_of_length_le (Nat.le_refl _), ← hes] at hys
  have k0 := s1 _ _ h0
  refine ⟨_, rfl, _, rfl, p, dx, _, rfl, k0, pf_no (by decide +kernel), p, m, an, k, M, P, rfl, PostAt.same s1 hP, MktAt.same s1 hM, hm, hD.p, fun u ua ub H2 s2 hu hua hub => ?_⟩
  have s12 := s1.trans s2
  refine ⟨_, rfl, p, dx, _, rfl, s12 _ _ h0, pf_no (by decide +kernel), p, m, an, k, M, P, rfl, PostAt.same s12 hP, MktAt.same s12 hM, hm, hD.p, fun H3 s3 => ⟨sz (by show 3 ≤ 100000; decide), fun t nt => ?_⟩⟩
  have s4 := same_new (o := .tup [.ref D, .ref u, .bl (quiet M P)]) nt
  have s24 := s2.trans (s3.trans s4)
  exact q _ _ (s1.trans s24) ⟨t, D, u, ua, ub, ys, rfl, upd_same, s24 _ _ hD1, AllAt.same (R := SchR K) (fun e r => SchR.same e r) s24 hys, same_sqt (s3.trans s4) hu, same_sqt (s3.trans s4) hua, same_sqt (s3.trans s4) hub⟩

theorem ok_law {f : Addr} {fd : FuncData} (D_law : Dfn K mg "law" s_law ["script"] f fd) (T : Tx K mg C_BadName C_BadCover C_BadPanel C_BadAmount C_NameTaken C_NoSuchName C_NoSuchNotice C_Twice C_OwnPanel C_TooMany C_NoEnd C_Post C_Market N_NOTHING) {f_Post___init : Addr} {fd_Post___init : FuncData} (D_Post___init : Mki K C_Post "Post.__init__" s_Post___init ["self", "market"] f_Post___init fd_Post___init) (G_Post___init : FnOk P w K mg base CX0 (1) f_Post___init fd_Post___init ["self", "market"] (sp_pinit K C_Post)) {f_law_market : Addr} {fd_law_market : FuncData} (D_law_market : Dfn K mg "_law_market" s_law_market ["cell"] f_law_market fd_law_market) (G_law_market : FnOk P w K mg base CX0 (11) f_law_market fd_law_market ["cell"] (sp_df_market K C_Market)) {f_law_cell : Addr} {fd_law_cell : FuncData} (D_law_cell : Dfn K mg "_law_cell" s_law_cell ["script", "k"] f_law_cell fd_law_cell) (G_law_cell : FnOk P w K mg base CX0 (1) f_law_cell fd_law_cell ["script", "k"] (sp_law_cell K)) {f_law_deeds : Addr} {fd_law_deeds : FuncData} (D_law_deeds : Dfn K mg "_law_deeds" s_law_deeds ["post", "cell", "count"] f_law_deeds fd_law_deeds) (G_law_deeds : FnOk P w K mg base CX0 (11) f_law_deeds fd_law_deeds ["post", "cell", "count"] (sp_l_deeds K C_Post C_Market)) {f_Post___len : Addr} {fd_Post___len : FuncData} (D_Post___len : Mth K C_Post "__len__" "Post.__len__" s_Post___len ["self"] f_Post___len fd_Post___len) (G_Post___len : FnOk P w K mg base CX0 (1) f_Post___len fd_Post___len ["self"] (sp_plen K C_Post)) {f_Post___iter : Addr} {fd_Post___iter : FuncData} (D_Post___iter : Mth K C_Post "__iter__" "Post.__iter__" s_Post___iter ["self"] f_Post___iter fd_Post___iter) (G_Post___iter : FnY P w K mg base CX0 (1) f_Post___iter fd_Post___iter ["self"] (sp_piter K C_Post)) {f_Post_deliver : Addr} {fd_Post_deliver : FuncData} (D_Post_deliver : Mth K C_Post "deliver" "Post.deliver" s_Post_deliver ["self", "number"] f_Post_deliver fd_Post_deliver) (G_Post_deliver : FnOk P w K mg base (L2.CX P w) (4) f_Post_deliver fd_Post_deliver ["self", "number"] (sp_deliver K C_Post C_NoSuchNotice)) {f_law_estimates : Addr} {fd_law_estimates : FuncData} (D_law_estimates : Dfn K mg "_law_estimates" s_law_estimates ["post"] f_law_estimates fd_law_estimates) (G_law_estimates : FnOk P w K mg base CX0 (9) f_law_estimates fd_law_estimates ["post"] (sp_l_est K C_Post C_Market)) :
    FnOk P w K mg base CX0 (12) f fd ["script"] (sp_law K) := by
  refine D_law.F.ok sc_law (fun vs H Q E h => ?_) (fun cdv A outer s H vs Q E hr h => ?_)
  · obtain ⟨a, cs, rfl, hS, h63, q⟩ := h
    rfl
  obtain ⟨a, cs, rfl, hS, h63, q⟩ := h
  refine ⟨_, (pss_cons (ps_setLc (i := 1) (own := [("k", 7)]) (g := (gName 7)) (tt := tYes) rfl sc_law.nd rfl rfl (sw_true rfl rfl rfl (by decide +kernel)) (pi_range1 (by rfl) T.range (pa_cons pe_int pa_nil)) (blkOk_by (own := [("k", 7)]) (N := (["script", "posts", "count", "post", "numbers", "number", "before", "k"] : List Str)) (sc := defScope s_law) (by decide +kernel)) (fun _ _ _ _ _ => (pg_name (i := 7) sc_law.nd rfl (by first | exact Or.inl rfl | exact Or.inr rfl))) (fun _ _ _ _ _ => pts_nil) (fun _ _ _ _ _ => (pe_make D_Post___init.m G_Post___init (hr.mono (by first | decide | omega)) rfl T.m_Post D_Post___init.b .nil pass0 (pa_cons (pe_call G_law_market (hr.mono (by first | decide | omega)) rfl D_law_market.m D_law_market.F.kp D_law_market.b .nil pass0 (pa_cons (pe_call G_law_cell (hr.mono (by first | decide | omega)) rfl D_law_cell.m D_law_cell.F.kp D_law_cell.b .nil pass0 (pa_cons (pv 0) (pa_cons pe_int pa_nil))) pa_nil)) pa_nil))))
      (pss_cons (ps_set (i := 2) sc_law.nd rfl (by first | exact Or.inl rfl | exact Or.inr rfl) (pe_op op_mod (pe_callTy call_int1 (by rfl) T.int (by decide +kernel) (pa_cons (pe_call G_law_cell (hr.mono (by first | decide | omega)) rfl D_law_cell.m D_law_cell.F.kp D_law_cell.b .nil pass0 (pa_cons (pv 0) (pa_cons pe_int pa_nil))) pa_nil)) pe_int))
      (pss_cons (ps_for PassesOwn.never rfl (pi_list (pv 1)) (pg_name (i := 3) sc_law.nd rfl (by first | exact Or.inl rfl | exact Or.inr rfl))
      (pss_one (ps_expr (pe_call G_law_deeds (hr.mono (by first | decide | omega)) rfl D_law_deeds.m D_law_deeds.F.kp D_law_deeds.b .nil pass0 (pa_cons (pv 3) (pa_cons (pe_callTy call_int1 (by rfl) T.int (by decide +kernel) (pa_cons (pe_call G_law_cell (hr.mono (by first | decide | omega)) rfl D_law_cell.m D_law_cell.F.kp D_law_cell.b .nil pass0 (pa_cons (pv 0) (pa_cons pe_int pa_nil))) pa_nil)) (pa_cons (pv 2) pa_nil)))))))
      (pss_cons (ps_set (i := 4) sc_law.nd rfl (by first | exact Or.inl rfl | exact Or.inr rfl) (pe_callTy (call_listOwnT D_Post___iter.m G_Post___iter D_Post___iter.b D_Post___len.m G_Post___len D_Post___len.b rfl (hr.mono (by first | decide | omega)) (hr.mono (by first | decide | omega))) (by rfl) T.list (by decide +kernel) (pa_cons (pe_ix (r := rIxL K) ix_list (pv 1) pe_int (fun _ _ => rfl)) pa_nil)))
      (pss_cons (ps_if (pt_cmpR (op_neD hr.units) (pv 4) (pe_callTy (call_listOwnT D_Post___iter.m G_Post___iter D_Post___iter.b D_Post___len.m G_Post___len D_Post___len.b rfl (hr.mono (by first | decide | omega)) (hr.mono (by first | decide | omega))) (by rfl) T.list (by decide +kernel) (pa_cons (pe_ix (r := rIxL K) ix_list (pv 1) pe_int (fun _ _ => rfl)) pa_nil)) (nomark _))
      (pss_one (ps_ret pe_bl))
      pss_nil)
      (pss_cons (ps_for PassesOwn.never rfl (pi_list (pv 4)) (pg_name (i := 5) sc_law.nd rfl (by first | exact Or.inl rfl | exact Or.inr rfl))
      (pss_one (ps_expr (pe_meth (pe_ix (r := rIxL K) ix_list (pv 1) pe_int (fun _ _ => rfl)) T.cl_Post D_Post_deliver.m G_Post_deliver (hr.mono (by first | decide | omega)) D_Post_deliver.b .nil passL (pa_cons (pv 5) pa_nil)))))
      (pss_cons (ps_for PassesOwn.never rfl (pi_list (pe_listRev rfl (by rfl) T.list (by rfl) T.reversed (pv 4))) (pg_name (i := 5) sc_law.nd rfl (by first | exact Or.inl rfl | exact Or.inr rfl))
      (pss_cons (ps_expr (pe_meth (pe_ix (r := rIxL K) ix_list (pv 1) pe_int (fun _ _ => rfl)) T.cl_Post D_Post_deliver.m G_Post_deliver (hr.mono (by first | decide | omega)) D_Post_deliver.b .nil passL (pa_cons (pv 5) pa_nil)))
      (pss_one (ps_if (PW.pt (pw_and (pt_cmpR op_eq (pe_op op_mod (pv 5) pe_int) pe_int (nomark _)) (pw_and1 (pt_val (pe_meth (pe_ix (r := rIxL K) ix_list (pv 1) pe_int (fun _ _ => rfl)) T.cl_Post D_Post_deliver.m G_Post_deliver (hr.mono (by first | decide | omega)) D_Post_deliver.b .nil passL (pa_cons (pv 5) pa_nil))))))
      (pss_one (ps_ret pe_bl))
      pss_nil))))
      (pss_cons (ps_if (pt_cmpR (op_neD hr.units) (pe_call G_law_estimates (hr.mono (by first | decide | omega)) rfl D_law_estimates.m D_law_estimates.F.kp D_law_estimates.b .nil pass0 (pa_cons (pe_ix (r := rIxL K) ix_list (pv 1) pe_int (fun _ _ => rfl)) pa_nil)) (pe_call G_law_estimates (hr.mono (by first | decide | omega)) rfl D_law_estimates.m D_law_estimates.F.kp D_law_estimates.b .nil pass0 (pa_cons (pe_ix (r := rIxL K) ix_list (pv 1) pe_int (fun _ _ => rfl)) pa_nil)) (nomark _))
      (pss_one (ps_ret pe_bl))
      pss_nil)
      (pss_cons (ps_set (i := 6) sc_law.nd rfl (by first | exact Or.inl rfl | exact Or.inr rfl) (pe_call G_law_estimates (hr.mono (by first | decide | omega)) rfl D_law_estimates.m D_law_estimates.F.kp D_law_estimates.b .nil pass0 (pa_cons (pe_ix (r := rIxL K) ix_list (pv 1) pe_int (fun _ _ => rfl)) pa_nil)))
      (pss_cons (ps_for PassesOwn.never rfl (pi_list (pv 4)) (pg_name (i := 5) sc_law.nd rfl (by first | exact Or.inl rfl | exact Or.inr rfl))
      (pss_one (ps_if (pt_val (pe_meth (pe_ix (r := rIxL K) ix_list (pv 1) pe_int (fun _ _ => rfl)) T.cl_Post D_Post_deliver.m G_Post_deliver (hr.mono (by first | decide | omega)) D_Post_deliver.b .nil passL (pa_cons (pv 5) pa_nil)))
      (pss_one (ps_ret pe_bl))
      pss_nil)))
      (pss_one (ps_ret (pe_cmpR (op_eqD hr.units) (pe_call G_law_estimates (hr.mono (by first | decide | omega)) rfl D_law_estimates.m D_law_estimates.F.kp D_law_estimates.b .nil pass0 (pa_cons (pe_ix (r := rIxL K) ix_list (pv 1) pe_int (fun _ _ => rfl)) pa_nil)) (pv 6) (nomark _)))))))))))))), ?_⟩
  obtain ⟨M, eM⟩ : ∃ M, mktF (cell cs 0) = M := ⟨_, rfl⟩
  have ht5 : M.trs.length ≤ 5 := by rw [← eM]; exact mktF_tl _
  have zn : ∀ {H1 : Hp} {b : Addr}, Same H H1 → H1 b = none → H b = none := fun s h => s.free h
  refine seq_to (asg_to ⟨2, rfl, by decide, by decide, fun D nD => ?_⟩)
  refine lc_range (lo := 0) (n := 2) (fun i H' => PsAt K C_Post C_Market H D M i H' ∧ (1 ≤ i → DgMkt M)) ⟨⟨same_new nD, [], rfl, upd_same, fun t h => (nomatch h), .nil⟩, fun h => absurd h (by decide)⟩ ?_ ?_
  · rintro i H1 hi ⟨⟨s1, L, hll, hDl, hall, hpw⟩, _⟩
    generalize hw0 : wipe _ _ = w0
    have ew : w0 = [some (.ref a), none, none, none, none, none, none, none] := by
      rw [← hw0]
      kernel_rfl
    clear hw0
    subst ew
    refine ⟨by kernel_rfl, _, rfl, a, cs, 0, rfl, s1.seq hS, cell cs 0, rfl, fun m H2 s2 nm hM2 hg => fun p dx np ndx ne => ⟨p, dx, m, rfl, upd_same, fun an H3 b3 nan hP3 => ⟨rfl, ?_⟩⟩⟩
    rw [eM] at hM2 hg
    have s3 : Same H2 H3 := fun b u hb => b3 b u (ne_of_none hb np) (by rw [upd_ne (ne_of_none hb np), upd_ne (ne_of_none hb ndx)]; exact hb)
    have nan2 : H2 an = none := by
      cases h : H2 an with
      | none => rfl
      | some u =>
        rw [upd_ne (ne_of_none h np), upd_ne (ne_of_none h ndx), h] at nan
        cases nan
    have hD2 := s2 _ _ hDl
    have hD3 := s3 _ _ hD2
    have s23 := s2.trans s3
    refine ⟨_, hD3, by rw [List.length_map]; exact szl (by omega), ⟨same_put (s1.trans s23) nD, L ++ [⟨p, m, an⟩], by rw [List.length_append, hll]; rfl, by rw [upd_same, List.map_append]; rfl, fun t ht => ?_, ?_⟩, fun _ => hg⟩
    · rcases List.mem_append.mp ht with ht | ht
      · obtain ⟨a1, a2, a3, a4, a5, a6⟩ := hall t ht
        exact ⟨a1, a2, a3, a4, post_lput hD3 a4 (PostAt.same s23 a5) _, mkt_lput hD3 (MktAt.same s23 a6) _⟩
      · rw [List.mem_singleton.mp ht]
        exact ⟨zn (s1.trans s2) np, zn s1 nm, zn (s1.trans s2) nan2, (ne_of_none hD2 nan2).symm, post_lput hD3 (ne_of_none hD2 nan2).symm hP3 _, mkt_lput hD3 (MktAt.same s3 hM2) _⟩
    · refine List.pairwise_append.mpr ⟨hpw, List.pairwise_singleton _ _, fun t ht u hu => ?_⟩
      rw [List.mem_singleton.mp hu]
      obtain ⟨a1, a2, a3, a4, a5, a6⟩ := hall t ht
      obtain ⟨_, _, _, _, _, z0, ⟨_, z1, _⟩, _⟩ := id a5
      obtain ⟨_, _, _, _, _, y0, _⟩ := id a6
      exact ⟨ne_of_none (s2 _ _ z0) np, ne_of_none z0 nm, ne_of_none (s2 _ _ y0) np, ne_of_none y0 nm, ne_of_none (s2 _ _ z1) nan2⟩
  rintro H1 ⟨⟨s1, L, hll, hDl, hall, hpw⟩, hg⟩
  have hg := hg (by decide)
  obtain ⟨t, u, rfl⟩ : ∃ t u, L = [t, u] := by
    match L, hll with
    | [t, u], _ => exact ⟨t, u, rfl⟩
  have dis : Dis t u := (List.pairwise_cons.mp hpw).1 u (by simp)
  have tw1 : Two K C_Post C_Market H D t u (M, P00) (M, P00) H1 := ⟨s1, hDl, hall t (by simp), hall u (by simp)⟩
  clear hall hpw hll hDl
  dsimp only
  refine nx_to ?_
  refine seq_to (asg_to ⟨_, rfl, a, cs, 1, rfl, s1.seq hS, .inl ⟨_, rfl, _, _, rfl, rfl, (by show (0 : Int) < 17; decide), ?_⟩⟩)
  dsimp only
  refine nx_to ?_
  obtain ⟨n, hn, hn16⟩ : ∃ k : Nat, cell cs 1 % 17 = (k : Int) ∧ k ≤ 16 := ⟨(cell cs 1 % 17).toNat, by omega, by omega⟩
  rw [hn]
  clear hn
  generalize hw0 : List.set _ _ _ = w0
  have ew : w0 = [some (.ref a), some (.ref D), some (.int (n : Int)), none, none, none, none, none] := by
    rw [← hw0]
    kernel_rfl
  clear hw0
  subst ew
  have d0 : DOk M P00 := ⟨hg, PtOk.nil M _, ht5⟩
  have q0 : QI P00 := QI.nil _
  have c0 : ∃ S, CIS S P00 := ⟨_, CIS.nil _⟩
  have l0 : P00.nts.length + 30 * n ≤ 2000 := by show 0 + 30 * n ≤ 2000; omega
  obtain ⟨dk, _, hC, _⟩ := deeds_ok (ns := dgs (cell cs 2) 40) d0 q0 c0 n l0
  obtain ⟨S1, hS1⟩ : ∃ S1, deedsM (dgs (cell cs 2) 40) (M, P00) n = S1 := ⟨_, rfl⟩
  rw [hS1] at dk hC
  refine seq_to ⟨_, rfl, D, rfl, ⟨_, SqL.of tw1.d⟩, for_list (K := K) (a := D) (xs := [.ref t.p, .ref u.p]) (fun i σ H' => ∃ v3 : Option V, σ = [some (.ref a), some (.ref D), some (.int (n : Int)), v3, none, none, none, none] ∧ Two K C_Post C_Market H D t u (if 1 ≤ i then S1 else (M, P00)) (if 2 ≤ i then S1 else (M, P00)) H') ⟨_, rfl, tw1⟩ (fun i σ H' _ ⟨_, _, h⟩ => SqL.of h.d) ?_ ?_⟩
  · rintro i v σ H2 hi ⟨v3, rfl, tw⟩
    have hil := (List.getElem?_eq_some_iff.mp hi).1
    match i, hil with
    | 0, _ =>
      cases hi
      obtain ⟨_, _, _, _, a5, a6⟩ := tw.a
      refine ⟨_, rfl, _, rfl, a, cs, 2, rfl, tw.s.seq hS, .inl ⟨_, rfl, _, rfl, t.p, t.m, t.n, M, P00, _, n, rfl, a5, a6, d0, q0, c0, l0, fun H3 f hP hM => ?_⟩⟩
      rw [hS1] at hP hM
      exact ⟨_, rfl, tw.fst dis f hP hM⟩
    | 1, _ =>
      cases hi
      obtain ⟨_, _, _, _, a5, a6⟩ := tw.b
      refine ⟨_, rfl, _, rfl, a, cs, 2, rfl, tw.s.seq hS, .inl ⟨_, rfl, _, rfl, u.p, u.m, u.n, M, P00, _, n, rfl, a5, a6, d0, q0, c0, l0, fun H3 f hP hM => ?_⟩⟩
      rw [hS1] at hP hM
      exact ⟨_, rfl, tw.snd dis f hP hM⟩
  rintro σ H2 ⟨v3, rfl, tw⟩
  have tw : Two K C_Post C_Market H D t u S1 S1 H2 := tw
  clear tw1 s1
  obtain ⟨M1, P1⟩ := S1
  have dk : DOk M1 P1 := dk
  obtain ⟨S, hC⟩ := hC
  have hC : CIS S P1 := hC
  dsimp only
  have hll : (leftOf P1).length ≤ P1.nts.length := leftF_len P1.nts 1
  have hln := dk.p.len
  obtain ⟨_, _, _, _, a5, a6⟩ := tw.a
  obtain ⟨da, _, _, _, _, z0, _⟩ := id a5
  refine seq_to (asg_to ⟨_, rfl, D, _, 0, .ref t.p, rfl, rfl, SqL.of tw.d, rfl, t.p, da, _, (leftOf P1).map V.int, rfl, z0, by rw [List.length_map]; omega, fun n H' s => ⟨t.p, t.m, t.n, false, P1, rfl, PostAt.same s a5, fun it t ni hn hS => ⟨it, t, rfl, ni, hn, rfl, hS⟩⟩, fun H' s => ⟨t.p, t.m, t.n, false, P1, rfl, PostAt.same s a5, P1.nts.length, rfl, by omega, rfl⟩, fun N H3 s3 nN hN => ?_⟩)
  dsimp only
  refine nx_to ?_
  have tw3 := tw.same s3
  obtain ⟨_, _, _, _, b5, b6⟩ := tw3.b
  obtain ⟨db, _, _, _, _, y0, _⟩ := id b5
  refine seq_to ⟨_, rfl, _, rfl, D, _, 1, .ref u.p, rfl, rfl, SqL.of tw3.d, rfl, u.p, db, _, (leftOf P1).map V.int, rfl, y0, by rw [List.length_map]; omega, fun n H' s => ⟨u.p, u.m, u.n, false, P1, rfl, PostAt.same s b5, fun it t ni hn hS => ⟨it, t, rfl, ni, hn, rfl, hS⟩⟩, fun H' s => ⟨u.p, u.m, u.n, false, P1, rfl, PostAt.same s b5, P1.nts.length, rfl, by omega, rfl⟩, fun N' H4 s4 nN' hN' => ⟨_, _, dp_lst (SqL.of (s4 _ _ hN)), dp_lst (SqL.of hN'), PySem.W.ke_shaped_ints _, PySem.W.ke_shaped_ints _, _, rfl, ?_⟩⟩
  rw [SeqAt.eqv_refl _ (SeqAt.canLay_of_shaped (PySem.W.ke_shaped_ints _))]
  refine iteF (next_to ?_)
  dsimp only
  have tw4 := tw3.same s4
  have hN4 := s4 _ _ hN
  obtain ⟨ls, hls⟩ : ∃ ls, leftOf P1 = ls := ⟨_, rfl⟩
  have hlx : ∀ x ∈ ls, ∃ c, ntAt P1 x = some c := fun x hx => left_nt (by rw [hls]; exact hx)
  rw [hls] at hN4
  have hls2 : ls.length ≤ 2000 := by rw [← hls]; omega
  clear hN hN' s3 s4 a5 a6 b5 b6 z0 y0 tw tw3
  have dls : ∀ xs, DOk M1 (dlvs P1 xs) := fun xs => DOk.dlvs xs dk
  have hm := dg_pmk dk.g
  -- the first post is given all in their order
  refine seq_to ⟨_, rfl, N, rfl, ⟨_, SqL.of hN4⟩, for_list (K := K) (a := N) (xs := ls.map V.int) (fun i σ H' => ∃ v5 : Option V, σ = [some (.ref a), some (.ref D), some (.int (n : Int)), v3, some (.ref N), v5, none, none] ∧ Two K C_Post C_Market H D t u (M1, dlvs P1 (ls.take i)) (M1, P1) H' ∧ H' N = some (.lst (ls.map V.int))) ⟨_, rfl, tw4, hN4⟩ (fun i σ H' _ ⟨_, _, _, h⟩ => SqL.of h) ?_ ?_⟩
  · rintro i v σ H5 hi ⟨v5, rfl, tw, hN⟩
    obtain ⟨x, rfl, hx⟩ := of_at_map hi
    obtain ⟨c, hc⟩ := hlx x (List.mem_of_getElem? hx)
    have hc2 : ntAt (dlvs P1 (ls.take i)) x = some c := by rw [nt_nts (dlvs_nts _ _)]; exact hc
    obtain ⟨_, _, _, _, a5, a6⟩ := tw.a
    obtain ⟨da, _, _, _, _, z0, _⟩ := id a5
    refine ⟨_, rfl, D, _, 0, .ref t.p, rfl, rfl, SqL.of tw.d, rfl, t.p, da, _, rfl, z0, pf_no (by decide +kernel), _, rfl, t.p, t.m, t.n, false, M1, _, x, rfl, a5, hm, (dls _).p, .inr ⟨c, hc2, fun H6 b _ hP => ?_⟩⟩
    have np := mkt_ne a5 a6
    have e1 : dlvs P1 (ls.take (i + 1)) = dlvP (dlvs P1 (ls.take i)) c := by
      rw [List.take_add_one, hx]
      show dlvs P1 (ls.take i ++ [x]) = _
      rw [dlvs_add]
      unfold dlv1
      rw [hc2]
    rw [← e1] at hP
    refine ⟨_, rfl, tw.fst dis (T := (M1, _)) (FrP.barp b) hP (MktAt.bar2 z0 np a5.isl (bar2_bar b) a6), b _ _ (fun e => by rw [e, z0] at hN; cases hN) hN⟩
  rintro σ H5 ⟨v5, rfl, tw5, hN5⟩
  rw [List.length_map, List.take_of_length_le (Nat.le_refl _)] at tw5
  dsimp only
  -- the second one backwards
  refine seq_to ⟨_, rfl, N, _, rfl, SqL.of hN5, fun R nR => ⟨R, rfl, ⟨_, SqL.of upd_same⟩, for_list (K := K) (a := R) (xs := (ls.map V.int).reverse) (fun i σ H' => ∃ v5 : Option V, σ = [some (.ref a), some (.ref D), some (.int (n : Int)), v3, some (.ref N), v5, none, none] ∧ Two K C_Post C_Market H D t u (M1, dlvs P1 ls) (M1, dlvs P1 (ls.reverse.take i)) H' ∧ H' N = some (.lst (ls.map V.int)) ∧ H' R = some (.lst (ls.map V.int).reverse)) ⟨_, rfl, tw5.same (same_new nR), same_new nR _ _ hN5, upd_same⟩ (fun i σ H' _ ⟨_, _, _, _, h⟩ => SqL.of h) ?_ ?_⟩⟩
  · rintro i v σ H6 hi ⟨v5, rfl, tw, hN, hR⟩
    rw [← List.map_reverse] at hi
    obtain ⟨x, rfl, hx⟩ := of_at_map hi
    obtain ⟨c, hc⟩ := hlx x (List.mem_reverse.mp (List.mem_of_getElem? hx))
    have hc2 : ntAt (dlvs P1 (ls.reverse.take i)) x = some c := by rw [nt_nts (dlvs_nts _ _)]; exact hc
    obtain ⟨_, _, _, _, a5, a6⟩ := tw.b
    obtain ⟨da, _, _, _, _, z0, _⟩ := id a5
    refine seq_to ⟨_, rfl, D, _, 1, .ref u.p, rfl, rfl, SqL.of tw.d, rfl, u.p, da, _, rfl, z0, pf_no (by decide +kernel), _, rfl, u.p, u.m, u.n, false, M1, _, x, rfl, a5, hm, (dls _).p, .inr ⟨c, hc2, fun H7 b _ hP => ?_⟩⟩
    have np := mkt_ne a5 a6
    have e1 : dlvs P1 (ls.reverse.take (i + 1)) = dlvP (dlvs P1 (ls.reverse.take i)) c := by
      rw [List.take_add_one, hx]
      show dlvs P1 (ls.reverse.take i ++ [x]) = _
      rw [dlvs_add]
      unfold dlv1
      rw [hc2]
    have got := dlv_got (dlvs P1 (ls.reverse.take i)) c
    rw [← e1] at hP got
    have tw7 := tw.snd dis (T := (M1, _)) (FrP.barp b) hP (MktAt.bar2 z0 np a5.isl (bar2_bar b) a6)
    have hN7 := b _ _ (fun e => by rw [e, z0] at hN; cases hN) hN
    have hR7 := b _ _ (fun e => by rw [e, z0] at hR; cases hR) hR
    have hc3 : ntAt (dlvs P1 (ls.reverse.take (i + 1))) x = some c := by rw [nt_nts (dlvs_nts _ _)]; exact hc
    dsimp only
    refine ⟨_, rfl, _, _, rfl, rfl, (by show (0 : Int) < 3; decide), rfl, _, rfl, ?_⟩
    refine iteB (fun _ => ?_) (fun _ => iteF ⟨_, rfl, tw7, hN7, hR7⟩)
    obtain ⟨_, _, _, _, b5, b6⟩ := tw7.b
    have b5 : PostAt K C_Post H7 u.p u.m u.n false (dlvs P1 (ls.reverse.take (i + 1))) := b5
    obtain ⟨db, _, _, _, _, y0, _⟩ := id b5
    refine ⟨_, rfl, D, _, 1, .ref u.p, rfl, rfl, SqL.of tw7.d, rfl, u.p, db, _, rfl, y0, pf_no (by decide +kernel), _, rfl, u.p, u.m, u.n, false, M1, _, x, rfl, b5, hm, (dls _).p, .inr ⟨c, hc3, fun H8 b' _ hP' => ⟨_, rfl, ?_⟩⟩⟩
    rw [decide_eq_true got]
    have np' := mkt_ne b5 b6
    have hP' : PostAt K C_Post H8 u.p u.m u.n false (dlvs P1 (ls.reverse.take (i + 1))) := by rw [← dlv_again got]; exact hP'
    exact iteF ⟨_, rfl, tw7.snd dis (T := (M1, _)) (FrP.barp b') hP' (MktAt.bar2 y0 np' b5.isl (bar2_bar b') b6), b' _ _ (fun e => by rw [e, y0] at hN7; cases hN7) hN7, b' _ _ (fun e => by rw [e, y0] at hR7; cases hR7) hR7⟩
  rintro σ H6 ⟨v6, rfl, tw6, hN6, _⟩
  rw [List.length_reverse, List.length_map, List.take_of_length_le (by rw [List.length_reverse]; exact Nat.le_refl _)] at tw6
  dsimp only
  have al : Alike (dlvs P1 ls) (dlvs P1 ls.reverse) := alike_any hC (fun x h => List.mem_reverse.mpr h) fun x h => List.mem_reverse.mp h
  obtain ⟨_, _, _, _, a5, a6⟩ := tw6.a
  obtain ⟨_, _, _, _, b5, b6⟩ := tw6.b
  refine seq_to ⟨_, rfl, D, _, 0, .ref t.p, rfl, rfl, SqL.of tw6.d, rfl, t.p, t.m, t.n, false, M1, _, rfl, a5, a6, dls _, fun w1 H7 s7 e7 => ⟨_, rfl, D, _, 1, .ref u.p, rfl, rfl, SqL.of (s7 _ _ tw6.d), rfl, u.p, u.m, u.n, false, M1, _, rfl, PostAt.same s7 b5, MktAt.same s7 b6, dls _, fun w2 H8 s8 e8 => ⟨_, _, dp_es (e7.same s8), dp_es e8, shp_es dk.g _, shp_es dk.g _, _, rfl, ?_⟩⟩⟩
  rw [esD_alike al, SeqAt.eqv_refl _ (SeqAt.canLay_of_shaped (shp_es dk.g _))]
  refine iteF (next_to ?_)
  dsimp only
  have tw8 := tw6.same (s7.trans s8)
  have hN8 := (s7.trans s8) _ _ hN6
  obtain ⟨_, _, _, _, a5, a6⟩ := tw8.a
  refine seq_to (asg_to ⟨_, rfl, D, _, 0, .ref t.p, rfl, rfl, SqL.of tw8.d, rfl, t.p, t.m, t.n, false, M1, _, rfl, a5, a6, dls _, fun w3 H9 s9 e9 => ?_⟩)
  dsimp only
  refine nx_to ?_
  generalize hw0 : List.set _ _ _ = w0
  have ew : w0 = [some (.ref a), some (.ref D), some (.int (n : Int)), v3, some (.ref N), v6, some w3, none] := by
    rw [← hw0]
    kernel_rfl
  clear hw0
  subst ew
  have tw9 := tw8.same s9
  have hN9 := s9 _ _ hN8
  refine seq_to ⟨_, rfl, N, rfl, ⟨_, SqL.of hN9⟩, for_list (K := K) (a := N) (xs := ls.map V.int) (fun i σ H' => ∃ v5 : Option V, σ = [some (.ref a), some (.ref D), some (.int (n : Int)), v3, some (.ref N), v5, some w3, none] ∧ Two K C_Post C_Market H D t u (M1, dlvs P1 ls) (M1, dlvs P1 ls.reverse) H' ∧ H' N = some (.lst (ls.map V.int)) ∧ EsAt K H' w3 M1 (dlvs P1 ls)) ⟨_, rfl, tw9, hN9, e9⟩ (fun i σ H' _ ⟨_, _, _, h, _⟩ => SqL.of h) ?_ ?_⟩
  · rintro i v σ Ha hi ⟨v5, rfl, tw, hN, he⟩
    obtain ⟨x, rfl, hx⟩ := of_at_map hi
    have hxm := List.mem_of_getElem? hx
    obtain ⟨c, hc⟩ := hlx x hxm
    have hc2 : ntAt (dlvs P1 ls) x = some c := by rw [nt_nts (dlvs_nts _ _)]; exact hc
    have got := dlvs_in (P := P1) hxm hc
    obtain ⟨_, _, _, _, a5, a6⟩ := tw.a
    have a5 : PostAt K C_Post Ha t.p t.m t.n false (dlvs P1 ls) := a5
    obtain ⟨da, _, _, _, _, z0, _⟩ := id a5
    refine ⟨_, rfl, D, _, 0, .ref t.p, rfl, rfl, SqL.of tw.d, rfl, t.p, da, _, rfl, z0, pf_no (by decide +kernel), _, rfl, t.p, t.m, t.n, false, M1, _, x, rfl, a5, hm, (dls _).p, .inr ⟨c, hc2, fun Hb b _ hP => ⟨_, rfl, ?_⟩⟩⟩
    rw [decide_eq_true got]
    have np := mkt_ne a5 a6
    have hP : PostAt K C_Post Hb t.p t.m t.n false (dlvs P1 ls) := by rw [← dlv_again got]; exact hP
    exact iteF ⟨_, rfl, tw.fst dis (T := (M1, _)) (FrP.barp b) hP (MktAt.bar2 z0 np a5.isl (bar2_bar b) a6), b _ _ (fun e => by rw [e, z0] at hN; cases hN) hN, he.bar z0 b⟩
  rintro σ Ha ⟨v5, rfl, twa, _, hea⟩
  obtain ⟨_, _, _, _, a5, a6⟩ := twa.a
  refine ⟨_, rfl, D, _, 0, .ref t.p, rfl, rfl, SqL.of twa.d, rfl, t.p, t.m, t.n, false, M1, _, rfl, a5, a6, dls _, fun w4 Hb sb eb => ⟨_, rfl, _, _, dp_es eb, dp_es (hea.same sb), shp_es dk.g _, shp_es dk.g _, ?_⟩⟩
  rw [SeqAt.eqv_refl _ (SeqAt.canLay_of_shaped (shp_es dk.g _))]
  exact q Hb

end
end Sd
/-! ### the end -/
namespace Sd
open PySem PySem.Spec PyProof.Rows L2
theorem all_mk {l : PySem.W.OpenLaw} {w : World} {K : PySem.W.Frag} {h : Heap} {mg : Str → Option Value} {fa f1 f2 f3 f4 f5 f6 f7 f8 f9 f10 f11 f12 f13 f14 f15 f16 f17 f18 f19 f20 f21 f22 f23 f24 f25 f26 f27 f28 f29 f30 f31 f32 f33 f34 f35 f36 f37 f38 f39 f40 f41 f42 f43 f44 f45 f46 f47 f48 f49 f50 f51 f52 f53 f54 f55 f56 f57 f58 f59 f60 f61 f62 f63 f64 f65 f66 f67 f68 f69 C_BadName C_BadCover C_BadPanel C_BadAmount C_NameTaken C_NoSuchName C_NoSuchNotice C_Twice C_OwnPanel C_TooMany C_NoEnd C_Post C_Market N_NOTHING : Addr} (X : K.In h) (G : h.Ns mainGlobals mg) (hfa : mg "law" = some (.ref fa))
    {od1 an1 : Option Addr} {sl1 : Array (Option Value)} {oc1 kV1 dc1 pm1 cd1 ct1 : Value}
    {od2 an2 : Option Addr} {sl2 : Array (Option Value)} {oc2 kV2 dc2 pm2 cd2 ct2 : Value}
    {od3 an3 : Option Addr} {sl3 : Array (Option Value)} {oc3 kV3 dc3 pm3 cd3 ct3 : Value}
    {od4 an4 : Option Addr} {sl4 : Array (Option Value)} {oc4 kV4 dc4 pm4 cd4 ct4 : Value}
    {od5 an5 : Option Addr} {sl5 : Array (Option Value)} {oc5 kV5 dc5 pm5 cd5 ct5 : Value}
    {od6 an6 : Option Addr} {sl6 : Array (Option Value)} {oc6 kV6 dc6 pm6 cd6 ct6 : Value}
    {od7 an7 : Option Addr} {sl7 : Array (Option Value)} {oc7 kV7 dc7 pm7 cd7 ct7 : Value}
    {od8 an8 : Option Addr} {sl8 : Array (Option Value)} {oc8 kV8 dc8 pm8 cd8 ct8 : Value}
    {od9 an9 : Option Addr} {sl9 : Array (Option Value)} {oc9 kV9 dc9 pm9 cd9 ct9 : Value}
    {od10 an10 : Option Addr} {sl10 : Array (Option Value)} {oc10 kV10 dc10 pm10 cd10 ct10 : Value}
    {od11 an11 : Option Addr} {sl11 : Array (Option Value)} {oc11 kV11 dc11 pm11 cd11 ct11 : Value}
    {od12 an12 : Option Addr} {sl12 : Array (Option Value)} {oc12 kV12 dc12 pm12 cd12 ct12 : Value}
    {od13 an13 : Option Addr} {sl13 : Array (Option Value)} {oc13 kV13 dc13 pm13 cd13 ct13 : Value}
    {od14 an14 : Option Addr} {sl14 : Array (Option Value)} {oc14 kV14 dc14 pm14 cd14 ct14 : Value}
    {od15 an15 : Option Addr} {sl15 : Array (Option Value)} {oc15 kV15 dc15 pm15 cd15 ct15 : Value}
    {od16 an16 : Option Addr} {sl16 : Array (Option Value)} {oc16 kV16 dc16 pm16 cd16 ct16 : Value}
    {od17 an17 : Option Addr} {sl17 : Array (Option Value)} {oc17 kV17 dc17 pm17 cd17 ct17 : Value}
    {od18 an18 : Option Addr} {sl18 : Array (Option Value)} {oc18 kV18 dc18 pm18 cd18 ct18 : Value}
    {od19 an19 : Option Addr} {sl19 : Array (Option Value)} {oc19 kV19 dc19 pm19 cd19 ct19 : Value}
    {od20 an20 : Option Addr} {sl20 : Array (Option Value)} {oc20 kV20 dc20 pm20 cd20 ct20 : Value}
    {od21 an21 : Option Addr} {sl21 : Array (Option Value)} {oc21 kV21 dc21 pm21 cd21 ct21 : Value}
    {od22 an22 : Option Addr} {sl22 : Array (Option Value)} {oc22 kV22 dc22 pm22 cd22 ct22 : Value}
    {od23 an23 : Option Addr} {sl23 : Array (Option Value)} {oc23 kV23 dc23 pm23 cd23 ct23 : Value}
    {od24 an24 : Option Addr} {sl24 : Array (Option Value)} {oc24 kV24 dc24 pm24 cd24 ct24 : Value}
    {od25 an25 : Option Addr} {sl25 : Array (Option Value)} {oc25 kV25 dc25 pm25 cd25 ct25 : Value}
    {od26 an26 : Option Addr} {sl26 : Array (Option Value)} {oc26 kV26 dc26 pm26 cd26 ct26 : Value}
    {od27 an27 : Option Addr} {sl27 : Array (Option Value)} {oc27 kV27 dc27 pm27 cd27 ct27 : Value}
    {od28 an28 : Option Addr} {sl28 : Array (Option Value)} {oc28 kV28 dc28 pm28 cd28 ct28 : Value}
    {od29 an29 : Option Addr} {sl29 : Array (Option Value)} {oc29 kV29 dc29 pm29 cd29 ct29 : Value}
    {od30 an30 : Option Addr} {sl30 : Array (Option Value)} {oc30 kV30 dc30 pm30 cd30 ct30 : Value}
    {od31 an31 : Option Addr} {sl31 : Array (Option Value)} {oc31 kV31 dc31 pm31 cd31 ct31 : Value}
    {od32 an32 : Option Addr} {sl32 : Array (Option Value)} {oc32 kV32 dc32 pm32 cd32 ct32 : Value}
    {od33 an33 : Option Addr} {sl33 : Array (Option Value)} {oc33 kV33 dc33 pm33 cd33 ct33 : Value}
    {od34 an34 : Option Addr} {sl34 : Array (Option Value)} {oc34 kV34 dc34 pm34 cd34 ct34 : Value}
    {od35 an35 : Option Addr} {sl35 : Array (Option Value)} {oc35 kV35 dc35 pm35 cd35 ct35 : Value}
    {od36 an36 : Option Addr} {sl36 : Array (Option Value)} {oc36 kV36 dc36 pm36 cd36 ct36 : Value}
    {od37 an37 : Option Addr} {sl37 : Array (Option Value)} {oc37 kV37 dc37 pm37 cd37 ct37 : Value}
    {od38 an38 : Option Addr} {sl38 : Array (Option Value)} {oc38 kV38 dc38 pm38 cd38 ct38 : Value}
    {od39 an39 : Option Addr} {sl39 : Array (Option Value)} {oc39 kV39 dc39 pm39 cd39 ct39 : Value}
    {od40 an40 : Option Addr} {sl40 : Array (Option Value)} {oc40 kV40 dc40 pm40 cd40 ct40 : Value}
    {od41 an41 : Option Addr} {sl41 : Array (Option Value)} {oc41 kV41 dc41 pm41 cd41 ct41 : Value}
    {od42 an42 : Option Addr} {sl42 : Array (Option Value)} {oc42 kV42 dc42 pm42 cd42 ct42 : Value}
    {od43 an43 : Option Addr} {sl43 : Array (Option Value)} {oc43 kV43 dc43 pm43 cd43 ct43 : Value}
    {od44 an44 : Option Addr} {sl44 : Array (Option Value)} {oc44 kV44 dc44 pm44 cd44 ct44 : Value}
    {od45 an45 : Option Addr} {sl45 : Array (Option Value)} {oc45 kV45 dc45 pm45 cd45 ct45 : Value}
    {od46 an46 : Option Addr} {sl46 : Array (Option Value)} {oc46 kV46 dc46 pm46 cd46 ct46 : Value}
    {od47 an47 : Option Addr} {sl47 : Array (Option Value)} {oc47 kV47 dc47 pm47 cd47 ct47 : Value}
    {od48 an48 : Option Addr} {sl48 : Array (Option Value)} {oc48 kV48 dc48 pm48 cd48 ct48 : Value}
    {od49 an49 : Option Addr} {sl49 : Array (Option Value)} {oc49 kV49 dc49 pm49 cd49 ct49 : Value}
    {od50 an50 : Option Addr} {sl50 : Array (Option Value)} {oc50 kV50 dc50 pm50 cd50 ct50 : Value}
    {od51 an51 : Option Addr} {sl51 : Array (Option Value)} {oc51 kV51 dc51 pm51 cd51 ct51 : Value}
    {od52 an52 : Option Addr} {sl52 : Array (Option Value)} {oc52 kV52 dc52 pm52 cd52 ct52 : Value}
    {od53 an53 : Option Addr} {sl53 : Array (Option Value)} {oc53 kV53 dc53 pm53 cd53 ct53 : Value}
    {od54 an54 : Option Addr} {sl54 : Array (Option Value)} {oc54 kV54 dc54 pm54 cd54 ct54 : Value}
    {od55 an55 : Option Addr} {sl55 : Array (Option Value)} {oc55 kV55 dc55 pm55 cd55 ct55 : Value}
    {od56 an56 : Option Addr} {sl56 : Array (Option Value)} {oc56 kV56 dc56 pm56 cd56 ct56 : Value}
    {od57 an57 : Option Addr} {sl57 : Array (Option Value)} {oc57 kV57 dc57 pm57 cd57 ct57 : Value}
    {od58 an58 : Option Addr} {sl58 : Array (Option Value)} {oc58 kV58 dc58 pm58 cd58 ct58 : Value}
    {od59 an59 : Option Addr} {sl59 : Array (Option Value)} {oc59 kV59 dc59 pm59 cd59 ct59 : Value}
    {od60 an60 : Option Addr} {sl60 : Array (Option Value)} {oc60 kV60 dc60 pm60 cd60 ct60 : Value}
    {od61 an61 : Option Addr} {sl61 : Array (Option Value)} {oc61 kV61 dc61 pm61 cd61 ct61 : Value}
    {od62 an62 : Option Addr} {sl62 : Array (Option Value)} {oc62 kV62 dc62 pm62 cd62 ct62 : Value}
    {od63 an63 : Option Addr} {sl63 : Array (Option Value)} {oc63 kV63 dc63 pm63 cd63 ct63 : Value}
    {od64 an64 : Option Addr} {sl64 : Array (Option Value)} {oc64 kV64 dc64 pm64 cd64 ct64 : Value}
    {od65 an65 : Option Addr} {sl65 : Array (Option Value)} {oc65 kV65 dc65 pm65 cd65 ct65 : Value}
    {od66 an66 : Option Addr} {sl66 : Array (Option Value)} {oc66 kV66 dc66 pm66 cd66 ct66 : Value}
    {od67 an67 : Option Addr} {sl67 : Array (Option Value)} {oc67 kV67 dc67 pm67 cd67 ct67 : Value}
    {od68 an68 : Option Addr} {sl68 : Array (Option Value)} {oc68 kV68 dc68 pm68 cd68 ct68 : Value}
    {od69 an69 : Option Addr} {sl69 : Array (Option Value)} {oc69 kV69 dc69 pm69 cd69 ct69 : Value}
    (a1 : PySem.W.findIn K (.ref C_NameTaken) "__init__" = some (some (.ref f1))) (i1 : PySem.W.typeIn K (.ref f1) = some (.type "function")) (l1 : K.lookup f1 = some ⟨oc1, od1, .func (PySem.W.fnOf "__init__" "NameTaken.__init__" (defArgs s_NameTaken___init) (defBody s_NameTaken___init) (defScope s_NameTaken___init) .none kV1 dc1 pm1 an1 cd1 ct1), sl1⟩) (c1 : PySem.W.codeIn K cd1 "NameTaken.__init__" = true) (k1 : PySem.W.keepIn K (.ref f1) = true)
    (a2 : PySem.W.findIn K (.ref C_NoSuchName) "__init__" = some (some (.ref f2))) (i2 : PySem.W.typeIn K (.ref f2) = some (.type "function")) (l2 : K.lookup f2 = some ⟨oc2, od2, .func (PySem.W.fnOf "__init__" "NoSuchName.__init__" (defArgs s_NoSuchName___init) (defBody s_NoSuchName___init) (defScope s_NoSuchName___init) .none kV2 dc2 pm2 an2 cd2 ct2), sl2⟩) (c2 : PySem.W.codeIn K cd2 "NoSuchName.__init__" = true) (k2 : PySem.W.keepIn K (.ref f2) = true)
    (a3 : PySem.W.findIn K (.ref C_NoSuchNotice) "__init__" = some (some (.ref f3))) (i3 : PySem.W.typeIn K (.ref f3) = some (.type "function")) (l3 : K.lookup f3 = some ⟨oc3, od3, .func (PySem.W.fnOf "__init__" "NoSuchNotice.__init__" (defArgs s_NoSuchNotice___init) (defBody s_NoSuchNotice___init) (defScope s_NoSuchNotice___init) .none kV3 dc3 pm3 an3 cd3 ct3), sl3⟩) (c3 : PySem.W.codeIn K cd3 "NoSuchNotice.__init__" = true) (k3 : PySem.W.keepIn K (.ref f3) = true)
    (a4 : PySem.W.nsIn K mainGlobals "is_between" = some (some (.ref f4))) (l4 : K.lookup f4 = some ⟨oc4, od4, .func (PySem.W.fnOf "is_between" "is_between" (defArgs s_is_between) (defBody s_is_between) (defScope s_is_between) .none kV4 dc4 pm4 an4 cd4 ct4), sl4⟩) (c4 : PySem.W.codeIn K cd4 "is_between" = true) (k4 : PySem.W.keepIn K (.ref f4) = true)
    (a5 : PySem.W.nsIn K mainGlobals "is_name" = some (some (.ref f5))) (l5 : K.lookup f5 = some ⟨oc5, od5, .func (PySem.W.fnOf "is_name" "is_name" (defArgs s_is_name) (defBody s_is_name) (defScope s_is_name) .none kV5 dc5 pm5 an5 cd5 ct5), sl5⟩) (c5 : PySem.W.codeIn K cd5 "is_name" = true) (k5 : PySem.W.keepIn K (.ref f5) = true)
    (a6 : PySem.W.nsIn K mainGlobals "check_name" = some (some (.ref f6))) (l6 : K.lookup f6 = some ⟨oc6, od6, .func (PySem.W.fnOf "check_name" "check_name" (defArgs s_check_name) (defBody s_check_name) (defScope s_check_name) .none kV6 dc6 pm6 an6 cd6 ct6), sl6⟩) (c6 : PySem.W.codeIn K cd6 "check_name" = true) (k6 : PySem.W.keepIn K (.ref f6) = true)
    (a7 : PySem.W.nsIn K mainGlobals "check_known" = some (some (.ref f7))) (l7 : K.lookup f7 = some ⟨oc7, od7, .func (PySem.W.fnOf "check_known" "check_known" (defArgs s_check_known) (defBody s_check_known) (defScope s_check_known) .none kV7 dc7 pm7 an7 cd7 ct7), sl7⟩) (c7 : PySem.W.codeIn K cd7 "check_known" = true) (k7 : PySem.W.keepIn K (.ref f7) = true)
    (a8 : PySem.W.nsIn K mainGlobals "check_names" = some (some (.ref f8))) (l8 : K.lookup f8 = some ⟨oc8, od8, .func (PySem.W.fnOf "check_names" "check_names" (defArgs s_check_names) (defBody s_check_names) (defScope s_check_names) .none kV8 dc8 pm8 an8 cd8 ct8), sl8⟩) (c8 : PySem.W.codeIn K cd8 "check_names" = true) (k8 : PySem.W.keepIn K (.ref f8) = true)
    (a9 : PySem.W.nsIn K mainGlobals "is_entry" = some (some (.ref f9))) (l9 : K.lookup f9 = some ⟨oc9, od9, .func (PySem.W.fnOf "is_entry" "is_entry" (defArgs s_is_entry) (defBody s_is_entry) (defScope s_is_entry) .none kV9 dc9 pm9 an9 cd9 ct9), sl9⟩) (c9 : PySem.W.codeIn K cd9 "is_entry" = true) (k9 : PySem.W.keepIn K (.ref f9) = true)
    (a10 : PySem.W.nsIn K mainGlobals "is_panel" = some (some (.ref f10))) (l10 : K.lookup f10 = some ⟨oc10, od10, .func (PySem.W.fnOf "is_panel" "is_panel" (defArgs s_is_panel) (defBody s_is_panel) (defScope s_is_panel) .none kV10 dc10 pm10 an10 cd10 ct10), sl10⟩) (c10 : PySem.W.codeIn K cd10 "is_panel" = true) (k10 : PySem.W.keepIn K (.ref f10) = true)
    (a11 : PySem.W.nsIn K mainGlobals "check_panel" = some (some (.ref f11))) (l11 : K.lookup f11 = some ⟨oc11, od11, .func (PySem.W.fnOf "check_panel" "check_panel" (defArgs s_check_panel) (defBody s_check_panel) (defScope s_check_panel) .none kV11 dc11 pm11 an11 cd11 ct11), sl11⟩) (c11 : PySem.W.codeIn K cd11 "check_panel" = true) (k11 : PySem.W.keepIn K (.ref f11) = true)
    (a12 : PySem.W.nsIn K mainGlobals "allocate" = some (some (.ref f12))) (l12 : K.lookup f12 = some ⟨oc12, od12, .func (PySem.W.fnOf "allocate" "allocate" (defArgs s_allocate) (defBody s_allocate) (defScope s_allocate) .none kV12 dc12 pm12 an12 cd12 ct12), sl12⟩) (c12 : PySem.W.codeIn K cd12 "allocate" = true) (k12 : PySem.W.keepIn K (.ref f12) = true)
    (a13 : PySem.W.nsIn K mainGlobals "is_cover" = some (some (.ref f13))) (l13 : K.lookup f13 = some ⟨oc13, od13, .func (PySem.W.fnOf "is_cover" "is_cover" (defArgs s_is_cover) (defBody s_is_cover) (defScope s_is_cover) .none kV13 dc13 pm13 an13 cd13 ct13), sl13⟩) (c13 : PySem.W.codeIn K cd13 "is_cover" = true) (k13 : PySem.W.keepIn K (.ref f13) = true)
    (a14 : PySem.W.nsIn K mainGlobals "check_cover" = some (some (.ref f14))) (l14 : K.lookup f14 = some ⟨oc14, od14, .func (PySem.W.fnOf "check_cover" "check_cover" (defArgs s_check_cover) (defBody s_check_cover) (defScope s_check_cover) .none kV14 dc14 pm14 an14 cd14 ct14), sl14⟩) (c14 : PySem.W.codeIn K cd14 "check_cover" = true) (k14 : PySem.W.keepIn K (.ref f14) = true)
    (a15 : PySem.W.nsIn K mainGlobals "recovery" = some (some (.ref f15))) (l15 : K.lookup f15 = some ⟨oc15, od15, .func (PySem.W.fnOf "recovery" "recovery" (defArgs s_recovery) (defBody s_recovery) (defScope s_recovery) .none kV15 dc15 pm15 an15 cd15 ct15), sl15⟩) (c15 : PySem.W.codeIn K cd15 "recovery" = true) (k15 : PySem.W.keepIn K (.ref f15) = true)
    (a16 : PySem.W.nsIn K mainGlobals "programme" = some (some (.ref f16))) (l16 : K.lookup f16 = some ⟨oc16, od16, .func (PySem.W.fnOf "programme" "programme" (defArgs s_programme) (defBody s_programme) (defScope s_programme) .none kV16 dc16 pm16 an16 cd16 ct16), sl16⟩) (c16 : PySem.W.codeIn K cd16 "programme" = true) (k16 : PySem.W.keepIn K (.ref f16) = true)
    (a17 : PySem.W.nsIn K mainGlobals "active_covers" = some (some (.ref f17))) (l17 : K.lookup f17 = some ⟨oc17, od17, .func (PySem.W.fnOf "active_covers" "active_covers" (defArgs s_active_covers) (defBody s_active_covers) (defScope s_active_covers) .none kV17 dc17 pm17 an17 cd17 ct17), sl17⟩) (c17 : PySem.W.codeIn K cd17 "active_covers" = true) (k17 : PySem.W.keepIn K (.ref f17) = true)
    (a18 : PySem.W.nsIn K mainGlobals "cede" = some (some (.ref f18))) (l18 : K.lookup f18 = some ⟨oc18, od18, .func (PySem.W.fnOf "cede" "cede" (defArgs s_cede) (defBody s_cede) (defScope s_cede) .none kV18 dc18 pm18 an18 cd18 ct18), sl18⟩) (c18 : PySem.W.codeIn K cd18 "cede" = true) (k18 : PySem.W.keepIn K (.ref f18) = true)
    (a19 : PySem.W.nsIn K mainGlobals "treaty_payments" = some (some (.ref f19))) (l19 : K.lookup f19 = some ⟨oc19, od19, .func (PySem.W.fnOf "treaty_payments" "treaty_payments" (defArgs s_treaty_payments) (defBody s_treaty_payments) (defScope s_treaty_payments) .none kV19 dc19 pm19 an19 cd19 ct19), sl19⟩) (c19 : PySem.W.codeIn K cd19 "treaty_payments" = true) (k19 : PySem.W.keepIn K (.ref f19) = true)
    (a20 : PySem.W.nsIn K mainGlobals "panel_parts" = some (some (.ref f20))) (l20 : K.lookup f20 = some ⟨oc20, od20, .func (PySem.W.fnOf "panel_parts" "panel_parts" (defArgs s_panel_parts) (defBody s_panel_parts) (defScope s_panel_parts) .none kV20 dc20 pm20 an20 cd20 ct20), sl20⟩) (c20 : PySem.W.codeIn K cd20 "panel_parts" = true) (k20 : PySem.W.keepIn K (.ref f20) = true)
    (a21 : PySem.W.nsIn K mainGlobals "part_of" = some (some (.ref f21))) (l21 : K.lookup f21 = some ⟨oc21, od21, .func (PySem.W.fnOf "part_of" "part_of" (defArgs s_part_of) (defBody s_part_of) (defScope s_part_of) .none kV21 dc21 pm21 an21 cd21 ct21), sl21⟩) (c21 : PySem.W.codeIn K cd21 "part_of" = true) (k21 : PySem.W.keepIn K (.ref f21) = true)
    (a22 : PySem.W.nsIn K mainGlobals "next_gross" = some (some (.ref f22))) (l22 : K.lookup f22 = some ⟨oc22, od22, .func (PySem.W.fnOf "next_gross" "next_gross" (defArgs s_next_gross) (defBody s_next_gross) (defScope s_next_gross) .none kV22 dc22 pm22 an22 cd22 ct22), sl22⟩) (c22 : PySem.W.codeIn K cd22 "next_gross" = true) (k22 : PySem.W.keepIn K (.ref f22) = true)
    (a23 : PySem.W.nsIn K mainGlobals "rounds_to_end" = some (some (.ref f23))) (l23 : K.lookup f23 = some ⟨oc23, od23, .func (PySem.W.fnOf "rounds_to_end" "rounds_to_end" (defArgs s_rounds_to_end) (defBody s_rounds_to_end) (defScope s_rounds_to_end) .none kV23 dc23 pm23 an23 cd23 ct23), sl23⟩) (c23 : PySem.W.codeIn K cd23 "rounds_to_end" = true) (k23 : PySem.W.keepIn K (.ref f23) = true)
    (a24 : PySem.W.nsIn K mainGlobals "packed" = some (some (.ref f24))) (l24 : K.lookup f24 = some ⟨oc24, od24, .func (PySem.W.fnOf "packed" "packed" (defArgs s_packed) (defBody s_packed) (defScope s_packed) .none kV24 dc24 pm24 an24 cd24 ct24), sl24⟩) (c24 : PySem.W.codeIn K cd24 "packed" = true) (k24 : PySem.W.keepIn K (.ref f24) = true)
    (a25 : PySem.W.nsIn K mainGlobals "own_treaties" = some (some (.ref f25))) (l25 : K.lookup f25 = some ⟨oc25, od25, .func (PySem.W.fnOf "own_treaties" "own_treaties" (defArgs s_own_treaties) (defBody s_own_treaties) (defScope s_own_treaties) .none kV25 dc25 pm25 an25 cd25 ct25), sl25⟩) (c25 : PySem.W.codeIn K cd25 "own_treaties" = true) (k25 : PySem.W.keepIn K (.ref f25) = true)
    (a26 : PySem.W.nsIn K mainGlobals "assumed_steps" = some (some (.ref f26))) (l26 : K.lookup f26 = some ⟨oc26, od26, .func (PySem.W.fnOf "assumed_steps" "assumed_steps" (defArgs s_assumed_steps) (defBody s_assumed_steps) (defScope s_assumed_steps) .none kV26 dc26 pm26 an26 cd26 ct26), sl26⟩) (c26 : PySem.W.codeIn K cd26 "assumed_steps" = true) (k26 : PySem.W.keepIn K (.ref f26) = true)
    (a27 : PySem.W.nsIn K mainGlobals "estimated_schedule" = some (some (.ref f27))) (l27 : K.lookup f27 = some ⟨oc27, od27, .func (PySem.W.fnOf "estimated_schedule" "estimated_schedule" (defArgs s_estimated_schedule) (defBody s_estimated_schedule) (defScope s_estimated_schedule) .none kV27 dc27 pm27 an27 cd27 ct27), sl27⟩) (c27 : PySem.W.codeIn K cd27 "estimated_schedule" = true) (k27 : PySem.W.keepIn K (.ref f27) = true)
    (a28 : PySem.W.nsIn K mainGlobals "current_schedules" = some (some (.ref f28))) (l28 : K.lookup f28 = some ⟨oc28, od28, .func (PySem.W.fnOf "current_schedules" "current_schedules" (defArgs s_current_schedules) (defBody s_current_schedules) (defScope s_current_schedules) .none kV28 dc28 pm28 an28 cd28 ct28), sl28⟩) (c28 : PySem.W.codeIn K cd28 "current_schedules" = true) (k28 : PySem.W.keepIn K (.ref f28) = true)
    (a29 : PySem.W.nsIn K mainGlobals "copied" = some (some (.ref f29))) (l29 : K.lookup f29 = some ⟨oc29, od29, .func (PySem.W.fnOf "copied" "copied" (defArgs s_copied) (defBody s_copied) (defScope s_copied) .none kV29 dc29 pm29 an29 cd29 ct29), sl29⟩) (c29 : PySem.W.codeIn K cd29 "copied" = true) (k29 : PySem.W.keepIn K (.ref f29) = true)
    (a30 : PySem.W.nsIn K mainGlobals "participants" = some (some (.ref f30))) (l30 : K.lookup f30 = some ⟨oc30, od30, .func (PySem.W.fnOf "participants" "participants" (defArgs s_participants) (defBody s_participants) (defScope s_participants) .none kV30 dc30 pm30 an30 cd30 ct30), sl30⟩) (c30 : PySem.W.codeIn K cd30 "participants" = true) (k30 : PySem.W.keepIn K (.ref f30) = true)
    (a31 : PySem.W.findIn K (.ref C_Post) "__init__" = some (some (.ref f31))) (i31 : PySem.W.isFn K (.ref f31) = true) (l31 : K.lookup f31 = some ⟨oc31, od31, .func (PySem.W.fnOf "__init__" "Post.__init__" (defArgs s_Post___init) (defBody s_Post___init) (defScope s_Post___init) .none kV31 dc31 pm31 an31 cd31 ct31), sl31⟩) (c31 : PySem.W.codeIn K cd31 "Post.__init__" = true) (k31 : PySem.W.keepIn K (.ref f31) = true)
    (a32 : PySem.W.findIn K (.ref C_Post) "__len__" = some (some (.ref f32))) (i32 : PySem.W.isFn K (.ref f32) = true) (l32 : K.lookup f32 = some ⟨oc32, od32, .func (PySem.W.fnOf "__len__" "Post.__len__" (defArgs s_Post___len) (defBody s_Post___len) (defScope s_Post___len) .none kV32 dc32 pm32 an32 cd32 ct32), sl32⟩) (c32 : PySem.W.codeIn K cd32 "Post.__len__" = true) (k32 : PySem.W.keepIn K (.ref f32) = true)
    (a33 : PySem.W.findIn K (.ref C_Post) "__iter__" = some (some (.ref f33))) (i33 : PySem.W.isFn K (.ref f33) = true) (l33 : K.lookup f33 = some ⟨oc33, od33, .func (PySem.W.fnOf "__iter__" "Post.__iter__" (defArgs s_Post___iter) (defBody s_Post___iter) (defScope s_Post___iter) .none kV33 dc33 pm33 an33 cd33 ct33), sl33⟩) (c33 : PySem.W.codeIn K cd33 "Post.__iter__" = true) (k33 : PySem.W.keepIn K (.ref f33) = true)
    (a34 : PySem.W.findIn K (.ref C_Post) "send" = some (some (.ref f34))) (i34 : PySem.W.isFn K (.ref f34) = true) (l34 : K.lookup f34 = some ⟨oc34, od34, .func (PySem.W.fnOf "send" "Post.send" (defArgs s_Post_send) (defBody s_Post_send) (defScope s_Post_send) .none kV34 dc34 pm34 an34 cd34 ct34), sl34⟩) (c34 : PySem.W.codeIn K cd34 "Post.send" = true) (k34 : PySem.W.keepIn K (.ref f34) = true)
    (a35 : PySem.W.findIn K (.ref C_Post) "resend" = some (some (.ref f35))) (i35 : PySem.W.isFn K (.ref f35) = true) (l35 : K.lookup f35 = some ⟨oc35, od35, .func (PySem.W.fnOf "resend" "Post.resend" (defArgs s_Post_resend) (defBody s_Post_resend) (defScope s_Post_resend) .none kV35 dc35 pm35 an35 cd35 ct35), sl35⟩) (c35 : PySem.W.codeIn K cd35 "Post.resend" = true) (k35 : PySem.W.keepIn K (.ref f35) = true)
    (a36 : PySem.W.findIn K (.ref C_Post) "deliver" = some (some (.ref f36))) (i36 : PySem.W.isFn K (.ref f36) = true) (l36 : K.lookup f36 = some ⟨oc36, od36, .func (PySem.W.fnOf "deliver" "Post.deliver" (defArgs s_Post_deliver) (defBody s_Post_deliver) (defScope s_Post_deliver) .none kV36 dc36 pm36 an36 cd36 ct36), sl36⟩) (c36 : PySem.W.codeIn K cd36 "Post.deliver" = true) (k36 : PySem.W.keepIn K (.ref f36) = true)
    (a37 : PySem.W.findIn K (.ref C_Post) "drop" = some (some (.ref f37))) (i37 : PySem.W.isFn K (.ref f37) = true) (l37 : K.lookup f37 = some ⟨oc37, od37, .func (PySem.W.fnOf "drop" "Post.drop" (defArgs s_Post_drop) (defBody s_Post_drop) (defScope s_Post_drop) .none kV37 dc37 pm37 an37 cd37 ct37), sl37⟩) (c37 : PySem.W.codeIn K cd37 "Post.drop" = true) (k37 : PySem.W.keepIn K (.ref f37) = true)
    (a38 : PySem.W.findIn K (.ref C_Post) "notice" = some (some (.ref f38))) (i38 : PySem.W.isFn K (.ref f38) = true) (l38 : K.lookup f38 = some ⟨oc38, od38, .func (PySem.W.fnOf "notice" "Post.notice" (defArgs s_Post_notice) (defBody s_Post_notice) (defScope s_Post_notice) .none kV38 dc38 pm38 an38 cd38 ct38), sl38⟩) (c38 : PySem.W.codeIn K cd38 "Post.notice" = true) (k38 : PySem.W.keepIn K (.ref f38) = true)
    (a39 : PySem.W.findIn K (.ref C_Post) "estimated" = some (some (.ref f39))) (i39 : PySem.W.isFn K (.ref f39) = true) (l39 : K.lookup f39 = some ⟨oc39, od39, .func (PySem.W.fnOf "estimated" "Post.estimated" (defArgs s_Post_estimated) (defBody s_Post_estimated) (defScope s_Post_estimated) .none kV39 dc39 pm39 an39 cd39 ct39), sl39⟩) (c39 : PySem.W.codeIn K cd39 "Post.estimated" = true) (k39 : PySem.W.keepIn K (.ref f39) = true)
    (a40 : PySem.W.findIn K (.ref C_Post) "pending" = some (some (.ref f40))) (i40 : PySem.W.isFn K (.ref f40) = true) (l40 : K.lookup f40 = some ⟨oc40, od40, .func (PySem.W.fnOf "pending" "Post.pending" (defArgs s_Post_pending) (defBody s_Post_pending) (defScope s_Post_pending) .none kV40 dc40 pm40 an40 cd40 ct40), sl40⟩) (c40 : PySem.W.codeIn K cd40 "Post.pending" = true) (k40 : PySem.W.keepIn K (.ref f40) = true)
    (a41 : PySem.W.findIn K (.ref C_Post) "is_quiet" = some (some (.ref f41))) (i41 : PySem.W.isFn K (.ref f41) = true) (l41 : K.lookup f41 = some ⟨oc41, od41, .func (PySem.W.fnOf "is_quiet" "Post.is_quiet" (defArgs s_Post_is_quiet) (defBody s_Post_is_quiet) (defScope s_Post_is_quiet) .none kV41 dc41 pm41 an41 cd41 ct41), sl41⟩) (c41 : PySem.W.codeIn K cd41 "Post.is_quiet" = true) (k41 : PySem.W.keepIn K (.ref f41) = true)
    (a42 : PySem.W.findIn K (.ref C_Post) "_last_sequence" = some (some (.ref f42))) (i42 : PySem.W.isFn K (.ref f42) = true) (l42 : K.lookup f42 = some ⟨oc42, od42, .func (PySem.W.fnOf "_last_sequence" "Post._last_sequence" (defArgs s_Post__last_sequence) (defBody s_Post__last_sequence) (defScope s_Post__last_sequence) .none kV42 dc42 pm42 an42 cd42 ct42), sl42⟩) (c42 : PySem.W.codeIn K cd42 "Post._last_sequence" = true) (k42 : PySem.W.keepIn K (.ref f42) = true)
    (a43 : PySem.W.findIn K (.ref C_Post) "_received_sequence" = some (some (.ref f43))) (i43 : PySem.W.isFn K (.ref f43) = true) (l43 : K.lookup f43 = some ⟨oc43, od43, .func (PySem.W.fnOf "_received_sequence" "Post._received_sequence" (defArgs s_Post__received_sequence) (defBody s_Post__received_sequence) (defScope s_Post__received_sequence) .none kV43 dc43 pm43 an43 cd43 ct43), sl43⟩) (c43 : PySem.W.codeIn K cd43 "Post._received_sequence" = true) (k43 : PySem.W.keepIn K (.ref f43) = true)
    (a44 : PySem.W.findIn K (.ref C_Post) "_changes" = some (some (.ref f44))) (i44 : PySem.W.isFn K (.ref f44) = true) (l44 : K.lookup f44 = some ⟨oc44, od44, .func (PySem.W.fnOf "_changes" "Post._changes" (defArgs s_Post__changes) (defBody s_Post__changes) (defScope s_Post__changes) .none kV44 dc44 pm44 an44 cd44 ct44), sl44⟩) (c44 : PySem.W.codeIn K cd44 "Post._changes" = true) (k44 : PySem.W.keepIn K (.ref f44) = true)
    (a45 : PySem.W.findIn K (.ref C_Post) "_enter" = some (some (.ref f45))) (i45 : PySem.W.isFn K (.ref f45) = true) (l45 : K.lookup f45 = some ⟨oc45, od45, .func (PySem.W.fnOf "_enter" "Post._enter" (defArgs s_Post__enter) (defBody s_Post__enter) (defScope s_Post__enter) .none kV45 dc45 pm45 an45 cd45 ct45), sl45⟩) (c45 : PySem.W.codeIn K cd45 "Post._enter" = true) (k45 : PySem.W.keepIn K (.ref f45) = true)
    (a46 : PySem.W.findIn K (.ref C_Post) "_take_notices" = some (some (.ref f46))) (i46 : PySem.W.isFn K (.ref f46) = true) (l46 : K.lookup f46 = some ⟨oc46, od46, .func (PySem.W.fnOf "_take_notices" "Post._take_notices" (defArgs s_Post__take_notices) (defBody s_Post__take_notices) (defScope s_Post__take_notices) .none kV46 dc46 pm46 an46 cd46 ct46), sl46⟩) (c46 : PySem.W.codeIn K cd46 "Post._take_notices" = true) (k46 : PySem.W.keepIn K (.ref f46) = true)
    (a47 : PySem.W.findIn K (.ref C_Post) "_is_worth" = some (some (.ref f47))) (i47 : PySem.W.isFn K (.ref f47) = true) (l47 : K.lookup f47 = some ⟨oc47, od47, .func (PySem.W.fnOf "_is_worth" "Post._is_worth" (defArgs s_Post__is_worth) (defBody s_Post__is_worth) (defScope s_Post__is_worth) .none kV47 dc47 pm47 an47 cd47 ct47), sl47⟩) (c47 : PySem.W.codeIn K cd47 "Post._is_worth" = true) (k47 : PySem.W.keepIn K (.ref f47) = true)
    (a48 : PySem.W.findIn K (.ref C_Post) "_is_told" = some (some (.ref f48))) (i48 : PySem.W.isFn K (.ref f48) = true) (l48 : K.lookup f48 = some ⟨oc48, od48, .func (PySem.W.fnOf "_is_told" "Post._is_told" (defArgs s_Post__is_told) (defBody s_Post__is_told) (defScope s_Post__is_told) .none kV48 dc48 pm48 an48 cd48 ct48), sl48⟩) (c48 : PySem.W.codeIn K cd48 "Post._is_told" = true) (k48 : PySem.W.keepIn K (.ref f48) = true)
    (a49 : PySem.W.nsIn K mainGlobals "check_new_name" = some (some (.ref f49))) (l49 : K.lookup f49 = some ⟨oc49, od49, .func (PySem.W.fnOf "check_new_name" "check_new_name" (defArgs s_check_new_name) (defBody s_check_new_name) (defScope s_check_new_name) .none kV49 dc49 pm49 an49 cd49 ct49), sl49⟩) (c49 : PySem.W.codeIn K cd49 "check_new_name" = true) (k49 : PySem.W.keepIn K (.ref f49) = true)
    (a50 : PySem.W.nsIn K mainGlobals "check_placed" = some (some (.ref f50))) (l50 : K.lookup f50 = some ⟨oc50, od50, .func (PySem.W.fnOf "check_placed" "check_placed" (defArgs s_check_placed) (defBody s_check_placed) (defScope s_check_placed) .none kV50 dc50 pm50 an50 cd50 ct50), sl50⟩) (c50 : PySem.W.codeIn K cd50 "check_placed" = true) (k50 : PySem.W.keepIn K (.ref f50) = true)
    (a51 : PySem.W.nsIn K mainGlobals "direct_losses" = some (some (.ref f51))) (l51 : K.lookup f51 = some ⟨oc51, od51, .func (PySem.W.fnOf "direct_losses" "direct_losses" (defArgs s_direct_losses) (defBody s_direct_losses) (defScope s_direct_losses) .none kV51 dc51 pm51 an51 cd51 ct51), sl51⟩) (c51 : PySem.W.codeIn K cd51 "direct_losses" = true) (k51 : PySem.W.keepIn K (.ref f51) = true)
    (a52 : PySem.W.findIn K (.ref C_Market) "__init__" = some (some (.ref f52))) (i52 : PySem.W.isFn K (.ref f52) = true) (l52 : K.lookup f52 = some ⟨oc52, od52, .func (PySem.W.fnOf "__init__" "Market.__init__" (defArgs s_Market___init) (defBody s_Market___init) (defScope s_Market___init) .none kV52 dc52 pm52 an52 cd52 ct52), sl52⟩) (c52 : PySem.W.codeIn K cd52 "Market.__init__" = true) (k52 : PySem.W.keepIn K (.ref f52) = true)
    (a53 : PySem.W.findIn K (.ref C_Market) "add_insurer" = some (some (.ref f53))) (i53 : PySem.W.isFn K (.ref f53) = true) (l53 : K.lookup f53 = some ⟨oc53, od53, .func (PySem.W.fnOf "add_insurer" "Market.add_insurer" (defArgs s_Market_add_insurer) (defBody s_Market_add_insurer) (defScope s_Market_add_insurer) .none kV53 dc53 pm53 an53 cd53 ct53), sl53⟩) (c53 : PySem.W.codeIn K cd53 "Market.add_insurer" = true) (k53 : PySem.W.keepIn K (.ref f53) = true)
    (a54 : PySem.W.findIn K (.ref C_Market) "add_event" = some (some (.ref f54))) (i54 : PySem.W.isFn K (.ref f54) = true) (l54 : K.lookup f54 = some ⟨oc54, od54, .func (PySem.W.fnOf "add_event" "Market.add_event" (defArgs s_Market_add_event) (defBody s_Market_add_event) (defScope s_Market_add_event) .none kV54 dc54 pm54 an54 cd54 ct54), sl54⟩) (c54 : PySem.W.codeIn K cd54 "Market.add_event" = true) (k54 : PySem.W.keepIn K (.ref f54) = true)
    (a55 : PySem.W.findIn K (.ref C_Market) "add_treaty" = some (some (.ref f55))) (i55 : PySem.W.isFn K (.ref f55) = true) (l55 : K.lookup f55 = some ⟨oc55, od55, .func (PySem.W.fnOf "add_treaty" "Market.add_treaty" (defArgs s_Market_add_treaty) (defBody s_Market_add_treaty) (defScope s_Market_add_treaty) .none kV55 dc55 pm55 an55 cd55 ct55), sl55⟩) (c55 : PySem.W.codeIn K cd55 "Market.add_treaty" = true) (k55 : PySem.W.keepIn K (.ref f55) = true)
    (a56 : PySem.W.findIn K (.ref C_Market) "set_loss" = some (some (.ref f56))) (i56 : PySem.W.isFn K (.ref f56) = true) (l56 : K.lookup f56 = some ⟨oc56, od56, .func (PySem.W.fnOf "set_loss" "Market.set_loss" (defArgs s_Market_set_loss) (defBody s_Market_set_loss) (defScope s_Market_set_loss) .none kV56 dc56 pm56 an56 cd56 ct56), sl56⟩) (c56 : PySem.W.codeIn K cd56 "Market.set_loss" = true) (k56 : PySem.W.keepIn K (.ref f56) = true)
    (a57 : PySem.W.findIn K (.ref C_Market) "direct" = some (some (.ref f57))) (i57 : PySem.W.isFn K (.ref f57) = true) (l57 : K.lookup f57 = some ⟨oc57, od57, .func (PySem.W.fnOf "direct" "Market.direct" (defArgs s_Market_direct) (defBody s_Market_direct) (defScope s_Market_direct) .none kV57 dc57 pm57 an57 cd57 ct57), sl57⟩) (c57 : PySem.W.codeIn K cd57 "Market.direct" = true) (k57 : PySem.W.keepIn K (.ref f57) = true)
    (a58 : PySem.W.findIn K (.ref C_Market) "_check_ends" = some (some (.ref f58))) (i58 : PySem.W.isFn K (.ref f58) = true) (l58 : K.lookup f58 = some ⟨oc58, od58, .func (PySem.W.fnOf "_check_ends" "Market._check_ends" (defArgs s_Market__check_ends) (defBody s_Market__check_ends) (defScope s_Market__check_ends) .none kV58 dc58 pm58 an58 cd58 ct58), sl58⟩) (c58 : PySem.W.codeIn K cd58 "Market._check_ends" = true) (k58 : PySem.W.keepIn K (.ref f58) = true)
    (a59 : PySem.W.nsIn K mainGlobals "_law_cell" = some (some (.ref f59))) (l59 : K.lookup f59 = some ⟨oc59, od59, .func (PySem.W.fnOf "_law_cell" "_law_cell" (defArgs s_law_cell) (defBody s_law_cell) (defScope s_law_cell) .none kV59 dc59 pm59 an59 cd59 ct59), sl59⟩) (c59 : PySem.W.codeIn K cd59 "_law_cell" = true) (k59 : PySem.W.keepIn K (.ref f59) = true)
    (a60 : PySem.W.nsIn K mainGlobals "_law_draws" = some (some (.ref f60))) (l60 : K.lookup f60 = some ⟨oc60, od60, .func (PySem.W.fnOf "_law_draws" "_law_draws" (defArgs s_law_draws) (defBody s_law_draws) (defScope s_law_draws) .none kV60 dc60 pm60 an60 cd60 ct60), sl60⟩) (c60 : PySem.W.codeIn K cd60 "_law_draws" = true) (k60 : PySem.W.keepIn K (.ref f60) = true)
    (a61 : PySem.W.nsIn K mainGlobals "_law_cover" = some (some (.ref f61))) (l61 : K.lookup f61 = some ⟨oc61, od61, .func (PySem.W.fnOf "_law_cover" "_law_cover" (defArgs s_law_cover) (defBody s_law_cover) (defScope s_law_cover) .none kV61 dc61 pm61 an61 cd61 ct61), sl61⟩) (c61 : PySem.W.codeIn K cd61 "_law_cover" = true) (k61 : PySem.W.keepIn K (.ref f61) = true)
    (a62 : PySem.W.nsIn K mainGlobals "_law_panel" = some (some (.ref f62))) (l62 : K.lookup f62 = some ⟨oc62, od62, .func (PySem.W.fnOf "_law_panel" "_law_panel" (defArgs s_law_panel) (defBody s_law_panel) (defScope s_law_panel) .none kV62 dc62 pm62 an62 cd62 ct62), sl62⟩) (c62 : PySem.W.codeIn K cd62 "_law_panel" = true) (k62 : PySem.W.keepIn K (.ref f62) = true)
    (a63 : PySem.W.nsIn K mainGlobals "_law_filled" = some (some (.ref f63))) (l63 : K.lookup f63 = some ⟨oc63, od63, .func (PySem.W.fnOf "_law_filled" "_law_filled" (defArgs s_law_filled) (defBody s_law_filled) (defScope s_law_filled) .none kV63 dc63 pm63 an63 cd63 ct63), sl63⟩) (c63 : PySem.W.codeIn K cd63 "_law_filled" = true) (k63 : PySem.W.keepIn K (.ref f63) = true)
    (a64 : PySem.W.nsIn K mainGlobals "_law_loss" = some (some (.ref f64))) (l64 : K.lookup f64 = some ⟨oc64, od64, .func (PySem.W.fnOf "_law_loss" "_law_loss" (defArgs s_law_loss) (defBody s_law_loss) (defScope s_law_loss) .none kV64 dc64 pm64 an64 cd64 ct64), sl64⟩) (c64 : PySem.W.codeIn K cd64 "_law_loss" = true) (k64 : PySem.W.keepIn K (.ref f64) = true)
    (a65 : PySem.W.nsIn K mainGlobals "_law_market" = some (some (.ref f65))) (l65 : K.lookup f65 = some ⟨oc65, od65, .func (PySem.W.fnOf "_law_market" "_law_market" (defArgs s_law_market) (defBody s_law_market) (defScope s_law_market) .none kV65 dc65 pm65 an65 cd65 ct65), sl65⟩) (c65 : PySem.W.codeIn K cd65 "_law_market" = true) (k65 : PySem.W.keepIn K (.ref f65) = true)
    (a66 : PySem.W.nsIn K mainGlobals "_law_deed" = some (some (.ref f66))) (l66 : K.lookup f66 = some ⟨oc66, od66, .func (PySem.W.fnOf "_law_deed" "_law_deed" (defArgs s_law_deed) (defBody s_law_deed) (defScope s_law_deed) .none kV66 dc66 pm66 an66 cd66 ct66), sl66⟩) (c66 : PySem.W.codeIn K cd66 "_law_deed" = true) (k66 : PySem.W.keepIn K (.ref f66) = true)
    (a67 : PySem.W.nsIn K mainGlobals "_law_deeds" = some (some (.ref f67))) (l67 : K.lookup f67 = some ⟨oc67, od67, .func (PySem.W.fnOf "_law_deeds" "_law_deeds" (defArgs s_law_deeds) (defBody s_law_deeds) (defScope s_law_deeds) .none kV67 dc67 pm67 an67 cd67 ct67), sl67⟩) (c67 : PySem.W.codeIn K cd67 "_law_deeds" = true) (k67 : PySem.W.keepIn K (.ref f67) = true)
    (a68 : PySem.W.nsIn K mainGlobals "_law_estimates" = some (some (.ref f68))) (l68 : K.lookup f68 = some ⟨oc68, od68, .func (PySem.W.fnOf "_law_estimates" "_law_estimates" (defArgs s_law_estimates) (defBody s_law_estimates) (defScope s_law_estimates) .none kV68 dc68 pm68 an68 cd68 ct68), sl68⟩) (c68 : PySem.W.codeIn K cd68 "_law_estimates" = true) (k68 : PySem.W.keepIn K (.ref f68) = true)
    (a69 : PySem.W.nsIn K mainGlobals "law" = some (some (.ref f69))) (l69 : K.lookup f69 = some ⟨oc69, od69, .func (PySem.W.fnOf "law" "law" (defArgs s_law) (defBody s_law) (defScope s_law) .none kV69 dc69 pm69 an69 cd69 ct69), sl69⟩) (c69 : PySem.W.codeIn K cd69 "law" = true) (k69 : PySem.W.keepIn K (.ref f69) = true)
    (z_isinstance : PySem.W.nsIn K mainGlobals "isinstance" = some none) (z_bool : PySem.W.nsIn K mainGlobals "bool" = some none) (z_int : PySem.W.nsIn K mainGlobals "int" = some none) (z_str : PySem.W.nsIn K mainGlobals "str" = some none) (z_len : PySem.W.nsIn K mainGlobals "len" = some none) (z_all : PySem.W.nsIn K mainGlobals "all" = some none) (z_tuple : PySem.W.nsIn K mainGlobals "tuple" = some none) (z_sum : PySem.W.nsIn K mainGlobals "sum" = some none) (z_divmod : PySem.W.nsIn K mainGlobals "divmod" = some none) (z_min : PySem.W.nsIn K mainGlobals "min" = some none) (z_max : PySem.W.nsIn K mainGlobals "max" = some none) (z_enumerate : PySem.W.nsIn K mainGlobals "enumerate" = some none) (z_zip : PySem.W.nsIn K mainGlobals "zip" = some none) (z_range : PySem.W.nsIn K mainGlobals "range" = some none) (z_any : PySem.W.nsIn K mainGlobals "any" = some none) (z_sorted : PySem.W.nsIn K mainGlobals "sorted" = some none) (z_iter : PySem.W.nsIn K mainGlobals "iter" = some none) (z_list : PySem.W.nsIn K mainGlobals "list" = some none) (z_set : PySem.W.nsIn K mainGlobals "set" = some none) (z_reversed : PySem.W.nsIn K mainGlobals "reversed" = some none) {t_MOST_LETTERS : Tok} (z_MOST_LETTERS : PySem.W.nsIn K mainGlobals "MOST_LETTERS" = some (some (.int 12 t_MOST_LETTERS))) {t_LETTERS : Tok} (z_LETTERS : PySem.W.nsIn K mainGlobals "LETTERS" = some (some (.str "abcdefghijklmnopqrstuvwxyz" t_LETTERS))) {t_MOST_SHARES : Tok} (z_MOST_SHARES : PySem.W.nsIn K mainGlobals "MOST_SHARES" = some (some (.int 100 t_MOST_SHARES))) {t_MOST_ENTRIES : Tok} (z_MOST_ENTRIES : PySem.W.nsIn K mainGlobals "MOST_ENTRIES" = some (some (.int 6 t_MOST_ENTRIES))) {t_WHOLE : Tok} (z_WHOLE : PySem.W.nsIn K mainGlobals "WHOLE" = some (some (.int 1000 t_WHOLE))) {t_MOST_RETENTION : Tok} (z_MOST_RETENTION : PySem.W.nsIn K mainGlobals "MOST_RETENTION" = some (some (.int 100000 t_MOST_RETENTION))) {t_MOST_LIMIT : Tok} (z_MOST_LIMIT : PySem.W.nsIn K mainGlobals "MOST_LIMIT" = some (some (.int 100000 t_MOST_LIMIT))) {t_LAST_ROUND : Tok} (z_LAST_ROUND : PySem.W.nsIn K mainGlobals "LAST_ROUND" = some (some (.int 200 t_LAST_ROUND))) {t_MOST_GROSS : Tok} (z_MOST_GROSS : PySem.W.nsIn K mainGlobals "MOST_GROSS" = some (some (.int 1000000000 t_MOST_GROSS))) (z_NOTHING : PySem.W.nsIn K mainGlobals "NOTHING" = some (some (.ref N_NOTHING))) {B_NOTHING : Addr} {tt_NOTHING : Tok} {da_NOTHING db_NOTHING : Option Addr} {na_NOTHING nb_NOTHING : Nat} {sa_NOTHING sb_NOTHING : Array (Option Value)} (ka_NOTHING : K.lookup N_NOTHING = some ⟨.type "tuple", da_NOTHING, .seq #[.int 0 tt_NOTHING, .ref B_NOTHING] na_NOTHING, sa_NOTHING⟩) (kb_NOTHING : K.lookup B_NOTHING = some ⟨.type "tuple", db_NOTHING, .seq #[] nb_NOTHING, sb_NOTHING⟩) {t_MOST_NOTICES : Tok} (z_MOST_NOTICES : PySem.W.nsIn K mainGlobals "MOST_NOTICES" = some (some (.int 2000 t_MOST_NOTICES))) {t_MOST_DIRECT : Tok} (z_MOST_DIRECT : PySem.W.nsIn K mainGlobals "MOST_DIRECT" = some (some (.int 100000 t_MOST_DIRECT)))
    (xg_BadName : PySem.W.nsIn K mainGlobals "BadName" = some (some (.ref C_BadName))) (xx_BadName : PySem.W.excIn K C_BadName [.type "ValueError", .type "Exception", .type "BaseException", .type "object"] "ValueError.__new__" = true) (xk_BadName : PySem.W.keepIn K (.ref C_BadName) = true) (xb_BadName : PySem.W.subIn K (.ref C_BadName) (.type "BaseException") = some true) (xt_BadName : PySem.W.typeIn K (.ref C_BadName) = some (.type "type")) (xd_BadName : PySem.W.hasDictIn K C_BadName = true) (xs_BadName : PySem.W.subIn K (.ref C_BadName) (.ref C_BadName) = some true)
    (xg_BadCover : PySem.W.nsIn K mainGlobals "BadCover" = some (some (.ref C_BadCover))) (xx_BadCover : PySem.W.excIn K C_BadCover [.type "ValueError", .type "Exception", .type "BaseException", .type "object"] "ValueError.__new__" = true) (xk_BadCover : PySem.W.keepIn K (.ref C_BadCover) = true) (xb_BadCover : PySem.W.subIn K (.ref C_BadCover) (.type "BaseException") = some true) (xt_BadCover : PySem.W.typeIn K (.ref C_BadCover) = some (.type "type")) (xd_BadCover : PySem.W.hasDictIn K C_BadCover = true) (xs_BadCover : PySem.W.subIn K (.ref C_BadCover) (.ref C_BadCover) = some true)
    (xg_BadPanel : PySem.W.nsIn K mainGlobals "BadPanel" = some (some (.ref C_BadPanel))) (xx_BadPanel : PySem.W.excIn K C_BadPanel [.type "ValueError", .type "Exception", .type "BaseException", .type "object"] "ValueError.__new__" = true) (xk_BadPanel : PySem.W.keepIn K (.ref C_BadPanel) = true) (xb_BadPanel : PySem.W.subIn K (.ref C_BadPanel) (.type "BaseException") = some true) (xt_BadPanel : PySem.W.typeIn K (.ref C_BadPanel) = some (.type "type")) (xd_BadPanel : PySem.W.hasDictIn K C_BadPanel = true) (xs_BadPanel : PySem.W.subIn K (.ref C_BadPanel) (.ref C_BadPanel) = some true)
    (xg_BadAmount : PySem.W.nsIn K mainGlobals "BadAmount" = some (some (.ref C_BadAmount))) (xx_BadAmount : PySem.W.excIn K C_BadAmount [.type "ValueError", .type "Exception", .type "BaseException", .type "object"] "ValueError.__new__" = true) (xk_BadAmount : PySem.W.keepIn K (.ref C_BadAmount) = true) (xb_BadAmount : PySem.W.subIn K (.ref C_BadAmount) (.type "BaseException") = some true) (xt_BadAmount : PySem.W.typeIn K (.ref C_BadAmount) = some (.type "type")) (xd_BadAmount : PySem.W.hasDictIn K C_BadAmount = true) (xs_BadAmount : PySem.W.subIn K (.ref C_BadAmount) (.ref C_BadAmount) = some true)
    (xg_Twice : PySem.W.nsIn K mainGlobals "Twice" = some (some (.ref C_Twice))) (xx_Twice : PySem.W.excIn K C_Twice [.type "ValueError", .type "Exception", .type "BaseException", .type "object"] "ValueError.__new__" = true) (xk_Twice : PySem.W.keepIn K (.ref C_Twice) = true) (xb_Twice : PySem.W.subIn K (.ref C_Twice) (.type "BaseException") = some true) (xt_Twice : PySem.W.typeIn K (.ref C_Twice) = some (.type "type")) (xd_Twice : PySem.W.hasDictIn K C_Twice = true) (xs_Twice : PySem.W.subIn K (.ref C_Twice) (.ref C_Twice) = some true)
    (xg_OwnPanel : PySem.W.nsIn K mainGlobals "OwnPanel" = some (some (.ref C_OwnPanel))) (xx_OwnPanel : PySem.W.excIn K C_OwnPanel [.type "ValueError", .type "Exception", .type "BaseException", .type "object"] "ValueError.__new__" = true) (xk_OwnPanel : PySem.W.keepIn K (.ref C_OwnPanel) = true) (xb_OwnPanel : PySem.W.subIn K (.ref C_OwnPanel) (.type "BaseException") = some true) (xt_OwnPanel : PySem.W.typeIn K (.ref C_OwnPanel) = some (.type "type")) (xd_OwnPanel : PySem.W.hasDictIn K C_OwnPanel = true) (xs_OwnPanel : PySem.W.subIn K (.ref C_OwnPanel) (.ref C_OwnPanel) = some true)
    (xg_TooMany : PySem.W.nsIn K mainGlobals "TooMany" = some (some (.ref C_TooMany))) (xx_TooMany : PySem.W.excIn K C_TooMany [.type "ValueError", .type "Exception", .type "BaseException", .type "object"] "ValueError.__new__" = true) (xk_TooMany : PySem.W.keepIn K (.ref C_TooMany) = true) (xb_TooMany : PySem.W.subIn K (.ref C_TooMany) (.type "BaseException") = some true) (xt_TooMany : PySem.W.typeIn K (.ref C_TooMany) = some (.type "type")) (xd_TooMany : PySem.W.hasDictIn K C_TooMany = true) (xs_TooMany : PySem.W.subIn K (.ref C_TooMany) (.ref C_TooMany) = some true)
    (xg_NoEnd : PySem.W.nsIn K mainGlobals "NoEnd" = some (some (.ref C_NoEnd))) (xx_NoEnd : PySem.W.excIn K C_NoEnd [.type "ValueError", .type "Exception", .type "BaseException", .type "object"] "ValueError.__new__" = true) (xk_NoEnd : PySem.W.keepIn K (.ref C_NoEnd) = true) (xb_NoEnd : PySem.W.subIn K (.ref C_NoEnd) (.type "BaseException") = some true) (xt_NoEnd : PySem.W.typeIn K (.ref C_NoEnd) = some (.type "type")) (xd_NoEnd : PySem.W.hasDictIn K C_NoEnd = true) (xs_NoEnd : PySem.W.subIn K (.ref C_NoEnd) (.ref C_NoEnd) = some true)
    (yg_NoEnd : PySem.W.findIn K (.ref C_NoEnd) "__getattribute__" = some (some (.builtin "BaseException.__getattribute__"))) (yk_NoEnd : PySem.W.findIn K (.ref C_NoEnd) "__getattr__" = some none) (ya_NoEnd : PySem.W.findIn K (.ref C_NoEnd) "__class__" = some (some (.builtin "object.__class__"))) (yn_NoEnd : PySem.W.specialIn K (.builtin "object.__class__") "__get__" = some (some (.builtin "getset_descriptor.__get__"))) (yt_NoEnd : PySem.W.takesIn K (.builtin "object.__class__") = some true) (ym_NoEnd : PySem.W.mroIn K C_NoEnd (.type "object") = some true)
    {nm_NameTaken q_NameTaken : Str} {N_NameTaken : Addr} {bs_NameTaken bm_NameTaken : List Value} {sn_NameTaken : List Str} {sub_NameTaken : List Value} {ab_NameTaken : Bool} {col_NameTaken : Option Bool} {dd_NameTaken : Option Addr} {m0_NameTaken m1_NameTaken m2_NameTaken m3_NameTaken m5_NameTaken : Option Value}
    (og_NameTaken : PySem.W.nsIn K mainGlobals "NameTaken" = some (some (.ref C_NameTaken))) (ol_NameTaken : K.lookup C_NameTaken = some (excClassObj nm_NameTaken q_NameTaken C_NameTaken N_NameTaken bs_NameTaken bm_NameTaken true sn_NameTaken sub_NameTaken ab_NameTaken col_NameTaken dd_NameTaken m0_NameTaken m1_NameTaken m2_NameTaken m3_NameTaken m5_NameTaken "ValueError.__new__")) (or_NameTaken : PySem.HandSPX.refsVE bm_NameTaken = true) (os_NameTaken : PySem.W.findIn K (.ref C_NameTaken) "__setattr__" = some (some (.builtin "object.__setattr__"))) (on_NameTaken : PySem.W.findIn K (.ref C_NameTaken) "name" = some none) (ok_NameTaken : PySem.W.keepIn K (.ref C_NameTaken) = true) (ob_NameTaken : PySem.W.subIn K (.ref C_NameTaken) (.type "BaseException") = some true) (ot_NameTaken : PySem.W.typeIn K (.ref C_NameTaken) = some (.type "type")) (od_NameTaken : PySem.W.hasDictIn K C_NameTaken = true) (oi_NameTaken : PySem.W.subIn K (.ref C_NameTaken) (.ref C_NameTaken) = some true)
    {nm_NoSuchName q_NoSuchName : Str} {N_NoSuchName : Addr} {bs_NoSuchName bm_NoSuchName : List Value} {sn_NoSuchName : List Str} {sub_NoSuchName : List Value} {ab_NoSuchName : Bool} {col_NoSuchName : Option Bool} {dd_NoSuchName : Option Addr} {m0_NoSuchName m1_NoSuchName m2_NoSuchName m3_NoSuchName m5_NoSuchName : Option Value}
    (og_NoSuchName : PySem.W.nsIn K mainGlobals "NoSuchName" = some (some (.ref C_NoSuchName))) (ol_NoSuchName : K.lookup C_NoSuchName = some (excClassObj nm_NoSuchName q_NoSuchName C_NoSuchName N_NoSuchName bs_NoSuchName bm_NoSuchName true sn_NoSuchName sub_NoSuchName ab_NoSuchName col_NoSuchName dd_NoSuchName m0_NoSuchName m1_NoSuchName m2_NoSuchName m3_NoSuchName m5_NoSuchName "ValueError.__new__")) (or_NoSuchName : PySem.HandSPX.refsVE bm_NoSuchName = true) (os_NoSuchName : PySem.W.findIn K (.ref C_NoSuchName) "__setattr__" = some (some (.builtin "object.__setattr__"))) (on_NoSuchName : PySem.W.findIn K (.ref C_NoSuchName) "name" = some none) (ok_NoSuchName : PySem.W.keepIn K (.ref C_NoSuchName) = true) (ob_NoSuchName : PySem.W.subIn K (.ref C_NoSuchName) (.type "BaseException") = some true) (ot_NoSuchName : PySem.W.typeIn K (.ref C_NoSuchName) = some (.type "type")) (od_NoSuchName : PySem.W.hasDictIn K C_NoSuchName = true) (oi_NoSuchName : PySem.W.subIn K (.ref C_NoSuchName) (.ref C_NoSuchName) = some true)
    {nm_NoSuchNotice q_NoSuchNotice : Str} {N_NoSuchNotice : Addr} {bs_NoSuchNotice bm_NoSuchNotice : List Value} {sn_NoSuchNotice : List Str} {sub_NoSuchNotice : List Value} {ab_NoSuchNotice : Bool} {col_NoSuchNotice : Option Bool} {dd_NoSuchNotice : Option Addr} {m0_NoSuchNotice m1_NoSuchNotice m2_NoSuchNotice m3_NoSuchNotice m5_NoSuchNotice : Option Value}
    (og_NoSuchNotice : PySem.W.nsIn K mainGlobals "NoSuchNotice" = some (some (.ref C_NoSuchNotice))) (ol_NoSuchNotice : K.lookup C_NoSuchNotice = some (excClassObj nm_NoSuchNotice q_NoSuchNotice C_NoSuchNotice N_NoSuchNotice bs_NoSuchNotice bm_NoSuchNotice true sn_NoSuchNotice sub_NoSuchNotice ab_NoSuchNotice col_NoSuchNotice dd_NoSuchNotice m0_NoSuchNotice m1_NoSuchNotice m2_NoSuchNotice m3_NoSuchNotice m5_NoSuchNotice "ValueError.__new__")) (or_NoSuchNotice : PySem.HandSPX.refsVE bm_NoSuchNotice = true) (os_NoSuchNotice : PySem.W.findIn K (.ref C_NoSuchNotice) "__setattr__" = some (some (.builtin "object.__setattr__"))) (on_NoSuchNotice : PySem.W.findIn K (.ref C_NoSuchNotice) "number" = some none) (ok_NoSuchNotice : PySem.W.keepIn K (.ref C_NoSuchNotice) = true) (ob_NoSuchNotice : PySem.W.subIn K (.ref C_NoSuchNotice) (.type "BaseException") = some true) (ot_NoSuchNotice : PySem.W.typeIn K (.ref C_NoSuchNotice) = some (.type "type")) (od_NoSuchNotice : PySem.W.hasDictIn K C_NoSuchNotice = true) (oi_NoSuchNotice : PySem.W.subIn K (.ref C_NoSuchNotice) (.ref C_NoSuchNotice) = some true)
    (cg_Post : PySem.W.nsIn K mainGlobals "Post" = some (some (.ref C_Post))) (cp_Post : PySem.W.plainGet K C_Post Str.empty = true) (ch_Post : PySem.W.hasDictIn K C_Post = true) (co_Post : PySem.W.plainOver K C_Post = true) (cs_Post : PySem.W.findIn K (.ref C_Post) "__setattr__" = some (some (.builtin "object.__setattr__"))) (cm_Post : PySem.W.makesIn K C_Post = true) (ck_Post : PySem.W.keepIn K (.ref C_Post) = true)
    (cn_Post_market : PySem.W.findIn K (.ref C_Post) "market" = some none)    (cn_Post_notices : PySem.W.findIn K (.ref C_Post) "notices" = some none)    (cn_Post_is_kept : PySem.W.findIn K (.ref C_Post) "is_kept" = some none)    (cn_Post_numbers : PySem.W.findIn K (.ref C_Post) "numbers" = some none)    (cn_Post_last : PySem.W.findIn K (.ref C_Post) "last" = some none)    (cn_Post_received : PySem.W.findIn K (.ref C_Post) "received" = some none)    (cn_Post_paid : PySem.W.findIn K (.ref C_Post) "paid" = some none)    (cg_Market : PySem.W.nsIn K mainGlobals "Market" = some (some (.ref C_Market))) (cp_Market : PySem.W.plainGet K C_Market Str.empty = true) (ch_Market : PySem.W.hasDictIn K C_Market = true) (co_Market : PySem.W.plainOver K C_Market = true) (cs_Market : PySem.W.findIn K (.ref C_Market) "__setattr__" = some (some (.builtin "object.__setattr__"))) (cm_Market : PySem.W.makesIn K C_Market = true) (ck_Market : PySem.W.keepIn K (.ref C_Market) = true)
    (cn_Market_insurers : PySem.W.findIn K (.ref C_Market) "insurers" = some none)    (cn_Market_events : PySem.W.findIn K (.ref C_Market) "events" = some none)    (cn_Market_treaties : PySem.W.findIn K (.ref C_Market) "treaties" = some none)    (cn_Market_losses : PySem.W.findIn K (.ref C_Market) "losses" = some none)    {ct_Market_MOST_INSURERS : Tok} (cc_Market_MOST_INSURERS : PySem.W.findIn K (.ref C_Market) "MOST_INSURERS" = some (some (.int 6 ct_Market_MOST_INSURERS))) (cd_Market_MOST_INSURERS : PySem.W.specialIn K (.int 6 ct_Market_MOST_INSURERS) "__get__" = some none)    {ct_Market_MOST_EVENTS : Tok} (cc_Market_MOST_EVENTS : PySem.W.findIn K (.ref C_Market) "MOST_EVENTS" = some (some (.int 3 ct_Market_MOST_EVENTS))) (cd_Market_MOST_EVENTS : PySem.W.specialIn K (.int 3 ct_Market_MOST_EVENTS) "__get__" = some none)    {ct_Market_MOST_TREATIES : Tok} (cc_Market_MOST_TREATIES : PySem.W.findIn K (.ref C_Market) "MOST_TREATIES" = some (some (.int 16 ct_Market_MOST_TREATIES))) (cd_Market_MOST_TREATIES : PySem.W.specialIn K (.int 16 ct_Market_MOST_TREATIES) "__get__" = some none)    :
    ∃ fd : FuncData, (∀ (s : Shared) (v : Value), BindsTo s fd ⟨[v], []⟩ [("script", v)]) ∧ ∀ base : Heap, K.In base → base.Ns mainGlobals mg → FnOk l.prog w K mg base CX0 12 fa fd ["script"] (sp_law K) := by
  have e := hfa.symm.trans (PySem.W.mg_of X G a69)
  cases e
  have T : Tx K mg C_BadName C_BadCover C_BadPanel C_BadAmount C_NameTaken C_NoSuchName C_NoSuchNotice C_Twice C_OwnPanel C_TooMany C_NoEnd C_Post C_Market N_NOTHING := ⟨PySem.W.mg_none_of X G z_isinstance, PySem.W.mg_none_of X G z_bool, PySem.W.mg_none_of X G z_int, PySem.W.mg_none_of X G z_str, PySem.W.mg_none_of X G z_len, PySem.W.mg_none_of X G z_all, PySem.W.mg_none_of X G z_tuple, PySem.W.mg_none_of X G z_sum, PySem.W.mg_none_of X G z_divmod, PySem.W.mg_none_of X G z_min, PySem.W.mg_none_of X G z_max, PySem.W.mg_none_of X G z_enumerate, PySem.W.mg_none_of X G z_zip, PySem.W.mg_none_of X G z_range, PySem.W.mg_none_of X G z_any, PySem.W.mg_none_of X G z_sorted, PySem.W.mg_none_of X G z_iter, PySem.W.mg_none_of X G z_list, PySem.W.mg_none_of X G z_set, PySem.W.mg_none_of X G z_reversed, ⟨_, PySem.W.mg_of X G z_MOST_LETTERS⟩, ⟨_, PySem.W.mg_of X G z_LETTERS⟩, ⟨_, PySem.W.mg_of X G z_MOST_SHARES⟩, ⟨_, PySem.W.mg_of X G z_MOST_ENTRIES⟩, ⟨_, PySem.W.mg_of X G z_WHOLE⟩, ⟨_, PySem.W.mg_of X G z_MOST_RETENTION⟩, ⟨_, PySem.W.mg_of X G z_MOST_LIMIT⟩, ⟨_, PySem.W.mg_of X G z_LAST_ROUND⟩, ⟨_, PySem.W.mg_of X G z_MOST_GROSS⟩, PySem.W.mg_of X G z_NOTHING, fun H => ⟨B_NOTHING, .inr ⟨_, _, _, ka_NOTHING, rfl, rfl, sz (by show 2 ≤ 100000; decide), .cons ⟨_, rfl⟩ (.cons rfl .nil)⟩, .inr ⟨_, _, _, kb_NOTHING, rfl, rfl, Nat.zero_le _, .nil⟩⟩, ⟨_, PySem.W.mg_of X G z_MOST_NOTICES⟩, ⟨_, PySem.W.mg_of X G z_MOST_DIRECT⟩, ⟨PySem.W.mg_of X G og_NameTaken, ⟨⟨_, _, _, _, _, _, _, _, _, _, _, _, _, _, _, ol_NameTaken, or_NameTaken⟩, os_NameTaken, ob_NameTaken, ot_NameTaken, ok_NameTaken⟩, on_NameTaken, PySem.W.exm_ref ob_NameTaken od_NameTaken ot_NameTaken oi_NameTaken⟩, ⟨PySem.W.mg_of X G og_NoSuchName, ⟨⟨_, _, _, _, _, _, _, _, _, _, _, _, _, _, _, ol_NoSuchName, or_NoSuchName⟩, os_NoSuchName, ob_NoSuchName, ot_NoSuchName, ok_NoSuchName⟩, on_NoSuchName, PySem.W.exm_ref ob_NoSuchName od_NoSuchName ot_NoSuchName oi_NoSuchName⟩, ⟨PySem.W.mg_of X G og_NoSuchNotice, ⟨⟨_, _, _, _, _, _, _, _, _, _, _, _, _, _, _, ol_NoSuchNotice, or_NoSuchNotice⟩, os_NoSuchNotice, ob_NoSuchNotice, ot_NoSuchNotice, ok_NoSuchNotice⟩, on_NoSuchNotice, PySem.W.exm_ref ob_NoSuchNotice od_NoSuchNotice ot_NoSuchNotice oi_NoSuchNotice⟩, ⟨cp_Post, ch_Post, co_Post, cs_Post⟩, PySem.W.mg_of X G cg_Post, cn_Post_market, cn_Post_notices, cn_Post_is_kept, cn_Post_numbers, cn_Post_last, cn_Post_received, cn_Post_paid, ⟨cp_Market, ch_Market, co_Market, cs_Market⟩, PySem.W.mg_of X G cg_Market, cn_Market_insurers, cn_Market_events, cn_Market_treaties, cn_Market_losses, ⟨_, cc_Market_MOST_INSURERS, ⟨_, rfl⟩, cd_Market_MOST_INSURERS, by decide +kernel⟩, ⟨_, cc_Market_MOST_EVENTS, ⟨_, rfl⟩, cd_Market_MOST_EVENTS, by decide +kernel⟩, ⟨_, cc_Market_MOST_TREATIES, ⟨_, rfl⟩, cd_Market_MOST_TREATIES, by decide +kernel⟩, ⟨PySem.W.mg_of X G xg_BadName, xx_BadName, xk_BadName, xb_BadName, xt_BadName, PySem.W.exm_ref xb_BadName xd_BadName xt_BadName xs_BadName⟩, ⟨PySem.W.mg_of X G xg_BadCover, xx_BadCover, xk_BadCover, xb_BadCover, xt_BadCover, PySem.W.exm_ref xb_BadCover xd_BadCover xt_BadCover xs_BadCover⟩, ⟨PySem.W.mg_of X G xg_BadPanel, xx_BadPanel, xk_BadPanel, xb_BadPanel, xt_BadPanel, PySem.W.exm_ref xb_BadPanel xd_BadPanel xt_BadPanel xs_BadPanel⟩, ⟨PySem.W.mg_of X G xg_BadAmount, xx_BadAmount, xk_BadAmount, xb_BadAmount, xt_BadAmount, PySem.W.exm_ref xb_BadAmount xd_BadAmount xt_BadAmount xs_BadAmount⟩, ⟨PySem.W.mg_of X G xg_Twice, xx_Twice, xk_Twice, xb_Twice, xt_Twice, PySem.W.exm_ref xb_Twice xd_Twice xt_Twice xs_Twice⟩, ⟨PySem.W.mg_of X G xg_OwnPanel, xx_OwnPanel, xk_OwnPanel, xb_OwnPanel, xt_OwnPanel, PySem.W.exm_ref xb_OwnPanel xd_OwnPanel xt_OwnPanel xs_OwnPanel⟩, ⟨PySem.W.mg_of X G xg_TooMany, xx_TooMany, xk_TooMany, xb_TooMany, xt_TooMany, PySem.W.exm_ref xb_TooMany xd_TooMany xt_TooMany xs_TooMany⟩, ⟨PySem.W.mg_of X G xg_NoEnd, xx_NoEnd, xk_NoEnd, xb_NoEnd, xt_NoEnd, PySem.W.exm_ref xb_NoEnd xd_NoEnd xt_NoEnd xs_NoEnd⟩, ⟨yg_NoEnd, yk_NoEnd, xb_NoEnd, xd_NoEnd, ya_NoEnd, yn_NoEnd, yt_NoEnd, ym_NoEnd⟩⟩
  have F1 := fun_mk (st := s_NameTaken___init) l1 c1 k1
  have D_NameTaken___init : Ini K C_NameTaken "NameTaken.__init__" s_NameTaken___init ["self", "name"] f1 _ := ⟨F1, F1.binds (ps := ["self", "name"]) fun _ _ _ _ _ _ us hl => match us, hl with | [_, _], _ => rfl, a1, i1⟩
  have F2 := fun_mk (st := s_NoSuchName___init) l2 c2 k2
  have D_NoSuchName___init : Ini K C_NoSuchName "NoSuchName.__init__" s_NoSuchName___init ["self", "name"] f2 _ := ⟨F2, F2.binds (ps := ["self", "name"]) fun _ _ _ _ _ _ us hl => match us, hl with | [_, _], _ => rfl, a2, i2⟩
  have F3 := fun_mk (st := s_NoSuchNotice___init) l3 c3 k3
  have D_NoSuchNotice___init : Ini K C_NoSuchNotice "NoSuchNotice.__init__" s_NoSuchNotice___init ["self", "number"] f3 _ := ⟨F3, F3.binds (ps := ["self", "number"]) fun _ _ _ _ _ _ us hl => match us, hl with | [_, _], _ => rfl, a3, i3⟩
  have F4 := fun_mk (st := s_is_between) l4 c4 k4
  have D_is_between : Dfn K mg "is_between" s_is_between ["value", "low", "high"] f4 _ := ⟨F4, F4.binds (ps := ["value", "low", "high"]) fun _ _ _ _ _ _ us hl => match us, hl with | [_, _, _], _ => rfl, PySem.W.mg_of X G a4⟩
  have F5 := fun_mk (st := s_is_name) l5 c5 k5
  have D_is_name : Dfn K mg "is_name" s_is_name ["value"] f5 _ := ⟨F5, F5.binds (ps := ["value"]) fun _ _ _ _ _ _ us hl => match us, hl with | [_], _ => rfl, PySem.W.mg_of X G a5⟩
  have F6 := fun_mk (st := s_check_name) l6 c6 k6
  have D_check_name : Dfn K mg "check_name" s_check_name ["value"] f6 _ := ⟨F6, F6.binds (ps := ["value"]) fun _ _ _ _ _ _ us hl => match us, hl with | [_], _ => rfl, PySem.W.mg_of X G a6⟩
  have F7 := fun_mk (st := s_check_known) l7 c7 k7
  have D_check_known : Dfn K mg "check_known" s_check_known ["name", "names"] f7 _ := ⟨F7, F7.binds (ps := ["name", "names"]) fun _ _ _ _ _ _ us hl => match us, hl with | [_, _], _ => rfl, PySem.W.mg_of X G a7⟩
  have F8 := fun_mk (st := s_check_names) l8 c8 k8
  have D_check_names : Dfn K mg "check_names" s_check_names ["market", "event", "insurer"] f8 _ := ⟨F8, F8.binds (ps := ["market", "event", "insurer"]) fun _ _ _ _ _ _ us hl => match us, hl with | [_, _, _], _ => rfl, PySem.W.mg_of X G a8⟩
  have F9 := fun_mk (st := s_is_entry) l9 c9 k9
  have D_is_entry : Dfn K mg "is_entry" s_is_entry ["value"] f9 _ := ⟨F9, F9.binds (ps := ["value"]) fun _ _ _ _ _ _ us hl => match us, hl with | [_], _ => rfl, PySem.W.mg_of X G a9⟩
  have F10 := fun_mk (st := s_is_panel) l10 c10 k10
  have D_is_panel : Dfn K mg "is_panel" s_is_panel ["value"] f10 _ := ⟨F10, F10.binds (ps := ["value"]) fun _ _ _ _ _ _ us hl => match us, hl with | [_], _ => rfl, PySem.W.mg_of X G a10⟩
  have F11 := fun_mk (st := s_check_panel) l11 c11 k11
  have D_check_panel : Dfn K mg "check_panel" s_check_panel ["value"] f11 _ := ⟨F11, F11.binds (ps := ["value"]) fun _ _ _ _ _ _ us hl => match us, hl with | [_], _ => rfl, PySem.W.mg_of X G a11⟩
  have F12 := fun_mk (st := s_allocate) l12 c12 k12
  have D_allocate : Dfn K mg "allocate" s_allocate ["amount", "shares"] f12 _ := ⟨F12, F12.binds (ps := ["amount", "shares"]) fun _ _ _ _ _ _ us hl => match us, hl with | [_, _], _ => rfl, PySem.W.mg_of X G a12⟩
  have F13 := fun_mk (st := s_is_cover) l13 c13 k13
  have D_is_cover : Dfn K mg "is_cover" s_is_cover ["value"] f13 _ := ⟨F13, F13.binds (ps := ["value"]) fun _ _ _ _ _ _ us hl => match us, hl with | [_], _ => rfl, PySem.W.mg_of X G a13⟩
  have F14 := fun_mk (st := s_check_cover) l14 c14 k14
  have D_check_cover : Dfn K mg "check_cover" s_check_cover ["value"] f14 _ := ⟨F14, F14.binds (ps := ["value"]) fun _ _ _ _ _ _ us hl => match us, hl with | [_], _ => rfl, PySem.W.mg_of X G a14⟩
  have F15 := fun_mk (st := s_recovery) l15 c15 k15
  have D_recovery : Dfn K mg "recovery" s_recovery ["cover", "loss"] f15 _ := ⟨F15, F15.binds (ps := ["cover", "loss"]) fun _ _ _ _ _ _ us hl => match us, hl with | [_, _], _ => rfl, PySem.W.mg_of X G a15⟩
  have F16 := fun_mk (st := s_programme) l16 c16 k16
  have D_programme : Dfn K mg "programme" s_programme ["covers", "loss"] f16 _ := ⟨F16, F16.binds (ps := ["covers", "loss"]) fun _ _ _ _ _ _ us hl => match us, hl with | [_, _], _ => rfl, PySem.W.mg_of X G a16⟩
  have F17 := fun_mk (st := s_active_covers) l17 c17 k17
  have D_active_covers : Dfn K mg "active_covers" s_active_covers ["treaties", "cedent"] f17 _ := ⟨F17, F17.binds (ps := ["treaties", "cedent"]) fun _ _ _ _ _ _ us hl => match us, hl with | [_, _], _ => rfl, PySem.W.mg_of X G a17⟩
  have F18 := fun_mk (st := s_cede) l18 c18 k18
  have D_cede : Dfn K mg "cede" s_cede ["treaties", "cedent", "loss"] f18 _ := ⟨F18, F18.binds (ps := ["treaties", "cedent", "loss"]) fun _ _ _ _ _ _ us hl => match us, hl with | [_, _, _], _ => rfl, PySem.W.mg_of X G a18⟩
  have F19 := fun_mk (st := s_treaty_payments) l19 c19 k19
  have D_treaty_payments : Dfn K mg "treaty_payments" s_treaty_payments ["insurers", "treaties", "gross"] f19 _ := ⟨F19, F19.binds (ps := ["insurers", "treaties", "gross"]) fun _ _ _ _ _ _ us hl => match us, hl with | [_, _, _], _ => rfl, PySem.W.mg_of X G a19⟩
  have F20 := fun_mk (st := s_panel_parts) l20 c20 k20
  have D_panel_parts : Dfn K mg "panel_parts" s_panel_parts ["panel", "amount"] f20 _ := ⟨F20, F20.binds (ps := ["panel", "amount"]) fun _ _ _ _ _ _ us hl => match us, hl with | [_, _], _ => rfl, PySem.W.mg_of X G a20⟩
  have F21 := fun_mk (st := s_part_of) l21 c21 k21
  have D_part_of : Dfn K mg "part_of" s_part_of ["panel", "name", "amount"] f21 _ := ⟨F21, F21.binds (ps := ["panel", "name", "amount"]) fun _ _ _ _ _ _ us hl => match us, hl with | [_, _, _], _ => rfl, PySem.W.mg_of X G a21⟩
  have F22 := fun_mk (st := s_next_gross) l22 c22 k22
  have D_next_gross : Dfn K mg "next_gross" s_next_gross ["insurers", "treaties", "direct", "gross"] f22 _ := ⟨F22, F22.binds (ps := ["insurers", "treaties", "direct", "gross"]) fun _ _ _ _ _ _ us hl => match us, hl with | [_, _, _, _], _ => rfl, PySem.W.mg_of X G a22⟩
  have F23 := fun_mk (st := s_rounds_to_end) l23 c23 k23
  have D_rounds_to_end : Dfn K mg "rounds_to_end" s_rounds_to_end ["insurers", "treaties", "direct"] f23 _ := ⟨F23, F23.binds (ps := ["insurers", "treaties", "direct"]) fun _ _ _ _ _ _ us hl => match us, hl with | [_, _, _], _ => rfl, PySem.W.mg_of X G a23⟩
  have F24 := fun_mk (st := s_packed) l24 c24 k24
  have D_packed : Dfn K mg "packed" s_packed ["rows"] f24 _ := ⟨F24, F24.binds (ps := ["rows"]) fun _ _ _ _ _ _ us hl => match us, hl with | [_], _ => rfl, PySem.W.mg_of X G a24⟩
  have F25 := fun_mk (st := s_own_treaties) l25 c25 k25
  have D_own_treaties : Dfn K mg "own_treaties" s_own_treaties ["market", "insurer"] f25 _ := ⟨F25, F25.binds (ps := ["market", "insurer"]) fun _ _ _ _ _ _ us hl => match us, hl with | [_, _], _ => rfl, PySem.W.mg_of X G a25⟩
  have F26 := fun_mk (st := s_assumed_steps) l26 c26 k26
  have D_assumed_steps : Dfn K mg "assumed_steps" s_assumed_steps ["market", "received", "event", "insurer"] f26 _ := ⟨F26, F26.binds (ps := ["market", "received", "event", "insurer"]) fun _ _ _ _ _ _ us hl => match us, hl with | [_, _, _, _], _ => rfl, PySem.W.mg_of X G a26⟩
  have F27 := fun_mk (st := s_estimated_schedule) l27 c27 k27
  have D_estimated_schedule : Dfn K mg "estimated_schedule" s_estimated_schedule ["market", "received", "event", "insurer"] f27 _ := ⟨F27, F27.binds (ps := ["market", "received", "event", "insurer"]) fun _ _ _ _ _ _ us hl => match us, hl with | [_, _, _, _], _ => rfl, PySem.W.mg_of X G a27⟩
  have F28 := fun_mk (st := s_current_schedules) l28 c28 k28
  have D_current_schedules : Dfn K mg "current_schedules" s_current_schedules ["market", "received", "event", "insurer"] f28 _ := ⟨F28, F28.binds (ps := ["market", "received", "event", "insurer"]) fun _ _ _ _ _ _ us hl => match us, hl with | [_, _, _, _], _ => rfl, PySem.W.mg_of X G a28⟩
  have F29 := fun_mk (st := s_copied) l29 c29 k29
  have D_copied : Dfn K mg "copied" s_copied ["table"] f29 _ := ⟨F29, F29.binds (ps := ["table"]) fun _ _ _ _ _ _ us hl => match us, hl with | [_], _ => rfl, PySem.W.mg_of X G a29⟩
  have F30 := fun_mk (st := s_participants) l30 c30 k30
  have D_participants : Dfn K mg "participants" s_participants ["panel"] f30 _ := ⟨F30, F30.binds (ps := ["panel"]) fun _ _ _ _ _ _ us hl => match us, hl with | [_], _ => rfl, PySem.W.mg_of X G a30⟩
  have F31 := fun_mk (st := s_Post___init) l31 c31 k31
  have D_Post___init : Mki K C_Post "Post.__init__" s_Post___init ["self", "market"] f31 _ := ⟨F31, F31.binds (ps := ["self", "market"]) fun _ _ _ _ _ _ us hl => match us, hl with | [_, _], _ => rfl, ⟨cm_Post, a31, i31, ck_Post⟩⟩
  have F32 := fun_mk (st := s_Post___len) l32 c32 k32
  have D_Post___len : Mth K C_Post "__len__" "Post.__len__" s_Post___len ["self"] f32 _ := ⟨F32, F32.binds (ps := ["self"]) fun _ _ _ _ _ _ us hl => match us, hl with | [_], _ => rfl, ⟨a32, i32, k32⟩⟩
  have F33 := fun_mk (st := s_Post___iter) l33 c33 k33
  have D_Post___iter : Mth K C_Post "__iter__" "Post.__iter__" s_Post___iter ["self"] f33 _ := ⟨F33, F33.binds (ps := ["self"]) fun _ _ _ _ _ _ us hl => match us, hl with | [_], _ => rfl, ⟨a33, i33, k33⟩⟩
  have F34 := fun_mk (st := s_Post_send) l34 c34 k34
  have D_Post_send : Mth K C_Post "send" "Post.send" s_Post_send ["self", "insurer"] f34 _ := ⟨F34, F34.binds (ps := ["self", "insurer"]) fun _ _ _ _ _ _ us hl => match us, hl with | [_, _], _ => rfl, ⟨a34, i34, k34⟩⟩
  have F35 := fun_mk (st := s_Post_resend) l35 c35 k35
  have D_Post_resend : Mth K C_Post "resend" "Post.resend" s_Post_resend ["self", "insurer"] f35 _ := ⟨F35, F35.binds (ps := ["self", "insurer"]) fun _ _ _ _ _ _ us hl => match us, hl with | [_, _], _ => rfl, ⟨a35, i35, k35⟩⟩
  have F36 := fun_mk (st := s_Post_deliver) l36 c36 k36
  have D_Post_deliver : Mth K C_Post "deliver" "Post.deliver" s_Post_deliver ["self", "number"] f36 _ := ⟨F36, F36.binds (ps := ["self", "number"]) fun _ _ _ _ _ _ us hl => match us, hl with | [_, _], _ => rfl, ⟨a36, i36, k36⟩⟩
  have F37 := fun_mk (st := s_Post_drop) l37 c37 k37
  have D_Post_drop : Mth K C_Post "drop" "Post.drop" s_Post_drop ["self", "number"] f37 _ := ⟨F37, F37.binds (ps := ["self", "number"]) fun _ _ _ _ _ _ us hl => match us, hl with | [_, _], _ => rfl, ⟨a37, i37, k37⟩⟩
  have F38 := fun_mk (st := s_Post_notice) l38 c38 k38
  have D_Post_notice : Mth K C_Post "notice" "Post.notice" s_Post_notice ["self", "number"] f38 _ := ⟨F38, F38.binds (ps := ["self", "number"]) fun _ _ _ _ _ _ us hl => match us, hl with | [_, _], _ => rfl, ⟨a38, i38, k38⟩⟩
  have F39 := fun_mk (st := s_Post_estimated) l39 c39 k39
  have D_Post_estimated : Mth K C_Post "estimated" "Post.estimated" s_Post_estimated ["self", "event", "insurer"] f39 _ := ⟨F39, F39.binds (ps := ["self", "event", "insurer"]) fun _ _ _ _ _ _ us hl => match us, hl with | [_, _, _], _ => rfl, ⟨a39, i39, k39⟩⟩
  have F40 := fun_mk (st := s_Post_pending) l40 c40 k40
  have D_Post_pending : Mth K C_Post "pending" "Post.pending" s_Post_pending ["self"] f40 _ := ⟨F40, F40.binds (ps := ["self"]) fun _ _ _ _ _ _ us hl => match us, hl with | [_], _ => rfl, ⟨a40, i40, k40⟩⟩
  have F41 := fun_mk (st := s_Post_is_quiet) l41 c41 k41
  have D_Post_is_quiet : Mth K C_Post "is_quiet" "Post.is_quiet" s_Post_is_quiet ["self"] f41 _ := ⟨F41, F41.binds (ps := ["self"]) fun _ _ _ _ _ _ us hl => match us, hl with | [_], _ => rfl, ⟨a41, i41, k41⟩⟩
  have F42 := fun_mk (st := s_Post__last_sequence) l42 c42 k42
  have D_Post__last_sequence : Mth K C_Post "_last_sequence" "Post._last_sequence" s_Post__last_sequence ["self", "number", "event"] f42 _ := ⟨F42, F42.binds (ps := ["self", "number", "event"]) fun _ _ _ _ _ _ us hl => match us, hl with | [_, _, _], _ => rfl, ⟨a42, i42, k42⟩⟩
  have F43 := fun_mk (st := s_Post__received_sequence) l43 c43 k43
  have D_Post__received_sequence : Mth K C_Post "_received_sequence" "Post._received_sequence" s_Post__received_sequence ["self", "recipient", "number", "event"] f43 _ := ⟨F43, F43.binds (ps := ["self", "recipient", "number", "event"]) fun _ _ _ _ _ _ us hl => match us, hl with | [_, _, _, _], _ => rfl, ⟨a43, i43, k43⟩⟩
  have F44 := fun_mk (st := s_Post__changes) l44 c44 k44
  have D_Post__changes : Mth K C_Post "_changes" "Post._changes" s_Post__changes ["self", "insurer"] f44 _ := ⟨F44, F44.binds (ps := ["self", "insurer"]) fun _ _ _ _ _ _ us hl => match us, hl with | [_, _], _ => rfl, ⟨a44, i44, k44⟩⟩
  have F45 := fun_mk (st := s_Post__enter) l45 c45 k45
  have D_Post__enter : Mth K C_Post "_enter" "Post._enter" s_Post__enter ["self", "keys", "last"] f45 _ := ⟨F45, F45.binds (ps := ["self", "keys", "last"]) fun _ _ _ _ _ _ us hl => match us, hl with | [_, _, _], _ => rfl, ⟨a45, i45, k45⟩⟩
  have F46 := fun_mk (st := s_Post__take_notices) l46 c46 k46
  have D_Post__take_notices : Mth K C_Post "_take_notices" "Post._take_notices" s_Post__take_notices ["self"] f46 _ := ⟨F46, F46.binds (ps := ["self"]) fun _ _ _ _ _ _ us hl => match us, hl with | [_], _ => rfl, ⟨a46, i46, k46⟩⟩
  have F47 := fun_mk (st := s_Post__is_worth) l47 c47 k47
  have D_Post__is_worth : Mth K C_Post "_is_worth" "Post._is_worth" s_Post__is_worth ["self", "number"] f47 _ := ⟨F47, F47.binds (ps := ["self", "number"]) fun _ _ _ _ _ _ us hl => match us, hl with | [_, _], _ => rfl, ⟨a47, i47, k47⟩⟩
  have F48 := fun_mk (st := s_Post__is_told) l48 c48 k48
  have D_Post__is_told : Mth K C_Post "_is_told" "Post._is_told" s_Post__is_told ["self", "number"] f48 _ := ⟨F48, F48.binds (ps := ["self", "number"]) fun _ _ _ _ _ _ us hl => match us, hl with | [_, _], _ => rfl, ⟨a48, i48, k48⟩⟩
  have F49 := fun_mk (st := s_check_new_name) l49 c49 k49
  have D_check_new_name : Dfn K mg "check_new_name" s_check_new_name ["name", "names", "most"] f49 _ := ⟨F49, F49.binds (ps := ["name", "names", "most"]) fun _ _ _ _ _ _ us hl => match us, hl with | [_, _, _], _ => rfl, PySem.W.mg_of X G a49⟩
  have F50 := fun_mk (st := s_check_placed) l50 c50 k50
  have D_check_placed : Dfn K mg "check_placed" s_check_placed ["cedent", "panel", "insurers"] f50 _ := ⟨F50, F50.binds (ps := ["cedent", "panel", "insurers"]) fun _ _ _ _ _ _ us hl => match us, hl with | [_, _, _], _ => rfl, PySem.W.mg_of X G a50⟩
  have F51 := fun_mk (st := s_direct_losses) l51 c51 k51
  have D_direct_losses : Dfn K mg "direct_losses" s_direct_losses ["insurers", "losses", "event"] f51 _ := ⟨F51, F51.binds (ps := ["insurers", "losses", "event"]) fun _ _ _ _ _ _ us hl => match us, hl with | [_, _, _], _ => rfl, PySem.W.mg_of X G a51⟩
  have F52 := fun_mk (st := s_Market___init) l52 c52 k52
  have D_Market___init : Mki K C_Market "Market.__init__" s_Market___init ["self"] f52 _ := ⟨F52, F52.binds (ps := ["self"]) fun _ _ _ _ _ _ us hl => match us, hl with | [_], _ => rfl, ⟨cm_Market, a52, i52, ck_Market⟩⟩
  have F53 := fun_mk (st := s_Market_add_insurer) l53 c53 k53
  have D_Market_add_insurer : Mth K C_Market "add_insurer" "Market.add_insurer" s_Market_add_insurer ["self", "name"] f53 _ := ⟨F53, F53.binds (ps := ["self", "name"]) fun _ _ _ _ _ _ us hl => match us, hl with | [_, _], _ => rfl, ⟨a53, i53, k53⟩⟩
  have F54 := fun_mk (st := s_Market_add_event) l54 c54 k54
  have D_Market_add_event : Mth K C_Market "add_event" "Market.add_event" s_Market_add_event ["self", "name"] f54 _ := ⟨F54, F54.binds (ps := ["self", "name"]) fun _ _ _ _ _ _ us hl => match us, hl with | [_, _], _ => rfl, ⟨a54, i54, k54⟩⟩
  have F55 := fun_mk (st := s_Market_add_treaty) l55 c55 k55
  have D_Market_add_treaty : Mth K C_Market "add_treaty" "Market.add_treaty" s_Market_add_treaty ["self", "cedent", "cover", "panel"] f55 _ := ⟨F55, F55.binds (ps := ["self", "cedent", "cover", "panel"]) fun _ _ _ _ _ _ us hl => match us, hl with | [_, _, _, _], _ => rfl, ⟨a55, i55, k55⟩⟩
  have F56 := fun_mk (st := s_Market_set_loss) l56 c56 k56
  have D_Market_set_loss : Mth K C_Market "set_loss" "Market.set_loss" s_Market_set_loss ["self", "event", "insurer", "amount"] f56 _ := ⟨F56, F56.binds (ps := ["self", "event", "insurer", "amount"]) fun _ _ _ _ _ _ us hl => match us, hl with | [_, _, _, _], _ => rfl, ⟨a56, i56, k56⟩⟩
  have F57 := fun_mk (st := s_Market_direct) l57 c57 k57
  have D_Market_direct : Mth K C_Market "direct" "Market.direct" s_Market_direct ["self", "event"] f57 _ := ⟨F57, F57.binds (ps := ["self", "event"]) fun _ _ _ _ _ _ us hl => match us, hl with | [_, _], _ => rfl, ⟨a57, i57, k57⟩⟩
  have F58 := fun_mk (st := s_Market__check_ends) l58 c58 k58
  have D_Market__check_ends : Mth K C_Market "_check_ends" "Market._check_ends" s_Market__check_ends ["self", "treaties", "losses"] f58 _ := ⟨F58, F58.binds (ps := ["self", "treaties", "losses"]) fun _ _ _ _ _ _ us hl => match us, hl with | [_, _, _], _ => rfl, ⟨a58, i58, k58⟩⟩
  have F59 := fun_mk (st := s_law_cell) l59 c59 k59
  have D_law_cell : Dfn K mg "_law_cell" s_law_cell ["script", "k"] f59 _ := ⟨F59, F59.binds (ps := ["script", "k"]) fun _ _ _ _ _ _ us hl => match us, hl with | [_, _], _ => rfl, PySem.W.mg_of X G a59⟩
  have F60 := fun_mk (st := s_law_draws) l60 c60 k60
  have D_law_draws : Dfn K mg "_law_draws" s_law_draws ["cell", "count"] f60 _ := ⟨F60, F60.binds (ps := ["cell", "count"]) fun _ _ _ _ _ _ us hl => match us, hl with | [_, _], _ => rfl, PySem.W.mg_of X G a60⟩
  have F61 := fun_mk (st := s_law_cover) l61 c61 k61
  have D_law_cover : Dfn K mg "_law_cover" s_law_cover ["n", "at"] f61 _ := ⟨F61, F61.binds (ps := ["n", "at"]) fun _ _ _ _ _ _ us hl => match us, hl with | [_, _], _ => rfl, PySem.W.mg_of X G a61⟩
  have F62 := fun_mk (st := s_law_panel) l62 c62 k62
  have D_law_panel : Dfn K mg "_law_panel" s_law_panel ["n", "at", "names"] f62 _ := ⟨F62, F62.binds (ps := ["n", "at", "names"]) fun _ _ _ _ _ _ us hl => match us, hl with | [_, _, _], _ => rfl, PySem.W.mg_of X G a62⟩
  have F63 := fun_mk (st := s_law_filled) l63 c63 k63
  have D_law_filled : Dfn K mg "_law_filled" s_law_filled ["market", "cell"] f63 _ := ⟨F63, F63.binds (ps := ["market", "cell"]) fun _ _ _ _ _ _ us hl => match us, hl with | [_, _], _ => rfl, PySem.W.mg_of X G a63⟩
  have F64 := fun_mk (st := s_law_loss) l64 c64 k64
  have D_law_loss : Dfn K mg "_law_loss" s_law_loss ["market", "digit"] f64 _ := ⟨F64, F64.binds (ps := ["market", "digit"]) fun _ _ _ _ _ _ us hl => match us, hl with | [_, _], _ => rfl, PySem.W.mg_of X G a64⟩
  have F65 := fun_mk (st := s_law_market) l65 c65 k65
  have D_law_market : Dfn K mg "_law_market" s_law_market ["cell"] f65 _ := ⟨F65, F65.binds (ps := ["cell"]) fun _ _ _ _ _ _ us hl => match us, hl with | [_], _ => rfl, PySem.W.mg_of X G a65⟩
  have F66 := fun_mk (st := s_law_deed) l66 c66 k66
  have D_law_deed : Dfn K mg "_law_deed" s_law_deed ["post", "digit", "more"] f66 _ := ⟨F66, F66.binds (ps := ["post", "digit", "more"]) fun _ _ _ _ _ _ us hl => match us, hl with | [_, _, _], _ => rfl, PySem.W.mg_of X G a66⟩
  have F67 := fun_mk (st := s_law_deeds) l67 c67 k67
  have D_law_deeds : Dfn K mg "_law_deeds" s_law_deeds ["post", "cell", "count"] f67 _ := ⟨F67, F67.binds (ps := ["post", "cell", "count"]) fun _ _ _ _ _ _ us hl => match us, hl with | [_, _, _], _ => rfl, PySem.W.mg_of X G a67⟩
  have F68 := fun_mk (st := s_law_estimates) l68 c68 k68
  have D_law_estimates : Dfn K mg "_law_estimates" s_law_estimates ["post"] f68 _ := ⟨F68, F68.binds (ps := ["post"]) fun _ _ _ _ _ _ us hl => match us, hl with | [_], _ => rfl, PySem.W.mg_of X G a68⟩
  have DL : Dfn K mg "law" s_law ["script"] fa _ := ⟨fun_mk (st := s_law) l69 c69 k69, (fun_mk (st := s_law) l69 c69 k69).binds (ps := ["script"]) fun _ _ _ _ _ _ us hl => match us, hl with | [_], _ => rfl, PySem.W.mg_of X G a69⟩
  refine ⟨PySem.W.fnOf "law" "law" (defArgs s_law) (defBody s_law) (defScope s_law) .none kV69 dc69 pm69 an69 cd69 ct69, fun s v => .of_eq rfl, fun base _ _ => ?_⟩
  have G_NameTaken___init := ok_NameTaken___init (P := l.prog) (w := w) (base := base) D_NameTaken___init T
  have G_NoSuchName___init := ok_NoSuchName___init (P := l.prog) (w := w) (base := base) D_NoSuchName___init T
  have G_NoSuchNotice___init := ok_NoSuchNotice___init (P := l.prog) (w := w) (base := base) D_NoSuchNotice___init T
  have G_is_between := ok_is_between (P := l.prog) (w := w) (base := base) D_is_between T
  have G_is_name := ok_is_name (P := l.prog) (w := w) (base := base) D_is_name T
  have G_check_name := ok_check_name (P := l.prog) (w := w) (base := base) D_check_name T D_is_name G_is_name
  have G_check_known := ok_check_known (P := l.prog) (w := w) (base := base) D_check_known T D_NoSuchName___init G_NoSuchName___init
  have G_check_names := ok_check_names (P := l.prog) (w := w) (base := base) D_check_names T D_check_known G_check_known
  have G_is_entry := ok_is_entry (P := l.prog) (w := w) (base := base) D_is_entry T D_is_name G_is_name D_is_between G_is_between
  have G_is_panel := ok_is_panel (P := l.prog) (w := w) (base := base) D_is_panel T D_is_entry G_is_entry
  have G_check_panel := ok_check_panel (P := l.prog) (w := w) (base := base) D_check_panel T D_is_panel G_is_panel
  have G_allocate := ok_allocate (P := l.prog) (w := w) (base := base) D_allocate T
  have G_is_cover := ok_is_cover (P := l.prog) (w := w) (base := base) D_is_cover T D_is_between G_is_between
  have G_check_cover := ok_check_cover (P := l.prog) (w := w) (base := base) D_check_cover T D_is_cover G_is_cover
  have G_recovery := ok_recovery (P := l.prog) (w := w) (base := base) D_recovery T
  have G_programme := ok_programme (P := l.prog) (w := w) (base := base) D_programme T D_recovery G_recovery
  have G_active_covers := ok_active_covers (P := l.prog) (w := w) (base := base) D_active_covers T
  have G_cede := ok_cede (P := l.prog) (w := w) (base := base) D_cede T D_active_covers G_active_covers D_programme G_programme
  have G_treaty_payments := ok_treaty_payments (P := l.prog) (w := w) (base := base) D_treaty_payments T D_cede G_cede
  have G_panel_parts := ok_panel_parts (P := l.prog) (w := w) (base := base) D_panel_parts T D_allocate G_allocate
  have G_part_of := ok_part_of (P := l.prog) (w := w) (base := base) D_part_of T D_panel_parts G_panel_parts
  have G_next_gross := ok_next_gross (P := l.prog) (w := w) (base := base) D_next_gross T D_treaty_payments G_treaty_payments D_panel_parts G_panel_parts
  have G_rounds_to_end := ok_rounds_to_end (P := l.prog) (w := w) (base := base) D_rounds_to_end T D_next_gross G_next_gross
  have G_packed := ok_packed (P := l.prog) (w := w) (base := base) D_packed T
  have G_own_treaties := ok_own_treaties (P := l.prog) (w := w) (base := base) D_own_treaties T
  have G_assumed_steps := ok_assumed_steps (P := l.prog) (w := w) (base := base) D_assumed_steps T D_part_of G_part_of
  have G_estimated_schedule := ok_estimated_schedule (P := l.prog) (w := w) (base := base) D_estimated_schedule T D_assumed_steps G_assumed_steps D_packed G_packed
  have G_current_schedules := ok_current_schedules (P := l.prog) (w := w) (base := base) D_current_schedules T D_estimated_schedule G_estimated_schedule D_cede G_cede D_own_treaties G_own_treaties D_packed G_packed
  have G_copied := ok_copied (P := l.prog) (w := w) (base := base) D_copied T
  have G_participants := ok_participants (P := l.prog) (w := w) (base := base) D_participants T
  have G_Post___init := ok_Post___init (P := l.prog) (w := w) (base := base) D_Post___init T
  have G_Post___len := ok_Post___len (P := l.prog) (w := w) (base := base) D_Post___len T
  have G_Post___iter := ok_Post___iter (P := l.prog) (w := w) (base := base) D_Post___iter T
  have G_Post_notice := ok_Post_notice (P := l.prog) (w := w) (base := base) D_Post_notice T D_is_between G_is_between D_NoSuchNotice___init G_NoSuchNotice___init
  have G_Post_estimated := ok_Post_estimated (P := l.prog) (w := w) (base := base) D_Post_estimated T D_check_names G_check_names D_estimated_schedule G_estimated_schedule
  have G_Post__last_sequence := ok_Post__last_sequence (P := l.prog) (w := w) (base := base) D_Post__last_sequence T
  have G_Post__received_sequence := ok_Post__received_sequence (P := l.prog) (w := w) (base := base) D_Post__received_sequence T
  have G_Post_deliver := ok_Post_deliver (P := l.prog) (w := w) (base := base) D_Post_deliver T D_Post_notice G_Post_notice D_Post__received_sequence G_Post__received_sequence D_copied G_copied
  have G_Post__changes := ok_Post__changes (P := l.prog) (w := w) (base := base) D_Post__changes T D_current_schedules G_current_schedules D_own_treaties G_own_treaties
  have G_Post__take_notices := ok_Post__take_notices (P := l.prog) (w := w) (base := base) D_Post__take_notices T
  have G_Post_drop := ok_Post_drop (P := l.prog) (w := w) (base := base) D_Post_drop T D_Post_notice G_Post_notice D_Post__take_notices G_Post__take_notices
  have G_Post__enter := ok_Post__enter (P := l.prog) (w := w) (base := base) D_Post__enter T D_participants G_participants D_Post__take_notices G_Post__take_notices
  have G_Post_send := ok_Post_send (P := l.prog) (w := w) (base := base) D_Post_send T D_check_known G_check_known D_Post__changes G_Post__changes D_copied G_copied D_Post__last_sequence G_Post__last_sequence D_Post__enter G_Post__enter
  have G_Post_resend := ok_Post_resend (P := l.prog) (w := w) (base := base) D_Post_resend T D_check_known G_check_known D_own_treaties G_own_treaties D_Post__enter G_Post__enter
  have G_Post__is_worth := ok_Post__is_worth (P := l.prog) (w := w) (base := base) D_Post__is_worth T D_Post__last_sequence G_Post__last_sequence D_Post__received_sequence G_Post__received_sequence
  have G_Post_pending := ok_Post_pending (P := l.prog) (w := w) (base := base) D_Post_pending T D_Post__changes G_Post__changes D_Post__is_worth G_Post__is_worth
  have G_Post__is_told := ok_Post__is_told (P := l.prog) (w := w) (base := base) D_Post__is_told T D_participants G_participants D_Post__received_sequence G_Post__received_sequence D_Post__last_sequence G_Post__last_sequence
  have G_Post_is_quiet := ok_Post_is_quiet (P := l.prog) (w := w) (base := base) D_Post_is_quiet T D_Post__is_told G_Post__is_told D_Post__changes G_Post__changes
  have G_check_new_name := ok_check_new_name (P := l.prog) (w := w) (base := base) D_check_new_name T D_check_name G_check_name D_NameTaken___init G_NameTaken___init
  have G_check_placed := ok_check_placed (P := l.prog) (w := w) (base := base) D_check_placed T D_check_known G_check_known
  have G_direct_losses := ok_direct_losses (P := l.prog) (w := w) (base := base) D_direct_losses T
  have G_Market___init := ok_Market___init (P := l.prog) (w := w) (base := base) D_Market___init T
  have G_Market_add_insurer := ok_Market_add_insurer (P := l.prog) (w := w) (base := base) D_Market_add_insurer T D_check_new_name G_check_new_name
  have G_Market_add_event := ok_Market_add_event (P := l.prog) (w := w) (base := base) D_Market_add_event T D_check_new_name G_check_new_name
  have G_Market_direct := ok_Market_direct (P := l.prog) (w := w) (base := base) D_Market_direct T D_check_known G_check_known D_direct_losses G_direct_losses
  have G_Market__check_ends := ok_Market__check_ends (P := l.prog) (w := w) (base := base) D_Market__check_ends T D_rounds_to_end G_rounds_to_end D_direct_losses G_direct_losses
  have G_Market_add_treaty := ok_Market_add_treaty (P := l.prog) (w := w) (base := base) D_Market_add_treaty T D_check_name G_check_name D_check_cover G_check_cover D_check_panel G_check_panel D_check_placed G_check_placed D_Market__check_ends G_Market__check_ends
  have G_Market_set_loss := ok_Market_set_loss (P := l.prog) (w := w) (base := base) D_Market_set_loss T D_check_name G_check_name D_is_between G_is_between D_check_known G_check_known D_Market__check_ends G_Market__check_ends
  have G_law_cell := ok_law_cell (P := l.prog) (w := w) (base := base) D_law_cell T
  have G_law_draws := ok_law_draws (P := l.prog) (w := w) (base := base) D_law_draws T
  have G_law_cover := ok_law_cover (P := l.prog) (w := w) (base := base) D_law_cover T
  have G_law_panel := ok_law_panel (P := l.prog) (w := w) (base := base) D_law_panel T
  have G_law_loss := ok_law_loss (P := l.prog) (w := w) (base := base) D_law_loss T D_Market_set_loss G_Market_set_loss
  have G_law_filled := ok_law_filled (P := l.prog) (w := w) (base := base) D_law_filled T D_law_draws G_law_draws D_Market_add_insurer G_Market_add_insurer D_Market_add_event G_Market_add_event D_Market_add_treaty G_Market_add_treaty D_law_cover G_law_cover D_law_panel G_law_panel D_law_loss G_law_loss
  have G_law_market := ok_law_market (P := l.prog) (w := w) (base := base) D_law_market T D_law_filled G_law_filled D_Market___init G_Market___init
  have G_law_deed := ok_law_deed (P := l.prog) (w := w) (base := base) D_law_deed T D_Post___len G_Post___len D_Post___iter G_Post___iter D_Post_send G_Post_send D_Post_deliver G_Post_deliver D_Post_drop G_Post_drop D_Post_resend G_Post_resend D_law_loss G_law_loss
  have G_law_deeds := ok_law_deeds (P := l.prog) (w := w) (base := base) D_law_deeds T D_law_draws G_law_draws D_law_deed G_law_deed
  have G_law_estimates := ok_law_estimates (P := l.prog) (w := w) (base := base) D_law_estimates T D_Post_estimated G_Post_estimated D_Post_pending G_Post_pending D_Post_is_quiet G_Post_is_quiet
  exact ok_law DL T D_Post___init G_Post___init D_law_market G_law_market D_law_cell G_law_cell D_law_deeds G_law_deeds D_Post___len G_Post___len D_Post___iter G_Post___iter D_Post_deliver G_Post_deliver D_law_estimates G_law_estimates
theorem walk {l : PySem.W.OpenLaw} {q : Program} {loose : List Str} {XP : (Str → Option Value) → Heap → Prop} {YP : World → Heap → Prop} {d : DefRec} {K : Params → PySem.W.Frag} (hn : l.most = some 63) (hdf : d.params.defaults = [])
    (hY : ∀ (w : World) (h : Heap), YP w h → (K w.params).In h)
    (F : ∀ (w : World) (mg : Str → Option Value) (fa : Addr) (h : Heap), (K w.params).In h → h.Ns mainGlobals mg → mg d.name = some (.ref fa) →
      ∃ fd : FuncData, (∀ (s : Shared) (u : Value), BindsTo s fd ⟨[u], []⟩ [("script", u)]) ∧ ∀ base : Heap, (K w.params).In base → base.Ns mainGlobals mg → FnOk l.prog w (K w.params) mg base CX0 12 fa fd ["script"] (sp_law (K w.params))) :
    PySem.W.WalkO q loose XP YP l.row.toRowW d [] (fun f vs => PySem.call f vs) :=
  L2.walk_of (n := 63) (k := 12) (x := "script") (CX := fun _ => CX0) (sp := fun w => sp_law (K w.params)) hn (by decide) hdf ⟨rfl, by decide, by decide⟩ hY F (fun _ _ a ns hl _ hS => ⟨a, ns, rfl, hS, hl, fun _ => rfl⟩) fun _ _ _ _ _ z => z
end Sd

open PySem PySem.W PyProof.Rows in
set_option maxRecDepth 100000 in
set_option maxHeartbeats 0 in
theorem PySem.Challenge.cw_spiraldue_k72_any_order_holds : PySem.Challenge.rw_spiraldue_k72_any_order.Holds := by
  w_on; o_law; k_head; (case hw => w_witness2)
  k_fill
  refine Sd.walk (l := PySem.Challenge.rw_spiraldue_k72_any_order) rfl rfl (fun w h Y => PySem.W.kIn_of Y) ?F
  case F =>
    intro w mg fa h KX G hmg
    refine' Sd.all_mk KX G hmg ?a1 ?i1 ?l1 ?c1 ?k1 ?a2 ?i2 ?l2 ?c2 ?k2 ?a3 ?i3 ?l3 ?c3 ?k3 ?a4 ?l4 ?c4 ?k4 ?a5 ?l5 ?c5 ?k5 ?a6 ?l6 ?c6 ?k6 ?a7 ?l7 ?c7 ?k7 ?a8 ?l8 ?c8 ?k8 ?a9 ?l9 ?c9 ?k9 ?a10 ?l10 ?c10 ?k10 ?a11 ?l11 ?c11 ?k11 ?a12 ?l12 ?c12 ?k12 ?a13 ?l13 ?c13 ?k13 ?a14 ?l14 ?c14 ?k14 ?a15 ?l15 ?c15 ?k15 ?a16 ?l16 ?c16 ?k16 ?a17 ?l17 ?c17 ?k17 ?a18 ?l18 ?c18 ?k18 ?a19 ?l19 ?c19 ?k19 ?a20 ?l20 ?c20 ?k20 ?a21 ?l21 ?c21 ?k21 ?a22 ?l22 ?c22 ?k22 ?a23 ?l23 ?c23 ?k23 ?a24 ?l24 ?c24 ?k24 ?a25 ?l25 ?c25 ?k25 ?a26 ?l26 ?c26 ?k26 ?a27 ?l27 ?c27 ?k27 ?a28 ?l28 ?c28 ?k28 ?a29 ?l29 ?c29 ?k29 ?a30 ?l30 ?c30 ?k30 ?a31 ?i31 ?l31 ?c31 ?k31 ?a32 ?i32 ?l32 ?c32 ?k32 ?a33 ?i33 ?l33 ?c33 ?k33 ?a34 ?i34 ?l34 ?c34 ?k34 ?a35 ?i35 ?l35 ?c35 ?k35 ?a36 ?i36 ?l36 ?c36 ?k36 ?a37 ?i37 ?l37 ?c37 ?k37 ?a38 ?i38 ?l38 ?c38 ?k38 ?a39 ?i39 ?l39 ?c39 ?k39 ?a40 ?i40 ?l40 ?c40 ?k40 ?a41 ?i41 ?l41 ?c41 ?k41 ?a42 ?i42 ?l42 ?c42 ?k42 ?a43 ?i43 ?l43 ?c43 ?k43 ?a44 ?i44 ?l44 ?c44 ?k44 ?a45 ?i45 ?l45 ?c45 ?k45 ?a46 ?i46 ?l46 ?c46 ?k46 ?a47 ?i47 ?l47 ?c47 ?k47 ?a48 ?i48 ?l48 ?c48 ?k48 ?a49 ?l49 ?c49 ?k49 ?a50 ?l50 ?c50 ?k50 ?a51 ?l51 ?c51 ?k51 ?a52 ?i52 ?l52 ?c52 ?k52 ?a53 ?i53 ?l53 ?c53 ?k53 ?a54 ?i54 ?l54 ?c54 ?k54 ?a55 ?i55 ?l55 ?c55 ?k55 ?a56 ?i56 ?l56 ?c56 ?k56 ?a57 ?i57 ?l57 ?c57 ?k57 ?a58 ?i58 ?l58 ?c58 ?k58 ?a59 ?l59 ?c59 ?k59 ?a60 ?l60 ?c60 ?k60 ?a61 ?l61 ?c61 ?k61 ?a62 ?l62 ?c62 ?k62 ?a63 ?l63 ?c63 ?k63 ?a64 ?l64 ?c64 ?k64 ?a65 ?l65 ?c65 ?k65 ?a66 ?l66 ?c66 ?k66 ?a67 ?l67 ?c67 ?k67 ?a68 ?l68 ?c68 ?k68 ?a69 ?l69 ?c69 ?k69 ?z_isinstance ?z_bool ?z_int ?z_str ?z_len ?z_all ?z_tuple ?z_sum ?z_divmod ?z_min ?z_max ?z_enumerate ?z_zip ?z_range ?z_any ?z_sorted ?z_iter ?z_list ?z_set ?z_reversed ?z_MOST_LETTERS ?z_LETTERS ?z_MOST_SHARES ?z_MOST_ENTRIES ?z_WHOLE ?z_MOST_RETENTION ?z_MOST_LIMIT ?z_LAST_ROUND ?z_MOST_GROSS ?z_NOTHING ?ka_NOTHING ?kb_NOTHING ?z_MOST_NOTICES ?z_MOST_DIRECT ?xg_BadName ?xx_BadName ?xk_BadName ?xb_BadName ?xt_BadName ?xd_BadName ?xs_BadName ?xg_BadCover ?xx_BadCover ?xk_BadCover ?xb_BadCover ?xt_BadCover ?xd_BadCover ?xs_BadCover ?xg_BadPanel ?xx_BadPanel ?xk_BadPanel ?xb_BadPanel ?xt_BadPanel ?xd_BadPanel ?xs_BadPanel ?xg_BadAmount ?xx_BadAmount ?xk_BadAmount ?xb_BadAmount ?xt_BadAmount ?xd_BadAmount ?xs_BadAmount ?xg_Twice ?xx_Twice ?xk_Twice ?xb_Twice ?xt_Twice ?xd_Twice ?xs_Twice ?xg_OwnPanel ?xx_OwnPanel ?xk_OwnPanel ?xb_OwnPanel ?xt_OwnPanel ?xd_OwnPanel ?xs_OwnPanel ?xg_TooMany ?xx_TooMany ?xk_TooMany ?xb_TooMany ?xt_TooMany ?xd_TooMany ?xs_TooMany ?xg_NoEnd ?xx_NoEnd ?xk_NoEnd ?xb_NoEnd ?xt_NoEnd ?xd_NoEnd ?xs_NoEnd ?yg_NoEnd ?yk_NoEnd ?ya_NoEnd ?yn_NoEnd ?yt_NoEnd ?ym_NoEnd ?og_NameTaken ?ol_NameTaken ?or_NameTaken ?os_NameTaken ?on_NameTaken ?ok_NameTaken ?ob_NameTaken ?ot_NameTaken ?od_NameTaken ?oi_NameTaken ?og_NoSuchName ?ol_NoSuchName ?or_NoSuchName ?os_NoSuchName ?on_NoSuchName ?ok_NoSuchName ?ob_NoSuchName ?ot_NoSuchName ?od_NoSuchName ?oi_NoSuchName ?og_NoSuchNotice ?ol_NoSuchNotice ?or_NoSuchNotice ?os_NoSuchNotice ?on_NoSuchNotice ?ok_NoSuchNotice ?ob_NoSuchNotice ?ot_NoSuchNotice ?od_NoSuchNotice ?oi_NoSuchNotice ?cg_Post ?cp_Post ?ch_Post ?co_Post ?cs_Post ?cm_Post ?ck_Post ?cn_Post_market ?cn_Post_notices ?cn_Post_is_kept ?cn_Post_numbers ?cn_Post_last ?cn_Post_received ?cn_Post_paid ?cg_Market ?cp_Market ?ch_Market ?co_Market ?cs_Market ?cm_Market ?ck_Market ?cn_Market_insurers ?cn_Market_events ?cn_Market_treaties ?cn_Market_losses ?cc_Market_MOST_INSURERS ?cd_Market_MOST_INSURERS ?cc_Market_MOST_EVENTS ?cd_Market_MOST_EVENTS ?cc_Market_MOST_TREATIES ?cd_Market_MOST_TREATIES
    (case xg_BadName => first | k_is | kit_is)
    (case xg_BadCover => first | k_is | kit_is)
    (case xg_BadPanel => first | k_is | kit_is)
    (case xg_BadAmount => first | k_is | kit_is)
    (case xg_Twice => first | k_is | kit_is)
    (case xg_OwnPanel => first | k_is | kit_is)
    (case xg_TooMany => first | k_is | kit_is)
    (case xg_NoEnd => first | k_is | kit_is)
    (case og_NameTaken => first | k_is | kit_is)
    (case og_NoSuchName => first | k_is | kit_is)
    (case og_NoSuchNotice => first | k_is | kit_is)
    (case cg_Post => first | k_is | kit_is)
    (case cg_Market => first | k_is | kit_is)
    (case a1 => k_is)
    (case i1 => k_is)
    (case l1 => k_is)
    (case c1 => k_is)
    (case k1 => k_is)
    (case a2 => k_is)
    (case i2 => k_is)
    (case l2 => k_is)
    (case c2 => k_is)
    (case k2 => k_is)
    (case a3 => k_is)
    (case i3 => k_is)
    (case l3 => k_is)
    (case c3 => k_is)
    (case k3 => k_is)
    (case a4 => k_is)
    (case l4 => k_is)
    (case c4 => k_is)
    (case k4 => k_is)
    (case a5 => k_is)
    (case l5 => k_is)
    (case c5 => k_is)
    (case k5 => k_is)
    (case a6 => k_is)
    (case l6 => k_is)
    (case c6 => k_is)
    (case k6 => k_is)
    (case a7 => k_is)
    (case l7 => k_is)
    (case c7 => k_is)
    (case k7 => k_is)
    (case a8 => k_is)
    (case l8 => k_is)
    (case c8 => k_is)
    (case k8 => k_is)
    (case a9 => k_is)
    (case l9 => k_is)
    (case c9 => k_is)
    (case k9 => k_is)
    (case a10 => k_is)
    (case l10 => k_is)
    (case c10 => k_is)
    (case k10 => k_is)
    (case a11 => k_is)
    (case l11 => k_is)
    (case c11 => k_is)
    (case k11 => k_is)
    (case a12 => k_is)
    (case l12 => k_is)
    (case c12 => k_is)
    (case k12 => k_is)
    (case a13 => k_is)
    (case l13 => k_is)
    (case c13 => k_is)
    (case k13 => k_is)
    (case a14 => k_is)
    (case l14 => k_is)
    (case c14 => k_is)
    (case k14 => k_is)
    (case a15 => k_is)
    (case l15 => k_is)
    (case c15 => k_is)
    (case k15 => k_is)
    (case a16 => k_is)
    (case l16 => k_is)
    (case c16 => k_is)
    (case k16 => k_is)
    (case a17 => k_is)
    (case l17 => k_is)
    (case c17 => k_is)
    (case k17 => k_is)
    (case a18 => k_is)
    (case l18 => k_is)
    (case c18 => k_is)
    (case k18 => k_is)
    (case a19 => k_is)
    (case l19 => k_is)
    (case c19 => k_is)
    (case k19 => k_is)
    (case a20 => k_is)
    (case l20 => k_is)
    (case c20 => k_is)
    (case k20 => k_is)
    (case a21 => k_is)
    (case l21 => k_is)
    (case c21 => k_is)
    (case k21 => k_is)
    (case a22 => k_is)
    (case l22 => k_is)
    (case c22 => k_is)
    (case k22 => k_is)
    (case a23 => k_is)
    (case l23 => k_is)
    (case c23 => k_is)
    (case k23 => k_is)
    (case a24 => k_is)
    (case l24 => k_is)
    (case c24 => k_is)
    (case k24 => k_is)
    (case a25 => k_is)
    (case l25 => k_is)
    (case c25 => k_is)
    (case k25 => k_is)
    (case a26 => k_is)
    (case l26 => k_is)
    (case c26 => k_is)
    (case k26 => k_is)
    (case a27 => k_is)
    (case l27 => k_is)
    (case c27 => k_is)
    (case k27 => k_is)
    (case a28 => k_is)
    (case l28 => k_is)
    (case c28 => k_is)
    (case k28 => k_is)
    (case a29 => k_is)
    (case l29 => k_is)
    (case c29 => k_is)
    (case k29 => k_is)
    (case a30 => k_is)
    (case l30 => k_is)
    (case c30 => k_is)
    (case k30 => k_is)
    (case a31 => k_is)
    (case i31 => k_is)
    (case l31 => k_is)
    (case c31 => k_is)
    (case k31 => k_is)
    (case a32 => k_is)
    (case i32 => k_is)
    (case l32 => k_is)
    (case c32 => k_is)
    (case k32 => k_is)
    (case a33 => k_is)
    (case i33 => k_is)
    (case l33 => k_is)
    (case c33 => k_is)
    (case k33 => k_is)
    (case a34 => k_is)
    (case i34 => k_is)
    (case l34 => k_is)
    (case c34 => k_is)
    (case k34 => k_is)
    (case a35 => k_is)
    (case i35 => k_is)
    (case l35 => k_is)
    (case c35 => k_is)
    (case k35 => k_is)
    (case a36 => k_is)
    (case i36 => k_is)
    (case l36 => k_is)
    (case c36 => k_is)
    (case k36 => k_is)
    (case a37 => k_is)
    (case i37 => k_is)
    (case l37 => k_is)
    (case c37 => k_is)
    (case k37 => k_is)
    (case a38 => k_is)
    (case i38 => k_is)
    (case l38 => k_is)
    (case c38 => k_is)
    (case k38 => k_is)
    (case a39 => k_is)
    (case i39 => k_is)
    (case l39 => k_is)
    (case c39 => k_is)
    (case k39 => k_is)
    (case a40 => k_is)
    (case i40 => k_is)
    (case l40 => k_is)
    (case c40 => k_is)
    (case k40 => k_is)
    (case a41 => k_is)
    (case i41 => k_is)
    (case l41 => k_is)
    (case c41 => k_is)
    (case k41 => k_is)
    (case a42 => k_is)
    (case i42 => k_is)
    (case l42 => k_is)
    (case c42 => k_is)
    (case k42 => k_is)
    (case a43 => k_is)
    (case i43 => k_is)
    (case l43 => k_is)
    (case c43 => k_is)
    (case k43 => k_is)
    (case a44 => k_is)
    (case i44 => k_is)
    (case l44 => k_is)
    (case c44 => k_is)
    (case k44 => k_is)
    (case a45 => k_is)
    (case i45 => k_is)
    (case l45 => k_is)
    (case c45 => k_is)
    (case k45 => k_is)
    (case a46 => k_is)
    (case i46 => k_is)
    (case l46 => k_is)
    (case c46 => k_is)
    (case k46 => k_is)
    (case a47 => k_is)
    (case i47 => k_is)
    (case l47 => k_is)
    (case c47 => k_is)
    (case k47 => k_is)
    (case a48 => k_is)
    (case i48 => k_is)
    (case l48 => k_is)
    (case c48 => k_is)
    (case k48 => k_is)
    (case a49 => k_is)
    (case l49 => k_is)
    (case c49 => k_is)
    (case k49 => k_is)
    (case a50 => k_is)
    (case l50 => k_is)
    (case c50 => k_is)
    (case k50 => k_is)
    (case a51 => k_is)
    (case l51 => k_is)
    (case c51 => k_is)
    (case k51 => k_is)
    (case a52 => k_is)
    (case i52 => k_is)
    (case l52 => k_is)
    (case c52 => k_is)
    (case k52 => k_is)
    (case a53 => k_is)
    (case i53 => k_is)
    (case l53 => k_is)
    (case c53 => k_is)
    (case k53 => k_is)
    (case a54 => k_is)
    (case i54 => k_is)
    (case l54 => k_is)
    (case c54 => k_is)
    (case k54 => k_is)
    (case a55 => k_is)
    (case i55 => k_is)
    (case l55 => k_is)
    (case c55 => k_is)
    (case k55 => k_is)
    (case a56 => k_is)
    (case i56 => k_is)
    (case l56 => k_is)
    (case c56 => k_is)
    (case k56 => k_is)
    (case a57 => k_is)
    (case i57 => k_is)
    (case l57 => k_is)
    (case c57 => k_is)
    (case k57 => k_is)
    (case a58 => k_is)
    (case i58 => k_is)
    (case l58 => k_is)
    (case c58 => k_is)
    (case k58 => k_is)
    (case a59 => k_is)
    (case l59 => k_is)
    (case c59 => k_is)
    (case k59 => k_is)
    (case a60 => k_is)
    (case l60 => k_is)
    (case c60 => k_is)
    (case k60 => k_is)
    (case a61 => k_is)
    (case l61 => k_is)
    (case c61 => k_is)
    (case k61 => k_is)
    (case a62 => k_is)
    (case l62 => k_is)
    (case c62 => k_is)
    (case k62 => k_is)
    (case a63 => k_is)
    (case l63 => k_is)
    (case c63 => k_is)
    (case k63 => k_is)
    (case a64 => k_is)
    (case l64 => k_is)
    (case c64 => k_is)
    (case k64 => k_is)
    (case a65 => k_is)
    (case l65 => k_is)
    (case c65 => k_is)
    (case k65 => k_is)
    (case a66 => k_is)
    (case l66 => k_is)
    (case c66 => k_is)
    (case k66 => k_is)
    (case a67 => k_is)
    (case l67 => k_is)
    (case c67 => k_is)
    (case k67 => k_is)
    (case a68 => k_is)
    (case l68 => k_is)
    (case c68 => k_is)
    (case k68 => k_is)
    (case a69 => k_is)
    (case l69 => k_is)
    (case c69 => k_is)
    (case k69 => k_is)
    (case z_isinstance => k_is)
    (case z_bool => k_is)
    (case z_int => k_is)
    (case z_str => k_is)
    (case z_len => k_is)
    (case z_all => k_is)
    (case z_tuple => k_is)
    (case z_sum => k_is)
    (case z_divmod => k_is)
    (case z_min => k_is)
    (case z_max => k_is)
    (case z_enumerate => k_is)
    (case z_zip => k_is)
    (case z_range => k_is)
    (case z_any => k_is)
    (case z_sorted => k_is)
    (case z_iter => k_is)
    (case z_list => k_is)
    (case z_set => k_is)
    (case z_reversed => k_is)
    (case z_MOST_LETTERS => k_is)
    (case z_LETTERS => k_is)
    (case z_MOST_SHARES => k_is)
    (case z_MOST_ENTRIES => k_is)
    (case z_WHOLE => k_is)
    (case z_MOST_RETENTION => k_is)
    (case z_MOST_LIMIT => k_is)
    (case z_LAST_ROUND => k_is)
    (case z_MOST_GROSS => k_is)
    (case z_NOTHING => k_is)
    (case ka_NOTHING => k_is)
    (case kb_NOTHING => k_is)
    (case z_MOST_NOTICES => k_is)
    (case z_MOST_DIRECT => k_is)
    (case xx_BadName => first | k_exc | k_is | rfl)
    (case xk_BadName => first | k_is | kit_is)
    (case xb_BadName => first | k_is | kit_is)
    (case xt_BadName => first | k_is | kit_is)
    (case xd_BadName => first | k_is | kit_is)
    (case xs_BadName => first | rfl | k_is)
    (case xx_BadCover => first | k_exc | k_is | rfl)
    (case xk_BadCover => first | k_is | kit_is)
    (case xb_BadCover => first | k_is | kit_is)
    (case xt_BadCover => first | k_is | kit_is)
    (case xd_BadCover => first | k_is | kit_is)
    (case xs_BadCover => first | rfl | k_is)
    (case xx_BadPanel => first | k_exc | k_is | rfl)
    (case xk_BadPanel => first | k_is | kit_is)
    (case xb_BadPanel => first | k_is | kit_is)
    (case xt_BadPanel => first | k_is | kit_is)
    (case xd_BadPanel => first | k_is | kit_is)
    (case xs_BadPanel => first | rfl | k_is)
    (case xx_BadAmount => first | k_exc | k_is | rfl)
    (case xk_BadAmount => first | k_is | kit_is)
    (case xb_BadAmount => first | k_is | kit_is)
    (case xt_BadAmount => first | k_is | kit_is)
    (case xd_BadAmount => first | k_is | kit_is)
    (case xs_BadAmount => first | rfl | k_is)
    (case xx_Twice => first | k_exc | k_is | rfl)
    (case xk_Twice => first | k_is | kit_is)
    (case xb_Twice => first | k_is | kit_is)
    (case xt_Twice => first | k_is | kit_is)
    (case xd_Twice => first | k_is | kit_is)
    (case xs_Twice => first | rfl | k_is)
    (case xx_OwnPanel => first | k_exc | k_is | rfl)
    (case xk_OwnPanel => first | k_is | kit_is)
    (case xb_OwnPanel => first | k_is | kit_is)
    (case xt_OwnPanel => first | k_is | kit_is)
    (case xd_OwnPanel => first | k_is | kit_is)
    (case xs_OwnPanel => first | rfl | k_is)
    (case xx_TooMany => first | k_exc | k_is | rfl)
    (case xk_TooMany => first | k_is | kit_is)
    (case xb_TooMany => first | k_is | kit_is)
    (case xt_TooMany => first | k_is | kit_is)
    (case xd_TooMany => first | k_is | kit_is)
    (case xs_TooMany => first | rfl | k_is)
    (case xx_NoEnd => first | k_exc | k_is | rfl)
    (case xk_NoEnd => first | k_is | kit_is)
    (case xb_NoEnd => first | k_is | kit_is)
    (case xt_NoEnd => first | k_is | kit_is)
    (case xd_NoEnd => first | k_is | kit_is)
    (case xs_NoEnd => first | rfl | k_is)
    (case yg_NoEnd => first | k_is | kit_is)
    (case yk_NoEnd => first | k_is | kit_is)
    (case ya_NoEnd => first | k_is | kit_is)
    (case yn_NoEnd => first | k_is | kit_is)
    (case yt_NoEnd => first | k_is | kit_is)
    (case ym_NoEnd => first | k_is | kit_is)
    (case ol_NameTaken => first | k_is | kit_is)
    (case or_NameTaken => first | rfl | decide +kernel)
    (case os_NameTaken => first | k_is | kit_is)
    (case on_NameTaken => first | k_is | kit_is)
    (case ok_NameTaken => first | k_is | kit_is)
    (case ob_NameTaken => first | k_is | kit_is)
    (case ot_NameTaken => first | k_is | kit_is)
    (case od_NameTaken => first | k_is | kit_is)
    (case oi_NameTaken => first | rfl | k_is)
    (case ol_NoSuchName => first | k_is | kit_is)
    (case or_NoSuchName => first | rfl | decide +kernel)
    (case os_NoSuchName => first | k_is | kit_is)
    (case on_NoSuchName => first | k_is | kit_is)
    (case ok_NoSuchName => first | k_is | kit_is)
    (case ob_NoSuchName => first | k_is | kit_is)
    (case ot_NoSuchName => first | k_is | kit_is)
    (case od_NoSuchName => first | k_is | kit_is)
    (case oi_NoSuchName => first | rfl | k_is)
    (case ol_NoSuchNotice => first | k_is | kit_is)
    (case or_NoSuchNotice => first | rfl | decide +kernel)
    (case os_NoSuchNotice => first | k_is | kit_is)
    (case on_NoSuchNotice => first | k_is | kit_is)
    (case ok_NoSuchNotice => first | k_is | kit_is)
    (case ob_NoSuchNotice => first | k_is | kit_is)
    (case ot_NoSuchNotice => first | k_is | kit_is)
    (case od_NoSuchNotice => first | k_is | kit_is)
    (case oi_NoSuchNotice => first | rfl | k_is)
    (case cp_Post => first | k_is | kit_is)
    (case ch_Post => first | k_is | kit_is)
    (case co_Post => first | k_is | kit_is)
    (case cs_Post => first | k_is | kit_is)
    (case cm_Post => first | k_is | kit_is)
    (case ck_Post => first | k_is | kit_is)
    (case cn_Post_market => first | k_is | kit_is)
    (case cn_Post_notices => first | k_is | kit_is)
    (case cn_Post_is_kept => first | k_is | kit_is)
    (case cn_Post_numbers => first | k_is | kit_is)
    (case cn_Post_last => first | k_is | kit_is)
    (case cn_Post_received => first | k_is | kit_is)
    (case cn_Post_paid => first | k_is | kit_is)
    (case cp_Market => first | k_is | kit_is)
    (case ch_Market => first | k_is | kit_is)
    (case co_Market => first | k_is | kit_is)
    (case cs_Market => first | k_is | kit_is)
    (case cm_Market => first | k_is | kit_is)
    (case ck_Market => first | k_is | kit_is)
    (case cn_Market_insurers => first | k_is | kit_is)
    (case cn_Market_events => first | k_is | kit_is)
    (case cn_Market_treaties => first | k_is | kit_is)
    (case cn_Market_losses => first | k_is | kit_is)
    (case cc_Market_MOST_INSURERS => first | k_is | kit_is)
    (case cd_Market_MOST_INSURERS => first | k_is | kit_is)
    (case cc_Market_MOST_EVENTS => first | k_is | kit_is)
    (case cd_Market_MOST_EVENTS => first | k_is | kit_is)
    (case cc_Market_MOST_TREATIES => first | k_is | kit_is)
    (case cd_Market_MOST_TREATIES => first | k_is | kit_is)
