import PyProof.Rows.All
import Wide.All
import OpenK.AllK
import Wide.FinOn
import KE.KStateDown
import Lean
import HandS.ForMost
import HandS.Defaults
import HandS.More
import HandS.Flow
import HandS.Style
import HandS.StrMore
import HandS.IsInst
import HandS.TupAny
import HandS.TupMul
import HandS.Head0
import HandS.Head1
import HandS.Head2
import HandS.HeadEnd
import HandS.HeadHook1
import HandS.HeadHook2
import HandS.HeadHook3
import HandS.Strs
import PySem.Challenge.RW_portage_k20_instructions
set_option Elab.async false
set_option linter.all false
set_option maxRecDepth 100000
set_option maxHeartbeats 4000000
/-! What my proofs have in common: a Hook with one more test, and small words. -/
namespace Cm
open PySem PySem.Spec PyProof.Rows L2 He

abbrev FnP (K : PySem.W.Frag) (x : Str) (st : Stmt) (f : Addr) (fd : FuncData) : Prop := FunD K x x (defArgs st) (defBody st) (defScope st) [] [] f fd
theorem bindsA_of {K : PySem.W.Frag} {x : Str} {st : Stmt} {f : Addr} {fd : FuncData} {ps : List Str} (F : FnP K x st f fd)
    (h : ∀ (kV doc pm : Value) (an : Option Addr) (cdv ct : Value) (us : List Value), us.length = ps.length → bindArgs (PySem.W.fnOf x x (defArgs st) (defBody st) (defScope st) .none kV doc pm an cdv ct) ⟨us, []⟩ = pure (ps.zip us)) (s : Shared) (us : List Value) (hl : us.length = ps.length) : BindsTo s fd ⟨us, []⟩ (ps.zip us) := FunD.bindsA F h s us hl

/-! ### heaps that grow -/
theorem same_new {H : Hp} {p : Addr} {o : HO} (h : H p = none) : Same H (upd H p o) := fun b x e => by
  rw [upd_ne (ne_of_none e h)]
  exact e
theorem same_mut {H H' : Hp} {p : Addr} {o : HO} (s : Same H H') (h : H p = none) : Same H (upd H' p o) := fun b x e => by
  rw [upd_ne (ne_of_none e h)]
  exact s b x e
theorem sameT {K : PySem.W.Frag} {H H' : Hp} {a : Addr} {xs : List V} (s : Same H H') (h : SqT K H a xs) : SqT K H' a xs := by
  rcases h with (h | ⟨o, h⟩) | h
  · exact .inl (.inl (s _ _ h))
  · exact .inl (.inr ⟨o, s _ _ h⟩)
  · exact .inr h
theorem sqt_new {K : PySem.W.Frag} {H : Hp} {p : Addr} {xs : List V} : SqT K (upd H p (.tup xs)) p xs := .inl (.inl upd_same)
theorem sql_new {K : PySem.W.Frag} {H : Hp} {p : Addr} {xs : List V} : SqL K (upd H p (.lst xs)) p xs := .inl (.inl upd_same)
theorem small {n : Nat} (h : n ≤ 100000) : n ≤ sizeLine := by
  rw [sizeLine_eq]
  omega
theorem smallL {n : Nat} (h : n ≤ 100000) : n < sizeLine := by
  rw [sizeLine_eq]
  omega
/-! ### tests -/
theorem itV {x : Bool} {A B : Prop} (h1 : x = true → A) (h2 : x = false → B) : if (if false = true then !x else x) = true then A else B := by
  cases x
  · exact h2 rfl
  · exact h1 rfl
theorem itVn {x : Bool} {A B : Prop} (h1 : x = false → A) (h2 : x = true → B) : if (if true = true then !x else x) = true then A else B := by
  cases x
  · exact h1 rfl
  · exact h2 rfl
theorem itB {x : Bool} {A B : Prop} (h1 : x = true → A) (h2 : x = false → B) : if x = true then A else B := by
  cases x
  · exact h2 rfl
  · exact h1 rfl
theorem itBn {x : Bool} {A B : Prop} (h1 : x = false → A) (h2 : x = true → B) : if (!x) = true then A else B := by
  cases x
  · exact h1 rfl
  · exact h2 rfl
theorem itD {c : Prop} [Decidable c] {A B : Prop} (h1 : c → A) (h2 : ¬ c → B) : if decide c = true then A else B := by
  by_cases h : c
  · rw [if_pos (decide_eq_true h)]
    exact h1 h
  · rw [if_neg (by rw [decide_eq_false h]; decide)]
    exact h2 h
theorem itDn {c : Prop} [Decidable c] {A B : Prop} (h1 : ¬ c → A) (h2 : c → B) : if (!decide c) = true then A else B := by
  by_cases h : c
  · rw [if_neg (by rw [decide_eq_true h]; decide)]
    exact h2 h
  · rw [if_pos (by rw [decide_eq_false h]; rfl)]
    exact h1 h
theorem deq_int {i j : Int} : decide (V.int i = V.int j) = decide (i = j) := by
  by_cases h : i = j
  · rw [h, decide_eq_true rfl, decide_eq_true rfl]
  · rw [decide_eq_false h, decide_eq_false fun e => h (V.int.inj e)]
theorem deq_str {x y : Str} : decide (V.str x = V.str y) = decide (x = y) := by
  by_cases h : x = y
  · rw [h, decide_eq_true rfl, decide_eq_true rfl]
  · rw [decide_eq_false h, decide_eq_false fun e => h (V.str.inj e)]
theorem deq_bl {x y : Bool} : decide (V.bl x = V.bl y) = decide (x = y) := by
  by_cases h : x = y
  · rw [h, decide_eq_true rfl, decide_eq_true rfl]
  · rw [decide_eq_false h, decide_eq_false fun e => h (V.bl.inj e)]
theorem itEI {x y : Int} {A B : Prop} (h1 : x = y → A) (h2 : ¬ x = y → B) : if decide (V.int x = V.int y) = true then A else B := by
  rw [deq_int]
  exact itD h1 h2
theorem itES {x y : Str} {A B : Prop} (h1 : x = y → A) (h2 : ¬ x = y → B) : if decide (V.str x = V.str y) = true then A else B := by
  rw [deq_str]
  exact itD h1 h2
theorem itNI {x y : Int} {A B : Prop} (h1 : ¬ x = y → A) (h2 : x = y → B) : if (!decide (V.int x = V.int y)) = true then A else B := by
  rw [deq_int]
  exact itDn h1 h2
theorem itNS {x y : Str} {A B : Prop} (h1 : ¬ x = y → A) (h2 : x = y → B) : if (!decide (V.str x = V.str y)) = true then A else B := by
  rw [deq_str]
  exact itDn h1 h2
theorem str_nil {z : Str} (h : z.cps.toList = []) : z = ⟨#[]⟩ := by
  obtain ⟨c⟩ := z
  have e : c = #[] := by simpa using h
  rw [e]
/-! ### items -/
theorem at_in {xs : List V} {i : Int} (h0 : 0 ≤ i) (h1 : i < (xs.length : Int)) : ∃ v, v ∈ xs ∧ atI xs i = some v := by
  obtain ⟨j, rfl⟩ := Int.eq_ofNat_of_zero_le h0
  have h2 : j < xs.length := by omega
  exact ⟨xs[j], List.getElem_mem h2, atI_nat (List.getElem?_eq_getElem h2)⟩
theorem at_str {ws : List Str} {i : Int} (h0 : 0 ≤ i) (h1 : i < (ws.length : Int)) : ∃ w, w ∈ ws ∧ atI (ws.map V.str) i = some (.str w) := by
  obtain ⟨v, hv, e⟩ := at_in (xs := ws.map V.str) h0 (by rw [List.length_map]; exact h1)
  obtain ⟨w, hw, rfl⟩ := List.mem_map.mp hv
  exact ⟨w, hw, e⟩
theorem at_int {ns : List Int} {i : Int} (h0 : 0 ≤ i) (h1 : i < (ns.length : Int)) : ∃ n, n ∈ ns ∧ atI (ns.map V.int) i = some (.int n) := by
  obtain ⟨v, hv, e⟩ := at_in (xs := ns.map V.int) h0 (by rw [List.length_map]; exact h1)
  obtain ⟨n, hn, rfl⟩ := List.mem_map.mp hv
  exact ⟨n, hn, e⟩
/-! ### a Hook with one more test -/
abbrev AlX : Type := Bool × AlT
def obsX (fa : List Fa) (fn : List DefD) (ts : List Tab) (ok : PySem.W.Frag → Bool) (K : PySem.W.Frag) : AlX := (ok K, obsT fa fn ts K)
def obsXG (n : Nat) (fa : List Fa) (fn : List DefD) (ts : List Tab) (ok : PySem.W.Frag → Bool) (g : Addr → Option Obj) : AlX := obsX fa fn ts ok (frG g (asD g n))
def hookX (n : Nat) (fa : List Fa) (fn : List DefD) (ts : List Tab) (ok : PySem.W.Frag → Bool) : PySem.W.Hook where
  α := AlX
  obs := fun s => obsXG n fa fn ts ok s.heap.get?
  val := fun w => (true, valT fn ts w)
  says := fun w h => ∃ K : PySem.W.Frag, K.In h ∧ ok K = true ∧ SaysT fa fn ts w K
  of := fun w s e => ⟨frG s.heap.get? (asD s.heap.get? n), frG_in, congrArg (fun z : AlX => z.1) e, congrArg (fun z : AlX => z.2) e⟩
  keeps := fun _ _ _ ⟨K, hK, o, c⟩ k => ⟨K, PySem.W.Frag.In.keeps hK k, o, c⟩
theorem obsXG_eq {n : Nat} {fa : List Fa} {fn : List DefD} {ts : List Tab} {ok : PySem.W.Frag → Bool} {g : Addr → Option Obj} {s : Shared} (h : ∀ a, g a = s.heap.get? a) : obsXG n fa fn ts ok g = (hookX n fa fn ts ok).obs s := by
  have e : g = s.heap.get? := funext h
  rw [e] <;> rfl
end Cm

set_option Elab.async false
set_option linter.all false
set_option maxRecDepth 100000
/-! How many different texts a written tuple has: len(set(t)), t of different texts. By the road of the library's own rule for one text. -/
namespace SetN
open PySem PySem.Spec PyProof.Rows L2
abbrev emptySet (led : Bool) : Obj := { cls := .type "set", dict := none, data := .set #[] 0 (.fresh 0 0 led) }
abbrev among (xs : List Str) (i : Nat) : Str → Bool := fun y => (xs.take i).any (· == y)
theorem among_next {xs : List Str} (nd : xs.Nodup) {i : Nat} (h : i < xs.length) : among xs i (xs.getD i Str.empty) = false ∧ ∀ y, (among xs i y || decide (y = xs.getD i Str.empty)) = among xs (i + 1) y := by
  have e : xs.getD i Str.empty = xs[i] := by
    rw [List.getD_eq_getElem?_getD, List.getElem?_eq_getElem h]
    rfl
  refine ⟨?_, fun y => ?_⟩
  · rw [e]
    cases q : among xs i xs[i] with
    | false => rfl
    | true =>
      obtain ⟨z, hz, ez⟩ := List.any_eq_true.mp q
      have ez2 : z = xs[i] := eq_of_beq ez
      obtain ⟨j, hj, e2⟩ := List.getElem_of_mem hz
      rw [List.length_take] at hj
      rw [List.getElem_take, ez2] at e2
      have := (List.getElem_inj nd).mp e2
      omega
  · rw [e]
    show _ = (xs.take (i + 1)).any (· == y)
    rw [List.take_succ_eq_append_getElem h, List.any_append]
    have e3 : decide (y = xs[i]) = (xs[i] == y) := by
      by_cases z : y = xs[i]
      · rw [decide_eq_true z, z, beq_self_eq_true]
      · rw [decide_eq_false z]
        exact (beq_eq_false_iff_ne.mpr fun q => z q.symm).symm
    rw [e3]
    simp [among]
section
variable {prog : Program} {w : World} {A : Around} {R : Result → Shared → Prop} {I : Addr} {fp wr : List Addr} {G : Array GenState → Array GenState → Prop} {n : Nat} {P : Nat → Value → Prop} {St : Nat → Shared → Prop}
theorem loop (W : WalksS prog w A.in1 I fp wr G n P St) (S : Addr) (hSf : S ∉ fp) (xs : List Str) (hsz : xs.length = n) (nd : xs.Nodup) (hn : n ≤ 100)
    (hval : ∀ i v, P i v → ∃ t, v = .str (xs.getD i Str.empty) t) :
    ∀ (k i : Nat) (s : Shared), n - i = k → i ≤ n → St i s → s.heap.SetOf (strKind prog w) S (among xs i) i →
      (∀ s', Moved (S :: wr) G s s' → s'.heap.SetOf (strKind prog w) S (among xs n) n → R (.ok (.ret .none)) s') →
      codeAny (model prog w) A (.builtin "set.update.loop" ⟨[.ref S, .ref I], []⟩) R s := by
  have hSw : S ∉ wr := fun h => hSf (W.sub _ h)
  have up : ∀ b ∈ wr, b ∈ S :: wr := fun b => List.mem_cons_of_mem _
  intro k
  induction k with
  | zero =>
    intro i s hk hi hst ⟨o, es, ep, t, ho, rest⟩ hR
    obtain rfl : i = n := by omega
    refine codeAny_builtin PyProof.Rows.F.entry_set_update_loop (by
      rw [Around.under_plainId PyProof.Rows.F.plain_set_update_loop _]
      exact wpAny_bind (W.done s _ _ hst fun s' hm => wpAny_pure (hR s' (hm.mono up) ⟨o, es, ep, t, hm.heap S _ hSw ho, rest⟩)))
  | succ k ih =>
    intro i s hk hi hst ⟨o, es, ep, tb, ho, rest⟩ hR
    have hlt : i < n := by omega
    obtain ⟨new, grow⟩ := among_next nd (i := i) (by omega)
    refine codeAny_builtin PyProof.Rows.F.entry_set_update_loop (by
      rw [Around.under_plainId PyProof.Rows.F.plain_set_update_loop _]
      refine wpAny_bind (W.item i s _ _ hlt hst fun v s' hP hst' hm => ?_)
      obtain ⟨t, rfl⟩ := hval i v hP
      have hS' : s'.heap.SetOf (strKind prog w) S (among xs i) i := ⟨o, es, ep, tb, hm.heap S _ hSw ho, rest⟩
      refine wpAny_bind (wpAny_holding (by
        unfold setAdd
        refine wpAny_holding (wpAny_bind ((strKind prog w).pyHash (k := xs.getD i Str.empty) (strKind_is _ _ _ _) (wpAny_setAddHashed_of (knd := strKind prog w) (s := { s' with toks := s'.toks + 1 }) (strKind_is _ _ _ _) rfl hS' (by unfold scanBound; omega) fun h' hsb hS2 => ?_)))
        have hS3 : h'.SetOf (strKind prog w) S (among xs (i + 1)) (i + 1) := SetOf_congr hS2 (fun y => grow y) (by rw [new]; rfl)
        refine wpAny_pure ⟨plainId_quiet PyProof.Rows.F.plain_set_update_loop _, ih (i + 1) _ (by omega) hlt (W.frame _ s' _ _ hst' (Nat.le_succ _) fun b hb o e => ?_) hS3 fun s'' hm'' hS'' => hR s'' (Moved.trans W.gtrans ((hm.mono up).then_heap (Nat.le_succ _) fun b o hb e => ?_) hm'') hS''⟩
        · exact (hsb.2 b fun h : b = S => hSf (h ▸ hb)).trans e
        · exact (hsb.2 b fun h : b = S => hb (h ▸ List.mem_cons_self)).trans e)))
end
section
variable {prog : Program} {w : World} {A : Around} {E : Value → Shared → Prop} {s : Shared}
/-- the heap with the new, still empty set -/
abbrev withSet (s : Shared) (led : Bool) : Heap := s.heap.push (emptySet led)
set_option maxHeartbeats 3200000 in
theorem call_set_tup {l : Addr} {items : Array Value} {xs : List Str} {Q : Value → Shared → Prop} (hh : A.handled = none) (hl : s.heap.IsTuple l items) (hi : StrsAre items.toList xs) (nd : xs.Nodup) (hn : xs.length ≤ 100)
    (h : ∀ (h' : Heap) (tk : Nat), h'.SetOf (strKind prog w) s.heap.objs.size (among xs items.size) items.size → (∀ b o, b < s.heap.objs.size → s.heap.get? b = some o → h'.get? b = some o) → Q (.ref s.heap.objs.size) { s with heap := h', toks := tk }) :
    wpAny (model prog w) A (call (.type "set") [.ref l]) Q E s := by
  have ⟨c, tl, mro⟩ := PySem.F.called_set.mro
  have made := PySem.F.called_set.made
  have sub := PySem.F.called_set.sub
  have k1 := PySem.F.called_set.notType
  have k2 := PySem.F.called_set.canCreate
  have k3 := PySem.F.typeCall_set_1 (.ref l)
  refine wpAny_call (codeAny_of_tree (show wpAny _ _ (callAny (.type "set") _) _ _ _ from wpAny_pure ⟨Code.quiet_builtin _ (by decide +kernel), codeAny_builtin PySem.F.entry_type_call ?_⟩))
  rw [Around.under_plain (weight_type_call_type "set" [.ref l] []) rfl]
  repeat (any_goals (first | wp_step | assumption))
  refine codeAny_mono (code_set_new_1 (.ref l) (E := E) (Q₁ := fun ob s1 => ∃ led : Bool, ob = .ref s.heap.objs.size ∧ s1 = { s with heap := withSet s led }) fun led => ⟨led, rfl, rfl⟩) fun r s1 hr => ?_
  rcases r with e | _ | _ | _ | ob
  · exact hr
  · exact hr.elim
  · exact hr.elim
  · exact hr.elim
  · obtain ⟨led, e1, e2⟩ := hr
    subst e1 e2
    have at0 : (withSet s led).get? s.heap.objs.size = some (emptySet led) := Heap.get?_push_size _ rfl
    have ty0 : Shared.TypeIs { s with heap := withSet s led } (.ref s.heap.objs.size) "set" := ⟨_, at0, rfl⟩
    have k4 := PySem.F.called_set.init.lookup
    have k5 := PySem.F.called_set.init.bind (.ref s.heap.objs.size)
    repeat (any_goals (first | wp_step | assumption))
    refine codeAny_mono (codeAny_call_builtin (R := wants (fun r s2 => r = .none ∧ ∃ h' tk, s2 = { s with heap := h', toks := tk } ∧ h'.SetOf (strKind prog w) s.heap.objs.size (among xs items.size) items.size ∧ (∀ b o, b < s.heap.objs.size → s.heap.get? b = some o → h'.get? b = some o)) E)
      PySem.F.called_set.init.plain PySem.F.entry_set_init (check_set_init_1 ty0 ?_)) fun r2 s2 hr2 => ?_
    · obtain ⟨⟨oc, od, dt, sl⟩, at1, e1, n1, e2⟩ := hl
      simp only at e1 e2
      subst e1 e2
      have at2 : (withSet s led).get? l = some ⟨.type "tuple", od, .seq items n1, sl⟩ := Heap.get?_push_of_some _ at1
      have k6 := PySem.F.sub_tuple_set
      have k7 := PySem.F.sub_tuple_frozenset
      have k8 : (Value.type "tuple" == Value.type "dict") = false := by decide
      have isT : (withSet s led).IsTuple l items := ⟨_, at2, rfl, n1, rfl⟩
      unfold Builtin.«set.__init__» noKeywords Builtin.Frozenset.updateFrom
      generalize e9 : pyIter = PI
      wp_walk
      subst e9
      have lt : l < s.heap.objs.size := Heap.lt_size at1
      have calm : A.in1.in1.in1.handled = none := by simp [hh]
      have ne1 : l ≠ (withSet s led).objs.size := Nat.ne_of_lt (by
        rw [Heap.size_push]
        exact Nat.lt_succ_of_lt lt)
      have out : s.heap.objs.size ∉ [(withSet s led).objs.size, l] := fun z => by
        rw [Heap.size_push] at z
        rcases List.mem_cons.mp z with z | z
        · exact absurd z (Nat.ne_of_lt (Nat.lt_succ_self _))
        · exact absurd (List.mem_singleton.mp z) (Nat.ne_of_gt lt)
      have many : xs.length = items.size := (StrsAre.len_eq hi).symm.trans Array.length_toList
      have at3 : ((withSet s led).push { cls := .type "tuple_iterator", data := .fields #[.ref l, .int 0 0] }).get? s.heap.objs.size = some (emptySet led) := Heap.get?_push_of_some _ at0
      refine wpAny_pyIter_tuple isT (wpAny_bind (wpAny_runValue (loop ((Walks.tuple calm _ l ne1 items).toS) s.heap.objs.size out xs many nd (many ▸ hn) (fun i v hv => SS.strs_at hi i v ((Array.getElem?_toList (xs := items)).trans hv)) items.size 0 _ (Nat.sub_zero _) (Nat.zero_le _)
        ⟨⟨_, Heap.get?_push_size _ rfl, rfl, rfl⟩, isT.push _⟩ (PyProof.Rows.SetOf_congr ((PyProof.Rows.setObjOf_fresh (knd := strKind prog w) led).setOf at3 (by unfold scanBound; omega)) (fun _ => rfl) rfl) ?_)))
      rintro ⟨h', g', d', tk', os'⟩ hm hS'
      obtain rfl : g' = s.gens := hm.gens
      obtain rfl : d' = s.drawn := hm.drawn
      obtain rfl : os' = s.os := hm.os
      exact wpAny_pure (wpAny_pure ⟨rfl, h', tk', rfl, hS', fun b o hb e => hm.heap b o (fun z => by
        rw [Heap.size_push] at z
        rcases List.mem_cons.mp z with z | z
        · exact absurd z (Nat.ne_of_lt hb)
        · exact absurd (List.mem_singleton.mp z) (Nat.ne_of_lt (Nat.lt_succ_of_lt hb))) (Heap.get?_push_of_some _ (Heap.get?_push_of_some _ e))⟩)
    · rcases r2 with e | _ | _ | _ | r
      · exact hr2
      · exact hr2.elim
      · exact hr2.elim
      · exact hr2.elim
      · obtain ⟨e1, h', tk, e2, hS', hk'⟩ := hr2
        subst e1 e2
        repeat (any_goals (first | wp_step | assumption))
        exact h _ _ hS' hk'
end
section
variable {X : Cx}
/-- len(set(t)), t a written tuple of different texts -/
def tLenSetN (K : PySem.W.Frag) (ta : TE) : TE := fun σ H Q => ta σ H fun x H1 => ∃ l, ∃ xs : List Str, x = .ref l ∧ SqT K H1 l (xs.map V.str) ∧ xs.Nodup ∧ xs.length ≤ 100 ∧ Q (.int xs.length) H1
theorem pe_lenSetN {e : Expr} {te : TE} {p p2 q pos : Pos} (hc : X.calm = true) (hg : Gl X "len") (hm : X.mg "len" = none) (hg2 : Gl X "set") (hm2 : X.mg "set" = none) (he : PE X e te)
    (na : starEach [e] X.env = (false, eval e X.env) :: starEach [] X.env := by rfl) : PE X (.Call (.Name "len" p) [.Call (.Name "set" p2) [e] [] q] [] pos) (tLenSetN X.K te) := by
  refine ⟨fun pins s σ H Q I h => Call_ (ld_blt I hg hm boot_len (PyProof.Rows.callWith_builtin1 (PyProof.Rows.args_cons (Call_ (ld_blt I hg2 hm2 boot_set (PyProof.Rows.callWith_type1 (PyProof.Rows.args_cons (thn (he.run pins s σ H _ I h) fun v s1 ⟨x, H1, I1, r1, q1⟩ => PyProof.Rows.args_nil ?_) na) na rfl))) rfl) rfl rfl))⟩
  obtain ⟨l, xs, rfl, hq, nd, hn, q1⟩ := q1
  cases r1
  obtain ⟨its, r, pl, _⟩ := I1.tuple hq
  have many : its.toArray.size = xs.length := by rw [List.size_toArray, ← r.length, List.length_map]
  refine call_set_tup (I1.ok.hd hc) pl (by simpa using strsAre_of r) nd hn fun h' tk hS hk => PyProof.Rows.args_nil ?_
  rw [many] at hS
  obtain ⟨o, es, ep, t, ho, hex, hd, _, _, _, hf, size⟩ := hS
  have I2 : Inv X pins σ H1 { s1 with heap := h', toks := tk } := I1.kept fun b o z => hk b o (Heap.lt_size z) z
  exact call_len_set ho hex hd hf (by omega) ⟨.int xs.length, H1, I2.tok _, ⟨_, by rw [size]⟩, q1⟩
end
end SetN

set_option Elab.async false
set_option linter.all false
set_option maxRecDepth 100000
set_option maxHeartbeats 4000000
namespace K20
open PySem PySem.Spec PyProof.Rows L2
abbrev tableS : List (Str × Int × Int) := [("push", 0, 1), ("nil", 0, 1), ("self", 0, 1), ("local", 0, 1), ("field", 0, 1), ("setlocal", 1, -1), ("setfield", 1, -1), ("drop", 1, -1), ("print", 1, -1),
  ("add", 2, -1), ("sub", 2, -1), ("mul", 2, -1), ("less", 2, -1), ("most", 2, -1), ("same", 2, -1), ("not", 1, 0), ("jump", 0, 0), ("unless", 1, -1), ("move", 2, -2), ("return", 1, -1)]
abbrev lackS : List Str := ["new", "call", "fork", "pop", "", "Push", "goto", "if"]
def stackB (K : PySem.W.Frag) : Bool := tableS.all fun q => match PySem.W.nsIn K (He.ga K "STACK") q.1 with
  | some (some (.ref p)) => (match K.lookup p with
    | some ⟨.type c, _, .seq its _, _⟩ => decide (c = "tuple") && (decide (its.size ≤ sizeLine) && He.relAll [.int q.2.1, .int q.2.2] its.toList)
    | _ => false)
  | _ => false
def missB (K : PySem.W.Frag) : Bool := lackS.all fun k => decide (PySem.W.nsIn K (He.ga K "STACK") k = some none)
open PySem PySem.Spec PyProof.Rows L2
def topS (i : Nat) : Stmt := PySem.Challenge.pw_portage_k20_instructions.main.body.getD i (.Pass ⟨0, 0, 0, 0⟩)
abbrev s_is_name : Stmt := topS 4
abbrev N_is_name : List Str := ["text"]
theorem sc_is_name : FnScope N_is_name ["text"] (defScope s_is_name) := ⟨rfl, rfl, rfl, by decide +kernel, rfl, by decide +kernel, by decide +kernel⟩
abbrev s_is_integer : Stmt := topS 5
abbrev N_is_integer : List Str := ["value"]
theorem sc_is_integer : FnScope N_is_integer ["value"] (defScope s_is_integer) := ⟨rfl, rfl, rfl, by decide +kernel, rfl, by decide +kernel, by decide +kernel⟩
abbrev s_is_instruction : Stmt := topS 9
abbrev N_is_instruction : List Str := ["value", "word"]
theorem sc_is_instruction : FnScope N_is_instruction ["value"] (defScope s_is_instruction) := ⟨rfl, rfl, rfl, by decide +kernel, rfl, by decide +kernel, by decide +kernel⟩
abbrev s_is_count : Stmt := topS 10
abbrev N_is_count : List Str := ["value"]
theorem sc_is_count : FnScope N_is_count ["value"] (defScope s_is_count) := ⟨rfl, rfl, rfl, by decide +kernel, rfl, by decide +kernel, by decide +kernel⟩
abbrev s_need : Stmt := topS 11
abbrev N_need : List Str := ["instruction", "word"]
theorem sc_need : FnScope N_need ["instruction"] (defScope s_need) := ⟨rfl, rfl, rfl, by decide +kernel, rfl, by decide +kernel, by decide +kernel⟩
abbrev s_effect : Stmt := topS 12
abbrev N_effect : List Str := ["instruction", "word"]
theorem sc_effect : FnScope N_effect ["instruction"] (defScope s_effect) := ⟨rfl, rfl, rfl, by decide +kernel, rfl, by decide +kernel, by decide +kernel⟩
abbrev s_lw_cell : Stmt := topS 14
abbrev N_lw_cell : List Str := ["script", "k"]
theorem sc_lw_cell : FnScope N_lw_cell ["script", "k"] (defScope s_lw_cell) := ⟨rfl, rfl, rfl, by decide +kernel, rfl, by decide +kernel, by decide +kernel⟩
abbrev s_lw_numbers : Stmt := topS 15
abbrev N_lw_numbers : List Str := ["cell", "k", "many", "numbers", "rest", "j", "mixed", "twice"]
theorem sc_lw_numbers : FnScope N_lw_numbers ["cell", "k", "many"] (defScope s_lw_numbers) := ⟨rfl, rfl, rfl, by decide +kernel, rfl, by decide +kernel, by decide +kernel⟩
abbrev s_lw_good : Stmt := topS 16
abbrev N_lw_good : List Str := ["pick", "n", "words", "one"]
theorem sc_lw_good : FnScope N_lw_good ["pick", "n"] (defScope s_lw_good) := ⟨rfl, rfl, rfl, by decide +kernel, rfl, by decide +kernel, by decide +kernel⟩
abbrev s_lw_bad : Stmt := topS 17
abbrev N_lw_bad : List Str := ["pick", "n", "row", "way"]
theorem sc_lw_bad : FnScope N_lw_bad ["pick", "n", "row"] (defScope s_lw_bad) := ⟨rfl, rfl, rfl, by decide +kernel, rfl, by decide +kernel, by decide +kernel⟩
abbrev s_lw_measures : Stmt := topS 18
abbrev N_lw_measures : List Str := ["row", "word"]
theorem sc_lw_measures : FnScope N_lw_measures ["row"] (defScope s_lw_measures) := ⟨rfl, rfl, rfl, by decide +kernel, rfl, by decide +kernel, by decide +kernel⟩
abbrev s_law : Stmt := topS 19
abbrev N_law : List Str := ["script", "k", "numbers", "j", "n", "row"]
theorem sc_law : FnScope N_law ["script"] (defScope s_law) := ⟨rfl, rfl, rfl, by decide +kernel, rfl, by decide +kernel, by decide +kernel⟩
abbrev v_WORDS : List He.Dv := [.str "interface", .str "maker", .str "attached", .str "field", .str "op", .str "let", .str "if", .str "else", .str "while", .str "return", .str "print", .str "move", .str "to", .str "fork", .str "nil", .str "self", .str "new", .str "and", .str "or", .str "not", .str "int", .str "start"]
abbrev v_PLAIN : List He.Dv := [.str "nil", .str "self", .str "add", .str "sub", .str "mul", .str "less", .str "most", .str "same", .str "not", .str "drop", .str "move", .str "print", .str "return"]
abbrev ks_STACK : List Str := ["push", "nil", "self", "local", "field", "setlocal", "setfield", "drop", "print", "add", "sub", "mul", "less", "most", "same", "not", "jump", "unless", "move", "return"]
/-- the function objects that the top has made -/
structure Fds where
  d_is_name : FuncData
  d_is_integer : FuncData
  d_is_instruction : FuncData
  d_is_count : FuncData
  d_need : FuncData
  d_effect : FuncData
  d_lw_cell : FuncData
  d_lw_numbers : FuncData
  d_lw_good : FuncData
  d_lw_bad : FuncData
  d_lw_measures : FuncData
  d_law : FuncData
/-- what the walks ask of the top -/
structure Txt (K : PySem.W.Frag) (mg : Str → Option Value) (w : World) (a : Fds) : Prop where
  F_is_name : Cm.FnP K "is_name" s_is_name (He.ga K "is_name") a.d_is_name
  b_is_name : Binds K a.d_is_name ["text"] []
  g_is_name : mg "is_name" = some (.ref (He.ga K "is_name"))
  F_is_integer : Cm.FnP K "is_integer" s_is_integer (He.ga K "is_integer") a.d_is_integer
  b_is_integer : Binds K a.d_is_integer ["value"] []
  g_is_integer : mg "is_integer" = some (.ref (He.ga K "is_integer"))
  F_is_instruction : Cm.FnP K "is_instruction" s_is_instruction (He.ga K "is_instruction") a.d_is_instruction
  b_is_instruction : Binds K a.d_is_instruction ["value"] []
  g_is_instruction : mg "is_instruction" = some (.ref (He.ga K "is_instruction"))
  F_is_count : Cm.FnP K "_is_count" s_is_count (He.ga K "_is_count") a.d_is_count
  b_is_count : Binds K a.d_is_count ["value"] []
  g_is_count : mg "_is_count" = some (.ref (He.ga K "_is_count"))
  F_need : Cm.FnP K "need" s_need (He.ga K "need") a.d_need
  b_need : Binds K a.d_need ["instruction"] []
  g_need : mg "need" = some (.ref (He.ga K "need"))
  F_effect : Cm.FnP K "effect" s_effect (He.ga K "effect") a.d_effect
  b_effect : Binds K a.d_effect ["instruction"] []
  g_effect : mg "effect" = some (.ref (He.ga K "effect"))
  F_lw_cell : Cm.FnP K "_law_cell" s_lw_cell (He.ga K "_law_cell") a.d_lw_cell
  b_lw_cell : Binds K a.d_lw_cell ["script", "k"] []
  g_lw_cell : mg "_law_cell" = some (.ref (He.ga K "_law_cell"))
  F_lw_numbers : Cm.FnP K "_law_numbers" s_lw_numbers (He.ga K "_law_numbers") a.d_lw_numbers
  b_lw_numbers : Binds K a.d_lw_numbers ["cell", "k", "many"] []
  g_lw_numbers : mg "_law_numbers" = some (.ref (He.ga K "_law_numbers"))
  F_lw_good : Cm.FnP K "_law_good" s_lw_good (He.ga K "_law_good") a.d_lw_good
  b_lw_good : Binds K a.d_lw_good ["pick", "n"] []
  g_lw_good : mg "_law_good" = some (.ref (He.ga K "_law_good"))
  F_lw_bad : Cm.FnP K "_law_bad" s_lw_bad (He.ga K "_law_bad") a.d_lw_bad
  b_lw_bad : Binds K a.d_lw_bad ["pick", "n", "row"] []
  g_lw_bad : mg "_law_bad" = some (.ref (He.ga K "_law_bad"))
  F_lw_measures : Cm.FnP K "_law_measures" s_lw_measures (He.ga K "_law_measures") a.d_lw_measures
  b_lw_measures : Binds K a.d_lw_measures ["row"] []
  g_lw_measures : mg "_law_measures" = some (.ref (He.ga K "_law_measures"))
  F_law : Cm.FnP K "law" s_law (He.ga K "law") a.d_law
  b_law : Binds K a.d_law ["script"] []
  g_law : mg "law" = some (.ref (He.ga K "law"))
  g_MAX_NUMBER : ∃ t, mg "MAX_NUMBER" = some (.int 1000000000000 t)
  g_MAX_NAME : ∃ t, mg "MAX_NAME" = some (.int 12 t)
  g_WORDS : mg "WORDS" = some (.ref (He.ga K "WORDS"))
  k_WORDS : ∀ H, SqT K H (He.ga K "WORDS") (v_WORDS.map (He.Dv.v K))
  g_PLAIN : mg "PLAIN" = some (.ref (He.ga K "PLAIN"))
  k_PLAIN : ∀ H, SqT K H (He.ga K "PLAIN") (v_PLAIN.map (He.Dv.v K))
  g_STACK : mg "STACK" = some (.ref (He.ga K "STACK"))
  k_STACK : ∃ es n, KDict K w (He.ga K "STACK") es n
  g_len : mg "len" = none
  g_isinstance : mg "isinstance" = none
  g_int : mg "int" = none
  g_bool : mg "bool" = none
  g_str : mg "str" = none
  g_range : mg "range" = none
  g_max : mg "max" = none
  g_min : mg "min" = none
  g_set : mg "set" = none
  p_STACK : stackB K = true
  m_STACK : missB K = true
variable {P : Program} {w : World} {K : PySem.W.Frag} {mg : Str → Option Value} {base : Heap} {a : Fds}
/-! ### words -/
abbrev V_WORDS : List V := v_WORDS.map fun d => match d with | .str x => .str x | _ => .non
abbrev oneS : List Str := ["push", "local", "field", "setlocal", "setfield", "jump", "unless"]
abbrev plainS : List Str := ["nil", "self", "add", "sub", "mul", "less", "most", "same", "not", "drop", "move", "print", "return"]
abbrev threeS : List Str := ["new", "call", "fork"]
abbrev nameS : List Str := ["get", "Box", "a1", "ofTwo"]
abbrev wrongS : List Str := ["", "if", "9a", "nil", "a b", "abcdefghijklm"]
def isName (z : Str) : Bool := !(decide (12 < (z.length : Int))) && (!(inV (.str z) V_WORDS) && (Txt.isascii z && (Txt.isalnum z && (match z.cps.toList with | c :: _ => Txt.isalpha ⟨#[c]⟩ | [] => false))))
def inTable (x : Str) : Bool := tableS.any fun q => q.1 == x
def plainW (x : Str) : Bool := inV (.str x) (plainS.map V.str)
def threeW (x : Str) : Bool := inV (.str x) (threeS.map V.str)
def isIntV : V → Bool
  | .int _ => true
  | _ => false
def isCountV : V → Bool
  | .int m => decide (0 ≤ m)
  | _ => false
/-- a number or a text -/
def Sc (v : V) : Prop := (∃ i, v = .int i) ∨ ∃ z : Str, v = .str z ∧ z.length ≤ 1000
def isThree : List V → Bool
  | [.str x, v] => isName x && isCountV v
  | _ => false
def isTwo (x : Str) : List V → Bool
  | [.int m] => decide (0 ≤ m) && (!decide (x = "push") || decide (m ≤ 1000000000000))
  | _ => false
def isInstr (x : Str) (rest : List V) : Bool := if plainW x then decide (rest = []) else if threeW x then isThree rest else inTable x && isTwo x rest
/-- need and effect -/
def meas (x : Str) (m : Int) : Int × Int := if x = "new" then (m, 1 - m) else if x = "call" then (m + 1, 0 - m) else if x = "fork" then (m + 1, 0 - m - 1) else (tableS.lookup x).getD (0, 0)
def known (x : Str) : Prop := x ∈ tableS.map (·.1) ∨ x ∈ lackS
theorem in_table {x : Str} (h : x ∈ tableS.map (·.1)) : inTable x = true := by
  obtain ⟨q, hq, rfl⟩ := List.mem_map.mp h
  exact List.any_eq_true.mpr ⟨q, hq, beq_self_eq_true _⟩
theorem in_lack : ∀ x ∈ lackS, inTable x = false := by decide +kernel
theorem lookS : ∀ q ∈ tableS, tableS.lookup q.1 = some q.2 := by decide +kernel
theorem notThree : ∀ q ∈ tableS, threeW q.1 = false ∧ ¬ q.1 = "new" ∧ ¬ q.1 = "call" ∧ ¬ q.1 = "fork" := by decide +kernel
theorem stack_at {K : PySem.W.Frag} (h : stackB K = true) {q : Str × Int × Int} (hq : q ∈ tableS) :
    ∃ p, PySem.W.nsIn K (He.ga K "STACK") q.1 = some (some (.ref p)) ∧ ∀ H, SqT K H p [.int q.2.1, .int q.2.2] := by
  have h2 := List.all_eq_true.mp h q hq
  split at h2
  · rename_i p e
    refine ⟨p, e, fun H => ?_⟩
    split at h2
    · rename_i c dd its n sl e2
      obtain ⟨h3, h4⟩ := He.ba h2
      obtain ⟨h5, h6⟩ := He.ba h4
      exact .inr ⟨_, its, n, e2, congrArg Value.type (of_decide_eq_true h3), rfl, of_decide_eq_true h5, He.relAll_ok h6⟩
    · cases h2
  · cases h2
theorem stack_no {K : PySem.W.Frag} (h : missB K = true) {x : Str} (hx : x ∈ lackS) : PySem.W.nsIn K (He.ga K "STACK") x = some none := of_decide_eq_true (List.all_eq_true.mp h x hx)
/-! ### is_name, is_integer, is_instruction -/
def spIsName : Sp := fun vs H Q _ => ∃ z : Str, vs = [.str z] ∧ z.length ≤ 1000 ∧ Q (.bl (isName z)) H
theorem ok_is_name (T : Txt K mg w a) : FnOk P w K mg base CX0 1 (He.ga K "is_name") a.d_is_name ["text"] spIsName := by
  refine T.F_is_name.ok sc_is_name (fun vs H Q E h => ?_) (fun cdv A outer s H vs Q E hr h => ?_)
  · obtain ⟨z, rfl, _⟩ := h
    rfl
  · obtain ⟨z, rfl, hz, q⟩ := h
    refine ⟨_, PSs.nox (pss_cons (ps_if (PW.pt (pw_or (pt_cmpR op_gt (pe_callB call_len_str (by rfl) T.g_len boot_len (pa_cons (pv 0) pa_nil)) (pe_glob (v := .int 12) (by rfl) T.g_MAX_NAME.choose_spec ⟨_, rfl⟩) (nomark _)) (pw_or1 (pt_cmpR op_in_seq (pv 0) (pe_glob (v := .ref (He.ga K "WORDS")) (by rfl) T.g_WORDS rfl) (by rfl))))) (pss_one (ps_ret pe_bl)) pss_nil)
      (pss_one (ps_ret (pe_and (pe_bm0 PySem.F.plainAttrs_str PySem.F.slot_str_isascii PySem.F.type_str_isascii mt_isascii (pv 0)) (pe_and (pe_bm0 PySem.F.plainAttrs_str PySem.F.slot_str_isalnum PySem.F.type_str_isalnum mt_isalnum (pv 0)) (pe_one (pe_bm0 PySem.F.plainAttrs_str PySem.F.slot_str_isalpha PySem.F.type_str_isalpha mt_isalpha (pe_ix ix_str (pv 0) pe_int (fun _ _ => rfl))))))))), ?_⟩
    refine ⟨.str z, rfl, z, rfl, Cm.small (by omega), _, _, rfl, rfl, _, rfl, Cm.itD (fun h1 => ?_) fun h1 => ?_⟩
    · have e : isName z = false := by
        unfold isName
        rw [decide_eq_true h1]
        rfl
      rw [e] at q
      exact q
    refine ⟨_, rfl, _, _, rfl, .inr (T.k_WORDS H), rfl, rfl, _, rfl, Cm.itV (fun h2 => ?_) fun h2 => ?_⟩
    · have e : isName z = false := by
        unfold isName
        rw [show inV (.str z) V_WORDS = true from h2]
        simp
      rw [e] at q
      exact q
    have e : isName z = (Txt.isascii z && (Txt.isalnum z && (match z.cps.toList with | c :: _ => Txt.isalpha ⟨#[c]⟩ | [] => false))) := by
      unfold isName
      rw [show inV (.str z) V_WORDS = false from h2, decide_eq_false h1]
      rfl
    rw [e] at q
    refine ⟨_, rfl, rfl, z, rfl, rfl, trivial, _, rfl, ?_⟩
    refine Cm.itB (fun h3 => ?_) fun h3 => ?_
    · rw [h3] at q
      refine ⟨_, rfl, rfl, z, rfl, rfl, trivial, _, rfl, ?_⟩
      refine Cm.itB (fun h4 => ?_) fun h4 => ?_
      · rw [h4] at q
        cases e2 : z.cps.toList with
        | nil =>
          have e3 : z = ⟨#[]⟩ := Cm.str_nil e2
          rw [e3] at h4
          cases h4
        | cons c r =>
          rw [e2] at q
          refine ⟨_, rfl, z, 0, c, rfl, rfl, Cm.small (by omega), ?_, rfl, _, rfl, rfl, trivial, q⟩
          rw [e2]
          exact atI_nat (j := 0) rfl
      · rw [h4] at q
        exact q
    · rw [h3] at q
      exact q
def spIsInt : Sp := fun vs H Q _ => ∃ x : V, vs = [x] ∧ Sc x ∧ Q (.bl (isIntV x)) H
theorem ok_is_integer (T : Txt K mg w a) : FnOk P w K mg base CX0 1 (He.ga K "is_integer") a.d_is_integer ["value"] spIsInt := by
  refine T.F_is_integer.ok sc_is_integer (fun vs H Q E h => ?_) (fun cdv A outer s H vs Q E hr h => ?_)
  · obtain ⟨z, rfl, _⟩ := h
    rfl
  · obtain ⟨x, rfl, hx, q⟩ := h
    refine ⟨_, PSs.nox (pss_one (ps_ret (pe_and (pe_callB call_isi (by rfl) T.g_isinstance boot_isinstance (pa_cons (pv 0) (pa_cons (pe_bltn (v := .ty "int") (by rfl) T.g_int boot_int rfl) pa_nil))) (pe_one (pe_not (pe_callB call_isi (by rfl) T.g_isinstance boot_isinstance (pa_cons (pv 0) (pa_cons (pe_bltn (v := .ty "bool") (by rfl) T.g_bool boot_bool rfl) pa_nil)))))))), ?_⟩
    rcases hx with ⟨i, rfl⟩ | ⟨z, rfl, _⟩
    · refine ⟨_, rfl, _, _, _, _, true, rfl, .ty "int", .base (.int i), kit_ty (by decide +kernel), _, rfl, iteT ?_⟩
      exact ⟨_, rfl, _, _, _, _, false, rfl, .ty "bool", .base (.int i), kit_ty (by decide +kernel), _, rfl, q⟩
    · refine ⟨_, rfl, _, _, _, _, false, rfl, .ty "int", .base (.str z), kit_ty (by decide +kernel), _, rfl, iteF ?_⟩
      exact q
def spIsCount : Sp := fun vs H Q _ => ∃ x : V, vs = [x] ∧ Sc x ∧ Q (.bl (isCountV x)) H
theorem ok_is_count (T : Txt K mg w a) : FnOk P w K mg base CX0 2 (He.ga K "_is_count") a.d_is_count ["value"] spIsCount := by
  refine T.F_is_count.ok sc_is_count (fun vs H Q E h => ?_) (fun cdv A outer s H vs Q E hr h => ?_)
  · obtain ⟨z, rfl, _⟩ := h
    rfl
  · obtain ⟨x, rfl, hx, q⟩ := h
    refine ⟨_, PSs.nox (pss_one (ps_ret (pe_and (pe_call (ok_is_integer T) (hr.mono (by omega)) (by rfl) T.g_is_integer T.F_is_integer.kp T.b_is_integer .nil pass0 (pa_cons (pv 0) pa_nil)) (pe_one (pe_cmpR op_ge (pv 0) pe_int (nomark _)))))), ?_⟩
    refine ⟨_, rfl, x, rfl, hx, _, rfl, ?_⟩
    rcases hx with ⟨i, rfl⟩ | ⟨z, rfl, _⟩
    · exact iteT ⟨_, rfl, _, _, rfl, rfl, q⟩
    · exact iteF q
def spIsInstr (K : PySem.W.Frag) : Sp := fun vs H Q _ => ∃ (p : Addr) (x : Str) (rest : List V), vs = [.ref p] ∧ SqT K H p (.str x :: rest) ∧ known x ∧ (∀ v ∈ rest, Sc v) ∧ rest.length ≤ 10 ∧ ∀ H', Same H H' → Q (.bl (isInstr x rest)) H'
theorem ok_is_instruction (T : Txt K mg w a) : FnOk P w K mg base CX0 3 (He.ga K "is_instruction") a.d_is_instruction ["value"] (spIsInstr K) := by
  refine T.F_is_instruction.ok sc_is_instruction (fun vs H Q E h => ?_) (fun cdv A outer s H vs Q E hr h => ?_)
  · obtain ⟨p, x, rest, rfl, _⟩ := h
    rfl
  · obtain ⟨p, x, rest, rfl, hp, hx, hs, hl, q⟩ := h
    refine ⟨_, PSs.nox (pss_cons (ps_set (i := 1) sc_is_instruction.nd rfl (Or.inl rfl) (pe_ix ix_tup (pv 0) pe_int (fun _ _ => rfl)))
      (pss_cons (ps_if (pt_cmpR op_in_seq (pv 1) (pe_glob (v := .ref (He.ga K "PLAIN")) (by rfl) T.g_PLAIN rfl) (by rfl)) (pss_one (ps_ret (pe_cmpR op_eq (pe_callB call_len_seq (by rfl) T.g_len boot_len (pa_cons (pv 0) pa_nil)) pe_int (nomark _)))) pss_nil)
      (pss_cons (ps_if (pt_cmpR op_in_seq (pv 1) (pe_tup (pa_cons pe_str (pa_cons pe_str (pa_cons pe_str pa_nil)))) (by rfl)) (pss_one (ps_ret (pe_and (pe_cmpR op_eq (pe_callB call_len_seq (by rfl) T.g_len boot_len (pa_cons (pv 0) pa_nil)) pe_int (nomark _)) (pe_and (pe_callB call_isi (by rfl) T.g_isinstance boot_isinstance (pa_cons (pe_ix ix_tup (pv 0) pe_int (fun _ _ => rfl)) (pa_cons (pe_bltn (v := .ty "str") (by rfl) T.g_str boot_str rfl) pa_nil))) (pe_and (pe_call (ok_is_name T) (hr.mono (by omega)) (by rfl) T.g_is_name T.F_is_name.kp T.b_is_name .nil pass0 (pa_cons (pe_ix ix_tup (pv 0) pe_int (fun _ _ => rfl)) pa_nil)) (pe_one (pe_call (ok_is_count T) (hr.mono (by omega)) (by rfl) T.g_is_count T.F_is_count.kp T.b_is_count .nil pass0 (pa_cons (pe_ix ix_tup (pv 0) pe_int (fun _ _ => rfl)) pa_nil)))))))) pss_nil)
      (pss_cons (ps_if (PW.pt (pw_or (pt_cmpR (op_notIn_kd T.k_STACK.choose_spec.choose_spec) (pv 1) (pe_glob (v := .ref (He.ga K "STACK")) (by rfl) T.g_STACK rfl) (by rfl)) (pw_or (pt_cmpR op_ne (pe_callB call_len_seq (by rfl) T.g_len boot_len (pa_cons (pv 0) pa_nil)) pe_int (nomark _)) (pw_or1 (pt_not (pt_val (pe_call (ok_is_count T) (hr.mono (by omega)) (by rfl) T.g_is_count T.F_is_count.kp T.b_is_count .nil pass0 (pa_cons (pe_ix ix_tup (pv 0) pe_int (fun _ _ => rfl)) pa_nil)))))))) (pss_one (ps_ret pe_bl)) pss_nil)
      (pss_one (ps_ret (pe_or (pe_cmpR op_ne (pv 1) pe_str (nomark _)) (pe_one (pe_cmpR op_le (pe_ix ix_tup (pv 0) pe_int (fun _ _ => rfl)) (pe_glob (v := .int 1000000000000) (by rfl) T.g_MAX_NUMBER.choose_spec ⟨_, rfl⟩) (nomark _)))))))))), ?_⟩
    -- word = value[0]
    refine ⟨_, rfl, p, _, 0, .str x, rfl, rfl, hp, atI_nat (j := 0) rfl, ?_⟩
    -- word in PLAIN
    refine ⟨_, rfl, _, _, rfl, .inr (T.k_PLAIN H), rfl, rfl, _, rfl, Cm.itV (fun h1 => ?_) fun h1 => ?_⟩
    · have e : isInstr x rest = decide (((.str x :: rest : List V).length : Int) = 1) := by
        unfold isInstr
        rw [if_pos (show plainW x = true from h1)]
        cases rest with
        | nil => rfl
        | cons v r =>
          rw [decide_eq_false (by simp), decide_eq_false (by simp only [List.length_cons]; omega)]
      rw [e] at q
      refine ⟨_, rfl, p, _, rfl, .inr hp, rfl, ?_⟩
      rw [Cm.deq_int]
      exact q H (Same.refl H)
    -- word in ("new", "call", "fork")
    refine ⟨_, rfl, Cm.small (by decide), fun t nt => ?_⟩
    have sT : Same H (upd H t (.tup [.str "new", .str "call", .str "fork"])) := Cm.same_new nt
    refine ⟨_, _, rfl, .inr Cm.sqt_new, rfl, rfl, _, rfl, Cm.itV (fun h2 => ?_) fun h2 => ?_⟩
    · have e : isInstr x rest = isThree rest := by
        unfold isInstr
        rw [if_neg (by rw [show plainW x = false from h1]; decide), if_pos (show threeW x = true from h2)]
      rw [e] at q
      have hpT := Cm.sameT sT hp
      have q' : Q (.bl (isThree rest)) (upd H t (.tup [.str "new", .str "call", .str "fork"])) := q _ sT
      refine ⟨_, rfl, p, _, rfl, .inr hpT, rfl, _, rfl, ?_⟩
      rw [Cm.deq_int]
      refine Cm.itD (fun h3 => ?_) fun h3 => ?_
      · obtain ⟨v, u, rfl⟩ : ∃ v u, rest = [v, u] := by
          match rest, h3 with
          | [], h3 =>
            simp only [List.length_cons, List.length_nil] at h3
            omega
          | [v], h3 =>
            simp only [List.length_cons, List.length_nil] at h3
            omega
          | [v, u], _ => exact ⟨v, u, rfl⟩
          | v :: u :: z :: r, h3 =>
            simp only [List.length_cons] at h3
            omega
        have hv : Sc v := hs v (by simp)
        have hu : Sc u := hs u (by simp)
        refine ⟨_, rfl, p, _, 1, v, rfl, rfl, hpT, atI_nat (j := 1) rfl, ?_⟩
        rcases hv with ⟨i, rfl⟩ | ⟨z, rfl, hz⟩
        · refine ⟨_, _, _, _, false, rfl, .ty "str", .base (.int i), kit_ty (by decide +kernel), _, rfl, iteF ?_⟩
          exact q'
        · refine ⟨_, _, _, _, true, rfl, .ty "str", .base (.str z), kit_ty (by decide +kernel), _, rfl, iteT ?_⟩
          refine ⟨_, rfl, p, _, 1, .str z, rfl, rfl, hpT, atI_nat (j := 1) rfl, z, rfl, hz, _, rfl, ?_⟩
          refine Cm.itB (fun h4 => ?_) fun h4 => ?_
          · refine ⟨_, rfl, p, _, 2, u, rfl, rfl, hpT, atI_nat (j := 2) rfl, u, rfl, hu, ?_⟩
            have e2 : isThree [.str z, u] = isCountV u := by
              show (isName z && isCountV u) = isCountV u
              rw [h4]
              rfl
            rw [e2] at q'
            exact q'
          · have e2 : isThree [.str z, u] = false := by
              show (isName z && isCountV u) = false
              rw [h4]
              rfl
            rw [e2] at q'
            exact q'
      · have e2 : isThree rest = false := by
          match rest, h3 with
          | [], _ => rfl
          | [v], _ => cases v <;> rfl
          | [v, u], h3 => exact absurd rfl h3
          | v :: u :: z :: r, _ => cases v <;> rfl
        rw [e2] at q'
        exact q'
    have e : isInstr x rest = (inTable x && isTwo x rest) := by
      unfold isInstr
      rw [if_neg (by rw [show plainW x = false from h1]; decide), if_neg (by rw [show threeW x = false from h2]; decide)]
    rw [e] at q
    have hpT := Cm.sameT sT hp
    have q' : Q (.bl (inTable x && isTwo x rest)) (upd H t (.tup [.str "new", .str "call", .str "fork"])) := q _ sT
    -- word not in STACK
    rcases hx with hx | hx
    · obtain ⟨r, hr, rfl⟩ := List.mem_map.mp hx
      obtain ⟨ps, e1, _⟩ := stack_at T.p_STACK hr
      rw [in_table hx] at q'
      refine ⟨_, rfl, r.1, _, rfl, rfl, e1, _, rfl, iteF ?_⟩
      refine ⟨_, rfl, p, _, rfl, .inr hpT, rfl, _, rfl, ?_⟩
      rw [Cm.deq_int]
      refine Cm.itDn (fun h3 => ?_) fun h3 => ?_
      · have e2 : isTwo r.1 rest = false := by
          match rest, h3 with
          | [], _ => rfl
          | [v], h3 => exact absurd rfl h3
          | v :: u :: z, _ => cases v <;> rfl
        rw [e2] at q'
        exact q'
      · obtain ⟨v, rfl⟩ : ∃ v, rest = [v] := by
          match rest, h3 with
          | [], h3 =>
            simp only [List.length_cons, List.length_nil] at h3
            omega
          | [v], _ => exact ⟨v, rfl⟩
          | v :: u :: z, h3 =>
            simp only [List.length_cons] at h3
            omega
        have hv : Sc v := hs v (by simp)
        refine ⟨_, rfl, p, _, 1, v, rfl, rfl, hpT, atI_nat (j := 1) rfl, v, rfl, hv, _, rfl, ?_⟩
        refine Cm.itBn (fun h4 => ?_) fun h4 => ?_
        · have e2 : isTwo r.1 [v] = false := by
            rcases hv with ⟨i, rfl⟩ | ⟨z, rfl, _⟩
            · show (isCountV (.int i) && _) = false
              rw [h4]
              rfl
            · rfl
          rw [e2] at q'
          exact q'
        · obtain ⟨i, rfl⟩ : ∃ i, v = .int i := by
            rcases hv with ⟨i, rfl⟩ | ⟨z, rfl, _⟩
            · exact ⟨i, rfl⟩
            · cases h4
          have e2 : isTwo r.1 [.int i] = (!decide (r.1 = "push") || decide (i ≤ 1000000000000)) := by
            show (isCountV (.int i) && (!decide (r.1 = "push") || decide (i ≤ 1000000000000))) = _
            rw [h4]
            rfl
          rw [e2] at q'
          refine ⟨_, rfl, rfl, _, rfl, ?_⟩
          rw [Cm.deq_str]
          refine Cm.itDn (fun h5 => ?_) fun h5 => ?_
          · rw [decide_eq_false h5] at q'
            exact q'
          · rw [decide_eq_true h5] at q'
            refine ⟨_, rfl, p, _, 1, .int i, rfl, rfl, hpT, atI_nat (j := 1) rfl, _, _, rfl, rfl, q'⟩
    · rw [in_lack x hx] at q'
      exact ⟨_, rfl, x, _, rfl, rfl, stack_no T.m_STACK hx, _, rfl, iteT q'⟩
/-! ### need and effect -/
def spMeas (K : PySem.W.Frag) (g : Str → Int → Int) : Sp := fun vs H Q _ => ∃ (p : Addr) (x : Str) (rest : List V) (m : Int), vs = [.ref p] ∧ SqT K H p (.str x :: rest) ∧ ((x ∈ threeS ∧ ∃ v, rest = [v, .int m]) ∨ x ∈ tableS.map (·.1)) ∧ ∀ H', Same H H' → Q (.int (g x m)) H'
theorem meas_new (m : Int) : meas "new" m = (m, 1 - m) := rfl
theorem meas_call (m : Int) : meas "call" m = (m + 1, 0 - m) := rfl
theorem meas_fork (m : Int) : meas "fork" m = (m + 1, 0 - m - 1) := rfl
theorem meas_tab {q : Str × Int × Int} (h : q ∈ tableS) (m : Int) : meas q.1 m = q.2 := by
  obtain ⟨_, h1, h2, h3⟩ := notThree q h
  unfold meas
  rw [if_neg h1, if_neg h2, if_neg h3, lookS q h]
  rfl
theorem kdct {w : World} {K : PySem.W.Frag} {d p : Addr} {x : Str} (k : ∃ es n, KDict K w d es n) (h : PySem.W.nsIn K d x = some (some (.ref p))) : KDct K w d x (.ref p) := by
  obtain ⟨es, n, D⟩ := k
  exact ⟨es, n, _, D.at_, D.lit, h, rfl⟩
theorem three_of {x : Str} (h : x ∈ threeS) : x = "new" ∨ x = "call" ∨ x = "fork" := by
  simp only [List.mem_cons, List.not_mem_nil, or_false] at h
  exact h
theorem ok_need (T : Txt K mg w a) : FnOk P w K mg base CX0 1 (He.ga K "need") a.d_need ["instruction"] (spMeas K fun x m => (meas x m).1) := by
  refine T.F_need.ok sc_need (fun vs H Q E h => ?_) (fun cdv A outer s H vs Q E hr h => ?_)
  · obtain ⟨p, x, rest, m, rfl, _⟩ := h
    rfl
  · obtain ⟨p, x, rest, m, rfl, hp, hx, q⟩ := h
    refine ⟨_, PSs.nox (pss_cons (ps_set (i := 1) sc_need.nd rfl (Or.inl rfl) (pe_ix ix_tup (pv 0) pe_int (fun _ _ => rfl)))
      (pss_cons (ps_if (pt_cmpR op_eq (pv 1) pe_str (nomark _)) (pss_one (ps_ret (pe_ix ix_tup (pv 0) pe_int (fun _ _ => rfl)))) pss_nil)
      (pss_cons (ps_if (PW.pt (pw_or (pt_cmpR op_eq (pv 1) pe_str (nomark _)) (pw_or1 (pt_cmpR op_eq (pv 1) pe_str (nomark _))))) (pss_one (ps_ret (pe_op op_add (pe_ix ix_tup (pv 0) pe_int (fun _ _ => rfl)) pe_int))) pss_nil)
      (pss_one (ps_ret (pe_ix ix_tup (pe_ix ix_kdict (pe_glob (v := .ref (He.ga K "STACK")) (by rfl) T.g_STACK rfl) (pv 1) (fun _ _ => rfl)) pe_int (fun _ _ => rfl))))))), ?_⟩
    refine ⟨_, rfl, p, _, 0, .str x, rfl, rfl, hp, atI_nat (j := 0) rfl, ?_⟩
    refine ⟨_, rfl, rfl, _, rfl, ?_⟩
    rw [Cm.deq_str]
    rcases hx with ⟨h3, v, rfl⟩ | hx
    · rcases three_of h3 with rfl | rfl | rfl
      · refine Cm.itD (fun _ => ?_) fun h => absurd rfl h
        exact ⟨_, rfl, p, _, 2, .int m, rfl, rfl, hp, atI_nat (j := 2) rfl, q H (Same.refl H)⟩
      · refine Cm.itD (fun h => absurd h (by decide)) fun _ => ?_
        refine ⟨_, rfl, rfl, _, rfl, ?_⟩
        rw [Cm.deq_str]
        refine Cm.itD (fun _ => ?_) fun h => absurd rfl h
        exact ⟨_, rfl, p, _, 2, .int m, rfl, rfl, hp, atI_nat (j := 2) rfl, _, _, rfl, rfl, q H (Same.refl H)⟩
      · refine Cm.itD (fun h => absurd h (by decide)) fun _ => ?_
        refine ⟨_, rfl, rfl, _, rfl, ?_⟩
        rw [Cm.deq_str]
        refine Cm.itD (fun h => absurd h (by decide)) fun _ => ?_
        refine ⟨_, rfl, rfl, _, rfl, ?_⟩
        rw [Cm.deq_str]
        refine Cm.itD (fun _ => ?_) fun h => absurd rfl h
        exact ⟨_, rfl, p, _, 2, .int m, rfl, rfl, hp, atI_nat (j := 2) rfl, _, _, rfl, rfl, q H (Same.refl H)⟩
    · obtain ⟨r, hr, rfl⟩ := List.mem_map.mp hx
      obtain ⟨_, h1, h2, h3⟩ := notThree r hr
      obtain ⟨ps, e1, hps⟩ := stack_at T.p_STACK hr
      refine Cm.itD (fun h => absurd h h1) fun _ => ?_
      refine ⟨_, rfl, rfl, _, rfl, ?_⟩
      rw [Cm.deq_str]
      refine Cm.itD (fun h => absurd h h2) fun _ => ?_
      refine ⟨_, rfl, rfl, _, rfl, ?_⟩
      rw [Cm.deq_str]
      refine Cm.itD (fun h => absurd h h3) fun _ => ?_
      have q' : Q (.int (meas r.1 m).1) H := q H (Same.refl H)
      rw [meas_tab hr] at q'
      exact ⟨_, rfl, _, r.1, .ref ps, rfl, rfl, kdct T.k_STACK e1, ps, _, 0, .int r.2.1, rfl, rfl, hps H, atI_nat (j := 0) rfl, q'⟩
theorem ok_effect (T : Txt K mg w a) : FnOk P w K mg base CX0 1 (He.ga K "effect") a.d_effect ["instruction"] (spMeas K fun x m => (meas x m).2) := by
  refine T.F_effect.ok sc_effect (fun vs H Q E h => ?_) (fun cdv A outer s H vs Q E hr h => ?_)
  · obtain ⟨p, x, rest, m, rfl, _⟩ := h
    rfl
  · obtain ⟨p, x, rest, m, rfl, hp, hx, q⟩ := h
    refine ⟨_, PSs.nox (pss_cons (ps_set (i := 1) sc_effect.nd rfl (Or.inl rfl) (pe_ix ix_tup (pv 0) pe_int (fun _ _ => rfl)))
      (pss_cons (ps_if (pt_cmpR op_eq (pv 1) pe_str (nomark _)) (pss_one (ps_ret (pe_op op_sub pe_int (pe_ix ix_tup (pv 0) pe_int (fun _ _ => rfl))))) pss_nil)
      (pss_cons (ps_if (pt_cmpR op_eq (pv 1) pe_str (nomark _)) (pss_one (ps_ret (pe_un un_neg (pe_ix ix_tup (pv 0) pe_int (fun _ _ => rfl))))) pss_nil)
      (pss_cons (ps_if (pt_cmpR op_eq (pv 1) pe_str (nomark _)) (pss_one (ps_ret (pe_op op_sub (pe_un un_neg (pe_ix ix_tup (pv 0) pe_int (fun _ _ => rfl))) pe_int))) pss_nil)
      (pss_one (ps_ret (pe_ix ix_tup (pe_ix ix_kdict (pe_glob (v := .ref (He.ga K "STACK")) (by rfl) T.g_STACK rfl) (pv 1) (fun _ _ => rfl)) pe_int (fun _ _ => rfl)))))))), ?_⟩
    refine ⟨_, rfl, p, _, 0, .str x, rfl, rfl, hp, atI_nat (j := 0) rfl, ?_⟩
    refine ⟨_, rfl, rfl, _, rfl, ?_⟩
    rw [Cm.deq_str]
    rcases hx with ⟨h3, v, rfl⟩ | hx
    · have q' := q H (Same.refl H)
      rcases three_of h3 with rfl | rfl | rfl
      · refine Cm.itD (fun _ => ?_) fun h => absurd rfl h
        exact ⟨_, rfl, p, _, 2, .int m, rfl, rfl, hp, atI_nat (j := 2) rfl, _, _, rfl, rfl, q'⟩
      · refine Cm.itD (fun h => absurd h (by decide)) fun _ => ?_
        refine ⟨_, rfl, rfl, _, rfl, ?_⟩
        rw [Cm.deq_str]
        refine Cm.itD (fun _ => ?_) fun h => absurd rfl h
        have q' : Q (.int (-m)) H := by
          rw [← show (meas "call" m).2 = -m from Int.zero_sub m]
          exact q'
        exact ⟨_, rfl, p, _, 2, .int m, rfl, rfl, hp, atI_nat (j := 2) rfl, _, rfl, q'⟩
      · refine Cm.itD (fun h => absurd h (by decide)) fun _ => ?_
        refine ⟨_, rfl, rfl, _, rfl, ?_⟩
        rw [Cm.deq_str]
        refine Cm.itD (fun h => absurd h (by decide)) fun _ => ?_
        refine ⟨_, rfl, rfl, _, rfl, ?_⟩
        rw [Cm.deq_str]
        refine Cm.itD (fun _ => ?_) fun h => absurd rfl h
        have q' : Q (.int (-m - 1)) H := by
          rw [← show (meas "fork" m).2 = -m - 1 from congrArg (· - 1) (Int.zero_sub m)]
          exact q'
        exact ⟨_, rfl, p, _, 2, .int m, rfl, rfl, hp, atI_nat (j := 2) rfl, _, rfl, _, _, rfl, rfl, q'⟩
    · obtain ⟨r, hr, rfl⟩ := List.mem_map.mp hx
      obtain ⟨_, h1, h2, h3⟩ := notThree r hr
      obtain ⟨ps, e1, hps⟩ := stack_at T.p_STACK hr
      refine Cm.itD (fun h => absurd h h1) fun _ => ?_
      refine ⟨_, rfl, rfl, _, rfl, ?_⟩
      rw [Cm.deq_str]
      refine Cm.itD (fun h => absurd h h2) fun _ => ?_
      refine ⟨_, rfl, rfl, _, rfl, ?_⟩
      rw [Cm.deq_str]
      refine Cm.itD (fun h => absurd h h3) fun _ => ?_
      have q' : Q (.int (meas r.1 m).2) H := q H (Same.refl H)
      rw [meas_tab hr] at q'
      exact ⟨_, rfl, _, r.1, .ref ps, rfl, rfl, kdct T.k_STACK e1, ps, _, 1, .int r.2.2, rfl, rfl, hps H, atI_nat (j := 1) rfl, q'⟩
/-! ### cells and numbers -/
def spCell (K : PySem.W.Frag) : Sp := fun vs H Q _ => ∃ (l : Addr) (ns : List Int) (j : Nat), vs = [.ref l, .int j] ∧ SqL K H l (ns.map V.int) ∧ ∀ c : Int, Q (.int c) H
theorem ok_lw_cell (T : Txt K mg w a) : FnOk P w K mg base CX0 1 (He.ga K "_law_cell") a.d_lw_cell ["script", "k"] (spCell K) := by
  refine T.F_lw_cell.ok sc_lw_cell (fun vs H Q E h => ?_) (fun cdv A outer s H vs Q E hr h => ?_)
  · obtain ⟨l, ns, j, rfl, _⟩ := h
    rfl
  · obtain ⟨l, ns, j, rfl, hl, q⟩ := h
    refine ⟨_, PSs.nox (pss_cons (ps_if (pt_cmpR op_lt (pv 1) (pe_callB call_len_seq (by rfl) T.g_len boot_len (pa_cons (pv 0) pa_nil)) (nomark _)) (pss_one (ps_ret (pe_ix ix_list (pv 0) (pv 1) (fun _ _ => rfl)))) pss_nil)
      (pss_one (ps_ret pe_int))), ?_⟩
    refine ⟨_, rfl, _, rfl, l, _, rfl, .inl hl, _, _, rfl, rfl, _, rfl, Cm.itD (fun h => ?_) fun h => ?_⟩
    · rw [List.length_map] at h
      obtain ⟨n, _, e⟩ := Cm.at_int (ns := ns) (i := (j : Int)) (by omega) h
      exact ⟨_, rfl, _, rfl, l, _, _, _, rfl, rfl, hl, e, q n⟩
    · exact q 0
def spNums : Sp := fun vs H Q _ => ∃ (c : Int) (k many : Nat), vs = [.int c, .int k, .int many] ∧ k ≤ 1000 ∧ many ≤ 100 ∧
  ∀ (H' : Hp) (p : Addr) (ns : List Int), Same H H' → H p = none → H' p = some (.lst (ns.map V.int)) → ns.length = many → (∀ n ∈ ns, 0 ≤ n ∧ n < 1000) → Q (.ref p) H'
theorem p1000 : (0 : Int) < 1000 := by decide
theorem pM : (0 : Int) < 2147483647 := by decide
theorem pM2 : (0 : Int) < 1000000007 := by decide
theorem modM (z : Int) : 0 ≤ z % 2147483647 ∧ z % 2147483647 < 2147483647 := by omega
theorem mulM {y : Int} (h : 0 ≤ y ∧ y < 2147483647) : -(2 ^ 64) < y ∧ y < 2 ^ 64 := by omega
theorem mod_ok (x : Int) : 0 ≤ x % 1000 ∧ x % 1000 < 1000 := by omega
theorem ok_lw_numbers (T : Txt K mg w a) : FnOk P w K mg base CX0 1 (He.ga K "_law_numbers") a.d_lw_numbers ["cell", "k", "many"] spNums := by
  refine T.F_lw_numbers.ok sc_lw_numbers (fun vs H Q E h => ?_) (fun cdv A outer s H vs Q E hr h => ?_)
  · obtain ⟨c, k, many, rfl, _⟩ := h
    rfl
  · obtain ⟨c, k, many, rfl, hk, hm, q⟩ := h
    refine ⟨_, PSs.nox (pss_cons (ps_set (i := 3) sc_lw_numbers.nd rfl (Or.inl rfl) (pe_lst pa_nil))
      (pss_cons (ps_if (pt_cmpR op_ge (pv 0) (pe_op op_pow pe_int pe_int) (nomark _)) (pss_cons (ps_set (i := 4) sc_lw_numbers.nd rfl (Or.inl rfl) (pv 0))
      (pss_cons (ps_for PassesOwn.never rfl (pi_range1 (by rfl) T.g_range (pa_cons (pv 2) pa_nil)) (pg_name (i := 5) sc_lw_numbers.nd rfl (Or.inl rfl))
      (pss_cons (ps_expr (pe_bm PySem.F.plainAttrs_list PySem.F.slot_list_append PySem.F.type_list_append mt_append (pv 3) (pa_cons (pe_op op_mod (pe_callTy call_int1 (by rfl) T.g_int boot_int (pa_cons (pv 4) pa_nil)) pe_int) pa_nil)))
      (pss_one (ps_set (i := 4) sc_lw_numbers.nd rfl (Or.inl rfl) (pe_op op_fdiv (pv 4) pe_int)))))
      (pss_one (ps_ret (pv 3))))) pss_nil)
      (pss_cons (ps_set (i := 6) sc_lw_numbers.nd rfl (Or.inl rfl) (pe_op op_mod (pe_callTy call_int1 (by rfl) T.g_int boot_int (pa_cons (pe_op op_add (pe_op op_add (pe_op op_mul (pv 0) pe_int) (pe_op op_mul (pv 1) pe_int)) pe_int) pa_nil)) pe_int))
      (pss_cons (ps_for PassesOwn.never rfl (pi_range1 (by rfl) T.g_range (pa_cons (pv 2) pa_nil)) (pg_name (i := 5) sc_lw_numbers.nd rfl (Or.inl rfl))
      (pss_cons (ps_set (i := 6) sc_lw_numbers.nd rfl (Or.inl rfl) (pe_op op_mod (pe_callTy call_int1 (by rfl) T.g_int boot_int (pa_cons (pe_op op_add (pe_op op_add (pe_op op_mul (pv 6) pe_int) (pe_op op_mul (pv 5) pe_int)) pe_int) pa_nil)) pe_int))
      (pss_cons (ps_set (i := 7) sc_lw_numbers.nd rfl (Or.inl rfl) (pe_op op_mod (pe_callTy call_int1 (by rfl) T.g_int boot_int (pa_cons (pe_op op_add (pe_op op_add (pe_op op_mul (pv 6) (pv 6)) (pe_op op_mul (pv 1) pe_int)) (pv 5)) pa_nil)) pe_int))
      (pss_one (ps_expr (pe_bm PySem.F.plainAttrs_list PySem.F.slot_list_append PySem.F.type_list_append mt_append (pv 3) (pa_cons (pe_op op_mod (pe_callTy call_int1 (by rfl) T.g_int boot_int (pa_cons (pe_op op_fdiv (pv 7) pe_int) pa_nil)) pe_int) pa_nil)))))))
      (pss_one (ps_ret (pv 3))))))), ?_⟩
    -- numbers = []
    refine ⟨Nat.zero_le _, fun p np => ?_⟩
    have s0 : Same H (upd H p (.lst [])) := Cm.same_new np
    -- cell >= 10 ** 18
    refine ⟨_, rfl, _, _, rfl, rfl, ⟨by decide, by decide, by decide⟩, _, _, rfl, rfl, _, rfl, Cm.itD (fun _ => ?_) fun _ => ?_⟩
    · -- rest = cell
      refine ⟨_, rfl, ?_⟩
      refine ⟨_, rfl, (many : Int), rfl, by omega, by omega, ?_⟩
      rw [Int.toNat_natCast]
      refine for_range (fun i σ H2 => ∃ (ns : List Int) (r : Int) (x5 x6 x7 : Option V), σ = [some (.int c), some (.int k), some (.int many), some (.ref p), some (.int r), x5, x6, x7] ∧ Same H H2 ∧ H2 p = some (.lst (ns.map V.int)) ∧ ns.length = i ∧ ∀ n ∈ ns, 0 ≤ n ∧ n < 1000)
        ⟨[], c, none, none, none, rfl, s0, upd_same, rfl, fun n h => nomatch h⟩ (fun i σ H2 hi ⟨ns, r, x5, x6, x7, e, s2, hp, hn, ha⟩ => ?_) fun σ H2 ⟨ns, r, x5, x6, x7, e, s2, hp, hn, ha⟩ => ?_
      · subst e
        refine ⟨_, rfl, .inl ⟨rfl, _, SqL.of hp⟩, _, rfl, .inl ⟨_, rfl, _, _, rfl, rfl, p1000, ?_⟩⟩
        refine ⟨p, _, _, rfl, rfl, hp, Cm.smallL (by rw [List.length_map]; omega), ?_⟩
        refine ⟨_, rfl, _, _, rfl, rfl, ⟨by decide, by decide⟩, ?_⟩
        refine ⟨ns ++ [r % 1000], r / 1000, _, x6, x7, rfl, Cm.same_mut s2 np, ?_, by rw [List.length_append, hn]; rfl, fun n h => ?_⟩
        · rw [upd_same, List.map_append]
          rfl
        · rcases List.mem_append.mp h with h | h
          · exact ha n h
          · rw [List.mem_singleton.mp h]
            exact mod_ok r
      · subst e
        exact ⟨_, rfl, q H2 p ns s2 np hp hn ha⟩
    · refine ⟨_, rfl, _, _, rfl, rfl, .inr ⟨by decide, by decide⟩, _, rfl, _, _, rfl, rfl, .inr ⟨by decide, by decide⟩, _, _, rfl, rfl, _, _, rfl, rfl, .inl ⟨_, rfl, _, _, rfl, rfl, pM, ?_⟩⟩
      refine ⟨_, rfl, (many : Int), rfl, by omega, by omega, ?_⟩
      rw [Int.toNat_natCast]
      refine for_range (fun i σ H2 => ∃ (ns : List Int) (r : Int) (x4 x5 x7 : Option V), σ = [some (.int c), some (.int k), some (.int many), some (.ref p), x4, x5, some (.int r), x7] ∧ (0 ≤ r ∧ r < 2147483647) ∧ Same H H2 ∧ H2 p = some (.lst (ns.map V.int)) ∧ ns.length = i ∧ ∀ n ∈ ns, 0 ≤ n ∧ n < 1000)
        ⟨[], _, none, none, none, rfl, ⟨by omega, by omega⟩, s0, upd_same, rfl, fun n h => nomatch h⟩ (fun i σ H2 hi ⟨ns, r, x4, x5, x7, e, hr, s2, hp, hn, ha⟩ => ?_) fun σ H2 ⟨ns, r, x4, x5, x7, e, _, s2, hp, hn, ha⟩ => ?_
      · subst e
        refine ⟨_, rfl, _, _, rfl, rfl, .inr ⟨by decide, by decide⟩, _, rfl, _, _, rfl, rfl, .inr ⟨by decide, by decide⟩, _, _, rfl, rfl, _, _, rfl, rfl, .inl ⟨_, rfl, _, _, rfl, rfl, pM, ?_⟩⟩
        have hy2 := modM (r * 16807 + (0 + (i : Int)) * 7919 + 13)
        refine ⟨_, rfl, _, rfl, _, _, rfl, rfl, .inl (mulM hy2), _, rfl, _, _, rfl, rfl, .inr ⟨by decide, by decide⟩, _, _, rfl, rfl, _, rfl, _, _, rfl, rfl, .inl ⟨_, rfl, _, _, rfl, rfl, pM2, ?_⟩⟩
        refine ⟨_, rfl, .inl ⟨rfl, _, SqL.of hp⟩, _, rfl, _, _, rfl, rfl, ⟨by decide, by decide⟩, .inl ⟨_, rfl, _, _, rfl, rfl, p1000, ?_⟩⟩
        refine ⟨p, _, _, rfl, rfl, hp, Cm.smallL (by rw [List.length_map]; omega), ?_⟩
        refine ⟨ns ++ [((r * 16807 + (0 + (i : Int)) * 7919 + 13) % 2147483647 * ((r * 16807 + (0 + (i : Int)) * 7919 + 13) % 2147483647) + (k : Int) * 31 + (0 + (i : Int))) % 1000000007 / 101 % 1000], _, x4, _, _, rfl, hy2, Cm.same_mut s2 np, ?_, by rw [List.length_append, hn]; rfl, fun n h => ?_⟩
        · rw [upd_same, List.map_append]
          rfl
        · rcases List.mem_append.mp h with h | h
          · exact ha n h
          · rw [List.mem_singleton.mp h]
            exact mod_ok _
      · subst e
        exact ⟨_, rfl, q H2 p ns s2 np hp hn ha⟩
/-! ### rows, good and bad -/
inductive Good : List V → Prop
  | plain {x : Str} (h : x ∈ plainS) : Good [.str x]
  | one {x : Str} {n : Int} (h : x ∈ oneS) (h0 : 0 ≤ n) (h1 : n ≤ 1000000000000) : Good [.str x, .int n]
  | three {x y : Str} {n : Int} (h : x ∈ threeS) (hy : y ∈ nameS) (h0 : 0 ≤ n) : Good [.str x, .str y, .int n]
def spGood : Sp := fun vs H Q _ => ∃ pick n : Int, vs = [.int pick, .int n] ∧ 0 ≤ pick ∧ 0 ≤ n ∧ n ≤ 1000000000000 ∧ ∀ (H' : Hp) (p : Addr) (xs : List V), Same H H' → H' p = some (.tup xs) → Good xs → Q (.ref p) H'
theorem ok_lw_good (T : Txt K mg w a) : FnOk P w K mg base CX0 1 (He.ga K "_law_good") a.d_lw_good ["pick", "n"] spGood := by
  refine T.F_lw_good.ok sc_lw_good (fun vs H Q E h => ?_) (fun cdv A outer s H vs Q E hr h => ?_)
  · obtain ⟨c, k, rfl, _⟩ := h
    rfl
  · obtain ⟨c, n, rfl, hc, hn, hn2, q⟩ := h
    refine ⟨_, PSs.nox (pss_cons (ps_set (i := 2) sc_lw_good.nd rfl (Or.inl rfl) (pe_lst (pa_cons pe_str (pa_cons pe_str (pa_cons pe_str (pa_cons pe_str (pa_cons pe_str (pa_cons pe_str (pa_cons pe_str (pa_cons pe_str (pa_cons pe_str (pa_cons pe_str (pa_cons pe_str (pa_cons pe_str (pa_cons pe_str pa_nil)))))))))))))))
      (pss_cons (ps_set (i := 3) sc_lw_good.nd rfl (Or.inl rfl) (pe_lst (pa_cons pe_str (pa_cons pe_str (pa_cons pe_str (pa_cons pe_str (pa_cons pe_str (pa_cons pe_str (pa_cons pe_str pa_nil)))))))))
      (pss_cons (ps_if (pt_cmpR op_eq (pe_op op_mod (pv 0) pe_int) pe_int (nomark _)) (pss_one (ps_ret (pe_tup (pa_cons (pe_ix ix_list (pv 2) (pe_op op_mod (pe_callTy call_int1 (by rfl) T.g_int boot_int (pa_cons (pe_op op_fdiv (pv 0) pe_int) pa_nil)) (pe_callB call_len_seq (by rfl) T.g_len boot_len (pa_cons (pv 2) pa_nil))) (fun _ _ => rfl)) pa_nil)))) pss_nil)
      (pss_cons (ps_if (pt_cmpR op_eq (pe_op op_mod (pv 0) pe_int) pe_int (nomark _)) (pss_one (ps_ret (pe_tup (pa_cons (pe_ix ix_list (pv 3) (pe_op op_mod (pe_callTy call_int1 (by rfl) T.g_int boot_int (pa_cons (pe_op op_fdiv (pv 0) pe_int) pa_nil)) (pe_callB call_len_seq (by rfl) T.g_len boot_len (pa_cons (pv 3) pa_nil))) (fun _ _ => rfl)) (pa_cons (pv 1) pa_nil))))) pss_nil)
      (pss_one (ps_ret (pe_tup (pa_cons (pe_ix ix_list (pe_lst (pa_cons pe_str (pa_cons pe_str (pa_cons pe_str pa_nil)))) (pe_op op_mod (pe_op op_fdiv (pv 0) pe_int) pe_int) (fun _ _ => rfl)) (pa_cons (pe_ix ix_list (pe_lst (pa_cons pe_str (pa_cons pe_str (pa_cons pe_str (pa_cons pe_str pa_nil))))) (pe_op op_mod (pe_op op_fdiv (pv 0) pe_int) pe_int) (fun _ _ => rfl)) (pa_cons (pe_op op_mod (pv 1) pe_int) pa_nil)))))))))), ?_⟩
    refine ⟨Cm.small (by decide), fun p np => ?_⟩
    have s1 : Same H (upd H p (.lst (plainS.map V.str))) := Cm.same_new np
    refine ⟨Cm.small (by decide), fun p2 np2 => ?_⟩
    have s2 := s1.trans (Cm.same_new (o := .lst (oneS.map V.str)) np2)
    have hp1 : (upd (upd H p (.lst (plainS.map V.str))) p2 (.lst (oneS.map V.str))) p = some (.lst (plainS.map V.str)) := by
      rw [upd_ne (ne_of_none upd_same np2)]
      exact upd_same
    have hp2 : (upd (upd H p (.lst (plainS.map V.str))) p2 (.lst (oneS.map V.str))) p2 = some (.lst (oneS.map V.str)) := upd_same
    refine ⟨_, rfl, _, _, rfl, rfl, (by show (0 : Int) < 3; decide), rfl, _, rfl, ?_⟩
    rw [Cm.deq_int]
    refine Cm.itD (fun h => ?_) fun h => ?_
    · obtain ⟨x, hx, e⟩ := Cm.at_str (ws := plainS) (i := c / 3 % 13) (by omega) (by show c / 3 % 13 < 13; omega)
      refine ⟨_, rfl, _, rfl, _, _, rfl, rfl, ⟨by decide, by decide⟩, .inl ⟨_, rfl, _, rfl, p, _, rfl, .inl (SqL.of hp1), _, _, rfl, rfl, (by show (0 : Int) < 13; decide), p, _, _, _, rfl, rfl, SqL.of hp1, e, ?_⟩⟩
      exact ⟨Cm.small (by show 1 ≤ 100000; decide), fun p3 np3 => q _ p3 _ (s2.trans (Cm.same_new np3)) upd_same (.plain hx)⟩
    refine ⟨_, rfl, _, _, rfl, rfl, (by show (0 : Int) < 3; decide), rfl, _, rfl, ?_⟩
    rw [Cm.deq_int]
    refine Cm.itD (fun h => ?_) fun h => ?_
    · obtain ⟨x, hx, e⟩ := Cm.at_str (ws := oneS) (i := c / 3 % 7) (by omega) (by show c / 3 % 7 < 7; omega)
      refine ⟨_, rfl, _, rfl, _, _, rfl, rfl, ⟨by decide, by decide⟩, .inl ⟨_, rfl, _, rfl, p2, _, rfl, .inl (SqL.of hp2), _, _, rfl, rfl, (by show (0 : Int) < 7; decide), p2, _, _, _, rfl, rfl, SqL.of hp2, e, ?_⟩⟩
      exact ⟨_, rfl, Cm.small (by show 2 ≤ 100000; decide), fun p3 np3 => q _ p3 _ (s2.trans (Cm.same_new np3)) upd_same (.one hx hn hn2)⟩
    · obtain ⟨x, hx, e⟩ := Cm.at_str (ws := threeS) (i := c / 3 % 3) (by omega) (by show c / 3 % 3 < 3; omega)
      obtain ⟨y, hy, e2⟩ := Cm.at_str (ws := nameS) (i := c / 9 % 4) (by omega) (by show c / 9 % 4 < 4; omega)
      refine ⟨Cm.small (by decide), fun p3 np3 => ?_⟩
      have s3 := s2.trans (Cm.same_new (o := .lst (threeS.map V.str)) np3)
      refine ⟨_, rfl, _, _, rfl, rfl, ⟨by decide, by decide⟩, _, _, rfl, rfl, (by show (0 : Int) < 3; decide), p3, _, _, _, rfl, rfl, Cm.sql_new, e, ?_⟩
      refine ⟨Cm.small (by decide), fun p4 np4 => ?_⟩
      refine ⟨_, rfl, _, _, rfl, rfl, ⟨by decide, by decide⟩, _, _, rfl, rfl, (by show (0 : Int) < 4; decide), p4, _, _, _, rfl, rfl, Cm.sql_new, e2, ?_⟩
      exact ⟨_, rfl, _, _, rfl, rfl, (by show (0 : Int) < 9; decide), Cm.small (by show 3 ≤ 100000; decide), fun p5 np5 => q _ p5 _ ((s3.trans (Cm.same_new np4)).trans (Cm.same_new np5)) upd_same (.three hx hy (by omega))⟩
/-- what is_instruction says of a bad row -/
def Bad (xs : List V) : Prop := ∃ x rest, xs = .str x :: rest ∧ known x ∧ (∀ v ∈ rest, Sc v) ∧ rest.length ≤ 10 ∧ isInstr x rest = false
def spBad (K : PySem.W.Frag) : Sp := fun vs H Q _ => ∃ (pick n : Int) (p : Addr) (xs : List V), vs = [.int pick, .int n, .ref p] ∧ SqT K H p xs ∧ Good xs ∧ 0 ≤ pick ∧ 0 ≤ n ∧ ∀ (H' : Hp) (p : Addr) (xs : List V), Same H H' → H' p = some (.tup xs) → Bad xs → Q (.ref p) H'
abbrev oddS : List Str := ["pop", "", "Push", "goto", "if"]
theorem known_plain : ∀ x ∈ plainS, known x := by
  intro x h
  exact .inl ((by decide +kernel : ∀ x ∈ plainS, x ∈ tableS.map (·.1)) x h)
theorem known_one : ∀ x ∈ oneS, known x := by
  intro x h
  exact .inl ((by decide +kernel : ∀ x ∈ oneS, x ∈ tableS.map (·.1)) x h)
theorem known_three : ∀ x ∈ threeS, known x := by
  intro x h
  exact .inr ((by decide +kernel : ∀ x ∈ threeS, x ∈ lackS) x h)
theorem known_odd : ∀ x ∈ oddS, known x := by
  intro x h
  exact .inr ((by decide +kernel : ∀ x ∈ oddS, x ∈ lackS) x h)
theorem plain_w : ∀ x ∈ plainS, plainW x = true := by decide +kernel
theorem one_w : ∀ x ∈ oneS, plainW x = false ∧ threeW x = false ∧ inTable x = true := by decide +kernel
theorem three_w : ∀ x ∈ threeS, plainW x = false ∧ threeW x = true := by decide +kernel
theorem odd_w : ∀ x ∈ oddS, plainW x = false ∧ threeW x = false ∧ inTable x = false := by decide +kernel
theorem name_w : ∀ x ∈ nameS, isName x = true ∧ x.length ≤ 1000 := by decide +kernel
theorem wrong_w : ∀ x ∈ wrongS, isName x = false ∧ x.length ≤ 1000 := by decide +kernel
theorem instr_plain {x : Str} {rest : List V} (h : x ∈ plainS) : isInstr x rest = decide (rest = []) := by
  unfold isInstr
  rw [if_pos (plain_w x h)]
theorem instr_one {x : Str} {rest : List V} (h : x ∈ oneS) : isInstr x rest = isTwo x rest := by
  obtain ⟨h1, h2, h3⟩ := one_w x h
  unfold isInstr
  rw [if_neg (by rw [h1]; decide), if_neg (by rw [h2]; decide), h3]
  rfl
theorem instr_three {x : Str} {rest : List V} (h : x ∈ threeS) : isInstr x rest = isThree rest := by
  obtain ⟨h1, h2⟩ := three_w x h
  unfold isInstr
  rw [if_neg (by rw [h1]; decide), if_pos h2]
theorem instr_odd {x : Str} {rest : List V} (h : x ∈ oddS) : isInstr x rest = false := by
  obtain ⟨h1, h2, h3⟩ := odd_w x h
  unfold isInstr
  rw [if_neg (by rw [h1]; decide), if_neg (by rw [h2]; decide), h3]
  rfl
theorem sc_int {i : Int} : Sc (.int i) := .inl ⟨i, rfl⟩
theorem good_rest {xs : List V} (g : Good xs) : ∃ x rest, xs = .str x :: rest ∧ known x ∧ (∀ v ∈ rest, Sc v) ∧ rest.length ≤ 2 := by
  cases g with
  | plain h => exact ⟨_, _, rfl, known_plain _ h, (fun v h => nomatch h), by simp⟩
  | one h h0 h1 => exact ⟨_, _, rfl, known_one _ h, fun v h => by rw [List.mem_singleton.mp h]; exact sc_int, by simp⟩
  | three h hy h0 =>
    refine ⟨_, _, rfl, known_three _ h, fun v h => ?_, by simp⟩
    rcases List.mem_cons.mp h with rfl | h
    · exact .inr ⟨_, rfl, (name_w _ hy).2⟩
    · rw [List.mem_singleton.mp h]
      exact sc_int
theorem good_instr {x : Str} {rest : List V} (g : Good (.str x :: rest)) : isInstr x rest = true := by
  cases g with
  | plain h => exact instr_plain h
  | one h h0 h1 =>
    rw [instr_one h]
    simp [isTwo, h0, h1]
  | three h hy h0 =>
    rw [instr_three h]
    simp [isThree, isCountV, h0, (name_w _ hy).1]
theorem bad_more {x : Str} {rest : List V} {n : Int} (g : Good (.str x :: rest)) : Bad (.str x :: (rest ++ [.int n])) := by
  obtain ⟨x', r', e, h1, h2, h3⟩ := good_rest g
  cases e
  refine ⟨x, rest ++ [.int n], rfl, h1, fun v h => ?_, by rw [List.length_append, List.length_singleton]; omega, ?_⟩
  · rcases List.mem_append.mp h with h | h
    · exact h2 v h
    · rw [List.mem_singleton.mp h]
      exact sc_int
  · cases g with
    | plain h =>
      rw [instr_plain h]
      rfl
    | one h h0 h1 =>
      rw [instr_one h]
      rfl
    | three h hy h0 =>
      rw [instr_three h]
      rfl
theorem cut_one (x : V) (rest : List V) : cutV (x :: rest) (some 1) none = rest := by
  unfold cutV
  rw [show HT.sIx (x :: rest).length 0 (some 1) = min 1 (x :: rest).length from HT.sIx_nat _ 0 1, HT.sIx_none]
  rw [show min 1 (x :: rest).length = 1 from by
    rw [List.length_cons]
    omega]
  show List.take ((x :: rest).length - 1) rest = rest
  rw [List.length_cons, Nat.add_sub_cancel]
  exact List.take_length
theorem cut_not (x : V) (rest : List V) : ¬ (HT.sIx (x :: rest).length 0 (some 1) = 0 ∧ HT.sIx (x :: rest).length (x :: rest).length none = (x :: rest).length) := fun h => by
  have h1 := h.1
  rw [show HT.sIx (x :: rest).length 0 (some 1) = min 1 (x :: rest).length from HT.sIx_nat _ 0 1, List.length_cons] at h1
  omega
abbrev lowS : List Str := ["push", "jump", "setfield"]
abbrev gaveS : List Str := ["call", "new", "fork"]
abbrev txtS : List Str := ["push", "local", "unless"]
abbrev bareS : List Str := ["push", "call", "local"]
theorem low_one : ∀ x ∈ lowS, x ∈ oneS := by decide +kernel
theorem gave_three : ∀ x ∈ gaveS, x ∈ threeS := by decide +kernel
theorem txt_one : ∀ x ∈ txtS, x ∈ oneS := by decide +kernel
theorem bare_w : ∀ x ∈ bareS, x ∈ oneS ∨ x ∈ threeS := by decide +kernel
theorem bad_low {x : Str} {n : Int} (h : x ∈ oneS) (hn : n < 0) : Bad [.str x, .int n] := by
  refine ⟨x, [.int n], rfl, known_one x h, fun v h => by rw [List.mem_singleton.mp h]; exact sc_int, by simp, ?_⟩
  rw [instr_one h]
  show (decide (0 ≤ n) && _) = false
  rw [decide_eq_false (by omega)]
  rfl
theorem bad_big {n : Int} (hn : 1000000000000 < n) : Bad [.str "push", .int n] := by
  have h : ("push" : Str) ∈ oneS := by decide +kernel
  refine ⟨"push", [.int n], rfl, known_one _ h, fun v h => by rw [List.mem_singleton.mp h]; exact sc_int, by simp, ?_⟩
  rw [instr_one h]
  show (decide (0 ≤ n) && (!decide (("push" : Str) = "push") || decide (n ≤ 1000000000000))) = false
  rw [decide_eq_true rfl, decide_eq_false (by omega : ¬ n ≤ 1000000000000)]
  simp
theorem bad_name {x y : Str} {n : Int} (h : x ∈ threeS) (hy : y ∈ wrongS) : Bad [.str x, .str y, .int n] := by
  refine ⟨x, _, rfl, known_three x h, fun v h => ?_, by simp, ?_⟩
  · rcases List.mem_cons.mp h with rfl | h
    · exact .inr ⟨_, rfl, (wrong_w _ hy).2⟩
    · rw [List.mem_singleton.mp h]
      exact sc_int
  · rw [instr_three h]
    show (isName y && _) = false
    rw [(wrong_w _ hy).1]
    rfl
theorem bad_count {n : Int} (hn : n < 0) : Bad [.str "call", .str "get", .int n] := by
  have h : ("call" : Str) ∈ threeS := by decide +kernel
  refine ⟨"call", _, rfl, known_three _ h, fun v h => ?_, by simp, ?_⟩
  · rcases List.mem_cons.mp h with rfl | h
    · exact .inr ⟨_, rfl, (name_w _ (by decide +kernel)).2⟩
    · rw [List.mem_singleton.mp h]
      exact sc_int
  · rw [instr_three h]
    show (isName "get" && decide (0 ≤ n)) = false
    rw [decide_eq_false (by omega)]
    simp
theorem bad_txt {x : Str} (h : x ∈ oneS) : Bad [.str x, .str "3"] := by
  refine ⟨x, _, rfl, known_one x h, fun v h => ?_, by simp, ?_⟩
  · rw [List.mem_singleton.mp h]
    exact .inr ⟨_, rfl, by decide +kernel⟩
  · rw [instr_one h]
    rfl
theorem bad_bare {x : Str} (h : x ∈ oneS ∨ x ∈ threeS) : Bad [.str x] := by
  rcases h with h | h
  · refine ⟨x, _, rfl, known_one x h, (fun v h => nomatch h), by simp, ?_⟩
    rw [instr_one h]
    rfl
  · refine ⟨x, _, rfl, known_three x h, (fun v h => nomatch h), by simp, ?_⟩
    rw [instr_three h]
    rfl
theorem bad_odd {x y : Str} {rest : List V} (h : y ∈ oddS) (g : Good (.str x :: rest)) : Bad (.str y :: rest) := by
  obtain ⟨x', r', e, h1, h2, h3⟩ := good_rest g
  cases e
  exact ⟨y, rest, rfl, known_odd y h, h2, by omega, instr_odd h⟩
theorem ok_lw_bad (T : Txt K mg w a) : FnOk P w K mg base CX0 1 (He.ga K "_law_bad") a.d_lw_bad ["pick", "n", "row"] (spBad K) := by
  refine T.F_lw_bad.ok sc_lw_bad (fun vs H Q E h => ?_) (fun cdv A outer s H vs Q E hr h => ?_)
  · obtain ⟨c, k, p, xs, rfl, _⟩ := h
    rfl
  · obtain ⟨c, n, p, xs, rfl, hp, hg, hc, hn, q⟩ := h
    obtain ⟨x, rest, rfl, hk, hs, hl⟩ := good_rest hg
    refine ⟨_, PSs.nox (pss_cons (ps_set (i := 3) sc_lw_bad.nd rfl (Or.inl rfl) (pe_op op_mod (pv 0) pe_int))
      (pss_cons (ps_if (pt_cmpR op_eq (pv 3) pe_int (nomark _)) (pss_one (ps_ret (pe_op op_catA (pv 2) (pe_tup (pa_cons (pv 1) pa_nil))))) pss_nil)
      (pss_cons (ps_if (pt_cmpR op_eq (pv 3) pe_int (nomark _)) (pss_one (ps_ret (pe_op op_catA (pe_tup (pa_cons (pe_ix ix_list (pe_lst (pa_cons pe_str (pa_cons pe_str (pa_cons pe_str (pa_cons pe_str (pa_cons pe_str pa_nil)))))) (pe_op op_mod (pe_op op_fdiv (pv 0) pe_int) pe_int) (fun _ _ => rfl)) pa_nil)) (pe_slice sl_tupA (pv 2) (po_some pe_int) po_none)))) pss_nil)
      (pss_cons (ps_if (pt_cmpR op_eq (pv 3) pe_int (nomark _)) (pss_one (ps_ret (pe_tup (pa_cons (pe_ix ix_list (pe_lst (pa_cons pe_str (pa_cons pe_str (pa_cons pe_str pa_nil)))) (pe_op op_mod (pe_op op_fdiv (pv 0) pe_int) pe_int) (fun _ _ => rfl)) (pa_cons (pe_op op_sub (pe_un un_neg pe_int) (pv 1)) pa_nil))))) pss_nil)
      (pss_cons (ps_if (pt_cmpR op_eq (pv 3) pe_int (nomark _)) (pss_one (ps_ret (pe_tup (pa_cons pe_str (pa_cons (pe_op op_add (pe_op op_add (pe_op op_pow pe_int pe_int) pe_int) (pv 1)) pa_nil))))) pss_nil)
      (pss_cons (ps_if (pt_cmpR op_eq (pv 3) pe_int (nomark _)) (pss_one (ps_ret (pe_tup (pa_cons (pe_ix ix_list (pe_lst (pa_cons pe_str (pa_cons pe_str (pa_cons pe_str pa_nil)))) (pe_op op_mod (pe_op op_fdiv (pv 0) pe_int) pe_int) (fun _ _ => rfl)) (pa_cons (pe_ix ix_list (pe_lst (pa_cons pe_str (pa_cons pe_str (pa_cons pe_str (pa_cons pe_str (pa_cons pe_str (pa_cons pe_str pa_nil))))))) (pe_op op_mod (pe_op op_fdiv (pv 0) pe_int) pe_int) (fun _ _ => rfl)) (pa_cons pe_int pa_nil)))))) pss_nil)
      (pss_cons (ps_if (pt_cmpR op_eq (pv 3) pe_int (nomark _)) (pss_one (ps_ret (pe_tup (pa_cons pe_str (pa_cons pe_str (pa_cons (pe_op op_sub (pe_un un_neg pe_int) (pv 1)) pa_nil)))))) pss_nil)
      (pss_cons (ps_if (pt_cmpR op_eq (pv 3) pe_int (nomark _)) (pss_one (ps_ret (pe_tup (pa_cons (pe_ix ix_list (pe_lst (pa_cons pe_str (pa_cons pe_str (pa_cons pe_str pa_nil)))) (pe_op op_mod (pe_op op_fdiv (pv 0) pe_int) pe_int) (fun _ _ => rfl)) (pa_cons pe_str pa_nil))))) pss_nil)
      (pss_one (ps_ret (pe_tup (pa_cons (pe_ix ix_list (pe_lst (pa_cons pe_str (pa_cons pe_str (pa_cons pe_str pa_nil)))) (pe_op op_mod (pe_op op_fdiv (pv 0) pe_int) pe_int) (fun _ _ => rfl)) pa_nil)))))))))))), ?_⟩
    -- way = pick % 8
    refine ⟨_, rfl, _, _, rfl, rfl, (by show (0 : Int) < 8; decide), ?_⟩
    -- way == 0
    refine ⟨_, rfl, rfl, _, rfl, ?_⟩
    rw [Cm.deq_int]
    refine Cm.itD (fun _ => ?_) fun _ => ?_
    · refine ⟨_, rfl, _, rfl, Cm.small (by show 1 ≤ 100000; decide), fun p2 np2 => ?_⟩
      have s2 : Same H (upd H p2 (.tup [.int n])) := Cm.same_new np2
      refine ⟨p, p2, _, _, rfl, rfl, Cm.sameT s2 hp, Cm.sqt_new, Cm.small (by simp; omega), (fun e => nomatch e), (fun _ e => nomatch e), fun _ _ p3 np3 => ?_⟩
      exact q _ p3 _ (s2.trans (Cm.same_new np3)) upd_same (bad_more hg)
    -- way == 1
    refine ⟨_, rfl, rfl, _, rfl, ?_⟩
    rw [Cm.deq_int]
    refine Cm.itD (fun _ => ?_) fun _ => ?_
    · obtain ⟨y, hy, e⟩ := Cm.at_str (ws := oddS) (i := c / 8 % 5) (by omega) (by show c / 8 % 5 < 5; omega)
      refine ⟨Cm.small (by decide), fun p2 np2 => ?_⟩
      have s2 : Same H (upd H p2 (.lst (oddS.map V.str))) := Cm.same_new np2
      refine ⟨_, rfl, _, _, rfl, rfl, ⟨by decide, by decide⟩, _, _, rfl, rfl, (by show (0 : Int) < 5; decide), p2, _, _, _, rfl, rfl, Cm.sql_new, e, ?_⟩
      refine ⟨Cm.small (by show 1 ≤ 100000; decide), fun p3 np3 => ?_⟩
      have s3 := s2.trans (Cm.same_new (o := .tup [.str y]) np3)
      refine ⟨_, rfl, 1, rfl, p, _, rfl, Cm.sameT s3 hp, (fun z => absurd z (cut_not _ _)), fun _ p4 np4 => ?_⟩
      have s4 := s3.trans (Cm.same_new (o := .tup (cutV (.str x :: rest) (some 1) none)) np4)
      have h4 : SqT K (upd (upd (upd H p2 (.lst (oddS.map V.str))) p3 (.tup [.str y])) p4 (.tup (cutV (.str x :: rest) (some 1) none))) p4 rest := by
        have z := Cm.sqt_new (K := K) (H := upd (upd H p2 (.lst (oddS.map V.str))) p3 (.tup [.str y])) (p := p4) (xs := cutV (.str x :: rest) (some 1) none)
        rw [cut_one] at z
        rw [cut_one]
        exact z
      have h3 : (upd (upd (upd H p2 (.lst (oddS.map V.str))) p3 (.tup [.str y])) p4 (.tup (cutV (.str x :: rest) (some 1) none))) p3 = some (.tup [.str y]) := by
        rw [upd_ne (ne_of_none upd_same np4)]
        exact upd_same
      refine ⟨p3, p4, _, rest, rfl, rfl, SqT.of h3, h4, Cm.small (by simp; omega), (fun e => nomatch e), fun _ e => ?_, fun _ _ p5 np5 => ?_⟩
      · subst e
        exact q _ p3 _ s4 h3 (bad_odd hy hg)
      · exact q _ p5 _ (s4.trans (Cm.same_new np5)) upd_same (bad_odd hy hg)
    -- way == 2
    refine ⟨_, rfl, rfl, _, rfl, ?_⟩
    rw [Cm.deq_int]
    refine Cm.itD (fun _ => ?_) fun _ => ?_
    · obtain ⟨y, hy, e⟩ := Cm.at_str (ws := lowS) (i := c / 8 % 3) (by omega) (by show c / 8 % 3 < 3; omega)
      refine ⟨Cm.small (by decide), fun p2 np2 => ?_⟩
      have s2 : Same H (upd H p2 (.lst (lowS.map V.str))) := Cm.same_new np2
      refine ⟨_, rfl, _, _, rfl, rfl, ⟨by decide, by decide⟩, _, _, rfl, rfl, (by show (0 : Int) < 3; decide), p2, _, _, _, rfl, rfl, Cm.sql_new, e, ?_⟩
      refine ⟨_, rfl, _, rfl, _, _, rfl, rfl, Cm.small (by show 2 ≤ 100000; decide), fun p3 np3 => ?_⟩
      exact q _ p3 _ (s2.trans (Cm.same_new np3)) upd_same (bad_low (low_one y hy) (by omega))
    -- way == 3
    refine ⟨_, rfl, rfl, _, rfl, ?_⟩
    rw [Cm.deq_int]
    refine Cm.itD (fun _ => ?_) fun _ => ?_
    · refine ⟨_, _, rfl, rfl, ⟨by decide, by decide, by decide⟩, _, _, rfl, rfl, _, rfl, _, _, rfl, rfl, Cm.small (by show 2 ≤ 100000; decide), fun p3 np3 => ?_⟩
      exact q _ p3 _ (Cm.same_new np3) upd_same (bad_big (by show 1000000000000 < (10 : Int) ^ 12 + 1 + n; omega))
    -- way == 4
    refine ⟨_, rfl, rfl, _, rfl, ?_⟩
    rw [Cm.deq_int]
    refine Cm.itD (fun _ => ?_) fun _ => ?_
    · obtain ⟨y, hy, e⟩ := Cm.at_str (ws := gaveS) (i := c / 8 % 3) (by omega) (by show c / 8 % 3 < 3; omega)
      obtain ⟨z, hz, e2⟩ := Cm.at_str (ws := wrongS) (i := c / 24 % 6) (by omega) (by show c / 24 % 6 < 6; omega)
      refine ⟨Cm.small (by decide), fun p2 np2 => ?_⟩
      have s2 : Same H (upd H p2 (.lst (gaveS.map V.str))) := Cm.same_new np2
      refine ⟨_, rfl, _, _, rfl, rfl, ⟨by decide, by decide⟩, _, _, rfl, rfl, (by show (0 : Int) < 3; decide), p2, _, _, _, rfl, rfl, Cm.sql_new, e, ?_⟩
      refine ⟨Cm.small (by decide), fun p4 np4 => ?_⟩
      refine ⟨_, rfl, _, _, rfl, rfl, ⟨by decide, by decide⟩, _, _, rfl, rfl, (by show (0 : Int) < 6; decide), p4, _, _, _, rfl, rfl, Cm.sql_new, e2, ?_⟩
      refine ⟨Cm.small (by show 3 ≤ 100000; decide), fun p3 np3 => ?_⟩
      exact q _ p3 _ ((s2.trans (Cm.same_new np4)).trans (Cm.same_new np3)) upd_same (bad_name (gave_three y hy) hz)
    -- way == 5
    refine ⟨_, rfl, rfl, _, rfl, ?_⟩
    rw [Cm.deq_int]
    refine Cm.itD (fun _ => ?_) fun _ => ?_
    · refine ⟨_, rfl, _, rfl, _, _, rfl, rfl, Cm.small (by show 3 ≤ 100000; decide), fun p3 np3 => ?_⟩
      exact q _ p3 _ (Cm.same_new np3) upd_same (bad_count (by omega))
    -- way == 6
    refine ⟨_, rfl, rfl, _, rfl, ?_⟩
    rw [Cm.deq_int]
    refine Cm.itD (fun _ => ?_) fun _ => ?_
    · obtain ⟨y, hy, e⟩ := Cm.at_str (ws := txtS) (i := c / 8 % 3) (by omega) (by show c / 8 % 3 < 3; omega)
      refine ⟨Cm.small (by decide), fun p2 np2 => ?_⟩
      have s2 : Same H (upd H p2 (.lst (txtS.map V.str))) := Cm.same_new np2
      refine ⟨_, rfl, _, _, rfl, rfl, ⟨by decide, by decide⟩, _, _, rfl, rfl, (by show (0 : Int) < 3; decide), p2, _, _, _, rfl, rfl, Cm.sql_new, e, ?_⟩
      refine ⟨Cm.small (by show 2 ≤ 100000; decide), fun p3 np3 => ?_⟩
      exact q _ p3 _ (s2.trans (Cm.same_new np3)) upd_same (bad_txt (txt_one y hy))
    · obtain ⟨y, hy, e⟩ := Cm.at_str (ws := bareS) (i := c / 8 % 3) (by omega) (by show c / 8 % 3 < 3; omega)
      refine ⟨Cm.small (by decide), fun p2 np2 => ?_⟩
      have s2 : Same H (upd H p2 (.lst (bareS.map V.str))) := Cm.same_new np2
      refine ⟨_, rfl, _, _, rfl, rfl, ⟨by decide, by decide⟩, _, _, rfl, rfl, (by show (0 : Int) < 3; decide), p2, _, _, _, rfl, rfl, Cm.sql_new, e, ?_⟩
      refine ⟨Cm.small (by show 1 ≤ 100000; decide), fun p3 np3 => ?_⟩
      exact q _ p3 _ (s2.trans (Cm.same_new np3)) upd_same (bad_bare (bare_w y hy))
/-! ### measures, the law -/
def spLwMeas (K : PySem.W.Frag) : Sp := fun vs H Q _ => ∃ (p : Addr) (x : Str) (rest : List V) (m : Int), vs = [.ref p] ∧ SqT K H p (.str x :: rest) ∧ ((x ∈ threeS ∧ ∃ v, rest = [v, .int m]) ∨ x ∈ tableS.map (·.1)) ∧
  ∀ (H' : Hp) (p2 : Addr), Same H H' → H' p2 = some (.lst [.int (meas x m).1, .int (meas x m).2]) → Q (.ref p2) H'
abbrev aS : List Str := ["push", "nil", "self", "local", "field"]
abbrev bS : List Str := ["setlocal", "setfield", "drop", "print", "unless", "return"]
abbrev cS : List Str := ["add", "sub", "mul", "less", "most", "same"]
theorem gA : ∀ q ∈ tableS, inV (.str q.1) (aS.map V.str) = true → q.2 = (0, 1) := by decide +kernel
theorem gB : ∀ q ∈ tableS, inV (.str q.1) (bS.map V.str) = true → q.2 = (1, -1) := by decide +kernel
theorem gC : ∀ q ∈ tableS, inV (.str q.1) (cS.map V.str) = true → q.2 = (2, -1) := by decide +kernel
theorem gN : ∀ q ∈ tableS, q.1 = "not" → q.2 = (1, 0) := by decide +kernel
theorem gJ : ∀ q ∈ tableS, q.1 = "jump" → q.2 = (0, 0) := by decide +kernel
theorem gM : ∀ q ∈ tableS, q.1 = "move" → q.2 = (2, -2) := by decide +kernel
theorem gE : ∀ q ∈ tableS, inV (.str q.1) (aS.map V.str) = false → inV (.str q.1) (bS.map V.str) = false → inV (.str q.1) (cS.map V.str) = false → ¬ q.1 = "not" → ¬ q.1 = "jump" → ¬ q.1 = "move" → False := by decide +kernel
theorem three_no : ∀ x ∈ threeS, inV (.str x) (aS.map V.str) = false ∧ inV (.str x) (bS.map V.str) = false ∧ inV (.str x) (cS.map V.str) = false ∧ ¬ x = "not" ∧ ¬ x = "jump" ∧ ¬ x = "move" := by decide +kernel
theorem ok_lw_measures (T : Txt K mg w a) : FnOk P w K mg base CX0 1 (He.ga K "_law_measures") a.d_lw_measures ["row"] (spLwMeas K) := by
  refine T.F_lw_measures.ok sc_lw_measures (fun vs H Q E h => ?_) (fun cdv A outer s H vs Q E hr h => ?_)
  · obtain ⟨p, x, rest, m, rfl, _⟩ := h
    rfl
  · obtain ⟨p, x, rest, m, rfl, hp, hx, q⟩ := h
    refine ⟨_, PSs.nox (pss_cons (ps_set (i := 1) sc_lw_measures.nd rfl (Or.inl rfl) (pe_ix ix_tup (pv 0) pe_int (fun _ _ => rfl)))
      (pss_cons (ps_if (pt_cmpR op_in_seq (pv 1) (pe_tup (pa_cons pe_str (pa_cons pe_str (pa_cons pe_str (pa_cons pe_str (pa_cons pe_str pa_nil)))))) (by rfl)) (pss_one (ps_ret (pe_lst (pa_cons pe_int (pa_cons pe_int pa_nil))))) pss_nil)
      (pss_cons (ps_if (pt_cmpR op_in_seq (pv 1) (pe_tup (pa_cons pe_str (pa_cons pe_str (pa_cons pe_str (pa_cons pe_str (pa_cons pe_str (pa_cons pe_str pa_nil))))))) (by rfl)) (pss_one (ps_ret (pe_lst (pa_cons pe_int (pa_cons (pe_un un_neg pe_int) pa_nil))))) pss_nil)
      (pss_cons (ps_if (pt_cmpR op_in_seq (pv 1) (pe_tup (pa_cons pe_str (pa_cons pe_str (pa_cons pe_str (pa_cons pe_str (pa_cons pe_str (pa_cons pe_str pa_nil))))))) (by rfl)) (pss_one (ps_ret (pe_lst (pa_cons pe_int (pa_cons (pe_un un_neg pe_int) pa_nil))))) pss_nil)
      (pss_cons (ps_if (pt_cmpR op_eq (pv 1) pe_str (nomark _)) (pss_one (ps_ret (pe_lst (pa_cons pe_int (pa_cons pe_int pa_nil))))) pss_nil)
      (pss_cons (ps_if (pt_cmpR op_eq (pv 1) pe_str (nomark _)) (pss_one (ps_ret (pe_lst (pa_cons pe_int (pa_cons pe_int pa_nil))))) pss_nil)
      (pss_cons (ps_if (pt_cmpR op_eq (pv 1) pe_str (nomark _)) (pss_one (ps_ret (pe_lst (pa_cons pe_int (pa_cons (pe_un un_neg pe_int) pa_nil))))) pss_nil)
      (pss_cons (ps_if (pt_cmpR op_eq (pv 1) pe_str (nomark _)) (pss_one (ps_ret (pe_lst (pa_cons (pe_ix ix_tup (pv 0) pe_int (fun _ _ => rfl)) (pa_cons (pe_op op_sub pe_int (pe_ix ix_tup (pv 0) pe_int (fun _ _ => rfl))) pa_nil))))) pss_nil)
      (pss_cons (ps_if (pt_cmpR op_eq (pv 1) pe_str (nomark _)) (pss_one (ps_ret (pe_lst (pa_cons (pe_op op_add (pe_ix ix_tup (pv 0) pe_int (fun _ _ => rfl)) pe_int) (pa_cons (pe_op op_sub pe_int (pe_ix ix_tup (pv 0) pe_int (fun _ _ => rfl))) pa_nil))))) pss_nil)
      (pss_one (ps_ret (pe_lst (pa_cons (pe_op op_add (pe_ix ix_tup (pv 0) pe_int (fun _ _ => rfl)) pe_int) (pa_cons (pe_op op_sub (pe_op op_sub pe_int (pe_ix ix_tup (pv 0) pe_int (fun _ _ => rfl))) pe_int) pa_nil)))))))))))))), ?_⟩
    have fA : inV (.str x) (aS.map V.str) = true → meas x m = (0, 1) := fun h => by
      rcases hx with ⟨h3, _⟩ | hx
      · rw [(three_no x h3).1] at h
        cases h
      · obtain ⟨r, hr, rfl⟩ := List.mem_map.mp hx
        rw [meas_tab hr, gA r hr h]
    have fB : inV (.str x) (bS.map V.str) = true → meas x m = (1, -1) := fun h => by
      rcases hx with ⟨h3, _⟩ | hx
      · rw [(three_no x h3).2.1] at h
        cases h
      · obtain ⟨r, hr, rfl⟩ := List.mem_map.mp hx
        rw [meas_tab hr, gB r hr h]
    have fC : inV (.str x) (cS.map V.str) = true → meas x m = (2, -1) := fun h => by
      rcases hx with ⟨h3, _⟩ | hx
      · rw [(three_no x h3).2.2.1] at h
        cases h
      · obtain ⟨r, hr, rfl⟩ := List.mem_map.mp hx
        rw [meas_tab hr, gC r hr h]
    have fN : x = "not" → meas x m = (1, 0) := fun h => by
      rcases hx with ⟨h3, _⟩ | hx
      · exact absurd h (three_no x h3).2.2.2.1
      · obtain ⟨r, hr, rfl⟩ := List.mem_map.mp hx
        rw [meas_tab hr, gN r hr h]
    have fJ : x = "jump" → meas x m = (0, 0) := fun h => by
      rcases hx with ⟨h3, _⟩ | hx
      · exact absurd h (three_no x h3).2.2.2.2.1
      · obtain ⟨r, hr, rfl⟩ := List.mem_map.mp hx
        rw [meas_tab hr, gJ r hr h]
    have fM : x = "move" → meas x m = (2, -2) := fun h => by
      rcases hx with ⟨h3, _⟩ | hx
      · exact absurd h (three_no x h3).2.2.2.2.2
      · obtain ⟨r, hr, rfl⟩ := List.mem_map.mp hx
        rw [meas_tab hr, gM r hr h]
    refine ⟨_, rfl, p, _, 0, .str x, rfl, rfl, hp, atI_nat (j := 0) rfl, ?_⟩
    -- the tuples of words
    refine ⟨_, rfl, Cm.small (by decide), fun t1 n1 => ?_⟩
    have s1 : Same H (upd H t1 (.tup (aS.map V.str))) := Cm.same_new n1
    refine ⟨_, _, rfl, .inr Cm.sqt_new, rfl, rfl, _, rfl, Cm.itV (fun h => ?_) fun hA => ?_⟩
    · have q' : ∀ (H' : Hp) (p2 : Addr), Same H H' → H' p2 = some (.lst [.int 0, .int 1]) → Q (.ref p2) H' := by
        rw [fA h] at q
        exact q
      exact ⟨Cm.small (by show 2 ≤ 100000; decide), fun p2 np2 => q' _ p2 (s1.trans (Cm.same_new np2)) upd_same⟩
    refine ⟨_, rfl, Cm.small (by decide), fun t2 n2 => ?_⟩
    have s2 := s1.trans (Cm.same_new (o := .tup (bS.map V.str)) n2)
    refine ⟨_, _, rfl, .inr Cm.sqt_new, rfl, rfl, _, rfl, Cm.itV (fun h => ?_) fun hB => ?_⟩
    · have q' : ∀ (H' : Hp) (p2 : Addr), Same H H' → H' p2 = some (.lst [.int 1, .int (-1)]) → Q (.ref p2) H' := by
        rw [fB h] at q
        exact q
      exact ⟨_, rfl, Cm.small (by show 2 ≤ 100000; decide), fun p2 np2 => q' _ p2 (s2.trans (Cm.same_new np2)) upd_same⟩
    refine ⟨_, rfl, Cm.small (by decide), fun t3 n3 => ?_⟩
    have s3 := s2.trans (Cm.same_new (o := .tup (cS.map V.str)) n3)
    refine ⟨_, _, rfl, .inr Cm.sqt_new, rfl, rfl, _, rfl, Cm.itV (fun h => ?_) fun hC => ?_⟩
    · have q' : ∀ (H' : Hp) (p2 : Addr), Same H H' → H' p2 = some (.lst [.int 2, .int (-1)]) → Q (.ref p2) H' := by
        rw [fC h] at q
        exact q
      exact ⟨_, rfl, Cm.small (by show 2 ≤ 100000; decide), fun p2 np2 => q' _ p2 (s3.trans (Cm.same_new np2)) upd_same⟩
    have hp3 := Cm.sameT s3 hp
    refine ⟨_, rfl, rfl, _, rfl, ?_⟩
    rw [Cm.deq_str]
    refine Cm.itD (fun h => ?_) fun hN => ?_
    · have q' : ∀ (H' : Hp) (p2 : Addr), Same H H' → H' p2 = some (.lst [.int 1, .int 0]) → Q (.ref p2) H' := by
        rw [fN h] at q
        exact q
      exact ⟨Cm.small (by show 2 ≤ 100000; decide), fun p2 np2 => q' _ p2 (s3.trans (Cm.same_new np2)) upd_same⟩
    refine ⟨_, rfl, rfl, _, rfl, ?_⟩
    rw [Cm.deq_str]
    refine Cm.itD (fun h => ?_) fun hJ => ?_
    · have q' : ∀ (H' : Hp) (p2 : Addr), Same H H' → H' p2 = some (.lst [.int 0, .int 0]) → Q (.ref p2) H' := by
        rw [fJ h] at q
        exact q
      exact ⟨Cm.small (by show 2 ≤ 100000; decide), fun p2 np2 => q' _ p2 (s3.trans (Cm.same_new np2)) upd_same⟩
    refine ⟨_, rfl, rfl, _, rfl, ?_⟩
    rw [Cm.deq_str]
    refine Cm.itD (fun h => ?_) fun hM => ?_
    · have q' : ∀ (H' : Hp) (p2 : Addr), Same H H' → H' p2 = some (.lst [.int 2, .int (-2)]) → Q (.ref p2) H' := by
        rw [fM h] at q
        exact q
      exact ⟨_, rfl, Cm.small (by show 2 ≤ 100000; decide), fun p2 np2 => q' _ p2 (s3.trans (Cm.same_new np2)) upd_same⟩
    obtain ⟨h3, v, rfl⟩ : x ∈ threeS ∧ ∃ v, rest = [v, .int m] := by
      rcases hx with h | hx
      · exact h
      · obtain ⟨r, hr, rfl⟩ := List.mem_map.mp hx
        exact (gE r hr hA hB hC hN hJ hM).elim
    have i2 : atI [.str x, v, .int m] 2 = some (V.int m) := atI_nat (j := 2) rfl
    refine ⟨_, rfl, rfl, _, rfl, ?_⟩
    rw [Cm.deq_str]
    refine Cm.itD (fun h => ?_) fun h4 => ?_
    · subst h
      exact ⟨_, rfl, p, _, 2, _, rfl, rfl, hp3, i2, _, rfl, p, _, 2, _, rfl, rfl, hp3, i2, _, _, rfl, rfl, Cm.small (by show 2 ≤ 100000; decide), fun p2 np2 => q _ p2 (s3.trans (Cm.same_new np2)) upd_same⟩
    refine ⟨_, rfl, rfl, _, rfl, ?_⟩
    rw [Cm.deq_str]
    refine Cm.itD (fun h => ?_) fun h5 => ?_
    · subst h
      exact ⟨_, rfl, p, _, 2, _, rfl, rfl, hp3, i2, _, _, rfl, rfl, _, rfl, p, _, 2, _, rfl, rfl, hp3, i2, _, _, rfl, rfl, Cm.small (by show 2 ≤ 100000; decide), fun p2 np2 => q _ p2 (s3.trans (Cm.same_new np2)) upd_same⟩
    obtain rfl : x = "fork" := by
      rcases three_of h3 with h | h | h
      · exact absurd h h4
      · exact absurd h h5
      · exact h
    exact ⟨_, rfl, p, _, 2, _, rfl, rfl, hp3, i2, _, _, rfl, rfl, _, rfl, p, _, 2, _, rfl, rfl, hp3, i2, _, _, rfl, rfl, _, _, rfl, rfl, Cm.small (by show 2 ≤ 100000; decide), fun p2 np2 => q _ p2 (s3.trans (Cm.same_new np2)) upd_same⟩
def spLaw (K : PySem.W.Frag) : Sp := fun vs H Q _ => ∃ (a : Addr) (ns : List Int), vs = [.ref a] ∧ SqL K H a (ns.map V.int) ∧ ns.length ≤ 63 ∧ ∀ H', Q (.bl true) H'
theorem idx4 {ns : List Int} {i k : Nat} (hl : ns.length = 12) (h : (0 : Int) + (i : Int) + (k : Int) < 12) : ∃ n, n ∈ ns ∧ atI (ns.map V.int) (0 + (i : Int) + (k : Int)) = some (.int n) := Cm.at_int (by omega) (by rw [hl]; exact h)
theorem idx0 {ns : List Int} {i : Nat} (hl : ns.length = 12) (h : i < 4) : ∃ n, n ∈ ns ∧ atI (ns.map V.int) (0 + (i : Int)) = some (.int n) := Cm.at_int (by omega) (by rw [hl]; omega)
theorem eqv2 (x y : Int) : PyData.eqv (.list [.int x, .int y]) (.list [.int x, .int y]) = true := by simp [PyData.eqv, PyData.eqvAll]
theorem shaped2 (x y : Int) : SeqAt.shaped (.list [.int x, .int y]) = true := rfl
theorem nlen : plainS.Nodup := by decide +kernel
theorem ok_law (T : Txt K mg w a) : FnOk P w K mg base CX0 4 (He.ga K "law") a.d_law ["script"] (spLaw K) := by
  refine T.F_law.ok sc_law (fun vs H Q E h => ?_) (fun cdv A outer s H vs Q E hr h => ?_)
  · obtain ⟨l, ns, rfl, _⟩ := h
    rfl
  · obtain ⟨l, ns, rfl, hS, hlen, q⟩ := h
    refine ⟨_, PSs.nox (pss_cons (ps_for PassesOwn.never rfl (pi_range1 (by rfl) T.g_range (pa_cons (pe_callB (call_max2 rfl) (by rfl) T.g_max boot_max (pa_cons pe_int (pa_cons (pe_callB (call_min2 rfl) (by rfl) T.g_min boot_min (pa_cons (pe_callB call_len_seq (by rfl) T.g_len boot_len (pa_cons (pv 0) pa_nil)) (pa_cons pe_int pa_nil))) pa_nil))) pa_nil)) (pg_name (i := 1) sc_law.nd rfl (Or.inl rfl))
      (pss_cons (ps_set (i := 2) sc_law.nd rfl (Or.inl rfl) (pe_call (ok_lw_numbers T) (hr.mono (by omega)) (by rfl) T.g_lw_numbers T.F_lw_numbers.kp T.b_lw_numbers .nil pass0 (pa_cons (pe_call (ok_lw_cell T) (hr.mono (by omega)) (by rfl) T.g_lw_cell T.F_lw_cell.kp T.b_lw_cell .nil pass0 (pa_cons (pv 0) (pa_cons (pv 1) pa_nil))) (pa_cons (pv 1) (pa_cons pe_int pa_nil)))))
      (pss_one (ps_for PassesOwn.never rfl (pi_range1 (by rfl) T.g_range (pa_cons pe_int pa_nil)) (pg_name (i := 3) sc_law.nd rfl (Or.inl rfl))
      (pss_cons (ps_set (i := 4) sc_law.nd rfl (Or.inl rfl) (pe_ix ix_list (pe_lst (pa_cons (pe_callTy call_int1 (by rfl) T.g_int boot_int (pa_cons (pe_ix ix_list (pv 2) (pv 3) (fun _ _ => rfl)) pa_nil)) (pa_cons (pe_op op_mul (pe_callTy call_int1 (by rfl) T.g_int boot_int (pa_cons (pe_ix ix_list (pv 2) (pv 3) (fun _ _ => rfl)) pa_nil)) (pe_op op_pow pe_int pe_int)) (pa_cons (pe_op op_pow pe_int pe_int) (pa_cons pe_int pa_nil))))) (pe_op op_mod (pe_callTy call_int1 (by rfl) T.g_int boot_int (pa_cons (pe_ix ix_list (pv 2) (pe_op op_add (pv 3) pe_int) (fun _ _ => rfl)) pa_nil)) pe_int) (fun _ _ => rfl)))
      (pss_cons (ps_set (i := 5) sc_law.nd rfl (Or.inl rfl) (pe_call (ok_lw_good T) (hr.mono (by omega)) (by rfl) T.g_lw_good T.F_lw_good.kp T.b_lw_good .nil pass0 (pa_cons (pe_callTy call_int1 (by rfl) T.g_int boot_int (pa_cons (pe_ix ix_list (pv 2) (pe_op op_add (pv 3) pe_int) (fun _ _ => rfl)) pa_nil)) (pa_cons (pv 4) pa_nil))))
      (pss_cons (ps_if (PW.pt (pw_or (pt_cmpR op_notBl (pe_call (ok_is_instruction T) (hr.mono (by omega)) (by rfl) T.g_is_instruction T.F_is_instruction.kp T.b_is_instruction .nil pass0 (pa_cons (pv 5) pa_nil)) pe_bl (nomark _)) (pw_or1 (pt_cmpR (op_neD hr.units) (pe_lst (pa_cons (pe_call (ok_need T) (hr.mono (by omega)) (by rfl) T.g_need T.F_need.kp T.b_need .nil pass0 (pa_cons (pv 5) pa_nil)) (pa_cons (pe_call (ok_effect T) (hr.mono (by omega)) (by rfl) T.g_effect T.F_effect.kp T.b_effect .nil pass0 (pa_cons (pv 5) pa_nil)) pa_nil))) (pe_call (ok_lw_measures T) (hr.mono (by omega)) (by rfl) T.g_lw_measures T.F_lw_measures.kp T.b_lw_measures .nil pass0 (pa_cons (pv 5) pa_nil)) (nomark _))))) (pss_one (ps_ret pe_bl)) pss_nil)
      (pss_one (ps_if (pt_cmpR op_notBl (pe_call (ok_is_instruction T) (hr.mono (by omega)) (by rfl) T.g_is_instruction T.F_is_instruction.kp T.b_is_instruction .nil pass0 (pa_cons (pe_call (ok_lw_bad T) (hr.mono (by omega)) (by rfl) T.g_lw_bad T.F_lw_bad.kp T.b_lw_bad .nil pass0 (pa_cons (pe_callTy call_int1 (by rfl) T.g_int boot_int (pa_cons (pe_ix ix_list (pv 2) (pe_op op_add (pv 3) pe_int) (fun _ _ => rfl)) pa_nil)) (pa_cons (pe_callTy call_int1 (by rfl) T.g_int boot_int (pa_cons (pe_ix ix_list (pv 2) (pv 3) (fun _ _ => rfl)) pa_nil)) (pa_cons (pv 5) pa_nil)))) pa_nil)) pe_bl (nomark _)) (pss_one (ps_ret pe_bl)) pss_nil)))))))))
      (pss_one (ps_ret (pe_and (pe_cmpR op_eq (pe_callB call_len_seq (by rfl) T.g_len boot_len (pa_cons (pe_glob (v := .ref (He.ga K "PLAIN")) (by rfl) T.g_PLAIN rfl) pa_nil)) pe_int (nomark _)) (pe_one (pe_cmpR op_eq (SetN.pe_lenSetN rfl (by rfl) T.g_len (by rfl) T.g_set (pe_glob (v := .ref (He.ga K "PLAIN")) (by rfl) T.g_PLAIN rfl)) pe_int (nomark _))))))), ?_⟩
    refine ⟨_, rfl, l, _, rfl, .inl hS, _, _, rfl, _, _, rfl, _, rfl, ?_, ?_, ?_⟩
    · split <;> split <;> omega
    · rw [List.length_map]
      split <;> split <;> omega
    refine for_range (fun i σ H2 => ∃ x1 x2 x3 x4 x5 : Option V, σ = [some (.ref l), x1, x2, x3, x4, x5] ∧ Same H H2) ⟨_, _, _, _, _, rfl, Same.refl H⟩ (fun i σ H2 hi ⟨x1, x2, x3, x4, x5, e, s2⟩ => ?_) fun σ H2 ⟨x1, x2, x3, x4, x5, e, s2⟩ => ?_
    · subst e
      have hi2 : i ≤ 64 := by
        rw [List.length_map] at hi
        revert hi
        split <;> split <;> omega
      -- numbers
      refine ⟨_, rfl, _, rfl, l, ns, i, by rw [Int.zero_add] <;> rfl, s2.seq hS, fun c => ?_⟩
      refine ⟨_, rfl, c, i, 12, by rw [Int.zero_add] <;> rfl, by omega, by omega, fun H3 p3 nums s3 np3 hp3 hn hrange => ?_⟩
      have s3' := s2.trans s3
      -- for j in range(4)
      refine ⟨4, rfl, by decide, by decide, ?_⟩
      refine for_range (fun i σ H2 => ∃ x1 x3 x4 x5 : Option V, σ = [some (.ref l), x1, some (.ref p3), x3, x4, x5] ∧ Same H3 H2) ⟨_, _, _, _, rfl, Same.refl H3⟩ (fun j σ H4 hj ⟨x1, x3, x4, x5, e, s4⟩ => ?_) fun σ H4 ⟨x1, x3, x4, x5, e, s4⟩ => ?_
      · subst e
        have hL : SqL K H4 p3 (nums.map V.int) := s4.seq (SqL.of hp3)
        have hj2 : j < 4 := hj
        obtain ⟨n0, m0, e0⟩ := idx0 (ns := nums) (i := j) hn hj2
        obtain ⟨n4, m4, e4⟩ := idx4 (ns := nums) (i := j) (k := 4) hn (by omega)
        obtain ⟨n8, m8, e8⟩ := idx4 (ns := nums) (i := j) (k := 8) hn (by omega)
        have r0 := hrange n0 m0
        have r4 := hrange n4 m4
        have r8 := hrange n8 m8
        -- n
        refine ⟨_, rfl, _, rfl, p3, _, _, _, rfl, rfl, hL, e0, .inl ⟨_, rfl, _, rfl, _, rfl, p3, _, _, _, rfl, rfl, hL, e0, .inl ⟨_, rfl, _, _, rfl, rfl, ⟨by decide, by decide, by decide⟩, _, _, rfl, rfl, .inl (by omega), _, _, rfl, rfl, ⟨by decide, by decide, by decide⟩, Cm.small (by show 4 ≤ 100000; decide), fun p5 np5 => ?_⟩⟩⟩
        have s5 := s4.trans (Cm.same_new (o := .lst [.int n0, .int (n0 * 10 ^ 9), .int (10 ^ 12), .int 0]) np5)
        have hL5 : SqL K (upd H4 p5 (.lst [.int n0, .int (n0 * 10 ^ 9), .int (10 ^ 12), .int 0])) p3 (nums.map V.int) := s5.seq (SqL.of hp3)
        obtain ⟨n, hn4, en⟩ := Cm.at_int (ns := [n0, n0 * 10 ^ 9, 10 ^ 12, 0]) (i := n4 % 4) (by omega) (by show n4 % 4 < 4; omega)
        have hnb : 0 ≤ n ∧ n ≤ 1000000000000 := by
          simp only [List.mem_cons, List.not_mem_nil, or_false] at hn4
          rcases hn4 with rfl | rfl | rfl | rfl
          · omega
          · constructor
            · have := r0.1
              show 0 ≤ n0 * 1000000000
              omega
            · have := r0.2
              show n0 * 1000000000 ≤ 1000000000000
              omega
          · constructor
            · decide
            · decide
          · omega
        refine ⟨_, rfl, _, rfl, _, _, rfl, rfl, p3, _, _, _, rfl, rfl, hL5, e4, .inl ⟨_, rfl, _, _, rfl, rfl, (by show (0 : Int) < 4; decide), p5, _, _, _, rfl, rfl, SqL.of upd_same, en, ?_⟩⟩
        -- row
        refine ⟨_, rfl, _, rfl, _, _, rfl, rfl, p3, _, _, _, rfl, rfl, hL5, e8, .inl ⟨_, rfl, _, rfl, n8, n, rfl, r8.1, hnb.1, hnb.2, fun H6 p6 row s6 hp6 hg => ?_⟩⟩
        have s6' := s5.trans s6
        obtain ⟨x, rest, rfl, hk, hs, hrl⟩ := good_rest hg
        have hp6T : SqT K H6 p6 (.str x :: rest) := SqT.of hp6
        -- is_instruction(row) is not True
        refine ⟨_, rfl, p6, x, rest, rfl, hp6T, hk, hs, by omega, fun H7 s7 => ?_⟩
        rw [good_instr hg]
        refine ⟨_, _, rfl, rfl, _, rfl, iteNS rfl ?_⟩
        have hp7 := Cm.sameT s7 hp6T
        have hm : ∃ m, (x ∈ threeS ∧ ∃ v, rest = [v, .int m]) ∨ x ∈ tableS.map (·.1) := by
          cases hg with
          | plain h => exact ⟨0, .inr ((by decide +kernel : ∀ x ∈ plainS, x ∈ tableS.map (·.1)) _ h)⟩
          | one h h0 h1 => exact ⟨0, .inr ((by decide +kernel : ∀ x ∈ oneS, x ∈ tableS.map (·.1)) _ h)⟩
          | three h hy h0 => exact ⟨_, .inl ⟨h, _, rfl⟩⟩
        obtain ⟨m, hm⟩ := hm
        -- [need(row), effect(row)] != _law_measures(row)
        refine ⟨_, rfl, p6, x, rest, m, rfl, hp7, hm, fun H8 s8 => ?_⟩
        refine ⟨_, rfl, p6, x, rest, m, rfl, Cm.sameT s8 hp7, hm, fun H9 s9 => ⟨Cm.small (by show 2 ≤ 100000; decide), fun p10 np10 => ?_⟩⟩
        have s10 := s9.trans (Cm.same_new (o := .lst [.int (meas x m).1, .int (meas x m).2]) np10)
        refine ⟨_, rfl, p6, x, rest, m, rfl, Cm.sameT s10 (Cm.sameT s8 hp7), hm, fun H11 p11 s11 hp11 => ?_⟩
        have h10 : H11 p10 = some (.lst [.int (meas x m).1, .int (meas x m).2]) := s11 _ _ upd_same
        refine ⟨_, _, .lst (SqL.of h10) (.cons (.int _) (.cons (.int _) .nil)), .lst (SqL.of hp11) (.cons (.int _) (.cons (.int _) .nil)), shaped2 _ _, shaped2 _ _, _, rfl, ?_⟩
        rw [eqv2]
        refine iteF ?_
        have sA : Same H3 H11 := ((((s6'.trans s7).trans s8).trans s10).trans s11)
        have hpA : SqT K H11 p6 (.str x :: rest) := Cm.sameT (((s7.trans s8).trans s10).trans s11) hp6T
        have hLA : SqL K H11 p3 (nums.map V.int) := sA.seq (SqL.of hp3)
        -- the bad row
        refine ⟨_, rfl, _, rfl, _, _, rfl, rfl, p3, _, _, _, rfl, rfl, hLA, e4, .inl ⟨_, rfl, _, rfl, _, rfl, p3, _, _, _, rfl, rfl, hLA, e0, .inl ⟨_, rfl, _, rfl, n4, n0, p6, _, rfl, hpA, hg, r4.1, r0.1, fun H12 p12 ys s12 hp12 hb => ?_⟩⟩⟩
        obtain ⟨y, ys', rfl, h1, h2, h3, h4⟩ := hb
        refine ⟨p12, y, ys', rfl, SqT.of hp12, h1, h2, h3, fun H13 s13 => ?_⟩
        rw [h4]
        refine ⟨_, _, rfl, rfl, _, rfl, iteNS rfl ?_⟩
        exact ⟨_, _, _, _, rfl, (sA.trans s12).trans s13⟩
      · subst e
        exact ⟨_, _, _, _, _, rfl, s3'.trans s4⟩
    · subst e
      -- the constant PLAIN
      refine ⟨_, _, rfl, .inr (T.k_PLAIN H2), rfl, _, rfl, ?_⟩
      refine iteT ?_
      refine ⟨_, plainS, rfl, T.k_PLAIN H2, nlen, by decide, rfl, ?_⟩
      exact q H2
def fn : List He.DefD := [⟨("is_name", none), "is_name", "is_name", defArgs s_is_name, defBody s_is_name, defScope s_is_name, [], []⟩,
  ⟨("is_integer", none), "is_integer", "is_integer", defArgs s_is_integer, defBody s_is_integer, defScope s_is_integer, [], []⟩,
  ⟨("is_instruction", none), "is_instruction", "is_instruction", defArgs s_is_instruction, defBody s_is_instruction, defScope s_is_instruction, [], []⟩,
  ⟨("_is_count", none), "_is_count", "_is_count", defArgs s_is_count, defBody s_is_count, defScope s_is_count, [], []⟩,
  ⟨("need", none), "need", "need", defArgs s_need, defBody s_need, defScope s_need, [], []⟩,
  ⟨("effect", none), "effect", "effect", defArgs s_effect, defBody s_effect, defScope s_effect, [], []⟩,
  ⟨("_law_cell", none), "_law_cell", "_law_cell", defArgs s_lw_cell, defBody s_lw_cell, defScope s_lw_cell, [], []⟩,
  ⟨("_law_numbers", none), "_law_numbers", "_law_numbers", defArgs s_lw_numbers, defBody s_lw_numbers, defScope s_lw_numbers, [], []⟩,
  ⟨("_law_good", none), "_law_good", "_law_good", defArgs s_lw_good, defBody s_lw_good, defScope s_lw_good, [], []⟩,
  ⟨("_law_bad", none), "_law_bad", "_law_bad", defArgs s_lw_bad, defBody s_lw_bad, defScope s_lw_bad, [], []⟩,
  ⟨("_law_measures", none), "_law_measures", "_law_measures", defArgs s_lw_measures, defBody s_lw_measures, defScope s_lw_measures, [], []⟩,
  ⟨("law", none), "law", "law", defArgs s_law, defBody s_law, defScope s_law, [], []⟩]
def fas : List He.Fa := [.glo "is_name", .glo "is_integer", .glo "is_instruction", .glo "_is_count", .glo "need", .glo "effect", .glo "_law_cell", .glo "_law_numbers", .glo "_law_good", .glo "_law_bad", .glo "_law_measures", .glo "law", .int "MAX_NUMBER" 1000000000000, .int "MAX_NAME" 12, .glo "WORDS", .glo "PLAIN", .glo "STACK", .free "len", .free "isinstance", .free "int", .free "bool", .free "str", .free "range", .free "max", .free "min", .free "set"]
def tabs : List He.Tab := [(fun K => He.ga K "STACK", ks_STACK)]
def okX (K : PySem.W.Frag) : Bool := He.tupB K "WORDS" v_WORDS && (He.tupB K "PLAIN" v_PLAIN && (stackB K && (missB K)))
abbrev R : PySem.W.OpenRow := PySem.W.OpenLaw.row PySem.Challenge.rw_portage_k20_instructions
abbrev hk : PySem.W.Hook := Cm.hookX 4 fas fn tabs okX
def ob (s : PySem.W.SharedT) : Cm.AlX := Cm.obsXG 4 fas fn tabs okX (HandSHeadRun.getT s)
theorem ob_eq (s : PySem.W.SharedT) : ob s = hk.obs s.abs := Cm.obsXG_eq (HandSHeadRun.getT_eq s)
abbrev loose : List Str := (["MAX_NUMBER", "MAX_NAME", "WORDS", "is_name", "is_integer", "PLAIN", "STACK", "is_instruction", "_is_count", "need", "effect", "_law_cell", "_law_numbers", "_law_good", "_law_bad", "_law_measures"] : List Str)
theorem run (w : World) : HandSHeadRun.RunEq R (PySem.W.view R.prog [19]) hk ob 2000 loose w := PySem.W.byRow2 "special-get-raises" (P := fun w => HandSHeadRun.RunEq R (PySem.W.view R.prog [19]) hk ob 2000 loose w) (fun w => by
  intro os
  kernel_rfl) (fun w => by
  intro os
  kernel_rfl) w
theorem facts {P : Program} {w : World} {K : PySem.W.Frag} {h : Heap} {mg : Str → Option Value} {f : Addr} (X : K.In h) (G : h.Ns mainGlobals mg) (hfa : mg ("law" : Str) = some (.ref f)) (ok : okX K = true) (c : He.SaysT fas fn tabs w K) :
    ∃ fd : FuncData, (∀ (s : Shared) (v : Value), BindsTo s fd ⟨[v], []⟩ [("script", v)]) ∧ ∀ base : Heap, K.In base → base.Ns mainGlobals mg → FnOk P w K mg base CX0 4 f fd ["script"] (spLaw K) := by
  obtain ⟨d_is_name, F_is_name⟩ := c.d.def_ 0 rfl
  obtain ⟨d_is_integer, F_is_integer⟩ := c.d.def_ 1 rfl
  obtain ⟨d_is_instruction, F_is_instruction⟩ := c.d.def_ 2 rfl
  obtain ⟨d_is_count, F_is_count⟩ := c.d.def_ 3 rfl
  obtain ⟨d_need, F_need⟩ := c.d.def_ 4 rfl
  obtain ⟨d_effect, F_effect⟩ := c.d.def_ 5 rfl
  obtain ⟨d_lw_cell, F_lw_cell⟩ := c.d.def_ 6 rfl
  obtain ⟨d_lw_numbers, F_lw_numbers⟩ := c.d.def_ 7 rfl
  obtain ⟨d_lw_good, F_lw_good⟩ := c.d.def_ 8 rfl
  obtain ⟨d_lw_bad, F_lw_bad⟩ := c.d.def_ 9 rfl
  obtain ⟨d_lw_measures, F_lw_measures⟩ := c.d.def_ 10 rfl
  obtain ⟨d_law, F_law⟩ := c.d.def_ 11 rfl
  have e := hfa.symm.trans (He.glo_ok X G (c.d.fact 11 (f := .glo "law") rfl))
  cases e
  unfold okX at ok
  simp only [Bool.and_eq_true] at ok
  obtain ⟨o0, o1, o2, o3⟩ := ok
  have T : Txt K mg w ⟨d_is_name, d_is_integer, d_is_instruction, d_is_count, d_need, d_effect, d_lw_cell, d_lw_numbers, d_lw_good, d_lw_bad, d_lw_measures, d_law⟩ := {
    F_is_name := F_is_name
    b_is_name := F_is_name.bindsN (ps := ["text"]) fun _ _ _ _ _ _ us hl => match us, hl with | [_], _ => rfl
    g_is_name := He.glo_ok X G (c.d.fact 0 (f := .glo "is_name") rfl)
    F_is_integer := F_is_integer
    b_is_integer := F_is_integer.bindsN (ps := ["value"]) fun _ _ _ _ _ _ us hl => match us, hl with | [_], _ => rfl
    g_is_integer := He.glo_ok X G (c.d.fact 1 (f := .glo "is_integer") rfl)
    F_is_instruction := F_is_instruction
    b_is_instruction := F_is_instruction.bindsN (ps := ["value"]) fun _ _ _ _ _ _ us hl => match us, hl with | [_], _ => rfl
    g_is_instruction := He.glo_ok X G (c.d.fact 2 (f := .glo "is_instruction") rfl)
    F_is_count := F_is_count
    b_is_count := F_is_count.bindsN (ps := ["value"]) fun _ _ _ _ _ _ us hl => match us, hl with | [_], _ => rfl
    g_is_count := He.glo_ok X G (c.d.fact 3 (f := .glo "_is_count") rfl)
    F_need := F_need
    b_need := F_need.bindsN (ps := ["instruction"]) fun _ _ _ _ _ _ us hl => match us, hl with | [_], _ => rfl
    g_need := He.glo_ok X G (c.d.fact 4 (f := .glo "need") rfl)
    F_effect := F_effect
    b_effect := F_effect.bindsN (ps := ["instruction"]) fun _ _ _ _ _ _ us hl => match us, hl with | [_], _ => rfl
    g_effect := He.glo_ok X G (c.d.fact 5 (f := .glo "effect") rfl)
    F_lw_cell := F_lw_cell
    b_lw_cell := F_lw_cell.bindsN (ps := ["script", "k"]) fun _ _ _ _ _ _ us hl => match us, hl with | [_, _], _ => rfl
    g_lw_cell := He.glo_ok X G (c.d.fact 6 (f := .glo "_law_cell") rfl)
    F_lw_numbers := F_lw_numbers
    b_lw_numbers := F_lw_numbers.bindsN (ps := ["cell", "k", "many"]) fun _ _ _ _ _ _ us hl => match us, hl with | [_, _, _], _ => rfl
    g_lw_numbers := He.glo_ok X G (c.d.fact 7 (f := .glo "_law_numbers") rfl)
    F_lw_good := F_lw_good
    b_lw_good := F_lw_good.bindsN (ps := ["pick", "n"]) fun _ _ _ _ _ _ us hl => match us, hl with | [_, _], _ => rfl
    g_lw_good := He.glo_ok X G (c.d.fact 8 (f := .glo "_law_good") rfl)
    F_lw_bad := F_lw_bad
    b_lw_bad := F_lw_bad.bindsN (ps := ["pick", "n", "row"]) fun _ _ _ _ _ _ us hl => match us, hl with | [_, _, _], _ => rfl
    g_lw_bad := He.glo_ok X G (c.d.fact 9 (f := .glo "_law_bad") rfl)
    F_lw_measures := F_lw_measures
    b_lw_measures := F_lw_measures.bindsN (ps := ["row"]) fun _ _ _ _ _ _ us hl => match us, hl with | [_], _ => rfl
    g_lw_measures := He.glo_ok X G (c.d.fact 10 (f := .glo "_law_measures") rfl)
    F_law := F_law
    b_law := F_law.bindsN (ps := ["script"]) fun _ _ _ _ _ _ us hl => match us, hl with | [_], _ => rfl
    g_law := He.glo_ok X G (c.d.fact 11 (f := .glo "law") rfl)
    g_MAX_NUMBER := He.int_ok X G (c.d.fact 12 (f := .int "MAX_NUMBER" 1000000000000) rfl)
    g_MAX_NAME := He.int_ok X G (c.d.fact 13 (f := .int "MAX_NAME" 12) rfl)
    g_WORDS := He.glo_ok X G (c.d.fact 14 (f := .glo "WORDS") rfl)
    k_WORDS := fun H => He.tupB_ok o0 H
    g_PLAIN := He.glo_ok X G (c.d.fact 15 (f := .glo "PLAIN") rfl)
    k_PLAIN := fun H => He.tupB_ok o1 H
    g_STACK := He.glo_ok X G (c.d.fact 16 (f := .glo "STACK") rfl)
    k_STACK := c.tab 0 rfl
    g_len := He.free_ok X G (c.d.fact 17 (f := .free "len") rfl)
    g_isinstance := He.free_ok X G (c.d.fact 18 (f := .free "isinstance") rfl)
    g_int := He.free_ok X G (c.d.fact 19 (f := .free "int") rfl)
    g_bool := He.free_ok X G (c.d.fact 20 (f := .free "bool") rfl)
    g_str := He.free_ok X G (c.d.fact 21 (f := .free "str") rfl)
    g_range := He.free_ok X G (c.d.fact 22 (f := .free "range") rfl)
    g_max := He.free_ok X G (c.d.fact 23 (f := .free "max") rfl)
    g_min := He.free_ok X G (c.d.fact 24 (f := .free "min") rfl)
    g_set := He.free_ok X G (c.d.fact 25 (f := .free "set") rfl)
    p_STACK := o2
    m_STACK := o3
  }
  have b := Cm.bindsA_of (x := "law") (st := s_law) (ps := ["script"]) F_law fun _ _ _ _ _ _ us hl => match us, hl with | [_], _ => rfl
  exact ⟨d_law, fun s v => b s [v] rfl, fun base _ _ => ok_law T⟩
end K20
open PySem PySem.W PySem.Calls PyProof.Rows
set_option maxHeartbeats 0 in
theorem PySem.Challenge.cw_portage_k20_instructions_holds : PySem.Challenge.rw_portage_k20_instructions.Holds := by
  w_on; o_law
  refine HandSHeadRun.head_any (r := OpenLaw.row PySem.Challenge.rw_portage_k20_instructions) (q := view (OpenLaw.row PySem.Challenge.rw_portage_k20_instructions).prog [19]) (H := K20.hk) (ob := K20.ob) (M := 2000) (loose := K20.loose) (d := HandSHeadRun.topDef (OpenLaw.row PySem.Challenge.rw_portage_k20_instructions).prog 19) (kwd := []) K20.ob_eq
    (by kernel_rfl) (fun s => by kernel_rfl) K20.run (by kernel_rfl) (by kernel_rfl) (by kernel_rfl) (by rfl) (by first | assumption | decide +kernel) (by decide +kernel) ⟨rfl, rfl, rfl, rfl, rfl, by decide +kernel⟩ ?hw ?hc
  case hw => w_witness2
  case hc =>
    refine L2.walk_ofE (l := PySem.Challenge.rw_portage_k20_instructions) (n := 63) (k := 4) (x := "script") (CX := L2.CX0) rfl (by decide) (by kernel_rfl) ⟨rfl, by decide, by decide⟩ ?F (fun _ _ _ _ z => z)
    intro w mg fa h Y G hmg0
    obtain ⟨K, KX, ok, c⟩ := Y
    have hmg : mg ("law" : PySem.Str) = some (.ref fa) := by
      have e : (HandSHeadRun.topDef (OpenLaw.row PySem.Challenge.rw_portage_k20_instructions).prog 19).name = ("law" : PySem.Str) := by kernel_rfl
      rw [← e]
      exact hmg0
    obtain ⟨fd, hb, hF⟩ := K20.facts (P := (PySem.Challenge.rw_portage_k20_instructions).prog) (w := w) KX G hmg ok c
    exact ⟨K, fd, K20.spLaw K, KX, hb, fun H a ns hl _ hS => ⟨a, ns, rfl, hS, hl, fun _ => rfl⟩, hF⟩

