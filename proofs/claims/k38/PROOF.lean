import PyProof.Rows.All
import Wide.All
import OpenK.AllK
import Wide.FinOn
import KE.KStateDown
import Lean
import HandS.ForMost
import HandS.Defaults
import HandS.More
import HandS.Flow
import HandS.Style
import HandS.StrMore
import HandS.IsInst
import HandS.TupAny
import HandS.TupMul
import HandS.Head0
import HandS.Head1
import HandS.Head2
import HandS.HeadEnd
import HandS.HeadHook1
import HandS.HeadHook2
import HandS.HeadHook3
import KE.KeyNested
import PyProof.DictMoreH
import KE.KTupSum
import HandS.ExcOwn
import HandS.WordsExc
import KE.SortCalls
import KE.SortKeyed
import KE.KDictCopyH
import KE.KDictSum
import HandS.Zip
import HandS.Deep
import HandS.Comp
import KE.DataCmp
import KE.KRevSl
import PyProof.EqAt
import HandS.FStr
import HandS.Iter
import KE.KExcSuper
import HandS.Exc
import HandS.ExcCtx
import HandS.Hot
import HandS.HotCalls
import HandS.ExcInit
import HandS.ExcInitHot
import HandS.Nested
import HandS.NestedHot
import KE.KExcIs
import HandS.ExcIs
import HandS.ExcField
import KE.GoesRaise
import KE.SortData
import HandS.Codes
import HandS.TryOnly
import HandS.SuiteRaise
import HandS.RaiseFrom
import HandS.RaiseMore
import PySem.Challenge.RW_portage_k38_whole_any_text_of_a_bundle
set_option Elab.async false
set_option linter.all false
set_option maxRecDepth 100000
set_option maxHeartbeats 4000000
/-! What my proofs have in common: a Hook with one more test, and small words. -/
namespace Cm
open PySem PySem.Spec PyProof.Rows L2 He

abbrev FnP (K : PySem.W.Frag) (x : Str) (st : Stmt) (f : Addr) (fd : FuncData) : Prop := FunD K x x (defArgs st) (defBody st) (defScope st) [] [] f fd
theorem bindsA_of {K : PySem.W.Frag} {x : Str} {st : Stmt} {f : Addr} {fd : FuncData} {ps : List Str} (F : FnP K x st f fd)
    (h : ∀ (kV doc pm : Value) (an : Option Addr) (cdv ct : Value) (us : List Value), us.length = ps.length → bindArgs (PySem.W.fnOf x x (defArgs st) (defBody st) (defScope st) .none kV doc pm an cdv ct) ⟨us, []⟩ = pure (ps.zip us)) (s : Shared) (us : List Value) (hl : us.length = ps.length) : BindsTo s fd ⟨us, []⟩ (ps.zip us) := FunD.bindsA F h s us hl

/-! ### heaps that grow -/
theorem same_new {H : Hp} {p : Addr} {o : HO} (h : H p = none) : Same H (upd H p o) := fun b x e => by
  rw [upd_ne (ne_of_none e h)]
  exact e
theorem same_mut {H H' : Hp} {p : Addr} {o : HO} (s : Same H H') (h : H p = none) : Same H (upd H' p o) := fun b x e => by
  rw [upd_ne (ne_of_none e h)]
  exact s b x e
theorem sameT {K : PySem.W.Frag} {H H' : Hp} {a : Addr} {xs : List V} (s : Same H H') (h : SqT K H a xs) : SqT K H' a xs := by
  rcases h with (h | ⟨o, h⟩) | h
  · exact .inl (.inl (s _ _ h))
  · exact .inl (.inr ⟨o, s _ _ h⟩)
  · exact .inr h
theorem sqt_new {K : PySem.W.Frag} {H : Hp} {p : Addr} {xs : List V} : SqT K (upd H p (.tup xs)) p xs := .inl (.inl upd_same)
theorem sql_new {K : PySem.W.Frag} {H : Hp} {p : Addr} {xs : List V} : SqL K (upd H p (.lst xs)) p xs := .inl (.inl upd_same)
theorem small {n : Nat} (h : n ≤ 100000) : n ≤ sizeLine := by
  rw [sizeLine_eq]
  omega
theorem smallL {n : Nat} (h : n ≤ 100000) : n < sizeLine := by
  rw [sizeLine_eq]
  omega
/-! ### tests -/
theorem itV {x : Bool} {A B : Prop} (h1 : x = true → A) (h2 : x = false → B) : if (if false = true then !x else x) = true then A else B := by
  cases x
  · exact h2 rfl
  · exact h1 rfl
theorem itVn {x : Bool} {A B : Prop} (h1 : x = false → A) (h2 : x = true → B) : if (if true = true then !x else x) = true then A else B := by
  cases x
  · exact h1 rfl
  · exact h2 rfl
theorem itB {x : Bool} {A B : Prop} (h1 : x = true → A) (h2 : x = false → B) : if x = true then A else B := by
  cases x
  · exact h2 rfl
  · exact h1 rfl
theorem itBn {x : Bool} {A B : Prop} (h1 : x = false → A) (h2 : x = true → B) : if (!x) = true then A else B := by
  cases x
  · exact h1 rfl
  · exact h2 rfl
theorem itD {c : Prop} [Decidable c] {A B : Prop} (h1 : c → A) (h2 : ¬ c → B) : if decide c = true then A else B := by
  by_cases h : c
  · rw [if_pos (decide_eq_true h)]
    exact h1 h
  · rw [if_neg (by rw [decide_eq_false h]; decide)]
    exact h2 h
theorem itDn {c : Prop} [Decidable c] {A B : Prop} (h1 : ¬ c → A) (h2 : c → B) : if (!decide c) = true then A else B := by
  by_cases h : c
  · rw [if_neg (by rw [decide_eq_true h]; decide)]
    exact h2 h
  · rw [if_pos (by rw [decide_eq_false h]; rfl)]
    exact h1 h
theorem deq_int {i j : Int} : decide (V.int i = V.int j) = decide (i = j) := by
  by_cases h : i = j
  · rw [h, decide_eq_true rfl, decide_eq_true rfl]
  · rw [decide_eq_false h, decide_eq_false fun e => h (V.int.inj e)]
theorem deq_str {x y : Str} : decide (V.str x = V.str y) = decide (x = y) := by
  by_cases h : x = y
  · rw [h, decide_eq_true rfl, decide_eq_true rfl]
  · rw [decide_eq_false h, decide_eq_false fun e => h (V.str.inj e)]
theorem deq_bl {x y : Bool} : decide (V.bl x = V.bl y) = decide (x = y) := by
  by_cases h : x = y
  · rw [h, decide_eq_true rfl, decide_eq_true rfl]
  · rw [decide_eq_false h, decide_eq_false fun e => h (V.bl.inj e)]
theorem itEI {x y : Int} {A B : Prop} (h1 : x = y → A) (h2 : ¬ x = y → B) : if decide (V.int x = V.int y) = true then A else B := by
  rw [deq_int]
  exact itD h1 h2
theorem itES {x y : Str} {A B : Prop} (h1 : x = y → A) (h2 : ¬ x = y → B) : if decide (V.str x = V.str y) = true then A else B := by
  rw [deq_str]
  exact itD h1 h2
theorem itNI {x y : Int} {A B : Prop} (h1 : ¬ x = y → A) (h2 : x = y → B) : if (!decide (V.int x = V.int y)) = true then A else B := by
  rw [deq_int]
  exact itDn h1 h2
theorem itNS {x y : Str} {A B : Prop} (h1 : ¬ x = y → A) (h2 : x = y → B) : if (!decide (V.str x = V.str y)) = true then A else B := by
  rw [deq_str]
  exact itDn h1 h2
theorem str_nil {z : Str} (h : z.cps.toList = []) : z = ⟨#[]⟩ := by
  obtain ⟨c⟩ := z
  have e : c = #[] := by simpa using h
  rw [e]
/-! ### items -/
theorem at_in {xs : List V} {i : Int} (h0 : 0 ≤ i) (h1 : i < (xs.length : Int)) : ∃ v, v ∈ xs ∧ atI xs i = some v := by
  obtain ⟨j, rfl⟩ := Int.eq_ofNat_of_zero_le h0
  have h2 : j < xs.length := by omega
  exact ⟨xs[j], List.getElem_mem h2, atI_nat (List.getElem?_eq_getElem h2)⟩
theorem at_str {ws : List Str} {i : Int} (h0 : 0 ≤ i) (h1 : i < (ws.length : Int)) : ∃ w, w ∈ ws ∧ atI (ws.map V.str) i = some (.str w) := by
  obtain ⟨v, hv, e⟩ := at_in (xs := ws.map V.str) h0 (by rw [List.length_map]; exact h1)
  obtain ⟨w, hw, rfl⟩ := List.mem_map.mp hv
  exact ⟨w, hw, e⟩
theorem at_int {ns : List Int} {i : Int} (h0 : 0 ≤ i) (h1 : i < (ns.length : Int)) : ∃ n, n ∈ ns ∧ atI (ns.map V.int) i = some (.int n) := by
  obtain ⟨v, hv, e⟩ := at_in (xs := ns.map V.int) h0 (by rw [List.length_map]; exact h1)
  obtain ⟨n, hn, rfl⟩ := List.mem_map.mp hv
  exact ⟨n, hn, e⟩
/-! ### a Hook with one more test -/
abbrev AlX : Type := Bool × AlT
def obsX (fa : List Fa) (fn : List DefD) (ts : List Tab) (ok : PySem.W.Frag → Bool) (K : PySem.W.Frag) : AlX := (ok K, obsT fa fn ts K)
def obsXG (n : Nat) (fa : List Fa) (fn : List DefD) (ts : List Tab) (ok : PySem.W.Frag → Bool) (g : Addr → Option Obj) : AlX := obsX fa fn ts ok (frG g (asD g n))
def hookX (n : Nat) (fa : List Fa) (fn : List DefD) (ts : List Tab) (ok : PySem.W.Frag → Bool) : PySem.W.Hook where
  α := AlX
  obs := fun s => obsXG n fa fn ts ok s.heap.get?
  val := fun w => (true, valT fn ts w)
  says := fun w h => ∃ K : PySem.W.Frag, K.In h ∧ ok K = true ∧ SaysT fa fn ts w K
  of := fun w s e => ⟨frG s.heap.get? (asD s.heap.get? n), frG_in, congrArg (fun z : AlX => z.1) e, congrArg (fun z : AlX => z.2) e⟩
  keeps := fun _ _ _ ⟨K, hK, o, c⟩ k => ⟨K, PySem.W.Frag.In.keeps hK k, o, c⟩
theorem obsXG_eq {n : Nat} {fa : List Fa} {fn : List DefD} {ts : List Tab} {ok : PySem.W.Frag → Bool} {g : Addr → Option Obj} {s : Shared} (h : ∀ a, g a = s.heap.get? a) : obsXG n fa fn ts ok g = (hookX n fa fn ts ok).obs s := by
  have e : g = s.heap.get? := funext h
  rw [e] <;> rfl
end Cm

set_option Elab.async false
set_option linter.all false
set_option maxRecDepth 100000
set_option maxHeartbeats 4000000
/-! Program trees: expressions, statements, what they are as data, their code. No word of any one statement here. -/
namespace Pt
open PySem PySem.Spec PyProof.Rows L2

/-! ### data that never changes: numbers, texts, truth values, tuples of such -/
mutual
inductive Rp (K : PySem.W.Frag) (H : Hp) : V → PyData → Prop
  | non : Rp K H .non .none
  | bl (b : Bool) : Rp K H (.bl b) (.bool b)
  | int (i : Int) : Rp K H (.int i) (.int i)
  | str (x : Str) : Rp K H (.str x) (.str x)
  | tup {a : Addr} {xs : List V} {ds : List PyData} : SqT K H a xs → Rps K H xs ds → Rp K H (.ref a) (.tuple ds)
inductive Rps (K : PySem.W.Frag) (H : Hp) : List V → List PyData → Prop
  | nil : Rps K H [] []
  | cons {v : V} {vs : List V} {d : PyData} {ds : List PyData} : Rp K H v d → Rps K H vs ds → Rps K H (v :: vs) (d :: ds)
end
/-- all that was tracked stays, but what stands at c -/
def Keep (c : Addr) (H H' : Hp) : Prop := ∀ b o, H b = some o → b ≠ c → H' b = some o
theorem Keep.refl (c : Addr) (H : Hp) : Keep c H H := fun _ _ h _ => h
theorem Keep.trans {c : Addr} {H H1 H2 : Hp} (a : Keep c H H1) (b : Keep c H1 H2) : Keep c H H2 := fun x o h n => b x o (a x o h n) n
theorem Keep.of {c : Addr} {H H' : Hp} (s : Same H H') : Keep c H H' := fun b o h _ => s b o h
/-- what was tracked and is no list stays -/
def Tups (H H' : Hp) : Prop := ∀ b o, H b = some o → (∀ xs, o ≠ .lst xs) → H' b = some o
theorem Same.tups {H H' : Hp} (s : Same H H') : Tups H H' := fun b o h _ => s b o h
theorem Keep.tups {c : Addr} {H H' : Hp} {xs : List V} (k : Keep c H H') (h : H c = some (.lst xs)) : Tups H H' := fun b o hb no => k b o hb fun e => by
  subst e
  rw [h] at hb
  exact no xs (Option.some.inj hb).symm
section
variable {K : PySem.W.Frag} {H H' : Hp}
theorem Tups.sqt (k : Tups H H') {a : Addr} {xs : List V} (h : SqT K H a xs) : SqT K H' a xs := by
  rcases h with (h | ⟨o, h⟩) | h
  · exact .inl (.inl (k _ _ h fun _ e => by cases e))
  · exact .inl (.inr ⟨o, k _ _ h fun _ e => by cases e⟩)
  · exact .inr h
mutual
theorem Rp.keep (k : Tups H H') : ∀ {v : V} {d : PyData}, Rp K H v d → Rp K H' v d
  | _, _, .non => .non
  | _, _, .bl b => .bl b
  | _, _, .int i => .int i
  | _, _, .str x => .str x
  | _, _, .tup h r => .tup (k.sqt h) (Rps.keep k r)
theorem Rps.keep (k : Tups H H') : ∀ {vs : List V} {ds : List PyData}, Rps K H vs ds → Rps K H' vs ds
  | _, _, .nil => .nil
  | _, _, .cons h r => .cons (Rp.keep k h) (Rps.keep k r)
end
mutual
theorem Rp.dp : ∀ {v : V} {d : PyData}, Rp K H v d → Dp K H v d
  | _, _, .non => .non
  | _, _, .bl b => .bl b
  | _, _, .int i => .int i
  | _, _, .str x => .str x
  | _, _, .tup h r => .tup h (Rps.dp r)
theorem Rps.dp : ∀ {vs : List V} {ds : List PyData}, Rps K H vs ds → DpAll K H vs ds
  | _, _, .nil => .nil
  | _, _, .cons h r => .cons (Rp.dp h) (Rps.dp r)
end
theorem Rps.len : ∀ {vs : List V} {ds : List PyData}, Rps K H vs ds → vs.length = ds.length
  | _, _, .nil => rfl
  | _, _, .cons _ r => congrArg (· + 1) (Rps.len r)
theorem Rps.app : ∀ {vs us : List V} {ds es : List PyData}, Rps K H vs ds → Rps K H us es → Rps K H (vs ++ us) (ds ++ es)
  | _, _, _, _, .nil, r => r
  | _, _, _, _, .cons h r, s => .cons h (Rps.app r s)
theorem Rps.at_ : ∀ {vs : List V} {ds : List PyData} {i : Nat} {d : PyData}, Rps K H vs ds → ds[i]? = some d → ∃ v, vs[i]? = some v ∧ Rp K H v d
  | _, _, 0, _, .cons h _, e => ⟨_, rfl, by cases e; exact h⟩
  | _, _, i + 1, _, .cons _ r, e => Rps.at_ (i := i) r e
theorem Rps.drop : ∀ {vs : List V} {ds : List PyData} (n : Nat), Rps K H vs ds → Rps K H (vs.drop n) (ds.drop n)
  | _, _, 0, r => r
  | _, _, _ + 1, .nil => .nil
  | _, _, n + 1, .cons _ r => Rps.drop n r
theorem Rps.take : ∀ {vs : List V} {ds : List PyData} (n : Nat), Rps K H vs ds → Rps K H (vs.take n) (ds.take n)
  | _, _, 0, _ => .nil
  | _, _, _ + 1, .nil => .nil
  | _, _, n + 1, .cons h r => .cons h (Rps.take n r)
theorem Rps.one {v : V} {d : PyData} (h : Rp K H v d) : Rps K H [v] [d] := .cons h .nil
theorem Rp.tup_inv {v : V} {ds : List PyData} (h : Rp K H v (.tuple ds)) : ∃ a vs, v = .ref a ∧ SqT K H a vs ∧ Rps K H vs ds := by
  cases h with
  | tup h r => exact ⟨_, _, rfl, h, r⟩
theorem Rp.str_inv {v : V} {x : Str} (h : Rp K H v (.str x)) : v = .str x := by
  cases h
  rfl
theorem Rp.int_inv {v : V} {i : Int} (h : Rp K H v (.int i)) : v = .int i := by
  cases h
  rfl
theorem Rp.bl_inv {v : V} {b : Bool} (h : Rp K H v (.bool b)) : v = .bl b := by
  cases h
  rfl
theorem Rps.cons_inv {vs : List V} {d : PyData} {ds : List PyData} (h : Rps K H vs (d :: ds)) : ∃ v r, vs = v :: r ∧ Rp K H v d ∧ Rps K H r ds := by
  cases h with
  | cons a b => exact ⟨_, _, rfl, a, b⟩
theorem Rps.nil_inv {vs : List V} (h : Rps K H vs []) : vs = [] := by
  cases h
  rfl
theorem Rp.new {p : Addr} {vs : List V} {ds : List PyData} (h : H' p = some (.tup vs)) (r : Rps K H' vs ds) : Rp K H' (.ref p) (.tuple ds) := .tup (.inl (.inl h)) r
/-- a new tuple of what stood before -/
theorem Rp.made {p : Addr} {vs : List V} {ds : List PyData} (hp : H p = none) (r : Rps K H vs ds) : Rp K (upd H p (.tup vs)) (.ref p) (.tuple ds) := .tup (.inl (.inl upd_same)) (r.keep (Same.tups (Cm.same_new hp)))
/-- a list stays where its content is another than c's -/
theorem Keep.seq {c a : Addr} {xs ys : List V} (k : Keep c H H') (hc : H c = some (.lst ys)) (ne : xs ≠ ys) (h : SqL K H a xs) : SqL K H' a xs := by
  rcases h with (h | ⟨o, h⟩) | h
  · refine .inl (.inl (k _ _ h fun e => ?_))
    rw [e, hc] at h
    cases h
    exact ne rfl
  · refine .inl (.inr ⟨o, k _ _ h fun e => ?_⟩)
    rw [e, hc] at h
    cases h
  · exact .inr h
end

/-- tuple + tuple -/
theorem cat_rp {K : PySem.W.Frag} {H : Hp} {x y : V} {ds es : List PyData} {Q : VK} (hx : Rp K H x (.tuple ds)) (hy : Rp K H y (.tuple es)) (hl : ds.length + es.length ≤ 10000000) (h : ∀ (v : V) (H' : Hp), Same H H' → Rp K H' v (.tuple (ds ++ es)) → Q v H') : rCatA K x y H Q := by
  obtain ⟨a, xs, rfl, ha, hxs⟩ := hx.tup_inv
  obtain ⟨b, ys, rfl, hb, hys⟩ := hy.tup_inv
  refine ⟨a, b, xs, ys, rfl, rfl, ha, hb, ?_, fun e => ?_, fun _ e => ?_, fun _ _ p np => ?_⟩
  · rw [hxs.len, hys.len, sizeLine_eq]
    omega
  · subst e
    cases hxs
    exact h _ _ (Same.refl H) hy
  · subst e
    cases hys
    rw [List.append_nil] at h
    exact h _ _ (Same.refl H) hx
  · exact h _ _ (Cm.same_new np) (Rp.made np (hxs.app hys))
/-- a tuple from a place on -/
theorem from_rp {K : PySem.W.Frag} {H : Hp} {x : V} {ds : List PyData} {k : Nat} {Q : VK} (hx : Rp K H x (.tuple ds)) (hk : k ≤ ds.length) (h : ∀ (v : V) (H' : Hp), Same H H' → Rp K H' v (.tuple (ds.drop k)) → Q v H') : rSlA K x (some (k : Int)) none H Q := by
  obtain ⟨a, xs, rfl, ha, hxs⟩ := hx.tup_inv
  have hl := hxs.len
  have e0 : HT.sIx xs.length 0 (some (k : Int)) = k := by
    rw [show HT.sIx xs.length 0 (some (k : Int)) = min k xs.length from HT.sIx_nat _ 0 k]
    omega
  refine ⟨a, xs, rfl, ha, fun e => ?_, fun _ p np => ?_⟩
  · have z := e.1
    rw [e0] at z
    subst z
    exact h _ _ (Same.refl H) hx
  · have ec : cutV xs (some (k : Int)) none = xs.drop k := by
      unfold cutV
      rw [e0, HT.sIx_none]
      exact List.take_of_length_le (by rw [List.length_drop]; exact Nat.le_refl _)
    rw [ec]
    exact h _ _ (Cm.same_new np) (Rp.made np (hxs.drop k))
/-! ### equality of data is reflexive; its form -/
/-- numbers, texts, truth values, None -/
def leafD : PyData → Bool
  | .none => true
  | .bool _ => true
  | .int _ => true
  | .str _ => true
  | _ => false

/-! ### expressions and statements -/
mutual
inductive E where
  | int (n : Int)
  | name (x : Str)
  | choice (o : Bool) (l r : E)
  | call (r : E) (f : Str) (as : Es)
  | new (m : Str) (as : Es)
  | plain (w : Str) (as : Es)
inductive Es where
  | nil
  | cons (e : E) (es : Es)
end
mutual
inductive S where
  | letS (x k : Str) (e : E)
  | setS (x : Str) (e : E)
  | ifS (e : E) (b c : Ss)
  | whileS (e : E) (b : Ss)
  | doS (e : E)
  | fork (r : E) (f : Str) (as : Es)
  | plain (w : Str) (as : Es)
inductive Ss where
  | nil
  | cons (s : S) (ss : Ss)
end
def cw (o : Bool) : Str := if o then "or" else "and"
mutual
def E.d : E → PyData
  | .int n => .tuple [.str "int", .int n]
  | .name x => .tuple [.str "name", .str x]
  | .choice o l r => .tuple [.str (cw o), l.d, r.d]
  | .call r f as => .tuple [.str "call", r.d, .str f, .tuple as.ds]
  | .new m as => .tuple [.str "new", .str m, .tuple as.ds]
  | .plain w as => .tuple (.str w :: as.ds)
def Es.ds : Es → List PyData
  | .nil => []
  | .cons e es => e.d :: es.ds
end
mutual
def S.d : S → PyData
  | .letS x k e => .tuple [.str "let", .str x, .str k, e.d]
  | .setS x e => .tuple [.str "set", .str x, e.d]
  | .ifS e b c => .tuple [.str "if", e.d, .tuple b.ds, .tuple c.ds]
  | .whileS e b => .tuple [.str "while", e.d, .tuple b.ds]
  | .doS e => .tuple [.str "do", e.d]
  | .fork r f as => .tuple [.str "fork", r.d, .str f, .tuple as.ds]
  | .plain w as => .tuple (.str w :: as.ds)
def Ss.ds : Ss → List PyData
  | .nil => []
  | .cons s ss => s.d :: ss.ds
end
def Es.list : Es → List E
  | .nil => []
  | .cons e es => e :: es.list
def Ss.list : Ss → List S
  | .nil => []
  | .cons s ss => s :: ss.list
def Ss.of : List S → Ss
  | [] => .nil
  | s :: ss => .cons s (Ss.of ss)
def Ss.app : Ss → Ss → Ss
  | .nil, c => c
  | .cons s b, c => .cons s (b.app c)
def Es.len : Es → Nat
  | .nil => 0
  | .cons _ es => es.len + 1
theorem Es.ds_len : ∀ es : Es, es.ds.length = es.len
  | .nil => rfl
  | .cons _ es => congrArg (· + 1) (Es.ds_len es)
theorem Es.list_ds : ∀ es : Es, es.ds = es.list.map E.d
  | .nil => rfl
  | .cons _ es => congrArg (_ :: ·) (Es.list_ds es)
theorem Ss.list_ds : ∀ es : Ss, es.ds = es.list.map S.d
  | .nil => rfl
  | .cons _ es => congrArg (_ :: ·) (Ss.list_ds es)
theorem Ss.app_ds : ∀ b c : Ss, (b.app c).ds = b.ds ++ c.ds
  | .nil, _ => rfl
  | .cons _ b, c => congrArg (_ :: ·) (Ss.app_ds b c)
theorem Ss.app_list : ∀ b c : Ss, (b.app c).list = b.list ++ c.list
  | .nil, _ => rfl
  | .cons _ b, c => congrArg (_ :: ·) (Ss.app_list b c)
theorem Ss.of_list : ∀ l : List S, (Ss.of l).list = l
  | [] => rfl
  | _ :: l => congrArg (_ :: ·) (Ss.of_list l)
/-! ### the names that are used; the names of lets -/
mutual
def E.uses : E → List Str
  | .int _ => []
  | .name x => [x]
  | .choice _ l r => l.uses ++ r.uses
  | .call r _ as => r.uses ++ as.uses
  | .new _ as => as.uses
  | .plain _ as => as.uses
def Es.uses : Es → List Str
  | .nil => []
  | .cons e es => e.uses ++ es.uses
end
mutual
def S.uses : S → List Str
  | .letS x _ e => x :: e.uses
  | .setS x e => x :: e.uses
  | .ifS e b c => e.uses ++ (b.uses ++ c.uses)
  | .whileS e b => e.uses ++ b.uses
  | .doS e => e.uses
  | .fork r _ as => r.uses ++ as.uses
  | .plain _ as => as.uses
def Ss.uses : Ss → List Str
  | .nil => []
  | .cons s ss => s.uses ++ ss.uses
end
mutual
def S.lets : S → List Str
  | .letS x _ _ => [x]
  | .ifS _ b c => b.lets ++ c.lets
  | .whileS _ b => b.lets
  | _ => []
def Ss.lets : Ss → List Str
  | .nil => []
  | .cons s ss => s.lets ++ ss.lets
end
theorem Ss.app_lets : ∀ b c : Ss, (b.app c).lets = b.lets ++ c.lets
  | .nil, _ => rfl
  | .cons s b, c => by
    show s.lets ++ (b.app c).lets = (s.lets ++ b.lets) ++ c.lets
    rw [Ss.app_lets b c, List.append_assoc]
theorem Ss.app_uses : ∀ b c : Ss, (b.app c).uses = b.uses ++ c.uses
  | .nil, _ => rfl
  | .cons s b, c => by
    show s.uses ++ (b.app c).uses = (s.uses ++ b.uses) ++ c.uses
    rw [Ss.app_uses b c, List.append_assoc]
/-! ### words in their places -/
abbrev plainE : List Str := ["nil", "self", "add", "sub", "mul", "less", "most", "same", "not"]
abbrev leafE : List Str := ["nil", "self"]
def Es.isNil : Es → Bool
  | .nil => true
  | .cons _ _ => false
abbrev plainB : List Str := ["return", "print", "move"]
/-- how many parts stand behind a word -/
def arE (w : Str) : Nat := if w ∈ leafE then 0 else if w = "not" then 1 else 2
def arB (w : Str) : Nat := if w = "move" then 2 else 1
mutual
def E.wf : E → Bool
  | .int _ => true
  | .name _ => true
  | .choice _ l r => l.wf && r.wf
  | .call r _ as => r.wf && as.wf
  | .new _ as => as.wf
  | .plain w as => (decide (w ∈ plainE) && decide (as.len = arE w)) && as.wf
def Es.wf : Es → Bool
  | .nil => true
  | .cons e es => e.wf && es.wf
end
mutual
def S.wf : S → Bool
  | .letS _ _ e => e.wf
  | .setS _ e => e.wf
  | .ifS e b c => e.wf && (b.wf && c.wf)
  | .whileS e b => e.wf && b.wf
  | .doS e => e.wf
  | .fork r _ as => r.wf && as.wf
  | .plain w as => (decide (w ∈ plainB) && decide (as.len = arB w)) && as.wf
def Ss.wf : Ss → Bool
  | .nil => true
  | .cons s ss => s.wf && ss.wf
end
theorem Ss.app_wf : ∀ b c : Ss, (b.app c).wf = (b.wf && c.wf)
  | .nil, _ => rfl
  | .cons s b, c => by
    show (s.wf && (b.app c).wf) = ((s.wf && b.wf) && c.wf)
    rw [Ss.app_wf b c, Bool.and_assoc]
theorem and2 {a b : Bool} (h1 : a = true) (h2 : b = true) : (a && b) = true := by rw [h1, h2]; rfl
theorem wfP {w : Str} {e : E} {as : Es} (h1 : decide (w ∈ plainB) = true) (h3 : (Es.cons e as).len = arB w) (h2 : (Es.cons e as).wf = true) : (S.plain w (.cons e as)).wf = true := and2 (and2 h1 (decide_eq_true h3)) h2
theorem ar_nil {w : Str} (h : decide (0 = arE w) = true) : w ∈ leafE := by
  by_cases e : w ∈ leafE
  · exact e
  · have h' := of_decide_eq_true h
    unfold arE at h'
    rw [if_neg e] at h'
    split at h' <;> omega
theorem ar_some {w : Str} {n : Nat} (h : decide (n + 1 = arE w) = true) : ¬ w ∈ leafE := fun e => by
  have h' := of_decide_eq_true h
  unfold arE at h'
  rw [if_pos e] at h'
  omega
theorem wfW {e : E} {b : Ss} (h1 : e.wf = true) (h2 : b.wf = true) : (S.whileS e b).wf = true := and2 h1 h2
theorem wfC {e : E} {es : Es} (h1 : e.wf = true) (h2 : es.wf = true) : (Es.cons e es).wf = true := and2 h1 h2
theorem wfSs {e : S} {es : Ss} (h1 : e.wf = true) (h2 : es.wf = true) : (Ss.cons e es).wf = true := and2 h1 h2
/-! ### depth -/
mutual
def E.dep : E → Nat
  | .int _ => 0
  | .name _ => 0
  | .choice _ l r => max l.dep r.dep + 1
  | .call r _ as => max r.dep as.dep + 1
  | .new _ as => as.dep + 1
  | .plain _ as => as.dep + 1
def Es.dep : Es → Nat
  | .nil => 0
  | .cons e es => max e.dep es.dep
end
mutual
def S.dep : S → Nat
  | .letS _ _ e => e.dep + 1
  | .setS _ e => e.dep + 1
  | .ifS e b c => max e.dep (max b.dep c.dep) + 1
  | .whileS e b => max e.dep b.dep + 1
  | .doS e => e.dep + 1
  | .fork r _ as => max r.dep as.dep + 1
  | .plain _ as => as.dep + 1
def Ss.dep : Ss → Nat
  | .nil => 0
  | .cons s ss => max s.dep ss.dep
end
/-! ### the number of instructions -/
mutual
def E.sz : E → Nat
  | .int _ => 1
  | .name _ => 1
  | .choice o l r => l.sz + r.sz + (if o then 2 else 0) + 5
  | .call r _ as => r.sz + as.sz + 1
  | .new _ as => as.sz + 1
  | .plain _ as => as.sz + 1
def Es.sz : Es → Nat
  | .nil => 0
  | .cons e es => e.sz + es.sz
end
mutual
def S.sz : S → Nat
  | .letS _ _ e => e.sz + 1
  | .setS _ e => e.sz + 1
  | .ifS e b c => e.sz + 1 + b.sz + (match c with | .nil => 0 | .cons _ _ => 1) + c.sz
  | .whileS e b => e.sz + b.sz + 2
  | .doS e => e.sz + 1
  | .fork r _ as => r.sz + as.sz + 1
  | .plain _ as => as.sz + 1
def Ss.sz : Ss → Nat
  | .nil => 0
  | .cons s ss => s.sz + ss.sz
end
theorem Ss.app_dep : ∀ b c : Ss, (b.app c).dep = max b.dep c.dep
  | .nil, _ => (Nat.zero_max _).symm
  | .cons s b, c => by
    show max s.dep (b.app c).dep = max (max s.dep b.dep) c.dep
    rw [Ss.app_dep b c, Nat.max_assoc]
theorem Ss.app_sz : ∀ b c : Ss, (b.app c).sz = b.sz + c.sz
  | .nil, _ => (Nat.zero_add _).symm
  | .cons s b, c => by
    show s.sz + (b.app c).sz = (s.sz + b.sz) + c.sz
    rw [Ss.app_sz b c, Nat.add_assoc]
/-! ### code -/
def I1 (x : Str) : PyData := .tuple [.str x]
def I2 (x : Str) (n : Int) : PyData := .tuple [.str x, .int n]
def I3 (x y : Str) (n : Int) : PyData := .tuple [.str x, .str y, .int n]
/-- what turns the parts of an or -/
def tn (o : Bool) : List PyData := if o then [I1 "not"] else []
def kn (o : Bool) : Nat := if o then 1 else 0
def ends (o : Bool) (d : Nat) : List PyData := [I2 "push" (if o then 0 else 1), I2 "jump" ((d : Int) + 1), I2 "push" (if o then 1 else 0)]
abbrev Plc := Str → Str × Int
mutual
def E.code (pl : Plc) : E → Nat → List PyData
  | .int n, _ => [I2 "push" n]
  | .name x, _ => [I2 (pl x).1 (pl x).2]
  | .choice o l r, at_ => (l.code pl at_ ++ tn o) ++ [I2 "unless" ((at_ + l.sz + kn o + 1 + r.sz + kn o + 3 : Nat) : Int)] ++ (r.code pl (at_ + l.sz + kn o + 1) ++ tn o) ++ [I2 "unless" ((at_ + l.sz + kn o + 1 + r.sz + kn o + 3 : Nat) : Int)] ++ ends o (at_ + l.sz + kn o + 1 + r.sz + kn o + 3)
  | .call r f as, at_ => (r.code pl at_ ++ as.code pl (at_ + r.sz)) ++ [I3 "call" f as.len]
  | .new m as, at_ => as.code pl at_ ++ [I3 "new" m as.len]
  | .plain w as, at_ => as.code pl at_ ++ [I1 w]
def Es.code (pl : Plc) : Es → Nat → List PyData
  | .nil, _ => []
  | .cons e es, at_ => e.code pl at_ ++ es.code pl (at_ + e.sz)
end
mutual
def S.code (pl : Plc) : S → Nat → List PyData
  | .letS x _ e, at_ => e.code pl at_ ++ [I2 ("set" ++ (pl x).1) (pl x).2]
  | .setS x e, at_ => e.code pl at_ ++ [I2 ("set" ++ (pl x).1) (pl x).2]
  | .ifS e b .nil, at_ => e.code pl at_ ++ [I2 "unless" ((at_ + e.sz + 1 + b.sz : Nat) : Int)] ++ b.code pl (at_ + e.sz + 1)
  | .ifS e b (.cons s ss), at_ => e.code pl at_ ++ [I2 "unless" ((at_ + e.sz + 1 + b.sz + 1 : Nat) : Int)] ++ b.code pl (at_ + e.sz + 1) ++ [I2 "jump" ((at_ + e.sz + 1 + b.sz + 1 + (s.sz + ss.sz) : Nat) : Int)] ++
      (s.code pl (at_ + e.sz + 1 + b.sz + 1) ++ ss.code pl (at_ + e.sz + 1 + b.sz + 1 + s.sz))
  | .whileS e b, at_ => e.code pl at_ ++ [I2 "unless" ((at_ + e.sz + 1 + b.sz + 1 : Nat) : Int)] ++ b.code pl (at_ + e.sz + 1) ++ [I2 "jump" (at_ : Nat)]
  | .doS e, at_ => e.code pl at_ ++ [I1 "drop"]
  | .fork r f as, at_ => (r.code pl at_ ++ as.code pl (at_ + r.sz)) ++ [I3 "fork" f as.len]
  | .plain w as, at_ => as.code pl at_ ++ [I1 w]
def Ss.code (pl : Plc) : Ss → Nat → List PyData
  | .nil, _ => []
  | .cons s ss, at_ => s.code pl at_ ++ ss.code pl (at_ + s.sz)
end
theorem tn_len (o : Bool) : (tn o).length = kn o := by cases o <;> rfl
mutual
theorem E.code_len (pl : Plc) : ∀ (e : E) (a : Nat), (e.code pl a).length = e.sz
  | .int _, _ => rfl
  | .name _, _ => rfl
  | .choice o l r, a => by
    have h1 := E.code_len pl l a
    have h2 := E.code_len pl r (a + l.sz + kn o + 1)
    simp only [E.code, List.length_append, List.length_cons, List.length_nil, h1, h2, tn_len, ends, E.sz]
    cases o <;> simp [kn] <;> omega
  | .call r f as, a => by
    have h1 := E.code_len pl r a
    have h2 := Es.code_len pl as (a + r.sz)
    simp only [E.code, List.length_append, List.length_cons, List.length_nil, h1, h2, E.sz]
  | .new m as, a => by
    have h2 := Es.code_len pl as a
    simp only [E.code, List.length_append, List.length_cons, List.length_nil, h2, E.sz]
  | .plain w as, a => by
    have h2 := Es.code_len pl as a
    simp only [E.code, List.length_append, List.length_cons, List.length_nil, h2, E.sz]
theorem Es.code_len (pl : Plc) : ∀ (es : Es) (a : Nat), (es.code pl a).length = es.sz
  | .nil, _ => rfl
  | .cons e es, a => by
    have h1 := E.code_len pl e a
    have h2 := Es.code_len pl es (a + e.sz)
    simp only [Es.code, List.length_append, h1, h2, Es.sz]
end
mutual
theorem S.code_len (pl : Plc) : ∀ (s : S) (a : Nat), (s.code pl a).length = s.sz
  | .letS x k e, a => by simp only [S.code, List.length_append, List.length_cons, List.length_nil, E.code_len, S.sz]
  | .setS x e, a => by simp only [S.code, List.length_append, List.length_cons, List.length_nil, E.code_len, S.sz]
  | .ifS e b .nil, a => by
    have h := Ss.code_len pl b (a + e.sz + 1)
    simp only [S.code, List.length_append, List.length_cons, List.length_nil, E.code_len, h, S.sz, Ss.sz]
    omega
  | .ifS e b (.cons s ss), a => by
    have h := Ss.code_len pl b (a + e.sz + 1)
    have h1 := S.code_len pl s (a + e.sz + 1 + b.sz + 1)
    have h2 := Ss.code_len pl ss (a + e.sz + 1 + b.sz + 1 + s.sz)
    simp only [S.code, List.length_append, List.length_cons, List.length_nil, E.code_len, h, h1, h2, S.sz, Ss.sz]
  | .whileS e b, a => by
    have h := Ss.code_len pl b (a + e.sz + 1)
    simp only [S.code, List.length_append, List.length_cons, List.length_nil, E.code_len, h, S.sz]
    omega
  | .doS e, a => by simp only [S.code, List.length_append, List.length_cons, List.length_nil, E.code_len, S.sz]
  | .fork r f as, a => by simp only [S.code, List.length_append, List.length_cons, List.length_nil, E.code_len, Es.code_len, S.sz]
  | .plain w as, a => by simp only [S.code, List.length_append, List.length_cons, List.length_nil, Es.code_len, S.sz]
theorem Ss.code_len (pl : Plc) : ∀ (ss : Ss) (a : Nat), (ss.code pl a).length = ss.sz
  | .nil, _ => rfl
  | .cons s ss, a => by
    have h1 := S.code_len pl s a
    have h2 := Ss.code_len pl ss (a + s.sz)
    simp only [Ss.code, List.length_append, h1, h2, Ss.sz]
end
/-! ### rows of expressions, of statements, taken to a place -/
def Es.take : Es → Nat → Es
  | _, 0 => .nil
  | .nil, _ + 1 => .nil
  | .cons e es, n + 1 => .cons e (es.take n)
def Ss.take : Ss → Nat → Ss
  | _, 0 => .nil
  | .nil, _ + 1 => .nil
  | .cons e es, n + 1 => .cons e (es.take n)
theorem Es.take_next {pl : Plc} : ∀ {es : Es} {i : Nat} {e : E} (a : Nat), es.list[i]? = some e → (es.take (i + 1)).code pl a = (es.take i).code pl a ++ e.code pl (a + (es.take i).sz) ∧ (es.take (i + 1)).sz = (es.take i).sz + e.sz
  | .cons e es, 0, _, a, h => by
    cases h
    constructor
    · show e.code pl a ++ (es.take 0).code pl (a + e.sz) = [] ++ e.code pl (a + 0)
      cases es <;> simp [Es.take, Es.code]
    · show e.sz + (es.take 0).sz = 0 + e.sz
      cases es <;> simp [Es.take, Es.sz]
  | .cons e es, i + 1, f, a, h => by
    have ih := Es.take_next (pl := pl) (es := es) (i := i) (e := f) (a + e.sz) h
    constructor
    · show e.code pl a ++ (es.take (i + 1)).code pl (a + e.sz) = (e.code pl a ++ (es.take i).code pl (a + e.sz)) ++ f.code pl (a + (e.sz + (es.take i).sz))
      rw [ih.1, List.append_assoc, Nat.add_assoc a]
    · show e.sz + (es.take (i + 1)).sz = e.sz + (es.take i).sz + f.sz
      rw [ih.2]
      omega
  | .nil, i, _, _, h => by cases h
theorem Es.take_all : ∀ es : Es, es.take es.list.length = es
  | .nil => rfl
  | .cons e es => congrArg (Es.cons e) (Es.take_all es)
theorem Es.take_sz : ∀ (es : Es) (i : Nat), (es.take i).sz ≤ es.sz
  | es, 0 => by cases es <;> exact Nat.zero_le _
  | .nil, _ + 1 => Nat.le_refl _
  | .cons e es, i + 1 => Nat.add_le_add_left (Es.take_sz es i) _
theorem Ss.take_next {pl : Plc} : ∀ {es : Ss} {i : Nat} {e : S} (a : Nat), es.list[i]? = some e → (es.take (i + 1)).code pl a = (es.take i).code pl a ++ e.code pl (a + (es.take i).sz) ∧ (es.take (i + 1)).sz = (es.take i).sz + e.sz
  | .cons e es, 0, _, a, h => by
    cases h
    constructor
    · show e.code pl a ++ (es.take 0).code pl (a + e.sz) = [] ++ e.code pl (a + 0)
      cases es <;> simp [Ss.take, Ss.code]
    · show e.sz + (es.take 0).sz = 0 + e.sz
      cases es <;> simp [Ss.take, Ss.sz]
  | .cons e es, i + 1, f, a, h => by
    have ih := Ss.take_next (pl := pl) (es := es) (i := i) (e := f) (a + e.sz) h
    constructor
    · show e.code pl a ++ (es.take (i + 1)).code pl (a + e.sz) = (e.code pl a ++ (es.take i).code pl (a + e.sz)) ++ f.code pl (a + (e.sz + (es.take i).sz))
      rw [ih.1, List.append_assoc, Nat.add_assoc a]
    · show e.sz + (es.take (i + 1)).sz = e.sz + (es.take i).sz + f.sz
      rw [ih.2]
      omega
  | .nil, i, _, _, h => by cases h
theorem Ss.take_all : ∀ es : Ss, es.take es.list.length = es
  | .nil => rfl
  | .cons e es => congrArg (Ss.cons e) (Ss.take_all es)
theorem Ss.take_sz : ∀ (es : Ss) (i : Nat), (es.take i).sz ≤ es.sz
  | es, 0 => by cases es <;> exact Nat.zero_le _
  | .nil, _ + 1 => Nat.le_refl _
  | .cons e es, i + 1 => Nat.add_le_add_left (Ss.take_sz es i) _
/-- the parts of a row -/
theorem Es.part : ∀ {es : Es} {e : E}, e ∈ es.list → (es.wf = true → e.wf = true) ∧ (∀ x ∈ e.uses, x ∈ es.uses) ∧ e.dep ≤ es.dep ∧ e.sz ≤ es.sz
  | .cons f fs, e, h => by
    rcases List.mem_cons.mp (show e ∈ f :: fs.list from h) with rfl | h
    · exact ⟨fun w => (Bool.and_eq_true_iff.mp w).1, fun x hx => List.mem_append_left _ hx, Nat.le_max_left _ _, Nat.le_add_right _ _⟩
    · obtain ⟨h1, h2, h3, h4⟩ := Es.part h
      exact ⟨fun w => h1 (Bool.and_eq_true_iff.mp w).2, fun x hx => List.mem_append_right _ (h2 x hx), Nat.le_trans h3 (Nat.le_max_right _ _), Nat.le_trans h4 (Nat.le_add_left _ _)⟩
  | .nil, _, h => by cases h
theorem Ss.part : ∀ {es : Ss} {e : S}, e ∈ es.list → (es.wf = true → e.wf = true) ∧ (∀ x ∈ e.uses, x ∈ es.uses) ∧ e.dep ≤ es.dep ∧ e.sz ≤ es.sz
  | .cons f fs, e, h => by
    rcases List.mem_cons.mp (show e ∈ f :: fs.list from h) with rfl | h
    · exact ⟨fun w => (Bool.and_eq_true_iff.mp w).1, fun x hx => List.mem_append_left _ hx, Nat.le_max_left _ _, Nat.le_add_right _ _⟩
    · obtain ⟨h1, h2, h3, h4⟩ := Ss.part h
      exact ⟨fun w => h1 (Bool.and_eq_true_iff.mp w).2, fun x hx => List.mem_append_right _ (h2 x hx), Nat.le_trans h3 (Nat.le_max_right _ _), Nat.le_trans h4 (Nat.le_add_left _ _)⟩
  | .nil, _, h => by cases h
theorem Rps.at_E {K : PySem.W.Frag} {H : Hp} {vs : List V} {es : Es} {i : Nat} {v : V} (r : Rps K H vs es.ds) (h : vs[i]? = some v) : ∃ e, es.list[i]? = some e ∧ Rp K H v e.d := by
  rw [Es.list_ds] at r
  have hl := r.len
  rw [List.length_map] at hl
  have hi : i < es.list.length := by
    rw [← hl]
    exact (List.getElem?_eq_some_iff.mp h).1
  have e1 : es.list[i]? = some es.list[i] := List.getElem?_eq_getElem hi
  obtain ⟨u, hu, ru⟩ := r.at_ (i := i) (d := es.list[i].d) (by rw [List.getElem?_map, e1]; rfl)
  rw [h] at hu
  cases hu
  exact ⟨_, e1, ru⟩
theorem Rps.at_S {K : PySem.W.Frag} {H : Hp} {vs : List V} {es : Ss} {i : Nat} {v : V} (r : Rps K H vs es.ds) (h : vs[i]? = some v) : ∃ e, es.list[i]? = some e ∧ Rp K H v e.d := by
  rw [Ss.list_ds] at r
  have hl := r.len
  rw [List.length_map] at hl
  have hi : i < es.list.length := by
    rw [← hl]
    exact (List.getElem?_eq_some_iff.mp h).1
  have e1 : es.list[i]? = some es.list[i] := List.getElem?_eq_getElem hi
  obtain ⟨u, hu, ru⟩ := r.at_ (i := i) (d := es.list[i].d) (by rw [List.getElem?_map, e1]; rfl)
  rw [h] at hu
  cases hu
  exact ⟨_, e1, ru⟩
/-- an item of a tuple of data -/
theorem ix_rp {K : PySem.W.Frag} {H : Hp} {x : V} {ds : List PyData} {i : Nat} {d : PyData} {Q : VK} (hx : Rp K H x (.tuple ds)) (hi : ds[i]? = some d) (h : ∀ v, Rp K H v d → Q v H) : rIxT K x (.int (i : Nat)) H Q := by
  obtain ⟨a, xs, rfl, ha, hxs⟩ := hx.tup_inv
  obtain ⟨v, hv, rv⟩ := hxs.at_ hi
  exact ⟨a, xs, _, v, rfl, rfl, ha, atI_nat hv, h v rv⟩
theorem len_rp {K : PySem.W.Frag} {H : Hp} {x : V} {ds : List PyData} (hx : Rp K H x (.tuple ds)) : ∃ a xs, x = .ref a ∧ SqT K H a xs ∧ xs.length = ds.length := by
  obtain ⟨a, xs, rfl, ha, hxs⟩ := hx.tup_inv
  exact ⟨a, xs, rfl, ha, hxs.len⟩
/-- where the names are kept: a dict of places -/
def PlAt (K : PySem.W.Frag) (H : Hp) (nd : Addr) (pl : Plc) (N : List Str) : Prop := ∃ kvs, H nd = some (.dK kvs) ∧ ∀ x ∈ N, (pl x).1.length ≤ 1000 ∧ ∃ v, valV kvs (.inr x : Key) = some v ∧ Rp K H v (.tuple [.str (pl x).1, .int (pl x).2])
theorem PlAt.same {K : PySem.W.Frag} {H H' : Hp} {nd : Addr} {pl : Plc} {N : List Str} (p : PlAt K H nd pl N) (s : Same H H') : PlAt K H' nd pl N := by
  obtain ⟨kvs, h, q⟩ := p
  exact ⟨kvs, s _ _ h, fun x hx => ⟨(q x hx).1, by
    obtain ⟨v, h1, h2⟩ := (q x hx).2
    exact ⟨v, h1, h2.keep (Same.tups s)⟩⟩⟩
end Pt

set_option Elab.async false
set_option linter.all false
set_option maxRecDepth 100000
set_option maxHeartbeats 4000000
/-! Dicts whose keys are tuples of any depth (names of processes, of objects): {}, d[k], d[k] = v, del d[k], k in d, d.get. -/
namespace ND
open PySem PySem.W PySem.Spec PyProof.Rows L2 Pt

/-- tuples stay -/
abbrev TK (K : PySem.W.Frag) (H H' : Hp) : Prop := ∀ c xs, SqT K H c xs → SqT K H' c xs
theorem TK.refl {K : PySem.W.Frag} {H : Hp} : TK K H H := fun _ _ h => h
theorem TK.trans {K : PySem.W.Frag} {H H1 H2 : Hp} (a : TK K H H1) (b : TK K H1 H2) : TK K H H2 := fun c xs h => b c xs (a c xs h)
theorem TK.same {K : PySem.W.Frag} {H H' : Hp} (s : Same H H') : TK K H H' := fun _ _ h => Cm.sameT s h
theorem TK.of {K : PySem.W.Frag} {H H' : Hp} (t : Tups H H') : TK K H H' := fun _ _ h => t.sqt h
/-- what may be written is no tuple -/
theorem TK.upd {K : PySem.W.Frag} {H : Hp} {a : Addr} {o : HO} (m : Mut (H a)) : TK K H (upd H a o) := fun c xs h => by
  rcases h with (h | ⟨u, h⟩) | h
  · refine .inl (.inl ?_)
    rw [upd_ne fun z => by subst z; rw [h] at m; exact m]
    exact h
  · refine .inl (.inr ⟨u, ?_⟩)
    rw [upd_ne fun z => by subst z; rw [h] at m; exact m]
    exact h
  · exact .inr h
mutual
theorem rp_keep {K : PySem.W.Frag} {H H' : Hp} (k : TK K H H') : ∀ {v : V} {d : PyData}, Rp K H v d → Rp K H' v d
  | _, _, .non => .non
  | _, _, .bl b => .bl b
  | _, _, .int i => .int i
  | _, _, .str x => .str x
  | _, _, .tup h r => .tup (k _ _ h) (rps_keep k r)
theorem rps_keep {K : PySem.W.Frag} {H H' : Hp} (k : TK K H H') : ∀ {vs : List V} {ds : List PyData}, Rps K H vs ds → Rps K H' vs ds
  | _, _, .nil => .nil
  | _, _, .cons h r => .cons (rp_keep k h) (rps_keep k r)
end
/-- the value v is the key k -/
def KeyAt (K : PySem.W.Frag) (H : Hp) (v : V) (k : NestedKey) : Prop := Rp K H v k.data ∧ k.depth ≤ 8 ∧ ∃ ks, k = .tup ks
theorem KeyAt.keep {K : PySem.W.Frag} {H H' : Hp} {v : V} {k : NestedKey} (t : TK K H H') (h : KeyAt K H v k) : KeyAt K H' v k := ⟨rp_keep t h.1, h.2⟩
theorem KeyAt.ref {K : PySem.W.Frag} {H : Hp} {v : V} {k : NestedKey} (h : KeyAt K H v k) : ∃ b, v = .ref b := by
  obtain ⟨r, _, ks, rfl⟩ := h
  obtain ⟨a, xs, rfl, _⟩ := r.tup_inv
  exact ⟨a, rfl⟩
section
variable {X : Cx} {pins : List (Addr × Obj)} {σ : L2.St} {H : Hp} {s : Shared}
mutual
theorem is_of (I : Inv X pins σ H s) : ∀ (k : NestedKey) (v : V) (u : Value), Rp X.K H v k.data → RelV v u → NestedIs s.heap k u
  | .none, v, u, r, ru => by
    simp only [NestedKey.data] at r
    cases r
    cases ru
    exact .none
  | .num i, v, u, r, ru => by
    simp only [NestedKey.data] at r
    cases r
    obtain ⟨t, rfl⟩ := ru
    exact .int _ _
  | .text x, v, u, r, ru => by
    simp only [NestedKey.data] at r
    cases r
    obtain ⟨t, rfl⟩ := ru
    exact .text _ _
  | .tup ks, v, u, r, ru => by
    simp only [NestedKey.data] at r
    obtain ⟨a, vs, rfl, ha, hvs⟩ := r.tup_inv
    cases ru
    obtain ⟨its, rv, ⟨o, ho, hc, n, hd⟩, hz⟩ := I.tuple ha
    exact .tup ho hc hd (by simpa using all_of I ks vs its hvs rv)
theorem all_of (I : Inv X pins σ H s) : ∀ (ks : List NestedKey) (vs : List V) (us : List Value), Rps X.K H vs (NestedKey.datas ks) → Vals vs us → NestedAll s.heap ks us
  | [], vs, us, r, ru => by
    simp only [NestedKey.datas] at r
    cases r
    cases ru
    exact .nil
  | k :: ks, vs, us, r, ru => by
    simp only [NestedKey.datas] at r
    cases r with
    | cons h t =>
      cases ru with
      | cons h' t' => exact .cons (is_of I k _ _ h h') (all_of I ks _ _ t t')
end
theorem key_of (I : Inv X pins σ H s) {b : Addr} {k : NestedKey} (h : KeyAt X.K H (.ref b) k) : (nestedKind X.prog X.w).is s.heap k b := ⟨is_of I k _ _ h.1 rfl, h.2.1⟩
end

/-- the dict at a holds xs -/
def ndO (P : Program) (w : World) (xs : List (NestedKey × Addr × Value)) (a : Addr) : HO := .ext fun h => (a == sysModules) = false ∧ xs.length ≤ sizeLine ∧
  ∃ o es ep, h.get? a = some o ∧ o.ExactDict ∧ o.data = .dict es ep ∧ es.toList = xs.map (entryOfKey (nestedKind P w)) ∧ (xs.map (·.1)).Nodup
abbrev KN (K : PySem.W.Frag) (H : Hp) : List (NestedKey × V) → List (NestedKey × Addr × Value) → Prop := Paired fun p q => p.1 = q.1 ∧ KeyAt K H (.ref q.2.1) p.1 ∧ RelV p.2 q.2.2
/-- at a stands a dict with these entries -/
def NDct (P : Program) (w : World) (K : PySem.W.Frag) (H : Hp) (a : Addr) (kvs : List (NestedKey × V)) : Prop := ∃ xs, H a = some (ndO P w xs a) ∧ KN K H kvs xs
section
variable {P : Program} {w : World} {K : PySem.W.Frag} {H H' : Hp} {a : Addr} {kvs : List (NestedKey × V)}
theorem KN.keep (t : TK K H H') {xs : List (NestedKey × Addr × Value)} (h : KN K H kvs xs) : KN K H' kvs xs := Paired.mapP h fun _ _ z => ⟨z.1, z.2.1.keep t, z.2.2⟩
theorem NDct.keep (t : TK K H H') (e : H' a = H a) (h : NDct P w K H a kvs) : NDct P w K H' a kvs := by
  obtain ⟨xs, h1, h2⟩ := h
  exact ⟨xs, e.trans h1, KN.keep t h2⟩
theorem NDct.same (t : Same H H') (h : NDct P w K H a kvs) : NDct P w K H' a kvs := by
  obtain ⟨xs, h1, h2⟩ := h
  exact ⟨xs, t _ _ h1, KN.keep (TK.same t) h2⟩
theorem NDct.some (h : NDct P w K H a kvs) : ∃ o, H a = some o ∧ (∀ xs, o ≠ .lst xs) ∧ (∀ xs, o ≠ .tup xs) ∧ Mut (H a) := by
  obtain ⟨xs, h1, h2⟩ := h
  exact ⟨_, h1, (fun _ z => nomatch z), (fun _ z => nomatch z), by rw [h1]; exact True.intro⟩
theorem KN.val {xs : List (NestedKey × Addr × Value)} (r : KN K H kvs xs) (k : NestedKey) : RelO (valV kvs k) ((atKey xs k).map (·.2)) := by
  induction r with
  | nil => exact True.intro
  | @cons p q ps qs h t ih =>
    obtain ⟨h1, _, h2⟩ := h
    by_cases e : p.1 = k
    · have e' : q.1 = k := h1.symm.trans e
      have b : atKey (q :: qs) k = some q.2 := by simp [atKey, List.find?_cons, e']
      rw [valV_pos e, b]; exact h2
    · have e' : ¬ q.1 = k := fun z => e (h1.trans z)
      have b : atKey (q :: qs) k = atKey qs k := by simp [atKey, List.find?_cons, e']
      rw [valV_neg e, b]; exact ih
theorem KN.repl {xs : List (NestedKey × Addr × Value)} (r : KN K H kvs xs) (k : NestedKey) {y : V} {u : Value} (ry : RelV y u) :
    KN K H (kvs.map fun kv => if kv.1 = k then (kv.1, y) else kv) (xs.map (putAt k u)) := by
  induction r with
  | nil => exact .nil
  | @cons p q ps qs h t ih =>
    rw [List.map_cons, List.map_cons]
    refine .cons ?_ ih
    obtain ⟨h1, h2, h3⟩ := h
    unfold putAt
    by_cases e : p.1 = k
    · rw [if_pos e, if_pos (h1.symm.trans e)]; exact ⟨h1, h2, ry⟩
    · rw [if_neg e, if_neg (fun z => e (h1.trans z))]; exact ⟨h1, h2, h3⟩
theorem KN.put {xs : List (NestedKey × Addr × Value)} (r : KN K H kvs xs) (k : NestedKey) {b : Addr} {y : V} {u : Value} (hb : KeyAt K H (.ref b) k) (ry : RelV y u) :
    KN K H (putK kvs k y) (storedH xs k b u) := by
  have e : (kvs.any fun kv => decide (kv.1 = k)) = (atKey xs k).isSome := by
    rw [valV_any, (r.val k).isSome_eq, Option.isSome_map]
  unfold putK storedH
  rw [e]
  by_cases q : (atKey xs k).isSome = true
  · rw [if_pos q, if_pos q]; exact r.repl k ry
  · rw [if_neg q, if_neg q]; exact Paired.snoc r ⟨rfl, hb, ry⟩
theorem KN.drop {xs : List (NestedKey × Addr × Value)} (r : KN K H kvs xs) (k : NestedKey) : KN K H (dropK kvs k) (withoutH xs k) := by
  induction r with
  | nil => exact .nil
  | @cons p q ps qs h t ih =>
    obtain ⟨h1, h2, h3⟩ := h
    unfold dropK withoutH at ih ⊢
    rw [List.filter_cons, List.filter_cons]
    by_cases e : p.1 = k
    · have e' : q.1 = k := h1.symm.trans e
      simp only [e, e', decide_true, Bool.not_true, ne_eq, not_true_eq_false, decide_false, Bool.false_eq_true, if_false]
      exact ih
    · have e' : ¬ q.1 = k := fun z => e (h1.trans z)
      simp only [e, e', decide_false, Bool.not_false, ne_eq, not_false_eq_true, decide_true, if_true]
      exact .cons ⟨h1, h2, h3⟩ ih
end

section
variable {X : Cx} {pins : List (Addr × Obj)} {σ : L2.St} {H : Hp} {s : Shared} {a b : Addr} {v : V} {u r : Value} {k : NestedKey} {kvs : List (NestedKey × V)} {A : Around} {E : Value → Shared → Prop}
theorem nd_of (I : Inv X pins σ H s) (g : NDct X.prog X.w X.K H a kvs) : kvs.length ≤ sizeLine ∧ (a == sysModules) = false ∧ ∃ xs, H a = some (ndO X.prog X.w xs a) ∧ KN X.K H kvs xs ∧ s.heap.DictOfH (nestedKind X.prog X.w) a xs := by
  obtain ⟨xs, e, r⟩ := g
  obtain ⟨⟨hd, hz, o, es, ep, h1, h2, h3, h4, h5⟩, _⟩ := (show ObjOk X.prog X.w H s.heap a (ndO X.prog X.w xs a) from I.hok a _ e)
  refine ⟨by rw [Paired.length r]; exact hz, hd, xs, e, r, o, es, ep, h1, h2, h3, h4, fun x hx => ?_, h5⟩
  have all : ∀ {l : List (NestedKey × V)} {m : List (NestedKey × Addr × Value)}, KN X.K H l m → ∀ x ∈ m, (nestedKind X.prog X.w).is s.heap x.1 x.2.1 := by
    intro l m q
    induction q with
    | nil => intro x hx; exact nomatch hx
    | @cons p q ps qs hq t ih =>
      intro x hx
      rcases List.mem_cons.mp hx with e | hx
      · subst e
        exact key_of I (by rw [← hq.1]; exact hq.2.1)
      · exact ih x hx
  exact all r x hx
theorem nd_ok {P : Program} {w : World} {H' : Hp} {h' : Heap} {xs : List (NestedKey × Addr × Value)} (hd : (a == sysModules) = false) (hz : xs.length ≤ sizeLine) (dd : h'.DictOfH (nestedKind P w) a xs) :
    ObjOk P w H' h' a (ndO P w xs a) := by
  obtain ⟨o, es, ep, h1, h2, h3, h4, _, h5⟩ := dd
  exact ⟨⟨hd, hz, o, es, ep, h1, h2, h3, h4, h5⟩, ⟨o, h1⟩, fun g1 g2 ⟨q1, q2, o', es', ep', p1, p⟩ k => ⟨q1, q2, o', es', ep', k _ p1, p⟩⟩
theorem nd_type (I : Inv X pins σ H s) (g : NDct X.prog X.w X.K H a kvs) : s.TypeIs (.ref a) "dict" ∧ (∀ b, Value.ref a = .ref b → ∃ ob, s.heap.get? b = some ob ∧ ob.dict = none) := by
  obtain ⟨_, _, xs, _, _, dd⟩ := nd_of I g
  refine ⟨dd.typeIs, fun b q => ?_⟩
  cases q
  obtain ⟨ob, _, _, h1, h2, _⟩ := dd
  exact ⟨ob, h1, h2.2.1⟩
theorem nd_getItem {Q : Value → Shared → Prop} (hu : A.units + 9 < cLine) (I : Inv X pins σ H s) (g : NDct X.prog X.w X.K H a kvs) (ky : KeyAt X.K H (.ref b) k) (l : valV kvs k = some v) (h : ∀ w' s', Inv X pins σ H s' → RelV v w' → Q w' s') :
    wpAny (model X.prog X.w) A (getItem (.ref a) (.ref b)) Q E s := by
  obtain ⟨_, _, xs, _, rel, dd⟩ := nd_of I g
  obtain ⟨w', hw, rw'⟩ := RelO.some_of (v := v) (o := (atKey xs k).map (·.2)) (by rw [← l]; exact rel.val k)
  obtain ⟨p, hp, hp2⟩ := Option.map_eq_some_iff.mp hw
  refine wpAny_getItem_heap (show A.in1.units + 8 < cLine by rw [Around.in1_units]; omega) (key_of I ky) dd hp ?_
  rw [hp2]
  exact h w' _ (I.tok _) rw'
theorem nd_in {Q : Value → Shared → Prop} (hu : A.units + 9 < cLine) (I : Inv X pins σ H s) (g : NDct X.prog X.w X.K H a kvs) (ky : KeyAt X.K H (.ref b) k) (h : ∀ s', Inv X pins σ H s' → Q (.bool (valV kvs k).isSome) s') :
    wpAny (model X.prog X.w) A (compareOp .In (.ref b) (.ref a)) Q E s := by
  obtain ⟨_, hd, xs, _, rel, dd⟩ := nd_of I g
  refine wpAny_in_heap (show A.in1.units + 8 < cLine by rw [Around.in1_units]; omega) (key_of I ky) hd dd ?_
  have q := (rel.val k).isSome_eq
  rw [Option.isSome_map] at q
  rw [← q]
  exact h _ (I.tok _)
theorem nd_notIn {Q : Value → Shared → Prop} (hu : A.units + 9 < cLine) (I : Inv X pins σ H s) (g : NDct X.prog X.w X.K H a kvs) (ky : KeyAt X.K H (.ref b) k) (h : ∀ s', Inv X pins σ H s' → Q (.bool (!(valV kvs k).isSome)) s') :
    wpAny (model X.prog X.w) A (compareOp .NotIn (.ref b) (.ref a)) Q E s := by
  obtain ⟨_, hd, xs, _, rel, dd⟩ := nd_of I g
  refine wpAny_notIn_heap (show A.in1.units + 8 < cLine by rw [Around.in1_units]; omega) (key_of I ky) hd dd ?_
  have q := (rel.val k).isSome_eq
  rw [Option.isSome_map] at q
  rw [← q]
  exact h _ (I.tok _)
theorem nd_get1 {Q : Value → Shared → Prop} (hu : A.units + 9 < cLine) (I : Inv X pins σ H s) (g : NDct X.prog X.w X.K H a kvs) (ky : KeyAt X.K H (.ref b) k) (h : ∀ w' s', Inv X pins σ H s' → RelV ((valV kvs k).getD .non) w' → Q w' s') :
    wpAny (model X.prog X.w) A (call (.builtin "dict.get") [.ref a, .ref b]) Q E s := by
  obtain ⟨_, hd, xs, _, rel, dd⟩ := nd_of I g
  refine call_meetsIn PySem.F.slot_dict_get dd.typeIs PySem.F.entry_dict_get (PySem.F.args_dict_get_2 _ _) (meetsH_dict_get (nestedKind X.prog X.w) a b hd) ⟨show A.in1.units + 8 < cLine by rw [Around.in1_units]; omega, k, xs, key_of I ky, dd, h _ _ (I.tok _) ?_⟩
  exact (rel.val k).getD rfl
theorem nd_get2 {d : V} {Q : Value → Shared → Prop} (hu : A.units + 9 < cLine) (I : Inv X pins σ H s) (g : NDct X.prog X.w X.K H a kvs) (ky : KeyAt X.K H (.ref b) k) (rd : RelV d r) (h : ∀ w' s', Inv X pins σ H s' → RelV ((valV kvs k).getD d) w' → Q w' s') :
    wpAny (model X.prog X.w) A (call (.builtin "dict.get") [.ref a, .ref b, r]) Q E s := by
  obtain ⟨_, hd, xs, _, rel, dd⟩ := nd_of I g
  refine call_meetsIn PySem.F.slot_dict_get dd.typeIs PySem.F.entry_dict_get (PySem.F.args_dict_get_3 _ _ _) (meetsH_dict_get_default (nestedKind X.prog X.w) a b hd r) ⟨show A.in1.units + 8 < cLine by rw [Around.in1_units]; omega, k, xs, key_of I ky, dd, h _ _ (I.tok _) ?_⟩
  exact (rel.val k).getD rd
/-- d[k] = v -/
theorem nd_setItem {Q : Unit → Shared → Prop} (hu : A.units + 9 < cLine) (I : Inv X pins σ H s) (g : NDct X.prog X.w X.K H a kvs) (ky : KeyAt X.K H (.ref b) k) (hl : kvs.length < sizeLine) (rv : RelV v r)
    (h : ∀ o s', NDct X.prog X.w X.K (upd H a o) a (putK kvs k v) → Inv X pins σ (upd H a o) s' → Q () s') :
    wpAny (model X.prog X.w) A (setItem (.ref a) (.ref b) r) Q E s := by
  obtain ⟨_, hd, xs, e, rel, dd⟩ := nd_of I g
  have hz : xs.length ≤ sizeLine := by rw [← Paired.length rel]; omega
  refine wpAny_setItem_heap (hsz := hz) (show A.in1.units + 8 < cLine by rw [Around.in1_units]; omega) (key_of I ky) dd fun h' dd' hs => ?_
  have rel' := rel.put k ky rv
  have hz' : (storedH xs k b r).length ≤ sizeLine := by
    rw [← Paired.length rel']
    have := length_putK kvs k v
    omega
  have he : ∃ q, h'.get? a = some q := let ⟨q, _, _, hq, _⟩ := dd'; ⟨q, hq⟩
  exact h (ndO X.prog X.w (storedH xs k b r) a) _ ⟨_, upd_same, KN.keep (TK.upd (H := H) (a := a) (by rw [e]; exact True.intro)) rel'⟩ (d_write I (by rw [e]; exact True.intro) hs he (nd_ok hd hz' dd'))
/-- del d[k] -/
theorem nd_delItem {Q : Unit → Shared → Prop} (hu : A.units + 9 < cLine) (I : Inv X pins σ H s) (g : NDct X.prog X.w X.K H a kvs) (ky : KeyAt X.K H (.ref b) k) (l : (valV kvs k).isSome = true)
    (h : ∀ o s', NDct X.prog X.w X.K (upd H a o) a (dropK kvs k) → Inv X pins σ (upd H a o) s' → Q () s') :
    wpAny (model X.prog X.w) A (delItem (.ref a) (.ref b)) Q E s := by
  obtain ⟨hl, hd, xs, e, rel, dd⟩ := nd_of I g
  have hz : xs.length ≤ sizeLine := by rw [← Paired.length rel]; exact hl
  have q := (rel.val k).isSome_eq
  rw [Option.isSome_map, l] at q
  obtain ⟨p, hp⟩ := Option.isSome_iff_exists.mp q.symm
  refine wpAny_delItem_heap (hsz := hz) (show A.in1.units + 8 < cLine by rw [Around.in1_units]; omega) (key_of I ky) hd dd hp fun h' dd' hs => ?_
  have rel' := rel.drop k
  have hz' : (withoutH xs k).length ≤ sizeLine := Nat.le_trans (by unfold withoutH; exact List.length_filter_le _ _) hz
  have he : ∃ q, h'.get? a = some q := let ⟨q, _, _, hq, _⟩ := dd'; ⟨q, hq⟩
  exact h (ndO X.prog X.w (withoutH xs k) a) _ ⟨_, upd_same, KN.keep (TK.upd (H := H) (a := a) (by rw [e]; exact True.intro)) rel'⟩ (d_write I (by rw [e]; exact True.intro) hs he (nd_ok hd hz' dd'))
end

/-! ### readings and rules -/
section
variable (P : Program) (w : World) (K : PySem.W.Frag)
/-- {} -/
def tNNew : TE := fun _ H Q => ∀ p o, H p = none → NDct P w K (upd H p o) p [] → Q (.ref p) (upd H p o)
/-- d[y] -/
def tNGet (td ty : TE) : TE := fun σ H Q => td σ H fun x H1 => ty σ H1 fun y H2 => ∃ a kvs k v, x = .ref a ∧ NDct P w K H2 a kvs ∧ KeyAt K H2 y k ∧ valV kvs k = some v ∧ Q v H2
/-- y in d, y not in d -/
def tNIn (neg : Bool) (ty td : TE) : TE := fun σ H Q => ty σ H fun y H1 => td σ H1 fun x H2 => ∃ a kvs k, x = .ref a ∧ NDct P w K H2 a kvs ∧ KeyAt K H2 y k ∧ Q (.bl (if neg then !(valV kvs k).isSome else (valV kvs k).isSome)) H2
/-- d.get(y), d.get(y, z) -/
def tNGet1 (td ty : TE) : TE := fun σ H Q => td σ H fun x H1 => ∃ a kvs, x = .ref a ∧ NDct P w K H1 a kvs ∧ ty σ H1 fun y H2 => ∃ kvs k, NDct P w K H2 a kvs ∧ KeyAt K H2 y k ∧ Q ((valV kvs k).getD .non) H2
def tNGet2 (td ty tz : TE) : TE := fun σ H Q => td σ H fun x H1 => ∃ a kvs, x = .ref a ∧ NDct P w K H1 a kvs ∧ ty σ H1 fun y H2 => tz σ H2 fun z H3 => ∃ kvs k, NDct P w K H3 a kvs ∧ KeyAt K H3 y k ∧ Q ((valV kvs k).getD z) H3
/-- d[y] = v -/
def sNPut (td ty tv : TE) : TS := fun D σ H => tv σ H fun v H1 => td σ H1 fun x H2 => ty σ H2 fun y H3 => ∃ a kvs k, x = .ref a ∧ NDct P w K H3 a kvs ∧ KeyAt K H3 y k ∧ kvs.length < sizeLine ∧
  ∀ o, NDct P w K (upd H3 a o) a (putK kvs k v) → D.nx σ (upd H3 a o)
/-- del d[y] -/
def sNDel (td ty : TE) : TS := fun D σ H => td σ H fun x H1 => ty σ H1 fun y H2 => ∃ a kvs k, x = .ref a ∧ NDct P w K H2 a kvs ∧ KeyAt K H2 y k ∧ (valV kvs k).isSome = true ∧
  ∀ o, NDct P w K (upd H2 a o) a (dropK kvs k) → D.nx σ (upd H2 a o)
end
section
variable {X : Cx} {o i e f value : Expr} {pos pos' tpos apos cpos : Pos} {td ty tv tz : TE}
theorem pe_nnew : PE X (.Dict [] [] pos) (tNNew X.prog X.w X.K) := ⟨fun pins s σ H Q I h => by
  have hb := I.big
  have ok : ObjOk X.prog X.w (upd H s.heap.objs.size (ndO X.prog X.w [] s.heap.objs.size)) (s.heap.push { cls := .type "dict", data := .dict #[] }) s.heap.objs.size (ndO X.prog X.w [] s.heap.objs.size) :=
    nd_ok (beq_eq_false_iff_ne.mpr (Ne.symm (Nat.ne_of_lt hb))) (Nat.zero_le _) ⟨_, #[], 0, Heap.get?_push_size _ rfl, ⟨rfl, rfl, rfl⟩, rfl, rfl, (fun x hx => nomatch hx), List.nodup_nil⟩
  exact wpAny_Dict_empty ⟨.ref s.heap.objs.size, _, I.laid (a := s.heap.objs.size) (o := ndO X.prog X.w [] s.heap.objs.size) (t' := s.toks) (fun _ _ q => Heap.get?_push_of_some _ q) (Nat.le_refl _) ok, rfl, h _ _ (I.hok.fresh (Nat.le_refl _)) ⟨[], upd_same, .nil⟩⟩⟩
theorem pe_nget (hu : X.A.units + 9 < cLine) (ho : PE X o td) (hi : PE X i ty) (hs : NoSl i) : PE X (.Subscript o i pos) (tNGet X.prog X.w X.K td ty) := by
  refine ⟨fun pins s σ H Q I h => ?_⟩
  refine subD_of PySem.F.slot_dict_getitem.lookup hs (thn (ho.run pins s σ H _ I h) fun u s1 ⟨x, H1, I1, rx, q1⟩ => thn (hi.run pins s1 σ H1 _ I1 q1) fun iv s2 ⟨y, H2, I2, ry, a, kvs, k, v, ex, g, ky, l, q2⟩ => ?_)
  subst ex
  obtain rfl : u = Value.ref a := rx
  obtain ⟨b, rfl⟩ := ky.ref
  obtain rfl : iv = Value.ref b := ry
  exact ⟨(nd_type I2 g).1, nd_getItem hu I2 g ky l fun w' s3 I3 rw' => ⟨v, H2, I3, rw', q2⟩⟩
theorem pc_nin (hu : X.A.units + 9 < cLine) (hi : PE X i ty) (ho : PE X o td) : PC X .In i o (tNIn X.prog X.w X.K false ty td) := by
  refine ⟨fun pins s σ H Q I h => ?_⟩
  refine thn (hi.run pins s σ H _ I h) fun iv s1 ⟨y, H1, I1, ry, q1⟩ => thn (ho.run pins s1 σ H1 _ I1 q1) fun u s2 ⟨x, H2, I2, rx, a, kvs, k, ex, g, ky, q2⟩ => ?_
  subst ex
  obtain rfl : u = Value.ref a := rx
  obtain ⟨b, rfl⟩ := ky.ref
  obtain rfl : iv = Value.ref b := ry
  exact nd_in hu I2 g ky fun s3 I3 => ⟨.bl (valV kvs k).isSome, H2, I3, rfl, q2⟩
theorem pc_nnotin (hu : X.A.units + 9 < cLine) (hi : PE X i ty) (ho : PE X o td) : PC X .NotIn i o (tNIn X.prog X.w X.K true ty td) := by
  refine ⟨fun pins s σ H Q I h => ?_⟩
  refine thn (hi.run pins s σ H _ I h) fun iv s1 ⟨y, H1, I1, ry, q1⟩ => thn (ho.run pins s1 σ H1 _ I1 q1) fun u s2 ⟨x, H2, I2, rx, a, kvs, k, ex, g, ky, q2⟩ => ?_
  subst ex
  obtain rfl : u = Value.ref a := rx
  obtain ⟨b, rfl⟩ := ky.ref
  obtain rfl : iv = Value.ref b := ry
  exact nd_notIn hu I2 g ky fun s3 I3 => ⟨.bl (!(valV kvs k).isSome), H2, I3, rfl, q2⟩
theorem ps_nput (hu : X.A.units + 9 < cLine) (ho : PE X o td) (hi : PE X i ty) (hv : PE X value tv) (hs : swapsWith value (some (.Subscript o i pos')) pos.line X.env = pure false) :
    PS X (.Assign [.Subscript o i pos'] value pos) (sNPut X.prog X.w X.K td ty tv) := by
  refine ⟨fun pins s σ H D I h => ?_⟩
  refine wpAny_Assign_Subscript (thn (hv.run pins s σ H _ I h) fun r s1 ⟨v, H1, I1, rv, q1⟩ => thn (ho.run pins s1 σ H1 _ I1 q1) fun u s2 ⟨x, H2, I2, rx, q2⟩ => thn (hi.run pins s2 σ H2 _ I2 q2) fun iv s3 ⟨y, H3, I3, ry, a, kvs, k, ex, g, ky, hl, q3⟩ => ?_) hs
  subst ex
  obtain rfl : u = Value.ref a := rx
  obtain ⟨b, rfl⟩ := ky.ref
  obtain rfl : iv = Value.ref b := ry
  exact nd_setItem hu I3 g ky hl rv fun o s4 g4 I4 => ⟨σ, _, I4, q3 o g4⟩
theorem ps_ndel (hu : X.A.units + 9 < cLine) (ho : PE X o td) (hi : PE X i ty) : PS X (.Delete [.Subscript o i tpos] pos) (sNDel X.prog X.w X.K td ty) := by
  refine ⟨fun pins s σ H D I h => ?_⟩
  refine wpAny_Delete (wpAny_deleteEach_cons (wpAny_delete_Subscript (thn (ho.run pins s σ H _ I h) fun u s1 ⟨x, H1, I1, rx, q1⟩ => thn (hi.run pins s1 σ H1 _ I1 q1) fun iv s2 ⟨y, H2, I2, ry, a, kvs, k, ex, g, ky, l, q2⟩ => ?_)))
  subst ex
  obtain rfl : u = Value.ref a := rx
  obtain ⟨b, rfl⟩ := ky.ref
  obtain rfl : iv = Value.ref b := ry
  exact nd_delItem hu I2 g ky l fun o s3 g3 I3 => wpAny_deleteEach_nil ⟨σ, _, I3, q2 o g3⟩
theorem pe_nget1 (hu : X.A.units + 9 < cLine) (ho : PE X o td) (he : PE X e ty) (m : M1 X o "get" apos e cpos) : PE X (.Call (.Attribute o "get" apos) [e] [] cpos) (tNGet1 X.prog X.w X.K td ty) := by
  refine ⟨fun pins s σ H Q I h => ?_⟩
  refine wpAny_Call_method m.base m.few m.line PySem.F.plainAttrs_dict PySem.F.slot_dict_get PySem.F.type_dict_get (thn (ho.run pins s σ H _ I h) fun u s1 ⟨x, H1, I1, rx, a, kvs0, ex, d, q1⟩ => ?_)
  subst ex
  obtain rfl : u = Value.ref a := rx
  obtain ⟨t1, t2⟩ := nd_type I1 d
  refine ⟨t1, t2, ?_⟩
  rw [m.trees]
  refine Calls.callWith_builtin rfl (Calls.evalArgs_plain (Calls.spliced_cons (thn (he.run pins s1 σ H1 _ I1 q1) fun iv s2 ⟨y, H2, I2, ry, kvs, k, g, ky, q2⟩ => Calls.spliced_nil ?_)))
  obtain ⟨b, rfl⟩ := ky.ref
  obtain rfl : iv = Value.ref b := ry
  exact nd_get1 hu I2 g ky fun w' s3 I3 rw' => ⟨_, H2, I3, rw', q2⟩
theorem pe_nget2 (hu : X.A.units + 9 < cLine) (ho : PE X o td) (he : PE X e ty) (hf : PE X f tz) (m : M2 X o "get" apos e f cpos) : PE X (.Call (.Attribute o "get" apos) [e, f] [] cpos) (tNGet2 X.prog X.w X.K td ty tz) := by
  refine ⟨fun pins s σ H Q I h => ?_⟩
  refine wpAny_Call_method m.base m.few m.line PySem.F.plainAttrs_dict PySem.F.slot_dict_get PySem.F.type_dict_get (thn (ho.run pins s σ H _ I h) fun u s1 ⟨x, H1, I1, rx, a, kvs0, ex, d, q1⟩ => ?_)
  subst ex
  obtain rfl : u = Value.ref a := rx
  obtain ⟨t1, t2⟩ := nd_type I1 d
  refine ⟨t1, t2, ?_⟩
  rw [m.trees]
  refine Calls.callWith_builtin rfl (Calls.evalArgs_plain (Calls.spliced_cons (thn (he.run pins s1 σ H1 _ I1 q1) fun iv s2 ⟨y, H2, I2, ry, q2⟩ =>
    Calls.spliced_cons (thn (hf.run pins s2 σ H2 _ I2 q2) fun fv s3 ⟨z, H3, I3, rz, kvs, k, g, ky, q3⟩ => Calls.spliced_nil ?_))))
  obtain ⟨b, rfl⟩ := ky.ref
  obtain rfl : iv = Value.ref b := ry
  exact nd_get2 hu I3 g ky rz fun w' s4 I4 rw' => ⟨_, H3, I4, rw', q3⟩
end
theorem nu_of {A : Around} {k : Nat} (hr : Room k A) : A.units + 9 < cLine := Nat.lt_of_le_of_lt (Nat.add_le_add_left (by decide : 9 ≤ 64) _) hr.units
end ND

set_option Elab.async false
set_option linter.all false
set_option maxRecDepth 100000
set_option maxHeartbeats 4000000
/-! sum(t), t a tuple of ints -/
namespace SumT
open PySem PySem.W PySem.Calls PyProof.Rows PyProof.V PySem.Spec L2
section
variable {X : Cx}
def rSumT (K : PySem.W.Frag) : List V → Hp → VK → Prop := fun vs H Q => ∃ (a : Addr) (ns : List Int), vs = [V.ref a] ∧ SqT K H a (ns.map V.int) ∧ Q (.int ns.sum) H
theorem cr_sumT (hc : X.calm = true) : CallR X (.builtin "sum") (rSumT X.K) := by
  intro pins s σ H vs us Q I r h
  obtain ⟨a, ns, rfl, hs, q⟩ := h
  obtain ⟨its, rv, pl, hz⟩ := I.tuple hs
  rw [Vals.ref1 r]
  obtain ⟨xs, e⟩ := rv.ints.allInts.items
  have hn : numsOf (intItems xs).toList = ns := by rw [← e]; exact rv.ints.numsOf
  rw [nums_intItems] at hn
  rw [e] at pl
  refine ktm_sumG (I.ok.hd hc) pl fun h' tk t' hk => ⟨.int _, H, I.kept hk, ⟨_, by rw [preSum_eq, List.take_of_length_le (by simp), hn]⟩, q⟩
end
end SumT

set_option Elab.async false
set_option linter.all false
set_option maxRecDepth 100000
set_option maxHeartbeats 4000000
/-! Rules whose readings name K, for the inside of comprehensions. -/
namespace Nst
open PySem PySem.Spec PyProof.Rows L2
def rLen (K : PySem.W.Frag) : List V → Hp → VK → Prop := fun xs H Q => ∃ p ys, xs = [V.ref p] ∧ (SqL K H p ys ∨ SqT K H p ys) ∧ Q (.int ys.length) H
theorem len_seq {X : Cx} (K : PySem.W.Frag) (h : X.K = K) : CallR X (.builtin "len") (rLen K) := by
  subst h
  exact call_len_seq
def rTupOf (K : PySem.W.Frag) : List V → Hp → VK → Prop := fun xs H Q => ∃ p ys, xs = [.ref p] ∧ ((SqL K H p ys ∧ ∀ l, H l = none → Q (.ref l) (upd H l (.tup ys))) ∨ (SqT K H p ys ∧ Q (.ref p) H))
theorem tuple_of {X : Cx} (K : PySem.W.Frag) (h : X.K = K) : CallR X (.type "tuple") (rTupOf K) := by
  subst h
  exact call_tuple_of
theorem at_item {xs : List V} {i : Int} (h0 : 0 ≤ i) (h1 : i < (xs.length : Int)) : ∃ y, xs[i.toNat]? = some y ∧ atI xs i = some y := by
  obtain ⟨j, rfl⟩ := Int.eq_ofNat_of_zero_le h0
  have h2 : j < xs.length := by omega
  exact ⟨xs[j], by rw [Int.toNat_natCast]; exact List.getElem?_eq_getElem h2, atI_nat (List.getElem?_eq_getElem h2)⟩
/-- tuple + tuple, whatever they hold -/
theorem cat_sq {K : PySem.W.Frag} {H : Hp} {a b : Addr} {xs ys : List V} {Q : VK} (ha : SqT K H a xs) (hb : SqT K H b ys) (hl : xs.length + ys.length ≤ 100000) (h : ∀ (r : Addr) (H' : Hp), Same H H' → SqT K H' r (xs ++ ys) → Q (.ref r) H') : rCatA K (.ref a) (.ref b) H Q := by
  refine ⟨a, b, xs, ys, rfl, rfl, ha, hb, Cm.small hl, fun e => ?_, fun _ e => ?_, fun _ _ p np => ?_⟩
  · subst e
    exact h b H (Same.refl H) hb
  · subst e
    exact h a H (Same.refl H) (by rw [List.append_nil]; exact ha)
  · exact h p _ (Cm.same_new np) Cm.sqt_new
theorem shaped_of {d : PyData} (h1 : d.canLay0 = true) (h2 : d.depth ≤ 64) : SeqAt.shaped d = true := by
  show (d.canLay0 && decide (d.depth ≤ 64)) = true
  rw [Bool.and_eq_true]
  exact ⟨h1, decide_eq_true h2⟩
theorem eqv_self {d : PyData} (h : SeqAt.shaped d = true) : PyData.eqv d d = true := SeqAt.eqv_refl _ (SeqAt.canLay_of_shaped h)
/-- a tuple of a text and two numbers -/
theorem shaped_w2 {x : Str} (h : PyData.strOk x = true) (i j : Int) : SeqAt.shaped (.tuple [.str x, .int i, .int j]) = true :=
  shaped_of (by simp [PyData.canLay0, PyData.canLayAll0, h]) (by simp [PyData.depth, PyData.depthAll])
end Nst

set_option Elab.async false
set_option linter.all false
set_option maxRecDepth 100000
set_option maxHeartbeats 4000000
/-! Calls of methods that may raise: within a try (pe_methT), and where it is known that nothing is raised (passF). -/
namespace MethT
open PySem PySem.Spec PyProof.Rows L2
theorem passF {X : Cx} : Passes (L2.CX X.prog X.w) X E0 := fun _ _ _ _ _ _ _ h => by
  obtain ⟨_, _, _, _, _, _, _, _, _, _, _, _, e⟩ := h
  exact e.elim
section
variable {X : Cx} {CX : CXT} {k : Nat} {f C : Addr} {fd : FuncData} {ps : List Str} {sp : Sp} {E : L2.St → XK} {x m : Str} {p pos apos : Pos} {e o : Expr} {es : List Expr} {ta : TE} {t : TA}
def tMethT (C : Addr) (m : Str) (sp : Sp) (E : L2.St → XK) (ta : TE) (t : TA) : TE := fun σ H Q => ta σ H fun x H1 => ∃ a dx fs, x = .ref a ∧ H1 a = some (.ins C dx fs) ∧ fs.lookup m = none ∧ t σ H1 fun vs H2 => sp (x :: vs) H2 Q (E σ)
theorem pe_methT {pl : Sem Bool} (he : PE X o ta) (c : Cls X.K C) (hm : Meth X.K C m f) (F : FnOk X.prog X.w X.K X.mg X.base CX k f fd ps sp) (hr : Room k X.A) (hb : Binds X.K fd ps []) (hx : ∀ σ, PassesAt CX X σ (E σ)) (ha : PA X (e :: es) t)
    (hst : starEach (e :: es) X.env = (false, eval e X.env) :: starEach es X.env := by rfl) (hpl : (backTo pos (starEach es X.env)).any (·.1) = false := by rfl)
    (ht : eval (.Call (.Attribute o m apos) (e :: es) [] pos) X.env = (do
      let ov ← eval o X.env
      standAt apos.atName
      let (f, first) ← holding [ov] (getMethod ov m pl)
      callWith pos f first (backTo pos (starEach (e :: es) X.env)) (backToKw pos (keywordEach [] X.env))) := by rfl) :
    PE X (.Call (.Attribute o m apos) (e :: es) [] pos) (tMethT C m sp E ta t) := by
  refine ⟨fun pins s σ H Q I h => ?_⟩
  refine PySem.W.methodCall_KW (pl := pl) (thn (he.run pins s σ H _ I h) fun u s1 ⟨x, H1, I1, rx, a, dx, fs, ex, ea, l, q⟩ => ?_) ht
  subst ex
  obtain rfl : u = Value.ref a := rx
  refine getmeth_ok I1 ea c hm l ?_
  refine PySem.W.callWith_K (first := [.ref a]) (h₀ := X.base) I.ok.mod.kin hm.kp (thn (ha.run pos pins s1 σ H1 _ I1 q) fun us s2 ⟨vs, H2, I2, r, q2⟩ => ⟨I2.kIn, ?_⟩) hst hpl
  exact run_fnS (us := .ref a :: us) (vs := .ref a :: vs) F hr hb (hx σ) I2 (.cons rfl r) q2
theorem pe_methT0 {pl : Sem Bool} (he : PE X o ta) (c : Cls X.K C) (hm : Meth X.K C m f) (F : FnOk X.prog X.w X.K X.mg X.base CX k f fd ps sp) (hr : Room k X.A) (hb : Binds X.K fd ps []) (hx : ∀ σ, PassesAt CX X σ (E σ))
    (ht : eval (.Call (.Attribute o m apos) [] [] pos) X.env = (do
      let ov ← eval o X.env
      standAt apos.atName
      let (f, first) ← holding [ov] (getMethod ov m pl)
      callWith pos f first (backTo pos (starEach [] X.env)) (backToKw pos (keywordEach [] X.env))) := by rfl) :
    PE X (.Call (.Attribute o m apos) [] [] pos) (tMethT C m sp E ta tNil) := by
  refine ⟨fun pins s σ H Q I h => ?_⟩
  refine PySem.W.methodCall_KW (pl := pl) (thn (he.run pins s σ H _ I h) fun u s1 ⟨x, H1, I1, rx, a, dx, fs, ex, ea, l, q⟩ => ?_) ht
  subst ex
  obtain rfl : u = Value.ref a := rx
  refine getmeth_ok I1 ea c hm l ?_
  exact PySem.W.callWith_K0 (first := [.ref a]) I1.kIn hm.kp (run_fnS (us := [.ref a]) (vs := [.ref a]) F hr hb (hx σ) I1 (.cons rfl .nil) q)
end
end MethT

set_option Elab.async false
set_option linter.all false
set_option maxRecDepth 100000
set_option maxHeartbeats 4000000
/-! sorted(xs), sorted(d): items that are data, nested tuples; what comes out is the merge sort of the data. -/
namespace SortN
open PySem PySem.W PySem.Calls PyProof.Rows PyProof.V PySem.Spec L2 Pt ND

/-- the order of data -/
abbrev dle : PyData → PyData → Bool := dataLe false id
abbrev srt (ds : List PyData) : List PyData := ds.mergeSort dle
section
variable {X : Cx} {pins : List (Addr × Obj)} {σ : L2.St} {H : Hp} {s : Shared}
theorem each_reads (I : Inv X pins σ H s) : ∀ {xs : List V} {ds : List PyData} {us : List Value}, Rps X.K H xs ds → Vals xs us → EachIs (fun v d => ∃ as, Reads s.heap v d as) us ds
  | _, _, _, .nil, .nil => .nil
  | _, _, _, .cons h t, .cons h' t' => .cons (Dp.reads I _ _ _ h.dp h') (each_reads I t t')
theorem each_both {K : PySem.W.Frag} : ∀ {xs : List V} {ds : List PyData} {us : List Value}, Rps K H xs ds → Vals xs us → EachIs (fun v (b : V × PyData) => RelV b.1 v ∧ Rp K H b.1 b.2) us (xs.zip ds)
  | _, _, _, .nil, .nil => .nil
  | _, _, _, .cons h t, .cons h' t' => .cons ⟨h', h⟩ (each_both t t')
theorem each_snd {R : Value → PyData → Prop} : ∀ {xs : List V} {ds : List PyData} {us : List Value}, xs.length = ds.length → EachIs R us ds → EachIs (fun v (b : V × PyData) => R v b.2) us (xs.zip ds)
  | [], [], _, _, .nil => .nil
  | x :: xs, d :: ds, _, hl, .cons h t => .cons h (each_snd (Nat.succ.inj hl) t)
theorem out_of {K : PySem.W.Frag} : ∀ {bs : List (V × PyData)} {out : List Value}, EachIs (fun v (b : V × PyData) => RelV b.1 v ∧ Rp K H b.1 b.2) out bs → Vals (bs.map (·.1)) out ∧ Rps K H (bs.map (·.1)) (bs.map (·.2))
  | _, _, .nil => ⟨.nil, .nil⟩
  | _, _, .cons h t => ⟨.cons h.1 (out_of t).1, .cons h.2 (out_of t).2⟩
theorem zip_snd : ∀ {xs : List V} {ds : List PyData}, xs.length = ds.length → (xs.zip ds).map (·.2) = ds
  | [], [], _ => rfl
  | x :: xs, d :: ds, hl => congrArg (d :: ·) (zip_snd (Nat.succ.inj hl))
/-- what the sort gives -/
theorem sorted_out {K : PySem.W.Frag} {h : Heap} {xs : List V} {ds : List PyData} {us : List Value} (hal : AllAlike ds) (r : Rps K H xs ds) (rv : Vals xs us) (e : EachIs (fun v d => ∃ as, Reads h v d as) us ds) :
    ∃ ys, Vals ys (sortVals (dataKind h ds) false us us) ∧ Rps K H ys (srt ds) ∧ ys.length = xs.length := by
  have hl := r.len
  have e3 := sortVals_each (κ := dataKind h ds) (rev := false) (k := fun b : V × PyData => keyToks b.2) (each_both r rv) (each_snd hl (each_keys hal e))
  obtain ⟨v1, r1⟩ := out_of e3
  refine ⟨_, v1, ?_, ?_⟩
  · have em : ((xs.zip ds).mergeSort (sortLe (dataKind h ds).toKeyOrd false fun b : V × PyData => keyToks b.2)).map (·.2) = srt ds := by
      have q := sort_maps (r := sortLe (dataKind h ds).toKeyOrd false fun b : V × PyData => keyToks b.2) (s := dle) (fun b : V × PyData => b.2) (l := xs.zip ds) (fun a _ b _ => rfl)
      rw [q, zip_snd hl]
    rw [← em]
    exact r1
  · rw [List.length_map, List.length_mergeSort, List.length_zip, hl, Nat.min_self]
end
section
variable {X : Cx}
/-- sorted(xs) of a list -/
def rSortL (K : PySem.W.Frag) : List V → Hp → VK → Prop := fun vs H Q => ∃ (a : Addr) (xs : List V) (ds : List PyData), vs = [.ref a] ∧ SqL K H a xs ∧ Rps K H xs ds ∧ AllAlike ds ∧ Sortable ds ∧ (∀ d ∈ ds, d.depth ≤ 50) ∧
  ∀ (ys : List V) (p : Addr), Rps K H ys (srt ds) → H p = none → Q (.ref p) (upd H p (.lst ys))
theorem call_sortL (hc : X.calm = true) (hu : X.A.units + 64 < cLine) : CallR X (.builtin "sorted") (rSortL X.K) := by
  intro pins s σ H vs us Q I r q
  obtain ⟨a, xs, ds, rfl, hl, hr, hal, hk, hdp, q⟩ := q
  rw [Vals.ref1 r]
  obtain ⟨its, rv, pl, hz⟩ := I.list hl
  have hzi : its.length ≤ sizeLine := by rw [← rv.length]; exact hz
  have I1 : Inv X pins σ H { s with heap := sortingHeap (copyHeap s.heap its) (s.heap.objs.size + 1) its, toks := s.toks } := I.kept fun b o e => sorting_copy_old e
  have ea : EachIs (fun v d => ∃ as, Reads (sortingHeap (copyHeap s.heap its) (s.heap.objs.size + 1) its) v d as) its ds := each_reads I1 hr rv
  refine sorted_vals (κ := dataKind (sortingHeap (copyHeap s.heap its) (s.heap.objs.size + 1) its) ds) pl.isList (SortsAt.data (s := { s with heap := sortingHeap (copyHeap s.heap its) (s.heap.objs.size + 1) its }) ea hal hk fun d hd => ?_) hzi ?_
  · have := hdp d hd
    simp only [Around.in1_units]
    omega
  · obtain ⟨ys, v1, r1, l1⟩ := sorted_out (K := X.K) hal hr rv ea
    obtain ⟨e', he'⟩ := sortedAll_at s.heap its (sortVals (dataKind (sortingHeap (copyHeap s.heap its) (s.heap.objs.size + 1) its) ds) false its its).toArray
    refine ⟨.ref (s.heap.objs.size + 1), upd H (s.heap.objs.size + 1) (.lst ys), I.laid (t' := s.toks) (fun b u e => sortedAll_old e) (Nat.le_succ _) ?_, rfl, q ys _ r1 (I.hok.fresh (Nat.le_succ _))⟩
    exact ⟨by rw [l1]; exact hz, _, e', v1, he'⟩
/-- sorted(t) of a tuple -/
def rSortTup (K : PySem.W.Frag) : List V → Hp → VK → Prop := fun vs H Q => ∃ (a : Addr) (xs : List V) (ds : List PyData), vs = [.ref a] ∧ SqT K H a xs ∧ Rps K H xs ds ∧ AllAlike ds ∧ Sortable ds ∧ (∀ d ∈ ds, d.depth ≤ 50) ∧
  ∀ (ys : List V) (p : Addr), Rps K H ys (srt ds) → H p = none → Q (.ref p) (upd H p (.lst ys))
theorem call_sortTup (hc : X.calm = true) (hu : X.A.units + 64 < cLine) : CallR X (.builtin "sorted") (rSortTup X.K) := by
  intro pins s σ H vs us Q I r q
  obtain ⟨a, xs, ds, rfl, hl, hr, hal, hk, hdp, q⟩ := q
  rw [Vals.ref1 r]
  obtain ⟨its, rv, ⟨o, ho, hcl, n, hd⟩, hz⟩ := I.tuple hl
  have hzi : its.length ≤ sizeLine := by rw [← rv.length]; exact hz
  refine Calls.call_function_entry PyProof.Rows.kind_sorted PyProof.Rows.plain_sorted PyProof.Rows.entry_sorted (PyProof.Rows.args_sorted1 _) ?_
  unfold Builtin.«sorted»
  refine wpAny_bind (m := checkCount "sorted" 1 1 _) (wpAny_pure ?_)
  refine wpAny_bind (wpAny_collect_seq a (.inr rfl) ho hcl hd (fun h' hkp => ?_) (by rw [List.size_toArray]; exact hzi))
  have I1 : Inv X pins σ H { s with heap := h' } := I.kept (t' := s.toks) hkp
  rw [show its.toArray.toList = its from rfl]
  refine wpAny_bind (wpAny_newList ?_ hzi)
  have hoL : (h'.push (seqObj "list" its.toArray 0)).get? h'.objs.size = some (seqObj "list" its.toArray 0) := Heap.get?_push_size _ rfl
  show wpAny _ _ _ _ _ { s with heap := h'.push (seqObj "list" its.toArray 0) }
  have old : ∀ b u, h'.get? b = some u → (sortingHeap (h'.push (seqObj "list" its.toArray 0)) h'.objs.size its).get? b = some u := fun b u q1 =>
    sortingHeap_old (Nat.ne_of_lt (Heap.lt_size q1)) (Heap.get?_push_of_some _ q1)
  have I2 : Inv X pins σ H { s with heap := sortingHeap (h'.push (seqObj "list" its.toArray 0)) h'.objs.size its } := I1.kept (t' := s.toks) old
  have ea := each_reads I2 hr rv
  refine wpAny_bind (wpAny_holding (wpAny_call_entry PyProof.Rows.slot_list_sort ⟨_, hoL, rfl⟩ PyProof.Rows.entry_list_sort
    (list_sort_vals (κ := dataKind (sortingHeap (h'.push (seqObj "list" its.toArray 0)) h'.objs.size its) ds) (s := { s with heap := h'.push (seqObj "list" its.toArray 0) }) hoL
      (SortsAt.data (s := { s with heap := sortingHeap (h'.push (seqObj "list" its.toArray 0)) h'.objs.size its }) ea hal hk fun d hd => ?_) hzi ⟨_, rfl, ?_⟩) (PyProof.Rows.args_list_sort _)))
  · have := hdp d hd
    simp only [Around.in1_units]
    omega
  · obtain ⟨ys, v1, r1, l1⟩ := sorted_out (K := X.K) hal hr rv ea
    obtain ⟨e', he'⟩ := PyProof.Rows.sortedHeap_at (vs := its) (out := (sortVals (dataKind (sortingHeap (h'.push (seqObj "list" its.toArray 0)) h'.objs.size its) ds) false its its).toArray) hoL
    refine wpAny_pure ⟨_, rfl, .ref h'.objs.size, upd H h'.objs.size (.lst ys), I1.laid (t' := s.toks) (fun b u e => ?_) (Nat.le_refl _)
      (show ObjOk X.prog X.w _ _ _ (.lst ys) from ⟨by rw [l1]; exact hz, _, e', v1, he'⟩), rfl, q ys _ r1 (I1.hok.fresh (Nat.le_refl _))⟩
    have hb : b < h'.objs.size := Heap.lt_size e
    rw [PyProof.Rows.sortedHeap_old (Nat.ne_of_lt hb) (by rw [size_push']; exact Nat.lt_succ_of_lt hb)]
    exact Heap.get?_push_of_some _ e
theorem vals_keys {K : PySem.W.Frag} {H : Hp} {w : World} {P : Program} : ∀ {kvs : List (NestedKey × V)} {xs : List (NestedKey × Addr × Value)}, KN K H kvs xs → Rps K H (xs.map fun x => V.ref x.2.1) (kvs.map (·.1.data))
  | _, _, .nil => .nil
  | _, _, .cons h t => .cons h.2.1.1 (vals_keys (w := w) (P := P) t)
theorem vals_refs : ∀ xs : List (NestedKey × Addr × Value), Vals (xs.map fun x => V.ref x.2.1) (xs.map fun x => Value.ref x.2.1)
  | [] => .nil
  | _ :: xs => .cons rfl (vals_refs xs)
/-- sorted(d) of a dict with keys of any depth -/
def rSortD (P : Program) (w : World) (K : PySem.W.Frag) : List V → Hp → VK → Prop := fun vs H Q => ∃ (a : Addr) (kvs : List (NestedKey × V)), vs = [.ref a] ∧ NDct P w K H a kvs ∧ AllAlike (kvs.map (·.1.data)) ∧ Sortable (kvs.map (·.1.data)) ∧
  (∀ d ∈ kvs.map (·.1.data), d.depth ≤ 50) ∧ ∀ (ys : List V) (p : Addr), Rps K H ys (srt (kvs.map (·.1.data))) → H p = none → Q (.ref p) (upd H p (.lst ys))
theorem call_sortD (hc : X.calm = true) (hu : X.A.units + 64 < cLine) : CallR X (.builtin "sorted") (rSortD X.prog X.w X.K) := by
  intro pins s σ H vs us Q I r q
  obtain ⟨a, kvs, rfl, g, hal, hk, hdp, q⟩ := q
  rw [Vals.ref1 r]
  obtain ⟨z, lo, xs, e, rel, dd⟩ := nd_of I g
  obtain ⟨o, es, ep, h1, h2, h3, h4, h5, h6⟩ := dd
  have hl : es.size = kvs.length := by
    have q1 := congrArg List.length h4
    rw [List.length_map, Array.length_toList] at q1
    rw [q1, Paired.length rel]
  refine Calls.call_function_entry PyProof.Rows.kind_sorted PyProof.Rows.plain_sorted PyProof.Rows.entry_sorted (PyProof.Rows.args_sorted1 _) ?_
  unfold Builtin.«sorted»
  refine wpAny_bind (m := checkCount "sorted" 1 1 _) (wpAny_pure ?_)
  refine wpAny_bind (PySem.W.kdu_collect (A := X.A.in1) (KdlSrc.rawDict (d := a) (es := es) (ep := ep) lo) (I.ok.hd hc) ⟨o, h1, h2, h3⟩ (by rw [hl]; exact z) fun h' tk acc hkp hacc => ?_)
  have hav : acc.toList = xs.map fun x => Value.ref x.2.1 := by
    refine List.ext_getElem? fun j => ?_
    by_cases hj : j < es.size
    · have hja : j < acc.size := by rw [hacc.1]; exact hj
      obtain ⟨hi, ev⟩ := hacc.2 j acc[j] (Array.getElem?_eq_getElem hja)
      have ex : es.toList[j]? = (xs.map (entryOfKey (nestedKind X.prog X.w)))[j]? := by rw [h4]
      rw [Array.getElem?_toList, Array.getElem?_eq_getElem hj, List.getElem?_map] at ex
      rw [Array.getElem?_toList, Array.getElem?_eq_getElem hja, List.getElem?_map, ev]
      cases hx : xs[j]? with
      | none =>
        rw [hx] at ex
        cases ex
      | some x =>
        rw [hx] at ex
        have e2 : es[j] = entryOfKey (nestedKind X.prog X.w) x := Option.some.inj ex
        rw [e2]
        rfl
    · have hn : es.size = xs.length := by rw [hl, Paired.length rel]
      rw [List.getElem?_eq_none (by rw [Array.length_toList, hacc.1]; omega), List.getElem?_eq_none (by rw [List.length_map]; omega)]
  have I1 : Inv X pins σ H { s with heap := h', toks := tk } := I.kept hkp
  have hzi : acc.toList.length ≤ sizeLine := by
    rw [Array.length_toList, hacc.1, hl]
    exact z
  refine wpAny_bind (wpAny_newList ?_ hzi)
  have hoL : (h'.push (seqObj "list" acc.toList.toArray 0)).get? h'.objs.size = some (seqObj "list" acc.toList.toArray 0) := Heap.get?_push_size _ rfl
  show wpAny _ _ _ _ _ { s with heap := h'.push (seqObj "list" acc.toList.toArray 0), toks := tk }
  have rk := vals_keys (K := X.K) (w := X.w) (P := X.prog) rel
  have rv : Vals (xs.map fun x => V.ref x.2.1) acc.toList := by
    rw [hav]
    exact vals_refs xs
  have old : ∀ b u, h'.get? b = some u → (sortingHeap (h'.push (seqObj "list" acc.toList.toArray 0)) h'.objs.size acc.toList).get? b = some u := fun b u q1 =>
    sortingHeap_old (Nat.ne_of_lt (Heap.lt_size q1)) (Heap.get?_push_of_some _ q1)
  have I2 : Inv X pins σ H { s with heap := sortingHeap (h'.push (seqObj "list" acc.toList.toArray 0)) h'.objs.size acc.toList, toks := tk } := I1.kept old
  have ea := each_reads I2 rk rv
  refine wpAny_bind (wpAny_holding (wpAny_call_entry PyProof.Rows.slot_list_sort ⟨_, hoL, rfl⟩ PyProof.Rows.entry_list_sort
    (list_sort_vals (κ := dataKind (sortingHeap (h'.push (seqObj "list" acc.toList.toArray 0)) h'.objs.size acc.toList) (kvs.map (·.1.data))) (s := { s with heap := h'.push (seqObj "list" acc.toList.toArray 0), toks := tk }) hoL
      (SortsAt.data (s := { s with heap := sortingHeap (h'.push (seqObj "list" acc.toList.toArray 0)) h'.objs.size acc.toList, toks := tk }) ea hal hk fun d hd => ?_) hzi ⟨_, rfl, ?_⟩) (PyProof.Rows.args_list_sort _)))
  · have := hdp d hd
    simp only [Around.in1_units]
    omega
  · obtain ⟨ys, v1, r1, l1⟩ := sorted_out (K := X.K) hal rk rv ea
    obtain ⟨e', he'⟩ := PyProof.Rows.sortedHeap_at (vs := acc.toList) (out := (sortVals (dataKind (sortingHeap (h'.push (seqObj "list" acc.toList.toArray 0)) h'.objs.size acc.toList) (kvs.map (·.1.data))) false acc.toList acc.toList).toArray) hoL
    refine wpAny_pure ⟨_, rfl, .ref h'.objs.size, upd H h'.objs.size (.lst ys), I1.laid (t' := tk) (fun b u e => ?_) (Nat.le_refl _)
      (show ObjOk X.prog X.w _ _ _ (.lst ys) from ⟨by rw [l1, List.length_map, ← Paired.length rel]; exact z, _, e', v1, he'⟩), rfl, q ys _ r1 (I1.hok.fresh (Nat.le_refl _))⟩
    have hb : b < h'.objs.size := Heap.lt_size e
    rw [PyProof.Rows.sortedHeap_old (Nat.ne_of_lt hb) (by rw [size_push']; exact Nat.lt_succ_of_lt hb)]
    exact Heap.get?_push_of_some _ e
end
end SortN

set_option Elab.async false
set_option linter.all false
set_option maxRecDepth 100000
/-! x > y of data (tuples: the first difference decides), and a list comprehension over zip of two tuples of any lengths. -/
namespace GtD
open PySem PySem.Spec PyProof.Rows L2 RZ
section
variable {X : Cx}
def rGtD (K : PySem.W.Frag) : R2 := fun x y H Q => ∃ d e, Dp K H x d ∧ Dp K H y e ∧ PySem.W.alike d e = true ∧ d ≠ .none ∧ d.depth ≤ 40 ∧ Q (.bl (PySem.W.dataLt e d)) H
theorem op_gtD (hu : X.A.units + 64 < cLine) : OpR X (compareOp .Gt) (rGtD X.K) := by
  intro pins s σ H x y v u Q I rx ry h
  obtain ⟨d, e, hd, he, al, nn, dp, q⟩ := h
  obtain ⟨as, r1⟩ := Dp.reads I d x v hd rx
  obtain ⟨bs, r2⟩ := Dp.reads I e y u he ry
  exact PySem.W.gt_data r1 r2 al nn (by have := Nat.min_le_left d.depth e.depth; omega) ⟨.bl _, H, I, rfl, q⟩
end
theorem lc_zipT {K : PySem.W.Frag} {a b : Addr} {xs ys : List V} {g : TG} {tt : TT} {te : TE} {vs : List Nat} {σ : L2.St} {H1 : Hp} {D : Addr} {Qd : Hp → Prop} (Pv : Nat → Hp → Prop) (h0 : Pv 0 (upd H1 D (.lst []))) (hq : ∀ i H, Pv i H → SqT K H a xs ∧ SqT K H b ys)
    (hs : ∀ (i : Nat) (x y : V) (T : Addr) (H : Hp), xs[i]? = some x → ys[i]? = some y → Pv i H → H T = none → g (.ref T) (wipe σ vs) (upd H T (.tup [x, y])) fun σ2 H2 => wipe σ2 vs = wipe σ vs ∧ tt σ2 H2 fun b H3 =>
      if b = true then te σ2 H3 fun y H4 => ∃ acc, H4 D = some (.lst acc) ∧ acc.length < sizeLine ∧ Pv (i + 1) (upd H4 D (.lst (acc ++ [y]))) else Pv (i + 1) H3) (hd : ∀ H, Pv (min xs.length ys.length) H → Qd H) :
    ∃ W : Nat → Nat → Hp → Prop, (∃ m, W 0 m (upd H1 D (.lst []))) ∧ ∀ i m H, W i m H →
      ((ItzT K a b).stop i H ∧ Qd H) ∨ ((ItzT K a b).go i H ∧ ∃ Nx : Hp → Prop, (∀ H', Nx H' → ∃ m', m' < m ∧ W (i + 1) m' H') ∧ ∀ x H', (ItzT K a b).yld i H x H' → g x (wipe σ vs) H' fun σ2 H2 => wipe σ2 vs = wipe σ vs ∧ tt σ2 H2 fun b H3 =>
        if b = true then te σ2 H3 fun y H4 => ∃ acc, H4 D = some (.lst acc) ∧ acc.length < sizeLine ∧ Nx (upd H4 D (.lst (acc ++ [y]))) else Nx H3) := by
  refine ⟨fun i m H => m = min xs.length ys.length - i ∧ i ≤ min xs.length ys.length ∧ Pv i H, ⟨min xs.length ys.length, by simp, Nat.zero_le _, h0⟩, ?_⟩
  rintro i m H ⟨rfl, hi, p⟩
  obtain ⟨qx, qy⟩ := hq i H p
  by_cases hlt : i < min xs.length ys.length
  · have h1 : i < xs.length := by omega
    have h2 : i < ys.length := by omega
    have hx : xs[i]? = some xs[i] := List.getElem?_eq_getElem h1
    have hy : ys[i]? = some ys[i] := List.getElem?_eq_getElem h2
    refine .inr ⟨⟨xs, ys, _, _, qx, qy, hx, hy⟩, Pv (i + 1), fun H' p' => ⟨min xs.length ys.length - (i + 1), by omega, rfl, hlt, p'⟩, fun v H' y => ?_⟩
    obtain ⟨T, x', y', rfl, hT, rfl, f1, f2⟩ := y
    exact hs i x' y' T H (f1 xs qx) (f2 ys qy) p hT
  · have e : i = min xs.length ys.length := by omega
    subst e
    exact .inl ⟨⟨xs, ys, qx, qy, by omega⟩, hd H p⟩
end GtD

set_option Elab.async false
set_option linter.all false
set_option maxRecDepth 100000
set_option maxHeartbeats 4000000
/-! xs[a:b:c] of a list, a, b, c numbers as they stand (c > 0); xs.index(y, k). -/
namespace LsX
open PySem PySem.Spec PyProof.Rows L2 HT
section
variable {X : Cx}
def pickV (xs : List V) (lo hi st : Int) : List V := (sliceRange (sliceBounds (some lo) (some hi) (some st) xs.length).1 (sliceBounds (some lo) (some hi) (some st) xs.length).2.1 (sliceBounds (some lo) (some hi) (some st) xs.length).2.2).filterMap (xs[·]?)
def tStepL (K : PySem.W.Frag) (te : TE) (lo hi st : Int) : TE := fun σ H Q => te σ H fun x H1 => ∃ a xs, x = .ref a ∧ SqL K H1 a xs ∧ (pickV xs lo hi st).length ≤ sizeLine ∧ ∀ p, H1 p = none → Q (.ref p) (upd H1 p (.lst (pickV xs lo hi st)))
theorem vals_pick {xs : List V} {us : List Value} (r : Vals xs us) : ∀ l : List Nat, Vals (l.filterMap (xs[·]?)) (l.filterMap (us[·]?))
  | [] => .nil
  | i :: l => by
    rw [List.filterMap_cons, List.filterMap_cons]
    have hl := r.length
    by_cases h : i < xs.length
    · have e : xs[i]? = some xs[i] := List.getElem?_eq_getElem h
      obtain ⟨u, hu, ru⟩ := r.get e
      rw [e, hu]
      exact .cons ru (vals_pick r l)
    · rw [List.getElem?_eq_none (by omega), List.getElem?_eq_none (by omega)]
      exact vals_pick r l
theorem pe_stepL {e : Expr} {te : TE} {lo hi st : Int} {k1 k2 k3 : Nat} {p1 p2 p3 p4 pos : Pos} (he : PE X e te) (h0 : st ≠ 0) : PE X (.Subscript e (.Slice (some (.Constant (.int lo) k1 p1)) (some (.Constant (.int hi) k2 p2)) (some (.Constant (.int st) k3 p3)) p4) pos) (tStepL X.K te lo hi st) := by
  refine ⟨fun pins s σ H Q I h => ?_⟩
  refine Subscript_ (thn (he.run pins s σ H _ I h) fun v s1 ⟨x, H1, I1, r1, q1⟩ => ?_)
  obtain ⟨a, xs, ex, hx, hpl, q⟩ := q1
  subst ex
  cases r1
  have po : ∀ (z : Int) (k : Nat) (p : Pos), PO X (some (.Constant (.int z) k p)) (tPart (tC (.int z))) := fun z k p => po_some pe_int
  refine wpAny_Slice (thn ((po lo k1 p1).run pins s1 σ H1 (fun o H2 => o = some lo ∧ H2 = H1) I1 ⟨lo, rfl, rfl, rfl⟩) fun vl s2 ⟨l, H2, I2, pl, el, e2⟩ => ?_)
  subst el e2
  refine thn ((po hi k2 p2).run pins s2 σ H2 (fun o H3 => o = some hi ∧ H3 = H2) I2 ⟨hi, rfl, rfl, rfl⟩) fun vu s3 ⟨u, H3, I3, pu, eu, e3⟩ => ?_
  subst eu e3
  refine thn ((po st k3 p3).run pins s3 σ H3 (fun o H4 => o = some st ∧ H4 = H3) I3 ⟨st, rfl, rfl, rfl⟩) fun vs s4 ⟨o, H4, I4, ps, eo, e4⟩ => ?_
  subst eo e4
  have I5 : Inv X pins σ H4 { s4 with heap := s4.heap.push { cls := .type "slice", data := .fields #[vl, vu, vs] } } := I4.kept (t' := s4.toks) fun b ob q => Heap.get?_push_of_some _ q
  obtain ⟨its, r, ht, hz⟩ := I5.list hx
  have hlen := r.length
  show wpAny (model X.prog X.w) X.A (subscriptTail e (.Slice (some (.Constant (.int lo) k1 p1)) (some (.Constant (.int hi) k2 p2)) (some (.Constant (.int st) k3 p3)) p4) (.ref a) (.ref s4.heap.objs.size)) (EP X pins σ Q) X.xe { s4 with heap := s4.heap.push { cls := .type "slice", data := .fields #[vl, vu, vs] } }
  refine tail_any (ops := [.ref a, .ref s4.heap.objs.size]) ht.isList.typeIs (slot_list_getitem.lookup) ?_ (by with_unfolding_all rfl)
  refine wpAny_getItem_list_slice ht.isList (Heap.IsSliceOf.new _ vl vu vs) pl pu ps (by simpa using h0) ?_ (by rw [List.size_toArray]; omega)
  have ep : slicePick its.toArray (some lo) (some hi) (some st) = (((sliceRange (sliceBounds (some lo) (some hi) (some st) xs.length).1 (sliceBounds (some lo) (some hi) (some st) xs.length).2.1 (sliceBounds (some lo) (some hi) (some st) xs.length).2.2).filterMap (its[·]?))).toArray := by
    unfold slicePick
    rw [List.size_toArray, ← hlen]
    congr 2
    funext i
    exact List.getElem?_toArray
  rw [ep]
  refine ⟨.ref _, _, I5.laid (t' := s4.toks) (o := .lst (pickV xs lo hi st)) (fun b ob q => Heap.get?_push_of_some _ q) (Nat.le_refl _) ?_, rfl, q _ (I5.hok.fresh (Nat.le_refl _))⟩
  exact ⟨hpl, _, 0, vals_pick r _, Heap.get?_push_size _ rfl⟩
theorem pick_eq {xs : List V} {hi : Int} {l : List Nat} (h : hi ≤ (xs.length : Int)) (h0 : 0 ≤ hi) (e : sliceRange 0 hi 2 = l) : pickV xs 0 hi 2 = l.filterMap (xs[·]?) := by
  unfold pickV
  have e1 : (sliceBounds (some 0) (some hi) (some 2) xs.length).1 = 0 := by
    show max (0 : Int) (min (if (0 : Int) < 0 then 0 + (xs.length : Int) else 0) (xs.length : Int)) = 0
    rw [if_neg (by decide)]
    omega
  have e2 : (sliceBounds (some 0) (some hi) (some 2) xs.length).2.1 = hi := by
    show max (0 : Int) (min (if hi < 0 then hi + (xs.length : Int) else hi) (xs.length : Int)) = hi
    rw [if_neg (by omega)]
    omega
  have e3 : (sliceBounds (some 0) (some hi) (some 2) xs.length).2.2 = 2 := rfl
  rw [e1, e2, e3, e]
/-- xs.index(y, k) -/
theorem list_indexAt3 (l : Addr) (items : Array Value) (n : Nat) (dd : Option Addr) (sl : Array (Option Value)) (x : Value) (e : Value → Bool) (i j : Nat) (ti : Tok) (hij : i ≤ j) (hj : j < items.size) (hsmall : (j : Int) < 2 ^ 63 - 1)
    (hit : e items[j] = true) (hno : ∀ m (hm : m < items.size), i ≤ m → m < j → e items[m] = false) :
    Meets (Builtin.«list.index» ⟨[.ref l, x, .int (i : Int) ti], []⟩)
      (fun A R s => s.heap.get? l = some { cls := .type "list", dict := dd, data := .seq items n, slots := sl } ∧ (∀ y, y ∈ items → SeqAt.EqAt A.in1 s y x (e y)) ∧ R (.ok (.ret (.int j s.toks))) { s with toks := s.toks + 1 }) := by
  intro prog w A R s h
  obtain ⟨hp, g, d, tk, os⟩ := s; obtain ⟨hl, he, h⟩ := h
  wp_walk using wpAny_loadPart' hl
  have a1 : ((fun i : Int => if i < 0 then max 0 (i + (items.size : Int)) else i) ((some (i : Int)).getD 0)) = ((i : Nat) : Int) := by
    show (if (i : Int) < 0 then max 0 ((i : Int) + (items.size : Int)) else (i : Int)) = (i : Int)
    rw [if_neg (by omega)]
  have a2 : ((fun i : Int => if i < 0 then max 0 (i + (items.size : Int)) else i) ((none : Option Int).getD (2 ^ 63 - 1))) = 2 ^ 63 - 1 := by simp
  rw [a1, a2]
  exact ⟨plainId_quiet MeetsSeq.plain_index_loop _, codeAny_builtin MeetsSeq.entry_index_loop (by
    rw [Around.under_plainId MeetsSeq.plain_index_loop _]
    exact SeqAt.index_loopAt l items n dd sl x e (2 ^ 63 - 1) j hj hsmall hit _ i rfl hij (fun m hm h1 h2 => hno m hm h1 h2) prog w A R _ ⟨hl, he, h⟩)⟩
def rIndexFrom (K : PySem.W.Frag) : V → List V → Hp → VK → Prop := fun x xs H Q => ∃ (a : Addr) (ys : List V) (y : V) (i j : Nat) (z : V), x = V.ref a ∧ xs = [y, .int (i : Int)] ∧ SqL K H a ys ∧ flatV y = true ∧ ys.all flatV = true ∧ i ≤ j ∧ ys[j]? = some z ∧ eqV z y = true ∧
  (∀ (m : Nat) (z' : V), i ≤ m → m < j → ys[m]? = some z' → eqV z' y = false) ∧ Q (.int (j : Nat)) H
theorem mt_indexFrom : MtR X "list.index" (rIndexFrom X.K) := by
  intro pins s σ H x xs v us Q I rx rxs h
  obtain ⟨a, ys, y, i, j, z, rfl, rfl, hs, fy, fys, hij, hz, hzj, hno, q⟩ := h
  cases rx
  cases rxs with
  | cons ry rt =>
    cases rt with
    | cons ri rt =>
      cases rt
      obtain ⟨ti, rfl⟩ := ri
      rename_i uy
      obtain ⟨its, rv, ⟨⟨cls, dd, data, sl⟩, n, ho, hc, hdn, hd⟩, hlen⟩ := I.list hs
      simp only at hc hd
      subst hc hd
      obtain ⟨u, hu, ru⟩ := rv.get hz
      obtain ⟨hjl, hje⟩ := List.getElem?_eq_some_iff.mp hu
      have hvl := rv.length
      have hj : j < its.toArray.size := by simpa using hjl
      have hsl := sizeLine_eq
      refine call_meets PySem.F.slot_list_index ⟨_, ho, rfl⟩ PySem.F.entry_list_index (PySem.F.args_list_index_3 _ _ _)
        (list_indexAt3 a its.toArray n dd sl uy (eqU y) i j ti hij hj (by omega) ?_ ?_) ⟨ho, fun u' hu' => mem_eqAt ry fy rv fys u' (by simpa using hu'), ?_⟩
      · have e1 : its.toArray[j] = u := by simpa using hje
        rw [e1, eqU_of ru (flat_at fys hz)]
        exact hzj
      · intro m hm hi hmj
        have hml : m < its.length := by simpa using hm
        have hmy : m < ys.length := by omega
        have hy' : ys[m]? = some ys[m] := List.getElem?_eq_getElem hmy
        obtain ⟨u2, hu2, ru2⟩ := rv.get hy'
        obtain ⟨_, hme⟩ := List.getElem?_eq_some_iff.mp hu2
        have e1 : its.toArray[m] = u2 := by simpa using hme
        rw [e1, eqU_of ru2 (flat_at fys hy')]
        exact hno m _ hi hmj hy'
      · exact ⟨.int (j : Nat), H, I.tok _, ⟨_, rfl⟩, q⟩
/-- a text put together, its reading a word -/
def tJ (ts : List TE) : TE := fun σ H Q => tJs ts Str.empty σ H fun out H1 => Q (.str out) H1
theorem pe_joinedJ {v1 v2 : Expr} {rest : List Expr} {ts : List TE} {pos : Pos} (h : PJ X (v1 :: v2 :: rest) ts) : PE X (.JoinedStr (v1 :: v2 :: rest) pos) (tJ ts) := pe_joined h
/-- an expression whose ways are joined by a word -/
def tCutV (te : TE) : TE := fun σ H Q => ∃ R : VK, te σ H R ∧ ∀ x H', R x H' → Q x H'
theorem pe_cutV {e : Expr} {te : TE} (h : PE X e te) : PE X e (tCutV te) :=
  ⟨fun pins s σ H Q I ⟨R, h1, h2⟩ => thn (h.run pins s σ H R I h1) fun v s1 ⟨x, H1, I1, r, q⟩ => ⟨x, H1, I1, r, h2 _ _ q⟩⟩
/-- a method of a built-in type, in a try's body -/
theorem pe_bmK {K : PySem.W.Frag} {T : String} {r : V → List V → Hp → VK → Prop} {to : TE} {t : TA} {e : Expr} (hK : X.K = K) (h : PE X e (tBM X.K T r to t)) : PE X e (tBM K T r to t) := by
  subst hK
  exact h
/-- for i, x in enumerate(xs): .. -/
theorem for_enumL {K : PySem.W.Frag} {l : Addr} {xs : List V} {tg : TG} {bd : TS} {E : Ends} {τ : L2.St} {G : Hp} (Inv : Nat → L2.St → Hp → Prop) (start : Inv 0 τ G) (there : ∀ j σ H, j ≤ xs.length → Inv j σ H → SqL K H l xs) (turn : ∀ j x T σ H, xs[j]? = some x → Inv j σ H → H T = none → tg (.ref T) σ (upd H T (.tup [.int (j : Nat), x])) fun σ2 H2 => bd { E with nx := Inv (j + 1), ct := Inv (j + 1), bk := E.nx } σ2 H2) (behind : ∀ σ H, Inv xs.length σ H → E.nx σ H) : ∃ B : Nat → Nat → L2.St → Hp → Prop, (∃ r, B 0 r τ G) ∧ ∀ j r σ H, B j r σ H → ((Ite K l).stop j H ∧ E.nx σ H) ∨ ((Ite K l).go j H ∧ ∃ N : L2.St → Hp → Prop, (∀ σ' H', N σ' H' → ∃ r', r' < r ∧ B (j + 1) r' σ' H') ∧ ∀ v H', (Ite K l).yld j H v H' → tg v σ H' fun σ2 H2 => bd { E with nx := N, ct := N, bk := E.nx } σ2 H2) := by
  refine ⟨fun j r σ H => r = xs.length - j ∧ j ≤ xs.length ∧ Inv j σ H, ⟨_, rfl, Nat.zero_le _, start⟩, ?_⟩
  rintro j r σ H ⟨rfl, hj, inv⟩
  have hq := there j σ H hj inv
  rcases Nat.lt_or_ge j xs.length with lt | ge
  · refine .inr ⟨⟨xs, xs[j], hq, List.getElem?_eq_getElem lt⟩, Inv (j + 1), fun σ' H' inv' => ⟨xs.length - (j + 1), by omega, rfl, lt, inv'⟩, fun v H' y => ?_⟩
    obtain ⟨T, x, rfl, hT, rfl, hx⟩ := y
    exact turn j x T σ H (hx xs hq) inv hT
  · have e : j = xs.length := by omega
    subst e
    exact .inl ⟨⟨xs, hq, Nat.le_refl _⟩, behind σ H inv⟩
end
end LsX

set_option Elab.async false
set_option linter.all false
set_option maxRecDepth 100000
set_option maxHeartbeats 4000000
/-! An own exception over ValueError whose __init__ begins with super().__init__(..). -/
namespace SupI
open PySem PySem.W PySem.Calls PySem.Spec PyProof.Rows L2
/-- what is known of the program's file -/
structure SupP (P : Program) (file : Str) : Prop where
  file : ((P.main.file : Str) == file) = true
  top : (P.main.scope.names.lookup ("super" : Str)).isSome = false
/-- what the written part says of the class at C, of its cell, of the code of its __init__ -/
structure SupC (K : Frag) (C cell cc : Addr) (file : Str) : Prop where
  cell : ∃ cl cld csl, K.lookup cell = some ⟨cl, cld, .cell (some (.ref C)), csl⟩
  code : ∃ oc od vs osl tf, K.lookup cc = some ⟨oc, od, .fields vs, osl⟩ ∧ vs[2]? = some (.str file tf)
  oex : OexC K C
  way : ks_superIn K C C "__init__" = some (some (.builtin "ValueError.__init__"))
  opq : nsIn K cStatics "thirdparty.any" = some none
  ve : subIn K (.ref C) (.type "ValueError") = some true
  own : mroIn K C (.ref C) = some true
def supB (K : Frag) (C cell cc : Addr) (file : Str) : Bool :=
  (match K.lookup cell with
    | some ⟨_, _, .cell (some (.ref D)), _⟩ => decide (D = C)
    | _ => false) &&
  ((match K.lookup cc with
    | some ⟨_, _, .fields vs, _⟩ => (match vs.toList[2]? with
      | some (Value.str z _) => decide (z = file)
      | _ => false)
    | _ => false) &&
  (decide (ks_superIn K C C "__init__" = some (some (.builtin "ValueError.__init__"))) && (decide (nsIn K cStatics "thirdparty.any" = some none) &&
    (decide (subIn K (.ref C) (.type "ValueError") = some true) && decide (mroIn K C (.ref C) = some true)))))
theorem supB_ok {K : Frag} {C cell cc : Addr} {file : Str} (T : OexC K C) (h : supB K C cell cc file = true) : SupC K C cell cc file := by
  unfold supB at h
  simp only [Bool.and_eq_true, decide_eq_true_eq] at h
  obtain ⟨h1, h2, h3, h4, h5, h6⟩ := h
  refine ⟨?_, ?_, T, h3, h4, h5, h6⟩
  · split at h1
    · rename_i a b D d e
      have ed : D = C := of_decide_eq_true h1
      subst ed
      exact ⟨_, _, _, e⟩
    · cases h1
  · split at h2
    · rename_i a b vs d e
      split at h2
      · rename_i z tf ez
        rw [Array.getElem?_toList] at ez
        have ed : z = file := of_decide_eq_true h2
        subst ed
        exact ⟨_, _, _, _, tf, e, ez⟩
      · cases h2
    · cases h2
section
variable {X : Cx} {pins : List (Addr × Obj)} {σ : L2.St} {H : Hp} {s : Shared} {C a : Addr} {u : Value} {A : Around} {E : Value → Shared → Prop}
theorem inv_pin1 {p : Addr × Obj} (I : Inv X pins σ H s) (hg : s.heap.get? p.1 = some p.2) (hn : H p.1 = none) (hl : p.1 ≠ X.env.locals) (hf : p.1 ∉ X.fs) (hd : ∀ v, p.2.data ≠ .cell v) : Inv X (p :: pins) σ H s :=
  I.pins_of fun q hq => by
    rcases List.mem_cons.mp hq with z | z
    · rw [z]
      exact ⟨hg, hn, hl, hf, hd⟩
    · exact I.pin q (List.mem_append_right _ z)
theorem inv_unpin {p : Addr × Obj} (I : Inv X (p :: pins) σ H s) : Inv X pins σ H s := I.pins_of fun q hq => I.pin q (List.mem_append_right _ (List.mem_cons_of_mem _ hq))
/-- the bound ValueError.__init__ is called: the args are laid anew -/
theorem call_bound {v : Addr} {us : List Value} {Q : Value → Shared → Prop} (T : OexC X.K C) (I : Inv X pins σ H s) (hv : s.heap.get? v = some (kxs_mw "ValueError.__init__" a)) (e : H a = some (exo a C none)) (hl : us.length ≤ sizeLine)
    (h : ∀ s', Inv X pins σ H s' → Q .none s') : wpAny (model X.prog X.w) A (call (.ref v) us) Q E s := by
  obtain ⟨nm, q, N, bs, bm, sn, sub, ab, col, dd, k0, k1, k2, k3, k5, hC, hbm⟩ := T.cls
  obtain ⟨t1, ho⟩ := exo_at I.hok e
  obtain ⟨hp, g, d, t, os⟩ := s
  refine wpAny_call (codeAny_of_tree ?_)
  show wpAny _ _ (callAny (Value.ref v) ⟨us, []⟩) _ _ _
  unfold callAny
  refine wpAny_bind (wpAny_load hv ?_)
  dsimp only [kxs_mw]
  refine KFB.if_so (by decide) ?_
  refine wpAny_bind (check_bound_init PySem.F.excBase_ValueError.toExcCallFacts (I.kIn _ _ hC) ho rfl ?_)
  refine wpAny_bind (wpAny_pure (wpAny_pure ⟨plainId_quiet PySem.F.excBase_ValueError.init.plain _, ?_⟩))
  refine codeAny_builtin PySem.F.excBase_ValueError.initEntry ?_
  refine exc_init_tree (cls := .ref C) (t0 := t1) (dv := none) (c2 := .none) (c3 := .none) (b4 := .bool false) ho hl fun h' k hx _ => ?_
  have J := I.write (t' := t) (x := a) (e := a) (o := exo a C none) (by rw [e]; exact True.intro) (.inl rfl) k ⟨_, hx⟩ (exo_ok hx)
  have eu : upd H a (exo a C none) = H := by
    funext b
    by_cases hb : b = a
    · rw [hb, upd_same, e]
    · rw [upd_ne hb]
  rw [eu] at J
  exact h _ J
end
section
variable {X : Cx} {pins : List (Addr × Obj)} {σ : L2.St} {H : Hp} {s : Shared} {C cell cc fI a : Addr} {ta : TA} {e : Expr} {es : List Expr} {p0 p1 p2 p3 p4 : Pos} {body : List Stmt} {fd : FuncData} {ar : Arg} {file : Str} {i : Nat}
/-- super().__init__(e, ..) as the first statement -/
theorem sup_first {oc : Value} {od : Option Addr} {osl : Array (Option Value)} (S : SupC X.K C cell cc file) (SP : SupP X.prog file) (hfn : X.K.lookup fI = some ⟨oc, od, .func fd, osl⟩) (hpar : (fd.params.posonlyargs ++ fd.params.args).head? = some ar)
    (hN : X.N[i]? = some ar.arg) (hka : X.env.kindOf ar.arg = some .local) (hva : Vis X.env.scope ar.arg) (hfu : X.env.func = some fI) (hco : X.env.code = .ref cc) (hcl : X.env.cells.lookup ("__class__" : Str) = some cell) (hkc : X.env.kindOf "__class__" = some .free)
    (hks : Gl X "super") (hms : X.mg "super" = none) (ha : PA X (e :: es) ta) (I : Inv X pins σ H s) (hi : σ[i]? = some (some (.ref a))) (hex : H a = some (exo a C none)) {Q : Hp → Prop}
    (h : ta σ H fun ws H1 => ws.length ≤ 1000 ∧ H1 a = some (exo a C none) ∧ Q H1)
    (hint : interactive X.env = false) (hsw : swapsWith (.Call (.Attribute (.Call (.Name "super" p0) [] [] p1) "__init__" p2) (e :: es) [] p3) none p4.line X.env = pure false := by rfl) {pl : Sem Bool}
    (hev : eval (.Call (.Attribute (.Call (.Name "super" p0) [] [] p1) "__init__" p2) (e :: es) [] p3) X.env = (do
      let ov ← attributeBase (.Call (.Name "super" p0) [] [] p1) "__init__" X.env (eval (.Call (.Name "super" p0) [] [] p1) X.env)
      standAt p2.atName
      let (f, first) ← holding [ov] (getMethod ov "__init__" pl)
      callWith p3 f first (backTo p3 (starEach (e :: es) X.env)) []) := by rfl)
    (he : starEach (e :: es) X.env = (false, eval e X.env) :: starEach es X.env := by rfl) (hpl : (backTo p3 (starEach es X.env)).any (·.1) = false := by rfl) :
    PySem.wpAt (model X.prog X.w) X.A (.func body X.env) (exec (.Expr (.Call (.Attribute (.Call (.Name "super" p0) [] [] p1) "__init__" p2) (e :: es) [] p3) p4) X.env) (fun f s' => f = .next ∧ ∃ H1, Inv X pins σ H1 s' ∧ Q H1) X.xe s := by
  obtain ⟨cl, cld, csl, hcell⟩ := S.cell
  obtain ⟨kc, kd, vs, ksl, tf, hcode, hvs⟩ := S.code
  obtain ⟨m, hn, hlo⟩ := I.loc
  obtain ⟨u, ru, lo⟩ := hlo i ar.arg _ hN hi hva
  obtain rfl : u = Value.ref a := ru
  have hm : m ar.arg = some (.ref a) := by
    rcases lo with ⟨_, z⟩ | ⟨k, _⟩
    · exact z
    · rw [hka] at k
      rcases k with k | k <;> cases k
  obtain ⟨mb, hb1, hb2⟩ := I.mod.blt
  obtain ⟨t1, ho⟩ := exo_at I.hok hex
  have KX := I.kIn
  obtain ⟨cdC, hcd⟩ : ∃ cd, clsIn X.K C = some cd := by
    cases q : clsIn X.K C with
    | none =>
      have z := S.own
      unfold mroIn at z
      rw [q] at z
      cases z
    | some cd => exact ⟨cd, rfl⟩
  obtain ⟨oD, hD1, hD2⟩ : ∃ oD, s.heap.get? C = some oD ∧ oD.data = .cls cdC := by
    have z := hcd
    unfold clsIn at z
    split at z
    · rename_i c' d' cd' sl' hoC
      cases z
      exact ⟨_, KX _ _ hoC, rfl⟩
    · cases z
  have hway : alongIn X.K "__init__" ((cdC.mro.dropWhile (· != .ref C)).drop 1) = some (some (.builtin "ValueError.__init__")) := by
    have z := S.way
    unfold ks_superIn at z
    rw [hcd] at z
    exact z
  obtain ⟨hp, g, d, t, os⟩ := s
  have IA : InstAt hp a ({ cls := .ref C, dict := none, data := .fields #[.ref t1, .none, .none, .none, .bool false, .none] } : Obj) C none := ⟨ho, rfl, rfl, trivial⟩
  refine ks_wpAt_Expr_any ?_ hint hsw
  refine ks_wpAt_MethodCall (pl := pl) ?_ hev
  refine ks_wpAt_super_base hks hkc (by decide) hfu (KX _ _ hfn) rfl hpar hco (KX _ _ hcode) rfl hvs SP.file SP.top ?_
  refine ks_loadName_global I.ok.kind hks (loadGlobal_builtin (env := X.env) (by rw [I.ok.glob]; exact I.mod.glob.keeps I.bk) hms (by rw [I.ok.blt]; exact hb1.keeps I.bk) ((hb2 "super" (by decide)).trans (by decide +kernel)) ⟨rfl, ?_⟩)
  refine wpAny_loadName_free I.ok.kind hkc hcl ⟨_, KX _ _ hcell, rfl⟩ (wpAny_loadName_local I.ok.kind hka hn hm (ks_wpAny_isType_cls hD1 hD2 ⟨rfl, ?_⟩))
  refine ks_wpAny_call_super hD1 hD2 ho rfl (fun c z => by cases z) (looks_mroIn KX S.own) (fun h1 e1 k1 => ?_)
  have KX1 : X.K.In h1 := KX.keeps k1
  have IA1 : InstAt h1 a ({ cls := .ref C, dict := none, data := .fields #[.ref t1, .none, .none, .none, .bool false, .none] } : Obj) C none := ⟨k1 _ _ ho, rfl, rfl, trivial⟩
  have hI1 : Looks (model X.prog X.w) h1 (isInstance (.ref a) (.type "ValueError")) true := IA1.type.andThen (looks_subIn KX1 S.ve)
  have hmro : Looks (model X.prog X.w) h1 (mroOf (.ref C)) cdC.mro := fun A Q E s k q => wpAny_bind ((looks_clsIn KX1 hcd) A _ E s k (wpAny_pure q))
  refine kxs_getMethod kxs_ValueError e1 (looks_opaque KX1 S.opq) hmro rfl KX1 hway hI1 (ks_ne KX1 IA1 hcd) (by decide) ?_
  have nw : ∀ b o, h1.get? b = some o → (h1.push (kxs_mw "ValueError.__init__" a)).get? b = some o := fun b o z => Heap.get?_push_of_some _ z
  have hv : (h1.push (kxs_mw "ValueError.__init__" a)).get? h1.objs.size = some (kxs_mw "ValueError.__init__" a) := Heap.get?_push_at rfl rfl
  have hsz : hp.objs.size ≤ h1.objs.size := Nat.le_of_lt (Nat.lt_of_le_of_lt (Nat.le_refl _) (Heap.lt_size e1))
  have J : Inv X pins σ H ⟨h1.push (kxs_mw "ValueError.__init__" a), g, d, t + 1, os⟩ := I.kept (t' := t + 1) (h' := h1.push (kxs_mw "ValueError.__init__" a)) fun b o z => nw _ _ (k1 _ _ z)
  have J1 : Inv X ((h1.objs.size, kxs_mw "ValueError.__init__" a) :: pins) σ H ⟨h1.push (kxs_mw "ValueError.__init__" a), g, d, t + 1, os⟩ :=
    inv_pin1 J hv (I.hok.fresh hsz) (fun z => absurd (Nat.lt_of_lt_of_le I.lt hsz) (by rw [← z]; exact Nat.lt_irrefl _)) (I.nofs hsz) (fun v z => by cases z)
  show wpAny _ _ (callWith p3 (.ref h1.objs.size) [] (backTo p3 (starEach (e :: es) X.env)) []) _ _ _
  have hargs := ha.run p3 _ _ σ H _ J1 h
  rw [he] at hargs ⊢
  refine kxs_callWith (i := "ValueError.__init__") (x := a) (by show (false || (backTo p3 (starEach es X.env)).any (·.1)) = false; rw [hpl]; rfl) ?_
  refine evalArgs_plain (thn hargs fun us s2 ⟨ws, H1, I2, rw', hlen, hex2, q⟩ => ?_)
  obtain ⟨hv2, _⟩ := I2.pin _ (List.mem_append_right _ List.mem_cons_self)
  refine ⟨hv2, ?_⟩
  have hus : us.length ≤ sizeLine := by
    rw [← Paired.length rw', sizeLine_eq]
    omega
  exact call_bound S.oex (inv_unpin I2) hv2 hex2 hus fun s' J3 => ⟨rfl, H1, J3, q⟩
end
section
open NdefX L2H
variable {CX : CXT} {P : Program} {w : World} {K : Frag} {mg : Str → Option Value} {base : Heap} {N ps : List Str} {fI C cell cc : Addr} {k : Nat} {sp : Sp} {name qual : Str} {params : Arguments} {scope : Scope} {rest : List Stmt} {e : Expr} {es : List Expr} {p0 p1 p2 p3 p4 : Pos}
  {dV kV doc pm ct oc : Value} {an od : Option Addr} {osl : Array (Option Value)} {ar : Arg} {file : Str}
/-- super().__init__(e, ..), the statement -/
abbrev supSt (e : Expr) (es : List Expr) (p0 p1 p2 p3 p4 : Pos) : Stmt := .Expr (.Call (.Attribute (.Call (.Name "super" p0) [] [] p1) "__init__" p2) (e :: es) [] p3) p4
/-- the def's words -/
abbrev nfS (name qual : Str) (params : Arguments) (scope : Scope) (body : List Stmt) (cell cc : Addr) : NF := ⟨name, qual, params, body, scope, [(("__class__" : Str), cell)], cc⟩
/-- its names' values at the entry -/
abbrev stS (N : List Str) (vs : List V) (C : Addr) : L2.St := startF N vs [some (.ref C)]
theorem lk_self {x : Str} {c : Addr} : List.lookup x [(x, c)] = some c := by simp [List.lookup]
theorem cells_sup {F : NF} {s : Shared} {H : Hp} {csl : Array (Option Value)} {cl : Value} {cld : Option Addr} (hF : F.cl = [(("__class__" : Str), cell)]) (hg : s.heap.get? cell = some ⟨cl, cld, .cell (some (.ref C)), csl⟩) (hn : H cell = none) : CellsAt F.cl ["__class__"] [some (.ref C)] s.heap H := by
  rw [hF]
  have one : ∀ {y : Str} {c : Addr}, ([(("__class__" : Str), cell)] : List (Str × Addr)).lookup y = some c → y = "__class__" ∧ c = cell := fun {y c} z => by
    have z1 := PySem.mem_of_lookup z
    rw [List.mem_singleton] at z1
    cases z1
    exact ⟨rfl, rfl⟩
  refine ⟨rfl, fun y c z => ?_, fun x y c z1 z2 => (one z1).1.trans (one z2).1.symm, fun i y z => ?_⟩
  · rw [(one z).2]
    exact ⟨hn, _, _, hg, rfl⟩
  · cases i with
    | zero =>
      have ey : ("__class__" : Str) = y := Option.some.inj z
      subst ey
      refine ⟨cell, lk_self, fun v hv => ?_⟩
      have ev : V.ref C = v := Option.some.inj (Option.some.inj hv)
      subst ev
      exact ⟨.ref C, rfl, _, hg, rfl⟩
    | succ i => cases z
theorem fn_sup (lk : K.lookup fI = some ⟨oc, od, .func (fnX name qual params (supSt e es p0 p1 p2 p3 p4 :: rest) scope [("__class__", cell)] dV kV doc pm an (.ref cc) ct), osl⟩) (hcd : codeIn K (.ref cc) qual = true)
    (S : NScope N ps ["__class__"] scope) (SC : SupC K C cell cc file) (SP : SupP P file) (hpar : (params.posonlyargs ++ params.args).head? = some ar) (h0 : ps[0]? = some ar.arg) (hks : scope.names.lookup ("super" : Str) = some .globalImplicit) (hms : mg "super" = none)
    (len : ∀ vs H Q E, sp vs H Q E → vs.length = ps.length)
    (hbody : ∀ (A : Around) (outer : List Env) (s : Shared) (H : Hp) (vs : List V) (Q : VK) (E : XK), sp vs H Q E →
      ∃ ta t, PA (ncx CX P w K mg base N (nfS name qual params scope (supSt e es p0 p1 p2 p3 p4 :: rest) cell cc) fI A outer s H E) (e :: es) ta ∧ PSs (ncx CX P w K mg base N (nfS name qual params scope (supSt e es p0 p1 p2 p3 p4 :: rest) cell cc) fI A outer s H E) rest t ∧
        ∃ a, vs[0]? = some (.ref a) ∧ H a = some (exo a C none) ∧ ta (stS N vs C) H fun ws H1 => ws.length ≤ 1000 ∧ H1 a = some (exo a C none) ∧ t { nx := fun _ H' => Q .non H', rt := Q } (stS N vs C) H1)
    (hev : ∀ L : Addr, ∃ pl : Sem Bool, eval (.Call (.Attribute (.Call (.Name "super" p0) [] [] p1) "__init__" p2) (e :: es) [] p3) (envX qual scope L fI (.ref cc) [("__class__", cell)]) = (do
      let ov ← attributeBase (.Call (.Name "super" p0) [] [] p1) "__init__" (envX qual scope L fI (.ref cc) [("__class__", cell)]) (eval (.Call (.Name "super" p0) [] [] p1) (envX qual scope L fI (.ref cc) [("__class__", cell)]))
      standAt p2.atName
      let (f, first) ← holding [ov] (getMethod ov "__init__" pl)
      callWith p3 f first (backTo p3 (starEach (e :: es) (envX qual scope L fI (.ref cc) [("__class__", cell)]))) []))
    (hst : ∀ L : Addr, starEach (e :: es) (envX qual scope L fI (.ref cc) [("__class__", cell)]) = (false, eval e (envX qual scope L fI (.ref cc) [("__class__", cell)])) :: starEach es (envX qual scope L fI (.ref cc) [("__class__", cell)]))
    (hpl : ∀ L : Addr, (backTo p3 (starEach es (envX qual scope L fI (.ref cc) [("__class__", cell)]))).any (·.1) = false) :
    FnOk P w K mg base CX (k + 1) fI (fnX name qual params (supSt e es p0 p1 p2 p3 p4 :: rest) scope [("__class__", cell)] dV kV doc pm an (.ref cc) ct) ps sp := by
  refine ⟨len, fun A outer s H args us vs Q E hr e0 hb r hsp => ?_⟩
  have hl := len _ _ _ _ hsp
  have KX : K.In s.heap := e0.mod.kin.keeps fun b o z => (e0.bs b o z).1
  have lim : s.heap.NoLimit := e0.mod.nolimit.keeps fun b o z => (e0.bs b o z).1
  obtain ⟨cl, cld, csl, hcell⟩ := SC.cell
  have hn : H cell = none := (e0.bs _ _ (e0.mod.kin _ _ hcell)).2
  refine ks_codeAny_call_defAt (binds := ps.zip us) hr.depth (KX _ _ lk) rfl lim (codeRec_of KX hcd) rfl hb S.nocell (fun ⟨n, _⟩ hy => S.par n (List.of_mem_zip hy).1) (fun h₀ hns kp => ?_) S.co S.gen S.kind
  obtain ⟨ta, t, hA, hS, a, ha0, hex, hq⟩ := hbody A outer s H vs Q E hsp
  have I : Inv (ncx CX P w K mg base N (nfS name qual params scope (supSt e es p0 p1 p2 p3 p4 :: rest) cell cc) fI A outer s H E) [] (stS N vs C) H { s with heap := h₀, toks := s.toks + (ps.zip us).length } :=
    inv_startN S hr.hd e0 hl r (cells_sup rfl (KX _ _ hcell) hn) hns kp
  have hN0 : N[0]? = some ar.arg := by
    have q : (N.take (ps.length + 1))[0]? = (ps ++ [("__class__" : Str)])[0]? := congrArg (fun l : List Str => l[0]?) S.pre
    rw [List.getElem?_take_of_lt (by omega)] at q
    rw [q]
    cases ps with
    | nil => cases h0
    | cons x xs => exact h0
  have hk0 : scope.names.lookup ar.arg = some .local := S.par _ (List.mem_of_getElem? h0)
  have hs0 : (stS N vs C)[0]? = some (some (.ref a)) := by
    unfold stS startF
    cases vs with
    | nil => cases ha0
    | cons v vs =>
      have ev : v = .ref a := Option.some.inj ha0
      rw [ev] <;> rfl
  refine ks_wpAt_execs_cons ?_
  obtain ⟨pl, hev'⟩ := hev s.heap.objs.size
  refine ks_wpAt_mono (sup_first (X := ncx CX P w K mg base N (nfS name qual params scope (supSt e es p0 p1 p2 p3 p4 :: rest) cell cc) fI A outer s H E) (i := 0) (cell := cell) (cc := cc) (fI := fI) SC SP lk hpar hN0 hk0 (.inl hk0) rfl rfl (by show List.lookup ("__class__" : Str) [(("__class__" : Str), cell)] = some cell; exact lk_self) (S.frk _ List.mem_cons_self)
    hks hms hA I hs0 hex hq (by show ((scope.kind == ScopeKind.module) && _) = false; rw [S.kind] <;> rfl) rfl hev' (hst _) (hpl _)) (fun f s' hf => ?_) fun _ _ z => z
  obtain ⟨rfl, H1, J, q⟩ := hf
  refine wpAt_of_wpAny (wpAny_mono (hS.run [] s' _ H1 _ J q) (fun fl s2 hs => ?_) fun _ _ z => z)
  cases fl with
  | ret u =>
    obtain ⟨v, σ', H', J2, rv, q2⟩ := hs
    exact ⟨v, H', J2.os, J2.bare, J2.base, J2.hok, rv, q2⟩
  | next =>
    obtain ⟨σ', H', J2, q2⟩ := hs
    exact ⟨V.non, H', J2.os, J2.bare, J2.base, J2.hok, rfl, q2⟩
  | brk =>
    obtain ⟨_, _, _, q2⟩ := hs
    exact False.elim q2
  | cont =>
    obtain ⟨_, _, _, q2⟩ := hs
    exact False.elim q2
/-- .. called while an exception is handled -/
theorem fn_supH (lk : K.lookup fI = some ⟨oc, od, .func (fnX name qual params (supSt e es p0 p1 p2 p3 p4 :: rest) scope [("__class__", cell)] dV kV doc pm an (.ref cc) ct), osl⟩) (hcd : codeIn K (.ref cc) qual = true)
    (S : NScope N ps ["__class__"] scope) (SC : SupC K C cell cc file) (SP : SupP P file) (hpar : (params.posonlyargs ++ params.args).head? = some ar) (h0 : ps[0]? = some ar.arg) (hks : scope.names.lookup ("super" : Str) = some .globalImplicit) (hms : mg "super" = none)
    (len : ∀ vs H Q E, sp vs H Q E → vs.length = ps.length)
    (hbody : ∀ (A : Around) (outer : List Env) (s : Shared) (H : Hp) (vs : List V) (Q : VK) (E : XK) (p : Addr × Obj), Hot1 A p → sp vs H Q E →
      ∃ ta t, PA (ncxH CX P w K mg base N (nfS name qual params scope (supSt e es p0 p1 p2 p3 p4 :: rest) cell cc) fI A outer s H E p) (e :: es) ta ∧ PSs (ncxH CX P w K mg base N (nfS name qual params scope (supSt e es p0 p1 p2 p3 p4 :: rest) cell cc) fI A outer s H E p) rest t ∧
        ∃ a, vs[0]? = some (.ref a) ∧ H a = some (exo a C none) ∧ ta (stS N vs C) H fun ws H1 => ws.length ≤ 1000 ∧ H1 a = some (exo a C none) ∧ t { nx := fun _ H' => Q .non H', rt := Q } (stS N vs C) H1)
    (hev : ∀ L : Addr, ∃ pl : Sem Bool, eval (.Call (.Attribute (.Call (.Name "super" p0) [] [] p1) "__init__" p2) (e :: es) [] p3) (envX qual scope L fI (.ref cc) [("__class__", cell)]) = (do
      let ov ← attributeBase (.Call (.Name "super" p0) [] [] p1) "__init__" (envX qual scope L fI (.ref cc) [("__class__", cell)]) (eval (.Call (.Name "super" p0) [] [] p1) (envX qual scope L fI (.ref cc) [("__class__", cell)]))
      standAt p2.atName
      let (f, first) ← holding [ov] (getMethod ov "__init__" pl)
      callWith p3 f first (backTo p3 (starEach (e :: es) (envX qual scope L fI (.ref cc) [("__class__", cell)]))) []))
    (hst : ∀ L : Addr, starEach (e :: es) (envX qual scope L fI (.ref cc) [("__class__", cell)]) = (false, eval e (envX qual scope L fI (.ref cc) [("__class__", cell)])) :: starEach es (envX qual scope L fI (.ref cc) [("__class__", cell)]))
    (hpl : ∀ L : Addr, (backTo p3 (starEach es (envX qual scope L fI (.ref cc) [("__class__", cell)]))).any (·.1) = false) :
    FnH P w K mg base CX (k + 1) fI (fnX name qual params (supSt e es p0 p1 p2 p3 p4 :: rest) scope [("__class__", cell)] dV kV doc pm an (.ref cc) ct) ps sp := by
  refine ⟨len, fun A outer s H args us vs Q E p hr hot hpin e0 hb r hsp => ?_⟩
  have hl := len _ _ _ _ hsp
  have KX : K.In s.heap := e0.mod.kin.keeps fun b o z => (e0.bs b o z).1
  have lim : s.heap.NoLimit := e0.mod.nolimit.keeps fun b o z => (e0.bs b o z).1
  obtain ⟨cl, cld, csl, hcell⟩ := SC.cell
  have hn : H cell = none := (e0.bs _ _ (e0.mod.kin _ _ hcell)).2
  refine ks_codeAny_call_defAt (binds := ps.zip us) hr.depth (KX _ _ lk) rfl lim (codeRec_of KX hcd) rfl hb S.nocell (fun ⟨n, _⟩ hy => S.par n (List.of_mem_zip hy).1) (fun h₀ hns kp => ?_) S.co S.gen S.kind
  obtain ⟨ta, t, hA, hS, a, ha0, hex, hq⟩ := hbody A outer s H vs Q E p hot hsp
  have I : Inv (ncxH CX P w K mg base N (nfS name qual params scope (supSt e es p0 p1 p2 p3 p4 :: rest) cell cc) fI A outer s H E p) [] (stS N vs C) H { s with heap := h₀, toks := s.toks + (ps.zip us).length } :=
    inv_startNH S hpin e0 hl r (cells_sup rfl (KX _ _ hcell) hn) hns kp
  have hN0 : N[0]? = some ar.arg := by
    have q : (N.take (ps.length + 1))[0]? = (ps ++ [("__class__" : Str)])[0]? := congrArg (fun l : List Str => l[0]?) S.pre
    rw [List.getElem?_take_of_lt (by omega)] at q
    rw [q]
    cases ps with
    | nil => cases h0
    | cons x xs => exact h0
  have hk0 : scope.names.lookup ar.arg = some .local := S.par _ (List.mem_of_getElem? h0)
  have hs0 : (stS N vs C)[0]? = some (some (.ref a)) := by
    unfold stS startF
    cases vs with
    | nil => cases ha0
    | cons v vs =>
      have ev : v = .ref a := Option.some.inj ha0
      rw [ev] <;> rfl
  refine ks_wpAt_execs_cons ?_
  obtain ⟨pl, hev'⟩ := hev s.heap.objs.size
  refine ks_wpAt_mono (sup_first (X := ncxH CX P w K mg base N (nfS name qual params scope (supSt e es p0 p1 p2 p3 p4 :: rest) cell cc) fI A outer s H E p) (i := 0) (cell := cell) (cc := cc) (fI := fI) SC SP lk hpar hN0 hk0 (.inl hk0) rfl rfl (by show List.lookup ("__class__" : Str) [(("__class__" : Str), cell)] = some cell; exact lk_self) (S.frk _ List.mem_cons_self)
    hks hms hA I hs0 hex hq (by show ((scope.kind == ScopeKind.module) && _) = false; rw [S.kind] <;> rfl) rfl hev' (hst _) (hpl _)) (fun f s' hf => ?_) fun _ _ z => z
  obtain ⟨rfl, H1, J, q⟩ := hf
  refine wpAt_of_wpAny (wpAny_mono (hS.run [] s' _ H1 _ J q) (fun fl s2 hs => ?_) fun _ _ z => z)
  cases fl with
  | ret u =>
    obtain ⟨v, σ', H', J2, rv, q2⟩ := hs
    exact ⟨v, H', J2.os, J2.bare, J2.base, J2.hok, rv, q2⟩
  | next =>
    obtain ⟨σ', H', J2, q2⟩ := hs
    exact ⟨V.non, H', J2.os, J2.bare, J2.base, J2.hok, rfl, q2⟩
  | brk =>
    obtain ⟨_, _, _, q2⟩ := hs
    exact False.elim q2
  | cont =>
    obtain ⟨_, _, _, q2⟩ := hs
    exact False.elim q2
end
/-! ### the end: such defs' facts -/
section
open He Cm
abbrev FnS : Type := Option (Str × Str × Arguments × FuncBody × Scope × Addr × Addr)
def supA (K : Frag) (C : Str) : Addr := ma K (ga K C) "__init__"
def fnS (K : Frag) (C : Str) : FnS := match K.lookup (supA K C) with
  | some ⟨_, _, .func fd, _⟩ => some (fd.name, fd.qualname, fd.params, fd.body, fd.scope, fd.globals, fd.builtins)
  | _ => none
/-- a class with such an __init__ -/
structure SupD where
  cls : Str
  qual : Str
  params : Arguments
  body : List Stmt
  scope : Scope
def SupD.val (d : SupD) : FnS := some ("__init__", d.qual, d.params, .stmts d.body, d.scope, mainGlobals, builtinsNs)
def oexB (K : Frag) (C : Addr) : Bool := (match K.lookup C with
  | some ⟨.type "type", _, .cls cd, sl⟩ => (match cd.mro, sl.toList with
    | .ref D :: bm, [_, _, _, _, some (.builtin n), _] => decide (D = C) && (decide (n = "ValueError.__new__") && (!cd.hasDel && (cd.hasDict && PySem.HandSPX.refsVE bm)))
    | _, _ => false)
  | _ => false) && (eqO (findIn K (.ref C) "__setattr__") (some (some (.builtin "object.__setattr__"))) &&
  (decide (subIn K (.ref C) (.type "BaseException") = some true) && (decide (typeIn K (.ref C) = some (.type "type")) && keepIn K (.ref C))))
theorem oexB_ok {K : Frag} {C : Addr} (h : oexB K C = true) : OexC K C := by
  obtain ⟨h1, h⟩ := ba h
  obtain ⟨h2, h⟩ := ba h
  obtain ⟨h3, h⟩ := ba h
  obtain ⟨h4, h5⟩ := ba h
  refine ⟨?_, eqO_ok h2, of_decide_eq_true h3, of_decide_eq_true h4, h5⟩
  split at h1
  · rename_i dd cd sl ho
    split at h1
    · rename_i D bm k0 k1 k2 k3 n k5 hm hs
      obtain ⟨g1, h1⟩ := ba h1
      obtain ⟨g2, h1⟩ := ba h1
      obtain ⟨g3, h1⟩ := ba h1
      obtain ⟨g4, g5⟩ := ba h1
      have g1 := of_decide_eq_true g1
      have g2 := of_decide_eq_true g2
      obtain ⟨nm, bs, mro, ns, qn, hd, sn, sub, ab, col, del⟩ := cd
      dsimp only at hm g3 g4
      have g3 : del = false := by simpa using g3
      subst hm g1 g2 g3 g4
      have hsl : sl = #[k0, k1, k2, k3, some (.builtin "ValueError.__new__"), k5] := by
        apply Array.ext'
        exact hs
      subst hsl
      exact ⟨_, _, _, _, _, _, _, _, _, _, _, _, _, _, _, ho, g5⟩
    · cases h1
  · cases h1
def SupD.ok (file : Str) (K : Frag) (d : SupD) : Bool := (match K.lookup (supA K d.cls) with
  | some ⟨_, _, .func fd, _⟩ => (match fd.closure, fd.code, fd.defaults, fd.kwdefaults with
    | [(n, cell)], .ref cc, .none, .none => decide (n = "__class__") && (codeIn K (.ref cc) d.qual && supB K (ga K d.cls) cell cc file)
    | _, _, _, _ => false)
  | _ => false) && (oexB K (ga K d.cls) && (eqO (findIn K (.ref (ga K d.cls)) "__init__") (some (some (.ref (supA K d.cls)))) && decide (typeIn K (.ref (supA K d.cls)) = some (.type "function"))))
/-- what the walks ask of such a def -/
structure SupF (K : Frag) (d : SupD) (file : Str) : Prop where
  ex : ∃ cell cc oc od osl doc pm an ct, K.lookup (supA K d.cls) = some ⟨oc, od, .func (fnX "__init__" d.qual d.params d.body d.scope [("__class__", cell)] .none .none doc pm an (.ref cc) ct), osl⟩ ∧ codeIn K (.ref cc) d.qual = true ∧ SupC K (ga K d.cls) cell cc file
  oex : OexC K (ga K d.cls)
  init : findIn K (.ref (ga K d.cls)) "__init__" = some (some (.ref (supA K d.cls)))
  fn : typeIn K (.ref (supA K d.cls)) = some (.type "function")
theorem SupD.sup {K : Frag} {d : SupD} {file : Str} (e : fnS K d.cls = d.val) (h : d.ok file K = true) : SupF K d file := by
  obtain ⟨h1, h⟩ := ba h
  obtain ⟨h2, h⟩ := ba h
  obtain ⟨h3, h4⟩ := ba h
  have O := oexB_ok h2
  refine ⟨?_, O, eqO_ok h3, of_decide_eq_true h4⟩
  unfold fnS at e
  cases q : K.lookup (supA K d.cls) with
  | none =>
    rw [q] at h1
    cases h1
  | some o =>
    obtain ⟨oc, od, dt, osl⟩ := o
    rw [q] at h1 e
    cases dt with
    | func fd =>
      obtain ⟨n1, n2, n3, n4, n5, n6, n7, n8, n9, n10, n11, n12, n13, n14, n15⟩ := fd
      have e2 : (some (n1, n2, n3, n4, n5, n6, n15) : FnS) = some (("__init__" : Str), d.qual, d.params, FuncBody.stmts d.body, d.scope, mainGlobals, builtinsNs) := e
      simp only [Option.some.injEq, Prod.mk.injEq] at e2
      obtain ⟨e1, e2, e3, e4, e5, e6, e7⟩ := e2
      subst e1 e2 e3 e4 e5 e6 e7
      dsimp only at h1
      split at h1
      · rename_i c1 c2
        obtain ⟨g1, g⟩ := ba h1
        obtain ⟨g2, g3⟩ := ba g
        have g1 := of_decide_eq_true g1
        subst g1
        exact ⟨_, _, oc, od, osl, _, _, _, _, rfl, g2, supB_ok O g3⟩
      · cases h1
    | _ => cases h1
abbrev AlS : Type := (Bool × List FnS) × AlX
def asS (g : Addr → Option Obj) (n : Nat) : List Addr := cStatics :: asD g n
def obsS (fa : List Fa) (fn : List DefD) (ts : List Tab) (ok : Frag → Bool) (sp : List SupD) (file : Str) (K : Frag) : AlS := ((sp.all fun d => d.ok file K, sp.map fun d => fnS K d.cls), obsX fa fn ts ok K)
def obsSG (n : Nat) (fa : List Fa) (fn : List DefD) (ts : List Tab) (ok : Frag → Bool) (sp : List SupD) (file : Str) (g : Addr → Option Obj) : AlS := obsS fa fn ts ok sp file (frG g (asS g n))
def SaysS (sp : List SupD) (file : Str) (K : Frag) : Prop := (sp.all fun d => d.ok file K) = true ∧ (sp.map fun d => fnS K d.cls) = sp.map SupD.val
theorem SaysS.sup {sp : List SupD} {file : Str} {K : Frag} (c : SaysS sp file K) (i : Nat) {d : SupD} (h : sp[i]? = some d := by rfl) : SupF K d file := by
  refine d.sup ?_ (List.all_eq_true.mp c.1 d (List.mem_of_getElem? h))
  have e2 : (sp.map fun d => fnS K d.cls)[i]? = (sp.map SupD.val)[i]? := by rw [c.2]
  rw [List.getElem?_map, List.getElem?_map, h] at e2
  exact Option.some.inj e2
def hookS (n : Nat) (fa : List Fa) (fn : List DefD) (ts : List Tab) (ok : Frag → Bool) (sp : List SupD) (file : Str) : Hook where
  α := AlS
  obs := fun s => obsSG n fa fn ts ok sp file s.heap.get?
  val := fun w => ((true, sp.map SupD.val), (true, valT fn ts w))
  says := fun w h => ∃ K : Frag, K.In h ∧ SaysS sp file K ∧ ok K = true ∧ SaysT fa fn ts w K
  of := fun w s e => ⟨frG s.heap.get? (asS s.heap.get? n), frG_in, ⟨congrArg (fun z : AlS => z.1.1) e, congrArg (fun z : AlS => z.1.2) e⟩, congrArg (fun z : AlS => z.2.1) e, congrArg (fun z : AlS => z.2.2) e⟩
  keeps := fun _ _ _ ⟨K, hK, u, o, c⟩ k => ⟨K, Frag.In.keeps hK k, u, o, c⟩
theorem obsSG_eq {n : Nat} {fa : List Fa} {fn : List DefD} {ts : List Tab} {ok : Frag → Bool} {sp : List SupD} {file : Str} {g : Addr → Option Obj} {s : Shared} (h : ∀ a, g a = s.heap.get? a) : obsSG n fa fn ts ok sp file g = (hookS n fa fn ts ok sp file).obs s := by
  have e : g = s.heap.get? := funext h
  rw [e] <;> rfl
end
end SupI

set_option Elab.async false
set_option linter.all false
set_option maxRecDepth 100000
set_option maxHeartbeats 4000000
/-! isinstance of a caught error that has a dict. -/
namespace IsED
open PySem PySem.Spec PyProof.Rows L2
/-- isinstance(e, c), e the exception that the suite holds, of class cls, with the dict at d -/
def rIsED (K : PySem.W.Frag) (a : Addr) (cls : Value) (d : Option Addr) : List V → Hp → VK → Prop := fun xs H Q => ∃ (D dd : Addr) (fs : List (Str × V)) (c : V) (cv : Value) (b : Bool),
  xs = [.ref a, c] ∧ cls = .ref D ∧ d = some dd ∧ ExcC K D ∧ H dd = some (.xd fs) ∧ (∀ u, RelV c u → u = cv) ∧ PySem.W.kitOne K (.ref D) cv = some b ∧ Q (.bl b) H
theorem call_isED {X : Cx} {a : Addr} {oe : Obj} {cls : Value} {d : Option Addr} {pn : List (Addr × Obj)} (hz : Zc cls d oe) (hf : ∃ vs, oe.data = .fields vs) : CallR (X.suite a ((a, oe) :: pn)) (.builtin "isinstance") (rIsED X.K a cls d) := by
  intro pins s σ H xs us Q I r h
  obtain ⟨D, dd, fs, c, cv, b, rfl, rfl, rfl, C, ed, hcv, e, q⟩ := h
  cases r with
  | cons rx rr =>
    cases rr with
    | cons rt rr =>
      cases rr
      cases rx
      have ec := hcv _ rt
      subst ec
      obtain ⟨hget, _⟩ := I.pin (a, oe) (List.mem_append_left _ List.mem_cons_self)
      obtain ⟨vs, hv⟩ := hf
      have hx : ObjOk X.prog X.w H s.heap dd (.xd fs) := I.hok dd _ ed
      obtain ⟨mA, hns, hr⟩ := hx
      obtain ⟨od, ho, _⟩ := lookIn_ns hns
      have J : PySem.W.InstAt s.heap a oe D (some od) := ⟨hget, hz.1, by unfold PySem.W.notCls; rw [hv] <;> rfl, by rw [hz.2]; exact ho⟩
      obtain ⟨cd, hcd, _⟩ := PySem.W.any_some C.hd
      exact PySem.W.kia_one (PySem.W.kitx_exc (by rw [hcd] <;> rfl) C.hg C.hk C.hs C.ha C.hn C.ht C.hm) I.kIn J e (fun z => nomatch z) fun tk => ⟨.bl b, H, I.kept (t' := tk) fun _ _ z => z, rfl, q⟩
end IsED

set_option Elab.async false
set_option linter.all false
set_option maxRecDepth 100000
set_option maxHeartbeats 4000000
/-! A list comprehension whose element may raise by a call. -/
namespace RComp
open PySem PySem.Spec PyProof.Rows L2
section
variable {X : Cx} {pins : List (Addr × Obj)} {σ : L2.St} {H : Hp} {s : Shared}
/-- one more object is said to stay -/
theorem inv_pn {c : Addr × Obj} (I : Inv X pins σ H s) (hc : s.heap.get? c.1 = some c.2 ∧ H c.1 = none ∧ c.1 ≠ X.env.locals ∧ c.1 ∉ X.fs ∧ ∀ v, c.2.data ≠ .cell v) : Inv { X with pn := c :: X.pn } pins σ H s := by
  have o := I.ok
  refine ⟨⟨o.mod, o.kind, o.glob, o.blt, o.above, o.inj, o.has, o.cab, o.hd, o.frames, o.stk, o.exf, o.bs, o.bsz, o.noex, o.exfs, o.funs, o.frf⟩, I.os, I.bare, I.base, I.loc, I.cell, I.free, I.freeC, fun p hp => ?_, I.hok, I.len⟩
  rcases List.mem_append.mp hp with h | h
  · rcases List.mem_cons.mp h with h | h
    · rw [h]
      exact hc
    · exact I.pin p (List.mem_append_left _ h)
  · exact I.pin p (List.mem_append_right _ h)
theorem inv_pn_back {c : Addr × Obj} (I : Inv { X with pn := c :: X.pn } pins σ H s) : Inv X [] σ H s ∧ (s.heap.get? c.1 = some c.2 ∧ H c.1 = none ∧ c.1 ≠ X.env.locals ∧ c.1 ∉ X.fs) := by
  have o := I.ok
  refine ⟨⟨⟨o.mod, o.kind, o.glob, o.blt, o.above, o.inj, o.has, o.cab, o.hd, o.frames, o.stk, o.exf, o.bs, o.bsz, o.noex, o.exfs, o.funs, o.frf⟩, I.os, I.bare, I.base, I.loc, I.cell, I.free, I.freeC, fun p hp => ?_, I.hok, I.len⟩, ?_⟩
  · rw [List.append_nil] at hp
    exact I.pin p (List.mem_append_left _ (List.mem_cons_of_mem _ hp))
  · obtain ⟨h1, h2, h3, h4, _⟩ := I.pin c (List.mem_append_left _ List.mem_cons_self)
    exact ⟨h1, h2, h3, h4⟩
end
section
variable {B h : Heap} {l : List Env} {a C L : Addr} {Z : Obj → Prop}
theorem hide_none {b : Addr} (e : B.get? b = none) : (PySem.W.hideAll B [C]).get? b = none := by
  cases q : (PySem.W.hideAll B [C]).get? b with
  | none => rfl
  | some o =>
    have z := PySem.W.of_hideAll _ q
    rw [e] at z
    cases z
theorem frames_hide (f : h.FunFrames B l) : h.FunFrames (PySem.W.hideAll B [C]) l := funFrames_none f fun b hb => hide_none (f.mem hb).1
theorem traced_hide {v : Value} (t : HandSPX.TracedZ h B a Z v) : HandSPX.TracedZ h (PySem.W.hideAll B [C]) a Z v := by
  obtain ⟨oe, vs, T, oT, ts, he, hz, hd, h1, hn, r⟩ := t
  exact ⟨oe, vs, T, oT, ts, he, hz, hd, h1, hide_none hn, r⟩
theorem sky_hide (x : Sky B l a Z L h) : Sky (PySem.W.hideAll B [C]) l a Z L h := by
  rcases x with ⟨h1, h2, h3, r⟩ | ⟨h1, h2, h3, r⟩ | ⟨h1, h2, h3, r⟩
  · exact .inl ⟨fun b o e => h1 b o (PySem.W.of_hideAll _ e), hide_none h2, frames_hide h3, r⟩
  · exact .inr (.inl ⟨fun b o e => h1 b o (PySem.W.of_hideAll _ e), hide_none h2, frames_hide h3, traced_hide r⟩)
  · exact .inr (.inr ⟨fun b o e => h1 b o (PySem.W.of_hideAll _ e), hide_none h2, frames_hide h3, traced_hide r⟩)
theorem traced_but {h' : Heap} {v : Value} {m : Str → Option Value} (t : HandSPX.TracedZ h B a Z v) (hn : h.Ns C m) (hs : Heap.SameBut C h h') : HandSPX.TracedZ h' B a Z v := by
  obtain ⟨oe, vs, T, oT, ts, he, hz, hd, h1, hn0, hTe, hT, hdT, h3⟩ := t
  obtain ⟨oC, es, ep, hoC, hdC, _⟩ := hn
  have n1 : a ≠ C := fun z => by
    rw [z, hoC] at he
    cases he
    rw [hd] at hdC
    cases hdC
  have n2 : T ≠ C := fun z => by
    rw [z, hoC] at hT
    cases hT
    rw [hdT] at hdC
    cases hdC
  exact ⟨oe, vs, T, oT, ts, (hs.2 a n1).trans he, hz, hd, h1, hn0, hTe, (hs.2 T n2).trans hT, hdT, h3⟩
end
/-- an exception out of a call in the block goes on in the def's own frame -/
theorem flies {X : Cx} {W : WX} {E : XK} {pins : List (Addr × Obj)} {σ : L2.St} {H : Hp} {s s' : Shared} {ce : Env} {u : Value} {m : Str → Option Value}
    (hs : X.stack = X.env :: X.outer) (hf : X.env.frame = some X.env.locals) (hcf : ce.frame = X.env.frame) (tk : Takes X W) (hE : ∀ cls d H', E cls d H' → W cls d σ H') (I : Inv X pins σ H s) (hn : s.heap.Ns ce.locals m) (f : FpOk X pins H ce.locals)
    (c : CX X.prog X.w X.stack H s E u s') : notedBy (model X.prog X.w) X.A ce (CompFails (model X.prog X.w) X.A X.xe ce) u s' := by
  obtain ⟨f1, f2, f3, f4, f5, f6⟩ := f
  obtain ⟨oC, es, ep, hoC, hdC, hnC⟩ := id hn
  have I' := inv_pn (c := (ce.locals, oC)) I ⟨hoC, f1, f2, f3, fun v e => by rw [hdC] at e; cases e⟩
  obtain ⟨a, B, sI, pins2, σ2, H2, cls, d, rfl, I2, nb, up, sky, na, os, ag, w⟩ := XE.of_call I' hE c
  obtain ⟨I3, k1, k2, k3, k4⟩ := inv_pn_back I2
  have nF : ce.locals ∉ frs X.stack := fun z => by
    rw [hs] at z
    rcases List.mem_filterMap.mp z with ⟨e, he, q⟩
    rcases List.mem_cons.mp he with r | r
    · rw [r, hf] at q
      exact f2 (Option.some.inj q).symm
    · exact f3 (List.mem_filterMap.mpr ⟨e, r, q⟩)
  have hBC : B.get? ce.locals = some oC := nb _ _ k1 nF
  -- without the block
  have sky' : Sky (PySem.W.hideAll B [ce.locals]) X.stack a (Zc cls d) X.env.locals s'.heap := sky_hide sky
  have stB : B.StaysIn s'.heap := by
    rcases sky with ⟨h1, _⟩ | ⟨h1, _⟩ | ⟨h1, _⟩ <;> exact h1
  have hn1 : s'.heap.Ns ce.locals m := ⟨oC, es, ep, stB _ _ hBC, hdC, hnC⟩
  have I4 : Inv X [] σ2 H2 { sI with heap := PySem.W.hideAll sI.heap [ce.locals] } := I3.turned (t' := sI.toks) (fun b o ne e => PySem.W.hideAll_get _ e (by simpa using ne)) k2 f2 f4 f5 fun p hp => f6 p (by rw [List.append_nil] at hp; exact List.mem_append_left _ hp)
  have hC0 : (PySem.W.hideAll sI.heap [ce.locals]).get? ce.locals = none := PySem.W.hideAll_none _ List.mem_cons_self
  have hfr : X.A.frames = some (X.env :: X.outer) := by rw [I3.ok.frames, hs]
  rw [hs] at sky'
  -- the raise goes on
  have go : ∀ h1, HandSPX.HeldZ (PySem.W.hideAll B [ce.locals]) (X.env :: X.outer) a (Zc cls d) X.env.locals h1 → s'.heap.UpToSlots h1 → CompFails (model X.prog X.w) X.A X.xe ce (.ref a) { s' with heap := h1 } := fun h1 hh up1 => by
    have hn2 : h1.Ns ce.locals m := hn1.upToSlots up1
    refine ⟨m, hn2, fun h2 m2 hn3 sb => ?_⟩
    obtain ⟨b1, b0, fr1, t1⟩ := hh
    have b2 : (PySem.W.hideAll B [ce.locals]).StaysIn h2 := fun b o e => by
      have ne : b ≠ ce.locals := fun z => by
        rw [z, PySem.W.hideAll_none _ List.mem_cons_self] at e
        cases e
      exact (sb.2 b ne).trans (b1 b o e)
    have hh2 : HandSPX.HeldZ (PySem.W.hideAll B [ce.locals]) (X.env :: X.outer) a (Zc cls d) X.env.locals h2 := ⟨b2, b0, Heap.FunFrames.sameBut sb hn3 fr1, traced_but t1 hn2 sb⟩
    obtain ⟨oe, vs, T, oT, ts, he, hz, hd, h1', r⟩ := id hh2.2.2.2
    unfold PySem.passOn
    refine wpAny_bind (wpAny_field he hd h1' ?_)
    rw [if_neg (show ¬ ((Value.ref T == Value.none) = true) from by simp), hcf, hf]
    refine wpAny_bind (HandSPX.setFlight_onZ hh2 fun h3 hh3 up3 => ?_)
    refine wpAny_throw (tk _ _ ⟨a, PySem.W.hideAll B [ce.locals], _, [], σ2, H2, cls, d, rfl, I4, fun b o e hb => ?_, fun b o e hnf => ?_, .inr (.inr (by rw [hs]; exact hh3)), na, os, ag, w⟩)
    · have ne : b ≠ ce.locals := fun z => by
        have e : (PySem.W.hideAll sI.heap [ce.locals]).get? b = some o := e
        rw [z, hC0] at e
        cases e
      exact PySem.W.hideAll_get _ (nb b o (PySem.W.of_hideAll _ e) hb) (by simpa using ne)
    · have e : (PySem.W.hideAll sI.heap [ce.locals]).get? b = some o := e
      have ne : b ≠ ce.locals := fun z => by
        rw [z, hC0] at e
        cases e
      obtain ⟨sl, q⟩ := up b o (PySem.W.of_hideAll _ e) hnf
      obtain ⟨sl2, q2⟩ := up1 b _ q hnf
      have q3 := (sb.2 b ne).trans q2
      obtain ⟨sl3, q4⟩ := up3 b _ q3 hnf
      exact ⟨sl3, q4⟩
  show wpAny _ _ (noteFrame (.ref a) ce) _ _ s'
  rw [noteFrame_env _ hcf]
  rcases sky' with ⟨hB, hn0, hl, oe, vs, he, hz, hd, h1⟩ | fl | hh
  · exact HandSPX.look_newZ Zc.steady hfr hl hf he hB hn0 hd h1 hz go
  · exact HandSPX.looks_onZ Zc.steady hfr hf fl go
  · exact HandSPX.againZ hf hh.2.2.2 (go s'.heap hh (Heap.UpToSlots.refl _))
/-- tuple(x)'s reading, K said -/
def rTupOf (K : PySem.W.Frag) : List V → Hp → VK → Prop := fun xs H Q => ∃ p ys, xs = [V.ref p] ∧ ((SqL K H p ys ∧ ∀ l, H l = none → Q (V.ref l) (upd H l (.tup ys))) ∨ (SqT K H p ys ∧ Q (V.ref p) H))
/-- the block's context, where a raise goes on -/
abbrev blkR (X : Cx) (s : Shared) (H : Hp) (scope : Scope) (ce : Env) (fp : List Addr) (xe : Value → Shared → Prop) : Cx := { X.blk s H scope ce fp with xe := xe }
theorem inv_xe {X : Cx} {pins : List (Addr × Obj)} {σ : L2.St} {H : Hp} {s : Shared} {xe : Value → Shared → Prop} (I : Inv X pins σ H s) : Inv { X with xe := xe } pins σ H s := by
  have o := I.ok
  exact ⟨⟨o.mod, o.kind, o.glob, o.blt, o.above, o.inj, o.has, o.cab, o.hd, o.frames, o.stk, o.exf, o.bs, o.bsz, o.noex, o.exfs, o.funs, o.frf⟩, I.os, I.bare, I.base, I.loc, I.cell, I.free, I.freeC, I.pin, I.hok, I.len⟩
theorem lcR_run {pins : List (Addr × Obj)} {σ : L2.St} {H : Hp} {s : Shared} {Q : VK} {X : Cx} {W : WX} {E : XK} {elt tg iter : Expr} {ifs : List Expr} {scope : Scope} {own : List (Str × Nat)} {pos : Pos} {wi : TI} {g : TG} {tt : TT} {te : TE}
    (hs : X.stack = X.env :: X.outer) (hf : X.env.frame = some X.env.locals) (tk : Takes X W) (hE : ∀ cls d H', E cls d H' → W cls d σ H') (hc : X.calm = true) (hN : X.N.Nodup) (hi : PI X tg iter wi) (ok : BlkOk X.N X.env.scope scope own)
    (hg : ∀ (s : Shared) (H : Hp) (C : Addr) (cl : List (Str × Addr)) (fp : List Addr) (xe : Value → Shared → Prop), PG (blkR X s H scope (compEnvC scope cl C X.env) fp xe) tg g)
    (ht : ∀ (s : Shared) (H : Hp) (C : Addr) (cl : List (Str × Addr)) (fp : List Addr) (xe : Value → Shared → Prop), PTs (blkR X s H scope (compEnvC scope cl C X.env) fp xe) ifs tt)
    (he : ∀ (s : Shared) (H : Hp) (C : Addr) (cl : List (Str × Addr)) (fp : List Addr) (xe : Value → Shared → Prop), Passes (L2.CX X.prog X.w) (blkR X s H scope (compEnvC scope cl C X.env) fp xe) E → PE (blkR X s H scope (compEnvC scope cl C X.env) fp xe) elt te)
    (hfo : ∀ x, foldedSetIterable iter X.env x = pure x)
    (I : Inv X pins σ H s) (h : tLc wi g tt te (own.map (·.2)) σ H Q) : wpAny (model X.prog X.w) X.A (eval (.ListComp elt [⟨tg, iter, ifs, 0⟩] scope pos) X.env) (EP X pins σ Q) X.xe s := by
  rw [eval_ListComp]
  have hfree : ∀ y ∈ scope.names, y.2 = .free → ∃ c, X.env.cells.lookup y.1 = some c := fun y hy e => (ok.free y hy e).elim (fun k => I.ok.has _ (.inl k)) fun k => I.ok.has _ (.inr k)
  refine comprehension_at (use := none) rfl hfo (closure_ok hfree) ok.kind (fun y hy e => by rw [ok.uniq y hy, e]) (thn (hi.run pins s σ H _ I h) fun xv s1 hx => thn hx fun itv s2 h2 => ?_)
  obtain ⟨it, fp, tn, J, H2, rfl, I2, T, st2, f2, q⟩ := h2
  refine wpAny_newObj_type (newEnv_comp ?_) (by show 0 ≤ sizeLine; decide)
  have hDn : H2 s2.heap.objs.size = none := I2.hok.fresh (Nat.le_refl _)
  obtain ⟨V, ⟨m0, w0⟩, turn⟩ := q _ hDn
  generalize hD : s2.heap.objs.size = D at *
  let s3 : Shared := { s2 with heap := s2.heap.push { cls := .type "list", data := .seq ([] : List Value).toArray } }
  let H3 : Hp := upd H2 D (.lst [])
  have I3 : Inv X pins σ H3 s3 := I2.laid (t' := s2.toks) (fun b o e => Heap.get?_push_of_some _ e) (Nat.le_of_eq hD) ⟨Nat.zero_le _, [], 0, .nil, by rw [← hD]; exact Heap.get?_push_size _ rfl⟩
  have sz : ∀ b ∈ fp, b < s2.heap.objs.size := fun b hb => by
    obtain ⟨o, e, _⟩ := T.obj _ _ st2 b hb
    exact Heap.lt_size e
  have f3 : ∀ b ∈ fp, FpOk X pins H3 b ∧ b < s3.heap.objs.size := fun b hb => by
    have lt := sz b hb
    refine ⟨⟨?_, (f2 b hb).2⟩, by show b < (s2.heap.push _).objs.size; rw [Heap.size_push]; exact Nat.lt_succ_of_lt lt⟩
    show upd H2 D _ b = none
    rw [upd_ne (by rw [← hD]; exact Nat.ne_of_lt lt)]
    exact (f2 b hb).1
  let ce : Env := compEnvC scope (cellsFrom (s3.heap.objs.size + 1) scope.names (cloFrom X.env.cells scope.names [])) s3.heap.objs.size X.env
  let Y : Cx := blkR X s3 H3 scope ce fp (notedBy (model X.prog X.w) X.A ce (CompFails (model X.prog X.w) X.A X.xe ce))
  have back : ∀ {pins' : List (Addr × Obj)} {σ' : L2.St} {H' : Hp} {s' : Shared}, Inv Y pins' σ' H' s' → Inv X pins σ H' s' ∧ (∃ m, s'.heap.Ns ce.locals m) ∧ FpOk X pins H' ce.locals := fun {pins' σ' H' s'} I6 => by
    refine ⟨I3.call' (ch := fp) I6.os I6.base I6.hok I6.bare fun b hb => ⟨(f3 b hb).1.2.2.2.1, (f3 b hb).1.2.1, (f3 b hb).1.2.2.2.2.1, (f3 b hb).1.2.2.2.2.2⟩, ?_, I3.fpOk (Nat.le_refl _) I6.free⟩
    obtain ⟨m, hn, _⟩ := I6.loc
    exact ⟨m, hn⟩
  have pass : Passes (L2.CX X.prog X.w) Y E := fun pins' σ' H' s' e s'' I6 c => by
    obtain ⟨I7, ⟨m, hn⟩, fo⟩ := back I6
    exact flies hs hf rfl tk hE I7 hn fo c
  let s4 : Shared := { s3 with heap := pushCells (s3.heap.push { cls := .type "dict", data := .dict #[] }) scope.names }
  have I4 : Inv Y [] (wipe σ (own.map (·.2))) H3 s4 := inv_xe (block_start I3 ok hN f3)
  have st3 : tn 0 s3.heap := T.keep _ _ _ st2 fun b _ o e => Heap.get?_push_of_some _ e
  have st4 : tn 0 s4.heap := T.keep _ _ _ st3 fun b _ o e => pushCells_keeps _ _ _ _ (Heap.get?_push_of_some _ e)
  have stat : ∀ {σ' : L2.St} {H' : Hp} {s' : Shared}, Inv Y [] σ' H' s' → (∀ b ∈ fp, H' b = none) → ∀ b ∈ fp, FpOk Y [] H' b := fun I' hn b hb => ⟨hn b hb, (I'.ok.exf b hb).1, I'.ok.exfs b hb, .inl hb, fun x c e => (I'.ok.exf b hb).2 x c e, fun p hp => nomatch (show p ∈ ([] : List (Addr × Obj)) from hp)⟩
  have pg : PG Y tg g := hg _ _ _ _ _ _
  have pt : PTs Y ifs tt := ht _ _ _ _ _ _
  have pe : PE Y elt te := he _ _ _ _ _ _ pass
  have loop : codeAny (model X.prog X.w) X.A (.compLoop (.ListComp elt [⟨tg, iter, ifs, 0⟩] scope pos) 0 (.ref it) (.ref D) ce) (compEnds (model X.prog X.w) X.A X.xe none (EP X pins σ Q) (.ref D) ce) s4 := by
    refine compLoop_any (fun n s' => ∃ i H', Inv Y [] (wipe σ (own.map (·.2))) H' s' ∧ tn i s'.heap ∧ (∀ b ∈ fp, H' b = none) ∧ V i n H') (fun n s5 ⟨i, H5, I5, st5, n5, w5⟩ => ?_) m0 ⟨0, H3, I4, st4, fun b hb => (f3 b hb).1.1, w0⟩
    rcases turn i n H5 w5 with ⟨stop, qq⟩ | ⟨go, Nx, hNx, step⟩
    · refine thnF (T.done Y rfl rfl rfl hc i [] s5 _ H5 (fun _ _ => False) I5 (stat I5 n5) st5 stop) fun r s6 ⟨hr, I6⟩ => ?_
      subst hr
      obtain ⟨I7, ⟨m, hn⟩, p0, p1, p2, p3, p4, p5⟩ := back I6
      exact ⟨m, hn, fun h'' sb => ⟨.ref D, H5, I7.turned (t' := s6.toks) (fun b o hb e => (sb.2 b hb).trans e) p0 p1 p3 p4 p5, rfl, qq⟩⟩
    · refine thnF (T.item Y rfl rfl rfl hc i [] s5 _ H5 (fun _ _ => False) I5 (stat I5 n5) st5 go) fun r s6 ⟨u, hr, h6⟩ => ?_
      subst hr
      refine thnF h6 fun _ s7 ⟨x, H7, I7, r7, y7, st7, n7⟩ => ?_
      have P7 := I7.pinned (stat I7 n7) (T.obj _ _ st7)
      refine thn (pg.run _ s7 _ H7 x u _ P7 r7 (step x H7 y7)) fun _ s8 ⟨σ8, H8, I8, hw, q8⟩ => ?_
      refine thn (pt.run _ s8 σ8 H8 _ I8 q8) fun b s9 ⟨H9, I9, q9⟩ => ?_
      have next : ∀ {s' : Shared} {H' : Hp}, Inv Y ([] ++ pinsAt fp s7.heap) σ8 H' s' → Nx H' → ∃ m, m < n ∧ ∃ i H', Inv Y [] (wipe σ (own.map (·.2))) H' s' ∧ tn i s'.heap ∧ (∀ b ∈ fp, H' b = none) ∧ V i m H' := fun {s' H'} J nx => by
        obtain ⟨m', hm, v'⟩ := hNx H' nx
        have at_ : ∀ b ∈ fp, ∀ o, s7.heap.get? b = some o → s'.heap.get? b = some o ∧ H' b = none := fun b hb o e => by
          obtain ⟨k1, k2, _⟩ := J.pin (b, o) (List.mem_append_right _ (List.mem_append_right _ (mem_pinsAt hb e)))
          exact ⟨k1, k2⟩
        refine ⟨m', hm, i + 1, H', (J.unpinned (pins := [])).weak (by rw [← hw, wipe_length]) (fun j v e => ?_), T.keep _ _ _ st7 fun b hb o e => (at_ b hb o e).1, fun b hb => ?_, v'⟩
        · rw [← hw] at e
          exact (wipe_some e).1
        · obtain ⟨o, e, _⟩ := T.obj _ _ st7 b hb
          exact (at_ b hb o e).2
      cases b with
      | false => exact next I9 q9
      | true =>
        refine thn (pe.run _ s9 σ8 H9 _ I9 q9) fun z s10 ⟨y, H10, I10, r10, acc, hD10, hz10, nx⟩ => ?_
        exact app_ok (X := Y) I10 hD10 hz10 r10 fun s11 I11 => next I11 nx
  exact codeAny_compStart_list loop (T.self X.A 0 _ _ _ st4 loop)
theorem pe_lcR {X : Cx} {W : WX} {E : XK} {elt tg iter : Expr} {ifs : List Expr} {scope : Scope} {own : List (Str × Nat)} {pos : Pos} {wi : TI} {g : TG} {tt : TT} {te : TE}
    (hs : X.stack = X.env :: X.outer) (hf : X.env.frame = some X.env.locals) (tk : Takes X W) (hE : ∀ σ cls d H', E cls d H' → W cls d σ H') (hc : X.calm = true) (hN : X.N.Nodup) (hi : PI X tg iter wi) (ok : BlkOk X.N X.env.scope scope own)
    (hg : ∀ (s : Shared) (H : Hp) (C : Addr) (cl : List (Str × Addr)) (fp : List Addr) (xe : Value → Shared → Prop), PG (blkR X s H scope (compEnvC scope cl C X.env) fp xe) tg g)
    (ht : ∀ (s : Shared) (H : Hp) (C : Addr) (cl : List (Str × Addr)) (fp : List Addr) (xe : Value → Shared → Prop), PTs (blkR X s H scope (compEnvC scope cl C X.env) fp xe) ifs tt)
    (he : ∀ (s : Shared) (H : Hp) (C : Addr) (cl : List (Str × Addr)) (fp : List Addr) (xe : Value → Shared → Prop), Passes (L2.CX X.prog X.w) (blkR X s H scope (compEnvC scope cl C X.env) fp xe) E → PE (blkR X s H scope (compEnvC scope cl C X.env) fp xe) elt te)
    (hfo : ∀ x, foldedSetIterable iter X.env x = pure x := by intro _; rfl) :
    PE X (.ListComp elt [⟨tg, iter, ifs, 0⟩] scope pos) (tLc wi g tt te (own.map (·.2))) := ⟨fun pins s σ H Q I h => lcR_run hs hf tk (hE σ) hc hN hi ok hg ht he hfo I h⟩
/-- the same where what a raise is to meet hangs on the slots (within a try) -/
theorem pe_lcRS {X : Cx} {W : WX} {elt tg iter : Expr} {ifs : List Expr} {scope : Scope} {own : List (Str × Nat)} {pos : Pos} {wi : TI} {g : TG} {tt : TT} {te : XK → TE}
    (hs : X.stack = X.env :: X.outer) (hf : X.env.frame = some X.env.locals) (tk : Takes X W) (hc : X.calm = true) (hN : X.N.Nodup) (hi : PI X tg iter wi) (ok : BlkOk X.N X.env.scope scope own)
    (hg : ∀ (s : Shared) (H : Hp) (C : Addr) (cl : List (Str × Addr)) (fp : List Addr) (xe : Value → Shared → Prop), PG (blkR X s H scope (compEnvC scope cl C X.env) fp xe) tg g)
    (ht : ∀ (s : Shared) (H : Hp) (C : Addr) (cl : List (Str × Addr)) (fp : List Addr) (xe : Value → Shared → Prop), PTs (blkR X s H scope (compEnvC scope cl C X.env) fp xe) ifs tt)
    (he : ∀ (E : XK) (s : Shared) (H : Hp) (C : Addr) (cl : List (Str × Addr)) (fp : List Addr) (xe : Value → Shared → Prop), Passes (L2.CX X.prog X.w) (blkR X s H scope (compEnvC scope cl C X.env) fp xe) E → PE (blkR X s H scope (compEnvC scope cl C X.env) fp xe) elt (te E))
    (hfo : ∀ x, foldedSetIterable iter X.env x = pure x := by intro _; rfl) :
    PE X (.ListComp elt [⟨tg, iter, ifs, 0⟩] scope pos) (fun σ H Q => tLc wi g tt (te (WE W σ)) (own.map (·.2)) σ H Q) := ⟨fun pins s σ H Q I h => lcR_run hs hf tk (fun _ _ _ h => h) hc hN hi ok hg ht (he _) hfo I h⟩
end RComp

set_option Elab.async false
set_option linter.all false
set_option maxRecDepth 100000
set_option maxHeartbeats 4000000
/-! A list comprehension whose element may raise by a call. -/
namespace RCompN
open PySem PySem.Spec PyProof.Rows L2
section
variable {X : Cx} {pins : List (Addr × Obj)} {σ : L2.St} {H : Hp} {s : Shared}
/-- one more object is said to stay -/
theorem inv_pn {c : Addr × Obj} (I : Inv X pins σ H s) (hc : s.heap.get? c.1 = some c.2 ∧ H c.1 = none ∧ c.1 ≠ X.env.locals ∧ c.1 ∉ X.fs ∧ ∀ v, c.2.data ≠ .cell v) : Inv { X with pn := c :: X.pn } pins σ H s := by
  have o := I.ok
  refine ⟨⟨o.mod, o.kind, o.glob, o.blt, o.above, o.inj, o.has, o.cab, o.hd, o.frames, o.stk, o.exf, o.bs, o.bsz, o.noex, o.exfs, o.funs, o.frf⟩, I.os, I.bare, I.base, I.loc, I.cell, I.free, I.freeC, fun p hp => ?_, I.hok, I.len⟩
  rcases List.mem_append.mp hp with h | h
  · rcases List.mem_cons.mp h with h | h
    · rw [h]
      exact hc
    · exact I.pin p (List.mem_append_left _ h)
  · exact I.pin p (List.mem_append_right _ h)
theorem inv_pn_back {c : Addr × Obj} (I : Inv { X with pn := c :: X.pn } pins σ H s) : Inv X [] σ H s ∧ (s.heap.get? c.1 = some c.2 ∧ H c.1 = none ∧ c.1 ≠ X.env.locals ∧ c.1 ∉ X.fs) := by
  have o := I.ok
  refine ⟨⟨⟨o.mod, o.kind, o.glob, o.blt, o.above, o.inj, o.has, o.cab, o.hd, o.frames, o.stk, o.exf, o.bs, o.bsz, o.noex, o.exfs, o.funs, o.frf⟩, I.os, I.bare, I.base, I.loc, I.cell, I.free, I.freeC, fun p hp => ?_, I.hok, I.len⟩, ?_⟩
  · rw [List.append_nil] at hp
    exact I.pin p (List.mem_append_left _ (List.mem_cons_of_mem _ hp))
  · obtain ⟨h1, h2, h3, h4, _⟩ := I.pin c (List.mem_append_left _ List.mem_cons_self)
    exact ⟨h1, h2, h3, h4⟩
end
section
variable {B h : Heap} {l : List Env} {a C L : Addr} {Z : Obj → Prop}
theorem hide_none {b : Addr} (e : B.get? b = none) : (PySem.W.hideAll B [C]).get? b = none := by
  cases q : (PySem.W.hideAll B [C]).get? b with
  | none => rfl
  | some o =>
    have z := PySem.W.of_hideAll _ q
    rw [e] at z
    cases z
theorem frames_hide (f : h.FunFrames B l) : h.FunFrames (PySem.W.hideAll B [C]) l := funFrames_none f fun b hb => hide_none (f.mem hb).1
theorem traced_hide {v : Value} (t : HandSPX.TracedZ h B a Z v) : HandSPX.TracedZ h (PySem.W.hideAll B [C]) a Z v := by
  obtain ⟨oe, vs, T, oT, ts, he, hz, hd, h1, hn, r⟩ := t
  exact ⟨oe, vs, T, oT, ts, he, hz, hd, h1, hide_none hn, r⟩
theorem sky_hide (x : Sky B l a Z L h) : Sky (PySem.W.hideAll B [C]) l a Z L h := by
  rcases x with ⟨h1, h2, h3, r⟩ | ⟨h1, h2, h3, r⟩ | ⟨h1, h2, h3, r⟩
  · exact .inl ⟨fun b o e => h1 b o (PySem.W.of_hideAll _ e), hide_none h2, frames_hide h3, r⟩
  · exact .inr (.inl ⟨fun b o e => h1 b o (PySem.W.of_hideAll _ e), hide_none h2, frames_hide h3, traced_hide r⟩)
  · exact .inr (.inr ⟨fun b o e => h1 b o (PySem.W.of_hideAll _ e), hide_none h2, frames_hide h3, traced_hide r⟩)
theorem traced_but {h' : Heap} {v : Value} {m : Str → Option Value} (t : HandSPX.TracedZ h B a Z v) (hn : h.Ns C m) (hs : Heap.SameBut C h h') : HandSPX.TracedZ h' B a Z v := by
  obtain ⟨oe, vs, T, oT, ts, he, hz, hd, h1, hn0, hTe, hT, hdT, h3⟩ := t
  obtain ⟨oC, es, ep, hoC, hdC, _⟩ := hn
  have n1 : a ≠ C := fun z => by
    rw [z, hoC] at he
    cases he
    rw [hd] at hdC
    cases hdC
  have n2 : T ≠ C := fun z => by
    rw [z, hoC] at hT
    cases hT
    rw [hdT] at hdC
    cases hdC
  exact ⟨oe, vs, T, oT, ts, (hs.2 a n1).trans he, hz, hd, h1, hn0, hTe, (hs.2 T n2).trans hT, hdT, h3⟩
end
/-- an exception out of a call in the block goes on in the def's own frame -/
theorem flies {X : Cx} {W : WX} {E : XK} {pins : List (Addr × Obj)} {σ : L2.St} {H : Hp} {s s' : Shared} {ce : Env} {u : Value} {m : Str → Option Value}
    (hs : X.stack = X.env :: X.outer) (hf : X.env.frame = some X.env.locals) (hcf : ce.frame = X.env.frame) (tk : L2N.Takes X W) (hE : ∀ cls d H', E cls d H' → W cls d σ H') (I : Inv X pins σ H s) (hn : s.heap.Ns ce.locals m) (f : FpOk X pins H ce.locals)
    (c : L2N.CX X.prog X.w X.stack H s E u s') : notedBy (model X.prog X.w) X.A ce (CompFails (model X.prog X.w) X.A X.xe ce) u s' := by
  obtain ⟨f1, f2, f3, f4, f5, f6⟩ := f
  obtain ⟨oC, es, ep, hoC, hdC, hnC⟩ := id hn
  have I' := inv_pn (c := (ce.locals, oC)) I ⟨hoC, f1, f2, f3, fun v e => by rw [hdC] at e; cases e⟩
  obtain ⟨a, B, sI, pins2, σ2, H2, cls, d, rfl, I2, nb, up, sky, na, os, ag, w⟩ := L2N.XE.of_call I' hE c
  obtain ⟨I3, k1, k2, k3, k4⟩ := inv_pn_back I2
  have nF : ce.locals ∉ frs X.stack := fun z => by
    rw [hs] at z
    rcases List.mem_filterMap.mp z with ⟨e, he, q⟩
    rcases List.mem_cons.mp he with r | r
    · rw [r, hf] at q
      exact f2 (Option.some.inj q).symm
    · exact f3 (List.mem_filterMap.mpr ⟨e, r, q⟩)
  have hBC : B.get? ce.locals = some oC := nb _ _ k1 nF
  -- without the block
  have sky' : Sky (PySem.W.hideAll B [ce.locals]) X.stack a (L2N.Zn cls d) X.env.locals s'.heap := sky_hide sky
  have stB : B.StaysIn s'.heap := by
    rcases sky with ⟨h1, _⟩ | ⟨h1, _⟩ | ⟨h1, _⟩ <;> exact h1
  have hn1 : s'.heap.Ns ce.locals m := ⟨oC, es, ep, stB _ _ hBC, hdC, hnC⟩
  have I4 : Inv X [] σ2 H2 { sI with heap := PySem.W.hideAll sI.heap [ce.locals] } := I3.turned (t' := sI.toks) (fun b o ne e => PySem.W.hideAll_get _ e (by simpa using ne)) k2 f2 f4 f5 fun p hp => f6 p (by rw [List.append_nil] at hp; exact List.mem_append_left _ hp)
  have hC0 : (PySem.W.hideAll sI.heap [ce.locals]).get? ce.locals = none := PySem.W.hideAll_none _ List.mem_cons_self
  have hfr : X.A.frames = some (X.env :: X.outer) := by rw [I3.ok.frames, hs]
  rw [hs] at sky'
  -- the raise goes on
  have go : ∀ h1, HandSPX.HeldZ (PySem.W.hideAll B [ce.locals]) (X.env :: X.outer) a (L2N.Zn cls d) X.env.locals h1 → s'.heap.UpToSlots h1 → CompFails (model X.prog X.w) X.A X.xe ce (.ref a) { s' with heap := h1 } := fun h1 hh up1 => by
    have hn2 : h1.Ns ce.locals m := hn1.upToSlots up1
    refine ⟨m, hn2, fun h2 m2 hn3 sb => ?_⟩
    obtain ⟨b1, b0, fr1, t1⟩ := hh
    have b2 : (PySem.W.hideAll B [ce.locals]).StaysIn h2 := fun b o e => by
      have ne : b ≠ ce.locals := fun z => by
        rw [z, PySem.W.hideAll_none _ List.mem_cons_self] at e
        cases e
      exact (sb.2 b ne).trans (b1 b o e)
    have hh2 : HandSPX.HeldZ (PySem.W.hideAll B [ce.locals]) (X.env :: X.outer) a (L2N.Zn cls d) X.env.locals h2 := ⟨b2, b0, Heap.FunFrames.sameBut sb hn3 fr1, traced_but t1 hn2 sb⟩
    obtain ⟨oe, vs, T, oT, ts, he, hz, hd, h1', r⟩ := id hh2.2.2.2
    unfold PySem.passOn
    refine wpAny_bind (wpAny_field he hd h1' ?_)
    rw [if_neg (show ¬ ((Value.ref T == Value.none) = true) from by simp), hcf, hf]
    refine wpAny_bind (HandSPX.setFlight_onZ hh2 fun h3 hh3 up3 => ?_)
    refine wpAny_throw (tk _ _ ⟨a, PySem.W.hideAll B [ce.locals], _, [], σ2, H2, cls, d, rfl, I4, fun b o e hb => ?_, fun b o e hnf => ?_, .inr (.inr (by rw [hs]; exact hh3)), na, os, ag, w⟩)
    · have ne : b ≠ ce.locals := fun z => by
        have e : (PySem.W.hideAll sI.heap [ce.locals]).get? b = some o := e
        rw [z, hC0] at e
        cases e
      exact PySem.W.hideAll_get _ (nb b o (PySem.W.of_hideAll _ e) hb) (by simpa using ne)
    · have e : (PySem.W.hideAll sI.heap [ce.locals]).get? b = some o := e
      have ne : b ≠ ce.locals := fun z => by
        rw [z, hC0] at e
        cases e
      obtain ⟨sl, q⟩ := up b o (PySem.W.of_hideAll _ e) hnf
      obtain ⟨sl2, q2⟩ := up1 b _ q hnf
      have q3 := (sb.2 b ne).trans q2
      obtain ⟨sl3, q4⟩ := up3 b _ q3 hnf
      exact ⟨sl3, q4⟩
  show wpAny _ _ (noteFrame (.ref a) ce) _ _ s'
  rw [noteFrame_env _ hcf]
  rcases sky' with ⟨hB, hn0, hl, oe, vs, he, hz, hd, h1⟩ | fl | hh
  · exact PXN.look_newZ L2N.Zn.steady hfr hl hf he hB hn0 hd h1 hz go
  · exact PXN.looks_onZ L2N.Zn.steady hfr hf fl go
  · exact HandSPX.againZ hf hh.2.2.2 (go s'.heap hh (Heap.UpToSlots.refl _))
/-- tuple(x)'s reading, K said -/
def rTupOf (K : PySem.W.Frag) : List V → Hp → VK → Prop := fun xs H Q => ∃ p ys, xs = [V.ref p] ∧ ((SqL K H p ys ∧ ∀ l, H l = none → Q (V.ref l) (upd H l (.tup ys))) ∨ (SqT K H p ys ∧ Q (V.ref p) H))
/-- the block's context, where a raise goes on -/
abbrev blkR (X : Cx) (s : Shared) (H : Hp) (scope : Scope) (ce : Env) (fp : List Addr) (xe : Value → Shared → Prop) : Cx := { X.blk s H scope ce fp with xe := xe }
theorem inv_xe {X : Cx} {pins : List (Addr × Obj)} {σ : L2.St} {H : Hp} {s : Shared} {xe : Value → Shared → Prop} (I : Inv X pins σ H s) : Inv { X with xe := xe } pins σ H s := by
  have o := I.ok
  exact ⟨⟨o.mod, o.kind, o.glob, o.blt, o.above, o.inj, o.has, o.cab, o.hd, o.frames, o.stk, o.exf, o.bs, o.bsz, o.noex, o.exfs, o.funs, o.frf⟩, I.os, I.bare, I.base, I.loc, I.cell, I.free, I.freeC, I.pin, I.hok, I.len⟩
theorem lcR_run {pins : List (Addr × Obj)} {σ : L2.St} {H : Hp} {s : Shared} {Q : VK} {X : Cx} {W : WX} {E : XK} {elt tg iter : Expr} {ifs : List Expr} {scope : Scope} {own : List (Str × Nat)} {pos : Pos} {wi : TI} {g : TG} {tt : TT} {te : TE}
    (hs : X.stack = X.env :: X.outer) (hf : X.env.frame = some X.env.locals) (tk : L2N.Takes X W) (hE : ∀ cls d H', E cls d H' → W cls d σ H') (hc : X.calm = true) (hN : X.N.Nodup) (hi : PI X tg iter wi) (ok : BlkOk X.N X.env.scope scope own)
    (hg : ∀ (s : Shared) (H : Hp) (C : Addr) (cl : List (Str × Addr)) (fp : List Addr) (xe : Value → Shared → Prop), PG (blkR X s H scope (compEnvC scope cl C X.env) fp xe) tg g)
    (ht : ∀ (s : Shared) (H : Hp) (C : Addr) (cl : List (Str × Addr)) (fp : List Addr) (xe : Value → Shared → Prop), PTs (blkR X s H scope (compEnvC scope cl C X.env) fp xe) ifs tt)
    (he : ∀ (s : Shared) (H : Hp) (C : Addr) (cl : List (Str × Addr)) (fp : List Addr) (xe : Value → Shared → Prop), Passes (L2N.CX X.prog X.w) (blkR X s H scope (compEnvC scope cl C X.env) fp xe) E → PE (blkR X s H scope (compEnvC scope cl C X.env) fp xe) elt te)
    (hfo : ∀ x, foldedSetIterable iter X.env x = pure x)
    (I : Inv X pins σ H s) (h : tLc wi g tt te (own.map (·.2)) σ H Q) : wpAny (model X.prog X.w) X.A (eval (.ListComp elt [⟨tg, iter, ifs, 0⟩] scope pos) X.env) (EP X pins σ Q) X.xe s := by
  rw [eval_ListComp]
  have hfree : ∀ y ∈ scope.names, y.2 = .free → ∃ c, X.env.cells.lookup y.1 = some c := fun y hy e => (ok.free y hy e).elim (fun k => I.ok.has _ (.inl k)) fun k => I.ok.has _ (.inr k)
  refine comprehension_at (use := none) rfl hfo (closure_ok hfree) ok.kind (fun y hy e => by rw [ok.uniq y hy, e]) (thn (hi.run pins s σ H _ I h) fun xv s1 hx => thn hx fun itv s2 h2 => ?_)
  obtain ⟨it, fp, tn, J, H2, rfl, I2, T, st2, f2, q⟩ := h2
  refine wpAny_newObj_type (newEnv_comp ?_) (by show 0 ≤ sizeLine; decide)
  have hDn : H2 s2.heap.objs.size = none := I2.hok.fresh (Nat.le_refl _)
  obtain ⟨V, ⟨m0, w0⟩, turn⟩ := q _ hDn
  generalize hD : s2.heap.objs.size = D at *
  let s3 : Shared := { s2 with heap := s2.heap.push { cls := .type "list", data := .seq ([] : List Value).toArray } }
  let H3 : Hp := upd H2 D (.lst [])
  have I3 : Inv X pins σ H3 s3 := I2.laid (t' := s2.toks) (fun b o e => Heap.get?_push_of_some _ e) (Nat.le_of_eq hD) ⟨Nat.zero_le _, [], 0, .nil, by rw [← hD]; exact Heap.get?_push_size _ rfl⟩
  have sz : ∀ b ∈ fp, b < s2.heap.objs.size := fun b hb => by
    obtain ⟨o, e, _⟩ := T.obj _ _ st2 b hb
    exact Heap.lt_size e
  have f3 : ∀ b ∈ fp, FpOk X pins H3 b ∧ b < s3.heap.objs.size := fun b hb => by
    have lt := sz b hb
    refine ⟨⟨?_, (f2 b hb).2⟩, by show b < (s2.heap.push _).objs.size; rw [Heap.size_push]; exact Nat.lt_succ_of_lt lt⟩
    show upd H2 D _ b = none
    rw [upd_ne (by rw [← hD]; exact Nat.ne_of_lt lt)]
    exact (f2 b hb).1
  let ce : Env := compEnvC scope (cellsFrom (s3.heap.objs.size + 1) scope.names (cloFrom X.env.cells scope.names [])) s3.heap.objs.size X.env
  let Y : Cx := blkR X s3 H3 scope ce fp (notedBy (model X.prog X.w) X.A ce (CompFails (model X.prog X.w) X.A X.xe ce))
  have back : ∀ {pins' : List (Addr × Obj)} {σ' : L2.St} {H' : Hp} {s' : Shared}, Inv Y pins' σ' H' s' → Inv X pins σ H' s' ∧ (∃ m, s'.heap.Ns ce.locals m) ∧ FpOk X pins H' ce.locals := fun {pins' σ' H' s'} I6 => by
    refine ⟨I3.call' (ch := fp) I6.os I6.base I6.hok I6.bare fun b hb => ⟨(f3 b hb).1.2.2.2.1, (f3 b hb).1.2.1, (f3 b hb).1.2.2.2.2.1, (f3 b hb).1.2.2.2.2.2⟩, ?_, I3.fpOk (Nat.le_refl _) I6.free⟩
    obtain ⟨m, hn, _⟩ := I6.loc
    exact ⟨m, hn⟩
  have pass : Passes (L2N.CX X.prog X.w) Y E := fun pins' σ' H' s' e s'' I6 c => by
    obtain ⟨I7, ⟨m, hn⟩, fo⟩ := back I6
    exact flies hs hf rfl tk hE I7 hn fo c
  let s4 : Shared := { s3 with heap := pushCells (s3.heap.push { cls := .type "dict", data := .dict #[] }) scope.names }
  have I4 : Inv Y [] (wipe σ (own.map (·.2))) H3 s4 := inv_xe (block_start I3 ok hN f3)
  have st3 : tn 0 s3.heap := T.keep _ _ _ st2 fun b _ o e => Heap.get?_push_of_some _ e
  have st4 : tn 0 s4.heap := T.keep _ _ _ st3 fun b _ o e => pushCells_keeps _ _ _ _ (Heap.get?_push_of_some _ e)
  have stat : ∀ {σ' : L2.St} {H' : Hp} {s' : Shared}, Inv Y [] σ' H' s' → (∀ b ∈ fp, H' b = none) → ∀ b ∈ fp, FpOk Y [] H' b := fun I' hn b hb => ⟨hn b hb, (I'.ok.exf b hb).1, I'.ok.exfs b hb, .inl hb, fun x c e => (I'.ok.exf b hb).2 x c e, fun p hp => nomatch (show p ∈ ([] : List (Addr × Obj)) from hp)⟩
  have pg : PG Y tg g := hg _ _ _ _ _ _
  have pt : PTs Y ifs tt := ht _ _ _ _ _ _
  have pe : PE Y elt te := he _ _ _ _ _ _ pass
  have loop : codeAny (model X.prog X.w) X.A (.compLoop (.ListComp elt [⟨tg, iter, ifs, 0⟩] scope pos) 0 (.ref it) (.ref D) ce) (compEnds (model X.prog X.w) X.A X.xe none (EP X pins σ Q) (.ref D) ce) s4 := by
    refine compLoop_any (fun n s' => ∃ i H', Inv Y [] (wipe σ (own.map (·.2))) H' s' ∧ tn i s'.heap ∧ (∀ b ∈ fp, H' b = none) ∧ V i n H') (fun n s5 ⟨i, H5, I5, st5, n5, w5⟩ => ?_) m0 ⟨0, H3, I4, st4, fun b hb => (f3 b hb).1.1, w0⟩
    rcases turn i n H5 w5 with ⟨stop, qq⟩ | ⟨go, Nx, hNx, step⟩
    · refine thnF (T.done Y rfl rfl rfl hc i [] s5 _ H5 (fun _ _ => False) I5 (stat I5 n5) st5 stop) fun r s6 ⟨hr, I6⟩ => ?_
      subst hr
      obtain ⟨I7, ⟨m, hn⟩, p0, p1, p2, p3, p4, p5⟩ := back I6
      exact ⟨m, hn, fun h'' sb => ⟨.ref D, H5, I7.turned (t' := s6.toks) (fun b o hb e => (sb.2 b hb).trans e) p0 p1 p3 p4 p5, rfl, qq⟩⟩
    · refine thnF (T.item Y rfl rfl rfl hc i [] s5 _ H5 (fun _ _ => False) I5 (stat I5 n5) st5 go) fun r s6 ⟨u, hr, h6⟩ => ?_
      subst hr
      refine thnF h6 fun _ s7 ⟨x, H7, I7, r7, y7, st7, n7⟩ => ?_
      have P7 := I7.pinned (stat I7 n7) (T.obj _ _ st7)
      refine thn (pg.run _ s7 _ H7 x u _ P7 r7 (step x H7 y7)) fun _ s8 ⟨σ8, H8, I8, hw, q8⟩ => ?_
      refine thn (pt.run _ s8 σ8 H8 _ I8 q8) fun b s9 ⟨H9, I9, q9⟩ => ?_
      have next : ∀ {s' : Shared} {H' : Hp}, Inv Y ([] ++ pinsAt fp s7.heap) σ8 H' s' → Nx H' → ∃ m, m < n ∧ ∃ i H', Inv Y [] (wipe σ (own.map (·.2))) H' s' ∧ tn i s'.heap ∧ (∀ b ∈ fp, H' b = none) ∧ V i m H' := fun {s' H'} J nx => by
        obtain ⟨m', hm, v'⟩ := hNx H' nx
        have at_ : ∀ b ∈ fp, ∀ o, s7.heap.get? b = some o → s'.heap.get? b = some o ∧ H' b = none := fun b hb o e => by
          obtain ⟨k1, k2, _⟩ := J.pin (b, o) (List.mem_append_right _ (List.mem_append_right _ (mem_pinsAt hb e)))
          exact ⟨k1, k2⟩
        refine ⟨m', hm, i + 1, H', (J.unpinned (pins := [])).weak (by rw [← hw, wipe_length]) (fun j v e => ?_), T.keep _ _ _ st7 fun b hb o e => (at_ b hb o e).1, fun b hb => ?_, v'⟩
        · rw [← hw] at e
          exact (wipe_some e).1
        · obtain ⟨o, e, _⟩ := T.obj _ _ st7 b hb
          exact (at_ b hb o e).2
      cases b with
      | false => exact next I9 q9
      | true =>
        refine thn (pe.run _ s9 σ8 H9 _ I9 q9) fun z s10 ⟨y, H10, I10, r10, acc, hD10, hz10, nx⟩ => ?_
        exact app_ok (X := Y) I10 hD10 hz10 r10 fun s11 I11 => next I11 nx
  exact codeAny_compStart_list loop (T.self X.A 0 _ _ _ st4 loop)
theorem pe_lcR {X : Cx} {W : WX} {E : XK} {elt tg iter : Expr} {ifs : List Expr} {scope : Scope} {own : List (Str × Nat)} {pos : Pos} {wi : TI} {g : TG} {tt : TT} {te : TE}
    (hs : X.stack = X.env :: X.outer) (hf : X.env.frame = some X.env.locals) (tk : L2N.Takes X W) (hE : ∀ σ cls d H', E cls d H' → W cls d σ H') (hc : X.calm = true) (hN : X.N.Nodup) (hi : PI X tg iter wi) (ok : BlkOk X.N X.env.scope scope own)
    (hg : ∀ (s : Shared) (H : Hp) (C : Addr) (cl : List (Str × Addr)) (fp : List Addr) (xe : Value → Shared → Prop), PG (blkR X s H scope (compEnvC scope cl C X.env) fp xe) tg g)
    (ht : ∀ (s : Shared) (H : Hp) (C : Addr) (cl : List (Str × Addr)) (fp : List Addr) (xe : Value → Shared → Prop), PTs (blkR X s H scope (compEnvC scope cl C X.env) fp xe) ifs tt)
    (he : ∀ (s : Shared) (H : Hp) (C : Addr) (cl : List (Str × Addr)) (fp : List Addr) (xe : Value → Shared → Prop), Passes (L2N.CX X.prog X.w) (blkR X s H scope (compEnvC scope cl C X.env) fp xe) E → PE (blkR X s H scope (compEnvC scope cl C X.env) fp xe) elt te)
    (hfo : ∀ x, foldedSetIterable iter X.env x = pure x := by intro _; rfl) :
    PE X (.ListComp elt [⟨tg, iter, ifs, 0⟩] scope pos) (tLc wi g tt te (own.map (·.2))) := ⟨fun pins s σ H Q I h => lcR_run hs hf tk (hE σ) hc hN hi ok hg ht he hfo I h⟩
/-- the same where what a raise is to meet hangs on the slots (within a try) -/
theorem pe_lcRS {X : Cx} {W : WX} {elt tg iter : Expr} {ifs : List Expr} {scope : Scope} {own : List (Str × Nat)} {pos : Pos} {wi : TI} {g : TG} {tt : TT} {te : XK → TE}
    (hs : X.stack = X.env :: X.outer) (hf : X.env.frame = some X.env.locals) (tk : L2N.Takes X W) (hc : X.calm = true) (hN : X.N.Nodup) (hi : PI X tg iter wi) (ok : BlkOk X.N X.env.scope scope own)
    (hg : ∀ (s : Shared) (H : Hp) (C : Addr) (cl : List (Str × Addr)) (fp : List Addr) (xe : Value → Shared → Prop), PG (blkR X s H scope (compEnvC scope cl C X.env) fp xe) tg g)
    (ht : ∀ (s : Shared) (H : Hp) (C : Addr) (cl : List (Str × Addr)) (fp : List Addr) (xe : Value → Shared → Prop), PTs (blkR X s H scope (compEnvC scope cl C X.env) fp xe) ifs tt)
    (he : ∀ (E : XK) (s : Shared) (H : Hp) (C : Addr) (cl : List (Str × Addr)) (fp : List Addr) (xe : Value → Shared → Prop), Passes (L2N.CX X.prog X.w) (blkR X s H scope (compEnvC scope cl C X.env) fp xe) E → PE (blkR X s H scope (compEnvC scope cl C X.env) fp xe) elt (te E))
    (hfo : ∀ x, foldedSetIterable iter X.env x = pure x := by intro _; rfl) :
    PE X (.ListComp elt [⟨tg, iter, ifs, 0⟩] scope pos) (fun σ H Q => tLc wi g tt (te (WE W σ)) (own.map (·.2)) σ H Q) := ⟨fun pins s σ H Q I h => lcR_run hs hf tk (fun _ _ _ h => h) hc hN hi ok hg ht (he _) hfo I h⟩
end RCompN

set_option Elab.async false
set_option linter.all false
set_option maxRecDepth 100000
set_option maxHeartbeats 4000000
--%OPEN Cm Pt ND
--%VAR variable {P : Program} {w : World} {K : PySem.W.Frag} {mg : Str → Option Value} {base : Heap} {a : Fds}
namespace K38
open PySem PySem.Spec PyProof.Rows L2 Cm Pt ND
open PySem PySem.Spec PyProof.Rows L2
def topS (i : Nat) : Stmt := PySem.Challenge.pw_portage_k38_whole_any_text_of_a_bundle.main.body.getD i (.Pass ⟨0, 0, 0, 0⟩)
abbrev s_number_in : Stmt := topS 6
abbrev N_number_in : List Str := ["text"]
theorem sc_number_in : FnScope N_number_in ["text"] (defScope s_number_in) := ⟨rfl, rfl, rfl, by decide +kernel, rfl, by decide +kernel, by decide +kernel⟩
abbrev s_process_text : Stmt := topS 8
abbrev N_process_text : List Str := ["process", "number"]
theorem sc_process_text : FnScope N_process_text ["process"] (defScope s_process_text) := ⟨rfl, rfl, rfl, by decide +kernel, rfl, by decide +kernel, by decide +kernel⟩
abbrev s_object_text : Stmt := topS 9
abbrev N_object_text : List Str := ["name"]
theorem sc_object_text : FnScope N_object_text ["name"] (defScope s_object_text) := ⟨rfl, rfl, rfl, by decide +kernel, rfl, by decide +kernel, by decide +kernel⟩
abbrev s_process_in : Stmt := topS 10
abbrev N_process_in : List Str := ["text", "parts", "part"]
theorem sc_process_in : FnScope N_process_in ["text"] (defScope s_process_in) := ⟨rfl, rfl, rfl, by decide +kernel, rfl, by decide +kernel, by decide +kernel⟩
abbrev s_object_in : Stmt := topS 11
abbrev N_object_in : List Str := ["text", "process", "_", "number"]
theorem sc_object_in : FnScope N_object_in ["text"] (defScope s_object_in) := ⟨rfl, rfl, rfl, by decide +kernel, rfl, by decide +kernel, by decide +kernel⟩
abbrev s_is_name : Stmt := topS 16
abbrev N_is_name : List Str := ["text"]
theorem sc_is_name : FnScope N_is_name ["text"] (defScope s_is_name) := ⟨rfl, rfl, rfl, by decide +kernel, rfl, by decide +kernel, by decide +kernel⟩
abbrev s_is_integer : Stmt := topS 17
abbrev N_is_integer : List Str := ["value"]
theorem sc_is_integer : FnScope N_is_integer ["value"] (defScope s_is_integer) := ⟨rfl, rfl, rfl, by decide +kernel, rfl, by decide +kernel, by decide +kernel⟩
abbrev s_is_row : Stmt := topS 20
abbrev N_is_row : List Str := ["value", "many"]
theorem sc_is_row : FnScope N_is_row ["value", "many"] (defScope s_is_row) := ⟨rfl, rfl, rfl, by decide +kernel, rfl, by decide +kernel, by decide +kernel⟩
abbrev s_is_natural : Stmt := topS 21
abbrev N_is_natural : List Str := ["value"]
theorem sc_is_natural : FnScope N_is_natural ["value"] (defScope s_is_natural) := ⟨rfl, rfl, rfl, by decide +kernel, rfl, by decide +kernel, by decide +kernel⟩
abbrev s_is_process_name : Stmt := topS 22
abbrev N_is_process_name : List Str := ["value", "part"]
theorem sc_is_process_name : FnScope N_is_process_name ["value"] (defScope s_is_process_name) := ⟨rfl, rfl, rfl, by decide +kernel, rfl, by decide +kernel, by decide +kernel⟩
abbrev s_is_object_name : Stmt := topS 23
abbrev N_is_object_name : List Str := ["value"]
theorem sc_is_object_name : FnScope N_is_object_name ["value"] (defScope s_is_object_name) := ⟨rfl, rfl, rfl, by decide +kernel, rfl, by decide +kernel, by decide +kernel⟩
abbrev s_is_value : Stmt := topS 24
abbrev N_is_value : List Str := ["value"]
theorem sc_is_value : FnScope N_is_value ["value"] (defScope s_is_value) := ⟨rfl, rfl, rfl, by decide +kernel, rfl, by decide +kernel, by decide +kernel⟩
abbrev s_is_reference : Stmt := topS 25
abbrev N_is_reference : List Str := ["value"]
theorem sc_is_reference : FnScope N_is_reference ["value"] (defScope s_is_reference) := ⟨rfl, rfl, rfl, by decide +kernel, rfl, by decide +kernel, by decide +kernel⟩
abbrev s_value_text : Stmt := topS 27
abbrev N_value_text : List Str := ["value"]
theorem sc_value_text : FnScope N_value_text ["value"] (defScope s_value_text) := ⟨rfl, rfl, rfl, by decide +kernel, rfl, by decide +kernel, by decide +kernel⟩
abbrev s_value_in : Stmt := topS 28
abbrev N_value_in : List Str := ["text"]
theorem sc_value_in : FnScope N_value_in ["text"] (defScope s_value_in) := ⟨rfl, rfl, rfl, by decide +kernel, rfl, by decide +kernel, by decide +kernel⟩
abbrev s_is_bundle : Stmt := topS 33
abbrev N_is_bundle : List Str := ["value", "name", "maker", "fields", "entries", "count", "before", "entry"]
theorem sc_is_bundle : FnScope N_is_bundle ["value"] (defScope s_is_bundle) := ⟨rfl, rfl, rfl, by decide +kernel, rfl, by decide +kernel, by decide +kernel⟩
abbrev s_is_code_name : Stmt := topS 34
abbrev N_is_code_name : List Str := ["value"]
theorem sc_is_code_name : FnScope N_is_code_name ["value"] (defScope s_is_code_name) := ⟨rfl, rfl, rfl, by decide +kernel, rfl, by decide +kernel, by decide +kernel⟩
abbrev s_are_values : Stmt := topS 35
abbrev N_are_values : List Str := ["value", "part"]
theorem sc_are_values : FnScope N_are_values ["value"] (defScope s_are_values) := ⟨rfl, rfl, rfl, by decide +kernel, rfl, by decide +kernel, by decide +kernel⟩
abbrev s_is_entry : Stmt := topS 36
abbrev N_is_entry : List Str := ["value", "process", "depth", "frame", "back", "token", "word"]
theorem sc_is_entry : FnScope N_is_entry ["value"] (defScope s_is_entry) := ⟨rfl, rfl, rfl, by decide +kernel, rfl, by decide +kernel, by decide +kernel⟩
abbrev s_is_frame : Stmt := topS 37
abbrev N_is_frame : List Str := ["value", "operation", "at", "held", "stack"]
theorem sc_is_frame : FnScope N_is_frame ["value"] (defScope s_is_frame) := ⟨rfl, rfl, rfl, by decide +kernel, rfl, by decide +kernel, by decide +kernel⟩
abbrev s_is_back : Stmt := topS 38
abbrev N_is_back : List Str := ["value", "depth"]
theorem sc_is_back : FnScope N_is_back ["value", "depth"] (defScope s_is_back) := ⟨rfl, rfl, rfl, by decide +kernel, rfl, by decide +kernel, by decide +kernel⟩
abbrev s_is_above : Stmt := topS 39
abbrev N_is_above : List Str := ["entry", "before"]
theorem sc_is_above : FnScope N_is_above ["entry", "before"] (defScope s_is_above) := ⟨rfl, rfl, rfl, by decide +kernel, rfl, by decide +kernel, by decide +kernel⟩
abbrev s_bundle_text : Stmt := topS 40
abbrev N_bundle_text : List Str := ["bundle", "name", "maker", "fields", "entries", "count", "head", "entry"]
theorem sc_bundle_text : FnScope N_bundle_text ["bundle"] (defScope s_bundle_text) := ⟨rfl, rfl, rfl, by decide +kernel, rfl, by decide +kernel, by decide +kernel⟩
abbrev s_values_text : Stmt := topS 41
abbrev N_values_text : List Str := ["values", "value"]
theorem sc_values_text : FnScope N_values_text ["values"] (defScope s_values_text) := ⟨rfl, rfl, rfl, by decide +kernel, rfl, by decide +kernel, by decide +kernel⟩
abbrev s_entry_text : Stmt := topS 42
abbrev N_entry_text : List Str := ["entry", "process", "depth", "frame", "back", "token", "word", "operation", "at", "held", "stack", "back_text", "token_text", "word_text"]
theorem sc_entry_text : FnScope N_entry_text ["entry"] (defScope s_entry_text) := ⟨rfl, rfl, rfl, by decide +kernel, rfl, by decide +kernel, by decide +kernel⟩
abbrev s_read_bundle : Stmt := topS 43
abbrev N_read_bundle : List Str := ["text", "lines", "unfinished", "head", "entries", "at", "line", "name", "maker", "fields", "_", "count"]
theorem sc_read_bundle : FnScope N_read_bundle ["text"] (defScope s_read_bundle) := ⟨rfl, rfl, rfl, by decide +kernel, rfl, by decide +kernel, by decide +kernel⟩
abbrev s_read_head : Stmt := topS 44
abbrev N_read_head : List Str := ["line", "words", "bundle"]
theorem sc_read_head : FnScope N_read_head ["line"] (defScope s_read_head) := ⟨rfl, rfl, rfl, by decide +kernel, rfl, by decide +kernel, by decide +kernel⟩
abbrev s_values_in : Stmt := topS 45
abbrev N_values_in : List Str := ["words", "word"]
theorem sc_values_in : FnScope N_values_in ["words"] (defScope s_values_in) := ⟨rfl, rfl, rfl, by decide +kernel, rfl, by decide +kernel, by decide +kernel⟩
abbrev s_read_entry : Stmt := topS 46
abbrev N_read_entry : List Str := ["line", "before", "words", "end", "frame", "back", "entry", "other"]
theorem sc_read_entry : FnScope N_read_entry ["line", "before"] (defScope s_read_entry) := ⟨rfl, rfl, rfl, by decide +kernel, rfl, by decide +kernel, by decide +kernel⟩
abbrev s_token_in : Stmt := topS 47
abbrev N_token_in : List Str := ["text", "news", "_", "forks"]
theorem sc_token_in : FnScope N_token_in ["text"] (defScope s_token_in) := ⟨rfl, rfl, rfl, by decide +kernel, rfl, by decide +kernel, by decide +kernel⟩
abbrev s_fault_in : Stmt := topS 48
abbrev N_fault_in : List Str := ["text"]
theorem sc_fault_in : FnScope N_fault_in ["text"] (defScope s_fault_in) := ⟨rfl, rfl, rfl, by decide +kernel, rfl, by decide +kernel, by decide +kernel⟩
abbrev s_lw_numbers : Stmt := topS 50
abbrev N_lw_numbers : List Str := ["script", "many", "numbers", "k", "cell", "j", "mixed", "base", "last"]
theorem sc_lw_numbers : FnScope N_lw_numbers ["script", "many"] (defScope s_lw_numbers) := ⟨rfl, rfl, rfl, by decide +kernel, rfl, by decide +kernel, by decide +kernel⟩
abbrev s_lw_object : Stmt := topS 51
abbrev N_lw_object : List Str := ["number", "process"]
theorem sc_lw_object : FnScope N_lw_object ["number"] (defScope s_lw_object) := ⟨rfl, rfl, rfl, by decide +kernel, rfl, by decide +kernel, by decide +kernel⟩
abbrev s_lw_value : Stmt := topS 52
abbrev N_lw_value : List Str := ["number", "way"]
theorem sc_lw_value : FnScope N_lw_value ["number"] (defScope s_lw_value) := ⟨rfl, rfl, rfl, by decide +kernel, rfl, by decide +kernel, by decide +kernel⟩
abbrev s_lw_values : Stmt := topS 53
abbrev N_lw_values : List Str := ["numbers", "at", "most", "k"]
theorem sc_lw_values : FnScope N_lw_values ["numbers", "at", "most"] (defScope s_lw_values) := ⟨rfl, rfl, rfl, by decide +kernel, rfl, by decide +kernel, by decide +kernel⟩
abbrev s_lw_entry : Stmt := topS 54
abbrev N_lw_entry : List Str := ["numbers", "at", "number", "process", "k", "depth", "back", "word", "token", "operation", "frame"]
theorem sc_lw_entry : FnScope N_lw_entry ["numbers", "at"] (defScope s_lw_entry) := ⟨rfl, rfl, rfl, by decide +kernel, rfl, by decide +kernel, by decide +kernel⟩
abbrev s_lw_bundle : Stmt := topS 55
abbrev N_lw_bundle : List Str := ["numbers", "at", "entries", "k", "entry", "number", "maker", "order", "rows", "one"]
theorem sc_lw_bundle : FnScope N_lw_bundle ["numbers", "at"] (defScope s_lw_bundle) := ⟨rfl, rfl, rfl, by decide +kernel, rfl, by decide +kernel, by decide +kernel⟩
abbrev s_lw_name_text : Stmt := topS 56
abbrev N_lw_name_text : List Str := ["name", "number"]
theorem sc_lw_name_text : FnScope N_lw_name_text ["name"] (defScope s_lw_name_text) := ⟨rfl, rfl, rfl, by decide +kernel, rfl, by decide +kernel, by decide +kernel⟩
abbrev s_lw_value_text : Stmt := topS 57
abbrev N_lw_value_text : List Str := ["value"]
theorem sc_lw_value_text : FnScope N_lw_value_text ["value"] (defScope s_lw_value_text) := ⟨rfl, rfl, rfl, by decide +kernel, rfl, by decide +kernel, by decide +kernel⟩
abbrev s_lw_text : Stmt := topS 58
abbrev N_lw_text : List Str := ["bundle", "name", "maker", "fields", "entries", "count", "lines", "process", "depth", "frame", "back", "token", "word", "parts", "line", "one"]
theorem sc_lw_text : FnScope N_lw_text ["bundle"] (defScope s_lw_text) := ⟨rfl, rfl, rfl, by decide +kernel, rfl, by decide +kernel, by decide +kernel⟩
abbrev s_lw_changed : Stmt := topS 59
abbrev N_lw_changed : List Str := ["numbers", "at", "text", "way", "place", "sign", "mark", "parts", "one"]
theorem sc_lw_changed : FnScope N_lw_changed ["numbers", "at", "text"] (defScope s_lw_changed) := ⟨rfl, rfl, rfl, by decide +kernel, rfl, by decide +kernel, by decide +kernel⟩
abbrev s_lw_line : Stmt := topS 60
abbrev N_lw_line : List Str := ["text", "bundle", "why"]
theorem sc_lw_line : FnScope N_lw_line ["text"] (defScope s_lw_line) := ⟨rfl, rfl, rfl, by decide +kernel, rfl, by decide +kernel, by decide +kernel⟩
abbrev s_law : Stmt := topS 61
abbrev N_law : List Str := ["script", "numbers", "bundle", "text", "k", "other", "told", "many", "bad", "line"]
theorem sc_law : FnScope N_law ["script"] (defScope s_law) := ⟨rfl, rfl, rfl, by decide +kernel, rfl, by decide +kernel, by decide +kernel⟩
abbrev s_BadForm_init : Stmt := inClass (topS 3) 0
def sup_BadForm : SupI.SupD := ⟨"BadForm", "BadForm.__init__", defArgs s_BadForm_init, defBody s_BadForm_init, defScope s_BadForm_init⟩
def fileP : Str := PySem.Challenge.pw_portage_k38_whole_any_text_of_a_bundle.main.file
abbrev v_WORDS : List He.Dv := [.str "interface", .str "maker", .str "attached", .str "field", .str "op", .str "let", .str "if", .str "else", .str "while", .str "return", .str "print", .str "move", .str "to", .str "fork", .str "nil", .str "self", .str "new", .str "and", .str "or", .str "not", .str "int", .str "start"]
abbrev v_NIL : List He.Dv := [.str "nil"]
abbrev v_FAULTS : List He.Dv := [.str "number", .str "large", .str "nil"]
abbrev v_HEAD_WORDS : List He.Dv := [.str "object", .str "maker", .str "count", .str "fields"]
abbrev v_FRAME_WORDS : List He.Dv := [.str "frame", .str "depth", .str "op", .str "at", .str "back", .str "token", .str "word", .str "locals"]
/-- the function objects that the top has made -/
structure Fds where
  d_number_in : FuncData
  d_process_text : FuncData
  d_object_text : FuncData
  d_process_in : FuncData
  d_object_in : FuncData
  d_is_name : FuncData
  d_is_integer : FuncData
  d_is_row : FuncData
  d_is_natural : FuncData
  d_is_process_name : FuncData
  d_is_object_name : FuncData
  d_is_value : FuncData
  d_is_reference : FuncData
  d_value_text : FuncData
  d_value_in : FuncData
  d_is_bundle : FuncData
  d_is_code_name : FuncData
  d_are_values : FuncData
  d_is_entry : FuncData
  d_is_frame : FuncData
  d_is_back : FuncData
  d_is_above : FuncData
  d_bundle_text : FuncData
  d_values_text : FuncData
  d_entry_text : FuncData
  d_read_bundle : FuncData
  d_read_head : FuncData
  d_values_in : FuncData
  d_read_entry : FuncData
  d_token_in : FuncData
  d_fault_in : FuncData
  d_lw_numbers : FuncData
  d_lw_object : FuncData
  d_lw_value : FuncData
  d_lw_values : FuncData
  d_lw_entry : FuncData
  d_lw_bundle : FuncData
  d_lw_name_text : FuncData
  d_lw_value_text : FuncData
  d_lw_text : FuncData
  d_lw_changed : FuncData
  d_lw_line : FuncData
  d_law : FuncData
/-- what the walks ask of the top -/
structure Txt (K : PySem.W.Frag) (mg : Str → Option Value) (w : World) (a : Fds) : Prop where
  F_number_in : Cm.FnP K "number_in" s_number_in (He.ga K "number_in") a.d_number_in
  b_number_in : Binds K a.d_number_in ["text"] []
  g_number_in : mg "number_in" = some (.ref (He.ga K "number_in"))
  F_process_text : Cm.FnP K "process_text" s_process_text (He.ga K "process_text") a.d_process_text
  b_process_text : Binds K a.d_process_text ["process"] []
  g_process_text : mg "process_text" = some (.ref (He.ga K "process_text"))
  F_object_text : Cm.FnP K "object_text" s_object_text (He.ga K "object_text") a.d_object_text
  b_object_text : Binds K a.d_object_text ["name"] []
  g_object_text : mg "object_text" = some (.ref (He.ga K "object_text"))
  F_process_in : Cm.FnP K "process_in" s_process_in (He.ga K "process_in") a.d_process_in
  b_process_in : Binds K a.d_process_in ["text"] []
  g_process_in : mg "process_in" = some (.ref (He.ga K "process_in"))
  F_object_in : Cm.FnP K "object_in" s_object_in (He.ga K "object_in") a.d_object_in
  b_object_in : Binds K a.d_object_in ["text"] []
  g_object_in : mg "object_in" = some (.ref (He.ga K "object_in"))
  F_is_name : Cm.FnP K "is_name" s_is_name (He.ga K "is_name") a.d_is_name
  b_is_name : Binds K a.d_is_name ["text"] []
  g_is_name : mg "is_name" = some (.ref (He.ga K "is_name"))
  F_is_integer : Cm.FnP K "is_integer" s_is_integer (He.ga K "is_integer") a.d_is_integer
  b_is_integer : Binds K a.d_is_integer ["value"] []
  g_is_integer : mg "is_integer" = some (.ref (He.ga K "is_integer"))
  F_is_row : Cm.FnP K "is_row" s_is_row (He.ga K "is_row") a.d_is_row
  b_is_row : Binds K a.d_is_row ["value", "many"] []
  g_is_row : mg "is_row" = some (.ref (He.ga K "is_row"))
  F_is_natural : Cm.FnP K "is_natural" s_is_natural (He.ga K "is_natural") a.d_is_natural
  b_is_natural : Binds K a.d_is_natural ["value"] []
  g_is_natural : mg "is_natural" = some (.ref (He.ga K "is_natural"))
  F_is_process_name : Cm.FnP K "is_process_name" s_is_process_name (He.ga K "is_process_name") a.d_is_process_name
  b_is_process_name : Binds K a.d_is_process_name ["value"] []
  g_is_process_name : mg "is_process_name" = some (.ref (He.ga K "is_process_name"))
  F_is_object_name : Cm.FnP K "is_object_name" s_is_object_name (He.ga K "is_object_name") a.d_is_object_name
  b_is_object_name : Binds K a.d_is_object_name ["value"] []
  g_is_object_name : mg "is_object_name" = some (.ref (He.ga K "is_object_name"))
  F_is_value : Cm.FnP K "is_value" s_is_value (He.ga K "is_value") a.d_is_value
  b_is_value : Binds K a.d_is_value ["value"] []
  g_is_value : mg "is_value" = some (.ref (He.ga K "is_value"))
  F_is_reference : Cm.FnP K "is_reference" s_is_reference (He.ga K "is_reference") a.d_is_reference
  b_is_reference : Binds K a.d_is_reference ["value"] []
  g_is_reference : mg "is_reference" = some (.ref (He.ga K "is_reference"))
  F_value_text : Cm.FnP K "value_text" s_value_text (He.ga K "value_text") a.d_value_text
  b_value_text : Binds K a.d_value_text ["value"] []
  g_value_text : mg "value_text" = some (.ref (He.ga K "value_text"))
  F_value_in : Cm.FnP K "value_in" s_value_in (He.ga K "value_in") a.d_value_in
  b_value_in : Binds K a.d_value_in ["text"] []
  g_value_in : mg "value_in" = some (.ref (He.ga K "value_in"))
  F_is_bundle : Cm.FnP K "is_bundle" s_is_bundle (He.ga K "is_bundle") a.d_is_bundle
  b_is_bundle : Binds K a.d_is_bundle ["value"] []
  g_is_bundle : mg "is_bundle" = some (.ref (He.ga K "is_bundle"))
  F_is_code_name : Cm.FnP K "_is_code_name" s_is_code_name (He.ga K "_is_code_name") a.d_is_code_name
  b_is_code_name : Binds K a.d_is_code_name ["value"] []
  g_is_code_name : mg "_is_code_name" = some (.ref (He.ga K "_is_code_name"))
  F_are_values : Cm.FnP K "_are_values" s_are_values (He.ga K "_are_values") a.d_are_values
  b_are_values : Binds K a.d_are_values ["value"] []
  g_are_values : mg "_are_values" = some (.ref (He.ga K "_are_values"))
  F_is_entry : Cm.FnP K "_is_entry" s_is_entry (He.ga K "_is_entry") a.d_is_entry
  b_is_entry : Binds K a.d_is_entry ["value"] []
  g_is_entry : mg "_is_entry" = some (.ref (He.ga K "_is_entry"))
  F_is_frame : Cm.FnP K "_is_frame" s_is_frame (He.ga K "_is_frame") a.d_is_frame
  b_is_frame : Binds K a.d_is_frame ["value"] []
  g_is_frame : mg "_is_frame" = some (.ref (He.ga K "_is_frame"))
  F_is_back : Cm.FnP K "_is_back" s_is_back (He.ga K "_is_back") a.d_is_back
  b_is_back : Binds K a.d_is_back ["value", "depth"] []
  g_is_back : mg "_is_back" = some (.ref (He.ga K "_is_back"))
  F_is_above : Cm.FnP K "_is_above" s_is_above (He.ga K "_is_above") a.d_is_above
  b_is_above : Binds K a.d_is_above ["entry", "before"] []
  g_is_above : mg "_is_above" = some (.ref (He.ga K "_is_above"))
  F_bundle_text : Cm.FnP K "bundle_text" s_bundle_text (He.ga K "bundle_text") a.d_bundle_text
  b_bundle_text : Binds K a.d_bundle_text ["bundle"] []
  g_bundle_text : mg "bundle_text" = some (.ref (He.ga K "bundle_text"))
  F_values_text : Cm.FnP K "_values_text" s_values_text (He.ga K "_values_text") a.d_values_text
  b_values_text : Binds K a.d_values_text ["values"] []
  g_values_text : mg "_values_text" = some (.ref (He.ga K "_values_text"))
  F_entry_text : Cm.FnP K "_entry_text" s_entry_text (He.ga K "_entry_text") a.d_entry_text
  b_entry_text : Binds K a.d_entry_text ["entry"] []
  g_entry_text : mg "_entry_text" = some (.ref (He.ga K "_entry_text"))
  F_read_bundle : Cm.FnP K "read_bundle" s_read_bundle (He.ga K "read_bundle") a.d_read_bundle
  b_read_bundle : Binds K a.d_read_bundle ["text"] []
  g_read_bundle : mg "read_bundle" = some (.ref (He.ga K "read_bundle"))
  F_read_head : Cm.FnP K "_read_head" s_read_head (He.ga K "_read_head") a.d_read_head
  b_read_head : Binds K a.d_read_head ["line"] []
  g_read_head : mg "_read_head" = some (.ref (He.ga K "_read_head"))
  F_values_in : Cm.FnP K "_values_in" s_values_in (He.ga K "_values_in") a.d_values_in
  b_values_in : Binds K a.d_values_in ["words"] []
  g_values_in : mg "_values_in" = some (.ref (He.ga K "_values_in"))
  F_read_entry : Cm.FnP K "_read_entry" s_read_entry (He.ga K "_read_entry") a.d_read_entry
  b_read_entry : Binds K a.d_read_entry ["line", "before"] []
  g_read_entry : mg "_read_entry" = some (.ref (He.ga K "_read_entry"))
  F_token_in : Cm.FnP K "_token_in" s_token_in (He.ga K "_token_in") a.d_token_in
  b_token_in : Binds K a.d_token_in ["text"] []
  g_token_in : mg "_token_in" = some (.ref (He.ga K "_token_in"))
  F_fault_in : Cm.FnP K "_fault_in" s_fault_in (He.ga K "_fault_in") a.d_fault_in
  b_fault_in : Binds K a.d_fault_in ["text"] []
  g_fault_in : mg "_fault_in" = some (.ref (He.ga K "_fault_in"))
  F_lw_numbers : Cm.FnP K "_law_numbers" s_lw_numbers (He.ga K "_law_numbers") a.d_lw_numbers
  b_lw_numbers : Binds K a.d_lw_numbers ["script", "many"] []
  g_lw_numbers : mg "_law_numbers" = some (.ref (He.ga K "_law_numbers"))
  F_lw_object : Cm.FnP K "_law_object" s_lw_object (He.ga K "_law_object") a.d_lw_object
  b_lw_object : Binds K a.d_lw_object ["number"] []
  g_lw_object : mg "_law_object" = some (.ref (He.ga K "_law_object"))
  F_lw_value : Cm.FnP K "_law_value" s_lw_value (He.ga K "_law_value") a.d_lw_value
  b_lw_value : Binds K a.d_lw_value ["number"] []
  g_lw_value : mg "_law_value" = some (.ref (He.ga K "_law_value"))
  F_lw_values : Cm.FnP K "_law_values" s_lw_values (He.ga K "_law_values") a.d_lw_values
  b_lw_values : Binds K a.d_lw_values ["numbers", "at", "most"] []
  g_lw_values : mg "_law_values" = some (.ref (He.ga K "_law_values"))
  F_lw_entry : Cm.FnP K "_law_entry" s_lw_entry (He.ga K "_law_entry") a.d_lw_entry
  b_lw_entry : Binds K a.d_lw_entry ["numbers", "at"] []
  g_lw_entry : mg "_law_entry" = some (.ref (He.ga K "_law_entry"))
  F_lw_bundle : Cm.FnP K "_law_bundle" s_lw_bundle (He.ga K "_law_bundle") a.d_lw_bundle
  b_lw_bundle : Binds K a.d_lw_bundle ["numbers", "at"] []
  g_lw_bundle : mg "_law_bundle" = some (.ref (He.ga K "_law_bundle"))
  F_lw_name_text : Cm.FnP K "_law_name_text" s_lw_name_text (He.ga K "_law_name_text") a.d_lw_name_text
  b_lw_name_text : Binds K a.d_lw_name_text ["name"] []
  g_lw_name_text : mg "_law_name_text" = some (.ref (He.ga K "_law_name_text"))
  F_lw_value_text : Cm.FnP K "_law_value_text" s_lw_value_text (He.ga K "_law_value_text") a.d_lw_value_text
  b_lw_value_text : Binds K a.d_lw_value_text ["value"] []
  g_lw_value_text : mg "_law_value_text" = some (.ref (He.ga K "_law_value_text"))
  F_lw_text : Cm.FnP K "_law_text" s_lw_text (He.ga K "_law_text") a.d_lw_text
  b_lw_text : Binds K a.d_lw_text ["bundle"] []
  g_lw_text : mg "_law_text" = some (.ref (He.ga K "_law_text"))
  F_lw_changed : Cm.FnP K "_law_changed" s_lw_changed (He.ga K "_law_changed") a.d_lw_changed
  b_lw_changed : Binds K a.d_lw_changed ["numbers", "at", "text"] []
  g_lw_changed : mg "_law_changed" = some (.ref (He.ga K "_law_changed"))
  F_lw_line : Cm.FnP K "_law_line" s_lw_line (He.ga K "_law_line") a.d_lw_line
  b_lw_line : Binds K a.d_lw_line ["text"] []
  g_lw_line : mg "_law_line" = some (.ref (He.ga K "_law_line"))
  F_law : Cm.FnP K "law" s_law (He.ga K "law") a.d_law
  b_law : Binds K a.d_law ["script"] []
  g_law : mg "law" = some (.ref (He.ga K "law"))
  g_MAX_DIGITS : ∃ t, mg "MAX_DIGITS" = some (.int 13 t)
  g_MAX_NUMBER : ∃ t, mg "MAX_NUMBER" = some (.int 1000000000000 t)
  g_MAX_NAME : ∃ t, mg "MAX_NAME" = some (.int 12 t)
  g_WORDS : mg "WORDS" = some (.ref (He.ga K "WORDS"))
  k_WORDS : ∀ H, SqT K H (He.ga K "WORDS") (v_WORDS.map (He.Dv.v K))
  g_NIL : mg "NIL" = some (.ref (He.ga K "NIL"))
  k_NIL : ∀ H, SqT K H (He.ga K "NIL") (v_NIL.map (He.Dv.v K))
  g_FAULTS : mg "FAULTS" = some (.ref (He.ga K "FAULTS"))
  k_FAULTS : ∀ H, SqT K H (He.ga K "FAULTS") (v_FAULTS.map (He.Dv.v K))
  g_HEAD_WORDS : mg "HEAD_WORDS" = some (.ref (He.ga K "HEAD_WORDS"))
  k_HEAD_WORDS : ∀ H, SqT K H (He.ga K "HEAD_WORDS") (v_HEAD_WORDS.map (He.Dv.v K))
  g_FRAME_WORDS : mg "FRAME_WORDS" = some (.ref (He.ga K "FRAME_WORDS"))
  k_FRAME_WORDS : ∀ H, SqT K H (He.ga K "FRAME_WORDS") (v_FRAME_WORDS.map (He.Dv.v K))
  g_PortError : mg "PortError" = some (.ref (He.ga K "PortError"))
  g_NotAllowed : mg "NotAllowed" = some (.ref (He.ga K "NotAllowed"))
  g_BadForm : mg "BadForm" = some (.ref (He.ga K "BadForm"))
  S_BadForm : SupI.SupF K sup_BadForm fileP
  g_int : mg "int" = none
  g_len : mg "len" = none
  g_tuple : mg "tuple" = none
  g_isinstance : mg "isinstance" = none
  g_bool : mg "bool" = none
  g_all : mg "all" = none
  g_str : mg "str" = none
  g_zip : mg "zip" = none
  g_enumerate : mg "enumerate" = none
  g_range : mg "range" = none
  g_abs : mg "abs" = none
  g_max : mg "max" = none
  g_sorted : mg "sorted" = none
  g_super : mg "super" = none
  l_BadForm : PySem.W.findIn K (.ref (He.ga K "BadForm")) "line" = some none
  e1_ : PySem.W.exmOne K (.ref (He.ga K "NotAllowed")) (.ref (He.ga K "NotAllowed")) = some true
  x_NotAllowed : PySem.W.excIn K (He.ga K "NotAllowed") [.type "ValueError", .type "Exception", .type "BaseException", .type "object"] "ValueError.__new__" = true
  k_NotAllowed : PySem.W.keepIn K (.ref (He.ga K "NotAllowed")) = true
  s_NotAllowed : PySem.W.subIn K (.ref (He.ga K "NotAllowed")) (.type "BaseException") = some true
  t_NotAllowed : PySem.W.typeIn K (.ref (He.ga K "NotAllowed")) = some (.type "type")
  m1_ : PySem.W.findIn K (.ref (He.ga K "BadForm")) "__getattribute__" = some (some (.builtin "BaseException.__getattribute__"))
  m2_ : PySem.W.findIn K (.ref (He.ga K "BadForm")) "__getattr__" = some none
  m4_ : PySem.W.hasDictIn K (He.ga K "BadForm") = true
  m5_ : PySem.W.findIn K (.ref (He.ga K "BadForm")) "__class__" = some (some (.builtin "object.__class__"))
  m6_ : PySem.W.specialIn K (.builtin "object.__class__") "__get__" = some (some (.builtin "getset_descriptor.__get__"))
  m7_ : PySem.W.takesIn K (.builtin "object.__class__") = some true
  m8_ : PySem.W.mroIn K (He.ga K "BadForm") (.type "object") = some true
  s_BadForm : PySem.W.subIn K (.ref (He.ga K "BadForm")) (.type "BaseException") = some true
  e2_ : PySem.W.kitOne K (.ref (He.ga K "BadForm")) (.ref (He.ga K "PortError")) = some true
  e3_ : PySem.W.kitOne K (.ref (He.ga K "BadForm")) (.ref (He.ga K "NotAllowed")) = some false
  e4_ : PySem.W.exmOne K (.ref (He.ga K "BadForm")) (.ref (He.ga K "BadForm")) = some true
variable {P : Program} {w : World} {K : PySem.W.Frag} {mg : Str → Option Value} {base : Heap} {a : Fds}
/-! ### names, values, entries, bundles: what the checks answer -/
abbrev V_WORDS : List V := [.str "interface", .str "maker", .str "attached", .str "field", .str "op", .str "let", .str "if", .str "else", .str "while", .str "return", .str "print", .str "move", .str "to", .str "fork", .str "nil", .str "self", .str "new", .str "and", .str "or", .str "not", .str "int", .str "start"]
def isName (z : Str) : Bool := !(decide (12 < (z.length : Int))) && (!(inV (.str z) V_WORDS) && (Txt.isascii z && (Txt.isalnum z && (match z.cps.toList with | c :: _ => Txt.isalpha ⟨#[c]⟩ | [] => false))))
mutual
def shortD : PyData → Bool
  | .str z => decide (z.length ≤ 20000)
  | .tuple ds => decide (ds.length ≤ 20000) && shortAll ds
  | _ => true
def shortAll : List PyData → Bool
  | [] => true
  | d :: r => shortD d && shortAll r
end
/-- data that may be looked at -/
structure Fit (d : PyData) : Prop where
  s : shortD d = true
  l : d.canLay0 = true
  p : d.depth ≤ 30
theorem fit_all : ∀ {ds : List PyData}, shortAll ds = true → PyData.canLayAll0 ds = true → PyData.depthAll ds ≤ 30 → ∀ x ∈ ds, Fit x
  | y :: r, h1, h2, h3, x, hx => by
    have a1 : shortD y = true ∧ shortAll r = true := Bool.and_eq_true_iff.mp h1
    have a2 : y.canLay0 = true ∧ PyData.canLayAll0 r = true := Bool.and_eq_true_iff.mp (by rw [PyData.canLayAll0] at h2; exact h2)
    have a3 : max y.depth (PyData.depthAll r) ≤ 30 := by rw [PyData.depthAll] at h3; exact h3
    rcases List.mem_cons.mp hx with e | e
    · rw [e]
      exact ⟨a1.1, a2.1, by omega⟩
    · exact fit_all a1.2 a2.2 (by omega) x e
theorem Fit.at_ {ds : List PyData} (f : Fit (.tuple ds)) : ∀ x ∈ ds, Fit x := by
  obtain ⟨h1, h2, h3⟩ := f
  have h1 := (Bool.and_eq_true_iff.mp (show (decide (ds.length ≤ 20000) && shortAll ds) = true from h1)).2
  rw [PyData.canLay0] at h2
  rw [PyData.depth] at h3
  exact fit_all h1 h2 (by omega)
theorem Fit.len {ds : List PyData} (f : Fit (.tuple ds)) : ds.length ≤ 20000 := of_decide_eq_true (Bool.and_eq_true_iff.mp (show (decide (ds.length ≤ 20000) && shortAll ds) = true from f.s)).1
theorem Fit.shaped {d : PyData} (f : Fit d) : SeqAt.shaped d = true := Nst.shaped_of f.l (Nat.le_trans f.p (by decide))
def spP (K : PySem.W.Frag) (f : PyData → Bool) : Sp := fun vs H Q _ => ∃ (v : V) (d : PyData), vs = [v] ∧ Rp K H v d ∧ Fit d ∧ ∀ H', Same H H' → Q (.bl (f d)) H'
def isTupD : PyData → Bool
  | .tuple _ => true
  | _ => false
def isStrD : PyData → Bool
  | .str _ => true
  | _ => false
def isIntD : PyData → Bool
  | .int _ => true
  | _ => false
def isBlD : PyData → Bool
  | .bool _ => true
  | _ => false
theorem tyT {H : Hp} {a : Addr} {xs : List V} (h : SqT K H a xs) : TyX K H (.ref a) (.type "tuple") := by
  rcases h with (h | ⟨o, h⟩) | ⟨o, its, n, e, c, _⟩
  · exact .base (.tup h)
  · exact .fTuple h
  · exact .kTuple e c
theorem isiT {H : Hp} {v : V} {d : PyData} (r : Rp K H v d) : ∃ t, TyX K H v t ∧ PySem.W.kitOne K t (.type "tuple") = some (isTupD d) := by
  cases r with
  | non => exact ⟨_, .base .non, kit_ty (show kitB "NoneType" "tuple" = some false by decide +kernel)⟩
  | bl b => exact ⟨_, .base (.bl b), kit_ty (show kitB "bool" "tuple" = some false by decide +kernel)⟩
  | int i => exact ⟨_, .base (.int i), kit_ty (show kitB "int" "tuple" = some false by decide +kernel)⟩
  | str x => exact ⟨_, .base (.str x), kit_ty (show kitB "str" "tuple" = some false by decide +kernel)⟩
  | tup h1 r => exact ⟨_, tyT h1, kit_ty (show kitB "tuple" "tuple" = some true by decide +kernel)⟩
theorem isiS {H : Hp} {v : V} {d : PyData} (r : Rp K H v d) : ∃ t, TyX K H v t ∧ PySem.W.kitOne K t (.type "str") = some (isStrD d) := by
  cases r with
  | non => exact ⟨_, .base .non, kit_ty (show kitB "NoneType" "str" = some false by decide +kernel)⟩
  | bl b => exact ⟨_, .base (.bl b), kit_ty (show kitB "bool" "str" = some false by decide +kernel)⟩
  | int i => exact ⟨_, .base (.int i), kit_ty (show kitB "int" "str" = some false by decide +kernel)⟩
  | str x => exact ⟨_, .base (.str x), kit_ty (show kitB "str" "str" = some true by decide +kernel)⟩
  | tup h1 r => exact ⟨_, tyT h1, kit_ty (show kitB "tuple" "str" = some false by decide +kernel)⟩
theorem isiI {H : Hp} {v : V} {d : PyData} (r : Rp K H v d) : ∃ t, TyX K H v t ∧ PySem.W.kitOne K t (.type "int") = some (isIntD d || isBlD d) := by
  cases r with
  | non => exact ⟨_, .base .non, kit_ty (show kitB "NoneType" "int" = some false by decide +kernel)⟩
  | bl b => exact ⟨_, .base (.bl b), kit_ty (show kitB "bool" "int" = some true by decide +kernel)⟩
  | int i => exact ⟨_, .base (.int i), kit_ty (show kitB "int" "int" = some true by decide +kernel)⟩
  | str x => exact ⟨_, .base (.str x), kit_ty (show kitB "str" "int" = some false by decide +kernel)⟩
  | tup h1 r => exact ⟨_, tyT h1, kit_ty (show kitB "tuple" "int" = some false by decide +kernel)⟩
theorem isiB {H : Hp} {v : V} {d : PyData} (r : Rp K H v d) : ∃ t, TyX K H v t ∧ PySem.W.kitOne K t (.type "bool") = some (isBlD d) := by
  cases r with
  | non => exact ⟨_, .base .non, kit_ty (show kitB "NoneType" "bool" = some false by decide +kernel)⟩
  | bl b => exact ⟨_, .base (.bl b), kit_ty (show kitB "bool" "bool" = some true by decide +kernel)⟩
  | int i => exact ⟨_, .base (.int i), kit_ty (show kitB "int" "bool" = some false by decide +kernel)⟩
  | str x => exact ⟨_, .base (.str x), kit_ty (show kitB "str" "bool" = some false by decide +kernel)⟩
  | tup h1 r => exact ⟨_, tyT h1, kit_ty (show kitB "tuple" "bool" = some false by decide +kernel)⟩
def spIsName : Sp := fun vs H Q _ => ∃ z : Str, vs = [.str z] ∧ z.length ≤ 20000 ∧ Q (.bl (isName z)) H
theorem ok_is_name (T : Txt K mg w a) : FnOk P w K mg base CX0 1 (He.ga K "is_name") a.d_is_name ["text"] spIsName := by
  refine T.F_is_name.ok sc_is_name (fun vs H Q E h => ?_) (fun cdv A outer s H vs Q E hr h => ?_)
  · obtain ⟨z, rfl, _⟩ := h
    rfl
  · obtain ⟨z, rfl, hz, q⟩ := h
    refine ⟨_, PSs.nox (pss_cons (ps_if (PW.pt (pw_or (pt_cmpR op_gt (pe_callB call_len_str (by rfl) T.g_len boot_len (pa_cons (pv 0) pa_nil)) (pe_glob (v := .int 12) (by rfl) T.g_MAX_NAME.choose_spec ⟨_, rfl⟩) (nomark _)) (pw_or1 (pt_cmpR op_in_seq (pv 0) (pe_glob (v := .ref (He.ga K "WORDS")) (by rfl) T.g_WORDS rfl) (by rfl))))) (pss_one (ps_ret pe_bl)) pss_nil)
      (pss_one (ps_ret (pe_and (pe_bm0 PySem.F.plainAttrs_str PySem.F.slot_str_isascii PySem.F.type_str_isascii mt_isascii (pv 0)) (pe_and (pe_bm0 PySem.F.plainAttrs_str PySem.F.slot_str_isalnum PySem.F.type_str_isalnum mt_isalnum (pv 0)) (pe_one (pe_bm0 PySem.F.plainAttrs_str PySem.F.slot_str_isalpha PySem.F.type_str_isalpha mt_isalpha (pe_ix ix_str (pv 0) pe_int (fun _ _ => rfl))))))))), ?_⟩
    refine ⟨.str z, rfl, z, rfl, Cm.small (by omega), _, _, rfl, rfl, _, rfl, Cm.itD (fun h1 => ?_) fun h1 => ?_⟩
    · have e : isName z = false := by
        unfold isName
        rw [decide_eq_true h1]
        rfl
      rw [e] at q
      exact q
    refine ⟨_, rfl, _, _, rfl, .inr (T.k_WORDS H), rfl, rfl, _, rfl, Cm.itV (fun h2 => ?_) fun h2 => ?_⟩
    · have e : isName z = false := by
        unfold isName
        rw [show inV (.str z) V_WORDS = true from h2]
        simp
      rw [e] at q
      exact q
    have e : isName z = (Txt.isascii z && (Txt.isalnum z && (match z.cps.toList with | c :: _ => Txt.isalpha ⟨#[c]⟩ | [] => false))) := by
      unfold isName
      rw [show inV (.str z) V_WORDS = false from h2, decide_eq_false h1]
      rfl
    rw [e] at q
    refine ⟨_, rfl, rfl, z, rfl, rfl, trivial, _, rfl, ?_⟩
    refine Cm.itB (fun h3 => ?_) fun h3 => ?_
    · rw [h3] at q
      refine ⟨_, rfl, rfl, z, rfl, rfl, trivial, _, rfl, ?_⟩
      refine Cm.itB (fun h4 => ?_) fun h4 => ?_
      · rw [h4] at q
        cases e2 : z.cps.toList with
        | nil =>
          have e3 : z = ⟨#[]⟩ := Cm.str_nil e2
          rw [e3] at h4
          cases h4
        | cons c r =>
          rw [e2] at q
          refine ⟨_, rfl, z, 0, c, rfl, rfl, Cm.small (by omega), ?_, rfl, _, rfl, rfl, trivial, q⟩
          rw [e2]
          exact atI_nat (j := 0) rfl
      · rw [h4] at q
        exact q
    · rw [h3] at q
      exact q
theorem ok_is_integer (T : Txt K mg w a) : FnOk P w K mg base CX0 1 (He.ga K "is_integer") a.d_is_integer ["value"] (spP K isIntD) := by
  refine T.F_is_integer.ok sc_is_integer (fun vs H Q E h => ?_) (fun cdv A outer s H vs Q E hr h => ?_)
  · obtain ⟨v, d, rfl, _⟩ := h
    rfl
  · obtain ⟨v, d, rfl, r, f, q⟩ := h
    refine ⟨_, PSs.nox (pss_one (ps_ret (pe_and (pe_callB call_isi (by rfl) T.g_isinstance boot_isinstance (pa_cons (pv 0) (pa_cons (pe_bltn (v := .ty "int") (by rfl) T.g_int boot_int rfl) pa_nil))) (pe_one (pe_not (pe_callB call_isi (by rfl) T.g_isinstance boot_isinstance (pa_cons (pv 0) (pa_cons (pe_bltn (v := .ty "bool") (by rfl) T.g_bool boot_bool rfl) pa_nil)))))))), ?_⟩
    obtain ⟨t1, h1, k1⟩ := isiI r
    obtain ⟨t2, h2, k2⟩ := isiB r
    have q0 := q H (Same.refl _)
    refine ⟨_, rfl, _, _, _, _, _, rfl, .ty "int", h1, k1, _, rfl, Cm.itB (fun e => ?_) fun e => ?_⟩
    · refine ⟨_, rfl, _, _, _, _, _, rfl, .ty "bool", h2, k2, ?_⟩
      cases d <;> first | exact ⟨_, rfl, q0⟩ | (cases e; done)
    · cases d <;> first | exact q0 | (cases e; done)
def rowD (n : Int) : PyData → Bool
  | .tuple ds => decide ((ds.length : Int) = n)
  | _ => false
def natD : PyData → Bool
  | .int n => decide (0 ≤ n) && decide (n ≤ 1000000000000)
  | _ => false
def procD : PyData → Bool
  | .tuple ds => ds.all natD
  | _ => false
def objD : PyData → Bool
  | .tuple [p, n] => procD p && natD n
  | _ => false
def intIn : PyData → Bool
  | .int n => decide (-1000000000000 ≤ n) && decide (n ≤ 1000000000000)
  | _ => false
def refV : PyData → Bool
  | .tuple [a, b] => PyData.eqv a (.str "ref") && objD b
  | _ => false
def valD (d : PyData) : Bool := if isIntD d = true then intIn d else PyData.eqv d (.tuple [.str "nil"]) || refV d
def codeD : PyData → Bool
  | .str z => decide (z = "start") || isName z
  | _ => false
def valsD : PyData → Bool
  | .tuple ds => ds.all valD
  | _ => false
def spRow (K : PySem.W.Frag) : Sp := fun vs H Q _ => ∃ (v : V) (d : PyData) (n : Int), vs = [v, .int n] ∧ Rp K H v d ∧ Q (.bl (rowD n d)) H
theorem ok_is_row (T : Txt K mg w a) : FnOk P w K mg base CX0 1 (He.ga K "is_row") a.d_is_row ["value", "many"] (spRow K) := by
  refine T.F_is_row.ok sc_is_row (fun vs H Q E h => ?_) (fun cdv A outer s H vs Q E hr h => ?_)
  · obtain ⟨v, d, n, rfl, _⟩ := h
    rfl
  · obtain ⟨v, d, n, rfl, r, q⟩ := h
    refine ⟨_, PSs.nox (pss_one (ps_ret (pe_and (pe_callB call_isi (by rfl) T.g_isinstance boot_isinstance (pa_cons (pv 0) (pa_cons (pe_bltn (v := .ty "tuple") (by rfl) T.g_tuple boot_tuple rfl) pa_nil))) (pe_one (pe_cmpR op_eq (pe_callB call_len_seq (by rfl) T.g_len boot_len (pa_cons (pv 0) pa_nil)) (pv 1) (nomark _)))))), ?_⟩
    obtain ⟨t1, h1, k1⟩ := isiT r
    refine ⟨_, rfl, _, _, _, _, _, rfl, .ty "tuple", h1, k1, _, rfl, Cm.itB (fun e => ?_) fun e => ?_⟩
    · cases r with
      | non => cases e
      | bl b => cases e
      | int i => cases e
      | str x => cases e
      | @tup p xs ds ht rs =>
        refine ⟨_, rfl, p, xs, rfl, .inr ht, _, rfl, rfl, ?_⟩
        rw [Cm.deq_int, rs.len]
        exact q
    · cases r with
      | non => exact q
      | bl b => exact q
      | int i => exact q
      | str x => exact q
      | tup ht rs => cases e
theorem ok_is_natural (T : Txt K mg w a) : FnOk P w K mg base CX0 2 (He.ga K "is_natural") a.d_is_natural ["value"] (spP K natD) := by
  refine T.F_is_natural.ok sc_is_natural (fun vs H Q E h => ?_) (fun cdv A outer s H vs Q E hr h => ?_)
  · obtain ⟨v, d, rfl, _⟩ := h
    rfl
  · obtain ⟨v, d, rfl, r, f, q⟩ := h
    refine ⟨_, PSs.nox (pss_one (ps_ret (pe_and (pe_call (ok_is_integer T) (hr.mono (by omega)) (by rfl) T.g_is_integer T.F_is_integer.kp T.b_is_integer .nil pass0 (pa_cons (pv 0) pa_nil)) (pe_one (pe_chain op_le op_le pe_int (pv 0) (pe_glob (v := .int 1000000000000) (by rfl) T.g_MAX_NUMBER.choose_spec ⟨_, rfl⟩)))))), ?_⟩
    refine ⟨_, rfl, v, d, rfl, r, f, fun H1 s1 => ⟨_, rfl, ?_⟩⟩
    have q1 := q H1 s1
    cases r with
    | non => exact iteF q1
    | bl b => exact iteF q1
    | str x => exact iteF q1
    | tup ht rs => exact iteF q1
    | int i =>
      refine iteT ⟨_, rfl, _, _, rfl, rfl, ?_⟩
      have q2 : Q (.bl (decide (0 ≤ i) && decide (i ≤ 1000000000000))) H1 := q1
      refine ⟨_, rfl, Cm.itD (fun e => ?_) fun e => ?_⟩
      · rw [decide_eq_true e, Bool.true_and] at q2
        exact ⟨_, _, rfl, rfl, q2⟩
      · rw [decide_eq_false e, Bool.false_and] at q2
        exact q2
theorem all_map {f : PyData → Bool} : ∀ {l : List PyData}, (l.map f).all id = l.all f
  | [] => rfl
  | x :: r => by
    show (f x && (r.map f).all id) = (f x && r.all f)
    rw [all_map]
theorem ok_is_process_name (T : Txt K mg w a) : FnOk P w K mg base CX0 3 (He.ga K "is_process_name") a.d_is_process_name ["value"] (spP K procD) := by
  refine T.F_is_process_name.ok sc_is_process_name (fun vs H Q E h => ?_) (fun cdv A outer s H vs Q E hr h => ?_)
  · obtain ⟨v, d, rfl, _⟩ := h
    rfl
  · obtain ⟨v, d, rfl, r, f, q⟩ := h
    refine ⟨_, PSs.nox (pss_one (ps_ret (pe_and (pe_callB call_isi (by rfl) T.g_isinstance boot_isinstance (pa_cons (pv 0) (pa_cons (pe_bltn (v := .ty "tuple") (by rfl) T.g_tuple boot_tuple rfl) pa_nil))) (pe_one (pe_callB (cr_all rfl) (by rfl) T.g_all boot_all (pa_cons (pe_lc (own := [("part", 1)]) (g := gName 1) (tt := tYes)  (by rfl) sc_is_process_name.nd (pi_tup (pv 0)) (blkOk_by (own := [("part", 1)]) (N := N_is_process_name) (sc := defScope s_is_process_name) (by decide +kernel)) (fun _ _ _ _ _ => pg_name (i := 1) sc_is_process_name.nd rfl (Or.inl rfl)) (fun _ _ _ _ _ => pts_nil) (fun _ _ _ _ _ => (pe_call (ok_is_natural T) (hr.mono (by omega)) (by rfl) T.g_is_natural T.F_is_natural.kp T.b_is_natural .nil pass0 (pa_cons (pv 1) pa_nil)))) pa_nil)))))), ?_⟩
    obtain ⟨t1, h1, k1⟩ := isiT r
    refine ⟨_, rfl, _, _, _, _, _, rfl, .ty "tuple", h1, k1, _, rfl, Cm.itB (fun e => ?_) fun e => ?_⟩
    · cases r with
      | non => cases e
      | bl b => cases e
      | int i => cases e
      | str x => cases e
      | @tup p xs ds ht rs =>
        have fa := f.at_
        have fl := f.len
        have hlen := rs.len
        refine ⟨_, rfl, p, rfl, ⟨_, ht⟩, fun D nD => ?_⟩
        refine lc_tup (K := K) (a := p) (xs := xs) (fun j Hj => Same H Hj ∧ ∃ bs : List Bool, Hj D = some (.lst (bs.map V.bl)) ∧ bs = (ds.take j).map natD ∧ bs.length ≤ j) ⟨Cm.same_new nD, [], upd_same, rfl, Nat.le_refl _⟩ (fun j Hj _ b => Cm.sameT b.1 ht) (fun j y Hj hy b => ?_) fun Hj b => ?_
        · obtain ⟨sJ, bs, hD, eb, lb⟩ := b
          refine ⟨rfl, ?_⟩
          have hn : j < ds.length := by
            rw [← hlen]
            exact (List.getElem?_eq_some_iff.mp hy).1
          obtain ⟨y', hy', ry⟩ := rs.at_ (i := j) (d := ds[j]) (List.getElem?_eq_getElem hn)
          rw [hy] at hy'
          cases hy'
          refine ⟨_, rfl, y, ds[j], rfl, ry.keep (Same.tups sJ), fa _ (List.getElem_mem hn), fun H2 s2 => ?_⟩
          refine ⟨_, s2 _ _ hD, Cm.smallL (by rw [List.length_map]; omega), Cm.same_mut (sJ.trans s2) nD, bs ++ [natD ds[j]], ?_, ?_, by rw [List.length_append]; simp only [List.length_cons, List.length_nil]; omega⟩
          · rw [upd_same, List.map_append]
            rfl
          · rw [List.take_succ, List.getElem?_eq_getElem hn, List.map_append, eb]
            rfl
        · obtain ⟨sJ, bs, hD, eb, lb⟩ := b
          rw [hlen, List.take_length] at eb
          refine ⟨D, bs, rfl, SqL.of hD, ?_⟩
          have := q Hj sJ
          rw [eb, all_map]
          exact this
    · cases r with
      | non => exact q H (Same.refl _)
      | bl b => exact q H (Same.refl _)
      | int i => exact q H (Same.refl _)
      | str x => exact q H (Same.refl _)
      | tup ht rs => cases e
theorem rowD_two {d : PyData} (h : rowD 2 d = true) : ∃ x y, d = .tuple [x, y] := by
  cases d with
  | tuple ds =>
    have h' : ((ds.length : Nat) : Int) = 2 := of_decide_eq_true h
    match ds, h' with
    | [x, y], _ => exact ⟨x, y, rfl⟩
    | [], h => cases h
    | [_], h => cases h
    | _ :: _ :: _ :: r, h =>
      simp only [List.length_cons] at h
      omega
  | _ => cases h
theorem objD_no {d : PyData} (h : rowD 2 d = false) : objD d = false := by
  unfold objD
  split
  · cases h
  · rfl
theorem two_inv {H : Hp} {v : V} {x y : PyData} (r : Rp K H v (.tuple [x, y])) : ∃ p v1 v2, v = .ref p ∧ SqT K H p [v1, v2] ∧ Rp K H v1 x ∧ Rp K H v2 y := by
  obtain ⟨p, vs, rfl, ht, rs⟩ := r.tup_inv
  obtain ⟨v1, r1, rfl, w1, rs⟩ := rs.cons_inv
  obtain ⟨v2, r2, rfl, w2, rs⟩ := rs.cons_inv
  obtain rfl := rs.nil_inv
  exact ⟨p, v1, v2, rfl, ht, w1, w2⟩
theorem ok_is_object_name (T : Txt K mg w a) : FnOk P w K mg base CX0 4 (He.ga K "is_object_name") a.d_is_object_name ["value"] (spP K objD) := by
  refine T.F_is_object_name.ok sc_is_object_name (fun vs H Q E h => ?_) (fun cdv A outer s H vs Q E hr h => ?_)
  · obtain ⟨v, d, rfl, _⟩ := h
    rfl
  · obtain ⟨v, d, rfl, r, f, q⟩ := h
    refine ⟨_, PSs.nox (pss_one (ps_ret (pe_and (pe_call (ok_is_row T) (hr.mono (by omega)) (by rfl) T.g_is_row T.F_is_row.kp T.b_is_row .nil pass0 (pa_cons (pv 0) (pa_cons pe_int pa_nil))) (pe_and (pe_call (ok_is_process_name T) (hr.mono (by omega)) (by rfl) T.g_is_process_name T.F_is_process_name.kp T.b_is_process_name .nil pass0 (pa_cons (pe_ix ix_tup (pv 0) pe_int (fun _ _ => rfl)) pa_nil)) (pe_one (pe_call (ok_is_natural T) (hr.mono (by omega)) (by rfl) T.g_is_natural T.F_is_natural.kp T.b_is_natural .nil pass0 (pa_cons (pe_ix ix_tup (pv 0) pe_int (fun _ _ => rfl)) pa_nil))))))), ?_⟩
    refine ⟨_, rfl, v, d, 2, rfl, r, _, rfl, Cm.itB (fun e => ?_) fun e => ?_⟩
    · obtain ⟨x, y, rfl⟩ := rowD_two e
      obtain ⟨p, v1, v2, rfl, ht, r1, r2⟩ := two_inv r
      have fa := f.at_
      refine ⟨_, rfl, p, _, 0, _, rfl, rfl, ht, atI_nat (j := 0) rfl, v1, x, rfl, r1, fa x (by simp), fun H1 s1 => ⟨_, rfl, Cm.itB (fun e2 => ?_) fun e2 => ?_⟩⟩
      · refine ⟨_, rfl, p, _, 1, _, rfl, rfl, Cm.sameT s1 ht, atI_nat (j := 1) rfl, v2, y, rfl, r2.keep (Same.tups s1), fa y (by simp), fun H2 s2 => ?_⟩
        have := q H2 (s1.trans s2)
        rw [show objD (.tuple [x, y]) = natD y from by show (procD x && natD y) = natD y; rw [e2, Bool.true_and]] at this
        exact this
      · have := q H1 s1
        rw [show objD (.tuple [x, y]) = false from by show (procD x && natD y) = false; rw [e2, Bool.false_and]] at this
        exact this
    · have := q H (Same.refl _)
      rw [objD_no e] at this
      exact this
theorem ok_is_code_name (T : Txt K mg w a) : FnOk P w K mg base CX0 2 (He.ga K "_is_code_name") a.d_is_code_name ["value"] (spP K codeD) := by
  refine T.F_is_code_name.ok sc_is_code_name (fun vs H Q E h => ?_) (fun cdv A outer s H vs Q E hr h => ?_)
  · obtain ⟨v, d, rfl, _⟩ := h
    rfl
  · obtain ⟨v, d, rfl, r, f, q⟩ := h
    refine ⟨_, PSs.nox (pss_one (ps_ret (pe_and (pe_callB call_isi (by rfl) T.g_isinstance boot_isinstance (pa_cons (pv 0) (pa_cons (pe_bltn (v := .ty "str") (by rfl) T.g_str boot_str rfl) pa_nil))) (pe_one (pe_or (pe_cmpR op_eq (pv 0) pe_str (nomark _)) (pe_one (pe_call (ok_is_name T) (hr.mono (by omega)) (by rfl) T.g_is_name T.F_is_name.kp T.b_is_name .nil pass0 (pa_cons (pv 0) pa_nil)))))))), ?_⟩
    obtain ⟨t1, h1, k1⟩ := isiS r
    have q0 := q H (Same.refl _)
    refine ⟨_, rfl, _, _, _, _, _, rfl, .ty "str", h1, k1, _, rfl, Cm.itB (fun e => ?_) fun e => ?_⟩
    · cases r with
      | non => cases e
      | bl b => cases e
      | int i => cases e
      | tup ht rs => cases e
      | str z =>
        have q1 : Q (.bl (decide (z = "start") || isName z)) H := q0
        refine ⟨_, rfl, rfl, ?_⟩
        refine ⟨_, rfl, Cm.itES (fun e2 => ?_) fun e2 => ?_⟩
        · rw [decide_eq_true e2, Bool.true_or] at q1
          exact q1
        · rw [decide_eq_false e2, Bool.false_or] at q1
          exact ⟨_, rfl, z, rfl, of_decide_eq_true f.s, q1⟩
    · cases r with
      | non => exact q0
      | bl b => exact q0
      | int i => exact q0
      | str x => cases e
      | tup ht rs => exact q0
theorem ok_is_value (T : Txt K mg w a) : FnOk P w K mg base CX0 5 (He.ga K "is_value") a.d_is_value ["value"] (spP K valD) := by
  refine T.F_is_value.ok sc_is_value (fun vs H Q E h => ?_) (fun cdv A outer s H vs Q E hr h => ?_)
  · obtain ⟨v, d, rfl, _⟩ := h
    rfl
  · obtain ⟨v, d, rfl, r, f, q⟩ := h
    refine ⟨_, PSs.nox (pss_cons (ps_if (pt_val (pe_call (ok_is_integer T) (hr.mono (by omega)) (by rfl) T.g_is_integer T.F_is_integer.kp T.b_is_integer .nil pass0 (pa_cons (pv 0) pa_nil))) (pss_one (ps_ret (pe_chain op_le op_le (pe_un un_neg (pe_glob (v := .int 1000000000000) (by rfl) T.g_MAX_NUMBER.choose_spec ⟨_, rfl⟩)) (pv 0) (pe_glob (v := .int 1000000000000) (by rfl) T.g_MAX_NUMBER.choose_spec ⟨_, rfl⟩)))) pss_nil)
      (pss_one (ps_ret (pe_or (pe_cmpR (op_eqD hr.units) (pv 0) (pe_glob (v := .ref (He.ga K "NIL")) (by rfl) T.g_NIL rfl) (nomark _)) (pe_one (pe_and (pe_call (ok_is_row T) (hr.mono (by omega)) (by rfl) T.g_is_row T.F_is_row.kp T.b_is_row .nil pass0 (pa_cons (pv 0) (pa_cons pe_int pa_nil))) (pe_and (pe_cmpR (op_eqD hr.units) (pe_ix ix_tup (pv 0) pe_int (fun _ _ => rfl)) pe_str (nomark _)) (pe_one (pe_call (ok_is_object_name T) (hr.mono (by omega)) (by rfl) T.g_is_object_name T.F_is_object_name.kp T.b_is_object_name .nil pass0 (pa_cons (pe_ix ix_tup (pv 0) pe_int (fun _ _ => rfl)) pa_nil)))))))))), ?_⟩
    refine ⟨_, rfl, v, d, rfl, r, f, fun H1 s1 => ⟨_, rfl, Cm.itB (fun e => ?_) fun e => ?_⟩⟩
    · cases r with
      | non => cases e
      | bl b => cases e
      | str x => cases e
      | tup ht rs => cases e
      | int i =>
        have q2 : Q (.bl (decide (-1000000000000 ≤ i) && decide (i ≤ 1000000000000))) H1 := q H1 s1
        refine ⟨_, rfl, _, rfl, _, _, rfl, rfl, _, rfl, Cm.itD (fun e3 => ?_) fun e3 => ?_⟩
        · rw [show decide (-1000000000000 ≤ i) = true from decide_eq_true e3, Bool.true_and] at q2
          exact ⟨_, _, rfl, rfl, q2⟩
        · rw [show decide (-1000000000000 ≤ i) = false from decide_eq_false e3, Bool.false_and] at q2
          exact q2
    · have ev : valD d = (PyData.eqv d (.tuple [.str "nil"]) || refV d) := by
        unfold valD
        rw [if_neg (by rw [e]; decide)]
      have rn : Rp K H1 (.ref (He.ga K "NIL")) (.tuple [.str "nil"]) := .tup (T.k_NIL H1) (.cons (.str _) .nil)
      have shn : SeqAt.shaped (.tuple [.str "nil"]) = true := by decide +kernel
      have shr : SeqAt.shaped (.str "ref") = true := by decide +kernel
      have r1 := r.keep (Same.tups s1)
      rw [ev] at q
      refine ⟨_, rfl, _, _, r1.dp, rn.dp, f.shaped, shn, _, rfl, Cm.itB (fun e2 => ?_) fun e2 => ?_⟩
      · have := q H1 s1
        rw [e2, Bool.true_or] at this
        exact this
      · rw [e2, Bool.false_or] at q
        refine ⟨_, rfl, v, d, 2, rfl, r1, _, rfl, Cm.itB (fun e4 => ?_) fun e4 => ?_⟩
        · obtain ⟨x, y, rfl⟩ := rowD_two e4
          obtain ⟨p, v1, v2, rfl, ht, w1, w2⟩ := two_inv r1
          have fa := f.at_
          refine ⟨_, rfl, p, _, 0, _, rfl, rfl, ht, atI_nat (j := 0) rfl, x, .str "ref", w1.dp, .str _, (fa x (by simp)).shaped, shr, _, rfl, Cm.itB (fun e5 => ?_) fun e5 => ?_⟩
          · refine ⟨_, rfl, p, _, 1, _, rfl, rfl, ht, atI_nat (j := 1) rfl, v2, y, rfl, w2, fa y (by simp), fun H2 s2 => ?_⟩
            have := q H2 (s1.trans s2)
            rw [show refV (.tuple [x, y]) = objD y from by show (PyData.eqv x (.str "ref") && objD y) = objD y; rw [e5, Bool.true_and]] at this
            exact this
          · have := q H1 s1
            rw [show refV (.tuple [x, y]) = false from by show (PyData.eqv x (.str "ref") && objD y) = false; rw [e5, Bool.false_and]] at this
            exact this
        · have := q H1 s1
          rw [show refV d = false from by unfold refV; split <;> first | rfl | cases e4] at this
          exact this
theorem ok_are_values (T : Txt K mg w a) : FnOk P w K mg base CX0 6 (He.ga K "_are_values") a.d_are_values ["value"] (spP K valsD) := by
  refine T.F_are_values.ok sc_are_values (fun vs H Q E h => ?_) (fun cdv A outer s H vs Q E hr h => ?_)
  · obtain ⟨v, d, rfl, _⟩ := h
    rfl
  · obtain ⟨v, d, rfl, r, f, q⟩ := h
    refine ⟨_, PSs.nox (pss_one (ps_ret (pe_and (pe_callB call_isi (by rfl) T.g_isinstance boot_isinstance (pa_cons (pv 0) (pa_cons (pe_bltn (v := .ty "tuple") (by rfl) T.g_tuple boot_tuple rfl) pa_nil))) (pe_one (pe_callB (cr_all rfl) (by rfl) T.g_all boot_all (pa_cons (pe_lc (own := [("part", 1)]) (g := gName 1) (tt := tYes)  (by rfl) sc_are_values.nd (pi_tup (pv 0)) (blkOk_by (own := [("part", 1)]) (N := N_are_values) (sc := defScope s_are_values) (by decide +kernel)) (fun _ _ _ _ _ => pg_name (i := 1) sc_are_values.nd rfl (Or.inl rfl)) (fun _ _ _ _ _ => pts_nil) (fun _ _ _ _ _ => (pe_call (ok_is_value T) (hr.mono (by omega)) (by rfl) T.g_is_value T.F_is_value.kp T.b_is_value .nil pass0 (pa_cons (pv 1) pa_nil)))) pa_nil)))))), ?_⟩
    obtain ⟨t1, h1, k1⟩ := isiT r
    refine ⟨_, rfl, _, _, _, _, _, rfl, .ty "tuple", h1, k1, _, rfl, Cm.itB (fun e => ?_) fun e => ?_⟩
    · cases r with
      | non => cases e
      | bl b => cases e
      | int i => cases e
      | str x => cases e
      | @tup p xs ds ht rs =>
        have fa := f.at_
        have fl := f.len
        have hlen := rs.len
        refine ⟨_, rfl, p, rfl, ⟨_, ht⟩, fun D nD => ?_⟩
        refine lc_tup (K := K) (a := p) (xs := xs) (fun j Hj => Same H Hj ∧ ∃ bs : List Bool, Hj D = some (.lst (bs.map V.bl)) ∧ bs = (ds.take j).map valD ∧ bs.length ≤ j) ⟨Cm.same_new nD, [], upd_same, rfl, Nat.le_refl _⟩ (fun j Hj _ b => Cm.sameT b.1 ht) (fun j y Hj hy b => ?_) fun Hj b => ?_
        · obtain ⟨sJ, bs, hD, eb, lb⟩ := b
          refine ⟨rfl, ?_⟩
          have hn : j < ds.length := by
            rw [← hlen]
            exact (List.getElem?_eq_some_iff.mp hy).1
          obtain ⟨y', hy', ry⟩ := rs.at_ (i := j) (d := ds[j]) (List.getElem?_eq_getElem hn)
          rw [hy] at hy'
          cases hy'
          refine ⟨_, rfl, y, ds[j], rfl, ry.keep (Same.tups sJ), fa _ (List.getElem_mem hn), fun H2 s2 => ?_⟩
          refine ⟨_, s2 _ _ hD, Cm.smallL (by rw [List.length_map]; omega), Cm.same_mut (sJ.trans s2) nD, bs ++ [valD ds[j]], ?_, ?_, by rw [List.length_append]; simp only [List.length_cons, List.length_nil]; omega⟩
          · rw [upd_same, List.map_append]
            rfl
          · rw [List.take_succ, List.getElem?_eq_getElem hn, List.map_append, eb]
            rfl
        · obtain ⟨sJ, bs, hD, eb, lb⟩ := b
          rw [hlen, List.take_length] at eb
          refine ⟨D, bs, rfl, SqL.of hD, ?_⟩
          have := q Hj sJ
          rw [eb, all_map]
          exact this
    · cases r with
      | non => exact q H (Same.refl _)
      | bl b => exact q H (Same.refl _)
      | int i => exact q H (Same.refl _)
      | str x => exact q H (Same.refl _)
      | tup ht rs => cases e
def frD : PyData → Bool
  | .tuple [o, n, h, s] => codeD o && (natD n && (valsD h && valsD s))
  | _ => false
def backD (d : PyData) (n : Int) : Bool := if n = 0 then PyData.eqv d (.tuple []) else objD d
def backX (b : PyData) : PyData → Bool
  | .int n => backD b n
  | _ => false
def wOk : PyData → Bool
  | .str z => decide (z = "") || decide (z ∈ (["number", "large", "nil"] : List Str))
  | _ => false
def wEmp : PyData → Bool
  | .str z => decide (z = "")
  | _ => false
theorem inV_strs (w : Str) : ∀ l : List Str, inV (.str w) (l.map V.str) = decide (w ∈ l)
  | [] => rfl
  | x :: l => by
    have h := inV_strs w l
    show (eqV (.str x) (.str w) || inV (.str w) (l.map V.str)) = _
    rw [h]
    by_cases e : x = w
    · subst e
      simp [eqV]
    · have e2 : ¬ w = x := fun z => e z.symm
      simp [eqV, e, e2]
def tokW (t w : PyData) : Bool := match t with
  | .none => wEmp w
  | t => rowD 2 t && (procD t && wOk w)
def entD : PyData → Bool
  | .tuple [p, dp, f, b, t, w] => (procD p && (natD dp && (frD f && backX b dp))) && tokW t w
  | _ => false
theorem rowD_len {d : PyData} {n : Nat} (h : rowD (n : Int) d = true) : ∃ ds, d = .tuple ds ∧ ds.length = n := by
  cases d with
  | tuple ds =>
    have h' : ((ds.length : Nat) : Int) = n := of_decide_eq_true h
    exact ⟨ds, rfl, by omega⟩
  | _ => cases h
theorem frD_no {d : PyData} (h : rowD 4 d = false) : frD d = false := by
  unfold frD
  split
  · cases h
  · rfl
theorem entD_no {d : PyData} (h : rowD 6 d = false) : entD d = false := by
  unfold entD
  split
  · cases h
  · rfl
theorem ok_is_frame (T : Txt K mg w a) : FnOk P w K mg base CX0 7 (He.ga K "_is_frame") a.d_is_frame ["value"] (spP K frD) := by
  refine T.F_is_frame.ok sc_is_frame (fun vs H Q E h => ?_) (fun cdv A outer s H vs Q E hr h => ?_)
  · obtain ⟨v, d, rfl, _⟩ := h
    rfl
  · obtain ⟨v, d, rfl, r, f, q⟩ := h
    refine ⟨_, PSs.nox (pss_cons (ps_if (pt_not (pt_val (pe_call (ok_is_row T) (hr.mono (by omega)) (by rfl) T.g_is_row T.F_is_row.kp T.b_is_row .nil pass0 (pa_cons (pv 0) (pa_cons pe_int pa_nil))))) (pss_one (ps_ret pe_bl)) pss_nil)
      (pss_cons (ps_asg (pv 0) (pg_tup (by rfl) (pgs_cons (pg_name (i := 1) sc_is_frame.nd rfl (Or.inl rfl)) (pgs_cons (pg_name (i := 2) sc_is_frame.nd rfl (Or.inl rfl)) (pgs_cons (pg_name (i := 3) sc_is_frame.nd rfl (Or.inl rfl)) (pgs_cons (pg_name (i := 4) sc_is_frame.nd rfl (Or.inl rfl)) pgs_nil))))))
      (pss_one (ps_ret (pe_and (pe_call (ok_is_code_name T) (hr.mono (by omega)) (by rfl) T.g_is_code_name T.F_is_code_name.kp T.b_is_code_name .nil pass0 (pa_cons (pv 1) pa_nil)) (pe_and (pe_call (ok_is_natural T) (hr.mono (by omega)) (by rfl) T.g_is_natural T.F_is_natural.kp T.b_is_natural .nil pass0 (pa_cons (pv 2) pa_nil)) (pe_and (pe_call (ok_are_values T) (hr.mono (by omega)) (by rfl) T.g_are_values T.F_are_values.kp T.b_are_values .nil pass0 (pa_cons (pv 3) pa_nil)) (pe_one (pe_call (ok_are_values T) (hr.mono (by omega)) (by rfl) T.g_are_values T.F_are_values.kp T.b_are_values .nil pass0 (pa_cons (pv 4) pa_nil)))))))))), ?_⟩
    rw [show L2.start N_is_frame [v] = [some v, none, none, none, none] from rfl]
    refine ⟨_, rfl, v, d, 4, rfl, r, _, rfl, Cm.itBn (fun e => ?_) fun e => ?_⟩
    · have := q H (Same.refl _)
      rw [frD_no e] at this
      exact this
    · obtain ⟨ds, rfl, hl⟩ := rowD_len (n := 4) e
      match ds, hl with
      | [o, n, h, st], _ =>
      obtain ⟨p, vs, rfl, ht, rs⟩ := r.tup_inv
      obtain ⟨v1, r1, rfl, w1, rs⟩ := rs.cons_inv
      obtain ⟨v2, r2, rfl, w2, rs⟩ := rs.cons_inv
      obtain ⟨v3, r3, rfl, w3, rs⟩ := rs.cons_inv
      obtain ⟨v4, r4, rfl, w4, rs⟩ := rs.cons_inv
      obtain rfl := rs.nil_inv
      have fa := f.at_
      have q : ∀ H', Same H H' → Q (.bl (codeD o && (natD n && (valsD h && valsD st)))) H' := q
      refine ⟨_, rfl, p, _, rfl, ht, rfl, _, _, rfl, _, _, rfl, _, _, rfl, _, _, rfl, rfl, ?_⟩
      refine ⟨_, rfl, v1, o, rfl, w1, fa o (by simp), fun H1 s1 => ⟨_, rfl, Cm.itB (fun e1 => ?_) fun e1 => ?_⟩⟩
      · rw [e1, Bool.true_and] at q
        refine ⟨_, rfl, v2, n, rfl, w2.keep (Same.tups s1), fa n (by simp), fun H2 s2 => ⟨_, rfl, Cm.itB (fun e2 => ?_) fun e2 => ?_⟩⟩
        · rw [e2, Bool.true_and] at q
          have s12 := s1.trans s2
          refine ⟨_, rfl, v3, h, rfl, w3.keep (Same.tups s12), fa h (by simp), fun H3 s3 => ⟨_, rfl, Cm.itB (fun e3 => ?_) fun e3 => ?_⟩⟩
          · rw [e3, Bool.true_and] at q
            have s13 := s12.trans s3
            refine ⟨_, rfl, v4, st, rfl, w4.keep (Same.tups s13), fa st (by simp), fun H4 s4 => q H4 (s13.trans s4)⟩
          · rw [e3, Bool.false_and] at q
            exact q H3 (s12.trans s3)
        · rw [e2, Bool.false_and] at q
          exact q H2 (s1.trans s2)
      · rw [e1, Bool.false_and] at q
        exact q H1 s1
def spBack (K : PySem.W.Frag) : Sp := fun vs H Q _ => ∃ (v : V) (d : PyData) (n : Int), vs = [v, .int n] ∧ Rp K H v d ∧ Fit d ∧ ∀ H', Same H H' → Q (.bl (backD d n)) H'
theorem ok_is_back (T : Txt K mg w a) : FnOk P w K mg base CX0 5 (He.ga K "_is_back") a.d_is_back ["value", "depth"] (spBack K) := by
  refine T.F_is_back.ok sc_is_back (fun vs H Q E h => ?_) (fun cdv A outer s H vs Q E hr h => ?_)
  · obtain ⟨v, d, n, rfl, _⟩ := h
    rfl
  · obtain ⟨v, d, n, rfl, r, f, q⟩ := h
    refine ⟨_, PSs.nox (pss_cons (ps_if (pt_cmpR op_eq (pv 1) pe_int (nomark _)) (pss_one (ps_ret (pe_cmpR (op_eqD hr.units) (pv 0) (pe_tup pa_nil) (nomark _)))) pss_nil)
      (pss_one (ps_ret (pe_call (ok_is_object_name T) (hr.mono (by omega)) (by rfl) T.g_is_object_name T.F_is_object_name.kp T.b_is_object_name .nil pass0 (pa_cons (pv 0) pa_nil))))), ?_⟩
    refine ⟨_, rfl, rfl, _, rfl, Cm.itEI (fun e => ?_) fun e => ?_⟩
    · have sh0 : SeqAt.shaped (.tuple []) = true := by decide +kernel
      refine ⟨_, rfl, Nat.zero_le _, fun t0 u0 => ?_⟩
      have s1 := Cm.same_new (o := .tup []) u0
      refine ⟨_, _, (r.keep (Same.tups s1)).dp, (Rp.made u0 .nil).dp, f.shaped, sh0, ?_⟩
      have := q _ s1
      rw [show backD d n = PyData.eqv d (.tuple []) from if_pos e] at this
      exact this
    · rw [show backD d n = objD d from if_neg e] at q
      exact ⟨_, rfl, v, d, rfl, r, f, q⟩
def spEnt (K : PySem.W.Frag) : Sp := fun vs H Q _ => ∃ (v : V) (d : PyData), vs = [v] ∧ Rp K H v d ∧ Fit d ∧ (∀ p dp f b t w, d = .tuple [p, dp, f, b, t, w] → ∃ z, w = .str z) ∧ ∀ H', Same H H' → Q (.bl (entD d)) H'
theorem ok_is_entry (T : Txt K mg w a) : FnOk P w K mg base CX0 8 (He.ga K "_is_entry") a.d_is_entry ["value"] (spEnt K) := by
  refine T.F_is_entry.ok sc_is_entry (fun vs H Q E h => ?_) (fun cdv A outer s H vs Q E hr h => ?_)
  · obtain ⟨v, d, rfl, _⟩ := h
    rfl
  · obtain ⟨v, d, rfl, r, f, ws, q⟩ := h
    refine ⟨_, PSs.nox (pss_cons (ps_if (pt_not (pt_val (pe_call (ok_is_row T) (hr.mono (by omega)) (by rfl) T.g_is_row T.F_is_row.kp T.b_is_row .nil pass0 (pa_cons (pv 0) (pa_cons pe_int pa_nil))))) (pss_one (ps_ret pe_bl)) pss_nil)
      (pss_cons (ps_asg (pv 0) (pg_tup (by rfl) (pgs_cons (pg_name (i := 1) sc_is_entry.nd rfl (Or.inl rfl)) (pgs_cons (pg_name (i := 2) sc_is_entry.nd rfl (Or.inl rfl)) (pgs_cons (pg_name (i := 3) sc_is_entry.nd rfl (Or.inl rfl)) (pgs_cons (pg_name (i := 4) sc_is_entry.nd rfl (Or.inl rfl)) (pgs_cons (pg_name (i := 5) sc_is_entry.nd rfl (Or.inl rfl)) (pgs_cons (pg_name (i := 6) sc_is_entry.nd rfl (Or.inl rfl)) pgs_nil))))))))
      (pss_cons (ps_if (pt_not (PW.pt (pw_and (pt_val (pe_call (ok_is_process_name T) (hr.mono (by omega)) (by rfl) T.g_is_process_name T.F_is_process_name.kp T.b_is_process_name .nil pass0 (pa_cons (pv 1) pa_nil))) (pw_and (pt_val (pe_call (ok_is_natural T) (hr.mono (by omega)) (by rfl) T.g_is_natural T.F_is_natural.kp T.b_is_natural .nil pass0 (pa_cons (pv 2) pa_nil))) (pw_and (pt_val (pe_call (ok_is_frame T) (hr.mono (by omega)) (by rfl) T.g_is_frame T.F_is_frame.kp T.b_is_frame .nil pass0 (pa_cons (pv 3) pa_nil))) (pw_and1 (pt_val (pe_call (ok_is_back T) (hr.mono (by omega)) (by rfl) T.g_is_back T.F_is_back.kp T.b_is_back .nil pass0 (pa_cons (pv 4) (pa_cons (pv 2) pa_nil)))))))))) (pss_one (ps_ret pe_bl)) pss_nil)
      (pss_cons (ps_if (pt_cmpR op_isN (pv 5) pe_non (nomark _)) (pss_one (ps_ret (pe_cmpR op_eq (pv 6) pe_str (nomark _)))) pss_nil)
      (pss_one (ps_ret (pe_and (pe_call (ok_is_row T) (hr.mono (by omega)) (by rfl) T.g_is_row T.F_is_row.kp T.b_is_row .nil pass0 (pa_cons (pv 5) (pa_cons pe_int pa_nil))) (pe_and (pe_call (ok_is_process_name T) (hr.mono (by omega)) (by rfl) T.g_is_process_name T.F_is_process_name.kp T.b_is_process_name .nil pass0 (pa_cons (pv 5) pa_nil)) (pe_one (pe_or (pe_cmpR op_eq (pv 6) pe_str (nomark _)) (pe_one (pe_cmpR op_in_seq (pv 6) (pe_glob (v := .ref (He.ga K "FAULTS")) (by rfl) T.g_FAULTS rfl) (by rfl))))))))))))), ?_⟩
    rw [show L2.start N_is_entry [v] = [some v, none, none, none, none, none, none] from rfl]
    refine ⟨_, rfl, v, d, 6, rfl, r, _, rfl, Cm.itBn (fun e => ?_) fun e => ?_⟩
    · have := q H (Same.refl _)
      rw [entD_no e] at this
      exact this
    · obtain ⟨ds, rfl, hl⟩ := rowD_len (n := 6) e
      match ds, hl with
      | [pr, dp, fr, bk, tk, wd], _ =>
      obtain ⟨z, rfl⟩ := ws _ _ _ _ _ _ rfl
      obtain ⟨p, vs, rfl, ht, rs⟩ := r.tup_inv
      obtain ⟨v1, r1, rfl, w1, rs⟩ := rs.cons_inv
      obtain ⟨v2, r2, rfl, w2, rs⟩ := rs.cons_inv
      obtain ⟨v3, r3, rfl, w3, rs⟩ := rs.cons_inv
      obtain ⟨v4, r4, rfl, w4, rs⟩ := rs.cons_inv
      obtain ⟨v5, r5, rfl, w5, rs⟩ := rs.cons_inv
      obtain ⟨v6, r6, rfl, w6, rs⟩ := rs.cons_inv
      obtain rfl := rs.nil_inv
      obtain rfl := w6.str_inv
      have fa := f.at_
      have q : ∀ H', Same H H' → Q (.bl ((procD pr && (natD dp && (frD fr && backX bk dp))) && tokW tk (.str z))) H' := q
      refine ⟨_, rfl, p, _, rfl, ht, rfl, _, _, rfl, _, _, rfl, _, _, rfl, _, _, rfl, _, _, rfl, _, _, rfl, rfl, ?_⟩
      refine ⟨_, rfl, v1, pr, rfl, w1, fa pr (by simp), fun H1 s1 => ⟨_, rfl, Cm.itB (fun e1 => ?_) fun e1 => ?_⟩⟩
      · rw [e1, Bool.true_and] at q
        refine ⟨_, rfl, v2, dp, rfl, w2.keep (Same.tups s1), fa dp (by simp), fun H2 s2 => ⟨_, rfl, Cm.itB (fun e2 => ?_) fun e2 => ?_⟩⟩
        · rw [e2, Bool.true_and] at q
          have s12 := s1.trans s2
          refine ⟨_, rfl, v3, fr, rfl, w3.keep (Same.tups s12), fa fr (by simp), fun H3 s3 => ⟨_, rfl, Cm.itB (fun e3 => ?_) fun e3 => ?_⟩⟩
          · rw [e3, Bool.true_and] at q
            have s13 := s12.trans s3
            cases dp with
            | int dn =>
              obtain rfl := w2.int_inv
              refine ⟨_, rfl, _, rfl, v4, bk, dn, rfl, w4.keep (Same.tups s13), fa bk (by simp), fun H4 s4 => ⟨_, rfl, ?_⟩⟩
              have s14 := s13.trans s4
              refine Cm.itBn (fun e4 => ?_) fun e4 => ?_
              · rw [show backX bk (.int dn) = backD bk dn from rfl, e4, Bool.false_and] at q
                exact q H4 s14
              · rw [show backX bk (.int dn) = backD bk dn from rfl, e4, Bool.true_and] at q
                have w5' := w5.keep (Same.tups s14)
                have ft := fa tk (by simp)
                by_cases en : tk = .none
                · subst en
                  cases w5
                  refine ⟨_, rfl, rfl, _, rfl, Cm.itD (fun _ => ?_) fun h => absurd rfl h⟩
                  refine ⟨_, rfl, rfl, ?_⟩
                  rw [Cm.deq_str]
                  exact q H4 s14
                · have nv : ¬ v5 = V.non := fun h => by
                    subst h
                    cases w5
                    exact en rfl
                  have et : tokW tk (.str z) = (rowD 2 tk && (procD tk && wOk (.str z))) := by
                    unfold tokW
                    split
                    · exact absurd rfl en
                    · rfl
                  rw [et] at q
                  refine ⟨_, rfl, rfl, _, rfl, Cm.itD (fun h => absurd h nv) fun _ => ?_⟩
                  refine ⟨_, rfl, v5, tk, 2, rfl, w5', _, rfl, Cm.itB (fun e5 => ?_) fun e5 => ?_⟩
                  · rw [e5, Bool.true_and] at q
                    refine ⟨_, rfl, v5, tk, rfl, w5', ft, fun H5 s5 => ⟨_, rfl, Cm.itB (fun e6 => ?_) fun e6 => ?_⟩⟩
                    · rw [e6, Bool.true_and] at q
                      have q5 : Q (.bl (decide (z = "") || decide (z ∈ (["number", "large", "nil"] : List Str)))) H5 := q H5 (s14.trans s5)
                      refine ⟨_, rfl, rfl, _, rfl, Cm.itES (fun e7 => ?_) fun e7 => ?_⟩
                      · rw [decide_eq_true e7, Bool.true_or] at q5
                        exact q5
                      · rw [decide_eq_false e7, Bool.false_or, ← inV_strs] at q5
                        exact ⟨_, rfl, _, _, rfl, .inr (T.k_FAULTS H5), rfl, rfl, q5⟩
                    · rw [e6, Bool.false_and] at q
                      exact q H5 (s14.trans s5)
                  · rw [e5, Bool.false_and] at q
                    exact q H4 s14
            | _ => cases e2
          · rw [e3, Bool.false_and, Bool.false_and] at q
            exact iteT (q H3 (s12.trans s3))
        · rw [e2, Bool.false_and, Bool.false_and] at q
          exact iteT (q H2 (s1.trans s2))
      · rw [e1, Bool.false_and, Bool.false_and] at q
        exact iteT (q H1 s1)
/-! ### the numbers of a script (the family with % 10007) -/
abbrev NumOk (ns : List Int) : Prop := ∀ n ∈ ns, 0 ≤ n ∧ n < 2147483647
def spNum2 (K : PySem.W.Frag) : Sp := fun vs H Q _ => ∃ (l : Addr) (ns : List Int) (many : Nat), vs = [.ref l, .int many] ∧ SqL K H l (ns.map V.int) ∧ ns.length ≤ 63 ∧ many ≤ 1000 ∧
  ∀ (H' : Hp) (p : Addr) (ms : List Int), Same H H' → H p = none → H' p = some (.lst (ms.map V.int)) → ms.length = many → NumOk ms → Q (.ref p) H'
theorem num_snoc {ns : List Int} {n : Int} (h : NumOk ns) (h0 : 0 ≤ n) (h1 : n < 2147483647) : NumOk (ns ++ [n]) := fun m hm => by
  rcases List.mem_append.mp hm with hm | hm
  · exact h m hm
  · rw [List.mem_singleton.mp hm]
    exact ⟨h0, h1⟩
theorem map_snoc {ns : List Int} {n : Int} : ns.map V.int ++ [V.int n] = (ns ++ [n]).map V.int := by
  rw [List.map_append]
  rfl
theorem len_map {ns : List Int} : (ns.map V.int).length = ns.length := List.length_map ..
theorem pMod : (0 : Int) < 10007 := by decide
theorem pMersenne : (0 : Int) < 2147483647 := by decide
theorem mersenne (z : Int) : 0 ≤ z % 2147483647 ∧ z % 2147483647 < 2147483647 := by omega
theorem cut_all {xs : List V} {n : Nat} (h : xs.length = n) : cutV xs none (some (n : Int)) = xs := by
  unfold cutV
  rw [HT.sIx_nat, show HT.sIx xs.length 0 none = 0 from rfl]
  rw [← h, Nat.min_self]
  simp
theorem ok_lw_numbers (T : Txt K mg w a) : FnOk P w K mg base CX0 1 (He.ga K "_law_numbers") a.d_lw_numbers ["script", "many"] (spNum2 K) := by
  refine T.F_lw_numbers.ok sc_lw_numbers (fun vs H Q E h => ?_) (fun cdv A outer s H vs Q E hr h => ?_)
  · obtain ⟨l, ns, many, rfl, _⟩ := h
    rfl
  · obtain ⟨l, sc, many, rfl, hl, hsc, hm, q⟩ := h
    refine ⟨_, PSs.nox (pss_cons (ps_set (i := 2) sc_lw_numbers.nd rfl (Or.inl rfl) (pe_lst pa_nil))
      (pss_cons (ps_for PassesOwn.never rfl (pi_range1 (by rfl) T.g_range (pa_cons (pe_callB call_len_seq (by rfl) T.g_len boot_len (pa_cons (pv 0) pa_nil)) pa_nil)) (pg_name (i := 3) sc_lw_numbers.nd rfl (Or.inl rfl))
      (pss_cons (ps_set (i := 4) sc_lw_numbers.nd rfl (Or.inl rfl) (pe_callB call_abs (by rfl) T.g_abs boot_abs (pa_cons (pe_callTy call_int1 (by rfl) T.g_int boot_int (pa_cons (pe_ix ix_list (pv 0) (pv 3) (fun _ _ => rfl)) pa_nil)) pa_nil)))
      (pss_one (ps_if (pt_cmpR op_ge (pv 4) (pe_op op_pow pe_int pe_int) (nomark _)) (pss_one (ps_for PassesOwn.never rfl (pi_range1 (by rfl) T.g_range (pa_cons pe_int pa_nil)) (pg_name (i := 5) sc_lw_numbers.nd rfl (Or.inl rfl))
      (pss_one (ps_if (PW.pt (pw_and (pt_cmpR op_gt (pv 4) pe_int (nomark _)) (pw_and1 (pt_cmpR op_lt (pe_callB call_len_seq (by rfl) T.g_len boot_len (pa_cons (pv 2) pa_nil)) (pv 1) (nomark _))))) (pss_cons (ps_expr (pe_bm PySem.F.plainAttrs_list PySem.F.slot_list_append PySem.F.type_list_append mt_append (pv 2) (pa_cons (pe_op op_mod (pv 4) pe_int) pa_nil)))
      (pss_one (ps_set (i := 4) sc_lw_numbers.nd rfl (Or.inl rfl) (pe_op op_fdiv (pv 4) pe_int)))) pss_nil)))) (pss_one (ps_if (pt_cmpR op_lt (pe_callB call_len_seq (by rfl) T.g_len boot_len (pa_cons (pv 2) pa_nil)) (pv 1) (nomark _)) (pss_cons (ps_set (i := 6) sc_lw_numbers.nd rfl (Or.inl rfl) (pe_op op_mod (pe_callTy call_int1 (by rfl) T.g_int boot_int (pa_cons (pe_op op_add (pe_op op_add (pe_op op_mul (pv 4) pe_int) (pe_op op_mul (pv 3) pe_int)) pe_int) pa_nil)) pe_int))
      (pss_one (ps_expr (pe_bm PySem.F.plainAttrs_list PySem.F.slot_list_append PySem.F.type_list_append mt_append (pv 2) (pa_cons (pe_op op_fdiv (pe_op op_mod (pe_callTy call_int1 (by rfl) T.g_int boot_int (pa_cons (pe_op op_add (pe_op op_add (pe_op op_mul (pv 6) pe_int) (pe_op op_mul pe_int (pv 3))) pe_int) pa_nil)) pe_int) pe_int) pa_nil))))) pss_nil))))))
      (pss_cons (ps_set (i := 7) sc_lw_numbers.nd rfl (Or.inl rfl) (pe_callB call_len_seq (by rfl) T.g_len boot_len (pa_cons (pv 2) pa_nil)))
      (pss_cons (ps_set (i := 8) sc_lw_numbers.nd rfl (Or.inl rfl) (pe_op op_add pe_int (pe_callB call_len_seq (by rfl) T.g_len boot_len (pa_cons (pv 0) pa_nil))))
      (pss_cons (ps_for PassesOwn.never rfl (pi_range1 (by rfl) T.g_range (pa_cons (pe_callB (call_max2 rfl) (by rfl) T.g_max boot_max (pa_cons pe_int (pa_cons (pe_op op_sub (pv 1) (pv 7)) pa_nil))) pa_nil)) (pg_name (i := 3) sc_lw_numbers.nd rfl (Or.inl rfl))
      (pss_cons (ps_if (pt_cmpR op_gt (pv 7) pe_int (nomark _)) (pss_one (ps_set (i := 8) sc_lw_numbers.nd rfl (Or.inl rfl) (pe_op op_add (pv 8) (pe_ix ix_list (pv 2) (pe_op op_mod (pv 3) (pv 7)) (fun _ _ => rfl))))) pss_nil)
      (pss_cons (ps_set (i := 8) sc_lw_numbers.nd rfl (Or.inl rfl) (pe_op op_mod (pe_callTy call_int1 (by rfl) T.g_int boot_int (pa_cons (pe_op op_add (pe_op op_mul (pv 8) pe_int) (pv 3)) pa_nil)) pe_int))
      (pss_one (ps_expr (pe_bm PySem.F.plainAttrs_list PySem.F.slot_list_append PySem.F.type_list_append mt_append (pv 2) (pa_cons (pe_op op_fdiv (pv 8) pe_int) pa_nil)))))))
      (pss_one (ps_ret (pe_slice sl_list (pv 2) po_none (po_some (pv 1)))))))))), ?_⟩
    -- numbers = []
    refine ⟨Nat.zero_le _, fun p np => ?_⟩
    have s0 : Same H (upd H p (.lst [])) := Cm.same_new np
    -- for k in range(len(script))
    refine ⟨_, rfl, l, _, rfl, .inl (s0.seq hl), ((sc.map V.int).length : Int), rfl, by omega, by rw [len_map]; omega, ?_⟩
    rw [Int.toNat_natCast]
    refine for_range (fun i σ H2 => ∃ (ms : List Int) (x3 x4 x5 x6 : Option V), σ = [some (.ref l), some (.int many), some (.ref p), x3, x4, x5, x6, none, none] ∧ Same H H2 ∧ H2 p = some (.lst (ms.map V.int)) ∧ ms.length ≤ many ∧ NumOk ms)
      ⟨[], none, none, none, none, rfl, s0, upd_same, Nat.zero_le _, fun n h => nomatch h⟩ (fun i σ H2 hi ⟨ms, x3, x4, x5, x6, e, s2, hp, hn, ha⟩ => ?_) fun σ H2 ⟨ms, x3, x4, x5, x6, e, s2, hp, hn, ha⟩ => ?_
    · subst e
      rw [len_map] at hi
      obtain ⟨c, _, ec⟩ := Cm.at_int (ns := sc) (i := (0 + (i : Int))) (by omega) (by omega)
      refine ⟨_, rfl, _, rfl, l, _, _, _, rfl, rfl, s2.seq hl, ec, .inl ⟨_, rfl, _, rfl, ?_⟩⟩
      generalize (if c < 0 then -c else c) = c0
      refine ⟨_, rfl, _, _, rfl, rfl, ⟨by decide, by decide, by decide⟩, _, _, rfl, rfl, _, rfl, Cm.itD (fun _ => ?_) fun _ => ?_⟩
      · refine ⟨60, rfl, by decide, by decide, for_range (n := 60) (fun j σ H2 => ∃ (ms : List Int) (c : Int) (x5 : Option V), σ = [some (.ref l), some (.int many), some (.ref p), some (.int (0 + (i : Int))), some (.int c), x5, x6, none, none] ∧ Same H H2 ∧ H2 p = some (.lst (ms.map V.int)) ∧ ms.length ≤ many ∧ NumOk ms)
          ⟨ms, c0, x5, rfl, s2, hp, hn, ha⟩ (fun j σ H2 hj ⟨ms, c, x5, e, s2, hp, hn, ha⟩ => ?_) fun σ H2 ⟨ms, c, x5, e, s2, hp, hn, ha⟩ => ?_⟩
        · subst e
          refine ⟨_, rfl, _, _, rfl, rfl, _, rfl, Cm.itD (fun h1 => ?_) fun h1 => ?_⟩
          · refine ⟨_, rfl, p, _, rfl, .inl (SqL.of hp), _, rfl, _, _, rfl, rfl, _, rfl, Cm.itD (fun h2 => ?_) fun h2 => ?_⟩
            · rw [len_map] at h2
              refine ⟨_, rfl, .inl ⟨rfl, _, SqL.of hp⟩, _, rfl, _, _, rfl, rfl, pMod, p, _, _, rfl, rfl, hp, Cm.smallL (by rw [len_map]; omega), ?_⟩
              refine ⟨_, rfl, _, _, rfl, rfl, ⟨by decide, by decide⟩, ?_⟩
              exact ⟨ms ++ [c % 10007], _, _, rfl, Cm.same_mut s2 np, by rw [upd_same, map_snoc], by rw [List.length_append]; simp only [List.length_cons, List.length_nil]; omega, num_snoc ha (by omega) (by omega)⟩
            · exact ⟨ms, c, _, rfl, s2, hp, hn, ha⟩
          · exact ⟨ms, c, _, rfl, s2, hp, hn, ha⟩
        · subst e
          exact ⟨ms, _, _, _, _, rfl, s2, hp, hn, ha⟩
      · refine ⟨_, rfl, p, _, rfl, .inl (SqL.of hp), _, rfl, _, _, rfl, rfl, _, rfl, Cm.itD (fun h2 => ?_) fun h2 => ?_⟩
        · rw [len_map] at h2
          refine ⟨_, rfl, _, _, rfl, rfl, .inr ⟨by decide, by decide⟩, _, rfl, _, _, rfl, rfl, .inr ⟨by decide, by decide⟩, _, _, rfl, rfl, _, _, rfl, rfl, .inl ⟨_, rfl, _, _, rfl, rfl, pMersenne, ?_⟩⟩
          refine ⟨_, rfl, .inl ⟨rfl, _, SqL.of hp⟩, _, rfl, _, _, rfl, rfl, .inr ⟨by decide, by decide⟩, _, rfl, _, _, rfl, rfl, .inl ⟨by decide, by decide⟩, _, _, rfl, rfl, _, _, rfl, rfl, .inl ⟨_, rfl, _, _, rfl, rfl, pMersenne, _, _, rfl, rfl, ⟨by decide, by decide⟩, p, _, _, rfl, rfl, hp, Cm.smallL (by rw [len_map]; omega), ?_⟩⟩
          have hy := mersenne ((c0 * 48271 + (0 + (i : Int)) * 69621 + 11) % 2147483647 * 16807 + 7 * (0 + (i : Int)) + 3)
          exact ⟨ms ++ [((c0 * 48271 + (0 + (i : Int)) * 69621 + 11) % 2147483647 * 16807 + 7 * (0 + (i : Int)) + 3) % 2147483647 / 3], _, _, _, _, rfl, Cm.same_mut s2 np, by rw [upd_same, map_snoc], by rw [List.length_append]; simp only [List.length_cons, List.length_nil]; omega, num_snoc ha (by omega) (by omega)⟩
        · exact ⟨ms, _, _, _, _, rfl, s2, hp, hn, ha⟩
    · subst e
      -- base = len(numbers)
      refine ⟨_, rfl, p, _, rfl, .inl (SqL.of hp), ?_⟩
      rw [len_map]
      refine ⟨_, rfl, l, _, rfl, .inl (s2.seq hl), _, _, rfl, rfl, ?_⟩
      rw [len_map]
      -- for k in range(max(0, many - base))
      refine ⟨_, rfl, _, rfl, _, _, rfl, rfl, _, _, rfl, _, rfl, by split <;> omega, by split <;> omega, ?_⟩
      rw [show (if (many : Int) - (ms.length : Int) > 0 then (many : Int) - (ms.length : Int) else 0).toNat = many - ms.length by split <;> omega]
      have nb : NumOk ms := ha
      refine for_range (n := many - ms.length) (fun i σ H2 => ∃ (m2 : List Int) (L : Int) (x3 : Option V), σ = [some (.ref l), some (.int many), some (.ref p), x3, x4, x5, x6, some (.int ms.length), some (.int L)] ∧ (0 ≤ L ∧ L < 2147483647) ∧ Same H H2 ∧ H2 p = some (.lst (m2.map V.int)) ∧ m2.length = ms.length + i ∧ NumOk m2)
        ⟨ms, _, _, rfl, ⟨by omega, by omega⟩, s2, hp, rfl, ha⟩ (fun i σ H2 hi ⟨m2, L, x3, e, hL, s2, hp, hn2, ha⟩ => ?_) fun σ H2 ⟨m2, L, x3, e, hL, s2, hp, hn2, ha⟩ => ?_
      · subst e
        refine ⟨_, rfl, _, _, rfl, rfl, _, rfl, Cm.itD (fun hb => ?_) fun hb => ?_⟩
        · have hb0 : (0 : Int) < (ms.length : Int) := hb
          have g0 := Int.emod_nonneg (0 + (i : Int)) (show (ms.length : Int) ≠ 0 by omega)
          have g1 := Int.emod_lt_of_pos (0 + (i : Int)) hb0
          obtain ⟨v, hv, ev⟩ := Cm.at_int (ns := m2) (i := (0 + (i : Int)) % (ms.length : Int)) g0 (by omega)
          obtain ⟨hv0, hv1⟩ := ha v hv
          refine ⟨_, rfl, _, rfl, _, rfl, _, rfl, _, _, rfl, rfl, hb0, p, _, _, _, rfl, rfl, SqL.of hp, ev, _, _, rfl, rfl, ?_⟩
          refine ⟨_, rfl, _, _, rfl, rfl, .inr ⟨by decide, by decide⟩, _, rfl, _, _, rfl, rfl, .inl ⟨_, rfl, _, _, rfl, rfl, pMersenne, ?_⟩⟩
          have hy := mersenne ((L + v) * 48271 + (0 + (i : Int)))
          refine ⟨_, rfl, .inl ⟨rfl, _, SqL.of hp⟩, _, rfl, _, _, rfl, rfl, ⟨by decide, by decide⟩, p, _, _, rfl, rfl, hp, Cm.smallL (by rw [len_map]; omega), ?_⟩
          exact ⟨m2 ++ [((L + v) * 48271 + (0 + (i : Int))) % 2147483647 / 7], _, _, rfl, hy, Cm.same_mut s2 np, by rw [upd_same, map_snoc], by rw [List.length_append]; simp only [List.length_cons, List.length_nil]; omega, num_snoc ha (by omega) (by omega)⟩
        · refine ⟨_, rfl, _, _, rfl, rfl, .inr ⟨by decide, by decide⟩, _, rfl, _, _, rfl, rfl, .inl ⟨_, rfl, _, _, rfl, rfl, pMersenne, ?_⟩⟩
          have hy := mersenne (L * 48271 + (0 + (i : Int)))
          refine ⟨_, rfl, .inl ⟨rfl, _, SqL.of hp⟩, _, rfl, _, _, rfl, rfl, ⟨by decide, by decide⟩, p, _, _, rfl, rfl, hp, Cm.smallL (by rw [len_map]; omega), ?_⟩
          exact ⟨m2 ++ [(L * 48271 + (0 + (i : Int))) % 2147483647 / 7], _, _, rfl, hy, Cm.same_mut s2 np, by rw [upd_same, map_snoc], by rw [List.length_append]; simp only [List.length_cons, List.length_nil]; omega, num_snoc ha (by omega) (by omega)⟩
      · subst e
        have hl2 : m2.length = many := by omega
        refine ⟨_, rfl, _, rfl, _, rfl, p, _, rfl, SqL.of hp, fun p2 np2 => ?_⟩
        rw [cut_all (by rw [len_map]; exact hl2)]
        exact q _ p2 m2 (s2.trans (Cm.same_new np2)) (s2.free np2) upd_same hl2 ha
/-- numbers[x % len(numbers)] -/
theorem at_mod {ns : List Int} (x : Int) (h : 0 < ns.length) : (0 : Int) < ((ns.map V.int).length : Int) ∧ ∃ v, v ∈ ns ∧ atI (ns.map V.int) (x % ((ns.map V.int).length : Int)) = some (.int v) := by
  have hp : (0 : Int) < ((ns.map V.int).length : Int) := by
    rw [len_map]
    omega
  have h0 := Int.emod_nonneg x (show ((ns.map V.int).length : Int) ≠ 0 by omega)
  have h1 := Int.emod_lt_of_pos x hp
  obtain ⟨v, hv, ev⟩ := Cm.at_int (ns := ns) h0 (by rw [len_map] at h1 ⊢; exact h1)
  exact ⟨hp, v, hv, ev⟩
open ND
/-! ### drawn objects, values, entries, bundles -/
def ProcD (d : PyData) : Prop := ∃ ns : List Int, d = .tuple (ns.map PyData.int) ∧ ns.length ≤ 3 ∧ ∀ n ∈ ns, 0 ≤ n ∧ n ≤ 12
def ObjD (d : PyData) : Prop := ∃ (pd : PyData) (j : Int), d = .tuple [pd, .int j] ∧ ProcD pd ∧ 0 ≤ j ∧ j ≤ 13
def ValD (d : PyData) : Prop := d = .tuple [.str "nil"] ∨ (∃ o, ObjD o ∧ d = .tuple [.str "ref", o]) ∨ ∃ i : Int, d = .int i ∧ -1000000000000 ≤ i ∧ i ≤ 1000000000000
def ValsD (m : Nat) (d : PyData) : Prop := ∃ ds, d = .tuple ds ∧ ds.length ≤ m ∧ ∀ x ∈ ds, ValD x
/-- numbers of a script in a list -/
def NumAt (K : PySem.W.Frag) (H : Hp) (nu : Addr) (ns : List Int) : Prop := H nu = some (.lst (ns.map V.int)) ∧ NumOk ns ∧ 70 ≤ ns.length
theorem NumAt.same {H H' : Hp} {nu : Addr} {ns : List Int} (s : Same H H') (h : NumAt K H nu ns) : NumAt K H' nu ns := ⟨s _ _ h.1, h.2⟩
def spObjN (K : PySem.W.Frag) : Sp := fun vs H Q _ => ∃ n : Int, vs = [.int n] ∧ 0 ≤ n ∧ ∀ H' v pd j pv, Same H H' → Rp K H' v (.tuple [pd, .int j]) → ProcD pd → 0 ≤ j → j ≤ 13 → (v = .ref pv → True) → Q v H'
theorem ok_lw_object (T : Txt K mg w a) : FnOk P w K mg base CX0 1 (He.ga K "_law_object") a.d_lw_object ["number"] (spObjN K) := by
  refine T.F_lw_object.ok sc_lw_object (fun vs H Q E h => ?_) (fun cdv A outer s H vs Q E hr h => ?_)
  · obtain ⟨n, rfl, _⟩ := h
    rfl
  · obtain ⟨n, rfl, hn, q⟩ := h
    refine ⟨_, PSs.nox (pss_cons (ps_set (i := 1) sc_lw_object.nd rfl (Or.inl rfl) (pe_ix ix_list (pe_lst (pa_cons (pe_tup pa_nil) (pa_cons (pe_tup (pa_cons pe_int pa_nil)) (pa_cons (pe_tup (pa_cons pe_int pa_nil)) (pa_cons (pe_tup (pa_cons pe_int (pa_cons pe_int pa_nil))) (pa_cons (pe_tup (pa_cons pe_int pa_nil)) (pa_cons (pe_tup (pa_cons pe_int (pa_cons pe_int (pa_cons pe_int pa_nil)))) pa_nil))))))) (pe_op op_mod (pv 0) pe_int) (fun _ _ => rfl)))
      (pss_one (ps_ret (pe_tup (pa_cons (pv 1) (pa_cons (pe_op op_mod (pe_op op_fdiv (pv 0) pe_int) pe_int) pa_nil)))))), ?_⟩
    rw [show L2.start N_lw_object [.int n] = [some (.int n), none] from rfl]
    refine ⟨Nat.zero_le _, fun a0 h0 => ⟨Cm.small (by show 1 ≤ 100000; decide), fun a1 h1 => ⟨Cm.small (by show 1 ≤ 100000; decide), fun a2 h2 => ⟨Cm.small (by show 2 ≤ 100000; decide), fun a3 h3 => ⟨Cm.small (by show 1 ≤ 100000; decide), fun a4 h4 => ⟨Cm.small (by show 3 ≤ 100000; decide), fun a5 h5 => ⟨Cm.small (by show 6 ≤ 100000; decide), fun al hal => ?_⟩⟩⟩⟩⟩⟩⟩
    have s6 := Cm.same_new (o := .lst [.ref a0, .ref a1, .ref a2, .ref a3, .ref a4, .ref a5]) hal
    have s5 := (Cm.same_new (o := .tup [.int 0, .int 0, .int 1]) h5).trans s6
    have s4 := (Cm.same_new (o := .tup [.int 12]) h4).trans s5
    have s3 := (Cm.same_new (o := .tup [.int 0, .int 2]) h3).trans s4
    have s2 := (Cm.same_new (o := .tup [.int 1]) h2).trans s3
    have s1 := (Cm.same_new (o := .tup [.int 0]) h1).trans s2
    have s0 := (Cm.same_new (o := .tup []) h0).trans s1
    have r0 := (Rp.made (K := K) h0 .nil).keep (Same.tups s1)
    have r1 := (Rp.made (K := K) h1 (.cons (.int 0) .nil)).keep (Same.tups s2)
    have r2 := (Rp.made (K := K) h2 (.cons (.int 1) .nil)).keep (Same.tups s3)
    have r3 := (Rp.made (K := K) h3 (.cons (.int 0) (.cons (.int 2) .nil))).keep (Same.tups s4)
    have r4 := (Rp.made (K := K) h4 (.cons (.int 12) .nil)).keep (Same.tups s5)
    have r5 := (Rp.made (K := K) h5 (.cons (.int 0) (.cons (.int 0) (.cons (.int 1) .nil)))).keep (Same.tups s6)
    have hl : (upd (upd (upd (upd (upd (upd (upd H a0 (.tup [])) a1 (.tup [.int 0])) a2 (.tup [.int 1])) a3 (.tup [.int 0, .int 2])) a4 (.tup [.int 12])) a5 (.tup [.int 0, .int 0, .int 1])) al (.lst [.ref a0, .ref a1, .ref a2, .ref a3, .ref a4, .ref a5])) al = some (.lst [.ref a0, .ref a1, .ref a2, .ref a3, .ref a4, .ref a5]) := upd_same
    generalize upd (upd (upd (upd (upd (upd (upd H a0 (.tup [])) a1 (.tup [.int 0])) a2 (.tup [.int 1])) a3 (.tup [.int 0, .int 2])) a4 (.tup [.int 12])) a5 (.tup [.int 0, .int 0, .int 1])) al (.lst [.ref a0, .ref a1, .ref a2, .ref a3, .ref a4, .ref a5]) = HL at *
    obtain ⟨v, hv, ev⟩ := Cm.at_in (xs := [V.ref a0, V.ref a1, V.ref a2, V.ref a3, V.ref a4, V.ref a5]) (i := n % 6) (by omega) (by show n % 6 < 6; omega)
    obtain ⟨pd, rp, hpd⟩ : ∃ pd, Rp K HL v pd ∧ ProcD pd := by
      simp only [List.mem_cons, List.not_mem_nil, or_false] at hv
      rcases hv with rfl | rfl | rfl | rfl | rfl | rfl
      · exact ⟨_, r0, [], rfl, by decide, by decide⟩
      · exact ⟨_, r1, [0], rfl, by decide, by decide⟩
      · exact ⟨_, r2, [1], rfl, by decide, by decide⟩
      · exact ⟨_, r3, [0, 2], rfl, by decide, by decide⟩
      · exact ⟨_, r4, [12], rfl, by decide, by decide⟩
      · exact ⟨_, r5, [0, 0, 1], rfl, by decide, by decide⟩
    refine ⟨_, rfl, _, _, rfl, rfl, (by show (0 : Int) < 6; decide), al, _, _, _, rfl, rfl, SqL.of hl, ev, ?_⟩
    refine ⟨_, rfl, _, rfl, _, _, rfl, rfl, ⟨by decide, by decide⟩, _, _, rfl, rfl, (by show (0 : Int) < 14; decide), Cm.small (by show 2 ≤ 100000; decide), fun t nt => ?_⟩
    exact q _ _ pd (n / 6 % 14) 0 (s0.trans (Cm.same_new nt)) (Rp.made nt (.cons rp (.cons (.int _) .nil))) hpd (by omega) (by omega) fun _ => trivial
def spValN (K : PySem.W.Frag) : Sp := fun vs H Q _ => ∃ n : Int, vs = [.int n] ∧ 0 ≤ n ∧ ∀ H' v d, Same H H' → Rp K H' v d → ValD d → Q v H'
theorem ok_lw_value (T : Txt K mg w a) : FnOk P w K mg base CX0 2 (He.ga K "_law_value") a.d_lw_value ["number"] (spValN K) := by
  refine T.F_lw_value.ok sc_lw_value (fun vs H Q E h => ?_) (fun cdv A outer s H vs Q E hr h => ?_)
  · obtain ⟨n, rfl, _⟩ := h
    rfl
  · obtain ⟨n, rfl, hn, q⟩ := h
    refine ⟨_, PSs.nox (pss_cons (ps_set (i := 1) sc_lw_value.nd rfl (Or.inl rfl) (pe_op op_mod (pv 0) pe_int))
      (pss_cons (ps_if (pt_cmpR op_eq (pv 1) pe_int (nomark _)) (pss_one (ps_ret (pe_tup (pa_cons pe_str pa_nil)))) pss_nil)
      (pss_cons (ps_if (pt_cmpR op_eq (pv 1) pe_int (nomark _)) (pss_one (ps_ret (pe_tup (pa_cons pe_str (pa_cons (pe_call (ok_lw_object T) (hr.mono (by omega)) (by rfl) T.g_lw_object T.F_lw_object.kp T.b_lw_object .nil pass0 (pa_cons (pe_op op_fdiv (pv 0) pe_int) pa_nil)) pa_nil))))) pss_nil)
      (pss_cons (ps_if (pt_cmpR op_eq (pv 1) pe_int (nomark _)) (pss_one (ps_ret (pe_ix ix_list (pe_lst (pa_cons (pe_op op_pow pe_int pe_int) (pa_cons (pe_op op_sub pe_int (pe_op op_pow pe_int pe_int)) (pa_cons pe_int pa_nil)))) (pe_op op_mod (pe_op op_fdiv (pv 0) pe_int) pe_int) (fun _ _ => rfl)))) pss_nil)
      (pss_one (ps_ret (pe_op op_sub (pe_op op_mod (pe_op op_fdiv (pv 0) pe_int) pe_int) pe_int))))))), ?_⟩
    rw [show L2.start N_lw_value [.int n] = [some (.int n), none] from rfl]
    refine ⟨_, rfl, _, _, rfl, rfl, (by show (0 : Int) < 5; decide), ?_⟩
    refine ⟨_, rfl, rfl, _, rfl, Cm.itEI (fun e1 => ?_) fun e1 => ?_⟩
    · refine ⟨Cm.small (by show 1 ≤ 100000; decide), fun t nt => ?_⟩
      exact q _ _ _ (Cm.same_new nt) (Rp.made nt (.cons (.str "nil") .nil)) (.inl rfl)
    refine ⟨_, rfl, rfl, _, rfl, Cm.itEI (fun e2 => ?_) fun e2 => ?_⟩
    · refine ⟨_, rfl, _, _, rfl, rfl, ⟨by decide, by decide⟩, n / 5, rfl, by omega, fun H' v pd j _ s1 rv hpd hj0 hj1 _ => ?_⟩
      refine ⟨Cm.small (by show 2 ≤ 100000; decide), fun t nt => ?_⟩
      exact q _ _ _ (s1.trans (Cm.same_new nt)) (Rp.made nt (.cons (.str "ref") (.cons rv .nil))) (.inr (.inl ⟨_, ⟨pd, j, rfl, hpd, hj0, hj1⟩, rfl⟩))
    refine ⟨_, rfl, rfl, _, rfl, Cm.itEI (fun e3 => ?_) fun e3 => ?_⟩
    · refine ⟨_, _, rfl, rfl, ⟨by decide, by decide, by decide⟩, _, _, rfl, rfl, ⟨by decide, by decide, by decide⟩, _, _, rfl, rfl, Cm.small (by show 3 ≤ 100000; decide), fun t nt => ?_⟩
      obtain ⟨i, hi, ei⟩ := Cm.at_int (ns := [10 ^ (12 : Int).toNat, 0 - 10 ^ (12 : Int).toNat, 0]) (i := n / 5 % 3) (by omega) (by show n / 5 % 3 < 3; omega)
      refine ⟨_, rfl, _, _, rfl, rfl, ⟨by decide, by decide⟩, _, _, rfl, rfl, (by show (0 : Int) < 3; decide), t, _, _, _, rfl, rfl, Cm.sql_new, ei, ?_⟩
      refine q _ _ _ (Cm.same_new nt) (.int i) (.inr (.inr ⟨i, rfl, ?_⟩))
      simp only [List.mem_cons, List.not_mem_nil, or_false] at hi
      rcases hi with rfl | rfl | rfl <;> decide +kernel
    refine ⟨_, rfl, _, _, rfl, rfl, ⟨by decide, by decide⟩, _, _, rfl, rfl, (by show (0 : Int) < 61; decide), _, _, rfl, rfl, ?_⟩
    exact q _ _ _ (Same.refl H) (.int _) (.inr (.inr ⟨_, rfl, by omega, by omega⟩))
def spValsN (K : PySem.W.Frag) : Sp := fun vs H Q _ => ∃ (nu : Addr) (ns : List Int) (at_ : Int) (most : Nat), vs = [.ref nu, .int at_, .int most] ∧ NumAt K H nu ns ∧ most ≤ 10 ∧ ∀ H' v ds, Same H H' → Rp K H' v (.tuple ds) → ds.length ≤ most → (∀ x ∈ ds, ValD x) → Q v H'
theorem ok_lw_values (T : Txt K mg w a) : FnOk P w K mg base CX0 3 (He.ga K "_law_values") a.d_lw_values ["numbers", "at", "most"] (spValsN K) := by
  refine T.F_lw_values.ok sc_lw_values (fun vs H Q E h => ?_) (fun cdv A outer s H vs Q E hr h => ?_)
  · obtain ⟨nu, ns, at_, most, rfl, _⟩ := h
    rfl
  · obtain ⟨nu, ns, at_, most, rfl, ⟨hnu, hok, hlen⟩, hm, q⟩ := h
    refine ⟨_, PSs.nox (pss_one (ps_ret (pe_callTy call_tuple_of (by rfl) T.g_tuple boot_tuple (pa_cons (pe_lc (own := [("k", 3)]) (g := gName 3) (tt := tYes)  (by rfl) sc_lw_values.nd (pi_range1 (by rfl) T.g_range (pa_cons (pe_op op_mod (pe_op op_fdiv (pe_ix ix_list (pv 0) (pe_op op_mod (pe_callTy call_int1 (by rfl) T.g_int boot_int (pa_cons (pv 1) pa_nil)) (pe_callB call_len_seq (by rfl) T.g_len boot_len (pa_cons (pv 0) pa_nil))) (fun _ _ => rfl)) pe_int) (pe_op op_add (pv 2) pe_int)) pa_nil)) (blkOk_by (own := [("k", 3)]) (N := N_lw_values) (sc := defScope s_lw_values) (by decide +kernel)) (fun _ _ _ _ _ => pg_name (i := 3) sc_lw_values.nd rfl (Or.inl rfl)) (fun _ _ _ _ _ => pts_nil) (fun _ _ _ _ _ => (pe_call (ok_lw_value T) (hr.mono (by omega)) (by rfl) T.g_lw_value T.F_lw_value.kp T.b_lw_value .nil pass0 (pa_cons (pe_ix (r := rIxL K) ix_list (pv 0) (pe_op op_mod (pe_callTy call_int1 (by rfl) T.g_int boot_int (pa_cons (pe_op op_add (pv 1) (pv 3)) pa_nil)) (pe_callB (Nst.len_seq K rfl) (by rfl) T.g_len boot_len (pa_cons (pv 0) pa_nil))) (fun _ _ => rfl)) pa_nil)))) pa_nil)))), ?_⟩
    rw [show L2.start N_lw_values [.ref nu, .int at_, .int most] = [some (.ref nu), some (.int at_), some (.int most), none] from rfl]
    obtain ⟨p0, n0, hn0, e0⟩ := at_mod (ns := ns) at_ (by omega)
    obtain ⟨g0, _⟩ := hok n0 hn0
    refine ⟨_, rfl, _, rfl, .inl ⟨_, rfl, _, rfl, nu, _, rfl, .inl (SqL.of hnu), _, _, rfl, rfl, p0, nu, _, _, _, rfl, rfl, SqL.of hnu, e0, _, _, rfl, rfl, ⟨by decide, by decide⟩, ?_⟩⟩
    have hm1 : (0 : Int) < (most : Int) + 1 := by omega
    have b0 := Int.emod_nonneg (n0 / 7) (show (most : Int) + 1 ≠ 0 by omega)
    have b1 := Int.emod_lt_of_pos (n0 / 7) hm1
    refine ⟨_, rfl, _, _, rfl, rfl, _, _, rfl, rfl, hm1, _, rfl, by omega, by omega, fun D nD => ?_⟩
    refine lc_range (n := (n0 / 7 % ((most : Int) + 1)).toNat) (fun k Hi => Same H Hi ∧ ∃ acc ds, Hi D = some (.lst acc) ∧ Rps K Hi acc ds ∧ ds.length = k ∧ ∀ x ∈ ds, ValD x) ⟨Cm.same_new nD, [], [], upd_same, .nil, rfl, fun _ h => nomatch h⟩ (fun k Hi hk ⟨sH, acc, ds, hD, rD, lD, vD⟩ => ?_) fun Hi ⟨sH, acc, ds, hD, rD, lD, vD⟩ => ?_
    · refine ⟨rfl, ?_⟩
      simp only [List.map_cons, List.map_nil, List.set_cons_succ, List.set_cons_zero, wipe]
      obtain ⟨p1, n1, hn1, e1⟩ := at_mod (ns := ns) (at_ + (0 + (k : Int))) (by omega)
      obtain ⟨g1, _⟩ := hok n1 hn1
      have hni := sH _ _ hnu
      refine ⟨_, rfl, _, rfl, _, rfl, _, _, rfl, rfl, .inl ⟨_, rfl, _, rfl, nu, _, rfl, .inl (SqL.of hni), _, _, rfl, rfl, p1, nu, _, _, _, rfl, rfl, SqL.of hni, e1, ?_⟩⟩
      refine ⟨n1, rfl, g1, fun H' v d s' rv hv => ?_⟩
      have hD' := s' _ _ hD
      have la := rD.len
      have tk : TK K H' (upd H' D (.lst (acc ++ [v]))) := TK.upd (by rw [hD']; exact True.intro)
      refine ⟨acc, hD', Cm.smallL (by omega), Cm.same_mut (sH.trans s') nD, acc ++ [v], ds ++ [d], upd_same, rps_keep tk ((rD.keep (Same.tups s')).app (.cons rv .nil)), by rw [List.length_append, lD]; rfl, fun x hx => ?_⟩
      rcases List.mem_append.mp hx with hx | hx
      · exact vD x hx
      · rw [List.mem_singleton.mp hx]
        exact hv
    · refine ⟨D, acc, rfl, .inl ⟨SqL.of hD, fun l nl => ?_⟩⟩
      exact q _ _ ds (sH.trans (Cm.same_new nl)) (Rp.made nl rD) (by omega) vD
def FrD (d : PyData) : Prop := ∃ (op : Str) (i : Int) (ls st : List PyData), d = .tuple [.str op, .int i, .tuple ls, .tuple st] ∧ op ∈ (["start", "get", "f2", "Put"] : List Str) ∧ 0 ≤ i ∧ i ≤ 11 ∧ ls.length ≤ 3 ∧ st.length ≤ 3 ∧ (∀ x ∈ ls, ValD x) ∧ ∀ x ∈ st, ValD x
def TokD (tok : PyData) (wd : Str) : Prop := (∃ x y : Int, tok = .tuple [.int x, .int y] ∧ 0 ≤ x ∧ x ≤ 4 ∧ 0 ≤ y ∧ y ≤ 3) ∨ (tok = .none ∧ wd = "")
abbrev wordsF : List Str := ["", "", "", "number", "large", "nil"]
def EntD (d : PyData) : Prop := ∃ (pd : PyData) (dep : Int) (fr back tok : PyData) (wd : Str), d = .tuple [pd, .int dep, fr, back, tok, .str wd] ∧ ProcD pd ∧ 0 ≤ dep ∧ dep ≤ 3 ∧ FrD fr ∧ (dep = 0 → back = .tuple []) ∧ (dep ≠ 0 → ObjD back) ∧ TokD tok wd ∧ wd ∈ wordsF
def spEntN (K : PySem.W.Frag) : Sp := fun vs H Q _ => ∃ (nu : Addr) (ns : List Int) (at_ : Int), vs = [.ref nu, .int at_] ∧ NumAt K H nu ns ∧ ∀ H' v d, Same H H' → Rp K H' v d → EntD d → Q v H'
theorem ok_lw_entry (T : Txt K mg w a) : FnOk P w K mg base CX0 4 (He.ga K "_law_entry") a.d_lw_entry ["numbers", "at"] (spEntN K) := by
  refine T.F_lw_entry.ok sc_lw_entry (fun vs H Q E h => ?_) (fun cdv A outer s H vs Q E hr h => ?_)
  · obtain ⟨nu, ns, at_, rfl, _⟩ := h
    rfl
  · obtain ⟨nu, ns, at_, rfl, N, q⟩ := h
    obtain ⟨hnu, hok, hlen⟩ := id N
    refine ⟨_, PSs.nox (pss_cons (ps_set (i := 2) sc_lw_entry.nd rfl (Or.inl rfl) (pe_ix ix_list (pv 0) (pe_op op_mod (pe_callTy call_int1 (by rfl) T.g_int boot_int (pa_cons (pv 1) pa_nil)) (pe_callB call_len_seq (by rfl) T.g_len boot_len (pa_cons (pv 0) pa_nil))) (fun _ _ => rfl)))
      (pss_cons (ps_asg (pe_call (ok_lw_object T) (hr.mono (by omega)) (by rfl) T.g_lw_object T.F_lw_object.kp T.b_lw_object .nil pass0 (pa_cons (pv 2) pa_nil)) (pg_tup (by rfl) (pgs_cons (pg_name (i := 3) sc_lw_entry.nd rfl (Or.inl rfl)) (pgs_cons (pg_name (i := 4) sc_lw_entry.nd rfl (Or.inl rfl)) pgs_nil))))
      (pss_cons (ps_set (i := 5) sc_lw_entry.nd rfl (Or.inl rfl) (pe_op op_mod (pe_op op_fdiv (pv 2) pe_int) pe_int))
      (pss_cons (ps_set (i := 6) sc_lw_entry.nd rfl (Or.inl rfl) (pe_tup pa_nil))
      (C8.pss_cut (ps_if (pt_cmpR op_gt (pv 5) pe_int (nomark _)) (pss_one (ps_set (i := 6) sc_lw_entry.nd rfl (Or.inl rfl) (pe_call (ok_lw_object T) (hr.mono (by omega)) (by rfl) T.g_lw_object T.F_lw_object.kp T.b_lw_object .nil pass0 (pa_cons (pe_ix ix_list (pv 0) (pe_op op_mod (pe_callTy call_int1 (by rfl) T.g_int boot_int (pa_cons (pe_op op_add (pv 1) pe_int) pa_nil)) (pe_callB call_len_seq (by rfl) T.g_len boot_len (pa_cons (pv 0) pa_nil))) (fun _ _ => rfl)) pa_nil)))) pss_nil)
      (pss_cons (ps_set (i := 7) sc_lw_entry.nd rfl (Or.inl rfl) (pe_ix ix_list (pe_lst (pa_cons pe_str (pa_cons pe_str (pa_cons pe_str (pa_cons pe_str (pa_cons pe_str (pa_cons pe_str pa_nil))))))) (pe_op op_mod (pe_ix ix_list (pv 0) (pe_op op_mod (pe_callTy call_int1 (by rfl) T.g_int boot_int (pa_cons (pe_op op_add (pv 1) pe_int) pa_nil)) (pe_callB call_len_seq (by rfl) T.g_len boot_len (pa_cons (pv 0) pa_nil))) (fun _ _ => rfl)) pe_int) (fun _ _ => rfl)))
      (pss_cons (ps_set (i := 8) sc_lw_entry.nd rfl (Or.inl rfl) (pe_tup (pa_cons (pe_op op_mod (pe_op op_fdiv (pv 2) pe_int) pe_int) (pa_cons (pe_op op_mod (pe_op op_fdiv (pv 2) pe_int) pe_int) pa_nil))))
      (C8.pss_cut (ps_if (PW.pt (pw_and (pt_cmpR op_eq (pv 7) pe_str (nomark _)) (pw_and1 (pt_cmpR op_eq (pe_op op_mod (pe_op op_fdiv (pe_ix ix_list (pv 0) (pe_op op_mod (pe_callTy call_int1 (by rfl) T.g_int boot_int (pa_cons (pe_op op_add (pv 1) pe_int) pa_nil)) (pe_callB call_len_seq (by rfl) T.g_len boot_len (pa_cons (pv 0) pa_nil))) (fun _ _ => rfl)) pe_int) pe_int) pe_int (nomark _))))) (pss_one (ps_set (i := 8) sc_lw_entry.nd rfl (Or.inl rfl) pe_non)) pss_nil)
      (pss_cons (ps_set (i := 9) sc_lw_entry.nd rfl (Or.inl rfl) (pe_ix ix_list (pe_lst (pa_cons pe_str (pa_cons pe_str (pa_cons pe_str (pa_cons pe_str pa_nil))))) (pe_op op_mod (pe_ix ix_list (pv 0) (pe_op op_mod (pe_callTy call_int1 (by rfl) T.g_int boot_int (pa_cons (pe_op op_add (pv 1) pe_int) pa_nil)) (pe_callB call_len_seq (by rfl) T.g_len boot_len (pa_cons (pv 0) pa_nil))) (fun _ _ => rfl)) pe_int) (fun _ _ => rfl)))
      (pss_cons (ps_set (i := 10) sc_lw_entry.nd rfl (Or.inl rfl) (pe_tup (pa_cons (pv 9) (pa_cons (pe_op op_mod (pe_op op_fdiv (pv 2) pe_int) pe_int) (pa_cons (pe_call (ok_lw_values T) (hr.mono (by omega)) (by rfl) T.g_lw_values T.F_lw_values.kp T.b_lw_values .nil pass0 (pa_cons (pv 0) (pa_cons (pe_op op_add (pv 1) pe_int) (pa_cons pe_int pa_nil)))) (pa_cons (pe_call (ok_lw_values T) (hr.mono (by omega)) (by rfl) T.g_lw_values T.F_lw_values.kp T.b_lw_values .nil pass0 (pa_cons (pv 0) (pa_cons (pe_op op_add (pv 1) pe_int) (pa_cons pe_int pa_nil)))) pa_nil))))))
      (pss_one (ps_ret (pe_tup (pa_cons (pv 3) (pa_cons (pv 5) (pa_cons (pv 10) (pa_cons (pv 6) (pa_cons (pv 8) (pa_cons (pv 7) pa_nil))))))))))))))))))), ?_⟩
    rw [show L2.start N_lw_entry [.ref nu, .int at_] = [some (.ref nu), some (.int at_), none, none, none, none, none, none, none, none, none] from rfl]
    -- number
    obtain ⟨p0, n0, hn0, e0⟩ := at_mod (ns := ns) at_ (by omega)
    obtain ⟨g0, _⟩ := hok n0 hn0
    refine ⟨_, rfl, _, rfl, .inl ⟨_, rfl, _, rfl, nu, _, rfl, .inl (SqL.of hnu), _, _, rfl, rfl, p0, nu, _, _, _, rfl, rfl, SqL.of hnu, e0, ?_⟩⟩
    -- process, k
    refine ⟨_, rfl, n0, rfl, g0, fun H1 v pd j _ s1 rv hpd hj0 hj1 _ => ?_⟩
    obtain ⟨a1, vs1, rfl, ha1, hvs1⟩ := rv.tup_inv
    obtain ⟨v1, r1, rfl, rpd, hr1⟩ := hvs1.cons_inv
    obtain ⟨v2, r2, rfl, rj, hr2⟩ := hr1.cons_inv
    obtain rfl := hr2.nil_inv
    obtain rfl := rj.int_inv
    refine ⟨a1, _, rfl, ha1, rfl, _, _, rfl, _, _, rfl, rfl, ?_⟩
    -- depth, back
    refine ⟨_, rfl, _, _, rfl, rfl, ⟨by decide, by decide⟩, _, _, rfl, rfl, (by show (0 : Int) < 4; decide), ?_⟩
    refine ⟨Nat.zero_le _, fun t0 nt0 => ?_⟩
    have s2 := Cm.same_new (o := .tup []) nt0
    have rb0 := Rp.made (K := K) nt0 (.nil : Rps K H1 [] [])
    have rpd := rpd.keep (Same.tups s2)
    have N2 := (N.same s1).same s2
    have s12 := s1.trans s2
    generalize upd H1 t0 (.tup []) = H2 at *
    simp only [gName, List.set_cons_succ, List.set_cons_zero]
    refine ⟨fun σ' H3 => ∃ (bv : V) (bd : PyData), σ' = [some (.ref nu), some (.int at_), some (.int n0), some v1, some (.int j), some (.int (n0 / 90 % 4)), some bv, none, none, none, none] ∧ Same H2 H3 ∧ Rp K H3 bv bd ∧ (n0 / 90 % 4 = 0 → bd = .tuple []) ∧ (n0 / 90 % 4 ≠ 0 → ObjD bd), ?_, fun σ' H3 ⟨bv, bd, e, s3, rb, hb0, hb1⟩ => ?_⟩
    · refine ⟨_, rfl, _, _, rfl, rfl, _, rfl, Cm.itD (fun e1 => ?_) fun e1 => ?_⟩
      · obtain ⟨p1, m1, hm1, em1⟩ := at_mod (ns := ns) (at_ + 1) (by omega)
        obtain ⟨gm1, _⟩ := hok m1 hm1
        refine ⟨_, rfl, _, rfl, _, _, rfl, rfl, .inl ⟨_, rfl, _, rfl, nu, _, rfl, .inl (SqL.of N2.1), _, _, rfl, rfl, p1, nu, _, _, _, rfl, rfl, SqL.of N2.1, em1, m1, rfl, gm1, fun H3 v3 pd3 j3 _ s3 rv3 hpd3 h30 h31 _ => ?_⟩⟩
        exact ⟨_, _, rfl, s3, rv3, (fun z => absurd e1 (by omega)), fun _ => ⟨pd3, j3, rfl, hpd3, h30, h31⟩⟩
      · exact ⟨_, _, rfl, Same.refl _, rb0, (fun _ => rfl), fun z => absurd e1 (by omega)⟩
    · subst e
      have N3 := N2.same s3
      have rpd := rpd.keep (Same.tups s3)
      have s13 := s12.trans s3
      -- word
      refine ⟨Cm.small (by show 6 ≤ 100000; decide), fun tw ntw => ?_⟩
      have s4 := Cm.same_new (o := .lst [.str "", .str "", .str "", .str "number", .str "large", .str "nil"]) ntw
      obtain ⟨p2, m2, hm2, em2⟩ := at_mod (ns := ns) (at_ + 2) (by omega)
      obtain ⟨gm2, _⟩ := hok m2 hm2
      obtain ⟨wd, hwd, ewd⟩ := Cm.at_str (ws := wordsF) (i := m2 % 6) (by omega) (by show m2 % 6 < 6; omega)
      have N4 := N3.same s4
      have rb := rb.keep (Same.tups s4)
      have rpd := rpd.keep (Same.tups s4)
      have s14 := s13.trans s4
      have htw : (upd H3 tw (.lst [.str "", .str "", .str "", .str "number", .str "large", .str "nil"])) tw = some (.lst (wordsF.map V.str)) := upd_same
      generalize upd H3 tw (.lst [.str "", .str "", .str "", .str "number", .str "large", .str "nil"]) = H4 at *
      refine ⟨_, rfl, _, rfl, _, _, rfl, rfl, .inl ⟨_, rfl, _, rfl, nu, _, rfl, .inl (SqL.of N4.1), _, _, rfl, rfl, p2, nu, _, _, _, rfl, rfl, SqL.of N4.1, em2, _, _, rfl, rfl, (by show (0 : Int) < 6; decide), tw, _, _, _, rfl, rfl, SqL.of htw, ewd, ?_⟩⟩
      -- token
      refine ⟨_, rfl, _, _, rfl, rfl, ⟨by decide, by decide⟩, _, _, rfl, rfl, (by show (0 : Int) < 5; decide), _, rfl, _, _, rfl, rfl, ⟨by decide, by decide⟩, _, _, rfl, rfl, (by show (0 : Int) < 4; decide), Cm.small (by show 2 ≤ 100000; decide), fun tt ntt => ?_⟩
      have s5 := Cm.same_new (o := .tup [.int (n0 / 3 % 5), .int (n0 / 11 % 4)]) ntt
      have rt := Rp.made (K := K) ntt (.cons (.int (n0 / 3 % 5)) (.cons (.int (n0 / 11 % 4)) .nil))
      have N5 := N4.same s5
      have rb := rb.keep (Same.tups s5)
      have rpd := rpd.keep (Same.tups s5)
      have s15 := s14.trans s5
      generalize upd H4 tt (.tup [.int (n0 / 3 % 5), .int (n0 / 11 % 4)]) = H5 at *
      simp only [gName, List.set_cons_succ, List.set_cons_zero]
      refine ⟨fun σ' H6 => H6 = H5 ∧ ∃ (tv : V) (td : PyData), σ' = [some (.ref nu), some (.int at_), some (.int n0), some v1, some (.int j), some (.int (n0 / 90 % 4)), some bv, some (.str wd), some tv, none, none] ∧ Rp K H5 tv td ∧ TokD td wd, ?_, fun σ' H6 ⟨eH, tv, td, e, rtv, htd⟩ => ?_⟩
      · have tk0 : TokD (.tuple [.int (n0 / 3 % 5), .int (n0 / 11 % 4)]) wd := .inl ⟨_, _, rfl, by omega, by omega, by omega, by omega⟩
        refine ⟨_, rfl, rfl, _, rfl, Cm.itES (fun e1 => ?_) fun e1 => ?_⟩
        · refine ⟨_, rfl, _, rfl, _, _, rfl, rfl, .inl ⟨_, rfl, _, rfl, nu, _, rfl, .inl (SqL.of N5.1), _, _, rfl, rfl, p2, nu, _, _, _, rfl, rfl, SqL.of N5.1, em2, _, _, rfl, rfl, ⟨by decide, by decide⟩, _, _, rfl, rfl, (by show (0 : Int) < 2; decide), rfl, _, rfl, Cm.itEI (fun e2 => ?_) fun e2 => ?_⟩⟩
          · exact ⟨rfl, _, _, rfl, .non, .inr ⟨rfl, e1⟩⟩
          · exact ⟨rfl, _, _, rfl, rt, tk0⟩
        · exact ⟨rfl, _, _, rfl, rt, tk0⟩
      · subst eH e
        -- operation
        refine ⟨Cm.small (by show 4 ≤ 100000; decide), fun to nto => ?_⟩
        have s7 := Cm.same_new (o := .lst [.str "start", .str "get", .str "f2", .str "Put"]) nto
        obtain ⟨p3, m3, hm3, em3⟩ := at_mod (ns := ns) (at_ + 3) (by omega)
        obtain ⟨gm3, _⟩ := hok m3 hm3
        obtain ⟨op, hop, eop⟩ := Cm.at_str (ws := ["start", "get", "f2", "Put"]) (i := m3 % 4) (by omega) (by show m3 % 4 < 4; omega)
        have N7 := N5.same s7
        have rb := rb.keep (Same.tups s7)
        have rpd := rpd.keep (Same.tups s7)
        have rtv := rtv.keep (Same.tups s7)
        have s17 := s15.trans s7
        have hto : (upd H6 to (.lst [.str "start", .str "get", .str "f2", .str "Put"])) to = some (.lst ((["start", "get", "f2", "Put"] : List Str).map V.str)) := upd_same
        generalize upd H6 to (.lst [.str "start", .str "get", .str "f2", .str "Put"]) = H7 at *
        refine ⟨_, rfl, _, rfl, _, _, rfl, rfl, .inl ⟨_, rfl, _, rfl, nu, _, rfl, .inl (SqL.of N7.1), _, _, rfl, rfl, p3, nu, _, _, _, rfl, rfl, SqL.of N7.1, em3, _, _, rfl, rfl, (by show (0 : Int) < 4; decide), to, _, _, _, rfl, rfl, SqL.of hto, eop, ?_⟩⟩
        -- frame
        refine ⟨_, rfl, _, rfl, _, _, rfl, rfl, ⟨by decide, by decide⟩, _, _, rfl, rfl, (by show (0 : Int) < 12; decide), ?_⟩
        refine ⟨_, rfl, _, rfl, _, _, rfl, rfl, nu, ns, _, 3, rfl, N7, by decide, fun H8 lv ls s8 rls lls vls => ?_⟩
        refine ⟨_, rfl, _, rfl, _, _, rfl, rfl, nu, ns, _, 3, rfl, N7.same s8, by decide, fun H9 sv st s9 rst lst vst => ?_⟩
        refine ⟨Cm.small (by show 4 ≤ 100000; decide), fun tf ntf => ?_⟩
        have s10 := Cm.same_new (o := .tup [.str op, .int (n0 / 5 % 12), lv, sv]) ntf
        have rf := Rp.made ntf (.cons (.str op) (.cons (.int (n0 / 5 % 12)) (.cons (rls.keep (Same.tups s9)) (.cons rst .nil))))
        have s89 := (s8.trans s9).trans s10
        refine ⟨_, rfl, _, rfl, _, rfl, _, rfl, _, rfl, _, rfl, Cm.small (by show 6 ≤ 100000; decide), fun te nte => ?_⟩
        have s11 := Cm.same_new (o := .tup [v1, .int (n0 / 90 % 4), .ref tf, bv, tv, .str wd]) nte
        refine q _ _ _ ((s17.trans s89).trans s11) (Rp.made nte (.cons (rpd.keep (Same.tups s89)) (.cons (.int _) (.cons rf (.cons (rb.keep (Same.tups s89)) (.cons (rtv.keep (Same.tups s89)) (.cons (.str wd) .nil))))))) ?_
        exact ⟨pd, _, _, bd, td, wd, rfl, hpd, by omega, by omega, ⟨op, _, ls, st, rfl, hop, by omega, by omega, lls, lst, vls, vst⟩, hb0, hb1, htd, hwd⟩
/-! ### bundles -/
theorem lay_intsB : ∀ ns : List Int, PyData.canLayAll0 (ns.map PyData.int) = true
  | [] => by simp [PyData.canLayAll0]
  | n :: ns => by simp [PyData.canLayAll0, PyData.canLay0, lay_intsB ns]
theorem depth_intsB : ∀ ns : List Int, PyData.depthAll (ns.map PyData.int) = 0
  | [] => rfl
  | n :: ns => by simp [PyData.depthAll, PyData.depth, depth_intsB ns]
/-- it can be compared; so deep at most -/
def Lo (n : Nat) (d : PyData) : Prop := d.canLay0 = true ∧ d.depth ≤ n
theorem Lo.mono {m n : Nat} {d : PyData} (h : Lo m d) (e : m ≤ n) : Lo n d := ⟨h.1, Nat.le_trans h.2 e⟩
theorem lo_all {n : Nat} : ∀ {ds : List PyData}, (∀ d ∈ ds, Lo n d) → PyData.canLayAll0 ds = true ∧ PyData.depthAll ds ≤ n
  | [], _ => by simp [PyData.canLayAll0, PyData.depthAll]
  | d :: ds, h => by
    have h1 := h d List.mem_cons_self
    have h2 := lo_all fun x hx => h x (List.mem_cons_of_mem _ hx)
    simp only [PyData.canLayAll0, PyData.depthAll, h1.1, h2.1, Bool.and_self, true_and]
    have := h1.2
    omega
theorem lo_tup {n : Nat} {ds : List PyData} (h : ∀ d ∈ ds, Lo n d) : Lo (n + 1) (.tuple ds) := by
  obtain ⟨h1, h2⟩ := lo_all h
  exact ⟨by simp [PyData.canLay0, h1], by simp only [PyData.depth]; omega⟩
theorem lo_int {n : Nat} {i : Int} : Lo n (.int i) := ⟨by simp [PyData.canLay0], by simp [PyData.depth]⟩
theorem lo_non {n : Nat} : Lo n .none := ⟨by simp [PyData.canLay0], by simp [PyData.depth]⟩
theorem lo_str {n : Nat} {x : Str} (h : PyData.strOk x = true) : Lo n (.str x) := ⟨by simp [PyData.canLay0, h], by simp [PyData.depth]⟩
theorem lo_proc {d : PyData} (h : ProcD d) : Lo 1 d := by
  obtain ⟨ns, rfl, _⟩ := h
  exact ⟨by simp [PyData.canLay0, lay_intsB], by simp [PyData.depth, depth_intsB]⟩
theorem lo_two {n : Nat} {x y : PyData} (h1 : Lo n x) (h2 : Lo n y) : Lo (n + 1) (.tuple [x, y]) := lo_tup fun d hd => by
  simp only [List.mem_cons, List.not_mem_nil, or_false] at hd
  rcases hd with rfl | rfl
  · exact h1
  · exact h2
theorem lo_obj {d : PyData} (h : ObjD d) : Lo 2 d := by
  obtain ⟨pd, j, rfl, hp, _⟩ := h
  exact lo_two (lo_proc hp) lo_int
theorem lo_val {d : PyData} (h : ValD d) : Lo 3 d := by
  rcases h with rfl | ⟨o, ho, rfl⟩ | ⟨i, rfl, _⟩
  · exact Lo.mono (show Lo 1 (.tuple [.str "nil"]) from ⟨by decide +kernel, by decide +kernel⟩) (by decide)
  · exact lo_two (lo_str (by decide +kernel)) (lo_obj ho)
  · exact lo_int
theorem lo_vals {ds : List PyData} (h : ∀ x ∈ ds, ValD x) : Lo 4 (.tuple ds) := lo_tup fun d hd => lo_val (h d hd)
theorem so_ops : ∀ x ∈ (["start", "get", "f2", "Put", "", "number", "large", "nil", "Box", "a1", "Z"] : List Str), PyData.strOk x = true := by decide +kernel
theorem lo_fr {d : PyData} (h : FrD d) : Lo 5 d := by
  obtain ⟨op, i, ls, st, rfl, hop, _, _, _, _, h1, h2⟩ := h
  refine lo_tup fun d hd => ?_
  simp only [List.mem_cons, List.not_mem_nil, or_false] at hd
  rcases hd with rfl | rfl | rfl | rfl
  · refine lo_str (so_ops _ ?_)
    simp only [List.mem_cons, List.not_mem_nil, or_false] at hop ⊢
    rcases hop with rfl | rfl | rfl | rfl <;> simp
  · exact lo_int
  · exact lo_vals h1
  · exact lo_vals h2
theorem lo_ent {d : PyData} (h : EntD d) : Lo 6 d := by
  obtain ⟨pd, dep, fr, back, tok, wd, rfl, hp, _, _, hf, h0, h1, ht, hw⟩ := h
  refine lo_tup fun d hd => ?_
  simp only [List.mem_cons, List.not_mem_nil, or_false] at hd
  rcases hd with rfl | rfl | rfl | rfl | rfl | rfl
  · exact (lo_proc hp).mono (by decide)
  · exact lo_int
  · exact lo_fr hf
  · by_cases e : dep = 0
    · rw [h0 e]
      exact Lo.mono (show Lo 1 (.tuple []) from ⟨by decide +kernel, by decide +kernel⟩) (by decide)
    · exact (lo_obj (h1 e)).mono (by decide)
  · rcases ht with ⟨x, y, rfl, _⟩ | ⟨rfl, _⟩
    · exact (lo_two (n := 0) lo_int lo_int).mono (by decide)
    · exact lo_non
  · refine lo_str (so_ops _ ?_)
    simp only [List.mem_cons, List.not_mem_nil, or_false] at hw ⊢
    rcases hw with rfl | rfl | rfl | rfl | rfl | rfl <;> simp
theorem lo_shaped {n : Nat} {d : PyData} (h : Lo n d) (hn : n ≤ 64) : SeqAt.shaped d = true := Nst.shaped_of h.1 (Nat.le_trans h.2 hn)
/-- t[:k] -/
theorem upto_rp {H : Hp} {x : V} {ds : List PyData} {k : Nat} {Q : VK} (hx : Rp K H x (.tuple ds)) (hk : k ≤ ds.length) (h : ∀ (v : V) (H' : Hp), Same H H' → Rp K H' v (.tuple (ds.take k)) → Q v H') : rSlA K x none (some (k : Int)) H Q := by
  obtain ⟨c, xs, rfl, hc, hxs⟩ := hx.tup_inv
  have hl := hxs.len
  have e0 : HT.sIx xs.length xs.length (some (k : Int)) = k := by
    rw [show HT.sIx xs.length xs.length (some (k : Int)) = min k xs.length from HT.sIx_nat _ _ k]
    omega
  have e1 : HT.sIx xs.length 0 none = 0 := rfl
  have ec : cutV xs none (some (k : Int)) = xs.take k := by
    unfold cutV
    rw [e0, e1]
    simp
  refine ⟨c, xs, rfl, hc, fun e => ?_, fun _ p np => ?_⟩
  · have z := e.2
    rw [e0] at z
    refine h _ _ (Same.refl H) ?_
    rw [List.take_of_length_le (by omega)]
    exact hx
  · rw [ec]
    exact h _ _ (Cm.same_new np) (Rp.made np (hxs.take k))
def key2 : PyData → PyData
  | .tuple (x :: y :: _) => .tuple [x, y]
  | _ => .none
def BundD (d : PyData) : Prop := ∃ (o : PyData) (mk : Str) (vs es : List PyData) (c : Int), d = .tuple [o, .str mk, .tuple vs, .tuple es, .int c] ∧ ObjD o ∧ mk ∈ (["start", "Box", "a1", "Z"] : List Str) ∧ vs.length ≤ 4 ∧ (∀ x ∈ vs, ValD x) ∧ es.length ≤ 4 ∧ (∀ x ∈ es, EntD x) ∧ 0 ≤ c ∧ c ≤ 1000000000000
theorem lo_bund {d : PyData} (h : BundD d) : Lo 8 d := by
  obtain ⟨o, mk, vs, es, c, rfl, ho, hm, _, hv, _, he, _⟩ := h
  refine (lo_tup (n := 7) fun d hd => ?_)
  simp only [List.mem_cons, List.not_mem_nil, or_false] at hd
  rcases hd with rfl | rfl | rfl | rfl | rfl
  · exact (lo_obj ho).mono (by decide)
  · refine lo_str (so_ops _ ?_)
    simp only [List.mem_cons, List.not_mem_nil, or_false] at hm ⊢
    rcases hm with rfl | rfl | rfl | rfl <;> simp
  · exact (lo_vals hv).mono (by decide)
  · exact lo_tup fun d hd => lo_ent (he d hd)
  · exact lo_int
theorem alike_intsB : ∀ ns zs : List Int, PySem.W.alikeAll (ns.map PyData.int) (zs.map PyData.int) = true
  | [], _ => by simp [PySem.W.alikeAll]
  | _ :: _, [] => by simp [PySem.W.alikeAll]
  | n :: ns, z :: zs => by simp [PySem.W.alikeAll, PySem.W.alike, alike_intsB ns zs]
def TriD (m : Nat) (d : PyData) : Prop := ∃ (pd : PyData) (dep : Int) (k : Nat), d = .tuple [pd, .int dep, .int (k : Int)] ∧ ProcD pd ∧ k < m
theorem tri_alike {m : Nat} {ts : List PyData} (h : ∀ t ∈ ts, TriD m t) : PySem.W.AllAlike ts := fun d hd d' hd' => by
  obtain ⟨pd, dep, k, rfl, ⟨ns, rfl, _⟩, _⟩ := h d hd
  obtain ⟨pd', dep', k', rfl, ⟨ns', rfl, _⟩, _⟩ := h d' hd'
  simp [PySem.W.alike, PySem.W.alikeAll, alike_intsB]
theorem tri_sortable {m : Nat} {ts : List PyData} (h : ∀ t ∈ ts, TriD m t) : PySem.W.Sortable ts := .inl fun d hd => by
  obtain ⟨pd, dep, k, rfl, _⟩ := h d hd
  exact ⟨_, _, rfl⟩
theorem tri_depth {m : Nat} {ts : List PyData} (h : ∀ t ∈ ts, TriD m t) : ∀ d ∈ ts, d.depth ≤ 50 := fun d hd => by
  obtain ⟨pd, dep, k, rfl, hp, _⟩ := h d hd
  have h2 : Lo 2 (.tuple [pd, .int dep, .int (k : Int)]) := lo_tup fun x hx => by
    simp only [List.mem_cons, List.not_mem_nil, or_false] at hx
    rcases hx with rfl | rfl | rfl
    · exact lo_proc hp
    · exact lo_int
    · exact lo_int
  exact Nat.le_trans h2.2 (by decide)
def spBundN (K : PySem.W.Frag) : Sp := fun vs H Q _ => ∃ (nu : Addr) (ns : List Int) (at_ : Int), vs = [.ref nu, .int at_] ∧ NumAt K H nu ns ∧ ∀ H' v d, Same H H' → Rp K H' v d → BundD d → Q v H'
theorem ok_lw_bundle (T : Txt K mg w a) : FnOk P w K mg base CX0 5 (He.ga K "_law_bundle") a.d_lw_bundle ["numbers", "at"] (spBundN K) := by
  refine T.F_lw_bundle.ok sc_lw_bundle (fun vs H Q E h => ?_) (fun cdv A outer s H vs Q E hr h => ?_)
  · obtain ⟨nu, ns, at_, rfl, _⟩ := h
    rfl
  · obtain ⟨nu, ns, at_, rfl, N, q⟩ := h
    obtain ⟨hnu, hok, hlen⟩ := id N
    refine ⟨_, PSs.nox (pss_cons (ps_set (i := 2) sc_lw_bundle.nd rfl (Or.inr rfl) (pe_lst pa_nil))
      (pss_cons (ps_for PassesOwn.never rfl (pi_range1 (by rfl) T.g_range (pa_cons (pe_op op_mod (pe_ix ix_list (pv 0) (pe_op op_mod (pe_callTy call_int1 (by rfl) T.g_int boot_int (pa_cons (pv 1) pa_nil)) (pe_callB call_len_seq (by rfl) T.g_len boot_len (pa_cons (pv 0) pa_nil))) (fun _ _ => rfl)) pe_int) pa_nil)) (pg_name (i := 3) sc_lw_bundle.nd rfl (Or.inl rfl))
      (pss_cons (ps_set (i := 4) sc_lw_bundle.nd rfl (Or.inr rfl) (pe_call (ok_lw_entry T) (hr.mono (by omega)) (by rfl) T.g_lw_entry T.F_lw_entry.kp T.b_lw_entry .nil pass0 (pa_cons (pv 0) (pa_cons (pe_callTy call_int1 (by rfl) T.g_int boot_int (pa_cons (pe_op op_add (pe_op op_add (pv 1) pe_int) (pe_op op_mul pe_int (pv 3))) pa_nil)) pa_nil))))
      (pss_one (ps_if (pt_cmpR op_eq (pe_callB call_len_seq (by rfl) T.g_len boot_len (pa_cons (pe_lc (own := [("one", 9)]) (g := gName 9) (tt := (tTest (tOp (rEqD K) (tSl (rSlA K) (tVar 9) tNoPart (tPart (tC (.int 2)))) (tSl (rSlA K) (tVar 4) tNoPart (tPart (tC (.int 2)))))))  (by rfl) sc_lw_bundle.nd (pi_list (pv 2)) (blkOk_by (own := [("one", 9)]) (N := N_lw_bundle) (sc := defScope s_lw_bundle) (by decide +kernel)) (fun _ _ _ _ _ => pg_name (i := 9) sc_lw_bundle.nd rfl (Or.inl rfl)) (fun _ _ _ _ _ => pts_one (pt_cmpR (op_eqD hr.units) (pe_slice sl_tupA (pv 9) po_none (po_some pe_int)) (pe_slice sl_tupA (pv 4) po_none (po_some pe_int)) (nomark _))) (fun _ _ _ _ _ => (pv 9))) pa_nil)) pe_int (nomark _)) (pss_one (ps_expr (pe_bm PySem.F.plainAttrs_list PySem.F.slot_list_append PySem.F.type_list_append mt_append (pv 2) (pa_cons (pv 4) pa_nil)))) pss_nil))))
      (pss_cons (ps_set (i := 5) sc_lw_bundle.nd rfl (Or.inl rfl) (pe_ix ix_list (pv 0) (pe_op op_mod (pe_callTy call_int1 (by rfl) T.g_int boot_int (pa_cons (pe_op op_add (pv 1) pe_int) pa_nil)) (pe_callB call_len_seq (by rfl) T.g_len boot_len (pa_cons (pv 0) pa_nil))) (fun _ _ => rfl)))
      (pss_cons (ps_set (i := 6) sc_lw_bundle.nd rfl (Or.inl rfl) (pe_ix ix_list (pe_lst (pa_cons pe_str (pa_cons pe_str (pa_cons pe_str (pa_cons pe_str pa_nil))))) (pe_op op_mod (pv 5) pe_int) (fun _ _ => rfl)))
      (pss_cons (ps_set (i := 7) sc_lw_bundle.nd rfl (Or.inl rfl) (pe_callB (SortN.call_sortL rfl hr.units) (by rfl) T.g_sorted boot_sorted (pa_cons (pe_lc (own := [("k", 3)]) (g := gName 3) (tt := tYes) (te := (tTup (tCons (tOp (rIxT K) (tOp (rIxL K) (tVar 2) (tVar 3)) (tC (.int 0))) (tCons (tOp (rIxT K) (tOp (rIxL K) (tVar 2) (tVar 3)) (tC (.int 1))) (tCons (tVar 3) tNil))))) (by rfl) sc_lw_bundle.nd (pi_range1 (by rfl) T.g_range (pa_cons (pe_callB call_len_seq (by rfl) T.g_len boot_len (pa_cons (pv 2) pa_nil)) pa_nil)) (blkOk_by (own := [("k", 3)]) (N := N_lw_bundle) (sc := defScope s_lw_bundle) (by decide +kernel)) (fun _ _ _ _ _ => pg_name (i := 3) sc_lw_bundle.nd rfl (Or.inl rfl)) (fun _ _ _ _ _ => pts_nil) (fun _ _ _ _ _ => (pe_tup (pa_cons (pe_ix (r := rIxT K) ix_tup (pe_ix (r := rIxL K) ix_list (pv 2) (pv 3) (fun _ _ => rfl)) pe_int (fun _ _ => rfl)) (pa_cons (pe_ix (r := rIxT K) ix_tup (pe_ix (r := rIxL K) ix_list (pv 2) (pv 3) (fun _ _ => rfl)) pe_int (fun _ _ => rfl)) (pa_cons (pv 3) pa_nil)))))) pa_nil)))
      (pss_cons (ps_set (i := 8) sc_lw_bundle.nd rfl (Or.inl rfl) (pe_callTy call_tuple_of (by rfl) T.g_tuple boot_tuple (pa_cons (pe_lc (own := [("one", 9)]) (g := gName 9) (tt := tYes) (te := (tOp (rIxL K) (tVar 2) (tOp (rIxT K) (tVar 9) (tC (.int 2))))) (by rfl) sc_lw_bundle.nd (pi_list (pv 7)) (blkOk_by (own := [("one", 9)]) (N := N_lw_bundle) (sc := defScope s_lw_bundle) (by decide +kernel)) (fun _ _ _ _ _ => pg_name (i := 9) sc_lw_bundle.nd rfl (Or.inl rfl)) (fun _ _ _ _ _ => pts_nil) (fun _ _ _ _ _ => (pe_ix (r := rIxL K) ix_list (pv 2) (pe_ix (r := rIxT K) ix_tup (pv 9) pe_int (fun _ _ => rfl)) (fun _ _ => rfl)))) pa_nil)))
      (pss_one (ps_ret (pe_tup (pa_cons (pe_call (ok_lw_object T) (hr.mono (by omega)) (by rfl) T.g_lw_object T.F_lw_object.kp T.b_lw_object .nil pass0 (pa_cons (pe_op op_fdiv (pv 5) pe_int) pa_nil)) (pa_cons (pv 6) (pa_cons (pe_call (ok_lw_values T) (hr.mono (by omega)) (by rfl) T.g_lw_values T.F_lw_values.kp T.b_lw_values .nil pass0 (pa_cons (pv 0) (pa_cons (pe_op op_add (pv 1) pe_int) (pa_cons pe_int pa_nil)))) (pa_cons (pv 8) (pa_cons (pe_ix ix_list (pe_lst (pa_cons pe_int (pa_cons pe_int (pa_cons pe_int (pa_cons (pe_op op_pow pe_int pe_int) pa_nil))))) (pe_op op_mod (pe_op op_fdiv (pv 5) pe_int) pe_int) (fun _ _ => rfl)) pa_nil)))))))))))))), ?_⟩
    rw [show L2.start N_lw_bundle [.ref nu, .int at_] = [some (.ref nu), some (.int at_), none, none, none, none, none, none, none, none] from rfl]
    refine ⟨Nat.zero_le _, fun en nen => ?_⟩
    have s0 := Cm.same_new (o := .lst []) nen
    obtain ⟨p0, n0, hn0, e0⟩ := at_mod (ns := ns) at_ (by omega)
    obtain ⟨g0, _⟩ := hok n0 hn0
    have N0 := N.same s0
    refine ⟨_, rfl, _, rfl, .inl ⟨_, rfl, _, rfl, nu, _, rfl, .inl (SqL.of N0.1), _, _, rfl, rfl, p0, nu, _, _, _, rfl, rfl, SqL.of N0.1, e0, _, _, rfl, rfl, (by show (0 : Int) < 5; decide), _, rfl, by omega, by omega, ?_⟩⟩
    refine for_range (n := (n0 % 5).toNat) (fun i σ H2 => ∃ (x3 x4 : Option V) (acc : List V) (ds : List PyData), σ = [some (.ref nu), some (.int at_), some (.ref en), x3, x4, none, none, none, none, none] ∧ Same H H2 ∧ H2 en = some (.lst acc) ∧ Rps K H2 acc ds ∧ (∀ d ∈ ds, EntD d) ∧ ds.length ≤ i)
      ⟨_, _, [], [], rfl, s0, upd_same, .nil, (fun _ h => nomatch h), Nat.le_refl _⟩ (fun i σ H2 hi ⟨x3, x4, acc, ds, e, s2, hen, rD, hE, lD⟩ => ?_) fun σ H2 ⟨x3, x4, acc, ds, e, s2, hen, rD, hE, lD⟩ => ?_
    · subst e
      refine ⟨_, rfl, _, rfl, _, _, rfl, rfl, _, rfl, _, _, rfl, rfl, .inl ⟨by decide, by decide⟩, _, _, rfl, rfl, .inl ⟨_, rfl, nu, ns, _, rfl, N.same s2, fun H3 v d s3 rv hd => ?_⟩⟩
      have hen3 := s3 _ _ hen
      have la := rD.len
      simp only [gName, List.set_cons_succ, List.set_cons_zero]
      refine ⟨_, rfl, en, rfl, ⟨_, SqL.of hen3⟩, fun D nD => ?_⟩
      simp only [List.map_cons, List.map_nil]
      refine lc_list (K := K) (a := en) (xs := acc) (fun n Hi => Same H3 Hi ∧ ∃ l, Hi D = some (.lst l) ∧ l.length ≤ n) ⟨Cm.same_new nD, [], upd_same, Nat.le_refl _⟩ (fun n Hi _ b => SqL.of (b.1 _ _ hen3)) (fun n y Hi hy b => ?_) fun Hi b => ?_
      · obtain ⟨sH, l, hDD, lD'⟩ := b
        refine ⟨rfl, ?_⟩
        simp only [List.map_cons, List.map_nil, List.set_cons_succ, List.set_cons_zero, wipe]
        have hn : n < ds.length := by
          rw [← la]
          exact (List.getElem?_eq_some_iff.mp hy).1
        obtain ⟨y', hy', ry⟩ := rD.at_ (List.getElem?_eq_getElem hn)
        rw [hy] at hy'
        cases hy'
        have h1 := hE _ (List.getElem_mem hn)
        generalize ds[n] = bd at ry h1
        have sh : ∀ {x : PyData}, EntD x → ∃ r, x = .tuple r ∧ 2 ≤ r.length ∧ SeqAt.shaped (.tuple (r.take 2)) = true := fun {x} hx => by
          obtain ⟨pd, dep, fr, back, tok, wd, rfl, hp, _⟩ := hx
          exact ⟨_, rfl, by show 2 ≤ 6; decide, lo_shaped (lo_two (lo_proc hp) lo_int) (by decide)⟩
        obtain ⟨r1, e1, l1, sh1⟩ := sh h1
        obtain ⟨r2, e2, l2, sh2⟩ := sh hd
        subst e1 e2
        refine ⟨_, rfl, _, rfl, upto_rp (k := 2) (ry.keep (Same.tups (s3.trans sH))) l1 fun v1 H5 s5 rv1 => ?_⟩
        refine ⟨_, rfl, _, rfl, upto_rp (k := 2) (rv.keep (Same.tups (sH.trans s5))) l2 fun v2 H6 s6 rv2 => ?_⟩
        have hD6 := s6 _ _ (s5 _ _ hDD)
        refine ⟨_, _, (rv1.keep (Same.tups s6)).dp, rv2.dp, sh1, sh2, _, rfl, Cm.itB (fun _ => ?_) fun _ => ?_⟩
        · exact ⟨_, rfl, l, hD6, Cm.smallL (by omega), Cm.same_mut (sH.trans (s5.trans s6)) nD, _, upd_same, by rw [List.length_append]; simp only [List.length_cons, List.length_nil]; omega⟩
        · exact ⟨sH.trans (s5.trans s6), l, hD6, by omega⟩
      · obtain ⟨sH, l, hDD, _⟩ := b
        have hen4 := sH _ _ hen3
        have s24 := s2.trans (s3.trans sH)
        refine ⟨D, _, rfl, .inl (SqL.of hDD), rfl, _, rfl, Cm.itEI (fun _ => ?_) fun _ => ?_⟩
        · refine ⟨_, rfl, .inl ⟨rfl, _, SqL.of hen4⟩, _, rfl, en, acc, _, rfl, rfl, hen4, Cm.smallL (by omega), ?_⟩
          have tk : TK K Hi (upd Hi en (.lst (acc ++ [v]))) := TK.upd (by rw [hen4]; exact True.intro)
          refine ⟨_, _, acc ++ [v], ds ++ [d], rfl, Cm.same_mut s24 nen, upd_same, rps_keep tk ((rD.keep (Same.tups (s3.trans sH))).app (.cons (rv.keep (Same.tups sH)) .nil)), fun x hx => ?_, by rw [List.length_append]; simp only [List.length_cons, List.length_nil]; omega⟩
          rcases List.mem_append.mp hx with hx | hx
          · exact hE x hx
          · rw [List.mem_singleton.mp hx]
            exact hd
        · exact ⟨_, _, acc, ds, rfl, s24, hen4, rD.keep (Same.tups (s3.trans sH)), hE, by omega⟩
    · subst e
      have N2 := N.same s2
      obtain ⟨p1, n1, hn1, e1⟩ := at_mod (ns := ns) (at_ + 1) (by omega)
      obtain ⟨g1, _⟩ := hok n1 hn1
      refine ⟨_, rfl, _, rfl, _, _, rfl, rfl, .inl ⟨_, rfl, _, rfl, nu, _, rfl, .inl (SqL.of N2.1), _, _, rfl, rfl, p1, nu, _, _, _, rfl, rfl, SqL.of N2.1, e1, ?_⟩⟩
      refine ⟨Cm.small (by show 4 ≤ 100000; decide), fun tm ntm => ?_⟩
      have s3 := Cm.same_new (o := .lst [.str "start", .str "Box", .str "a1", .str "Z"]) ntm
      obtain ⟨mk, hmk, emk⟩ := Cm.at_str (ws := ["start", "Box", "a1", "Z"]) (i := n1 % 4) (by omega) (by show n1 % 4 < 4; omega)
      have htm : (upd H2 tm (.lst [.str "start", .str "Box", .str "a1", .str "Z"])) tm = some (.lst ((["start", "Box", "a1", "Z"] : List Str).map V.str)) := upd_same
      have hen3 := s3 _ _ hen
      have rD3 := rD.keep (Same.tups s3)
      have s23 := s2.trans s3
      generalize upd H2 tm (.lst [.str "start", .str "Box", .str "a1", .str "Z"]) = H3 at *
      refine ⟨_, rfl, _, _, rfl, rfl, (by show (0 : Int) < 4; decide), tm, _, _, _, rfl, rfl, SqL.of htm, emk, ?_⟩
      have la := rD3.len
      simp only [gName, List.set_cons_succ, List.set_cons_zero]
      refine ⟨_, rfl, en, _, rfl, .inl (SqL.of hen3), _, rfl, by omega, by omega, fun D nD => ?_⟩
      simp only [List.map_cons, List.map_nil]
      refine lc_range (n := acc.length) (fun k Hi => Same H3 Hi ∧ ∃ l ts, Hi D = some (.lst l) ∧ Rps K Hi l ts ∧ (∀ t ∈ ts, TriD ds.length t) ∧ ts.length = k) ⟨Cm.same_new nD, [], [], upd_same, .nil, (fun _ h => nomatch h), rfl⟩ (fun k Hi hk ⟨sH, l, ts, hDD, rT, hT, lT⟩ => ?_) fun Hi ⟨sH, l, ts, hDD, rT, hT, lT⟩ => ?_
      · refine ⟨rfl, ?_⟩
        simp only [List.map_cons, List.map_nil, List.set_cons_succ, List.set_cons_zero, wipe]
        have hn : k < ds.length := by omega
        obtain ⟨y, hy, ry⟩ := rD3.at_ (List.getElem?_eq_getElem hn)
        have h1 := hE _ (List.getElem_mem hn)
        generalize ds[k] = bd at ry h1
        obtain ⟨pd, dep, fr, back, tok, wd, rfl, hp, _⟩ := h1
        obtain ⟨ca, vv, vr, rfl, hca, rp1, hvr⟩ := (show ∃ a' v' vs', y = .ref a' ∧ SqT K Hi a' (v' :: vs') ∧ Rp K Hi v' pd ∧ Rps K Hi vs' [.int dep, fr, back, tok, .str wd] from by
          obtain ⟨a', vs', e', h', r'⟩ := (ry.keep (Same.tups sH)).tup_inv
          obtain ⟨v', vs'', e'', h'', r''⟩ := r'.cons_inv
          subst e''
          exact ⟨a', v', vs'', e', h', h'', r''⟩)
        obtain ⟨v2, vr2, rfl, hv2, _⟩ := hvr.cons_inv
        obtain rfl := hv2.int_inv
        have heni := sH _ _ hen3
        have ek : atI acc (0 + (k : Int)) = some (.ref ca) := by
          rw [Int.zero_add]
          exact atI_nat hy
        refine ⟨_, rfl, _, rfl, en, _, _, _, rfl, rfl, SqL.of heni, ek, ca, _, 0, _, rfl, rfl, hca, atI_nat (j := 0) rfl, ?_⟩
        refine ⟨_, rfl, _, rfl, en, _, _, _, rfl, rfl, SqL.of heni, ek, ca, _, 1, _, rfl, rfl, hca, atI_nat (j := 1) rfl, _, rfl, Cm.small (by show 3 ≤ 100000; decide), fun t nt => ?_⟩
        have st := Cm.same_new (o := .tup [vv, .int dep, .int (0 + (k : Int))]) nt
        have hDt := st _ _ hDD
        have rt := Rp.made nt (.cons rp1 (.cons (.int dep) (.cons (.int (0 + (k : Int))) .nil)))
        have tk : TK K (upd Hi t (.tup [vv, .int dep, .int (0 + (k : Int))])) (upd (upd Hi t (.tup [vv, .int dep, .int (0 + (k : Int))])) D (.lst (l ++ [.ref t]))) := TK.upd (by rw [hDt]; exact True.intro)
        have ll := rT.len
        refine ⟨l, hDt, Cm.smallL (by omega), Cm.same_mut (sH.trans st) nD, l ++ [.ref t], _, upd_same, rps_keep tk ((rT.keep (Same.tups st)).app (.cons rt .nil)), fun x hx => ?_, by rw [List.length_append, lT]; rfl⟩
        rcases List.mem_append.mp hx with hx | hx
        · exact hT x hx
        · rw [List.mem_singleton.mp hx, Int.zero_add]
          exact ⟨pd, dep, k, rfl, hp, hn⟩
      · refine ⟨D, l, ts, rfl, SqL.of hDD, rT, tri_alike hT, tri_sortable hT, tri_depth hT, fun ys po rys npo => ?_⟩
        have s4 := Cm.same_new (o := .lst ys) npo
        have hpo : (upd Hi po (.lst ys)) po = some (.lst ys) := upd_same
        have rys := rys.keep (Same.tups s4)
        have s34 := sH.trans s4
        have hen4 := s34 _ _ hen3
        have rD4 := rD3.keep (Same.tups s34)
        generalize upd Hi po (.lst ys) = H4 at *
        have lys : ys.length = ts.length := by rw [rys.len, List.length_mergeSort]
        refine ⟨_, rfl, po, rfl, ⟨_, SqL.of hpo⟩, fun D2 nD2 => ?_⟩
        simp only [List.map_cons, List.map_nil]
        refine lc_list (K := K) (a := po) (xs := ys) (fun n Hj => Same H4 Hj ∧ ∃ l es, Hj D2 = some (.lst l) ∧ Rps K Hj l es ∧ (∀ x ∈ es, EntD x) ∧ es.length = n) ⟨Cm.same_new nD2, [], [], upd_same, .nil, (fun _ h => nomatch h), rfl⟩ (fun n Hj _ b => SqL.of (b.1 _ _ hpo)) (fun n y Hj hy b => ?_) fun Hj b => ?_
        · obtain ⟨sJ, l2, es, hD2, rE, hE2, lE⟩ := b
          refine ⟨rfl, ?_⟩
          simp only [List.map_cons, List.map_nil, List.set_cons_succ, List.set_cons_zero, wipe]
          have hn : n < (SortN.srt ts).length := by
            rw [← rys.len]
            exact (List.getElem?_eq_some_iff.mp hy).1
          have lsr : (SortN.srt ts).length = ts.length := List.length_mergeSort ..
          obtain ⟨y', hy', ry⟩ := rys.at_ (List.getElem?_eq_getElem hn)
          rw [hy] at hy'
          cases hy'
          have hmem := (List.mergeSort_perm ts SortN.dle).mem_iff.mp (List.getElem_mem hn)
          have h1 := hT _ hmem
          generalize (SortN.srt ts)[n] = bd at ry h1
          obtain ⟨pd, dep, kk, rfl, hp, hkk⟩ := h1
          obtain ⟨ct, cs, rfl, hct, hcs⟩ := (ry.keep (Same.tups sJ)).tup_inv
          obtain ⟨c1, r1, rfl, _, hr1⟩ := hcs.cons_inv
          obtain ⟨c2, r2, rfl, _, hr2⟩ := hr1.cons_inv
          obtain ⟨c3, r3, rfl, hc3, hr3⟩ := hr2.cons_inv
          obtain rfl := hc3.int_inv
          obtain ⟨z, hz, rz⟩ := rD4.at_ (List.getElem?_eq_getElem hkk)
          have hZ := hE _ (List.getElem_mem hkk)
          have henj := sJ _ _ hen4
          have ll := rE.len
          refine ⟨_, rfl, _, rfl, ct, _, 2, _, rfl, rfl, hct, atI_nat (j := 2) rfl, en, _, _, z, rfl, rfl, SqL.of henj, atI_nat hz, ?_⟩
          have tk : TK K Hj (upd Hj D2 (.lst (l2 ++ [z]))) := TK.upd (by rw [hD2]; exact True.intro)
          refine ⟨l2, hD2, Cm.smallL (by omega), Cm.same_mut sJ nD2, l2 ++ [z], _, upd_same, rps_keep tk (rE.app (.cons (rz.keep (Same.tups sJ)) .nil)), fun x hx => ?_, by rw [List.length_append, lE]; rfl⟩
          rcases List.mem_append.mp hx with hx | hx
          · exact hE2 x hx
          · rw [List.mem_singleton.mp hx]
            exact hZ
        · obtain ⟨sJ, l2, es, hD2, rE, hE2, lE⟩ := b
          have s3J := s34.trans sJ
          refine ⟨D2, l2, rfl, .inl ⟨SqL.of hD2, fun tr ntr => ?_⟩⟩
          have s5 := Cm.same_new (o := .tup l2) ntr
          have rr := Rp.made ntr rE
          have sA := (s23.trans s3J).trans s5
          have N5 := N.same sA
          generalize upd Hj tr (.tup l2) = H5 at *
          refine ⟨_, rfl, _, _, rfl, rfl, ⟨by decide, by decide⟩, n1 / 4, rfl, by omega, fun H6 v pd j _ s6 rv hpd hj0 hj1 _ => ?_⟩
          refine ⟨_, rfl, _, rfl, _, rfl, _, _, rfl, rfl, nu, ns, _, 4, rfl, N5.same s6, by decide, fun H7 lv ls s7 rls lls vls => ?_⟩
          refine ⟨_, rfl, _, _, rfl, rfl, ⟨by decide, by decide, by decide⟩, Cm.small (by show 4 ≤ 100000; decide), fun tc ntc => ?_⟩
          have s8 := Cm.same_new (o := .lst [.int 0, .int 1, .int 7, .int (10 ^ (12 : Int).toNat)]) ntc
          obtain ⟨c, hc, ec⟩ := Cm.at_int (ns := [0, 1, 7, 10 ^ (12 : Int).toNat]) (i := n1 / 16 % 4) (by omega) (by show n1 / 16 % 4 < 4; omega)
          refine ⟨_, rfl, _, _, rfl, rfl, ⟨by decide, by decide⟩, _, _, rfl, rfl, (by show (0 : Int) < 4; decide), tc, _, _, _, rfl, rfl, Cm.sql_new, ec, Cm.small (by show 5 ≤ 100000; decide), fun tb ntb => ?_⟩
          have hcb : 0 ≤ c ∧ c ≤ 1000000000000 := by
            simp only [List.mem_cons, List.not_mem_nil, or_false] at hc
            rcases hc with rfl | rfl | rfl | rfl <;> decide +kernel
          have s78 := s7.trans s8
          refine q _ _ _ ((sA.trans s6).trans (s78.trans (Cm.same_new ntb))) (Rp.made ntb (.cons (rv.keep (Same.tups s78)) (.cons (.str mk) (.cons (rls.keep (Same.tups s8)) (.cons (rr.keep (Same.tups (s6.trans s78))) (.cons (.int c) .nil)))))) ?_
          exact ⟨_, mk, ls, es, c, rfl, ⟨pd, j, rfl, hpd, hj0, hj1⟩, hmk, lls, vls, by omega, hE2, hcb.1, hcb.2⟩
def abvD (e b : PyData) : Bool := PySem.W.dataLt (key2 b) (key2 e)
def HeadOk (d : PyData) : Prop := ∃ (ns : List Int) (n : Int) (r : List PyData), d = .tuple (.tuple (ns.map PyData.int) :: .int n :: r) ∧ r.length = 4
def spAbove (K : PySem.W.Frag) : Sp := fun vs H Q _ => ∃ (v1 v2 : V) (e b : PyData), vs = [v1, v2] ∧ Rp K H v1 e ∧ Rp K H v2 b ∧ HeadOk e ∧ HeadOk b ∧ ∀ H', Same H H' → Q (.bl (abvD e b)) H'
theorem key2_depth {d : PyData} (h : HeadOk d) : (key2 d).depth ≤ 40 := by
  obtain ⟨ns, n, r, rfl, _⟩ := h
  have := depth_intsB ns
  simp only [key2, PyData.depth, PyData.depthAll]
  omega
theorem key2_alike {d e : PyData} (h : HeadOk d) (h' : HeadOk e) : PySem.W.alike (key2 d) (key2 e) = true := by
  obtain ⟨ns, n, r, rfl, _⟩ := h
  obtain ⟨ns', n', r', rfl, _⟩ := h'
  simp [key2, PySem.W.alike, PySem.W.alikeAll, alike_intsB]
theorem key2_no {d : PyData} (h : HeadOk d) : key2 d ≠ .none := by
  obtain ⟨ns, n, r, rfl, _⟩ := h
  exact fun z => nomatch z
theorem ok_is_above (T : Txt K mg w a) : FnOk P w K mg base CX0 1 (He.ga K "_is_above") a.d_is_above ["entry", "before"] (spAbove K) := by
  refine T.F_is_above.ok sc_is_above (fun vs H Q E h => ?_) (fun cdv A outer s H vs Q E hr h => ?_)
  · obtain ⟨v1, v2, e, b, rfl, _⟩ := h
    rfl
  · obtain ⟨v1, v2, e, b, rfl, r1, r2, h1, h2, q⟩ := h
    refine ⟨_, PSs.nox (pss_one (ps_ret (pe_cmpR (GtD.op_gtD hr.units) (pe_slice sl_tupA (pv 0) po_none (po_some pe_int)) (pe_slice sl_tupA (pv 1) po_none (po_some pe_int)) (nomark _)))), ?_⟩
    have k1 : ∃ ds, e = .tuple ds ∧ 2 ≤ ds.length ∧ .tuple (ds.take 2) = key2 e := by
      obtain ⟨ns, n, r, rfl, _⟩ := h1
      exact ⟨_, rfl, by simp, rfl⟩
    have k2 : ∃ ds, b = .tuple ds ∧ 2 ≤ ds.length ∧ .tuple (ds.take 2) = key2 b := by
      obtain ⟨ns, n, r, rfl, _⟩ := h2
      exact ⟨_, rfl, by simp, rfl⟩
    obtain ⟨ds1, rfl, l1, t1⟩ := k1
    obtain ⟨ds2, rfl, l2, t2⟩ := k2
    refine ⟨_, rfl, _, rfl, upto_rp (k := 2) r1 l1 fun w1 H1 s1 x1 => ?_⟩
    refine ⟨_, rfl, _, rfl, upto_rp (k := 2) (r2.keep (Same.tups s1)) l2 fun w2 H2 s2 x2 => ?_⟩
    rw [t1] at x1
    rw [t2] at x2
    exact ⟨_, _, (x1.keep (Same.tups s2)).dp, x2.dp, key2_alike h1 h2, key2_no h1, key2_depth h1, q H2 (s1.trans s2)⟩
theorem entD_head {d : PyData} (h : entD d = true) : HeadOk d := by
  unfold entD at h
  split at h
  · rename_i p dp f b t w
    have h1 := (Bool.and_eq_true_iff.mp h).1
    have h2 := Bool.and_eq_true_iff.mp h1
    have h3 := (Bool.and_eq_true_iff.mp h2.2).1
    cases p with
    | tuple ds =>
      cases dp with
      | int n =>
        have hds : ∀ x ∈ ds, natD x = true := List.all_eq_true.mp h2.1
        obtain ⟨ns, rfl⟩ : ∃ ns : List Int, ds = ns.map PyData.int := by
          clear h h1 h2 h3
          induction ds with
          | nil => exact ⟨[], rfl⟩
          | cons x r ih =>
            obtain ⟨ns, e⟩ := ih fun y hy => hds y (List.mem_cons_of_mem _ hy)
            have hx := hds x List.mem_cons_self
            cases x with
            | int m => exact ⟨m :: ns, by rw [e]; rfl⟩
            | _ => cases hx
        exact ⟨ns, n, [f, b, t, w], rfl, rfl⟩
      | _ => cases h3
    | _ => cases h2.1
  · cases h
def chainD : List PyData → Bool
  | x :: y :: r => abvD y x && chainD (y :: r)
  | _ => true
def entsD : PyData → Bool
  | .tuple ds => ds.all entD && (List.zipWith (fun b e => abvD e b) ds ds.tail).all id
  | _ => false
def bunD : PyData → Bool
  | .tuple [n, m, f, es, c] => (objD n && (codeD m && (valsD f && natD c))) && entsD es
  | _ => false
theorem bunD_no {d : PyData} (h : rowD 5 d = false) : bunD d = false := by
  unfold bunD
  split
  · cases h
  · rfl
def EntOk (d : PyData) : Prop := ∀ p dp f b t w, d = .tuple [p, dp, f, b, t, w] → ∃ z, w = .str z
def spBun (K : PySem.W.Frag) : Sp := fun vs H Q _ => ∃ (v : V) (d : PyData), vs = [v] ∧ Rp K H v d ∧ Fit d ∧ (∀ n m f ds c, d = .tuple [n, m, f, .tuple ds, c] → ∀ x ∈ ds, EntOk x) ∧ ∀ H', Same H H' → Q (.bl (bunD d)) H'
theorem from_sq {H : Hp} {c : Addr} {xs : List V} {Q : VK} (hc : SqT K H c xs) (h : ∀ (q : Addr) (H' : Hp), Same H H' → SqT K H' q (xs.drop 1) → Q (.ref q) H') : rSlA K (.ref c) (some 1) none H Q := by
  have e0 : HT.sIx xs.length 0 (some (1 : Int)) = min 1 xs.length := HT.sIx_nat _ _ 1
  have e1 : HT.sIx xs.length xs.length none = xs.length := rfl
  refine ⟨c, xs, rfl, hc, fun e => ?_, fun _ p np => ?_⟩
  · have z := e.1
    rw [e0] at z
    refine h _ _ (Same.refl H) ?_
    have : xs = [] := by
      cases xs with
      | nil => rfl
      | cons x r => simp at z
    subst this
    exact hc
  · have ec : cutV xs (some 1) none = xs.drop 1 := by
      unfold cutV
      rw [e0, e1]
      cases xs with
      | nil => rfl
      | cons x r =>
        have : min 1 (x :: r).length = 1 := by simp
        rw [this]
        simp
    rw [ec]
    exact h _ _ (Cm.same_new np) Cm.sqt_new
theorem ok_is_bundle (T : Txt K mg w a) : FnOk P w K mg base CX0 9 (He.ga K "is_bundle") a.d_is_bundle ["value"] (spBun K) := by
  refine T.F_is_bundle.ok sc_is_bundle (fun vs H Q E h => ?_) (fun cdv A outer s H vs Q E hr h => ?_)
  · obtain ⟨v, d, rfl, _⟩ := h
    rfl
  · obtain ⟨v, d, rfl, r, f, ws, q⟩ := h
    refine ⟨_, PSs.nox (pss_cons (ps_if (pt_not (pt_val (pe_call (ok_is_row T) (hr.mono (by omega)) (by rfl) T.g_is_row T.F_is_row.kp T.b_is_row .nil pass0 (pa_cons (pv 0) (pa_cons pe_int pa_nil))))) (pss_one (ps_ret pe_bl)) pss_nil)
      (pss_cons (ps_asg (pv 0) (pg_tup (by rfl) (pgs_cons (pg_name (i := 1) sc_is_bundle.nd rfl (Or.inl rfl)) (pgs_cons (pg_name (i := 2) sc_is_bundle.nd rfl (Or.inl rfl)) (pgs_cons (pg_name (i := 3) sc_is_bundle.nd rfl (Or.inl rfl)) (pgs_cons (pg_name (i := 4) sc_is_bundle.nd rfl (Or.inl rfl)) (pgs_cons (pg_name (i := 5) sc_is_bundle.nd rfl (Or.inl rfl)) pgs_nil)))))))
      (pss_cons (ps_if (pt_not (PW.pt (pw_and (pt_val (pe_call (ok_is_object_name T) (hr.mono (by omega)) (by rfl) T.g_is_object_name T.F_is_object_name.kp T.b_is_object_name .nil pass0 (pa_cons (pv 1) pa_nil))) (pw_and (pt_val (pe_call (ok_is_code_name T) (hr.mono (by omega)) (by rfl) T.g_is_code_name T.F_is_code_name.kp T.b_is_code_name .nil pass0 (pa_cons (pv 2) pa_nil))) (pw_and (pt_val (pe_call (ok_are_values T) (hr.mono (by omega)) (by rfl) T.g_are_values T.F_are_values.kp T.b_are_values .nil pass0 (pa_cons (pv 3) pa_nil))) (pw_and1 (pt_val (pe_call (ok_is_natural T) (hr.mono (by omega)) (by rfl) T.g_is_natural T.F_is_natural.kp T.b_is_natural .nil pass0 (pa_cons (pv 5) pa_nil))))))))) (pss_one (ps_ret pe_bl)) pss_nil)
      (pss_cons (ps_if (PW.pt (pw_or (pt_not (pt_val (pe_callB call_isi (by rfl) T.g_isinstance boot_isinstance (pa_cons (pv 4) (pa_cons (pe_bltn (v := .ty "tuple") (by rfl) T.g_tuple boot_tuple rfl) pa_nil))))) (pw_or1 (pt_not (pt_val (pe_callB (cr_all rfl) (by rfl) T.g_all boot_all (pa_cons (pe_lc (own := [("entry", 7)]) (g := gName 7) (tt := tYes)  (by rfl) sc_is_bundle.nd (pi_tup (pv 4)) (blkOk_by (own := [("entry", 7)]) (N := N_is_bundle) (sc := defScope s_is_bundle) (by decide +kernel)) (fun _ _ _ _ _ => pg_name (i := 7) sc_is_bundle.nd rfl (Or.inl rfl)) (fun _ _ _ _ _ => pts_nil) (fun _ _ _ _ _ => (pe_call (ok_is_entry T) (hr.mono (by omega)) (by rfl) T.g_is_entry T.F_is_entry.kp T.b_is_entry .nil pass0 (pa_cons (pv 7) pa_nil)))) pa_nil))))))) (pss_one (ps_ret pe_bl)) pss_nil)
      (pss_one (ps_ret (pe_callB (cr_all rfl) (by rfl) T.g_all boot_all (pa_cons (pe_lc (own := [("before", 6), ("entry", 7)]) (g := gTup K 2 (gCons (gName 6) (gCons (gName 7) gNil))) (tt := tYes)  (by rfl) sc_is_bundle.nd (RZ.pi_zipA (by rfl) T.g_zip (pa_cons (pv 4) (pa_cons (pe_slice sl_tupA (pv 4) (po_some pe_int) po_none) pa_nil))) (blkOk_by (own := [("before", 6), ("entry", 7)]) (N := N_is_bundle) (sc := defScope s_is_bundle) (by decide +kernel)) (fun _ _ _ _ _ => (pg_tup (by rfl) (pgs_cons (pg_name (i := 6) sc_is_bundle.nd rfl (Or.inl rfl)) (pgs_cons (pg_name (i := 7) sc_is_bundle.nd rfl (Or.inl rfl)) pgs_nil)))) (fun _ _ _ _ _ => pts_nil) (fun _ _ _ _ _ => (pe_call (ok_is_above T) (hr.mono (by omega)) (by rfl) T.g_is_above T.F_is_above.kp T.b_is_above .nil pass0 (pa_cons (pv 7) (pa_cons (pv 6) pa_nil))))) pa_nil)))))))), ?_⟩
    rw [show L2.start N_is_bundle [v] = [some v, none, none, none, none, none, none, none] from rfl]
    refine ⟨_, rfl, v, d, 5, rfl, r, _, rfl, Cm.itBn (fun e => ?_) fun e => ?_⟩
    · have := q H (Same.refl _)
      rw [bunD_no e] at this
      exact this
    · obtain ⟨ds0, rfl, hl⟩ := rowD_len (n := 5) e
      match ds0, hl with
      | [nm, mk, fs, es, ct], _ =>
      obtain ⟨p, vs, rfl, ht, rs⟩ := r.tup_inv
      obtain ⟨v1, r1, rfl, w1, rs⟩ := rs.cons_inv
      obtain ⟨v2, r2, rfl, w2, rs⟩ := rs.cons_inv
      obtain ⟨v3, r3, rfl, w3, rs⟩ := rs.cons_inv
      obtain ⟨v4, r4, rfl, w4, rs⟩ := rs.cons_inv
      obtain ⟨v5, r5, rfl, w5, rs⟩ := rs.cons_inv
      obtain rfl := rs.nil_inv
      have fa := f.at_
      have q : ∀ H', Same H H' → Q (.bl ((objD nm && (codeD mk && (valsD fs && natD ct))) && entsD es)) H' := q
      refine ⟨_, rfl, p, _, rfl, ht, rfl, _, _, rfl, _, _, rfl, _, _, rfl, _, _, rfl, _, _, rfl, rfl, ?_⟩
      refine ⟨_, rfl, v1, nm, rfl, w1, fa nm (by simp), fun H1 s1 => ⟨_, rfl, Cm.itB (fun e1 => ?_) fun e1 => ?_⟩⟩
      · rw [e1, Bool.true_and] at q
        refine ⟨_, rfl, v2, mk, rfl, w2.keep (Same.tups s1), fa mk (by simp), fun H2 s2 => ⟨_, rfl, Cm.itB (fun e2 => ?_) fun e2 => ?_⟩⟩
        · rw [e2, Bool.true_and] at q
          have s12 := s1.trans s2
          refine ⟨_, rfl, v3, fs, rfl, w3.keep (Same.tups s12), fa fs (by simp), fun H3 s3 => ⟨_, rfl, Cm.itB (fun e3 => ?_) fun e3 => ?_⟩⟩
          · rw [e3, Bool.true_and] at q
            have s13 := s12.trans s3
            refine ⟨_, rfl, v5, ct, rfl, w5.keep (Same.tups s13), fa ct (by simp), fun H4 s4 => ⟨_, rfl, ?_⟩⟩
            have s14 := s13.trans s4
            refine Cm.itBn (fun e4 => ?_) fun e4 => ?_
            · rw [e4, Bool.false_and] at q
              exact q H4 s14
            · rw [e4, Bool.true_and] at q
              have w4' := w4.keep (Same.tups s14)
              obtain ⟨t1, h1, k1⟩ := isiT w4'
              refine ⟨_, rfl, _, _, _, _, _, rfl, .ty "tuple", h1, k1, _, rfl, ?_⟩
              refine Cm.itBn (fun e5 => ?_) fun e5 => ?_
              · rw [show entsD es = false from by unfold entsD; split <;> first | rfl | cases e5] at q
                exact iteT (q H4 s14)
              · cases w4' with
                | non => cases e5
                | bl b => cases e5
                | int i => cases e5
                | str x => cases e5
                | @tup pe xs ds hte rse =>
                have fe := fa (.tuple ds) (by simp)
                have fea := fe.at_
                have fel := fe.len
                have hlen := rse.len
                have wse := ws _ _ _ _ _ rfl
                have q : ∀ H', Same H H' → Q (.bl (ds.all entD && (List.zipWith (fun b e => abvD e b) ds ds.tail).all id)) H' := q
                refine ⟨_, rfl, pe, rfl, ⟨_, hte⟩, fun D nD => ?_⟩
                refine lc_tup (K := K) (a := pe) (xs := xs) (fun j Hj => Same H4 Hj ∧ ∃ bs : List Bool, Hj D = some (.lst (bs.map V.bl)) ∧ bs = (ds.take j).map entD ∧ bs.length ≤ j) ⟨Cm.same_new nD, [], upd_same, rfl, Nat.le_refl _⟩ (fun j Hj _ b => Cm.sameT b.1 hte) (fun j y Hj hy b => ?_) fun Hj b => ?_
                · obtain ⟨sJ, bs, hD, eb, lb⟩ := b
                  refine ⟨rfl, ?_⟩
                  have hn : j < ds.length := by
                    rw [← hlen]
                    exact (List.getElem?_eq_some_iff.mp hy).1
                  obtain ⟨y', hy', ry⟩ := rse.at_ (i := j) (d := ds[j]) (List.getElem?_eq_getElem hn)
                  rw [hy] at hy'
                  cases hy'
                  refine ⟨_, rfl, y, ds[j], rfl, ry.keep (Same.tups sJ), fea _ (List.getElem_mem hn), wse _ (List.getElem_mem hn), fun H2 s2 => ?_⟩
                  refine ⟨_, s2 _ _ hD, Cm.smallL (by rw [List.length_map]; omega), Cm.same_mut (sJ.trans s2) nD, bs ++ [entD ds[j]], ?_, ?_, by rw [List.length_append]; simp only [List.length_cons, List.length_nil]; omega⟩
                  · rw [upd_same, List.map_append]
                    rfl
                  · rw [List.take_succ, List.getElem?_eq_getElem hn, List.map_append, eb]
                    rfl
                · obtain ⟨sJ, bs, hD, eb, lb⟩ := b
                  rw [hlen, List.take_length] at eb
                  refine ⟨D, bs, rfl, SqL.of hD, _, rfl, ?_⟩
                  rw [eb, all_map]
                  have sHj := s14.trans sJ
                  refine Cm.itBn (fun e6 => ?_) fun e6 => ?_
                  · rw [e6, Bool.false_and] at q
                    exact q Hj sHj
                  · rw [e6, Bool.true_and] at q
                    have heads : ∀ x ∈ ds, HeadOk x := fun x hx => entD_head (List.all_eq_true.mp e6 x hx)
                    refine ⟨_, rfl, _, rfl, _, rfl, ?_⟩
                    unfold tNoPart
                    refine from_sq (Cm.sameT sJ hte) fun pq H5 s5 hpq => ?_
                    have sJ5 := sJ.trans s5
                    have hte5 := Cm.sameT sJ5 hte
                    have rse5 := rse.keep (Same.tups sJ5)
                    refine ⟨pe, pq, xs, xs.drop 1, rfl, .inr ⟨hte5, hpq, fun D2 nD2 => ?_⟩⟩
                    refine GtD.lc_zipT (K := K) (a := pe) (b := pq) (xs := xs) (ys := xs.drop 1) (fun j Hk => Same H5 Hk ∧ ∃ bs : List Bool, Hk D2 = some (.lst (bs.map V.bl)) ∧ bs = (List.zipWith (fun b e => abvD e b) ds ds.tail).take j ∧ bs.length ≤ j) ⟨Cm.same_new nD2, [], upd_same, rfl, Nat.le_refl _⟩ (fun j Hk b => ⟨Cm.sameT b.1 hte5, Cm.sameT b.1 hpq⟩) (fun j x y Tq Hk hx hy b nT => ?_) fun Hk b => ?_
                    · obtain ⟨sK, bs, hD, eb, lb⟩ := b
                      rw [List.getElem?_drop] at hy
                      have h1 : j < ds.length := by
                        rw [← hlen]
                        exact (List.getElem?_eq_some_iff.mp hx).1
                      have h2 : 1 + j < ds.length := by
                        rw [← hlen]
                        exact (List.getElem?_eq_some_iff.mp hy).1
                      obtain ⟨x', hx', rx⟩ := rse5.at_ (i := j) (d := ds[j]) (List.getElem?_eq_getElem h1)
                      rw [hx] at hx'
                      cases hx'
                      obtain ⟨y', hy', ry⟩ := rse5.at_ (i := 1 + j) (d := ds[1 + j]) (List.getElem?_eq_getElem h2)
                      rw [hy] at hy'
                      cases hy'
                      have sT := Cm.same_new (o := .tup [x, y]) nT
                      have sKT := sK.trans sT
                      refine ⟨Tq, _, rfl, Cm.sqt_new, rfl, _, _, rfl, _, _, rfl, rfl, ?_⟩
                      refine ⟨rfl, ?_⟩
                      refine ⟨_, rfl, _, rfl, y, x, ds[1 + j], ds[j], rfl, ry.keep (Same.tups sKT), rx.keep (Same.tups sKT), heads _ (List.getElem_mem h2), heads _ (List.getElem_mem h1), fun H7 s7 => ?_⟩
                      refine ⟨_, s7 _ _ (sT _ _ hD), Cm.smallL (by rw [List.length_map]; omega), Cm.same_mut (sKT.trans s7) nD2, bs ++ [abvD ds[1 + j] ds[j]], ?_, ?_, by rw [List.length_append]; simp only [List.length_cons, List.length_nil]; omega⟩
                      · rw [upd_same, List.map_append]
                        rfl
                      · have ez : (List.zipWith (fun b e => abvD e b) ds ds.tail)[j]? = some (abvD ds[1 + j] ds[j]) := by
                          rw [List.getElem?_zipWith, List.getElem?_tail, List.getElem?_eq_getElem h1, show j + 1 = 1 + j from Nat.add_comm _ _, List.getElem?_eq_getElem h2]
                        rw [List.take_succ, ez, eb]
                        rfl
                    · obtain ⟨sK, bs, hD, eb, lb⟩ := b
                      rw [List.take_of_length_le (by rw [List.length_zipWith, List.length_tail, List.length_drop, hlen]; exact Nat.le_refl _)] at eb
                      refine ⟨D2, bs, rfl, SqL.of hD, ?_⟩
                      rw [eb]
                      exact q Hk (sHj.trans (s5.trans sK))
          · rw [e3, Bool.false_and, Bool.false_and] at q
            exact iteT (q H3 (s12.trans s3))
        · rw [e2, Bool.false_and, Bool.false_and] at q
          exact iteT (q H2 (s1.trans s2))
      · rw [e1, Bool.false_and, Bool.false_and] at q
        exact iteT (q H1 s1)
/-! ### what is drawn is right -/
theorem natD_of {n : Int} (h0 : 0 ≤ n) (h1 : n ≤ 1000000000000) : natD (.int n) = true := by
  show (decide (0 ≤ n) && decide (n ≤ 1000000000000)) = true
  rw [decide_eq_true h0, decide_eq_true h1]
  rfl
theorem procD_of {d : PyData} (h : ProcD d) : procD d = true := by
  obtain ⟨ns, rfl, _, hn⟩ := h
  refine List.all_eq_true.mpr fun x hx => ?_
  obtain ⟨n, hn', rfl⟩ := List.mem_map.mp hx
  obtain ⟨a, b⟩ := hn n hn'
  exact natD_of a (by omega)
theorem objD_of {d : PyData} (h : ObjD d) : objD d = true := by
  obtain ⟨pd, j, rfl, hp, h0, h1⟩ := h
  show (procD pd && natD (.int j)) = true
  rw [procD_of hp, natD_of h0 (by omega)]
  rfl
theorem valD_of {d : PyData} (h : ValD d) : valD d = true := by
  rcases h with rfl | ⟨o, ho, rfl⟩ | ⟨i, rfl, h0, h1⟩
  · decide +kernel
  · show (PyData.eqv (.tuple [.str "ref", o]) (.tuple [.str "nil"]) || (PyData.eqv (.str "ref") (.str "ref") && objD o)) = true
    rw [objD_of ho, show PyData.eqv (.str "ref") (.str "ref") = true from by decide +kernel]
    simp
  · show (decide (-1000000000000 ≤ i) && decide (i ≤ 1000000000000)) = true
    rw [decide_eq_true h0, decide_eq_true h1]
    rfl
theorem valsD_of {ds : List PyData} (h : ∀ x ∈ ds, ValD x) : valsD (.tuple ds) = true := List.all_eq_true.mpr fun x hx => valD_of (h x hx)
theorem codes_op : ∀ x ∈ (["start", "get", "f2", "Put"] : List Str), codeD (.str x) = true := by decide +kernel
theorem codes_mk : ∀ x ∈ (["start", "Box", "a1", "Z"] : List Str), codeD (.str x) = true := by decide +kernel
theorem words_ok : ∀ x ∈ wordsF, wOk (.str x) = true := by decide +kernel
theorem frD_of {d : PyData} (h : FrD d) : frD d = true := by
  obtain ⟨op, i, ls, st, rfl, ho, h0, h1, _, _, hl, hs⟩ := h
  show (codeD (.str op) && (natD (.int i) && (valsD (.tuple ls) && valsD (.tuple st)))) = true
  rw [codes_op op ho, natD_of h0 (by omega), valsD_of hl, valsD_of hs]
  rfl
theorem tokD_of {t : PyData} {w : Str} (h : TokD t w) (hw : w ∈ wordsF) : tokW t (.str w) = true := by
  rcases h with ⟨x, y, rfl, h0, h1, h2, h3⟩ | ⟨rfl, rfl⟩
  · show (rowD 2 (.tuple [.int x, .int y]) && (([PyData.int x, .int y]).all natD && wOk (.str w))) = true
    rw [words_ok w hw]
    show (true && ((natD (.int x) && (natD (.int y) && true)) && true)) = true
    rw [natD_of h0 (by omega), natD_of h2 (by omega)]
    rfl
  · decide +kernel
theorem entD_of {d : PyData} (h : EntD d) : entD d = true := by
  obtain ⟨pd, dep, fr, back, tok, wd, rfl, hp, h0, h1, hf, hb0, hb1, ht, hw⟩ := h
  show ((procD pd && (natD (.int dep) && (frD fr && backD back dep))) && tokW tok (.str wd)) = true
  have hb : backD back dep = true := by
    unfold backD
    by_cases e : dep = 0
    · rw [if_pos e, hb0 e]
      decide +kernel
    · rw [if_neg e]
      exact objD_of (hb1 e)
  rw [procD_of hp, natD_of h0 (by omega), frD_of hf, hb, tokD_of ht hw]
  rfl
/-! ### entries in the order of sorted -/
theorem lst_tri : ∀ xs ys : List Int, ¬ ys < xs → xs ≠ ys → xs < ys := fun xs ys h n => by
  rcases List.le_iff_lt_or_eq.mp (show xs ≤ ys from h) with z | z
  · exact z
  · exact absurd z n
theorem eqvAll_ints : ∀ xs ys : List Int, PyData.eqvAll (xs.map PyData.int) (ys.map PyData.int) = decide (xs = ys)
  | [], [] => by simp [PyData.eqvAll]
  | [], _ :: _ => by simp [PyData.eqvAll]
  | _ :: _, [] => by simp [PyData.eqvAll]
  | x :: xs, y :: ys => by
    simp only [List.map_cons, PyData.eqvAll, PyData.eqv, eqvAll_ints xs ys, List.cons.injEq]
    by_cases e : x = y
    · simp [e]
    · simp [e]
theorem eqv_ints (xs ys : List Int) : PyData.eqv (.tuple (xs.map PyData.int)) (.tuple (ys.map PyData.int)) = decide (xs = ys) := by
  simp only [PyData.eqv, eqvAll_ints]
theorem lt_ints (xs ys : List Int) : PySem.W.dataLt (.tuple (xs.map PyData.int)) (.tuple (ys.map PyData.int)) = decide (xs < ys) := by
  rw [PySem.W.dataLt_tuple]
  exact PySem.W.dataLt_ints xs ys
/-- (process, depth): the first difference decides -/
def keyLt (a b : List Int × Int) : Prop := if a.1 = b.1 then a.2 < b.2 else a.1 < b.1
def keyD (a : List Int × Int) : PyData := .tuple [.tuple (a.1.map PyData.int), .int a.2]
instance (a b : List Int × Int) : Decidable (keyLt a b) := by unfold keyLt; infer_instance
theorem lt_keys (a b : List Int × Int) : PySem.W.dataLt (keyD a) (keyD b) = decide (keyLt a b) := by
  unfold keyD keyLt
  rw [PySem.W.dataLt_pair (by simp [PySem.W.alike, alike_intsB]) (by simp [PySem.W.alike]), eqv_ints]
  by_cases e : a.1 = b.1
  · rw [if_pos (decide_eq_true e)]
    simp only [e, if_true]
    by_cases z : a.2 = b.2
    · rw [if_pos (by simp [PyData.eqv, z])]
      simp [z]
    · rw [if_neg (by simp [PyData.eqv, z]), PySem.W.dataLt_int]
  · rw [if_neg (by rw [decide_eq_false e]; decide), lt_ints]
    simp only [e, if_false]
theorem key_tri {a b : List Int × Int} (h : ¬ keyLt b a) (n : a ≠ b) : keyLt a b := by
  unfold keyLt at h ⊢
  by_cases e : a.1 = b.1
  · rw [if_pos e]
    rw [if_pos e.symm] at h
    have : a.2 ≠ b.2 := fun z => n (Prod.ext e z)
    omega
  · rw [if_neg e]
    rw [if_neg fun z => e z.symm] at h
    exact lst_tri _ _ h e
def triD (a : List Int × Int) (k : Int) : PyData := .tuple [.tuple (a.1.map PyData.int), .int a.2, .int k]
/-- what stands in the order of the triples, with different first two parts, stands in the order of these -/
theorem tri_key {a b : List Int × Int} {k l : Int} (h : SortN.dle (triD a k) (triD b l) = true) (n : a ≠ b) : keyLt a b := by
  refine key_tri (fun z => ?_) n
  have h' : PySem.W.dataLt (triD b l) (triD a k) = false := by
    have : (!PySem.W.dataLt (triD b l) (triD a k)) = true := h
    simpa using this
  have e : PySem.W.dataLt (triD b l) (triD a k) = decide (keyLt b a) := by
    unfold triD keyLt
    rw [PySem.W.dataLt_tuple, PySem.W.dataLt_cons (by simp [PySem.W.alike, alike_intsB]), eqv_ints]
    by_cases e1 : b.1 = a.1
    · have e2 : b.2 ≠ a.2 := fun z => n (Prod.ext e1.symm z.symm)
      rw [if_pos (decide_eq_true e1), PySem.W.dataLt_cons (by simp [PySem.W.alike]), if_neg (by simp [PyData.eqv, e2]), PySem.W.dataLt_int]
      simp only [e1, if_true]
    · rw [if_neg (by rw [decide_eq_false e1]; decide), lt_ints]
      simp only [e1, if_false]
  rw [e, decide_eq_true z] at h'
  cases h'
/-! ### drawn bundles, with their order -/
def OrdD (d : PyData) : Prop := ∀ o m v es c, d = .tuple [o, m, v, .tuple es, c] → (List.zipWith (fun b e => abvD e b) es es.tail).all id = true
def triX (ds : List PyData) (j : Nat) : PyData := match ds[j]? with
  | some (.tuple (p :: .int dep :: _)) => .tuple [p, .int dep, .int j]
  | _ => .none
def thirdX : PyData → Int
  | .tuple [_, _, .int k] => k
  | _ => 0
theorem dle_tot : PySem.W.TotalLe SortN.dle := PySem.W.sortLe_total _ _ _
theorem ent_key {d : PyData} (h : EntD d) : ∃ a : List Int × Int, key2 d = keyD a := by
  obtain ⟨pd, dep, fr, back, tok, wd, rfl, ⟨ns, rfl, _⟩, _⟩ := h
  exact ⟨(ns, dep), rfl⟩
theorem triX_at {ds : List PyData} {j : Nat} {x : PyData} (hx : ds[j]? = some x) (h : EntD x) {a : List Int × Int} (e : key2 x = keyD a) : triX ds j = triD a j := by
  obtain ⟨pd, dep, fr, back, tok, wd, rfl, ⟨ns, rfl, _⟩, _⟩ := h
  unfold triX
  rw [hx]
  have e' : PyData.tuple [.tuple (ns.map PyData.int), .int dep] = .tuple [.tuple (a.1.map PyData.int), .int a.2] := e
  injection e' with e'
  injection e' with e1 e'
  injection e' with e2 _
  show PyData.tuple [.tuple (ns.map PyData.int), .int dep, .int j] = .tuple [.tuple (a.1.map PyData.int), .int a.2, .int j]
  rw [e1, e2]
theorem srt_pw (ts : List PyData) : (SortN.srt ts).Pairwise fun a b => SortN.dle a b = true :=
  List.pairwise_mergeSort (fun a b c => dle_tot.trans a b c) (fun a b => by rw [Bool.or_eq_true]; exact dle_tot.total a b) ts
theorem third_at {ds : List PyData} {n j : Nat} (hE : ∀ d ∈ ds, EntD d) (la : n = ds.length) (hj : j < n) : ∃ (x : PyData) (a : List Int × Int), ds[j]? = some x ∧ key2 x = keyD a ∧ triX ds j = triD a j := by
  have hj' : j < ds.length := by omega
  have h := hE _ (List.getElem_mem hj')
  obtain ⟨a, e⟩ := ent_key h
  exact ⟨ds[j], a, List.getElem?_eq_getElem hj', e, triX_at (List.getElem?_eq_getElem hj') h e⟩
theorem ord_of {ds es ts : List PyData} {n m : Nat} (hP : ds.Pairwise fun x y => key2 x ≠ key2 y) (hE : ∀ d ∈ ds, EntD d) (eT : ts = (List.range n).map (triX ds)) (la : n = ds.length) (ly : m = ts.length) (l2 : m = (SortN.srt ts).length) (lE : es.length = m)
    (hX : ∀ m' t, m' < m → (SortN.srt ts)[m']? = some t → ∃ (kk : Nat) (x : PyData), thirdX t = (kk : Int) ∧ ds[kk]? = some x ∧ es[m']? = some x) : (List.zipWith (fun b e => abvD e b) es es.tail).all id = true := by
  refine List.all_eq_true.mpr fun b hb => ?_
  obtain ⟨i, hi, rfl⟩ := List.getElem_of_mem hb
  have hi' : i + 1 < es.length := by
    rw [List.length_zipWith, List.length_tail] at hi
    omega
  rw [List.getElem_zipWith, List.getElem_tail]
  have hs1 : i < (SortN.srt ts).length := by omega
  have hs2 : i + 1 < (SortN.srt ts).length := by omega
  have perm := List.mergeSort_perm ts SortN.dle
  have nd : ts.Nodup := by
    rw [eT]
    refine List.pairwise_map.mpr ((List.pairwise_lt_range (n := n)).imp_of_mem fun {p q} hp hq hlt => ?_)
    obtain ⟨_, a, _, _, e1⟩ := third_at hE la (List.mem_range.mp hp)
    obtain ⟨_, b, _, _, e2⟩ := third_at hE la (List.mem_range.mp hq)
    intro e
    have : thirdX (triD a p) = thirdX (triD b q) := by rw [← e1, ← e2, e]
    have : (p : Int) = (q : Int) := this
    omega
  have ndS : (SortN.srt ts).Nodup := perm.nodup_iff.mpr nd
  have known : ∀ t ∈ SortN.srt ts, ∃ (k : Nat) (x : PyData) (a : List Int × Int), t = triX ds k ∧ ds[k]? = some x ∧ key2 x = keyD a ∧ t = triD a k := fun t ht => by
    have h := perm.mem_iff.mp ht
    rw [eT] at h
    obtain ⟨k, hk, rfl⟩ := List.mem_map.mp h
    obtain ⟨x, a, h1, h2, h3⟩ := third_at hE la (List.mem_range.mp hk)
    exact ⟨k, x, a, rfl, h1, h2, h3⟩
  obtain ⟨k, x, a, f1, f2, f3, f4⟩ := known _ (List.getElem_mem hs1)
  obtain ⟨k', x', a', g1, g2, g3, g4⟩ := known _ (List.getElem_mem hs2)
  obtain ⟨q, y, u1, u2, u3⟩ := hX i _ (by omega) (List.getElem?_eq_getElem hs1)
  obtain ⟨q', y', v1, v2, v3⟩ := hX (i + 1) _ (by omega) (List.getElem?_eq_getElem hs2)
  have eq1 : q = k := by
    rw [f4] at u1
    have : (k : Int) = (q : Int) := u1
    omega
  have eq2 : q' = k' := by
    rw [g4] at v1
    have : (k' : Int) = (q' : Int) := v1
    omega
  subst eq1 eq2
  rw [f2] at u2
  rw [g2] at v2
  cases u2
  cases v2
  rw [List.getElem?_eq_getElem (by omega)] at u3
  rw [List.getElem?_eq_getElem hi'] at v3
  have e1 := Option.some.inj u3
  have e2 := Option.some.inj v3
  have kk : q ≠ q' := fun e => by
    subst e
    exact List.pairwise_iff_getElem.mp ndS i (i + 1) hs1 hs2 (Nat.lt_succ_self i) (f1.trans g1.symm)
  have ne : a ≠ a' := fun e => by
    subst e
    have kxy : key2 x = key2 x' := f3.trans g3.symm
    obtain ⟨hq, rfl⟩ := List.getElem?_eq_some_iff.mp f2
    obtain ⟨hq', rfl⟩ := List.getElem?_eq_some_iff.mp g2
    rcases Nat.lt_or_ge q q' with h | h
    · exact List.pairwise_iff_getElem.mp hP q q' hq hq' h kxy
    · exact List.pairwise_iff_getElem.mp hP q' q hq' hq (by omega) kxy.symm
  have dl := List.pairwise_iff_getElem.mp (srt_pw ts) i (i + 1) hs1 hs2 (Nat.lt_succ_self i)
  rw [f4, g4] at dl
  have := tri_key dl ne
  show abvD es[i + 1] es[i] = true
  unfold abvD
  rw [e1, e2, f3, g3, lt_keys]
  exact decide_eq_true this
def spBundO (K : PySem.W.Frag) : Sp := fun vs H Q _ => ∃ (nu : Addr) (ns : List Int) (at_ : Int), vs = [.ref nu, .int at_] ∧ NumAt K H nu ns ∧ ∀ H' v d, Same H H' → Rp K H' v d → BundD d → OrdD d → Q v H'
theorem ok_lw_bundleO (T : Txt K mg w a) : FnOk P w K mg base CX0 5 (He.ga K "_law_bundle") a.d_lw_bundle ["numbers", "at"] (spBundO K) := by
  refine T.F_lw_bundle.ok sc_lw_bundle (fun vs H Q E h => ?_) (fun cdv A outer s H vs Q E hr h => ?_)
  · obtain ⟨nu, ns, at_, rfl, _⟩ := h
    rfl
  · obtain ⟨nu, ns, at_, rfl, N, q⟩ := h
    obtain ⟨hnu, hok, hlen⟩ := id N
    refine ⟨_, PSs.nox (pss_cons (ps_set (i := 2) sc_lw_bundle.nd rfl (Or.inr rfl) (pe_lst pa_nil))
      (pss_cons (ps_for PassesOwn.never rfl (pi_range1 (by rfl) T.g_range (pa_cons (pe_op op_mod (pe_ix ix_list (pv 0) (pe_op op_mod (pe_callTy call_int1 (by rfl) T.g_int boot_int (pa_cons (pv 1) pa_nil)) (pe_callB call_len_seq (by rfl) T.g_len boot_len (pa_cons (pv 0) pa_nil))) (fun _ _ => rfl)) pe_int) pa_nil)) (pg_name (i := 3) sc_lw_bundle.nd rfl (Or.inl rfl))
      (pss_cons (ps_set (i := 4) sc_lw_bundle.nd rfl (Or.inr rfl) (pe_call (ok_lw_entry T) (hr.mono (by omega)) (by rfl) T.g_lw_entry T.F_lw_entry.kp T.b_lw_entry .nil pass0 (pa_cons (pv 0) (pa_cons (pe_callTy call_int1 (by rfl) T.g_int boot_int (pa_cons (pe_op op_add (pe_op op_add (pv 1) pe_int) (pe_op op_mul pe_int (pv 3))) pa_nil)) pa_nil))))
      (pss_one (ps_if (pt_cmpR op_eq (pe_callB call_len_seq (by rfl) T.g_len boot_len (pa_cons (pe_lc (own := [("one", 9)]) (g := gName 9) (tt := (tTest (tOp (rEqD K) (tSl (rSlA K) (tVar 9) tNoPart (tPart (tC (.int 2)))) (tSl (rSlA K) (tVar 4) tNoPart (tPart (tC (.int 2)))))))  (by rfl) sc_lw_bundle.nd (pi_list (pv 2)) (blkOk_by (own := [("one", 9)]) (N := N_lw_bundle) (sc := defScope s_lw_bundle) (by decide +kernel)) (fun _ _ _ _ _ => pg_name (i := 9) sc_lw_bundle.nd rfl (Or.inl rfl)) (fun _ _ _ _ _ => pts_one (pt_cmpR (op_eqD hr.units) (pe_slice sl_tupA (pv 9) po_none (po_some pe_int)) (pe_slice sl_tupA (pv 4) po_none (po_some pe_int)) (nomark _))) (fun _ _ _ _ _ => (pv 9))) pa_nil)) pe_int (nomark _)) (pss_one (ps_expr (pe_bm PySem.F.plainAttrs_list PySem.F.slot_list_append PySem.F.type_list_append mt_append (pv 2) (pa_cons (pv 4) pa_nil)))) pss_nil))))
      (pss_cons (ps_set (i := 5) sc_lw_bundle.nd rfl (Or.inl rfl) (pe_ix ix_list (pv 0) (pe_op op_mod (pe_callTy call_int1 (by rfl) T.g_int boot_int (pa_cons (pe_op op_add (pv 1) pe_int) pa_nil)) (pe_callB call_len_seq (by rfl) T.g_len boot_len (pa_cons (pv 0) pa_nil))) (fun _ _ => rfl)))
      (pss_cons (ps_set (i := 6) sc_lw_bundle.nd rfl (Or.inl rfl) (pe_ix ix_list (pe_lst (pa_cons pe_str (pa_cons pe_str (pa_cons pe_str (pa_cons pe_str pa_nil))))) (pe_op op_mod (pv 5) pe_int) (fun _ _ => rfl)))
      (pss_cons (ps_set (i := 7) sc_lw_bundle.nd rfl (Or.inl rfl) (pe_callB (SortN.call_sortL rfl hr.units) (by rfl) T.g_sorted boot_sorted (pa_cons (pe_lc (own := [("k", 3)]) (g := gName 3) (tt := tYes) (te := (tTup (tCons (tOp (rIxT K) (tOp (rIxL K) (tVar 2) (tVar 3)) (tC (.int 0))) (tCons (tOp (rIxT K) (tOp (rIxL K) (tVar 2) (tVar 3)) (tC (.int 1))) (tCons (tVar 3) tNil))))) (by rfl) sc_lw_bundle.nd (pi_range1 (by rfl) T.g_range (pa_cons (pe_callB call_len_seq (by rfl) T.g_len boot_len (pa_cons (pv 2) pa_nil)) pa_nil)) (blkOk_by (own := [("k", 3)]) (N := N_lw_bundle) (sc := defScope s_lw_bundle) (by decide +kernel)) (fun _ _ _ _ _ => pg_name (i := 3) sc_lw_bundle.nd rfl (Or.inl rfl)) (fun _ _ _ _ _ => pts_nil) (fun _ _ _ _ _ => (pe_tup (pa_cons (pe_ix (r := rIxT K) ix_tup (pe_ix (r := rIxL K) ix_list (pv 2) (pv 3) (fun _ _ => rfl)) pe_int (fun _ _ => rfl)) (pa_cons (pe_ix (r := rIxT K) ix_tup (pe_ix (r := rIxL K) ix_list (pv 2) (pv 3) (fun _ _ => rfl)) pe_int (fun _ _ => rfl)) (pa_cons (pv 3) pa_nil)))))) pa_nil)))
      (pss_cons (ps_set (i := 8) sc_lw_bundle.nd rfl (Or.inl rfl) (pe_callTy call_tuple_of (by rfl) T.g_tuple boot_tuple (pa_cons (pe_lc (own := [("one", 9)]) (g := gName 9) (tt := tYes) (te := (tOp (rIxL K) (tVar 2) (tOp (rIxT K) (tVar 9) (tC (.int 2))))) (by rfl) sc_lw_bundle.nd (pi_list (pv 7)) (blkOk_by (own := [("one", 9)]) (N := N_lw_bundle) (sc := defScope s_lw_bundle) (by decide +kernel)) (fun _ _ _ _ _ => pg_name (i := 9) sc_lw_bundle.nd rfl (Or.inl rfl)) (fun _ _ _ _ _ => pts_nil) (fun _ _ _ _ _ => (pe_ix (r := rIxL K) ix_list (pv 2) (pe_ix (r := rIxT K) ix_tup (pv 9) pe_int (fun _ _ => rfl)) (fun _ _ => rfl)))) pa_nil)))
      (pss_one (ps_ret (pe_tup (pa_cons (pe_call (ok_lw_object T) (hr.mono (by omega)) (by rfl) T.g_lw_object T.F_lw_object.kp T.b_lw_object .nil pass0 (pa_cons (pe_op op_fdiv (pv 5) pe_int) pa_nil)) (pa_cons (pv 6) (pa_cons (pe_call (ok_lw_values T) (hr.mono (by omega)) (by rfl) T.g_lw_values T.F_lw_values.kp T.b_lw_values .nil pass0 (pa_cons (pv 0) (pa_cons (pe_op op_add (pv 1) pe_int) (pa_cons pe_int pa_nil)))) (pa_cons (pv 8) (pa_cons (pe_ix ix_list (pe_lst (pa_cons pe_int (pa_cons pe_int (pa_cons pe_int (pa_cons (pe_op op_pow pe_int pe_int) pa_nil))))) (pe_op op_mod (pe_op op_fdiv (pv 5) pe_int) pe_int) (fun _ _ => rfl)) pa_nil)))))))))))))), ?_⟩
    rw [show L2.start N_lw_bundle [.ref nu, .int at_] = [some (.ref nu), some (.int at_), none, none, none, none, none, none, none, none] from rfl]
    refine ⟨Nat.zero_le _, fun en nen => ?_⟩
    have s0 := Cm.same_new (o := .lst []) nen
    obtain ⟨p0, n0, hn0, e0⟩ := at_mod (ns := ns) at_ (by omega)
    obtain ⟨g0, _⟩ := hok n0 hn0
    have N0 := N.same s0
    refine ⟨_, rfl, _, rfl, .inl ⟨_, rfl, _, rfl, nu, _, rfl, .inl (SqL.of N0.1), _, _, rfl, rfl, p0, nu, _, _, _, rfl, rfl, SqL.of N0.1, e0, _, _, rfl, rfl, (by show (0 : Int) < 5; decide), _, rfl, by omega, by omega, ?_⟩⟩
    refine for_range (n := (n0 % 5).toNat) (fun i σ H2 => ∃ (x3 x4 : Option V) (acc : List V) (ds : List PyData), σ = [some (.ref nu), some (.int at_), some (.ref en), x3, x4, none, none, none, none, none] ∧ Same H H2 ∧ H2 en = some (.lst acc) ∧ Rps K H2 acc ds ∧ (∀ d ∈ ds, EntD d) ∧ ds.length ≤ i ∧ ds.Pairwise fun x y => key2 x ≠ key2 y)
      ⟨_, _, [], [], rfl, s0, upd_same, .nil, (fun _ h => nomatch h), Nat.le_refl _, .nil⟩ (fun i σ H2 hi ⟨x3, x4, acc, ds, e, s2, hen, rD, hE, lD, hP⟩ => ?_) fun σ H2 ⟨x3, x4, acc, ds, e, s2, hen, rD, hE, lD, hP⟩ => ?_
    · subst e
      refine ⟨_, rfl, _, rfl, _, _, rfl, rfl, _, rfl, _, _, rfl, rfl, .inl ⟨by decide, by decide⟩, _, _, rfl, rfl, .inl ⟨_, rfl, nu, ns, _, rfl, N.same s2, fun H3 v d s3 rv hd => ?_⟩⟩
      have hen3 := s3 _ _ hen
      have la := rD.len
      simp only [gName, List.set_cons_succ, List.set_cons_zero]
      refine ⟨_, rfl, en, rfl, ⟨_, SqL.of hen3⟩, fun D nD => ?_⟩
      simp only [List.map_cons, List.map_nil]
      refine lc_list (K := K) (a := en) (xs := acc) (fun n Hi => Same H3 Hi ∧ ∃ l, Hi D = some (.lst l) ∧ l.length ≤ n ∧ (l = [] → ∀ x ∈ ds.take n, key2 x ≠ key2 d)) ⟨Cm.same_new nD, [], upd_same, Nat.le_refl _, fun _ x hx => nomatch hx⟩ (fun n Hi _ b => SqL.of (b.1 _ _ hen3)) (fun n y Hi hy b => ?_) fun Hi b => ?_
      · obtain ⟨sH, l, hDD, lD', hN⟩ := b
        refine ⟨rfl, ?_⟩
        simp only [List.map_cons, List.map_nil, List.set_cons_succ, List.set_cons_zero, wipe]
        have hn : n < ds.length := by
          rw [← la]
          exact (List.getElem?_eq_some_iff.mp hy).1
        obtain ⟨y', hy', ry⟩ := rD.at_ (List.getElem?_eq_getElem hn)
        rw [hy] at hy'
        cases hy'
        have h1 := hE _ (List.getElem_mem hn)
        have hbd : ds[n]? = some ds[n] := List.getElem?_eq_getElem hn
        generalize ds[n] = bd at ry h1 hbd
        have k1 : ∀ {r : List PyData}, EntD (.tuple r) → key2 (.tuple r) = .tuple (r.take 2) := fun {r} hx => by
          obtain ⟨pd, dep, fr, back, tok, wd, e, _⟩ := hx
          injection e with e
          subst e
          rfl
        have sh : ∀ {x : PyData}, EntD x → ∃ r, x = .tuple r ∧ 2 ≤ r.length ∧ SeqAt.shaped (.tuple (r.take 2)) = true := fun {x} hx => by
          obtain ⟨pd, dep, fr, back, tok, wd, rfl, hp, _⟩ := hx
          exact ⟨_, rfl, by show 2 ≤ 6; decide, lo_shaped (lo_two (lo_proc hp) lo_int) (by decide)⟩
        obtain ⟨r1, e1, l1, sh1⟩ := sh h1
        obtain ⟨r2, e2, l2, sh2⟩ := sh hd
        subst e1 e2
        refine ⟨_, rfl, _, rfl, upto_rp (k := 2) (ry.keep (Same.tups (s3.trans sH))) l1 fun v1 H5 s5 rv1 => ?_⟩
        refine ⟨_, rfl, _, rfl, upto_rp (k := 2) (rv.keep (Same.tups (sH.trans s5))) l2 fun v2 H6 s6 rv2 => ?_⟩
        have hD6 := s6 _ _ (s5 _ _ hDD)
        refine ⟨_, _, (rv1.keep (Same.tups s6)).dp, rv2.dp, sh1, sh2, _, rfl, Cm.itB (fun _ => ?_) fun ef => ?_⟩
        · exact ⟨_, rfl, l, hD6, Cm.smallL (by omega), Cm.same_mut (sH.trans (s5.trans s6)) nD, _, upd_same, by rw [List.length_append]; simp only [List.length_cons, List.length_nil]; omega, fun z => absurd z (by simp)⟩
        · refine ⟨sH.trans (s5.trans s6), l, hD6, by omega, fun z x hx => ?_⟩
          rw [List.take_succ, hbd] at hx
          rcases List.mem_append.mp hx with h | h
          · exact hN z x h
          · rw [List.mem_singleton.mp h, k1 h1, k1 hd]
            intro z2
            rw [z2, Nst.eqv_self sh2] at ef
            cases ef
      · obtain ⟨sH, l, hDD, _, hN⟩ := b
        have hen4 := sH _ _ hen3
        have s24 := s2.trans (s3.trans sH)
        refine ⟨D, _, rfl, .inl (SqL.of hDD), rfl, _, rfl, Cm.itEI (fun e0 => ?_) fun _ => ?_⟩
        · have l0 : l = [] := List.length_eq_zero_iff.mp (by omega)
          have dif := hN l0
          rw [la, List.take_length] at dif
          refine ⟨_, rfl, .inl ⟨rfl, _, SqL.of hen4⟩, _, rfl, en, acc, _, rfl, rfl, hen4, Cm.smallL (by omega), ?_⟩
          have tk : TK K Hi (upd Hi en (.lst (acc ++ [v]))) := TK.upd (by rw [hen4]; exact True.intro)
          refine ⟨_, _, acc ++ [v], ds ++ [d], rfl, Cm.same_mut s24 nen, upd_same, rps_keep tk ((rD.keep (Same.tups (s3.trans sH))).app (.cons (rv.keep (Same.tups sH)) .nil)), fun x hx => ?_, by rw [List.length_append]; simp only [List.length_cons, List.length_nil]; omega, ?_⟩
          · rcases List.mem_append.mp hx with hx | hx
            · exact hE x hx
            · rw [List.mem_singleton.mp hx]
              exact hd
          · refine List.pairwise_append.mpr ⟨hP, List.pairwise_singleton _ _, fun x hx y hy => ?_⟩
            rw [List.mem_singleton.mp hy]
            exact dif x hx
        · exact ⟨_, _, acc, ds, rfl, s24, hen4, rD.keep (Same.tups (s3.trans sH)), hE, by omega, hP⟩
    · subst e
      have N2 := N.same s2
      obtain ⟨p1, n1, hn1, e1⟩ := at_mod (ns := ns) (at_ + 1) (by omega)
      obtain ⟨g1, _⟩ := hok n1 hn1
      refine ⟨_, rfl, _, rfl, _, _, rfl, rfl, .inl ⟨_, rfl, _, rfl, nu, _, rfl, .inl (SqL.of N2.1), _, _, rfl, rfl, p1, nu, _, _, _, rfl, rfl, SqL.of N2.1, e1, ?_⟩⟩
      refine ⟨Cm.small (by show 4 ≤ 100000; decide), fun tm ntm => ?_⟩
      have s3 := Cm.same_new (o := .lst [.str "start", .str "Box", .str "a1", .str "Z"]) ntm
      obtain ⟨mk, hmk, emk⟩ := Cm.at_str (ws := ["start", "Box", "a1", "Z"]) (i := n1 % 4) (by omega) (by show n1 % 4 < 4; omega)
      have htm : (upd H2 tm (.lst [.str "start", .str "Box", .str "a1", .str "Z"])) tm = some (.lst ((["start", "Box", "a1", "Z"] : List Str).map V.str)) := upd_same
      have hen3 := s3 _ _ hen
      have rD3 := rD.keep (Same.tups s3)
      have s23 := s2.trans s3
      generalize upd H2 tm (.lst [.str "start", .str "Box", .str "a1", .str "Z"]) = H3 at *
      refine ⟨_, rfl, _, _, rfl, rfl, (by show (0 : Int) < 4; decide), tm, _, _, _, rfl, rfl, SqL.of htm, emk, ?_⟩
      have la := rD3.len
      simp only [gName, List.set_cons_succ, List.set_cons_zero]
      refine ⟨_, rfl, en, _, rfl, .inl (SqL.of hen3), _, rfl, by omega, by omega, fun D nD => ?_⟩
      simp only [List.map_cons, List.map_nil]
      refine lc_range (n := acc.length) (fun k Hi => Same H3 Hi ∧ ∃ l ts, Hi D = some (.lst l) ∧ Rps K Hi l ts ∧ (∀ t ∈ ts, TriD ds.length t) ∧ ts.length = k ∧ ts = (List.range k).map (triX ds)) ⟨Cm.same_new nD, [], [], upd_same, .nil, (fun _ h => nomatch h), rfl, rfl⟩ (fun k Hi hk ⟨sH, l, ts, hDD, rT, hT, lT, eT⟩ => ?_) fun Hi ⟨sH, l, ts, hDD, rT, hT, lT, eT⟩ => ?_
      · refine ⟨rfl, ?_⟩
        simp only [List.map_cons, List.map_nil, List.set_cons_succ, List.set_cons_zero, wipe]
        have hn : k < ds.length := by omega
        obtain ⟨y, hy, ry⟩ := rD3.at_ (List.getElem?_eq_getElem hn)
        have h1 := hE _ (List.getElem_mem hn)
        have hbd : ds[k]? = some ds[k] := List.getElem?_eq_getElem hn
        generalize ds[k] = bd at ry h1 hbd
        obtain ⟨pd, dep, fr, back, tok, wd, rfl, hp, _⟩ := h1
        obtain ⟨ca, vv, vr, rfl, hca, rp1, hvr⟩ := (show ∃ a' v' vs', y = .ref a' ∧ SqT K Hi a' (v' :: vs') ∧ Rp K Hi v' pd ∧ Rps K Hi vs' [.int dep, fr, back, tok, .str wd] from by
          obtain ⟨a', vs', e', h', r'⟩ := (ry.keep (Same.tups sH)).tup_inv
          obtain ⟨v', vs'', e'', h'', r''⟩ := r'.cons_inv
          subst e''
          exact ⟨a', v', vs'', e', h', h'', r''⟩)
        obtain ⟨v2, vr2, rfl, hv2, _⟩ := hvr.cons_inv
        obtain rfl := hv2.int_inv
        have heni := sH _ _ hen3
        have ek : atI acc (0 + (k : Int)) = some (.ref ca) := by
          rw [Int.zero_add]
          exact atI_nat hy
        refine ⟨_, rfl, _, rfl, en, _, _, _, rfl, rfl, SqL.of heni, ek, ca, _, 0, _, rfl, rfl, hca, atI_nat (j := 0) rfl, ?_⟩
        refine ⟨_, rfl, _, rfl, en, _, _, _, rfl, rfl, SqL.of heni, ek, ca, _, 1, _, rfl, rfl, hca, atI_nat (j := 1) rfl, _, rfl, Cm.small (by show 3 ≤ 100000; decide), fun t nt => ?_⟩
        have st := Cm.same_new (o := .tup [vv, .int dep, .int (0 + (k : Int))]) nt
        have hDt := st _ _ hDD
        have rt := Rp.made nt (.cons rp1 (.cons (.int dep) (.cons (.int (0 + (k : Int))) .nil)))
        have tk : TK K (upd Hi t (.tup [vv, .int dep, .int (0 + (k : Int))])) (upd (upd Hi t (.tup [vv, .int dep, .int (0 + (k : Int))])) D (.lst (l ++ [.ref t]))) := TK.upd (by rw [hDt]; exact True.intro)
        have ll := rT.len
        refine ⟨l, hDt, Cm.smallL (by omega), Cm.same_mut (sH.trans st) nD, l ++ [.ref t], _, upd_same, rps_keep tk ((rT.keep (Same.tups st)).app (.cons rt .nil)), fun x hx => ?_, by rw [List.length_append, lT]; rfl, ?_⟩
        · rcases List.mem_append.mp hx with hx | hx
          · exact hT x hx
          · rw [List.mem_singleton.mp hx, Int.zero_add]
            exact ⟨pd, dep, k, rfl, hp, hn⟩
        · rw [List.range_succ, List.map_append, eT, Int.zero_add]
          show _ = _ ++ [triX ds k]
          rw [show triX ds k = .tuple [pd, .int dep, .int k] from by unfold triX; rw [hbd]]
      · refine ⟨D, l, ts, rfl, SqL.of hDD, rT, tri_alike hT, tri_sortable hT, tri_depth hT, fun ys po rys npo => ?_⟩
        have s4 := Cm.same_new (o := .lst ys) npo
        have hpo : (upd Hi po (.lst ys)) po = some (.lst ys) := upd_same
        have rys := rys.keep (Same.tups s4)
        have s34 := sH.trans s4
        have hen4 := s34 _ _ hen3
        have rD4 := rD3.keep (Same.tups s34)
        generalize upd Hi po (.lst ys) = H4 at *
        have lys : ys.length = ts.length := by rw [rys.len, List.length_mergeSort]
        refine ⟨_, rfl, po, rfl, ⟨_, SqL.of hpo⟩, fun D2 nD2 => ?_⟩
        simp only [List.map_cons, List.map_nil]
        refine lc_list (K := K) (a := po) (xs := ys) (fun n Hj => Same H4 Hj ∧ ∃ l es, Hj D2 = some (.lst l) ∧ Rps K Hj l es ∧ (∀ x ∈ es, EntD x) ∧ es.length = n ∧ ∀ m t, m < n → (SortN.srt ts)[m]? = some t → ∃ (kk : Nat) (x : PyData), thirdX t = (kk : Int) ∧ ds[kk]? = some x ∧ es[m]? = some x) ⟨Cm.same_new nD2, [], [], upd_same, .nil, (fun _ h => nomatch h), rfl, fun m t h => absurd h (Nat.not_lt_zero m)⟩ (fun n Hj _ b => SqL.of (b.1 _ _ hpo)) (fun n y Hj hy b => ?_) fun Hj b => ?_
        · obtain ⟨sJ, l2, es, hD2, rE, hE2, lE, hX⟩ := b
          refine ⟨rfl, ?_⟩
          simp only [List.map_cons, List.map_nil, List.set_cons_succ, List.set_cons_zero, wipe]
          have hn : n < (SortN.srt ts).length := by
            rw [← rys.len]
            exact (List.getElem?_eq_some_iff.mp hy).1
          have lsr : (SortN.srt ts).length = ts.length := List.length_mergeSort ..
          obtain ⟨y', hy', ry⟩ := rys.at_ (List.getElem?_eq_getElem hn)
          rw [hy] at hy'
          cases hy'
          have hmem := (List.mergeSort_perm ts SortN.dle).mem_iff.mp (List.getElem_mem hn)
          have h1 := hT _ hmem
          have hbn : (SortN.srt ts)[n]? = some (SortN.srt ts)[n] := List.getElem?_eq_getElem hn
          generalize (SortN.srt ts)[n] = bd at ry h1 hbn
          obtain ⟨pd, dep, kk, rfl, hp, hkk⟩ := h1
          obtain ⟨ct, cs, rfl, hct, hcs⟩ := (ry.keep (Same.tups sJ)).tup_inv
          obtain ⟨c1, r1, rfl, _, hr1⟩ := hcs.cons_inv
          obtain ⟨c2, r2, rfl, _, hr2⟩ := hr1.cons_inv
          obtain ⟨c3, r3, rfl, hc3, hr3⟩ := hr2.cons_inv
          obtain rfl := hc3.int_inv
          obtain ⟨z, hz, rz⟩ := rD4.at_ (List.getElem?_eq_getElem hkk)
          have hZ := hE _ (List.getElem_mem hkk)
          have henj := sJ _ _ hen4
          have ll := rE.len
          refine ⟨_, rfl, _, rfl, ct, _, 2, _, rfl, rfl, hct, atI_nat (j := 2) rfl, en, _, _, z, rfl, rfl, SqL.of henj, atI_nat hz, ?_⟩
          have tk : TK K Hj (upd Hj D2 (.lst (l2 ++ [z]))) := TK.upd (by rw [hD2]; exact True.intro)
          refine ⟨l2, hD2, Cm.smallL (by omega), Cm.same_mut sJ nD2, l2 ++ [z], _, upd_same, rps_keep tk (rE.app (.cons (rz.keep (Same.tups sJ)) .nil)), fun x hx => ?_, by rw [List.length_append, lE]; rfl, fun m t hm ht => ?_⟩
          · rcases List.mem_append.mp hx with hx | hx
            · exact hE2 x hx
            · rw [List.mem_singleton.mp hx]
              exact hZ
          · by_cases e : m < n
            · obtain ⟨k2, x2, a1, a2, a3⟩ := hX m t e ht
              exact ⟨k2, x2, a1, a2, by rw [List.getElem?_append_left (by omega)]; exact a3⟩
            · have em : m = n := by omega
              rw [em, hbn] at ht
              cases ht
              refine ⟨kk, ds[kk], rfl, List.getElem?_eq_getElem hkk, ?_⟩
              rw [em, ← lE, List.getElem?_append_right (Nat.le_refl _), Nat.sub_self]
              rfl
        · obtain ⟨sJ, l2, es, hD2, rE, hE2, lE, hX⟩ := b
          have ord := ord_of hP hE eT la lys rys.len lE hX
          have s3J := s34.trans sJ
          refine ⟨D2, l2, rfl, .inl ⟨SqL.of hD2, fun tr ntr => ?_⟩⟩
          have s5 := Cm.same_new (o := .tup l2) ntr
          have rr := Rp.made ntr rE
          have sA := (s23.trans s3J).trans s5
          have N5 := N.same sA
          generalize upd Hj tr (.tup l2) = H5 at *
          refine ⟨_, rfl, _, _, rfl, rfl, ⟨by decide, by decide⟩, n1 / 4, rfl, by omega, fun H6 v pd j _ s6 rv hpd hj0 hj1 _ => ?_⟩
          refine ⟨_, rfl, _, rfl, _, rfl, _, _, rfl, rfl, nu, ns, _, 4, rfl, N5.same s6, by decide, fun H7 lv ls s7 rls lls vls => ?_⟩
          refine ⟨_, rfl, _, _, rfl, rfl, ⟨by decide, by decide, by decide⟩, Cm.small (by show 4 ≤ 100000; decide), fun tc ntc => ?_⟩
          have s8 := Cm.same_new (o := .lst [.int 0, .int 1, .int 7, .int (10 ^ (12 : Int).toNat)]) ntc
          obtain ⟨c, hc, ec⟩ := Cm.at_int (ns := [0, 1, 7, 10 ^ (12 : Int).toNat]) (i := n1 / 16 % 4) (by omega) (by show n1 / 16 % 4 < 4; omega)
          refine ⟨_, rfl, _, _, rfl, rfl, ⟨by decide, by decide⟩, _, _, rfl, rfl, (by show (0 : Int) < 4; decide), tc, _, _, _, rfl, rfl, Cm.sql_new, ec, Cm.small (by show 5 ≤ 100000; decide), fun tb ntb => ?_⟩
          have hcb : 0 ≤ c ∧ c ≤ 1000000000000 := by
            simp only [List.mem_cons, List.not_mem_nil, or_false] at hc
            rcases hc with rfl | rfl | rfl | rfl <;> decide +kernel
          have s78 := s7.trans s8
          refine q _ _ _ ((sA.trans s6).trans (s78.trans (Cm.same_new ntb))) (Rp.made ntb (.cons (rv.keep (Same.tups s78)) (.cons (.str mk) (.cons (rls.keep (Same.tups s8)) (.cons (rr.keep (Same.tups (s6.trans s78))) (.cons (.int c) .nil)))))) ?_ ?_
          · exact ⟨_, mk, ls, es, c, rfl, ⟨pd, j, rfl, hpd, hj0, hj1⟩, hmk, lls, vls, by omega, hE2, hcb.1, hcb.2⟩
          · intro o m v es' c' e
            injection e with e
            injection e with _ e
            injection e with _ e
            injection e with _ e
            injection e with e _
            injection e with e
            subst e
            exact ord
theorem bunD_of {d : PyData} (h : BundD d) (o : OrdD d) : bunD d = true := by
  obtain ⟨nm, mk, vs, es, c, rfl, ho, hm, _, hv, _, he, c0, c1⟩ := h
  show ((objD nm && (codeD (.str mk) && (valsD (.tuple vs) && natD (.int c)))) && (es.all entD && (List.zipWith (fun b e => abvD e b) es es.tail).all id)) = true
  rw [objD_of ho, codes_mk mk hm, valsD_of hv, natD_of c0 c1, o _ _ _ _ _ rfl, show es.all entD = true from List.all_eq_true.mpr fun x hx => entD_of (he x hx)]
  rfl
/-! ### what is fit -/
theorem short_all {ds : List PyData} (h : ∀ x ∈ ds, shortD x = true) : shortAll ds = true := by
  induction ds with
  | nil => rfl
  | cons x r ih =>
    show (shortD x && shortAll r) = true
    rw [h x List.mem_cons_self, ih fun y hy => h y (List.mem_cons_of_mem _ hy)]
    rfl
structure Fn (n : Nat) (d : PyData) : Prop where
  s : shortD d = true
  l : Lo n d
theorem Fn.fit {n : Nat} {d : PyData} (h : Fn n d) (hn : n ≤ 30) : Fit d := ⟨h.s, h.l.1, Nat.le_trans h.l.2 hn⟩
theorem fn_tup {n : Nat} {ds : List PyData} (h : ∀ x ∈ ds, Fn n x) (l : ds.length ≤ 20000) : Fn (n + 1) (.tuple ds) :=
  ⟨by show (decide (ds.length ≤ 20000) && shortAll ds) = true; rw [decide_eq_true l, short_all fun x hx => (h x hx).s]; rfl, lo_tup fun x hx => (h x hx).l⟩
theorem fn_int {n : Nat} {i : Int} : Fn n (.int i) := ⟨rfl, lo_int⟩
theorem fn_non {n : Nat} : Fn n .none := ⟨rfl, lo_non⟩
theorem Fn.mono {m n : Nat} {d : PyData} (h : Fn m d) (e : m ≤ n) : Fn n d := ⟨h.s, h.l.mono e⟩
/-! ### what is drawn is fit -/
theorem fn_str {n : Nat} {x : Str} (h : PyData.strOk x = true) (l : x.length ≤ 20000) : Fn n (.str x) := ⟨decide_eq_true l, lo_str h⟩
theorem fn_proc {d : PyData} (h : ProcD d) : Fn 1 d := by
  obtain ⟨ns, rfl, l, _⟩ := h
  refine fn_tup (n := 0) (fun x hx => ?_) (by rw [List.length_map]; omega)
  obtain ⟨i, _, rfl⟩ := List.mem_map.mp hx
  exact fn_int
theorem fn_two {n : Nat} {x y : PyData} (h1 : Fn n x) (h2 : Fn n y) : Fn (n + 1) (.tuple [x, y]) := fn_tup (fun d hd => by
  simp only [List.mem_cons, List.not_mem_nil, or_false] at hd
  rcases hd with rfl | rfl
  · exact h1
  · exact h2) (by show 2 ≤ 20000; decide)
theorem fn_obj {d : PyData} (h : ObjD d) : Fn 2 d := by
  obtain ⟨pd, j, rfl, hp, _⟩ := h
  exact fn_two (fn_proc hp) fn_int
theorem short_ops : ∀ x ∈ (["start", "get", "f2", "Put", "", "number", "large", "nil", "Box", "a1", "Z", "ref"] : List Str), PyData.strOk x = true ∧ x.length ≤ 20000 := by decide +kernel
theorem fn_word {n : Nat} {x : Str} (h : x ∈ (["start", "get", "f2", "Put", "", "number", "large", "nil", "Box", "a1", "Z", "ref"] : List Str)) : Fn n (.str x) := fn_str (short_ops x h).1 (short_ops x h).2
theorem fn_val {d : PyData} (h : ValD d) : Fn 3 d := by
  rcases h with rfl | ⟨o, ho, rfl⟩ | ⟨i, rfl, _⟩
  · exact fn_tup (n := 2) (fun x hx => by rw [List.mem_singleton.mp hx]; exact fn_word (by simp)) (by show 1 ≤ 20000; decide)
  · exact fn_two (fn_word (by simp)) (fn_obj ho)
  · exact fn_int
theorem fn_vals {ds : List PyData} (h : ∀ x ∈ ds, ValD x) (l : ds.length ≤ 20000) : Fn 4 (.tuple ds) := fn_tup (fun x hx => fn_val (h x hx)) l
theorem fn_fr {d : PyData} (h : FrD d) : Fn 5 d := by
  obtain ⟨op, i, ls, st, rfl, ho, _, _, l1, l2, hl, hs⟩ := h
  refine fn_tup (n := 4) (fun x hx => ?_) (by show 4 ≤ 20000; decide)
  simp only [List.mem_cons, List.not_mem_nil, or_false] at hx
  rcases hx with rfl | rfl | rfl | rfl
  · exact fn_word (List.mem_of_mem_take (i := 4) ho)
  · exact fn_int
  · exact fn_vals hl (by omega)
  · exact fn_vals hs (by omega)
theorem words_in : ∀ x ∈ wordsF, x ∈ (["start", "get", "f2", "Put", "", "number", "large", "nil", "Box", "a1", "Z", "ref"] : List Str) := by decide +kernel
theorem fn_tok {t : PyData} {w : Str} (h : TokD t w) : Fn 1 t := by
  rcases h with ⟨x, y, rfl, _⟩ | ⟨rfl, _⟩
  · exact fn_two fn_int fn_int
  · exact fn_non
theorem fn_ent {d : PyData} (h : EntD d) : Fn 6 d := by
  obtain ⟨pd, dep, fr, back, tok, wd, rfl, hp, _, _, hf, hb0, hb1, ht, hw⟩ := h
  refine fn_tup (n := 5) (fun x hx => ?_) (by show 6 ≤ 20000; decide)
  simp only [List.mem_cons, List.not_mem_nil, or_false] at hx
  rcases hx with rfl | rfl | rfl | rfl | rfl | rfl
  · exact (fn_proc hp).mono (by decide)
  · exact fn_int
  · exact fn_fr hf
  · by_cases e : dep = 0
    · rw [hb0 e]
      exact (fn_tup (n := 0) (ds := []) (fun x hx => nomatch hx) (by show 0 ≤ 20000; decide)).mono (by decide)
    · exact (fn_obj (hb1 e)).mono (by decide)
  · exact (fn_tok ht).mono (by decide)
  · exact fn_word (words_in wd hw)
theorem makers_in : ∀ x ∈ (["start", "Box", "a1", "Z"] : List Str), x ∈ (["start", "get", "f2", "Put", "", "number", "large", "nil", "Box", "a1", "Z", "ref"] : List Str) := by decide +kernel
theorem fn_bund {d : PyData} (h : BundD d) : Fn 8 d := by
  obtain ⟨nm, mk, vs, es, c, rfl, ho, hm, lv, hv, le, he, _, _⟩ := h
  refine fn_tup (n := 7) (fun x hx => ?_) (by show 5 ≤ 20000; decide)
  simp only [List.mem_cons, List.not_mem_nil, or_false] at hx
  rcases hx with rfl | rfl | rfl | rfl | rfl
  · exact (fn_obj ho).mono (by decide)
  · exact fn_word (makers_in mk hm)
  · exact (fn_vals hv (by omega)).mono (by decide)
  · exact fn_tup (fun x hx => fn_ent (he x hx)) (by omega)
  · exact fn_int
theorem al_nil {p : PyData → Prop} : ∀ x ∈ ([] : List PyData), p x := fun _ h => nomatch h
theorem al_cons {p : PyData → Prop} {x : PyData} {r : List PyData} (h : p x) (hr : ∀ y ∈ r, p y) : ∀ y ∈ x :: r, p y := fun y hy => by
  rcases List.mem_cons.mp hy with rfl | hy
  · exact h
  · exact hr y hy
theorem ent_of_tup {n m f es c : PyData} (h : ∀ ds, es = .tuple ds → ∀ x ∈ ds, EntOk x) : ∀ n' m' f' ds c', PyData.tuple [n, m, f, es, c] = .tuple [n', m', f', .tuple ds, c'] → ∀ x ∈ ds, EntOk x := by
  intro n' m' f' ds c' h'
  injection h' with h'
  injection h' with _ h'
  injection h' with _ h'
  injection h' with _ h'
  injection h' with h' _
  exact h _ h'
def BEnt (d : PyData) : Prop := ∀ n m f ds c, d = .tuple [n, m, f, .tuple ds, c] → ∀ x ∈ ds, EntOk x
theorem ent_word {d : PyData} (h : EntD d) : EntOk d := by
  obtain ⟨pd, dep, fr, back, tok, wd, rfl, _⟩ := h
  intro p dp f b t w h
  injection h with h
  injection h with _ h
  injection h with _ h
  injection h with _ h
  injection h with _ h
  injection h with _ h
  injection h with h _
  exact ⟨_, h.symm⟩
theorem bund_ents {d : PyData} (h : BundD d) : BEnt d := by
  obtain ⟨nm, mk, vs, es, c, rfl, _, _, _, _, _, he, _⟩ := h
  exact ent_of_tup fun ds e => by
    injection e with e
    subst e
    exact fun x hx => ent_word (he x hx)
/-! ### texts of numbers, and what is put together of them -/
abbrev num (i : Int) : Str := Str.ofString (toString i)
theorem tl_pos {i : Int} (h : 0 ≤ i) : TL.tl (num i) = TL.numL i.toNat := by
  have e : i = ((i.toNat : Nat) : Int) := by omega
  rw [e]
  exact TL.tl_num _
theorem tl_neg {i : Int} (h : i < 0) : TL.tl (num i) = 45 :: TL.numL (-i).toNat := by
  obtain ⟨m, rfl⟩ : ∃ m : Nat, i = Int.negSucc m := ⟨(-i).toNat - 1, by omega⟩
  have e1 : toString (Int.negSucc m) = "-" ++ toString ((m + 1 : Nat) : Int) := rfl
  have e2 : (-(Int.negSucc m)).toNat = m + 1 := rfl
  rw [e2, ← TL.tl_num]
  show TL.tl (Str.ofString (toString (Int.negSucc m))) = _
  rw [e1, TL.tl_ofString, TL.tl_ofString, String.toList_append, List.map_append]
  rfl
theorem len_pos {i : Int} (h : 0 ≤ i) (h1 : i ≤ 1000000000000) : (num i).length ≤ 13 := by
  rw [TL.len_tl, tl_pos h]
  exact TL.numL_len (by decide) (by omega)
theorem len_num {i : Int} (h : -1000000000000 ≤ i) (h1 : i ≤ 1000000000000) : (num i).length ≤ 14 := by
  by_cases h0 : 0 ≤ i
  · exact Nat.le_succ_of_le (len_pos h0 h1)
  · rw [TL.len_tl, tl_neg (by omega), List.length_cons]
    exact Nat.succ_le_succ (TL.numL_len (by decide) (by omega))
theorem log_small {i : Int} (h : -1000000000000 ≤ i) (h1 : i ≤ 1000000000000) : i.natAbs.log2 < 1920 := by
  have : i.natAbs < 2 ^ 40 := by omega
  by_cases e : i.natAbs = 0
  · rw [e]
    decide
  · have := (Nat.log2_lt e).mpr this
    omega
theorem app_len (x y : Str) : (x ++ y).length = x.length + y.length := by
  rw [TL.len_tl, TL.tl_append, List.length_append, ← TL.len_tl, ← TL.len_tl]
theorem app_assoc (x y z : Str) : x ++ y ++ z = x ++ (y ++ z) := TL.ext_tl (by simp only [TL.tl_append, List.append_assoc])
theorem empty_app (x : Str) : Str.empty ++ x = x := TL.ext_tl (by rw [TL.tl_append]; rfl)
theorem app_empty (x : Str) : x ++ Str.empty = x := TL.ext_tl (by rw [TL.tl_append]; exact List.append_nil _)
theorem join_nil (y : Str) : Txt.join y [] = Str.empty := by rw [TL.join_eq]; rfl
theorem join_one (y x : Str) : Txt.join y [x] = x := by rw [TL.join_eq]; rfl
theorem join_two (y x z : Str) (r : List Str) : Txt.join y (x :: z :: r) = x ++ y ++ Txt.join y (z :: r) := by rw [TL.join_eq, TL.join_eq]; rfl
/-- all of them behind one another -/
abbrev cat (xs : List Str) : Str := Txt.join Str.empty xs
theorem cat_cons (x : Str) (r : List Str) : cat (x :: r) = x ++ cat r := by
  cases r with
  | nil => rw [show cat [x] = x from join_one _ _, show cat [] = Str.empty from join_nil _, app_empty]
  | cons z r => rw [show cat (x :: z :: r) = x ++ Str.empty ++ cat (z :: r) from join_two _ _ _ _, app_empty]
theorem cat_nil : cat [] = Str.empty := join_nil _
theorem cat_app (xs ys : List Str) : cat (xs ++ ys) = cat xs ++ cat ys := by
  induction xs with
  | nil => rw [cat_nil, empty_app]; rfl
  | cons x r ih => rw [List.cons_append, cat_cons, ih, cat_cons, app_assoc]
/-- a sign before each but the first -/
theorem join_cat (y x : Str) (r : List Str) : Txt.join y (x :: r) = x ++ cat (r.map fun z => y ++ z) := by
  induction r generalizing x with
  | nil => rw [join_one, List.map_nil, cat_nil, app_empty]
  | cons z r ih => rw [join_two, ih, List.map_cons, cat_cons, app_assoc, app_assoc]
/-- a sign behind each -/
theorem join_ends (y : Str) (xs : List Str) : cat (xs.map fun z => z ++ y) = Txt.join y (xs ++ [Str.empty]) := by
  induction xs with
  | nil => rw [List.map_nil, cat_nil]; exact (join_one _ _).symm
  | cons x r ih =>
    rw [List.map_cons, cat_cons, ih]
    cases r with
    | nil => exact (join_two y x Str.empty []).symm
    | cons z r => exact (join_two y x z (r ++ [Str.empty])).symm
theorem join_app (y : Str) {xs ys : List Str} (hx : xs ≠ []) (hy : ys ≠ []) : Txt.join y (xs ++ ys) = Txt.join y xs ++ y ++ Txt.join y ys := by
  obtain ⟨x, r, rfl⟩ := List.exists_cons_of_ne_nil hx
  obtain ⟨z, q, rfl⟩ := List.exists_cons_of_ne_nil hy
  rw [List.cons_append, join_cat, join_cat, join_cat, List.map_append, cat_app, List.map_cons, cat_cons]
  simp only [app_assoc]
theorem cat_len {xs : List Str} {n : Nat} (h : ∀ x ∈ xs, x.length ≤ n) : (cat xs).length ≤ n * xs.length := by
  induction xs with
  | nil => rw [cat_nil]; exact Nat.zero_le _
  | cons x r ih =>
    rw [cat_cons, app_len, List.length_cons, Nat.mul_succ]
    have := h x List.mem_cons_self
    have := ih fun y hy => h y (List.mem_cons_of_mem _ hy)
    omega
theorem sum_len {xs : List Str} {n : Nat} (h : ∀ x ∈ xs, x.length ≤ n) : (xs.map (·.length)).sum ≤ n * xs.length := by
  induction xs with
  | nil => exact Nat.zero_le _
  | cons x r ih =>
    rw [List.map_cons, List.sum_cons, List.length_cons, Nat.mul_succ]
    have := h x List.mem_cons_self
    have := ih fun y hy => h y (List.mem_cons_of_mem _ hy)
    omega
/-! ### the texts of a bundle -/
def nT : PyData → Str
  | .int i => num i
  | _ => Str.empty
def pT : PyData → Str
  | .tuple ds => Txt.join "." ("p" :: ds.map nT)
  | _ => Str.empty
def oT : PyData → Str
  | .tuple [p, k] => pT p ++ "#" ++ nT k
  | _ => Str.empty
def vT : PyData → Str
  | .int i => num i
  | .tuple [_, o] => oT o
  | _ => "nil"
def wT : PyData → Str
  | .str x => x
  | _ => Str.empty
def tokT : PyData → Str
  | .tuple [x, y] => nT x ++ "," ++ nT y
  | _ => "-"
def backT : PyData → Str
  | .tuple [] => "-"
  | b => oT b
def dashT : PyData → Str
  | .str x => if x = "" then "-" else x
  | _ => Str.empty
def lsT : PyData → List Str
  | .tuple ds => ds.map vT
  | _ => []
def entW : PyData → List Str
  | .tuple [p, dp, .tuple [op, i, ls, st], b, t, w] => ((["frame", pT p, "depth", nT dp, "op", wT op, "at", nT i, "back", backT b, "token", tokT t, "word", dashT w, "locals"] : List Str) ++ lsT ls) ++ (("stack" : Str) :: lsT st)
  | _ => []
def headW : PyData → List Str
  | .tuple [o, m, vs, _, c] => (["object", oT o, "maker", wT m, "count", nT c, "fields"] : List Str) ++ lsT vs
  | _ => []
def linesT : PyData → List Str
  | .tuple [o, m, vs, .tuple es, c] => Txt.join " " (headW (.tuple [o, m, vs, .tuple es, c])) :: es.map fun e => Txt.join " " (entW e)
  | _ => []
def bT (d : PyData) : Str := cat ((linesT d).map fun z => z ++ "\n")
theorem e0 : Str.ofString "" = Str.empty := by rfl
theorem pT_eq (ns : List Int) : pT (.tuple (ns.map PyData.int)) = cat ("p" :: ns.map fun n => "." ++ num n) := by
  show Txt.join "." ("p" :: (ns.map PyData.int).map nT) = _
  rw [join_cat, cat_cons, List.map_map, List.map_map]
  rfl
theorem j1 {x y : Str} {m n : Nat} (hx : x.length ≤ m) (hy : y.length ≤ n) : (x ++ y).length ≤ m + n := by
  rw [app_len]
  omega
theorem jE : Str.empty.length ≤ 0 := Nat.le_refl _
theorem jL {x : Str} {n : Nat} (h : x.length.ble n = true) : x.length ≤ n := Nat.le_of_ble_eq_true h
theorem sz {x : Str} {n : Nat} (h : x.length ≤ n) (e : n.ble 100000 = true) : x.length ≤ sizeLine := Cm.small (Nat.le_trans h (Nat.le_of_ble_eq_true e))
theorem sum_ok {xs : List Str} {n : Nat} (h : ∀ x ∈ xs, x.length ≤ n) (l : n * xs.length ≤ 1000000) : (xs.map (·.length)).sum + xs.length * (Str.ofString "").length ≤ 16777216 := by
  have := sum_len h
  have e : (Str.ofString "").length = 0 := rfl
  rw [e, Nat.mul_zero]
  omega
theorem len_pT {d : PyData} (h : ProcD d) : (pT d).length ≤ 50 := by
  obtain ⟨ns, rfl, l, hn⟩ := h
  rw [pT_eq, cat_cons, app_len]
  have := cat_len (xs := ns.map fun n => "." ++ num n) (n := 14) fun x hx => by
    obtain ⟨n, hn', rfl⟩ := List.mem_map.mp hx
    have hb := hn n hn'
    exact j1 (jL (n := 1) rfl) (len_pos hb.1 (by omega))
  rw [List.length_map] at this
  have e : ("p" : Str).length = 1 := rfl
  omega
theorem oT_eq (p : PyData) (k : Int) : oT (.tuple [p, .int k]) = pT p ++ "#" ++ num k := rfl
theorem len_oT {d : PyData} (h : ObjD d) : (oT d).length ≤ 70 := by
  obtain ⟨p, k, rfl, hp, h0, h1⟩ := h
  rw [oT_eq]
  exact Nat.le_trans (j1 (j1 (len_pT hp) (jL (n := 1) rfl)) (len_pos h0 (by omega))) (by decide)
theorem len_vT {d : PyData} (h : ValD d) : (vT d).length ≤ 70 := by
  rcases h with rfl | ⟨o, ho, rfl⟩ | ⟨i, rfl, h0, h1⟩
  · exact jL rfl
  · exact len_oT ho
  · exact Nat.le_trans (len_num h0 h1) (by decide)
def vsT (ds : List PyData) : Str := cat (ds.map fun d => " " ++ vT d)
theorem len_vsT {ds : List PyData} (h : ∀ x ∈ ds, ValD x) (l : ds.length ≤ 4) : (vsT ds).length ≤ 300 := by
  have := cat_len (xs := ds.map fun d => " " ++ vT d) (n := 71) fun x hx => by
    obtain ⟨d, hd, rfl⟩ := List.mem_map.mp hx
    exact Nat.le_trans (j1 (jL (n := 1) rfl) (len_vT (h d hd))) (by decide)
  rw [List.length_map] at this
  show (cat _).length ≤ 300
  omega
theorem lit2 : (" depth " : Str) = " " ++ ("depth" ++ " ") ∧ (" op " : Str) = " " ++ ("op" ++ " ") ∧ (" at " : Str) = " " ++ ("at" ++ " ") ∧ (" back " : Str) = " " ++ ("back" ++ " ") ∧ (" token " : Str) = " " ++ ("token" ++ " ") ∧ (" word " : Str) = " " ++ ("word" ++ " ") ∧ (" locals" : Str) = " " ++ "locals" ∧ (" stack" : Str) = " " ++ "stack" ∧ (" maker " : Str) = " " ++ ("maker" ++ " ") ∧ (" count " : Str) = " " ++ ("count" ++ " ") ∧ (" fields" : Str) = " " ++ "fields" ∧ ("frame " : Str) = "frame" ++ " " ∧ ("object " : Str) = "object" ++ " " := by decide +kernel
theorem vs_words (ds : List PyData) : cat ((lsT (.tuple ds)).map fun z => " " ++ z) = vsT ds := by
  show cat ((ds.map vT).map _) = cat _
  rw [List.map_map]
  rfl
theorem ent_text (p dp op i b t w : PyData) (ls st : List PyData) : Str.empty ++ "frame " ++ pT p ++ " depth " ++ nT dp ++ " op " ++ wT op ++ " at " ++ nT i ++ " back " ++ backT b ++ " token " ++ tokT t ++ " word " ++ dashT w ++ " locals" ++ vsT ls ++ " stack" ++ vsT st ++ "\n" =
    Txt.join " " (entW (.tuple [p, dp, .tuple [op, i, .tuple ls, .tuple st], b, t, w])) ++ "\n" := by
  obtain ⟨a1, a2, a3, a4, a5, a6, a7, a8, a9, a10, a11, a12, a13⟩ := lit2
  have e : entW (.tuple [p, dp, .tuple [op, i, .tuple ls, .tuple st], b, t, w]) = ("frame" : Str) :: (([pT p, "depth", nT dp, "op", wT op, "at", nT i, "back", backT b, "token", tokT t, "word", dashT w, "locals"] : List Str) ++ lsT (.tuple ls) ++ (("stack" : Str) :: lsT (.tuple st))) := rfl
  rw [e, join_cat]
  simp only [List.map_append, cat_app, vs_words, List.map_cons, List.map_nil, cat_cons, cat_nil, app_empty, empty_app, a1, a2, a3, a4, a5, a6, a7, a8, a12, app_assoc]
theorem head_text (o m c es : PyData) (vs : List PyData) : Str.empty ++ "object " ++ oT o ++ " maker " ++ wT m ++ " count " ++ nT c ++ " fields" ++ vsT vs ++ "\n" = Txt.join " " (headW (.tuple [o, m, .tuple vs, es, c])) ++ "\n" := by
  obtain ⟨a1, a2, a3, a4, a5, a6, a7, a8, a9, a10, a11, a12, a13⟩ := lit2
  have e : headW (.tuple [o, m, .tuple vs, es, c]) = ("object" : Str) :: (([oT o, "maker", wT m, "count", nT c, "fields"] : List Str) ++ lsT (.tuple vs)) := rfl
  rw [e, join_cat]
  simp only [List.map_append, cat_app, vs_words, List.map_cons, List.map_nil, cat_cons, cat_nil, app_empty, empty_app, a9, a10, a11, a13, app_assoc]
theorem len_tokT {t : PyData} {w : Str} (h : TokD t w) : (tokT t).length ≤ 30 := by
  rcases h with ⟨x, y, rfl, x0, x1, y0, y1⟩ | ⟨rfl, _⟩
  · exact Nat.le_trans (j1 (j1 (len_pos x0 (by omega)) (jL (n := 1) rfl)) (len_pos y0 (by omega))) (by decide)
  · exact jL rfl
theorem len_backT {b : PyData} (h : b = .tuple [] ∨ ObjD b) : (backT b).length ≤ 70 := by
  rcases h with rfl | h
  · exact jL rfl
  · have e : backT b = oT b := by
      obtain ⟨p, k, rfl, _⟩ := h
      rfl
    rw [e]
    exact len_oT h
theorem len_words : ∀ x ∈ (["start", "get", "f2", "Put", "", "number", "large", "nil", "Box", "a1", "Z", "ref"] : List Str), x.length ≤ 6 := by decide +kernel
theorem len_ent {d : PyData} (h : EntD d) : (Txt.join " " (entW d) ++ "\n").length ≤ 900 := by
  obtain ⟨pd, dep, fr, back, tok, wd, rfl, hp, d0, d1, hf, hb0, hb1, ht, hw⟩ := h
  obtain ⟨op, i, ls, st, rfl, hop, i0, i1, l1, l2, hls, hst⟩ := hf
  have hbk : back = .tuple [] ∨ ObjD back := by
    by_cases e : dep = 0
    · exact .inl (hb0 e)
    · exact .inr (hb1 e)
  have hop : (wT (.str op)).length ≤ 6 := len_words op (List.mem_of_mem_take (i := 4) hop)
  have hwl : (dashT (.str wd)).length ≤ 6 := by
    show (if wd = "" then ("-" : Str) else wd).length ≤ 6
    split
    · exact jL rfl
    · exact len_words wd (words_in wd hw)
  have b4 : (Str.empty ++ "frame " ++ pT pd ++ " depth " ++ nT (.int dep)).length ≤ _ := j1 (j1 (j1 (j1 jE (jL (n := 6) rfl)) (len_pT hp)) (jL (n := 7) rfl)) (len_pos d0 (by omega))
  have b8 := j1 (j1 (j1 (j1 b4 (jL (x := " op ") (n := 4) rfl)) hop) (jL (x := " at ") (n := 4) rfl)) (show (nT (.int i)).length ≤ 13 from len_pos i0 (by omega))
  have b12 := j1 (j1 (j1 (j1 b8 (jL (x := " back ") (n := 6) rfl)) (len_backT hbk)) (jL (x := " token ") (n := 7) rfl)) (len_tokT ht)
  have b15 := j1 (j1 (j1 b12 (jL (x := " word ") (n := 6) rfl)) hwl) (jL (x := " locals") (n := 7) rfl)
  have b19 := j1 (j1 (j1 (j1 b15 (len_vsT hls (by omega))) (jL (x := " stack") (n := 6) rfl)) (len_vsT hst (by omega))) (jL (x := "\n") (n := 1) rfl)
  rw [ent_text] at b19
  exact Nat.le_trans b19 (by decide)
theorem bT_eq (o m c : PyData) (vs es : List PyData) : bT (.tuple [o, m, .tuple vs, .tuple es, c]) = (Txt.join " " (headW (.tuple [o, m, .tuple vs, .tuple es, c])) ++ "\n") ++ cat (es.map fun e => Txt.join " " (entW e) ++ "\n") := by
  show cat ((Txt.join " " _ :: es.map _).map _) = _
  rw [List.map_cons, cat_cons, List.map_map]
  rfl
theorem sum_ok1 {xs : List Str} {n : Nat} {y : Str} (h : ∀ x ∈ xs, x.length ≤ n) (e : y.length = 1) (l : n * xs.length + xs.length ≤ 1000000) : (xs.map (·.length)).sum + xs.length * y.length ≤ 16777216 := by
  have := sum_len h
  rw [e, Nat.mul_one]
  omega
theorem cut2 {x y : Str} (h : y.length = 2) : cutS (x ++ y) none (some (-2)) = x := by
  refine TL.ext_tl ?_
  have hl : (x ++ y).length = x.length + 2 := by rw [app_len, h]
  show ((TL.tl (x ++ y)).drop 0).take (HT.sIx (x ++ y).length (x ++ y).length (some (-2)) - 0) = TL.tl x
  have e : HT.sIx (x ++ y).length (x ++ y).length (some (-2)) = x.length := by
    show (if (-2 : Int) < 0 then ((-2 : Int) + ((x ++ y).length : Int)).toNat else min (-2 : Int).toNat (x ++ y).length) = _
    rw [if_pos (by decide), hl]
    omega
  rw [e, TL.tl_append, List.drop_zero, Nat.sub_zero, TL.len_tl x, List.take_left]
theorem cut_name (p : PyData) : cutS (oT (.tuple [p, .int 0])) none (some (-2)) = pT p := by
  rw [oT_eq, app_assoc]
  exact cut2 (by decide +kernel)
theorem len_head {o : PyData} {mk : Str} {vs : List PyData} {es : PyData} {c : Int} (ho : ObjD o) (hm : mk ∈ (["start", "Box", "a1", "Z"] : List Str)) (hv : ∀ x ∈ vs, ValD x) (lv : vs.length ≤ 4) (c0 : 0 ≤ c) (c1 : c ≤ 1000000000000) : (Txt.join " " (headW (.tuple [o, .str mk, .tuple vs, es, .int c])) ++ "\n").length ≤ 900 := by
  have hml : (wT (.str mk)).length ≤ 6 := len_words mk (makers_in mk hm)
  have b4 := j1 (j1 (j1 (j1 jE (jL (x := "object ") (n := 7) rfl)) (len_oT ho)) (jL (x := " maker ") (n := 7) rfl)) hml
  have b7 := j1 (j1 (j1 b4 (jL (x := " count ") (n := 7) rfl)) (show (nT (.int c)).length ≤ 13 from len_pos c0 c1)) (jL (x := " fields") (n := 7) rfl)
  have b9 := j1 (j1 b7 (len_vsT hv lv)) (jL (x := "\n") (n := 1) rfl)
  have e := head_text o (.str mk) (.int c) es vs
  rw [e] at b9
  exact Nat.le_trans b9 (by decide)
/-! ### texts taken apart: what stands in them -/
theorem mem_cat {c : Nat} {xs : List Str} (h : c ∈ TL.tl (cat xs)) : ∃ x ∈ xs, c ∈ TL.tl x := by
  induction xs with
  | nil => rw [cat_nil] at h; exact nomatch h
  | cons x r ih =>
    rw [cat_cons, TL.tl_append] at h
    rcases List.mem_append.mp h with h | h
    · exact ⟨x, List.mem_cons_self, h⟩
    · obtain ⟨y, hy, h⟩ := ih h
      exact ⟨y, List.mem_cons_of_mem _ hy, h⟩
theorem mem_join {c : Nat} {y : Str} {xs : List Str} (h : c ∈ TL.tl (Txt.join y xs)) : c ∈ TL.tl y ∨ ∃ x ∈ xs, c ∈ TL.tl x := by
  cases xs with
  | nil => rw [join_nil] at h; exact nomatch h
  | cons x r =>
    rw [join_cat, TL.tl_append] at h
    rcases List.mem_append.mp h with h | h
    · exact .inr ⟨x, List.mem_cons_self, h⟩
    · obtain ⟨z, hz, h⟩ := mem_cat h
      obtain ⟨w, hw, rfl⟩ := List.mem_map.mp hz
      rw [TL.tl_append] at h
      rcases List.mem_append.mp h with h | h
      · exact .inl h
      · exact .inr ⟨w, List.mem_cons_of_mem _ hw, h⟩
theorem num_digits {i : Int} (h : 0 ≤ i) : NumText.AllDigits (TL.tl (num i)) := by
  rw [tl_pos h]
  exact TL.numL_digits _
theorem num_free {i : Int} {s : Nat} (h : 0 ≤ i) (hs : s < 48 ∨ 57 < s) : s ∉ TL.tl (num i) := by
  rw [tl_pos h]
  exact TL.numL_free hs
theorem numL_head {n : Nat} (h : 1 ≤ n) : ∃ c r, TL.numL n = c :: r ∧ 49 ≤ c ∧ c ≤ 57 := by
  induction n using Nat.strongRecOn with
  | _ n ih =>
    by_cases h10 : n < 10
    · exact ⟨48 + n, [], TL.numL_lt h10, by omega, by omega⟩
    · obtain ⟨c, r, e, h1, h2⟩ := ih (n / 10) (by omega) (by omega)
      refine ⟨c, r ++ [48 + n % 10], ?_, h1, h2⟩
      rw [TL.numL_step (by omega), e]
      rfl
theorem num_zero : num 0 = "0" := by decide +kernel
/-- the first sign of a number -/
theorem num_head {i : Int} (h : 0 ≤ i) : ∃ c r, TL.tl (num i) = c :: r ∧ 48 ≤ c ∧ c ≤ 57 ∧ (c = 48 → num i = "0") := by
  by_cases e : i = 0
  · subst e
    exact ⟨48, [], by decide +kernel, by decide, by decide, fun _ => num_zero⟩
  · obtain ⟨c, r, e, h1, h2⟩ := numL_head (n := i.toNat) (by omega)
    exact ⟨c, r, by rw [tl_pos h, e], by omega, h2, fun z => by omega⟩
theorem digit_small : ∀ n : Nat, n < 58 → 48 ≤ n → Unicode.isDigit n = true := by decide +kernel
theorem num_isdigit {i : Int} (h : 0 ≤ i) : Txt.isdigit (num i) = true := by
  obtain ⟨c, r, e, _⟩ := num_head h
  have hd := num_digits h
  have hl : (num i).length > 0 := by rw [TL.len_tl, e, List.length_cons]; omega
  show (decide ((num i).length > 0) && (num i).cps.all Unicode.isDigit) = true
  rw [decide_eq_true hl, Bool.true_and, ← Array.all_toList]
  refine List.all_eq_true.mpr fun x hx => ?_
  have := hd x hx
  exact digit_small x (by omega) this.1
theorem num_isascii {i : Int} (h : 0 ≤ i) : Txt.isascii (num i) = true := by
  have hd := num_digits h
  show (num i).cps.all (· < 128) = true
  rw [← Array.all_toList]
  refine List.all_eq_true.mpr fun x hx => ?_
  have := hd x hx
  exact decide_eq_true (by omega)
theorem num_int {i : Int} (h : 0 ≤ i) (h1 : i ≤ 1000000000000) : intText? (num i) = some i := by
  have e : i = ((i.toNat : Nat) : Int) := by omega
  have l := len_pos h h1
  rw [TL.len_tl, tl_pos h] at l
  have := TL.int_num (n := i.toNat) (by omega)
  rw [← e] at this
  exact this
/-- a process's name has no '#' -/
theorem pT_signs {d : PyData} (h : ProcD d) : ∀ c ∈ TL.tl (pT d), c = 112 ∨ c = 46 ∨ (48 ≤ c ∧ c ≤ 57) := by
  obtain ⟨ns, rfl, l, hn⟩ := h
  intro c hc
  rcases mem_join (show c ∈ TL.tl (Txt.join "." ("p" :: (ns.map PyData.int).map nT)) from hc) with h | ⟨x, hx, h⟩
  · exact .inr (.inl (List.mem_singleton.mp (show c ∈ [46] from h)))
  · rcases List.mem_cons.mp hx with rfl | hx
    · exact .inl (List.mem_singleton.mp (show c ∈ [112] from h))
    · obtain ⟨y, hy, rfl⟩ := List.mem_map.mp hx
      obtain ⟨n, hn', rfl⟩ := List.mem_map.mp hy
      exact .inr (.inr (num_digits (hn n hn').1 c h))
theorem split_pT {ns : List Int} (hn : ∀ n ∈ ns, 0 ≤ n ∧ n ≤ 12) : Txt.split (pT (.tuple (ns.map PyData.int))) "." = ("p" : Str) :: ns.map num := by
  have e : pT (.tuple (ns.map PyData.int)) = Txt.join "." (("p" : Str) :: ns.map num) := by
    show Txt.join "." ("p" :: (ns.map PyData.int).map nT) = _
    rw [List.map_map]
    rfl
  rw [e]
  refine TL.split_join (s := 46) (S := []) (by rfl) (by decide +kernel) (by simp) fun p hp => ?_
  rcases List.mem_cons.mp hp with rfl | hp
  · decide +kernel
  · obtain ⟨n, hn', rfl⟩ := List.mem_map.mp hp
    exact num_free (hn n hn').1 (by omega)
theorem part_oT {p : PyData} {k : Int} (hp : ProcD p) : Txt.partition (oT (.tuple [p, .int k])) "#" = (pT p, ("#" : Str), num k) := by
  rw [oT_eq]
  exact TL.partition_app (s := 35) (S := []) (by rfl) fun h => by
    have := pT_signs hp 35 h
    omega
theorem part_tok {x y : Int} (hx : 0 ≤ x) : Txt.partition (num x ++ ("," : Str) ++ num y) "," = (num x, ("," : Str), num y) :=
  TL.partition_app (y := ",") (s := 44) (S := []) (by rfl) (num_free hx (by omega))
theorem pT_head {d : PyData} (h : ProcD d) : ∃ r, TL.tl (pT d) = 112 :: r := by
  obtain ⟨ns, rfl, _⟩ := h
  rw [pT_eq, cat_cons, TL.tl_append]
  exact ⟨_, rfl⟩
theorem oT_head {d : PyData} (h : ObjD d) : ∃ r, TL.tl (oT d) = 112 :: r := by
  obtain ⟨p, k, rfl, hp, _⟩ := h
  obtain ⟨r, e⟩ := pT_head hp
  rw [oT_eq, TL.tl_append, TL.tl_append, e]
  exact ⟨_, rfl⟩
theorem starts {x y : Str} {c d : Nat} {r : List Nat} (ex : TL.tl x = c :: r) (ey : TL.tl y = [d]) : Txt.startswith x y = decide (c = d) := by
  have hi := TL.at_iff (x := x) (y := y) (by rw [ey]; simp) 0
  have hp : TL.pre (TL.tl y) ((TL.tl x).drop 0) = decide (c = d) := by
    rw [ex, ey]
    show (((c :: r).take 1) == [d]) = _
    by_cases e : c = d
    · rw [e, decide_eq_true rfl]
      simp
    · rw [decide_eq_false e]
      simp [e]
  rw [hp] at hi
  have e1 : Txt.startswith x y = true ↔ PySem.StrLaws.At x y x.length 0 := by
    unfold Txt.startswith PySem.StrLaws.At
    rw [Bool.and_eq_true, decide_eq_true_eq]
  rw [Bool.eq_iff_iff, e1, hi]
/-- the first sign of a value's text -/
theorem vT_head {d : PyData} (h : ValD d) : ∃ c r, TL.tl (vT d) = c :: r ∧ c ≠ 115 := by
  rcases h with rfl | ⟨o, ho, rfl⟩ | ⟨i, rfl, h0, h1⟩
  · exact ⟨110, _, rfl, by decide⟩
  · obtain ⟨r, e⟩ := oT_head ho
    exact ⟨112, r, e, by decide⟩
  · by_cases hi : 0 ≤ i
    · obtain ⟨c, r, e, h1, h2, _⟩ := num_head hi
      exact ⟨c, r, e, by omega⟩
    · exact ⟨45, _, tl_neg (by omega), by decide⟩
theorem vT_stack {d : PyData} (h : ValD d) : vT d ≠ "stack" := fun e => by
  obtain ⟨c, r, e1, e2⟩ := vT_head h
  rw [e] at e1
  have : TL.tl ("stack" : Str) = 115 :: [116, 97, 99, 107] := by decide +kernel
  rw [this] at e1
  injection e1 with e1 _
  exact e2 e1.symm
/-! ### words without blanks -/
def OkW (x : Str) : Prop := ∀ c ∈ TL.tl x, 33 ≤ c
theorem okw_lit {x : Str} (h : (TL.tl x).all (fun c => decide (33 ≤ c)) = true) : OkW x := fun c hc => of_decide_eq_true (List.all_eq_true.mp h c hc)
theorem okw_app {x y : Str} (h1 : OkW x) (h2 : OkW y) : OkW (x ++ y) := fun c hc => by
  rw [TL.tl_append] at hc
  rcases List.mem_append.mp hc with hc | hc
  · exact h1 c hc
  · exact h2 c hc
theorem okw_num (i : Int) : OkW (num i) := by
  by_cases h : 0 ≤ i
  · exact fun c hc => by have := num_digits h c hc; omega
  · intro c hc
    rw [tl_neg (by omega)] at hc
    rcases List.mem_cons.mp hc with rfl | hc
    · decide
    · have := TL.numL_digits _ c hc
      omega
theorem okw_pT {d : PyData} (h : ProcD d) : OkW (pT d) := fun c hc => by
  have := pT_signs h c hc
  omega
theorem okw_oT {d : PyData} (h : ObjD d) : OkW (oT d) := by
  obtain ⟨p, k, rfl, hp, _⟩ := h
  rw [oT_eq]
  exact okw_app (okw_app (okw_pT hp) (okw_lit (by decide +kernel))) (okw_num _)
theorem okw_vT {d : PyData} (h : ValD d) : OkW (vT d) := by
  rcases h with rfl | ⟨o, ho, rfl⟩ | ⟨i, rfl, h0, h1⟩
  · exact okw_lit (by decide +kernel)
  · exact okw_oT ho
  · exact okw_num i
theorem okw_words : ∀ x ∈ (["start", "get", "f2", "Put", "", "number", "large", "nil", "Box", "a1", "Z", "ref"] : List Str), OkW x := fun x hx => okw_lit (List.all_eq_true.mp (show (["start", "get", "f2", "Put", "", "number", "large", "nil", "Box", "a1", "Z", "ref"] : List Str).all (fun x => (TL.tl x).all fun c => decide (33 ≤ c)) = true by decide +kernel) x hx)
theorem split_words {ws : List Str} (h : ∀ x ∈ ws, OkW x) (ne : ws ≠ []) : Txt.split (Txt.join " " ws) " " = ws :=
  TL.split_join (s := 32) (S := []) (by rfl) (by decide +kernel) ne fun p hp hm => by
    have := h p hp 32 hm
    omega
theorem no_line {ws : List Str} (h : ∀ x ∈ ws, OkW x) : 10 ∉ TL.tl (Txt.join " " ws) := fun hm => by
  rcases mem_join hm with h1 | ⟨x, hx, h1⟩
  · have : (10 : Nat) ∈ [32] := h1
    simp at this
  · have := h x hx 10 h1
    omega
theorem okw_tok {t : PyData} {w : Str} (h : TokD t w) : OkW (tokT t) := by
  rcases h with ⟨x, y, rfl, _⟩ | ⟨rfl, _⟩
  · exact okw_app (okw_app (okw_num x) (okw_lit (by decide +kernel))) (okw_num y)
  · exact okw_lit (by decide +kernel)
theorem okw_back {b : PyData} (h : b = .tuple [] ∨ ObjD b) : OkW (backT b) := by
  rcases h with rfl | h
  · exact okw_lit (by decide +kernel)
  · have e : backT b = oT b := by
      obtain ⟨p, k, rfl, _⟩ := h
      rfl
    rw [e]
    exact okw_oT h
theorem okw_dash {w : Str} (h : w ∈ wordsF) : OkW (dashT (.str w)) := by
  show OkW (if w = "" then "-" else w)
  split
  · exact okw_lit (by decide +kernel)
  · exact okw_words w (words_in w h)
theorem al2_cons {α : Type} {p : α → Prop} {x : α} {r : List α} (h : p x) (hr : ∀ y ∈ r, p y) : ∀ y ∈ x :: r, p y := fun y hy => by
  rcases List.mem_cons.mp hy with rfl | hy
  · exact h
  · exact hr y hy
theorem al2_app {α : Type} {p : α → Prop} {x r : List α} (h : ∀ y ∈ x, p y) (hr : ∀ y ∈ r, p y) : ∀ y ∈ x ++ r, p y := fun y hy => by
  rcases List.mem_append.mp hy with hy | hy
  · exact h y hy
  · exact hr y hy
theorem okw_ls {ds : List PyData} (h : ∀ x ∈ ds, ValD x) : ∀ x ∈ lsT (.tuple ds), OkW x := fun x hx => by
  obtain ⟨d, hd, rfl⟩ := List.mem_map.mp (show x ∈ ds.map vT from hx)
  exact okw_vT (h d hd)
theorem okw_head {o : PyData} {mk : Str} {vs : List PyData} {es : PyData} {c : Int} (ho : ObjD o) (hm : mk ∈ (["start", "Box", "a1", "Z"] : List Str)) (hv : ∀ x ∈ vs, ValD x) : ∀ x ∈ headW (.tuple [o, .str mk, .tuple vs, es, .int c]), OkW x :=
  al2_app (al2_cons (okw_lit (by decide +kernel)) (al2_cons (okw_oT ho) (al2_cons (okw_lit (by decide +kernel)) (al2_cons (okw_words mk (makers_in mk hm)) (al2_cons (okw_lit (by decide +kernel)) (al2_cons (okw_num c) (al2_cons (okw_lit (by decide +kernel)) (fun _ h => nomatch h)))))))) (okw_ls hv)
theorem okw_ent {d : PyData} (h : EntD d) : ∀ x ∈ entW d, OkW x := by
  obtain ⟨pd, dep, fr, back, tok, wd, rfl, hp, d0, d1, hf, hb0, hb1, ht, hw⟩ := h
  obtain ⟨op, i, ls, st, rfl, hop, i0, i1, l1, l2, hls, hst⟩ := hf
  have hbk : back = .tuple [] ∨ ObjD back := by
    by_cases e : dep = 0
    · exact .inl (hb0 e)
    · exact .inr (hb1 e)
  have L : ∀ {x : Str}, (TL.tl x).all (fun c => decide (33 ≤ c)) = true → OkW x := fun h => okw_lit h
  exact al2_app (al2_app (al2_cons (L (by decide +kernel)) (al2_cons (okw_pT hp) (al2_cons (L (by decide +kernel)) (al2_cons (okw_num dep) (al2_cons (L (by decide +kernel)) (al2_cons (okw_words op (List.mem_of_mem_take (i := 4) hop)) (al2_cons (L (by decide +kernel)) (al2_cons (okw_num i) (al2_cons (L (by decide +kernel)) (al2_cons (okw_back hbk) (al2_cons (L (by decide +kernel)) (al2_cons (okw_tok ht) (al2_cons (L (by decide +kernel)) (al2_cons (okw_dash hw) (al2_cons (L (by decide +kernel)) (fun _ h => nomatch h)))))))))))))))) (okw_ls hls)) (al2_cons (L (by decide +kernel)) (okw_ls hst))
theorem split_lines {d : PyData} (h : BundD d) : Txt.split (bT d) "\n" = linesT d ++ [Str.empty] := by
  have e : bT d = Txt.join "\n" (linesT d ++ [Str.empty]) := join_ends _ _
  rw [e]
  refine TL.split_join (s := 10) (S := []) (by rfl) (by decide +kernel) (by simp) ?_
  obtain ⟨o, mk, vs, es, c, rfl, ho, hm, lv, hv, le, he, c0, c1⟩ := h
  refine al2_app (al2_cons (no_line (okw_head ho hm hv)) fun x hx => ?_) (al2_cons (fun h => nomatch h) fun _ h => nomatch h)
  obtain ⟨d, hd, rfl⟩ := List.mem_map.mp hx
  exact no_line (okw_ent (he d hd))
theorem len_bT {d : PyData} (h : BundD d) : (bT d).length ≤ 5000 := by
  obtain ⟨o, mk, vs, es, c, rfl, ho, hm, lv, hv, le, he, c0, c1⟩ := h
  rw [bT_eq, app_len]
  have h1 := len_head (es := .tuple es) ho hm hv lv c0 c1
  have h2 := cat_len (xs := es.map fun e => Txt.join " " (entW e) ++ "\n") (n := 900) fun x hx => by
    obtain ⟨d, hd, rfl⟩ := List.mem_map.mp hx
    exact len_ent (he d hd)
  rw [List.length_map] at h2
  omega
theorem cut_from (xs : List V) (k : Nat) : cutV xs (some (k : Int)) none = xs.drop k := by
  unfold cutV
  rw [HT.sIx_nat, show HT.sIx xs.length xs.length none = xs.length from rfl]
  by_cases h : k ≤ xs.length
  · rw [show min k xs.length = k by omega, List.take_of_length_le (by rw [List.length_drop]; exact Nat.le_refl _)]
  · rw [show min k xs.length = xs.length by omega, List.drop_eq_nil_of_le (Nat.le_refl _), List.drop_eq_nil_of_le (by omega), List.take_nil]
theorem cut_mid (xs : List V) {k m : Nat} (hk : k ≤ m) (hm : m ≤ xs.length) : cutV xs (some (k : Int)) (some (m : Int)) = (xs.drop k).take (m - k) := by
  unfold cutV
  rw [HT.sIx_nat, HT.sIx_nat, show min k xs.length = k by omega, show min m xs.length = m by omega]
theorem rps_intl {H : Hp} : ∀ ns : List Int, Rps K H (ns.map V.int) (ns.map PyData.int)
  | [] => .nil
  | n :: r => .cons (.int n) (rps_intl r)
theorem cut_tail {z w : Str} {c : Nat} (e : TL.tl z = c :: TL.tl w) : cutS z (some 1) none = w := by
  refine TL.ext_tl ?_
  have hl : z.length = w.length + 1 := by rw [TL.len_tl, e, List.length_cons, ← TL.len_tl]
  show ((TL.tl z).drop (HT.sIx z.length 0 (some ((1 : Nat) : Int)))).take (HT.sIx z.length z.length none - HT.sIx z.length 0 (some ((1 : Nat) : Int))) = TL.tl w
  rw [HT.sIx_nat, show HT.sIx z.length z.length none = z.length from rfl, e, show min 1 z.length = 1 by omega]
  show (TL.tl w).take (z.length - 1) = TL.tl w
  exact List.take_of_length_le (by rw [← TL.len_tl]; omega)
theorem neg_tail {i : Int} (h : i < 0) : cutS (num i) (some 1) none = num (-i) :=
  cut_tail (c := 45) (by rw [tl_neg h, tl_pos (by omega)])
theorem back_dash {b : PyData} (h : b = .tuple [] ∨ ObjD b) (e : backT b = "-") : b = .tuple [] := by
  rcases h with h | h
  · exact h
  · obtain ⟨r, e1⟩ := oT_head h
    have e2 : backT b = oT b := by
      obtain ⟨p, k, rfl, _⟩ := h
      rfl
    rw [e2] at e
    rw [e, show TL.tl ("-" : Str) = [45] from by decide +kernel] at e1
    cases e1
theorem back_obj {b : PyData} (h : b = .tuple [] ∨ ObjD b) (e : backT b ≠ "-") : ObjD b ∧ backT b = oT b := by
  rcases h with rfl | h
  · exact absurd rfl e
  · refine ⟨h, ?_⟩
    obtain ⟨p, k, rfl, _⟩ := h
    rfl
theorem cut_last (xs : List V) : cutV xs (some (-1)) none = xs.drop (xs.length - 1) := by
  unfold cutV
  have e : HT.sIx xs.length 0 (some (-1)) = xs.length - 1 := by
    show (if (-1 : Int) < 0 then ((-1 : Int) + (xs.length : Int)).toNat else min (-1 : Int).toNat xs.length) = _
    rw [if_pos (by decide)]
    omega
  rw [e, show HT.sIx xs.length xs.length none = xs.length from rfl]
  exact List.take_of_length_le (by rw [List.length_drop]; omega)
theorem Rps.drop {H : Hp} : ∀ {us : List V} {ds : List PyData} (_ : Rps K H us ds) (n : Nat), Rps K H (us.drop n) (ds.drop n)
  | _, _, .nil, n => by rw [List.drop_nil, List.drop_nil]; exact .nil
  | _, _, .cons r rs, 0 => .cons r rs
  | _, _, .cons _ rs, n + 1 => Rps.drop rs n
/-! ### BadForm(line) -/
abbrev N_BF : List Str := ["self", "line", "__class__"]
theorem bf_scope : NdefX.NScope N_BF ["self", "line"] ["__class__"] sup_BadForm.scope := NdefX.nscope_by (by decide +kernel)
/-- its __init__: the line is kept -/
def spBF (K : PySem.W.Frag) : Sp := fun vs H Q _ => ∃ (a : Addr) (n : Int), vs = [.ref a, .int n] ∧ 0 ≤ n ∧ n ≤ 1000000 ∧ H a = some (exo a (He.ga K "BadForm") none) ∧
  ∀ dx, H dx = none → dx ≠ a → Q .non (upd (upd H dx (exd dx [("line", .int n)])) a (exo a (He.ga K "BadForm") (some dx)))
structure BFok (P : Program) (w : World) (K : PySem.W.Frag) (mg : Str → Option Value) (base : Heap) : Prop where
  ex : ∃ fd, FnOk P w K mg base CX0 1 (SupI.supA K "BadForm") fd ["self", "line"] (spBF K) ∧ L2H.FnH P w K mg base CX0 1 (SupI.supA K "BadForm") fd ["self", "line"] (spBF K) ∧ Binds K fd ["self", "line"] []
theorem ok_BF (hP : SupI.SupP P fileP) (T : Txt K mg w a) (hno : PySem.W.findIn K (.ref (He.ga K "BadForm")) "line" = some none) : BFok P w K mg base := by
  obtain ⟨cell, cc, oc, od, osl, doc, pm, an, ct, lk, hcd, SC⟩ := T.S_BadForm.ex
  have O := T.S_BadForm.oex
  have len : ∀ vs H Q E, spBF K vs H Q E → vs.length = (["self", "line"] : List Str).length := fun vs H Q E h => by
    obtain ⟨a, n, rfl, _⟩ := h
    rfl
  refine ⟨_, SupI.fn_sup (N := N_BF) lk hcd bf_scope SC hP rfl rfl rfl T.g_super len (fun A outer s H vs Q E h => ?_) (fun L => ⟨_, rfl⟩) (fun L => rfl) (fun L => rfl),
    SupI.fn_supH (N := N_BF) lk hcd bf_scope SC hP rfl rfl rfl T.g_super len (fun A outer s H vs Q E p hot h => ?_) (fun L => ⟨_, rfl⟩) (fun L => rfl) (fun L => rfl), Binds.all fun us hl => match us, hl with | [_, _], _ => rfl⟩
  · obtain ⟨b, n, rfl, n0, n1, hb, q⟩ := h
    refine ⟨_, _, pa_cons (LsX.pe_joinedJ (.cons pe_str (.cons (pe_fmt (pe_var (i := 1) rfl (.inl rfl))) .nil))) pa_nil, pss_one (ps_ost (pe_var (i := 0) rfl (.inl rfl)) (pe_var (i := 1) rfl (.inl rfl))), b, rfl, hb, ?_⟩
    have l1 := j1 jE (jL (x := "bad form in line ") (n := 17) rfl)
    refine ⟨_, rfl, sz l1 rfl, _, rfl, .inr ⟨_, rfl, log_small (by omega) (by omega), _, rfl, sz (j1 l1 (len_pos n0 (by omega))) rfl, ?_⟩⟩
    exact ⟨by show 1 ≤ 1000; decide, hb, _, rfl, _, rfl, b, _, rfl, O, hno, .inl ⟨hb, fun dx z1 z2 => q dx z1 z2⟩⟩
  · obtain ⟨b, n, rfl, n0, n1, hb, q⟩ := h
    refine ⟨_, _, pa_cons (LsX.pe_joinedJ (.cons pe_str (.cons (pe_fmt (pe_var (i := 1) rfl (.inl rfl))) .nil))) pa_nil, pss_one (ps_ost (pe_var (i := 0) rfl (.inl rfl)) (pe_var (i := 1) rfl (.inl rfl))), b, rfl, hb, ?_⟩
    have l1 := j1 jE (jL (x := "bad form in line ") (n := 17) rfl)
    refine ⟨_, rfl, sz l1 rfl, _, rfl, .inr ⟨_, rfl, log_small (by omega) (by omega), _, rfl, sz (j1 l1 (len_pos n0 (by omega))) rfl, ?_⟩⟩
    exact ⟨by show 1 ≤ 1000; decide, hb, _, rfl, _, rfl, b, _, rfl, O, hno, .inl ⟨hb, fun dx z1 z2 => q dx z1 z2⟩⟩
/-! ### numbers and names in texts: read or refused -/
/-- the number that a text is, if it is one -/
def NumT (t : Str) (i : Int) : Prop := t = num i ∧ 0 ≤ i ∧ i ≤ 9999999999999
theorem numL_of : ∀ (k : Nat) (ds : List Nat), ds.length = k + 1 → (∀ c ∈ ds, 48 ≤ c ∧ c ≤ 57) → (∀ r, ds = 48 :: r → r = []) → ∃ n, TL.numL n = ds ∧ n < 10 ^ (k + 1) ∧ (1 ≤ k → 1 ≤ n)
  | 0, ds, hl, hd, h0 => by
    cases ds with
    | nil => cases hl
    | cons c r =>
      cases r with
      | cons _ _ => simp at hl
      | nil =>
        obtain ⟨h1, h2⟩ := hd c List.mem_cons_self
        refine ⟨c - 48, ?_, by omega, fun z => absurd z (by omega)⟩
        rw [TL.numL_lt (by omega)]
        congr 1
        omega
  | k + 1, ds, hl, hd, h0 => by
    have hne : ds ≠ [] := fun z => by rw [z] at hl; cases hl
    obtain ⟨ini, d, e⟩ : ∃ ini d, ds = ini ++ [d] := ⟨_, _, (List.dropLast_concat_getLast hne).symm⟩
    subst e
    have hl' : ini.length = k + 1 := by
      rw [List.length_append, List.length_singleton] at hl
      omega
    have hd' : ∀ c ∈ ini, 48 ≤ c ∧ c ≤ 57 := fun c hc => hd c (List.mem_append_left _ hc)
    have hno : ∀ r, ini ≠ 48 :: r := fun r z => by
      have := h0 (r ++ [d]) (by rw [z]; rfl)
      simp at this
    obtain ⟨n, e1, e2, e3⟩ := numL_of k ini hl' hd' fun r z => absurd z (hno r)
    have n1 : 1 ≤ n := by
      rcases Nat.lt_or_ge n 1 with z | z
      · have : n = 0 := by omega
        rw [this, TL.numL_lt (by omega)] at e1
        exact absurd e1.symm (hno [])
      · exact z
    obtain ⟨g1, g2⟩ := hd d (List.mem_append_right _ List.mem_cons_self)
    refine ⟨10 * n + (d - 48), ?_, ?_, fun _ => by omega⟩
    · rw [TL.numL_step (by omega)]
      have a1 : (10 * n + (d - 48)) / 10 = n := by omega
      have a2 : 48 + (10 * n + (d - 48)) % 10 = d := by omega
      rw [a1, a2, e1]
    · have : 10 ^ (k + 1 + 1) = 10 ^ (k + 1) * 10 := rfl
      omega
theorem digit_ascii : ∀ c : Nat, c < 128 → Unicode.isDigit c = true → 48 ≤ c ∧ c ≤ 57 := by decide +kernel
theorem num_of {t : Str} (h1 : Txt.isascii t = true) (h2 : Txt.isdigit t = true) (hl : t.length ≤ 13) (h0 : ∀ r, TL.tl t = 48 :: r → t = "0") : ∃ i, NumT t i := by
  have h1 : t.cps.all (· < 128) = true := h1
  have h2 : (decide (t.length > 0) && t.cps.all Unicode.isDigit) = true := h2
  rw [Bool.and_eq_true] at h2
  obtain ⟨g1, g2⟩ := h2
  have g1 := of_decide_eq_true g1
  rw [← Array.all_toList] at h1 g2
  rw [TL.len_tl] at g1 hl
  have hd : ∀ c ∈ TL.tl t, 48 ≤ c ∧ c ≤ 57 := fun c hc => digit_ascii c (of_decide_eq_true (List.all_eq_true.mp h1 c hc)) (List.all_eq_true.mp g2 c hc)
  obtain ⟨n, e1, e2, _⟩ := numL_of ((TL.tl t).length - 1) (TL.tl t) (by omega) hd fun r e => by
    have z := h0 r e
    rw [z] at e
    have : TL.tl "0" = [48] := by decide +kernel
    rw [this] at e
    exact (List.cons.inj e).2.symm
  refine ⟨(n : Int), ?_, by omega, ?_⟩
  · refine TL.ext_tl ?_
    rw [tl_pos (by omega)]
    exact e1.symm
  · have : n < 10 ^ 13 := Nat.lt_of_lt_of_le e2 (Nat.pow_le_pow_right (by decide) (by omega))
    omega
theorem numT_uni {t : Str} {i j : Int} (h1 : NumT t i) (h2 : NumT t j) : i = j := by
  obtain ⟨e1, a1, b1⟩ := h1
  obtain ⟨e2, a2, b2⟩ := h2
  have f : ∀ {k : Int}, 0 ≤ k → k ≤ 9999999999999 → intText? (num k) = some k := fun {k} hk hk2 => by
    have e : k = ((k.toNat : Nat) : Int) := by omega
    have l : (TL.numL k.toNat).length ≤ 13 := TL.numL_len (by decide) (by omega)
    have := TL.int_num (n := k.toNat) (by omega)
    rw [← e] at this
    exact this
  have k1 := f a1 b1
  have k2 := f a2 b2
  rw [← e1] at k1
  rw [← e2, k1] at k2
  exact Option.some.inj k2
def spNumI (K : PySem.W.Frag) : Sp := fun vs H Q E => ∃ t : Str, vs = [.str t] ∧ t.length ≤ 100000 ∧ (∀ i, NumT t i → Q (.int i) H) ∧ ((∀ i, ¬ NumT t i) → E (.ref (He.ga K "NotAllowed")) none H)
theorem ok_number_in (T : Txt K mg w a) : FnOk P w K mg base (L2N.CX P w) 1 (He.ga K "number_in") a.d_number_in ["text"] (spNumI K) := by
  refine T.F_number_in.ok (CX := L2N.CX P w) sc_number_in (fun vs H Q E h => ?_) (fun cdv A outer s H vs Q E hr h => ?_)
  · obtain ⟨t, rfl, _⟩ := h
    rfl
  · obtain ⟨t, rfl, hl, q, qe⟩ := h
    refine ⟨_, (pss_cons (ps_if (PW.pt (pw_or (pt_not (PW.pt (pw_and (pt_val (pe_bm0 PySem.F.plainAttrs_str PySem.F.slot_str_isascii PySem.F.type_str_isascii mt_isascii (pv 0))) (pw_and1 (pt_val (pe_bm0 PySem.F.plainAttrs_str PySem.F.slot_str_isdigit PySem.F.type_str_isdigit mt_isdigit (pv 0))))))) (pw_or (pt_cmpR op_gt (pe_callB call_len_str (by rfl) T.g_len boot_len (pa_cons (pv 0) pa_nil)) (pe_glob (v := .int 13) (by rfl) T.g_MAX_DIGITS.choose_spec ⟨_, rfl⟩) (nomark _)) (pw_or1 (PW.pt (pw_and (pt_cmpR op_eq (pe_ix ix_str (pv 0) pe_int (fun _ _ => rfl)) pe_str (nomark _)) (pw_and1 (pt_cmpR op_ne (pv 0) pe_str (nomark _))))))))) (pss_one (L2N.ps_raise rfl (L2N.takes_of rfl rfl rfl rfl) (L2N.pmk_own PySem.F.excBase_ValueError T.x_NotAllowed T.g_NotAllowed T.k_NotAllowed (raises_own T.s_NotAllowed T.t_NotAllowed) (by rfl)))) pss_nil)
      (pss_one (ps_ret (pe_callTy call_int_str (by rfl) T.g_int boot_int (pa_cons (pv 0) pa_nil))))), ?_⟩
    rw [show L2.start N_number_in [.str t] = [some (.str t)] from rfl]
    have no1 : Txt.isascii t = false → E (.ref (He.ga K "NotAllowed")) none H := fun e => qe fun i ⟨h1, h2, _⟩ => by rw [h1, num_isascii h2] at e; cases e
    have no2 : Txt.isdigit t = false → E (.ref (He.ga K "NotAllowed")) none H := fun e => qe fun i ⟨h1, h2, _⟩ => by rw [h1, num_isdigit h2] at e; cases e
    refine ⟨_, rfl, rfl, _, rfl, rfl, trivial, _, rfl, Cm.itB (fun y1 => ?_) fun e => ?_⟩
    · refine ⟨_, rfl, rfl, _, rfl, rfl, trivial, _, rfl, Cm.itB (fun e => no2 (by simpa using e)) fun e => ?_⟩
      have y2 : Txt.isdigit t = true := by simpa using e
      have lz : t.length ≤ sizeLine := by rw [sizeLine_eq]; omega
      have len13 : ∀ i, NumT t i → t.length ≤ 13 := fun i ⟨h1, h2, h3⟩ => by
        rw [h1, TL.len_tl, tl_pos h2]
        exact TL.numL_len (by decide) (by omega)
      refine ⟨_, rfl, _, rfl, lz, _, _, rfl, rfl, _, rfl, Cm.itD (fun e => qe fun i hi => absurd (len13 i hi) (by omega)) fun hlen => ?_⟩
      have hlen : t.length ≤ 13 := by omega
      have hpos : 0 < t.length := by
        have h2 : (decide (t.length > 0) && t.cps.all Unicode.isDigit) = true := y2
        rw [Bool.and_eq_true] at h2
        exact of_decide_eq_true h2.1
      obtain ⟨c, r, ec⟩ : ∃ c r, TL.tl t = c :: r := by
        rw [TL.len_tl] at hpos
        cases z : TL.tl t with
        | nil =>
          rw [z] at hpos
          exact absurd hpos (by decide)
        | cons c r => exact ⟨c, r, rfl⟩
      have fin : (∀ r, TL.tl t = 48 :: r → t = "0") → ∃ n, intText? t = some n ∧ Q (.int n) H := fun z => by
        obtain ⟨n, hn⟩ := num_of y1 y2 hlen z
        obtain ⟨h1, h2, h3⟩ := id hn
        refine ⟨n, ?_, q n hn⟩
        have e : n = ((n.toNat : Nat) : Int) := by omega
        have l : (TL.numL n.toNat).length ≤ 13 := TL.numL_len (by decide) (by omega)
        have := TL.int_num (n := n.toNat) (by omega)
        rw [← e] at this
        rw [h1]
        exact this
      refine ⟨_, rfl, _, 0, c, rfl, rfl, lz, (by rw [show t.cps.toList = c :: r from ec]; exact atI_nat (j := 0) rfl), rfl, _, rfl, Cm.itES (fun e => ?_) fun e => ?_⟩
      · have hc : c = 48 := by
          have : TL.tl (⟨#[c]⟩ : Str) = TL.tl "0" := by rw [e]
          exact List.head_eq_of_cons_eq (show [c] = [48] from this)
        refine ⟨_, rfl, rfl, _, rfl, Cm.itNS (fun z => qe fun i ⟨h1, h2, _⟩ => ?_) fun z => ?_⟩
        · obtain ⟨c', r', e', _, _, c2⟩ := num_head h2
          rw [← h1, ec] at e'
          exact z (by rw [h1]; exact c2 (by rw [← (List.cons.inj e').1]; exact hc))
        · obtain ⟨n, e1, e2⟩ := fin fun _ _ => z
          exact ⟨_, rfl, _, _, rfl, e1, Nat.le_trans hlen (by decide), e2⟩
      · obtain ⟨n, e1, e2⟩ := fin fun r' z => by
          rw [ec] at z
          refine absurd ?_ e
          rw [(List.cons.inj z).1]
          exact TL.ext_tl (by decide +kernel)
        exact ⟨_, rfl, _, _, rfl, e1, Nat.le_trans hlen (by decide), e2⟩
    · exact no1 e
theorem spl_facts (S : List Nat) : ∀ (x : List Nat) (k : Nat) (acc : List Nat), TL.spl S k acc x ≠ [] ∧ (TL.spl S k acc x).length ≤ x.length + 1 ∧ ∀ y ∈ TL.spl S k acc x, y.length ≤ acc.length + x.length
  | [], k, acc => by
    rw [TL.spl_nil]
    exact ⟨by simp, by simp, fun y hy => by rw [List.mem_singleton.mp hy]; simp⟩
  | c :: r, 0, acc => by
    unfold TL.spl
    by_cases h : TL.pre S (c :: r) = true
    · rw [if_pos h]
      obtain ⟨_, h2, h3⟩ := spl_facts S r (S.length - 1) []
      refine ⟨by simp, by simp only [List.length_cons]; omega, fun y hy => ?_⟩
      rcases List.mem_cons.mp hy with e | hy
      · rw [e]
        omega
      · have := h3 y hy
        simp only [List.length_nil, List.length_cons] at this ⊢
        omega
    · rw [if_neg h]
      obtain ⟨h1, h2, h3⟩ := spl_facts S r 0 (acc ++ [c])
      refine ⟨h1, by simp only [List.length_cons]; omega, fun y hy => ?_⟩
      have := h3 y hy
      simp only [List.length_append, List.length_cons, List.length_nil] at this ⊢
      omega
  | c :: r, k + 1, acc => by
    unfold TL.spl
    obtain ⟨h1, h2, h3⟩ := spl_facts S r k acc
    refine ⟨h1, by simp only [List.length_cons]; omega, fun y hy => ?_⟩
    have := h3 y hy
    simp only [List.length_cons] at this ⊢
    omega
theorem split_facts {t y : Str} (hy : TL.tl y ≠ []) (hk : y.cps.all (· < 256) = true) : Txt.split t y ≠ [] ∧ (Txt.split t y).length ≤ t.length + 1 ∧ ∀ x ∈ Txt.split t y, x.length ≤ t.length := by
  have e := TL.split_spl t y hy (TL.kind_ok hk)
  obtain ⟨h1, h2, h3⟩ := spl_facts (TL.tl y) (TL.tl t) 0 []
  rw [← e] at h1 h2 h3
  refine ⟨fun z => h1 (by rw [z]; rfl), ?_, fun x hx => ?_⟩
  · rw [List.length_map] at h2
    rw [TL.len_tl t]
    exact h2
  · have := h3 _ (List.mem_map.mpr ⟨x, hx, rfl⟩)
    rw [TL.len_tl x, TL.len_tl t]
    simpa using this
theorem cut_fromL (xs : List V) (k : Nat) : cutV xs (some (k : Int)) none = xs.drop k := by
  unfold cutV
  rw [HT.sIx_nat, show HT.sIx xs.length xs.length none = xs.length from rfl]
  by_cases h : k ≤ xs.length
  · rw [show min k xs.length = k by omega, List.take_of_length_le (by rw [List.length_drop]; exact Nat.le_refl _)]
  · rw [show min k xs.length = xs.length by omega, List.drop_eq_nil_of_le (Nat.le_refl _), List.drop_eq_nil_of_le (by omega), List.take_nil]
theorem ints_rps7 {H : Hp} : ∀ ns : List Int, Rps K H (ns.map V.int) (ns.map PyData.int)
  | [] => .nil
  | n :: ns => .cons (.int n) (ints_rps7 ns)
/-- the numbers that the name of a process is -/
def ProcT (t : Str) (ns : List Int) : Prop := ∃ ws : List Str, Txt.split t "." = ("p" : Str) :: ws ∧ ws.length = ns.length ∧ ∀ (j : Nat) (x : Str) (i : Int), ws[j]? = some x → ns[j]? = some i → NumT x i
def spProcI (K : PySem.W.Frag) : Sp := fun vs H Q E => ∃ t : Str, vs = [.str t] ∧ t.length ≤ 10000 ∧ (∀ ns, ProcT t ns → ∀ v H', Same H H' → Rp K H' v (.tuple (ns.map PyData.int)) → Q v H') ∧ ((∀ ns, ¬ ProcT t ns) → ∀ H', Same H H' → E (.ref (He.ga K "NotAllowed")) none H')
theorem ok_process_in (T : Txt K mg w a) : FnOk P w K mg base (L2N.CX P w) 2 (He.ga K "process_in") a.d_process_in ["text"] (spProcI K) := by
  have gn := ok_number_in (P := P) (w := w) (base := base) T
  refine T.F_process_in.ok (CX := L2N.CX P w) sc_process_in (fun vs H Q E h => ?_) (fun cdv A outer s H vs Q E hr h => ?_)
  · obtain ⟨i, rfl, _⟩ := h
    rfl
  · obtain ⟨t, rfl, hl, q, qe⟩ := h
    refine ⟨_, (pss_cons (ps_set (i := 1) sc_process_in.nd rfl (Or.inl rfl) (pe_split (pv 0) pe_str))
      (pss_cons (ps_if (pt_cmpR op_ne (pe_ix ix_list (pv 1) pe_int (fun _ _ => rfl)) pe_str (nomark _)) (pss_one (L2N.ps_raise rfl (L2N.takes_of rfl rfl rfl rfl) (L2N.pmk_own PySem.F.excBase_ValueError T.x_NotAllowed T.g_NotAllowed T.k_NotAllowed (raises_own T.s_NotAllowed T.t_NotAllowed) (by rfl)))) pss_nil)
      (pss_one (ps_ret (pe_callTy call_tuple_of (by rfl) T.g_tuple boot_tuple (pa_cons (RCompN.pe_lcR (E := E) (own := [("part", 2)]) (g := gName 2) (tt := tYes)  (by rfl) (by rfl) (L2N.takes_of rfl rfl rfl rfl) (fun _ _ _ _ h => h) (by rfl) sc_process_in.nd (pi_list (pe_slice sl_list (pv 1) (po_some pe_int) po_none)) (blkOk_by (own := [("part", 2)]) (N := N_process_in) (sc := defScope s_process_in) (by decide +kernel)) (fun _ _ _ _ _ _ => pg_name (i := 2) sc_process_in.nd rfl (Or.inl rfl)) (fun _ _ _ _ _ _ => pts_nil) (fun _ _ _ _ _ _ hp => (pe_call gn (hr.mono (by omega)) (by rfl) T.g_number_in T.F_number_in.kp T.b_number_in .nil hp (pa_cons (pv 2) pa_nil)))) pa_nil)))))), ?_⟩
    rw [show L2.start N_process_in [.str t] = [some (.str t), none, none] from rfl]
    obtain ⟨f1, f2, f3⟩ := split_facts (t := t) (y := ".") (by decide +kernel) (by decide +kernel)
    refine ⟨_, rfl, ⟨_, rfl⟩, _, _, rfl, rfl, rfl, (by rw [sizeLine_eq]; omega), fun pl npl => ?_⟩
    obtain ⟨x0, ws, ews⟩ : ∃ x0 ws, Txt.split t "." = x0 :: ws := by
      cases z : Txt.split t "." with
      | nil => exact absurd z f1
      | cons x0 ws => exact ⟨x0, ws, rfl⟩
    rw [ews] at f2 f3
    have f2 : ws.length + 1 ≤ t.length + 1 := f2
    show gName 1 (V.ref pl) _ (upd H pl (.lst ((Txt.split t ".").map V.str))) _
    rw [ews]
    have s1 := Cm.same_new (o := .lst ((x0 :: ws).map V.str)) npl
    have hpl : (L2.upd H pl (.lst ((x0 :: ws).map V.str))) pl = some (.lst ((x0 :: ws).map V.str)) := upd_same
    generalize L2.upd H pl _ = H1 at *
    simp only [gName, List.set_cons_succ, List.set_cons_zero]
    refine ⟨_, rfl, pl, _, 0, _, rfl, rfl, SqL.of hpl, atI_nat (j := 0) rfl, rfl, _, rfl, Cm.itNS (fun e => qe (fun ns ⟨ws', h, _⟩ => ?_) H1 s1) fun e => ?_⟩
    · rw [ews] at h
      exact e (List.cons.inj h).1
    subst e
    refine ⟨_, rfl, _, rfl, ?_⟩
    refine ⟨_, _, rfl, SqL.of hpl, fun p2 np2 => ?_⟩
    rw [show cutV (((Str.ofString "p") :: ws).map V.str) (some 1) none = ws.map V.str from cut_fromL _ 1]
    have s2 := Cm.same_new (o := .lst (ws.map V.str)) np2
    have hp2 : (L2.upd H1 p2 (.lst (ws.map V.str))) p2 = some (.lst (ws.map V.str)) := upd_same
    generalize L2.upd H1 p2 _ = H2 at *
    have s12 := s1.trans s2
    refine ⟨p2, rfl, ⟨_, SqL.of hp2⟩, fun D nD => ?_⟩
    refine lc_list (K := K) (a := p2) (xs := ws.map V.str) (fun j Hj => Same H2 Hj ∧ ∃ ns : List Int, ns.length = j ∧ Hj D = some (.lst (ns.map V.int)) ∧ ∀ (k : Nat) (x : Str) (i : Int), ws[k]? = some x → ns[k]? = some i → NumT x i) ⟨Cm.same_new nD, [], rfl, upd_same, fun k x i _ h => by simp at h⟩ (fun j Hj _ b => SqL.of (b.1 _ _ hp2)) (fun j y Hj hy ⟨sJ, ns, ln, hD, hN⟩ => ?_) fun Hj ⟨sJ, ns, ln, hD, hN⟩ => ?_
    · refine ⟨rfl, ?_⟩
      rw [List.getElem?_map] at hy
      obtain ⟨x, hx, rfl⟩ := Option.map_eq_some_iff.mp hy
      have hj := (List.getElem?_eq_some_iff.mp hx).1
      have lx := f3 x (List.mem_cons_of_mem _ (List.mem_of_getElem? hx))
      refine ⟨_, rfl, x, rfl, by omega, fun i hi => ?_, fun hno => qe (fun ns' ⟨ws', h, l', h'⟩ => ?_) Hj (s12.trans sJ)⟩
      · refine ⟨_, hD, Cm.smallL (by rw [List.length_map]; omega), Cm.same_mut sJ nD, ns ++ [i], by rw [List.length_append, ln]; rfl, by rw [upd_same, List.map_append]; rfl, fun k x' i' hk hi' => ?_⟩
        by_cases z : k < ns.length
        · rw [List.getElem?_append_left z] at hi'
          exact hN k x' i' hk hi'
        · have hk' := (List.getElem?_eq_some_iff.mp hi').1
          rw [List.length_append, List.length_singleton] at hk'
          have ek : k = ns.length := by omega
          subst ek
          rw [List.getElem?_append_right (Nat.le_refl _), Nat.sub_self] at hi'
          cases hi'
          rw [ln, hx] at hk
          cases hk
          exact hi
      · rw [ews] at h
        obtain rfl := (List.cons.inj h).2
        obtain ⟨i, hi⟩ : ∃ i, ns'[j]? = some i := ⟨_, List.getElem?_eq_getElem (by omega)⟩
        exact hno i (h' j x i hx hi)
    · rw [List.length_map] at ln
      refine ⟨D, _, rfl, .inl ⟨SqL.of hD, fun l nl => ?_⟩⟩
      exact q ns ⟨ws, ews, ln.symm, hN⟩ _ _ ((s12.trans sJ).trans (Cm.same_new nl)) (Rp.made nl (ints_rps7 ns))

/-! ### names: read with their bounds -/
theorem procT_uni {t : Str} {ns ms : List Int} (h1 : ProcT t ns) (h2 : ProcT t ms) : ns = ms := by
  obtain ⟨ws, e1, l1, g1⟩ := h1
  obtain ⟨ws', e2, l2, g2⟩ := h2
  rw [e1] at e2
  obtain rfl := (List.cons.inj e2).2
  refine List.ext_getElem (l1.symm.trans l2) fun k k1 k2 => ?_
  obtain ⟨x, hx⟩ : ∃ x, ws[k]? = some x := ⟨_, List.getElem?_eq_getElem (by omega)⟩
  exact numT_uni (g1 k x _ hx (List.getElem?_eq_getElem k1)) (g2 k x _ hx (List.getElem?_eq_getElem k2))
theorem par_facts (S : List Nat) : ∀ (x acc : List Nat) (a b : List Nat), TL.par S acc x = some (a, b) → a.length ≤ acc.length + x.length ∧ b.length ≤ x.length
  | [], acc, a, b, h => by
    cases h
  | c :: r, acc, a, b, h => by
    unfold TL.par at h
    by_cases z : TL.pre S (c :: r) = true
    · rw [if_pos z] at h
      cases h
      rw [List.length_drop]
      exact ⟨Nat.le_add_right _ _, Nat.sub_le _ _⟩
    · rw [if_neg z] at h
      have := par_facts S r (acc ++ [c]) a b h
      simp only [List.length_append, List.length_cons, List.length_nil] at this ⊢
      omega
theorem part_len {t y : Str} (hy : TL.tl y ≠ []) : (Txt.partition t y).1.length ≤ t.length ∧ (Txt.partition t y).2.2.length ≤ t.length := by
  rw [TL.partition_par t y hy]
  cases h : TL.par (TL.tl y) [] (TL.tl t) with
  | none => exact ⟨Nat.le_refl _, Nat.zero_le _⟩
  | some ab =>
    obtain ⟨a, b⟩ := ab
    have := par_facts _ _ _ _ _ h
    rw [TL.len_tl t]
    refine ⟨?_, this.2⟩
    have h1 := this.1
    rw [List.length_nil, Nat.zero_add] at h1
    exact h1
/-- the object that a text names -/
def ObjT (t : Str) (ns : List Int) (i : Int) : Prop := ProcT (Txt.partition t "#").1 ns ∧ NumT (Txt.partition t "#").2.2 i
def spObjI (K : PySem.W.Frag) : Sp := fun vs H Q E => ∃ t : Str, vs = [.str t] ∧ t.length ≤ 10000 ∧ (∀ ns i, ObjT t ns i → ∀ v H', Same H H' → Rp K H' v (.tuple [.tuple (ns.map PyData.int), .int i]) → Q v H') ∧ ((∀ ns i, ¬ ObjT t ns i) → ∀ H', Same H H' → E (.ref (He.ga K "NotAllowed")) none H')
theorem ok_object_in (T : Txt K mg w a) : FnOk P w K mg base (L2N.CX P w) 3 (He.ga K "object_in") a.d_object_in ["text"] (spObjI K) := by
  have gp := ok_process_in (P := P) (w := w) (base := base) T
  have gn := ok_number_in (P := P) (w := w) (base := base) T
  refine T.F_object_in.ok (CX := L2N.CX P w) sc_object_in (fun vs H Q E h => ?_) (fun cdv A outer s H vs Q E hr h => ?_)
  · obtain ⟨t, rfl, _⟩ := h
    rfl
  · obtain ⟨t, rfl, hl, q, qe⟩ := h
    refine ⟨_, (pss_cons (ps_asg (pe_partition (pv 0) pe_str) (pg_tup (by rfl) (pgs_cons (pg_name (i := 1) sc_object_in.nd rfl (Or.inl rfl)) (pgs_cons (pg_name (i := 2) sc_object_in.nd rfl (Or.inl rfl)) (pgs_cons (pg_name (i := 3) sc_object_in.nd rfl (Or.inl rfl)) pgs_nil)))))
      (pss_one (ps_ret (pe_tup (pa_cons (pe_callS gp (hr.mono (by omega)) (by rfl) T.g_process_in T.F_process_in.kp T.b_process_in (fun σ => L2N.passAt (L2N.takes_of rfl rfl rfl rfl) σ) (pa_cons (pv 1) pa_nil)) (pa_cons (pe_callS gn (hr.mono (by omega)) (by rfl) T.g_number_in T.F_number_in.kp T.b_number_in (fun σ => L2N.passAt (L2N.takes_of rfl rfl rfl rfl) σ) (pa_cons (pv 3) pa_nil)) pa_nil)))))), ?_⟩
    rw [show L2.start N_object_in [.str t] = [some (.str t), none, none, none] from rfl]
    refine ⟨_, rfl, ?_⟩
    obtain ⟨p1, p2⟩ := part_len (t := t) (y := "#") (by decide +kernel)
    refine ⟨⟨_, rfl⟩, _, _, rfl, rfl, rfl, (by rw [sizeLine_eq]; omega), fun d nd => ?_⟩
    have st := Cm.same_new (o := .tup [V.str (Txt.partition t "#").1, V.str (Txt.partition t "#").2.1, V.str (Txt.partition t "#").2.2]) nd
    refine ⟨d, _, rfl, Cm.sqt_new, rfl, _, _, rfl, _, _, rfl, _, _, rfl, rfl, ?_⟩
    simp only [gName, List.set_cons_succ, List.set_cons_zero]
    refine ⟨_, rfl, _, rfl, Nat.le_trans p1 hl, fun ns hns v H1 s1 rv => ⟨_, rfl, _, rfl, by omega, fun i hi => ⟨Cm.small (by show 2 ≤ 100000; decide), fun t2 nt2 => ?_⟩, fun hno => qe (fun ms k z => hno k z.2) _ (st.trans s1)⟩, fun hno H1 s1 => qe (fun ms k z => hno ms z.1) _ (st.trans s1)⟩
    exact q ns i ⟨hns, hi⟩ _ _ ((st.trans s1).trans (Cm.same_new nt2)) (Rp.made nt2 (.cons rv (.cons (.int i) .nil)))
theorem procT_len {t : Str} {ns : List Int} (h : ProcT t ns) : ns.length ≤ t.length := by
  obtain ⟨ws, e, l, _⟩ := h
  have := (split_facts (t := t) (y := ".") (by decide +kernel) (by decide +kernel)).2.1
  rw [e, List.length_cons] at this
  omega
/-! ### what texts are read as -/
def numR (t : Str) : Option Int := if t.length ≤ 13 then (match intText? t with | some i => if 0 ≤ i ∧ num i = t then some i else none | none => none) else none
theorem numT_len {t : Str} {i : Int} (h : NumT t i) : t.length ≤ 13 := by
  obtain ⟨h1, h2, h3⟩ := h
  rw [h1, TL.len_tl, tl_pos h2]
  exact TL.numL_len (by decide) (by omega)
theorem numR_some {t : Str} {i : Int} (h : NumT t i) : numR t = some i := by
  unfold numR
  rw [if_pos (numT_len h)]
  obtain ⟨h1, h2, h3⟩ := h
  have e : i = ((i.toNat : Nat) : Int) := by omega
  have l : (TL.numL i.toNat).length ≤ 13 := TL.numL_len (by decide) (by omega)
  have k := TL.int_num (n := i.toNat) (by omega)
  rw [← e] at k
  have k : intText? t = some i := by rw [h1]; exact k
  rw [k]
  exact if_pos ⟨h2, h1.symm⟩
theorem numL_big {n k : Nat} (h : 10 ^ k ≤ n) : k + 1 ≤ (TL.numL n).length := by
  induction k generalizing n with
  | zero =>
    cases e : TL.numL n with
    | nil =>
      by_cases z : n < 10
      · rw [TL.numL_lt z] at e
        cases e
      · rw [TL.numL_step (by omega)] at e
        simp at e
    | cons _ _ => simp
  | succ k ih =>
    have z : 10 ^ (k + 1) = 10 ^ k * 10 := rfl
    have p := Nat.pow_pos (n := k) (show 0 < 10 by decide)
    rw [TL.numL_step (by omega), List.length_append, List.length_singleton]
    have := ih (n := n / 10) (by omega)
    omega
theorem numR_ok {t : Str} {i : Int} (h : numR t = some i) : NumT t i := by
  unfold numR at h
  split at h
  · rename_i hl
    split at h
    · split at h
      · rename_i j e z
        cases h
        refine ⟨z.2.symm, z.1, ?_⟩
        rw [← z.2, TL.len_tl, tl_pos z.1] at hl
        rcases Nat.lt_or_ge i.toNat (10 ^ 13) with y | y
        · have : (10 : Nat) ^ 13 = 10000000000000 := by decide
          omega
        · have := numL_big y
          omega
      · cases h
    · cases h
  · cases h
theorem numR_none {t : Str} (h : numR t = none) (i : Int) : ¬ NumT t i := fun a => by
  rw [numR_some a] at h
  cases h
def numsR : List Str → Option (List Int)
  | [] => some []
  | t :: ts => match numR t, numsR ts with
    | some i, some is => some (i :: is)
    | _, _ => none
theorem numsR_some : ∀ {ts : List Str} {ns : List Int}, ts.length = ns.length → (∀ (j : Nat) (x : Str) (i : Int), ts[j]? = some x → ns[j]? = some i → NumT x i) → numsR ts = some ns
  | [], [], _, _ => rfl
  | [], _ :: _, l, _ => nomatch l
  | _ :: _, [], l, _ => nomatch l
  | t :: ts, n :: ns, l, h => by
    unfold numsR
    rw [numR_some (h 0 t n rfl rfl), numsR_some (Nat.succ.inj l) fun j x i hx hi => h (j + 1) x i hx hi]
theorem numsR_ok : ∀ {ts : List Str} {ns : List Int}, numsR ts = some ns → ts.length = ns.length ∧ ∀ (j : Nat) (x : Str) (i : Int), ts[j]? = some x → ns[j]? = some i → NumT x i
  | [], ns, h => by
    cases h
    exact ⟨rfl, fun j x i hx => by simp at hx⟩
  | t :: ts, ns, h => by
    unfold numsR at h
    cases e1 : numR t with
    | none => rw [e1] at h; cases h
    | some i =>
      cases e2 : numsR ts with
      | none => rw [e1, e2] at h; cases h
      | some is =>
        rw [e1, e2] at h
        cases h
        obtain ⟨g1, g2⟩ := numsR_ok e2
        refine ⟨congrArg (· + 1) g1, fun j x i' hx hi => ?_⟩
        cases j with
        | zero =>
          cases hx
          cases hi
          exact numR_ok e1
        | succ j => exact g2 j x i' hx hi
def pD (ns : List Int) : PyData := .tuple (ns.map PyData.int)
def procR (t : Str) : Option (List Int) := match Txt.split t "." with
  | x :: ws => if x = ("p" : Str) then numsR ws else none
  | [] => none
theorem procR_some {t : Str} {ns : List Int} (h : ProcT t ns) : procR t = some ns := by
  obtain ⟨ws, e, l, g⟩ := h
  unfold procR
  rw [e]
  exact (if_pos rfl).trans (numsR_some l g)
theorem procR_ok {t : Str} {ns : List Int} (h : procR t = some ns) : ProcT t ns := by
  unfold procR at h
  split at h
  · rename_i x ws e
    split at h
    · rename_i z
      obtain ⟨g1, g2⟩ := numsR_ok h
      exact ⟨ws, by rw [e, z], g1, g2⟩
    · cases h
  · cases h
theorem procR_none {t : Str} (h : procR t = none) (ns : List Int) : ¬ ProcT t ns := fun a => by
  rw [procR_some a] at h
  cases h
def objR (t : Str) : Option PyData := match procR (Txt.partition t "#").1, numR (Txt.partition t "#").2.2 with
  | some ns, some i => some (.tuple [pD ns, .int i])
  | _, _ => none
theorem objR_some {t : Str} {ns : List Int} {i : Int} (h : ObjT t ns i) : objR t = some (.tuple [pD ns, .int i]) := by
  unfold objR
  rw [procR_some h.1, numR_some h.2]
theorem objR_ok {t : Str} {d : PyData} (h : objR t = some d) : ∃ ns i, d = .tuple [pD ns, .int i] ∧ ObjT t ns i := by
  unfold objR at h
  cases e1 : procR (Txt.partition t "#").1 with
  | none => rw [e1] at h; cases h
  | some ms =>
    cases e2 : numR (Txt.partition t "#").2.2 with
    | none => rw [e1, e2] at h; cases h
    | some k =>
      rw [e1, e2] at h
      cases h
      exact ⟨ms, k, rfl, procR_ok e1, numR_ok e2⟩
theorem objR_none {t : Str} (h : objR t = none) (ns : List Int) (i : Int) : ¬ ObjT t ns i := fun a => by
  rw [objR_some a] at h
  cases h
theorem cut_len {t : Str} {x y : Option Int} : (cutS t x y).length ≤ t.length := by
  rw [TL.len_tl, TL.len_tl t]
  show (((TL.tl t).drop _).take _).length ≤ _
  rw [List.length_take, List.length_drop]
  omega
def valR (t : Str) : Option PyData :=
  if t = ("nil" : Str) then some (.tuple [.str "nil"]) else
  if Txt.startswith t "p" = true then (objR t).map (fun o => .tuple [.str "ref", o]) else
  if Txt.startswith t "-" = true ∧ t ≠ ("-0" : Str) then (numR (cutS t (some 1) none)).map (fun i => .int (-i)) else (numR t).map .int
def valsR : List Str → Option (List PyData)
  | [] => some []
  | t :: ts => match valR t, valsR ts with
    | some d, some ds => some (d :: ds)
    | _, _ => none
def tokR (t : Str) : Option PyData := if t = ("-" : Str) then some .none else match numR (Txt.partition t ",").1, numR (Txt.partition t ",").2.2 with
  | some x, some y => some (.tuple [.int x, .int y])
  | _, _ => none
def fltR (t : Str) : Option Str := if t = ("-" : Str) then some "" else if t ∈ (["number", "large", "nil"] : List Str) then some t else none
/-! ### the functions that read them -/
def spR (K : PySem.W.Frag) (f : Str → Option PyData) : Sp := fun vs H Q E => ∃ t : Str, vs = [.str t] ∧ t.length ≤ 10000 ∧ (∀ d, f t = some d → ∀ v H', Same H H' → Rp K H' v d → Q v H') ∧ (f t = none → ∀ H', Same H H' → E (.ref (He.ga K "NotAllowed")) none H')
theorem ok_object_inR (T : Txt K mg w a) : FnOk P w K mg base (L2N.CX P w) 3 (He.ga K "object_in") a.d_object_in ["text"] (spR K objR) := by
  refine (ok_object_in T).imp fun vs H Q E ⟨t, e, hl, q, qe⟩ => ⟨t, e, hl, fun ns i h v H' s r => q _ (objR_some h) v H' s r, fun no => qe ?_⟩
  cases h : objR t with
  | none => rfl
  | some d =>
    obtain ⟨ns, i, _, o⟩ := objR_ok h
    exact absurd o (no ns i)
theorem ok_process_inR (T : Txt K mg w a) : FnOk P w K mg base (L2N.CX P w) 2 (He.ga K "process_in") a.d_process_in ["text"] (spR K fun t => (procR t).map pD) := by
  refine (ok_process_in T).imp fun vs H Q E ⟨t, e, hl, q, qe⟩ => ⟨t, e, hl, fun ns h v H' s r => q (pD ns) (by show (procR t).map pD = _; rw [procR_some h]; rfl) v H' s r, fun no => qe ?_⟩
  show (procR t).map pD = none
  cases h : procR t with
  | none => rfl
  | some ns => exact absurd (procR_ok h) (no ns)
def spNumR (K : PySem.W.Frag) : Sp := fun vs H Q E => ∃ t : Str, vs = [.str t] ∧ t.length ≤ 10000 ∧ (∀ i, numR t = some i → Q (.int i) H) ∧ (numR t = none → E (.ref (He.ga K "NotAllowed")) none H)
theorem ok_number_inR (T : Txt K mg w a) : FnOk P w K mg base (L2N.CX P w) 1 (He.ga K "number_in") a.d_number_in ["text"] (spNumR K) := by
  refine (ok_number_in T).imp fun vs H Q E ⟨t, e, hl, q, qe⟩ => ⟨t, e, by omega, fun i h => q i (numR_some h), fun no => qe ?_⟩
  cases h : numR t with
  | none => rfl
  | some i => exact absurd (numR_ok h) (no i)
theorem ok_value_in (T : Txt K mg w a) : FnOk P w K mg base (L2N.CX P w) 4 (He.ga K "value_in") a.d_value_in ["text"] (spR K valR) := by
  have go := ok_object_inR (P := P) (w := w) (base := base) T
  have gn := ok_number_inR (P := P) (w := w) (base := base) T
  refine T.F_value_in.ok (CX := L2N.CX P w) sc_value_in (fun vs H Q E h => ?_) (fun cdv A outer s H vs Q E hr h => ?_)
  · obtain ⟨i, rfl, _⟩ := h
    rfl
  · obtain ⟨t, rfl, l, q, qe⟩ := h
    refine ⟨_, (pss_cons (ps_if (pt_cmpR op_eq (pv 0) pe_str (nomark _)) (pss_one (ps_ret (pe_glob (v := .ref (He.ga K "NIL")) (by rfl) T.g_NIL rfl))) pss_nil)
      (pss_cons (ps_if (pt_val (pe_m1 PySem.F.slot_str_startswith PySem.F.type_str_startswith mt_startswith (pv 0) pe_str)) (pss_one (ps_ret (pe_tup (pa_cons pe_str (pa_cons (pe_callS go (hr.mono (by omega)) (by rfl) T.g_object_in T.F_object_in.kp T.b_object_in (fun σ => L2N.passAt (L2N.takes_of rfl rfl rfl rfl) σ) (pa_cons (pv 0) pa_nil)) pa_nil))))) pss_nil)
      (pss_cons (ps_if (PW.pt (pw_and (pt_val (pe_m1 PySem.F.slot_str_startswith PySem.F.type_str_startswith mt_startswith (pv 0) pe_str)) (pw_and1 (pt_cmpR op_ne (pv 0) pe_str (nomark _))))) (pss_one (ps_ret (pe_un un_neg (pe_callS gn (hr.mono (by omega)) (by rfl) T.g_number_in T.F_number_in.kp T.b_number_in (fun σ => L2N.passAt (L2N.takes_of rfl rfl rfl rfl) σ) (pa_cons (pe_slice sl_str (pv 0) (po_some pe_int) po_none) pa_nil))))) pss_nil)
      (pss_one (ps_ret (pe_callS gn (hr.mono (by omega)) (by rfl) T.g_number_in T.F_number_in.kp T.b_number_in (fun σ => L2N.passAt (L2N.takes_of rfl rfl rfl rfl) σ) (pa_cons (pv 0) pa_nil))))))), ?_⟩
    rw [show L2.start N_value_in [.str t] = [some (.str t)] from rfl]
    unfold valR at q qe
    refine ⟨_, rfl, rfl, _, rfl, Cm.itES (fun e => ?_) fun e => ?_⟩
    · rw [if_pos e] at q
      exact q _ rfl _ H (Same.refl H) (.tup (T.k_NIL H) (.cons (.str _) .nil))
    rw [if_neg e] at q qe
    refine ⟨_, rfl, ⟨_, rfl⟩, _, _, rfl, rfl, _, rfl, Cm.itB (fun e1 => ?_) fun e1 => ?_⟩
    · rw [if_pos e1] at q qe
      refine ⟨_, rfl, t, rfl, l, fun o ho v H1 s1 rv => ⟨Cm.small (by show 2 ≤ 100000; decide), fun c nc => ?_⟩, fun no H1 s1 => qe (by rw [no]; rfl) H1 s1⟩
      exact q _ (by rw [ho]; rfl) _ _ (s1.trans (Cm.same_new nc)) (Rp.made nc (.cons (.str _) (.cons rv .nil)))
    rw [if_neg (by rw [e1]; decide)] at q qe
    have fin : (∀ d, (numR t).map PyData.int = some d → ∀ v H', Same H H' → Rp K H' v d → Q v H') → ((numR t).map PyData.int = none → ∀ H', Same H H' → E (.ref (He.ga K "NotAllowed")) none H') → spNumR K [.str t] H Q E :=
      fun a1 a2 => ⟨t, rfl, l, fun i hi => a1 _ (by rw [hi]; rfl) _ H (Same.refl H) (.int i), fun no => a2 (by rw [no]; rfl) H (Same.refl H)⟩
    refine ⟨_, rfl, ⟨_, rfl⟩, _, _, rfl, rfl, _, rfl, Cm.itB (fun e2 => ?_) fun e2 => ?_⟩
    · refine ⟨_, rfl, rfl, _, rfl, Cm.itNS (fun e3 => ?_) fun e3 => ?_⟩
      · rw [if_pos ⟨e2, e3⟩] at q qe
        refine ⟨_, rfl, _, rfl, _, rfl, sz l rfl, cutS t (some 1) none, rfl, Nat.le_trans cut_len l, fun i hi => ⟨_, rfl, ?_⟩, fun no => qe (by rw [no]; rfl) H (Same.refl H)⟩
        exact q _ (by rw [hi]; rfl) _ H (Same.refl H) (.int (-i))
      · rw [if_neg fun z => z.2 e3] at q qe
        exact ⟨_, rfl, fin q qe⟩
    · rw [if_neg fun z => by rw [e2] at z; cases z.1] at q qe
      exact ⟨_, rfl, fin q qe⟩
theorem valsR_cons (x : Str) (xs : List Str) : valsR (x :: xs) = (match valR x, valsR xs with | some d, some ds => some (d :: ds) | _, _ => none) := rfl
theorem valsR_app : ∀ (xs ys : List Str), valsR (xs ++ ys) = (match valsR xs, valsR ys with | some a, some b => some (a ++ b) | _, _ => none)
  | [], ys => by
    show valsR ys = _
    cases h : valsR ys with
    | none => simp [valsR]
    | some b => simp [valsR]
  | x :: xs, ys => by
    rw [List.cons_append, valsR_cons, valsR_cons, valsR_app xs ys]
    cases valR x <;> cases valsR xs <;> cases valsR ys <;> rfl
theorem valsR_take {ws : List Str} {j : Nat} {x : Str} {ds : List PyData} {d : PyData} (hx : ws[j]? = some x) (h1 : valsR (ws.take j) = some ds) (h2 : valR x = some d) : valsR (ws.take (j + 1)) = some (ds ++ [d]) := by
  rw [List.take_succ, hx, valsR_app, h1]
  show (match some ds, valsR [x] with | some a, some b => some (a ++ b) | _, _ => none) = _
  have : valsR [x] = some [d] := by
    rw [valsR_cons, h2]
    rfl
  rw [this]
theorem valsR_no {ws : List Str} {j : Nat} {x : Str} (hx : ws[j]? = some x) (h2 : valR x = none) : valsR ws = none := by
  induction ws generalizing j with
  | nil => simp at hx
  | cons y r ih =>
    rw [valsR_cons]
    cases j with
    | zero =>
      cases hx
      rw [h2]
    | succ j =>
      rw [ih hx]
      cases valR y <;> rfl
theorem valsR_len : ∀ {ws : List Str} {ds : List PyData}, valsR ws = some ds → ds.length = ws.length
  | [], ds, h => by
    cases h
    rfl
  | x :: r, ds, h => by
    rw [valsR_cons] at h
    cases e1 : valR x with
    | none => rw [e1] at h; cases h
    | some d =>
      cases e2 : valsR r with
      | none => rw [e1, e2] at h; cases h
      | some es =>
        rw [e1, e2] at h
        cases h
        rw [List.length_cons, List.length_cons, valsR_len e2]
def spVsR (K : PySem.W.Frag) : Sp := fun vs H Q E => ∃ (p : Addr) (ws : List Str), vs = [.ref p] ∧ H p = some (.lst (ws.map V.str)) ∧ ws.length ≤ 10001 ∧ (∀ x ∈ ws, x.length ≤ 10000) ∧ (∀ ds, valsR ws = some ds → ∀ v H', Same H H' → Rp K H' v (.tuple ds) → Q v H') ∧ (valsR ws = none → ∀ H', Same H H' → E (.ref (He.ga K "NotAllowed")) none H')
theorem ok_values_in (T : Txt K mg w a) : FnOk P w K mg base (L2N.CX P w) 5 (He.ga K "_values_in") a.d_values_in ["words"] (spVsR K) := by
  have gv := ok_value_in (P := P) (w := w) (base := base) T
  refine T.F_values_in.ok (CX := L2N.CX P w) sc_values_in (fun vs H Q E h => ?_) (fun cdv A outer s H vs Q E hr h => ?_)
  · obtain ⟨p, i, rfl, _⟩ := h
    rfl
  · obtain ⟨p, ws, rfl, hp, lw, lx, q, qe⟩ := h
    refine ⟨_, (pss_one (ps_ret (pe_callTy call_tuple_of (by rfl) T.g_tuple boot_tuple (pa_cons (RCompN.pe_lcR (E := E) (own := [("word", 1)]) (g := gName 1) (tt := tYes)  (by rfl) (by rfl) (L2N.takes_of rfl rfl rfl rfl) (fun _ _ _ _ h => h) (by rfl) sc_values_in.nd (pi_list (pv 0)) (blkOk_by (own := [("word", 1)]) (N := N_values_in) (sc := defScope s_values_in) (by decide +kernel)) (fun _ _ _ _ _ _ => pg_name (i := 1) sc_values_in.nd rfl (Or.inl rfl)) (fun _ _ _ _ _ _ => pts_nil) (fun _ _ _ _ _ _ hp => (pe_call gv (hr.mono (by omega)) (by rfl) T.g_value_in T.F_value_in.kp T.b_value_in .nil hp (pa_cons (pv 1) pa_nil)))) pa_nil)))), ?_⟩
    rw [show L2.start N_values_in [.ref p] = [some (.ref p), none] from rfl]
    refine ⟨_, rfl, p, rfl, ⟨_, SqL.of hp⟩, fun D nD => ?_⟩
    refine lc_list (K := K) (a := p) (xs := ws.map V.str) (fun j Hj => Same H Hj ∧ ∃ (us : List V) (ds : List PyData), Hj D = some (.lst us) ∧ Rps K Hj us ds ∧ valsR (ws.take j) = some ds ∧ us.length ≤ j) ⟨Cm.same_new nD, [], [], upd_same, .nil, rfl, Nat.le_refl _⟩ (fun j Hj _ b => SqL.of (b.1 _ _ hp)) (fun j y Hj hy b => ?_) fun Hj b => ?_
    · obtain ⟨sJ, us, ds, hD, ru, ev, lu⟩ := b
      refine ⟨rfl, ?_⟩
      rw [List.getElem?_map] at hy
      obtain ⟨x, hx, rfl⟩ := Option.map_eq_some_iff.mp hy
      have hj := (List.getElem?_eq_some_iff.mp hx).1
      refine ⟨_, rfl, x, rfl, lx x (List.mem_of_getElem? hx), fun d hd v H2 s2 rv => ?_, fun no H2 s2 => qe (valsR_no hx no) H2 (sJ.trans s2)⟩
      have hD2 := s2 _ _ hD
      have kn : Keep D H2 (upd H2 D (.lst (us ++ [v]))) := fun b o hb n => by rw [upd_ne n]; exact hb
      have tp := Keep.tups kn hD2
      exact ⟨_, hD2, Cm.smallL (by omega), Cm.same_mut (sJ.trans s2) nD, us ++ [v], ds ++ [d], upd_same, ((ru.keep (Same.tups s2)).keep tp).app (.cons (rv.keep tp) .nil), valsR_take hx ev hd, by rw [List.length_append]; simp only [List.length_cons, List.length_nil]; omega⟩
    · obtain ⟨sJ, us, ds, hD, ru, ev, lu⟩ := b
      rw [List.length_map, List.take_length] at ev
      refine ⟨D, us, rfl, .inl ⟨SqL.of hD, fun l nl => ?_⟩⟩
      exact q _ ev _ _ (sJ.trans (Cm.same_new nl)) (Rp.made nl ru)
theorem ok_token_in (T : Txt K mg w a) : FnOk P w K mg base (L2N.CX P w) 2 (He.ga K "_token_in") a.d_token_in ["text"] (spR K tokR) := by
  have gn := ok_number_inR (P := P) (w := w) (base := base) T
  refine T.F_token_in.ok (CX := L2N.CX P w) sc_token_in (fun vs H Q E h => ?_) (fun cdv A outer s H vs Q E hr h => ?_)
  · obtain ⟨p, rfl, _⟩ := h
    rfl
  · obtain ⟨t, rfl, l, q, qe⟩ := h
    refine ⟨_, (pss_cons (ps_if (pt_cmpR op_eq (pv 0) pe_str (nomark _)) (pss_one (ps_ret pe_non)) pss_nil)
      (pss_cons (ps_asg (pe_partition (pv 0) pe_str) (pg_tup (by rfl) (pgs_cons (pg_name (i := 1) sc_token_in.nd rfl (Or.inl rfl)) (pgs_cons (pg_name (i := 2) sc_token_in.nd rfl (Or.inl rfl)) (pgs_cons (pg_name (i := 3) sc_token_in.nd rfl (Or.inl rfl)) pgs_nil)))))
      (pss_one (ps_ret (pe_tup (pa_cons (pe_callS gn (hr.mono (by omega)) (by rfl) T.g_number_in T.F_number_in.kp T.b_number_in (fun σ => L2N.passAt (L2N.takes_of rfl rfl rfl rfl) σ) (pa_cons (pv 1) pa_nil)) (pa_cons (pe_callS gn (hr.mono (by omega)) (by rfl) T.g_number_in T.F_number_in.kp T.b_number_in (fun σ => L2N.passAt (L2N.takes_of rfl rfl rfl rfl) σ) (pa_cons (pv 3) pa_nil)) pa_nil))))))), ?_⟩
    rw [show L2.start N_token_in [.str t] = [some (.str t), none, none, none] from rfl]
    unfold tokR at q qe
    obtain ⟨p1, p2⟩ := part_len (t := t) (y := ",") (by decide +kernel)
    refine ⟨_, rfl, rfl, _, rfl, Cm.itES (fun e => ?_) fun e => ?_⟩
    · rw [if_pos e] at q
      exact q _ rfl _ H (Same.refl H) .non
    rw [if_neg e] at q qe
    refine ⟨_, rfl, ⟨_, rfl⟩, _, _, rfl, rfl, rfl, (by rw [sizeLine_eq]; omega), fun t1 nt => ?_⟩
    have st := Cm.same_new (o := .tup [V.str (Txt.partition t ",").1, V.str (Txt.partition t ",").2.1, V.str (Txt.partition t ",").2.2]) nt
    refine ⟨t1, _, rfl, Cm.sqt_new, rfl, _, _, rfl, _, _, rfl, _, _, rfl, rfl, ?_⟩
    simp only [gName, List.set_cons_succ, List.set_cons_zero]
    refine ⟨_, rfl, _, rfl, Nat.le_trans p1 l, fun x hx => ⟨_, rfl, _, rfl, Nat.le_trans p2 l, fun y hy => ⟨Cm.small (by show 2 ≤ 100000; decide), fun t2 nt2 => ?_⟩, fun no => qe (by rw [hx, no]) _ st⟩, fun no => qe (by rw [no]) _ st⟩
    exact q _ (by rw [hx, hy]) _ _ (st.trans (Cm.same_new nt2)) (Rp.made nt2 (.cons (.int x) (.cons (.int y) .nil)))
def spFR (K : PySem.W.Frag) : Sp := fun vs H Q E => ∃ t : Str, vs = [.str t] ∧ t.length ≤ 10000 ∧ (∀ w, fltR t = some w → Q (.str w) H) ∧ (fltR t = none → E (.ref (He.ga K "NotAllowed")) none H)
theorem ok_fault_in (T : Txt K mg w a) : FnOk P w K mg base (L2N.CX P w) 1 (He.ga K "_fault_in") a.d_fault_in ["text"] (spFR K) := by
  refine T.F_fault_in.ok (CX := L2N.CX P w) sc_fault_in (fun vs H Q E h => ?_) (fun cdv A outer s H vs Q E hr h => ?_)
  · obtain ⟨p, rfl, _⟩ := h
    rfl
  · obtain ⟨t, rfl, l, q, qe⟩ := h
    refine ⟨_, (pss_cons (ps_if (pt_cmpR op_eq (pv 0) pe_str (nomark _)) (pss_one (ps_ret pe_str)) pss_nil)
      (pss_cons (ps_if (pt_cmpR op_notIn_seq (pv 0) (pe_glob (v := .ref (He.ga K "FAULTS")) (by rfl) T.g_FAULTS rfl) (by rfl)) (pss_one (L2N.ps_raise rfl (L2N.takes_of rfl rfl rfl rfl) (L2N.pmk_own PySem.F.excBase_ValueError T.x_NotAllowed T.g_NotAllowed T.k_NotAllowed (raises_own T.s_NotAllowed T.t_NotAllowed) (by rfl)))) pss_nil)
      (pss_one (ps_ret (pv 0))))), ?_⟩
    rw [show L2.start N_fault_in [.str t] = [some (.str t)] from rfl]
    unfold fltR at q qe
    have ei : inV (.str t) (v_FAULTS.map (He.Dv.v K)) = decide (t ∈ (["number", "large", "nil"] : List Str)) := inV_strs t ["number", "large", "nil"]
    refine ⟨_, rfl, rfl, _, rfl, Cm.itES (fun e => ?_) fun e => ?_⟩
    · rw [if_pos e] at q
      exact q _ rfl
    rw [if_neg e] at q qe
    refine ⟨_, rfl, _, _, rfl, .inr (T.k_FAULTS H), rfl, rfl, _, rfl, Cm.itVn (fun z => ?_) fun z => ⟨_, rfl, ?_⟩⟩
    · rw [ei] at z
      exact qe (if_neg (of_decide_eq_false z))
    · rw [ei] at z
      exact q _ (if_pos (of_decide_eq_true z))
/-! ### lines: their words -/
def pickS (W : List Str) (hi : Nat) : List Str := (sliceRange 0 (min hi W.length : Nat) 2).filterMap (W[·]?)
theorem pickV_S (W : List Str) (hi : Nat) : LsX.pickV (W.map V.str) 0 (hi : Int) 2 = (pickS W hi).map V.str := by
  have e : LsX.pickV (W.map V.str) 0 (hi : Int) 2 = (sliceRange 0 ((min hi W.length : Nat) : Int) 2).filterMap ((W.map V.str)[·]?) := by
    unfold LsX.pickV
    have e1 : (sliceBounds (some 0) (some (hi : Int)) (some 2) (W.map V.str).length).1 = 0 := by
      show max (0 : Int) (min (if (0 : Int) < 0 then 0 + ((W.map V.str).length : Int) else 0) ((W.map V.str).length : Int)) = 0
      rw [if_neg (by decide)]
      omega
    have e2 : (sliceBounds (some 0) (some (hi : Int)) (some 2) (W.map V.str).length).2.1 = ((min hi W.length : Nat) : Int) := by
      show max (0 : Int) (min (if (hi : Int) < 0 then (hi : Int) + ((W.map V.str).length : Int) else (hi : Int)) ((W.map V.str).length : Int)) = _
      rw [if_neg (by omega), List.length_map]
      omega
    have e3 : (sliceBounds (some 0) (some (hi : Int)) (some 2) (W.map V.str).length).2.2 = 2 := rfl
    rw [e1, e2, e3]
  rw [e]
  unfold pickS
  rw [List.map_filterMap]
  refine congrArg (fun f => List.filterMap f _) (funext fun i => ?_)
  rw [List.getElem?_map]
theorem pickS_len (W : List Str) (hi : Nat) : (pickS W hi).length ≤ (sliceRange 0 (min hi W.length : Nat) 2).length := List.length_filterMap_le _ _
abbrev headWS : List Str := ["object", "maker", "count", "fields"]
abbrev frameWS : List Str := ["frame", "depth", "op", "at", "back", "token", "word", "locals"]
abbrev hw7 (o m c : Str) (r : List Str) : List Str := [("object" : Str), o, "maker", m, "count", c, "fields"] ++ r
abbrev fw15 (p dp o i bk tk wd : Str) (r : List Str) : List Str := [("frame" : Str), p, "depth", dp, "op", o, "at", i, "back", bk, "token", tk, "word", wd, "locals"] ++ r
theorem rng_short7 : ∀ n : Nat, n < 7 → (sliceRange 0 (n : Int) 2).length < 4 := by decide +kernel
theorem rng_short15 : ∀ n : Nat, n < 15 → (sliceRange 0 (n : Int) 2).length < 8 := by decide +kernel
theorem rng7 : sliceRange 0 (7 : Int) 2 = [0, 2, 4, 6] := by decide +kernel
theorem rng15 : sliceRange 0 (15 : Int) 2 = [0, 2, 4, 6, 8, 10, 12, 14] := by decide +kernel
theorem head_words {W : List Str} (h : pickS W 7 = headWS) : ∃ o m n r, W = hw7 o m n r := by
  have hl : 7 ≤ W.length := by
    rcases Nat.lt_or_ge W.length 7 with z | z
    · have h1 := pickS_len W 7
      have h2 := rng_short7 W.length z
      rw [h, show min 7 W.length = W.length by omega] at h1
      have h1 : 4 ≤ _ := h1
      omega
    · exact z
  match W, hl with
  | a :: o :: b :: m :: c :: n :: f :: r, hl =>
    have e : pickS (a :: o :: b :: m :: c :: n :: f :: r) 7 = [a, b, c, f] := by
      unfold pickS
      rw [show min 7 (a :: o :: b :: m :: c :: n :: f :: r).length = 7 from Nat.min_eq_left hl, show ((7 : Nat) : Int) = 7 from rfl, rng7]
      rfl
    rw [e] at h
    simp only [List.cons.injEq] at h
    obtain ⟨h1, h2, h3, h4, _⟩ := h
    exact ⟨o, m, n, r, by rw [h1, h2, h3, h4]; rfl⟩
theorem head_words' (o m n : Str) (r : List Str) : pickS (hw7 o m n r) 7 = headWS := by
  unfold pickS
  rw [show min 7 (hw7 o m n r).length = 7 from Nat.min_eq_left (by rw [List.length_append]; exact Nat.le_add_right 7 _), show ((7 : Nat) : Int) = 7 from rfl, rng7]
  rfl
theorem frame_words {W : List Str} (h : pickS W 15 = frameWS) : ∃ p dp o i bk tk wd r, W = fw15 p dp o i bk tk wd r := by
  have hl : 15 ≤ W.length := by
    rcases Nat.lt_or_ge W.length 15 with z | z
    · have h1 := pickS_len W 15
      have h2 := rng_short15 W.length z
      rw [h, show min 15 W.length = W.length by omega] at h1
      have h1 : 8 ≤ _ := h1
      omega
    · exact z
  match W, hl with
  | a :: p :: b :: dp :: c :: o :: d :: i :: e :: bk :: f :: tk :: g :: wd :: l :: r, hl =>
    have e : pickS (a :: p :: b :: dp :: c :: o :: d :: i :: e :: bk :: f :: tk :: g :: wd :: l :: r) 15 = [a, b, c, d, e, f, g, l] := by
      unfold pickS
      rw [show min 15 (a :: p :: b :: dp :: c :: o :: d :: i :: e :: bk :: f :: tk :: g :: wd :: l :: r).length = 15 from Nat.min_eq_left hl, show ((15 : Nat) : Int) = 15 from rfl, rng15]
      rfl
    rw [e] at h
    simp only [List.cons.injEq] at h
    obtain ⟨h1, h2, h3, h4, h5, h6, h7, h8, _⟩ := h
    exact ⟨p, dp, o, i, bk, tk, wd, r, by rw [h1, h2, h3, h4, h5, h6, h7, h8]; rfl⟩
theorem frame_words' (p dp o i bk tk wd : Str) (r : List Str) : pickS (fw15 p dp o i bk tk wd r) 15 = frameWS := by
  unfold pickS
  rw [show min 15 (fw15 p dp o i bk tk wd r).length = 15 from Nat.min_eq_left (by rw [List.length_append]; exact Nat.le_add_right 15 _), show ((15 : Nat) : Int) = 15 from rfl, rng15]
  rfl
theorem eqvAll_strs : ∀ xs ys : List Str, PyData.eqvAll (xs.map PyData.str) (ys.map PyData.str) = decide (xs = ys)
  | [], [] => by simp [PyData.eqvAll]
  | [], _ :: _ => by simp [PyData.eqvAll]
  | _ :: _, [] => by simp [PyData.eqvAll]
  | x :: xs, y :: ys => by
    simp only [List.map_cons, PyData.eqvAll, PyData.eqv, eqvAll_strs xs ys, List.cons.injEq]
    by_cases e : x = y
    · simp [e]
    · simp [e]
theorem eqv_strs (xs ys : List Str) : PyData.eqv (.tuple (xs.map PyData.str)) (.tuple (ys.map PyData.str)) = decide (xs = ys) := by
  simp only [PyData.eqv, eqvAll_strs]
theorem rps_strs {H : Hp} : ∀ ws : List Str, Rps K H (ws.map V.str) (ws.map PyData.str)
  | [] => .nil
  | w :: ws => .cons (.str w) (rps_strs ws)
/-! ### lines: what they are read as -/
def headR (W : List Str) : Option PyData := if pickS W 7 = headWS then (match W with
  | _ :: o :: _ :: m :: _ :: n :: _ :: r => (match objR o, valsR r, numR n with
    | some od, some vs, some i => if bunD (.tuple [od, .str m, .tuple vs, .tuple [], .int i]) = true then some (.tuple [od, .str m, .tuple vs, .tuple [], .int i]) else none
    | _, _, _ => none)
  | _ => none) else none
def stkR : List Str → Option (List Str × List Str)
  | [] => none
  | x :: r => if x = ("stack" : Str) then some ([], r) else (stkR r).map fun q => (x :: q.1, q.2)
theorem stkR_ok : ∀ {r ls st : List Str}, stkR r = some (ls, st) → r = ls ++ (("stack" : Str) :: st) ∧ ∀ x ∈ ls, x ≠ "stack"
  | [], _, _, h => by cases h
  | x :: r, ls, st, h => by
    unfold stkR at h
    split at h
    · rename_i e
      cases h
      exact ⟨by rw [e]; rfl, fun _ z => nomatch z⟩
    · rename_i e
      obtain ⟨q, hq, hh⟩ := Option.map_eq_some_iff.mp h
      obtain ⟨q1, q2⟩ := q
      cases hh
      obtain ⟨h1, h2⟩ := stkR_ok hq
      refine ⟨by rw [h1]; rfl, fun y hy => ?_⟩
      rcases List.mem_cons.mp hy with rfl | hy
      · exact e
      · exact h2 y hy
theorem stkR_some : ∀ {ls st : List Str}, (∀ x ∈ ls, x ≠ ("stack" : Str)) → stkR (ls ++ (("stack" : Str) :: st)) = some (ls, st)
  | [], st, _ => if_pos rfl
  | x :: ls, st, h => by
    show (if x = ("stack" : Str) then _ else (stkR (ls ++ (("stack" : Str) :: st))).map fun q => (x :: q.1, q.2)) = _
    rw [if_neg (h x List.mem_cons_self), stkR_some fun y hy => h y (List.mem_cons_of_mem _ hy)]
    rfl
theorem stkR_none : ∀ {r : List Str}, stkR r = none → ("stack" : Str) ∉ r
  | [], _ => fun z => nomatch z
  | x :: r, h => by
    unfold stkR at h
    split at h
    · cases h
    · rename_i e
      intro z
      rcases List.mem_cons.mp z with z | z
      · exact e z.symm
      · refine stkR_none ?_ z
        cases q : stkR r with
        | none => rfl
        | some v => rw [q] at h; cases h
def backR (t : Str) : Option PyData := if t = ("-" : Str) then some (.tuple []) else objR t
abbrev entY (o : Str) (p : List Int) (dp i : Int) (ls st : List PyData) (bk tk : PyData) (wd : Str) : PyData := .tuple [pD p, .int dp, .tuple [.str o, .int i, .tuple ls, .tuple st], bk, tk, .str wd]
def entX (o : Str) (p : Option (List Int)) (dp i : Option Int) (ls st : Option (List PyData)) (bk tk : Option PyData) (wd : Option Str) : Option PyData := match p, dp, i, ls, st, bk, tk, wd with
  | some p', some dp', some i', some ls', some st', some bk', some tk', some wd' => if entD (entY o p' dp' i' ls' st' bk' tk' wd') = true then some (entY o p' dp' i' ls' st' bk' tk' wd') else none
  | _, _, _, _, _, _, _, _ => none
theorem entX_ok {o : Str} {p : Option (List Int)} {dp i : Option Int} {ls st : Option (List PyData)} {bk tk : Option PyData} {wd : Option Str} {d : PyData} (h : entX o p dp i ls st bk tk wd = some d) :
    ∃ p' dp' i' ls' st' bk' tk' wd', p = some p' ∧ dp = some dp' ∧ i = some i' ∧ ls = some ls' ∧ st = some st' ∧ bk = some bk' ∧ tk = some tk' ∧ wd = some wd' ∧ d = entY o p' dp' i' ls' st' bk' tk' wd' ∧ entD d = true := by
  unfold entX at h
  split at h
  · split at h
    · rename_i z
      cases h
      exact ⟨_, _, _, _, _, _, _, _, rfl, rfl, rfl, rfl, rfl, rfl, rfl, rfl, rfl, z⟩
    · cases h
  · cases h
def entR (W : List Str) : Option PyData := if pickS W 15 = frameWS then (match W with
  | _ :: p :: _ :: dp :: _ :: o :: _ :: i :: _ :: bk :: _ :: tk :: _ :: wd :: _ :: r => (match stkR r with
    | some (ls, st) => entX o (procR p) (numR dp) (numR i) (valsR ls) (valsR st) (backR bk) (tokR tk) (fltR wd)
    | none => none)
  | _ => none) else none
/-! ### what is read is fit to be looked at -/
def Asc (t : Str) : Prop := ∀ c ∈ TL.tl t, c < 128
theorem asc_ok {t : Str} (h : Asc t) : PyData.strOk t = true := by
  show t.cps.all (· < 0x110000) = true
  rw [← Array.all_toList]
  exact List.all_eq_true.mpr fun c hc => decide_eq_true (Nat.lt_trans (h c hc) (by decide))
theorem spl_sub (S : List Nat) : ∀ (x : List Nat) (k : Nat) (acc : List Nat), ∀ y ∈ TL.spl S k acc x, ∀ c ∈ y, c ∈ acc ∨ c ∈ x
  | [], k, acc, y, hy, c, hc => by
    rw [TL.spl_nil, List.mem_singleton] at hy
    subst hy
    exact .inl hc
  | d :: r, 0, acc, y, hy, c, hc => by
    unfold TL.spl at hy
    by_cases h : TL.pre S (d :: r) = true
    · rw [if_pos h] at hy
      rcases List.mem_cons.mp hy with e | hy
      · subst e
        exact .inl hc
      · rcases spl_sub S r _ _ y hy c hc with z | z
        · exact nomatch z
        · exact .inr (List.mem_cons_of_mem _ z)
    · rw [if_neg h] at hy
      rcases spl_sub S r _ _ y hy c hc with z | z
      · rcases List.mem_append.mp z with z | z
        · exact .inl z
        · rw [List.mem_singleton.mp z]
          exact .inr List.mem_cons_self
      · exact .inr (List.mem_cons_of_mem _ z)
  | d :: r, k + 1, acc, y, hy, c, hc => by
    unfold TL.spl at hy
    rcases spl_sub S r _ _ y hy c hc with z | z
    · exact .inl z
    · exact .inr (List.mem_cons_of_mem _ z)
theorem split_asc {t y : Str} (hy : TL.tl y ≠ []) (hk : y.cps.all (· < 256) = true) (h : Asc t) : ∀ x ∈ Txt.split t y, Asc x := fun x hx c hc => by
  have e := TL.split_spl t y hy (TL.kind_ok hk)
  have hm : TL.tl x ∈ TL.spl (TL.tl y) 0 [] (TL.tl t) := by
    rw [← e]
    exact List.mem_map.mpr ⟨x, hx, rfl⟩
  rcases spl_sub _ _ _ _ _ hm c hc with z | z
  · exact nomatch z
  · exact h c z
theorem fn_ints (ns : List Int) (h : ns.length ≤ 20000) : Fn 1 (pD ns) := fn_tup (n := 0) (fun x hx => by
  obtain ⟨i, _, rfl⟩ := List.mem_map.mp hx
  exact fn_int) (by rw [List.length_map]; exact h)
theorem fnR_proc {t : Str} {ns : List Int} (h : procR t = some ns) (l : t.length ≤ 10000) : Fn 1 (pD ns) := fn_ints ns (Nat.le_trans (procT_len (procR_ok h)) (by omega))
theorem fnR_obj {t : Str} {d : PyData} (h : objR t = some d) (l : t.length ≤ 10000) : Fn 2 d := by
  obtain ⟨ns, i, rfl, o⟩ := objR_ok h
  exact fn_two (fn_ints ns (Nat.le_trans (procT_len o.1) (Nat.le_trans (part_len (t := t) (y := "#") (by decide +kernel)).1 (by omega)))) fn_int
theorem fnR_val {t : Str} {d : PyData} (h : valR t = some d) (l : t.length ≤ 10000) : Fn 3 d := by
  unfold valR at h
  split at h
  · cases h
    exact fn_tup (n := 2) (fun x hx => by rw [List.mem_singleton.mp hx]; exact fn_word (by simp)) (by show 1 ≤ 20000; decide)
  split at h
  · obtain ⟨o, ho, rfl⟩ := Option.map_eq_some_iff.mp h
    exact fn_two (fn_word (by simp)) (fnR_obj ho l)
  split at h
  · obtain ⟨o, ho, rfl⟩ := Option.map_eq_some_iff.mp h
    exact fn_int
  · obtain ⟨o, ho, rfl⟩ := Option.map_eq_some_iff.mp h
    exact fn_int
theorem fnR_vals {ws : List Str} {ds : List PyData} (h : valsR ws = some ds) (l : ∀ x ∈ ws, x.length ≤ 10000) : ∀ d ∈ ds, Fn 3 d := by
  induction ws generalizing ds with
  | nil =>
    cases h
    exact fun _ z => nomatch z
  | cons x r ih =>
    rw [valsR_cons] at h
    cases e1 : valR x with
    | none => rw [e1] at h; cases h
    | some d =>
      cases e2 : valsR r with
      | none => rw [e1, e2] at h; cases h
      | some es =>
        rw [e1, e2] at h
        cases h
        intro y hy
        rcases List.mem_cons.mp hy with rfl | hy
        · exact fnR_val e1 (l x List.mem_cons_self)
        · exact ih e2 (fun z hz => l z (List.mem_cons_of_mem _ hz)) y hy
theorem fnR_valsT {ws : List Str} {ds : List PyData} (h : valsR ws = some ds) (l : ∀ x ∈ ws, x.length ≤ 10000) (lw : ws.length ≤ 20000) : Fn 4 (.tuple ds) := fn_tup (fnR_vals h l) (by rw [valsR_len h]; exact lw)
theorem fnR_tok {t : Str} {d : PyData} (h : tokR t = some d) : Fn 1 d := by
  unfold tokR at h
  split at h
  · cases h
    exact fn_non
  split at h
  · cases h
    exact fn_two fn_int fn_int
  · cases h
theorem fltR_in {t w : Str} (h : fltR t = some w) : w ∈ (["", "number", "large", "nil"] : List Str) := by
  unfold fltR at h
  split at h
  · cases h
    exact List.mem_cons_self
  split at h
  · rename_i z
    cases h
    exact List.mem_cons_of_mem _ z
  · cases h
theorem fnR_flt {n : Nat} {t w : Str} (h : fltR t = some w) : Fn n (.str w) := fn_word (by
  have := fltR_in h
  simp only [List.mem_cons, List.not_mem_nil, or_false] at this ⊢
  rcases this with h | h | h | h <;> simp [h])
theorem fnR_back {t : Str} {d : PyData} (h : backR t = some d) (l : t.length ≤ 10000) : Fn 2 d := by
  unfold backR at h
  split at h
  · cases h
    exact (fn_tup (n := 0) (ds := []) (fun x hx => nomatch hx) (by show 0 ≤ 20000; decide)).mono (by decide)
  · exact fnR_obj h l
theorem fn_list {n m : Nat} {ds : List PyData} (h : ∀ x ∈ ds, Fn n x) (l : ds.length ≤ m) (hm : m ≤ 20000) : Fn (n + 1) (.tuple ds) := fn_tup h (Nat.le_trans l hm)
theorem al3_cons {p : PyData → Prop} {x : PyData} {r : List PyData} (h : p x) (hr : ∀ y ∈ r, p y) : ∀ y ∈ x :: r, p y := fun y hy => by
  rcases List.mem_cons.mp hy with rfl | hy
  · exact h
  · exact hr y hy
theorem al3_nil {p : PyData → Prop} : ∀ y ∈ ([] : List PyData), p y := fun _ h => nomatch h
def spLR (K : PySem.W.Frag) (f : List Str → Option PyData) : Sp := fun vs H Q E => ∃ t : Str, vs = [.str t] ∧ t.length ≤ 10000 ∧ Asc t ∧ (∀ d, f (Txt.split t " ") = some d → ∀ v H', Same H H' → Rp K H' v d → Q v H') ∧ (f (Txt.split t " ") = none → ∀ H', Same H H' → E (.ref (He.ga K "NotAllowed")) none H')
theorem tail_from (x : List Str) (k : Nat) : cutV (x.map V.str) (some (k : Int)) none = (x.drop k).map V.str := (cut_from _ k).trans (List.map_drop ..).symm
theorem ok_read_head (T : Txt K mg w a) : FnOk P w K mg base (L2N.CX P w) 10 (He.ga K "_read_head") a.d_read_head ["line"] (spLR K headR) := by
  have go := ok_object_inR (P := P) (w := w) (base := base) T
  have gn := ok_number_inR (P := P) (w := w) (base := base) T
  have gv := ok_values_in (P := P) (w := w) (base := base) T
  refine T.F_read_head.ok (CX := L2N.CX P w) sc_read_head (fun vs H Q E h => ?_) (fun cdv A outer s H vs Q E hr h => ?_)
  · obtain ⟨p, rfl, _⟩ := h
    rfl
  · obtain ⟨line, rfl, ll, asc, q, qe⟩ := h
    refine ⟨_, (pss_cons (ps_set (i := 1) sc_read_head.nd rfl (Or.inl rfl) (pe_split (pv 0) pe_str))
      (pss_cons (ps_if (pt_cmpR (op_neD hr.units) (pe_callTy call_tuple_of (by rfl) T.g_tuple boot_tuple (pa_cons (LsX.pe_stepL (pv 1) (by decide)) pa_nil)) (pe_glob (v := .ref (He.ga K "HEAD_WORDS")) (by rfl) T.g_HEAD_WORDS rfl) (nomark _)) (pss_one (L2N.ps_raise rfl (L2N.takes_of rfl rfl rfl rfl) (L2N.pmk_own PySem.F.excBase_ValueError T.x_NotAllowed T.g_NotAllowed T.k_NotAllowed (raises_own T.s_NotAllowed T.t_NotAllowed) (by rfl)))) pss_nil)
      (pss_cons (ps_set (i := 2) sc_read_head.nd rfl (Or.inl rfl) (pe_tup (pa_cons (pe_callS go (hr.mono (by omega)) (by rfl) T.g_object_in T.F_object_in.kp T.b_object_in (fun σ => L2N.passAt (L2N.takes_of rfl rfl rfl rfl) σ) (pa_cons (pe_ix ix_list (pv 1) pe_int (fun _ _ => rfl)) pa_nil)) (pa_cons (pe_ix ix_list (pv 1) pe_int (fun _ _ => rfl)) (pa_cons (pe_callS gv (hr.mono (by omega)) (by rfl) T.g_values_in T.F_values_in.kp T.b_values_in (fun σ => L2N.passAt (L2N.takes_of rfl rfl rfl rfl) σ) (pa_cons (pe_slice sl_list (pv 1) (po_some pe_int) po_none) pa_nil)) (pa_cons (pe_tup pa_nil) (pa_cons (pe_callS gn (hr.mono (by omega)) (by rfl) T.g_number_in T.F_number_in.kp T.b_number_in (fun σ => L2N.passAt (L2N.takes_of rfl rfl rfl rfl) σ) (pa_cons (pe_ix ix_list (pv 1) pe_int (fun _ _ => rfl)) pa_nil)) pa_nil)))))))
      (pss_cons (ps_if (pt_not (pt_val (pe_call (ok_is_bundle T) (hr.mono (by omega)) (by rfl) T.g_is_bundle T.F_is_bundle.kp T.b_is_bundle .nil pass0 (pa_cons (pv 2) pa_nil)))) (pss_one (L2N.ps_raise rfl (L2N.takes_of rfl rfl rfl rfl) (L2N.pmk_own PySem.F.excBase_ValueError T.x_NotAllowed T.g_NotAllowed T.k_NotAllowed (raises_own T.s_NotAllowed T.t_NotAllowed) (by rfl)))) pss_nil)
      (pss_one (ps_ret (pv 2))))))), ?_⟩
    rw [show L2.start N_read_head [.str line] = [some (.str line), none, none] from rfl]
    obtain ⟨f1, f2, f3⟩ := split_facts (t := line) (y := " ") (by decide +kernel) (by decide +kernel)
    have fa := split_asc (t := line) (y := " ") (by decide +kernel) (by decide +kernel) asc
    generalize hW : Txt.split line " " = W at *
    refine ⟨_, rfl, ⟨_, rfl⟩, _, _, rfl, rfl, rfl, Cm.small (by omega), fun pw npw => ?_⟩
    rw [hW]
    have s1 := Cm.same_new (o := .lst (W.map V.str)) npw
    have hpw : (L2.upd H pw (.lst (W.map V.str))) pw = some (.lst (W.map V.str)) := upd_same
    generalize L2.upd H pw _ = H1 at *
    simp only [gName, List.set_cons_succ, List.set_cons_zero]
    refine ⟨_, rfl, pw, _, rfl, SqL.of hpw, ?_⟩
    rw [show LsX.pickV (W.map V.str) 0 7 2 = (pickS W 7).map V.str from pickV_S W 7]
    have lp : (pickS W 7).length ≤ 100000 := by
      have h1 := pickS_len W 7
      have h2 : ∀ n : Nat, n < 8 → (sliceRange 0 (n : Int) 2).length ≤ 100000 := by decide +kernel
      exact Nat.le_trans h1 (h2 _ (by omega))
    refine ⟨Cm.small (by rw [List.length_map]; exact lp), fun p2 np2 => ?_⟩
    have s2 := Cm.same_new (o := .lst ((pickS W 7).map V.str)) np2
    have hp2 : (L2.upd H1 p2 (.lst ((pickS W 7).map V.str))) p2 = some (.lst ((pickS W 7).map V.str)) := upd_same
    generalize L2.upd H1 p2 _ = H2 at *
    refine ⟨p2, _, rfl, .inl ⟨SqL.of hp2, fun t nt => ?_⟩⟩
    have st := Cm.same_new (o := .tup ((pickS W 7).map V.str)) nt
    have rt : Rp K (L2.upd H2 t (.tup ((pickS W 7).map V.str))) (.ref t) (.tuple ((pickS W 7).map PyData.str)) := Rp.made nt (rps_strs _)
    have rk : Rp K (L2.upd H2 t (.tup ((pickS W 7).map V.str))) (.ref (He.ga K "HEAD_WORDS")) (.tuple (headWS.map PyData.str)) := .tup (T.k_HEAD_WORDS _) (rps_strs headWS)
    have hp : ∀ x ∈ pickS W 7, Asc x ∧ x.length ≤ 10000 := fun x hx => by
      obtain ⟨i, _, hi⟩ := List.mem_filterMap.mp hx
      have := List.mem_of_getElem? hi
      exact ⟨fa x this, Nat.le_trans (f3 x this) ll⟩
    have dsH : SeqAt.shaped (.tuple (headWS.map PyData.str)) = true := by decide +kernel
    have dsP : SeqAt.shaped (.tuple ((pickS W 7).map PyData.str)) = true := ((fn_tup (n := 0) (fun x hx => by
      obtain ⟨y, hy, rfl⟩ := List.mem_map.mp hx
      exact fn_str (asc_ok (hp y hy).1) (Nat.le_trans (hp y hy).2 (by omega))) (by
        have h1 := pickS_len W 7
        have h2 : ∀ n : Nat, n < 8 → (sliceRange 0 (n : Int) 2).length ≤ 20000 := by decide +kernel
        rw [List.length_map]
        exact Nat.le_trans h1 (h2 _ (by omega)))).fit (by decide)).shaped
    have s13 := (s1.trans s2).trans st
    have hpw3 := st _ _ (s2 _ _ hpw)
    generalize L2.upd H2 t _ = H3 at *
    refine ⟨_, _, rt.dp, rk.dp, dsP, dsH, _, rfl, Cm.itBn (fun e => ?_) fun e => ?_⟩
    · rw [eqv_strs] at e
      refine qe ?_ H3 s13
      unfold headR
      exact if_neg (of_decide_eq_false e)
    rw [eqv_strs] at e
    have hpk := of_decide_eq_true e
    clear rt rk dsP dsH lp hp e
    obtain ⟨o, m, c, r, rfl⟩ := head_words hpk
    have eR : headR (hw7 o m c r) = (match objR o, valsR r, numR c with
      | some od, some vs, some i => if bunD (.tuple [od, .str m, .tuple vs, .tuple [], .int i]) = true then some (.tuple [od, .str m, .tuple vs, .tuple [], .int i]) else none
      | _, _, _ => none) := by
      unfold headR
      rw [if_pos hpk]
      rfl
    rw [eR] at q qe
    have wl : ∀ x ∈ hw7 o m c r, x.length ≤ 10000 := fun x hx => Nat.le_trans (f3 x hx) ll
    have lr : r.length + 7 ≤ line.length + 1 := by
      rw [List.length_append] at f2
      have f2 : 7 + r.length ≤ line.length + 1 := f2
      omega
    have lo := wl o (by simp)
    have lm := wl m (by simp)
    have lc := wl c (by simp)
    have lrw : ∀ x ∈ r, x.length ≤ 10000 := fun x hx => wl x (List.mem_append_right _ hx)
    have am := fa m (by simp)
    -- the bundle
    refine ⟨_, rfl, pw, _, 1, _, rfl, rfl, SqL.of hpw3, atI_nat (j := 1) rfl, o, rfl, lo, fun od hod v1 H4 s4 r1 => ?_, fun no H4 s4 => qe (by rw [no]) H4 (s13.trans s4)⟩
    have hpw4 := s4 _ _ hpw3
    refine ⟨_, rfl, pw, _, 3, _, rfl, rfl, SqL.of hpw4, atI_nat (j := 3) rfl, ?_⟩
    refine ⟨_, rfl, _, rfl, ?_⟩
    refine ⟨_, _, rfl, SqL.of hpw4, fun p5 np5 => ?_⟩
    rw [show cutV ((hw7 o m c r).map V.str) (some 7) none = r.map V.str from tail_from _ 7]
    have s5 := Cm.same_new (o := .lst (r.map V.str)) np5
    have hp5 : (L2.upd H4 p5 (.lst (r.map V.str))) p5 = some (.lst (r.map V.str)) := upd_same
    generalize L2.upd H4 p5 _ = H5 at *
    refine ⟨p5, r, rfl, hp5, by omega, lrw, fun vs hvs v2 H6 s6 r2 => ?_, fun no H6 s6 => qe (by rw [hod, no]) H6 (((s13.trans s4).trans s5).trans s6)⟩
    refine ⟨Nat.zero_le _, fun t0 nt0 => ?_⟩
    have s7 := Cm.same_new (o := .tup []) nt0
    have r3 : Rp K _ (.ref t0) (.tuple []) := Rp.made (K := K) nt0 (.nil : Rps K H6 [] [])
    generalize L2.upd H6 t0 _ = H7 at *
    have s47 := (s5.trans s6).trans s7
    have s17 := (s13.trans s4).trans s47
    refine ⟨_, rfl, pw, _, 5, _, rfl, rfl, SqL.of (s47 _ _ hpw4), atI_nat (j := 5) rfl, c, rfl, lc, fun i hi => ⟨Cm.small (by show 5 ≤ 100000; decide), fun t8 nt8 => ?_⟩, fun no => qe (by rw [hod, hvs, no]) H7 s17⟩
    rw [hod, hvs, hi] at q qe
    have s8 := Cm.same_new (o := .tup [v1, .str m, v2, .ref t0, .int i]) nt8
    have r8 : Rp K _ (.ref t8) (.tuple [od, .str m, .tuple vs, .tuple [], .int i]) := Rp.made (K := K) nt8 (.cons (r1.keep (Same.tups s47)) (.cons (.str m) (.cons (r2.keep (Same.tups s7)) (.cons r3 (.cons (.int i) .nil)))))
    generalize L2.upd H7 t8 _ = H8 at *
    simp only [gName, List.set_cons_succ, List.set_cons_zero]
    have ft : Fit (.tuple [od, .str m, .tuple vs, .tuple [], .int i]) := (fn_tup (n := 7) (al3_cons ((fnR_obj hod lo).mono (by decide)) (al3_cons (fn_str (asc_ok am) (by omega)) (al3_cons ((fnR_valsT hvs lrw (by omega)).mono (by decide)) (al3_cons ((fn_tup (n := 0) (ds := []) (fun x hx => nomatch hx) (by show 0 ≤ 20000; decide)).mono (by decide)) (al3_cons fn_int al3_nil))))) (by show 5 ≤ 20000; decide)).fit (by decide)
    refine ⟨_, rfl, _, _, rfl, r8, ft, ent_of_tup (fun ds e => by injection e with e; subst e; exact fun _ z => nomatch z), fun H9 s9 => ⟨_, rfl, Cm.itBn (fun e => ?_) fun e => ?_⟩⟩
    · exact qe (if_neg (by rw [e]; decide)) H9 ((s17.trans s8).trans s9)
    · exact ⟨_, rfl, q _ (if_pos e) _ H9 ((s17.trans s8).trans s9) (r8.keep (Same.tups s9))⟩
theorem flat_strs (xs : List Str) : (xs.map V.str).all flatV = true := List.all_eq_true.mpr fun x hx => by
  obtain ⟨y, _, rfl⟩ := List.mem_map.mp hx
  rfl
theorem eqV_str (x y : Str) : eqV (.str x) (.str y) = decide (x = y) := by
  first | rfl | (simp [eqV]; done) | (unfold eqV; simp; done) | (by_cases h : x = y <;> simp [eqV, h])
theorem fw_from15 (p dp o i bk tk wd : Str) (r : List Str) : cutV ((fw15 p dp o i bk tk wd r).map V.str) (some 15) none = r.map V.str := tail_from _ 15
theorem fw_at (p dp o i bk tk wd : Str) (ls st : List Str) : ((fw15 p dp o i bk tk wd (ls ++ (("stack" : Str) :: st))).map V.str)[15 + ls.length]? = some (.str "stack") := by
  rw [List.getElem?_map, List.getElem?_append_right (by show 15 ≤ 15 + ls.length; omega)]
  rw [show 15 + ls.length - [("frame" : Str), p, "depth", dp, "op", o, "at", i, "back", bk, "token", tk, "word", wd, "locals"].length = ls.length from by show 15 + ls.length - 15 = ls.length; omega, List.getElem?_append_right (Nat.le_refl _), Nat.sub_self]
  rfl
theorem fw_mid (p dp o i bk tk wd : Str) (ls st : List Str) : cutV ((fw15 p dp o i bk tk wd (ls ++ (("stack" : Str) :: st))).map V.str) (some 15) (some ((15 + ls.length : Nat) : Int)) = ls.map V.str := by
  rw [show (15 : Int) = ((15 : Nat) : Int) from rfl, cut_mid _ (by omega) (by rw [List.length_map, List.length_append, List.length_append]; show 15 + ls.length ≤ 15 + (ls.length + (st.length + 1)); omega), ← List.map_drop, ← List.map_take, Nat.add_sub_cancel_left]
  show ((ls ++ (("stack" : Str) :: st)).take ls.length).map V.str = _
  rw [List.take_left]
theorem fw_end (p dp o i bk tk wd : Str) (ls st : List Str) : cutV ((fw15 p dp o i bk tk wd (ls ++ (("stack" : Str) :: st))).map V.str) (some (((15 + ls.length : Nat) : Int) + 1)) none = st.map V.str := by
  rw [show ((15 + ls.length : Nat) : Int) + 1 = ((15 + ls.length + 1 : Nat) : Int) from rfl, tail_from]
  have e : (fw15 p dp o i bk tk wd (ls ++ (("stack" : Str) :: st))).drop (15 + ls.length + 1) = st := by
    have e2 : fw15 p dp o i bk tk wd (ls ++ (("stack" : Str) :: st)) = (([("frame" : Str), p, "depth", dp, "op", o, "at", i, "back", bk, "token", tk, "word", wd, "locals"] ++ ls) ++ [("stack" : Str)]) ++ st := by
      simp
    rw [e2]
    exact List.drop_left' (by rw [List.length_append, List.length_append]; rfl)
  rw [e]
theorem fw_before {p dp o i bk tk wd : Str} {ls st : List Str} (h : ∀ x ∈ ls, x ≠ "stack") (m : Nat) (z : V) (h1 : 15 ≤ m) (h2 : m < 15 + ls.length) (e : ((fw15 p dp o i bk tk wd (ls ++ (("stack" : Str) :: st))).map V.str)[m]? = some z) : eqV z (.str "stack") = false := by
  have hm : m - 15 < ls.length := by omega
  have e2 : (fw15 p dp o i bk tk wd (ls ++ (("stack" : Str) :: st)))[m]? = some ls[m - 15] := by
    rw [List.getElem?_append_right (by show 15 ≤ m; omega)]
    show (ls ++ _)[m - 15]? = _
    rw [List.getElem?_append_left hm]
    exact List.getElem?_eq_getElem hm
  rw [List.getElem?_map, e2] at e
  cases e
  rw [eqV_str]
  exact decide_eq_false (h _ (List.getElem_mem hm))
def abvAll (d : PyData) (bds : List PyData) : Bool := bds.all fun b => abvD d b
def spRE (K : PySem.W.Frag) : Sp := fun vs H Q E => ∃ (t : Str) (bp : Addr) (us : List V) (bds : List PyData), vs = [.str t, .ref bp] ∧ t.length ≤ 10000 ∧ Asc t ∧ H bp = some (.lst us) ∧ Rps K H us bds ∧ bds.length ≤ 1 ∧ (∀ b ∈ bds, entD b = true) ∧
  (∀ d, entR (Txt.split t " ") = some d → abvAll d bds = true → ∀ v H', Same H H' → Rp K H' v d → Q v H') ∧ ((∀ d, entR (Txt.split t " ") = some d → abvAll d bds = false) → ∀ H', Same H H' → E (.ref (He.ga K "NotAllowed")) none H')
theorem inV_mem {x : Str} {xs : List Str} : inV (.str x) (xs.map V.str) = decide (x ∈ xs) := inV_strs x xs
theorem ok_read_entry (T : Txt K mg w a) : FnOk P w K mg base (L2N.CX P w) 10 (He.ga K "_read_entry") a.d_read_entry ["line", "before"] (spRE K) := by
  have go := ok_object_inR (P := P) (w := w) (base := base) T
  have gp := ok_process_inR (P := P) (w := w) (base := base) T
  have gn := ok_number_inR (P := P) (w := w) (base := base) T
  have gv := ok_values_in (P := P) (w := w) (base := base) T
  have gt := ok_token_in (P := P) (w := w) (base := base) T
  have gf := ok_fault_in (P := P) (w := w) (base := base) T
  refine T.F_read_entry.ok (CX := L2N.CX P w) sc_read_entry (fun vs H Q E h => ?_) (fun cdv A outer s H vs Q E hr h => ?_)
  · obtain ⟨d, bp, us, bds, rfl, _⟩ := h
    rfl
  · obtain ⟨line, bp, us, bds, rfl, ll, asc, hbp, rbs, lbs, hbs, q, qe⟩ := h
    refine ⟨_, (pss_cons (ps_set (i := 2) sc_read_entry.nd rfl (Or.inl rfl) (pe_split (pv 0) pe_str))
      (pss_cons (ps_if (PW.pt (pw_or (pt_cmpR (op_neD hr.units) (pe_callTy call_tuple_of (by rfl) T.g_tuple boot_tuple (pa_cons (LsX.pe_stepL (pv 2) (by decide)) pa_nil)) (pe_glob (v := .ref (He.ga K "FRAME_WORDS")) (by rfl) T.g_FRAME_WORDS rfl) (nomark _)) (pw_or1 (pt_cmpR op_notIn_seq pe_str (pe_slice sl_list (pv 2) (po_some pe_int) po_none) (by rfl))))) (pss_one (L2N.ps_raise rfl (L2N.takes_of rfl rfl rfl rfl) (L2N.pmk_own PySem.F.excBase_ValueError T.x_NotAllowed T.g_NotAllowed T.k_NotAllowed (raises_own T.s_NotAllowed T.t_NotAllowed) (by rfl)))) pss_nil)
      (pss_cons (ps_set (i := 3) sc_read_entry.nd rfl (Or.inl rfl) (pe_bm PySem.F.plainAttrs_list PySem.F.slot_list_index PySem.F.type_list_index LsX.mt_indexFrom (pv 2) (pa_cons pe_str (pa_cons pe_int pa_nil))))
      (pss_cons (ps_set (i := 4) sc_read_entry.nd rfl (Or.inl rfl) (pe_tup (pa_cons (pe_ix ix_list (pv 2) pe_int (fun _ _ => rfl)) (pa_cons (pe_callS gn (hr.mono (by omega)) (by rfl) T.g_number_in T.F_number_in.kp T.b_number_in (fun σ => L2N.passAt (L2N.takes_of rfl rfl rfl rfl) σ) (pa_cons (pe_ix ix_list (pv 2) pe_int (fun _ _ => rfl)) pa_nil)) (pa_cons (pe_callS gv (hr.mono (by omega)) (by rfl) T.g_values_in T.F_values_in.kp T.b_values_in (fun σ => L2N.passAt (L2N.takes_of rfl rfl rfl rfl) σ) (pa_cons (pe_slice sl_list (pv 2) (po_some pe_int) (po_some (pv 3))) pa_nil)) (pa_cons (pe_callS gv (hr.mono (by omega)) (by rfl) T.g_values_in T.F_values_in.kp T.b_values_in (fun σ => L2N.passAt (L2N.takes_of rfl rfl rfl rfl) σ) (pa_cons (pe_slice sl_list (pv 2) (po_some (pe_op op_add (pv 3) pe_int)) po_none) pa_nil)) pa_nil))))))
      (pss_cons (ps_set (i := 5) sc_read_entry.nd rfl (Or.inl rfl) (LsX.pe_cutV (pe_ifExp (pt_cmpR op_eq (pe_ix ix_list (pv 2) pe_int (fun _ _ => rfl)) pe_str (nomark _)) (pe_tup pa_nil) (pe_callS go (hr.mono (by omega)) (by rfl) T.g_object_in T.F_object_in.kp T.b_object_in (fun σ => L2N.passAt (L2N.takes_of rfl rfl rfl rfl) σ) (pa_cons (pe_ix ix_list (pv 2) pe_int (fun _ _ => rfl)) pa_nil)))))
      (pss_cons (ps_set (i := 6) sc_read_entry.nd rfl (Or.inr rfl) (pe_tup (pa_cons (pe_callS gp (hr.mono (by omega)) (by rfl) T.g_process_in T.F_process_in.kp T.b_process_in (fun σ => L2N.passAt (L2N.takes_of rfl rfl rfl rfl) σ) (pa_cons (pe_ix ix_list (pv 2) pe_int (fun _ _ => rfl)) pa_nil)) (pa_cons (pe_callS gn (hr.mono (by omega)) (by rfl) T.g_number_in T.F_number_in.kp T.b_number_in (fun σ => L2N.passAt (L2N.takes_of rfl rfl rfl rfl) σ) (pa_cons (pe_ix ix_list (pv 2) pe_int (fun _ _ => rfl)) pa_nil)) (pa_cons (pv 4) (pa_cons (pv 5) (pa_cons (pe_callS gt (hr.mono (by omega)) (by rfl) T.g_token_in T.F_token_in.kp T.b_token_in (fun σ => L2N.passAt (L2N.takes_of rfl rfl rfl rfl) σ) (pa_cons (pe_ix ix_list (pv 2) pe_int (fun _ _ => rfl)) pa_nil)) (pa_cons (pe_callS gf (hr.mono (by omega)) (by rfl) T.g_fault_in T.F_fault_in.kp T.b_fault_in (fun σ => L2N.passAt (L2N.takes_of rfl rfl rfl rfl) σ) (pa_cons (pe_ix ix_list (pv 2) pe_int (fun _ _ => rfl)) pa_nil)) pa_nil))))))))
      (pss_cons (ps_if (PW.pt (pw_or (pt_not (pt_val (pe_call (ok_is_entry T) (hr.mono (by omega)) (by rfl) T.g_is_entry T.F_is_entry.kp T.b_is_entry .nil pass0 (pa_cons (pv 6) pa_nil)))) (pw_or1 (pt_not (pt_val (pe_callB (cr_all rfl) (by rfl) T.g_all boot_all (pa_cons (pe_lc (own := [("other", 7)]) (g := gName 7) (tt := tYes)  (by rfl) sc_read_entry.nd (pi_list (pv 1)) (blkOk_by (own := [("other", 7)]) (N := N_read_entry) (sc := defScope s_read_entry) (by decide +kernel)) (fun _ _ _ _ _ => pg_name (i := 7) sc_read_entry.nd rfl (Or.inl rfl)) (fun _ _ _ _ _ => pts_nil) (fun _ _ _ _ _ => (pe_call (ok_is_above T) (hr.mono (by omega)) (by rfl) T.g_is_above T.F_is_above.kp T.b_is_above .nil pass0 (pa_cons (pv 6) (pa_cons (pv 7) pa_nil))))) pa_nil))))))) (pss_one (L2N.ps_raise rfl (L2N.takes_of rfl rfl rfl rfl) (L2N.pmk_own PySem.F.excBase_ValueError T.x_NotAllowed T.g_NotAllowed T.k_NotAllowed (raises_own T.s_NotAllowed T.t_NotAllowed) (by rfl)))) pss_nil)
      (pss_one (ps_ret (pv 6)))))))))), ?_⟩
    rw [show L2.start N_read_entry [.str line, .ref bp] = [some (.str line), some (.ref bp), none, none, none, none, none, none] from rfl]
    obtain ⟨f1, f2, f3⟩ := split_facts (t := line) (y := " ") (by decide +kernel) (by decide +kernel)
    have fa := split_asc (t := line) (y := " ") (by decide +kernel) (by decide +kernel) asc
    generalize hW : Txt.split line " " = W at *
    refine ⟨_, rfl, ⟨_, rfl⟩, _, _, rfl, rfl, rfl, Cm.small (by omega), fun pw npw => ?_⟩
    rw [hW]
    have s1 := Cm.same_new (o := .lst (W.map V.str)) npw
    have hpw : (L2.upd H pw (.lst (W.map V.str))) pw = some (.lst (W.map V.str)) := upd_same
    generalize L2.upd H pw _ = H1 at *
    simp only [gName, List.set_cons_succ, List.set_cons_zero]
    refine ⟨_, rfl, pw, _, rfl, SqL.of hpw, ?_⟩
    rw [show LsX.pickV (W.map V.str) 0 15 2 = (pickS W 15).map V.str from pickV_S W 15]
    have lp : (pickS W 15).length ≤ 20000 := by
      have h1 := pickS_len W 15
      have h2 : ∀ n : Nat, n < 16 → (sliceRange 0 (n : Int) 2).length ≤ 20000 := by decide +kernel
      exact Nat.le_trans h1 (h2 _ (by omega))
    refine ⟨Cm.small (by rw [List.length_map]; omega), fun p2 np2 => ?_⟩
    have s2 := Cm.same_new (o := .lst ((pickS W 15).map V.str)) np2
    have hp2 : (L2.upd H1 p2 (.lst ((pickS W 15).map V.str))) p2 = some (.lst ((pickS W 15).map V.str)) := upd_same
    generalize L2.upd H1 p2 _ = H2 at *
    refine ⟨p2, _, rfl, .inl ⟨SqL.of hp2, fun t nt => ?_⟩⟩
    have st := Cm.same_new (o := .tup ((pickS W 15).map V.str)) nt
    have rt : Rp K (L2.upd H2 t (.tup ((pickS W 15).map V.str))) (.ref t) (.tuple ((pickS W 15).map PyData.str)) := Rp.made nt (rps_strs _)
    have rk : Rp K (L2.upd H2 t (.tup ((pickS W 15).map V.str))) (.ref (He.ga K "FRAME_WORDS")) (.tuple (frameWS.map PyData.str)) := .tup (T.k_FRAME_WORDS _) (rps_strs frameWS)
    have hp : ∀ x ∈ pickS W 15, Asc x ∧ x.length ≤ 10000 := fun x hx => by
      obtain ⟨i, _, hi⟩ := List.mem_filterMap.mp hx
      have := List.mem_of_getElem? hi
      exact ⟨fa x this, Nat.le_trans (f3 x this) ll⟩
    have dsH : SeqAt.shaped (.tuple (frameWS.map PyData.str)) = true := by decide +kernel
    have dsP : SeqAt.shaped (.tuple ((pickS W 15).map PyData.str)) = true := ((fn_tup (n := 0) (fun x hx => by
      obtain ⟨y, hy, rfl⟩ := List.mem_map.mp hx
      exact fn_str (asc_ok (hp y hy).1) (Nat.le_trans (hp y hy).2 (by omega))) (by
        rw [List.length_map]
        exact lp)).fit (by decide)).shaped
    have s13 := (s1.trans s2).trans st
    have hpw3 := st _ _ (s2 _ _ hpw)
    generalize L2.upd H2 t _ = H3 at *
    refine ⟨_, _, rt.dp, rk.dp, dsP, dsH, _, rfl, Cm.itBn (fun e => ?_) fun e => ?_⟩
    · rw [eqv_strs] at e
      refine qe (fun d hd => ?_) H3 s13
      unfold entR at hd
      rw [if_neg (of_decide_eq_false e)] at hd
      cases hd
    rw [eqv_strs] at e
    have hpk := of_decide_eq_true e
    clear rt rk dsP dsH lp hp e
    obtain ⟨p, dp, o, i, bk, tk, wd, r, rfl⟩ := frame_words hpk
    have lr : r.length + 15 ≤ line.length + 1 := by
      rw [List.length_append] at f2
      have f2 : 15 + r.length ≤ line.length + 1 := f2
      omega
    have eR : entR (fw15 p dp o i bk tk wd r) = (match stkR r with
      | some (ls, st) => entX o (procR p) (numR dp) (numR i) (valsR ls) (valsR st) (backR bk) (tokR tk) (fltR wd)
      | none => none) := by
      unfold entR
      rw [if_pos hpk]
      rfl
    rw [eR] at q qe
    have wl : ∀ x ∈ fw15 p dp o i bk tk wd r, x.length ≤ 10000 := fun x hx => Nat.le_trans (f3 x hx) ll
    -- 'stack'
    refine ⟨_, rfl, _, rfl, ?_⟩
    refine ⟨_, _, rfl, SqL.of hpw3, fun p4 np4 => ?_⟩
    rw [fw_from15]
    have s4 := Cm.same_new (o := .lst (r.map V.str)) np4
    have hp4 : (L2.upd H3 p4 (.lst (r.map V.str))) p4 = some (.lst (r.map V.str)) := upd_same
    generalize L2.upd H3 p4 _ = H4 at *
    have hpw4 := s4 _ _ hpw3
    have s14 := s13.trans s4
    refine ⟨p4, _, rfl, .inl (SqL.of hp4), rfl, flat_strs _, _, rfl, Cm.itVn (fun z => ?_) fun z => ?_⟩
    · have z : inV (.str "stack") (r.map V.str) = false := z
      rw [inV_mem] at z
      have hno := of_decide_eq_false z
      refine qe (fun d hd => ?_) H4 s14
      cases hs : stkR r with
      | none => rw [hs] at hd; cases hd
      | some v =>
        obtain ⟨ls, st⟩ := v
        exact absurd (by rw [(stkR_ok hs).1]; simp) hno
    have z : inV (.str "stack") (r.map V.str) = true := z
    rw [inV_mem] at z
    have hin := of_decide_eq_true z
    clear z
    obtain ⟨ls, st, hs⟩ : ∃ ls st, stkR r = some (ls, st) := by
      cases hs : stkR r with
      | none => exact absurd hin (stkR_none hs)
      | some v => exact ⟨v.1, v.2, rfl⟩
    rw [hs] at q qe
    obtain ⟨er, hls⟩ := stkR_ok hs
    subst er
    have lsw : ls.length + (st.length + 1) = (ls ++ (("stack" : Str) :: st)).length := by rw [List.length_append]; rfl
    have lp := wl p (by simp)
    have ldp := wl dp (by simp)
    have lo := wl o (by simp)
    have li := wl i (by simp)
    have lbk := wl bk (by simp)
    have ltk := wl tk (by simp)
    have lwd := wl wd (by simp)
    have lls : ∀ x ∈ ls, x.length ≤ 10000 := fun x hx => wl x (List.mem_append_right _ (List.mem_append_left _ hx))
    have lst : ∀ x ∈ st, x.length ≤ 10000 := fun x hx => wl x (List.mem_append_right _ (List.mem_append_right _ (List.mem_cons_of_mem _ hx)))
    have ao := fa o (by simp)
    -- end
    refine ⟨_, rfl, .inl ⟨rfl, _, SqL.of hpw4⟩, ?_⟩
    refine ⟨pw, _, _, 15, 15 + ls.length, _, rfl, rfl, SqL.of hpw4, rfl, flat_strs _, by omega, fw_at _ _ _ _ _ _ _ _ _, ?_, ?_, ?_⟩
    · rw [eqV_str]
      exact decide_eq_true rfl
    · exact fun m z h1 h2 e => fw_before hls m z h1 h2 e
    simp only [gName, List.set_cons_succ, List.set_cons_zero]
    -- frame
    refine ⟨_, rfl, pw, _, 5, _, rfl, rfl, SqL.of hpw4, atI_nat (j := 5) rfl, ?_⟩
    refine ⟨_, rfl, pw, _, 7, _, rfl, rfl, SqL.of hpw4, atI_nat (j := 7) rfl, i, rfl, li, fun i' hi => ?_, fun no => qe (fun d hd => ?_) H4 s14⟩
    rotate_left
    · obtain ⟨_, _, _, _, _, _, _, _, _, _, z, _⟩ := entX_ok hd
      rw [no] at z
      cases z
    refine ⟨_, rfl, _, rfl, _, rfl, _, rfl, ?_⟩
    refine ⟨_, _, rfl, SqL.of hpw4, fun p5 np5 => ?_⟩
    rw [fw_mid]
    have s5 := Cm.same_new (o := .lst (ls.map V.str)) np5
    have hp5 : (L2.upd H4 p5 (.lst (ls.map V.str))) p5 = some (.lst (ls.map V.str)) := upd_same
    generalize L2.upd H4 p5 _ = H5 at *
    refine ⟨p5, ls, rfl, hp5, by omega, lls, fun ls' hls' v3 H6 s6 r3 => ?_, fun no H6 s6 => qe (fun d hd => ?_) H6 ((s14.trans s5).trans s6)⟩
    rotate_left
    · obtain ⟨_, _, _, _, _, _, _, _, _, _, _, z, _⟩ := entX_ok hd
      rw [no] at z
      cases z
    have s56 := s5.trans s6
    have hpw6 := s56 _ _ hpw4
    refine ⟨_, rfl, _, rfl, _, _, rfl, rfl, _, rfl, ?_⟩
    refine ⟨_, _, rfl, SqL.of hpw6, fun p7 np7 => ?_⟩
    rw [fw_end]
    have s7 := Cm.same_new (o := .lst (st.map V.str)) np7
    have hp7 : (L2.upd H6 p7 (.lst (st.map V.str))) p7 = some (.lst (st.map V.str)) := upd_same
    generalize L2.upd H6 p7 _ = H7 at *
    refine ⟨p7, st, rfl, hp7, by omega, lst, fun st' hst' v4 H8 s8 r4 => ?_, fun no H8 s8 => qe (fun d hd => ?_) H8 (((s14.trans s56).trans s7).trans s8)⟩
    rotate_left
    · obtain ⟨_, _, _, _, _, _, _, _, _, _, _, _, z, _⟩ := entX_ok hd
      rw [no] at z
      cases z
    have s78 := s7.trans s8
    refine ⟨Cm.small (by show 4 ≤ 100000; decide), fun tf ntf => ?_⟩
    have s9 := Cm.same_new (o := .tup [.str o, .int i', v3, v4]) ntf
    have rfr : Rp K _ (.ref tf) (.tuple [.str o, .int i', .tuple ls', .tuple st']) := Rp.made (K := K) ntf (.cons (.str o) (.cons (.int i') (.cons (r3.keep (Same.tups s78)) (.cons r4 .nil))))
    generalize L2.upd H8 tf _ = H9 at *
    simp only [gName, List.set_cons_succ, List.set_cons_zero]
    have s49 := s56.trans (s78.trans s9)
    have hpw9 := s49 _ _ hpw4
    have s19 := s14.trans s49
    -- back
    refine ⟨fun x G => ∃ back, backR bk = some back ∧ Rp K G x back ∧ Same H9 G, ?_, fun vb H10 ⟨back, hback, rb, s10⟩ => ?_⟩
    · refine ⟨_, rfl, pw, _, 9, _, rfl, rfl, SqL.of hpw9, atI_nat (j := 9) rfl, rfl, _, rfl, Cm.itES (fun e => ?_) fun e => ?_⟩
      · exact ⟨Nat.zero_le _, fun t0 nt0 => ⟨.tuple [], if_pos e, Rp.made nt0 .nil, Cm.same_new nt0⟩⟩
      · refine ⟨_, rfl, pw, _, 9, _, rfl, rfl, SqL.of hpw9, atI_nat (j := 9) rfl, bk, rfl, lbk, fun d hd v H' s' r => ⟨d, (if_neg e).trans hd, r, s'⟩, fun no H' s' => qe (fun d hd => ?_) H' (s19.trans s')⟩
        obtain ⟨_, _, _, _, _, _, _, _, _, _, _, _, _, z, _⟩ := entX_ok hd
        rw [show backR bk = objR bk from if_neg e, no] at z
        cases z
    simp only [gName, List.set_cons_succ, List.set_cons_zero]
    have hpw10 := s10 _ _ hpw9
    have s110 := s19.trans s10
    refine ⟨_, rfl, pw, _, 1, _, rfl, rfl, SqL.of hpw10, atI_nat (j := 1) rfl, p, rfl, lp, fun pd hpd v5 H11 s11 r5 => ?_, fun no H' s' => qe (fun d hd => ?_) H' (s110.trans s')⟩
    rotate_left
    · obtain ⟨_, _, _, _, _, _, _, _, z, _⟩ := entX_ok hd
      have no : (procR p).map pD = none := no
      rw [z] at no
      cases no
    obtain ⟨p', hp', rfl⟩ := Option.map_eq_some_iff.mp (show (procR p).map pD = some pd from hpd)
    have hpw11 := s11 _ _ hpw10
    have s111 := s110.trans s11
    refine ⟨_, rfl, pw, _, 3, _, rfl, rfl, SqL.of hpw11, atI_nat (j := 3) rfl, dp, rfl, ldp, fun dp' hdp' => ?_, fun no => qe (fun d hd => ?_) H11 s111⟩
    rotate_left
    · obtain ⟨_, _, _, _, _, _, _, _, _, z, _⟩ := entX_ok hd
      rw [no] at z
      cases z
    refine ⟨_, rfl, _, rfl, _, rfl, pw, _, 11, _, rfl, rfl, SqL.of hpw11, atI_nat (j := 11) rfl, tk, rfl, ltk, fun tok htok v6 H12 s12 r6 => ?_, fun no H' s' => qe (fun d hd => ?_) H' (s111.trans s')⟩
    rotate_left
    · obtain ⟨_, _, _, _, _, _, _, _, _, _, _, _, _, _, z, _⟩ := entX_ok hd
      rw [no] at z
      cases z
    have hpw12 := s12 _ _ hpw11
    have s112 := s111.trans s12
    refine ⟨_, rfl, pw, _, 13, _, rfl, rfl, SqL.of hpw12, atI_nat (j := 13) rfl, wd, rfl, lwd, fun w' hw' => ⟨Cm.small (by show 6 ≤ 100000; decide), fun te nte => ?_⟩, fun no => qe (fun d hd => ?_) H12 s112⟩
    rotate_left
    · obtain ⟨_, _, _, _, _, _, _, _, _, _, _, _, _, _, _, z, _⟩ := entX_ok hd
      rw [no] at z
      cases z
    have eX : entX o (procR p) (numR dp) (numR i) (valsR ls) (valsR st) (backR bk) (tokR tk) (fltR wd) = if entD (entY o p' dp' i' ls' st' back tok w') = true then some (entY o p' dp' i' ls' st' back tok w') else none := by
      rw [hp', hdp', hi, hls', hst', hback, htok, hw'] <;> rfl
    dsimp only at q qe
    rw [eX] at q qe
    have s1012 := s11.trans s12
    have re : Rp K _ (.ref te) (entY o p' dp' i' ls' st' back tok w') := Rp.made (K := K) nte (.cons (r5.keep (Same.tups s12)) (.cons (.int dp') (.cons (rfr.keep (Same.tups (s10.trans s1012))) (.cons (rb.keep (Same.tups s1012)) (.cons r6 (.cons (.str w') .nil))))))
    have s13' := Cm.same_new (o := .tup [v5, .int dp', .ref tf, vb, v6, .str w']) nte
    generalize L2.upd H12 te _ = H13 at *
    simp only [gName, List.set_cons_succ, List.set_cons_zero]
    have sT := s112.trans s13'
    have ftF : Fn 5 (.tuple [.str o, .int i', .tuple ls', .tuple st']) := fn_tup (n := 4) (al3_cons (fn_str (asc_ok ao) (by omega)) (al3_cons fn_int (al3_cons (fnR_valsT hls' lls (by omega)) (al3_cons (fnR_valsT hst' lst (by omega)) al3_nil)))) (by show 4 ≤ 20000; decide)
    have ft : Fit (entY o p' dp' i' ls' st' back tok w') := (fn_tup (n := 5) (al3_cons ((fnR_proc hp' lp).mono (by decide)) (al3_cons fn_int (al3_cons ftF (al3_cons ((fnR_back hback lbk).mono (by decide)) (al3_cons ((fnR_tok htok).mono (by decide)) (al3_cons (fnR_flt hw') al3_nil)))))) (by show 6 ≤ 20000; decide)).fit (by decide)
    have eok : EntOk (entY o p' dp' i' ls' st' back tok w') := fun p dp f b t w h => by
      injection h with h
      injection h with _ h
      injection h with _ h
      injection h with _ h
      injection h with _ h
      injection h with _ h
      injection h with h _
      exact ⟨_, h.symm⟩
    generalize entY o p' dp' i' ls' st' back tok w' = d at *
    refine ⟨_, rfl, _, _, rfl, re, ft, eok, fun H14 s14' => ⟨_, rfl, Cm.itBn (fun e => ?_) fun e => ?_⟩⟩
    · exact qe (fun d' hd' => by rw [if_neg (by rw [e]; decide)] at hd'; cases hd') H14 (sT.trans s14')
    rw [if_pos e] at q qe
    have sT2 := sT.trans s14'
    have hbp2 := sT2 _ _ hbp
    have rbs2 := rbs.keep (Same.tups sT2)
    have re2 := re.keep (Same.tups s14')
    have hlen := rbs.len
    refine ⟨_, rfl, bp, rfl, ⟨_, SqL.of hbp2⟩, fun D nD => ?_⟩
    refine lc_list (K := K) (a := bp) (xs := us) (fun j Hj => Same H14 Hj ∧ ∃ bs : List Bool, Hj D = some (.lst (bs.map V.bl)) ∧ bs = (bds.take j).map (fun b => abvD d b) ∧ bs.length ≤ j) ⟨Cm.same_new nD, [], upd_same, rfl, Nat.le_refl _⟩ (fun j Hj _ b => SqL.of (b.1 _ _ hbp2)) (fun j y Hj hy b => ?_) fun Hj b => ?_
    · obtain ⟨sJ, bs, hD, eb, lb⟩ := b
      refine ⟨rfl, ?_⟩
      have hj : j < bds.length := by
        rw [← hlen]
        exact (List.getElem?_eq_some_iff.mp hy).1
      obtain ⟨y', hy', ry⟩ := rbs2.at_ (i := j) (d := bds[j]) (List.getElem?_eq_getElem hj)
      rw [hy] at hy'
      cases hy'
      refine ⟨_, rfl, _, rfl, _, y, _, bds[j], rfl, re2.keep (Same.tups sJ), ry.keep (Same.tups sJ), entD_head e, entD_head (hbs _ (List.getElem_mem hj)), fun H15 s15 => ?_⟩
      refine ⟨_, s15 _ _ hD, Cm.smallL (by rw [List.length_map]; omega), Cm.same_mut (sJ.trans s15) nD, bs ++ [abvD d bds[j]], ?_, ?_, by rw [List.length_append]; simp only [List.length_cons, List.length_nil]; omega⟩
      · rw [upd_same, List.map_append]
        rfl
      · rw [List.take_succ, List.getElem?_eq_getElem hj, List.map_append, eb]
        rfl
    · obtain ⟨sJ, bs, hD, eb, lb⟩ := b
      rw [hlen, List.take_length] at eb
      have eall : bs.all id = abvAll d bds := by
        rw [eb]
        show (bds.map fun b => abvD d b).all id = bds.all fun b => abvD d b
        rw [List.all_map]
        rfl
      refine ⟨D, bs, rfl, SqL.of hD, _, rfl, ?_⟩
      rw [eall]
      refine Cm.itBn (fun z => qe (fun d' hd' => ?_) Hj (sT2.trans sJ)) fun z => ⟨_, rfl, q d rfl z _ Hj (sT2.trans sJ) (re2.keep (Same.tups sJ))⟩
      cases hd'
      exact z
/-! ### texts of bundles: what they are read as -/
def entsR : List PyData → List Str → Nat ⊕ List PyData
  | _, [] => .inr []
  | bf, l :: r => match entR (Txt.split l " ") with
    | some d => if abvAll d bf = true then (match entsR [d] r with
      | .inl k => .inl (k + 1)
      | .inr ds => .inr (d :: ds)) else .inl 0
    | none => .inl 0
def withE (h : PyData) (es : List PyData) : PyData := match h with
  | .tuple [o, m, vs, _, c] => .tuple [o, m, vs, .tuple es, c]
  | d => d
/-- the number of the first bad line, or the bundle; L the whole lines, u what is behind them -/
def linR (L : List Str) (u : Str) : Nat ⊕ PyData := match L with
  | [] => .inl 1
  | l :: r => match headR (Txt.split l " ") with
    | none => .inl 1
    | some h => match entsR [] r with
      | .inl k => .inl (k + 2)
      | .inr es => if u = ("" : Str) then .inr (withE h es) else .inl (r.length + 2)
theorem linR_cons (l : Str) (r : List Str) (u : Str) : linR (l :: r) u = (match headR (Txt.split l " ") with
    | none => .inl 1
    | some h => match entsR [] r with
      | .inl k => .inl (k + 2)
      | .inr es => if u = ("" : Str) then .inr (withE h es) else .inl (r.length + 2)) := rfl
def bunR (t : Str) : Nat ⊕ PyData := linR (Txt.split t "\n").dropLast ((Txt.split t "\n").getLastD "")
def preE (es : List PyData) (k : Nat) : Nat ⊕ List PyData → Nat ⊕ List PyData
  | .inl j => .inl (j + k)
  | .inr ds => .inr (es ++ ds)
def lastL (es : List PyData) : List PyData := es.drop (es.length - 1)
theorem lastL_snoc (es : List PyData) (d : PyData) : lastL (es ++ [d]) = [d] := by
  unfold lastL
  rw [List.length_append, List.length_singleton, Nat.add_sub_cancel]
  exact List.drop_left' rfl
theorem headR_ok {W : List Str} {d : PyData} (h : headR W = some d) : ∃ od m vs i, d = .tuple [od, .str m, .tuple vs, .tuple [], .int i] ∧ bunD d = true := by
  unfold headR at h
  split at h
  · split at h
    · split at h
      · split at h
        · rename_i z
          cases h
          exact ⟨_, _, _, _, rfl, z⟩
        · cases h
      · cases h
    · cases h
  · cases h
theorem entR_ok {W : List Str} {d : PyData} (h : entR W = some d) : entD d = true := by
  unfold entR at h
  split at h
  · split at h
    · split at h
      · obtain ⟨_, _, _, _, _, _, _, _, _, _, _, _, _, _, _, _, _, z⟩ := entX_ok h
        exact z
      · cases h
    · cases h
  · cases h
/-- BadForm(n) as it is told -/
theorem mk_BF {n : Int} {H1 : Hp} {Q : XK} (n0 : 0 ≤ n) (n1 : n ≤ 1000000) (h : ∀ d, H1 d = none → Q (.ref (He.ga K "BadForm")) (some d) (upd H1 d (.xd [("line", .int n)]))) :
    ([V.int n] : List V).length ≤ 1000 ∧ ∀ a, H1 a = none → spBF K (.ref a :: ([V.int n] ++ [])) (upd H1 a (exo a (He.ga K "BadForm") none))
      (fun v H2 => v = .non ∧ ∃ (d : Addr) (fs : List (Str × V)), H2 a = some (exo a (He.ga K "BadForm") (some d)) ∧ H2 d = some (exd d fs) ∧ H1 d = none ∧ Q (.ref (He.ga K "BadForm")) (some d) (upd (del H2 a) d (.xd fs))) (fun _ _ _ => False) := by
  refine ⟨by show 1 ≤ 1000; decide, fun a ha => ⟨a, n, rfl, n0, n1, upd_same, fun dx hd hne => ⟨rfl, dx, [("line", .int n)], upd_same, ?_, ?_, ?_⟩⟩⟩
  · rw [upd_ne hne, upd_same]
  · rw [upd_ne hne] at hd
    exact hd
  · have hd' : H1 dx = none := by
      rw [upd_ne hne] at hd
      exact hd
    have e : upd (del (upd (upd (upd H1 a (exo a (He.ga K "BadForm") none)) dx (exd dx [("line", .int n)])) a (exo a (He.ga K "BadForm") (some dx))) a) dx (.xd [("line", .int n)]) = upd H1 dx (.xd [("line", .int n)]) := by
      funext b
      by_cases hb : b = dx
      · rw [hb, upd_same, upd_same]
      · rw [upd_ne hb, upd_ne hb]
        by_cases hba : b = a
        · rw [hba, del_same, ha]
        · rw [del_ne hba, upd_ne hba, upd_ne hb, upd_ne hba]
    rw [e]
    exact h dx hd'
/-- LsX.for_enumL, its block told as one relation -/
theorem for_enumP {l : Addr} {xs : List V} {B' : (L2.St → Hp → Prop) → V → L2.St → Hp → Prop} {nx : L2.St → Hp → Prop} {τ : L2.St} {G : Hp} (Inv : Nat → L2.St → Hp → Prop) (start : Inv 0 τ G) (there : ∀ j σ H, j ≤ xs.length → Inv j σ H → SqL K H l xs)
    (turn : ∀ j x T σ H, xs[j]? = some x → Inv j σ H → H T = none → B' (Inv (j + 1)) (.ref T) σ (upd H T (.tup [.int (j : Nat), x]))) (behind : ∀ σ H, Inv xs.length σ H → nx σ H) :
    ∃ B : Nat → Nat → L2.St → Hp → Prop, (∃ r, B 0 r τ G) ∧ ∀ j r σ H, B j r σ H → ((L2.Ite K l).stop j H ∧ nx σ H) ∨ ((L2.Ite K l).go j H ∧ ∃ N : L2.St → Hp → Prop, (∀ σ' H', N σ' H' → ∃ r', r' < r ∧ B (j + 1) r' σ' H') ∧ ∀ v H', (L2.Ite K l).yld j H v H' → B' N v σ H') := by
  refine ⟨fun j r σ H => r = xs.length - j ∧ j ≤ xs.length ∧ Inv j σ H, ⟨_, rfl, Nat.zero_le _, start⟩, ?_⟩
  rintro j r σ H ⟨rfl, hj, inv⟩
  have hq := there j σ H hj inv
  rcases Nat.lt_or_ge j xs.length with lt | ge
  · refine .inr ⟨⟨xs, xs[j], hq, List.getElem?_eq_getElem lt⟩, Inv (j + 1), fun σ' H' inv' => ⟨xs.length - (j + 1), by omega, rfl, lt, inv'⟩, fun v H' y => ?_⟩
    obtain ⟨T, x, rfl, hT, rfl, hx⟩ := y
    exact turn j x T σ H (hx xs hq) inv hT
  · have e : j = xs.length := by omega
    subst e
    exact .inl ⟨⟨xs, hq, Nat.le_refl _⟩, behind σ H inv⟩
def spRBx (K : PySem.W.Frag) : Sp := fun vs H Q E => ∃ t : Str, vs = [.str t] ∧ t.length ≤ 10000 ∧ Asc t ∧ (∀ d, bunR t = .inr d → ∀ v H', Same H H' → Rp K H' v d → Q v H') ∧
  (∀ n, bunR t = .inl n → ∀ d H', Same H H' → H' d = none → E (.ref (He.ga K "BadForm")) (some d) (upd H' d (.xd [("line", .int (n : Nat))])))
theorem ok_read_bundle (hP : SupI.SupP P fileP) (T : Txt K mg w a) : FnOk P w K mg base (L2.CX P w) 11 (He.ga K "read_bundle") a.d_read_bundle ["text"] (spRBx K) := by
  have gh := ok_read_head (P := P) (w := w) (base := base) T
  have ge := ok_read_entry (P := P) (w := w) (base := base) T
  obtain ⟨fdB, bF, bH, bB⟩ := (ok_BF (P := P) (w := w) (base := base) hP T T.l_BadForm).ex
  refine T.F_read_bundle.ok (CX := L2.CX P w) sc_read_bundle (fun vs H Q E h => ?_) (fun cdv A outer s H vs Q E hr h => ?_)
  · obtain ⟨d, rfl, _⟩ := h
    rfl
  · obtain ⟨t, rfl, hl, asc, q, qe⟩ := h
    refine ⟨_, (pss_cons (ps_set (i := 1) sc_read_bundle.nd rfl (Or.inl rfl) (pe_split (pv 0) pe_str))
      (pss_cons (ps_set (i := 2) sc_read_bundle.nd rfl (Or.inl rfl) (pe_bm0 PySem.F.plainAttrs_list PySem.F.slot_list_pop PySem.F.type_list_pop mt_pop (pv 1)))
      (pss_cons (ps_set (i := 3) sc_read_bundle.nd rfl (Or.inl rfl) pe_non)
      (pss_cons (ps_set (i := 4) sc_read_bundle.nd rfl (Or.inl rfl) (pe_lst pa_nil))
      (pss_cons (ps_for (passes_of rfl) rfl (pi_enum (by rfl) T.g_enumerate (pa_cons (pv 1) pa_nil)) (pg_tup (by rfl) (pgs_cons (pg_name (i := 5) sc_read_bundle.nd rfl (Or.inl rfl)) (pgs_cons (pg_name (i := 6) sc_read_bundle.nd rfl (Or.inl rfl)) pgs_nil)))
      (pss_one (L2H.ps_try_onlyX rfl rfl ⟨rfl, by decide, .inl T.g_NotAllowed⟩ (fun hd => L2H.passesAt_of rfl hd) (takes_of rfl rfl rfl rfl) (fun W pn xe tk _ _ => (pss_one (ps_if (pt_cmpR op_isN (pv 3) pe_non (nomark _)) (pss_one (ps_set (i := 3) sc_read_bundle.nd rfl (Or.inl rfl) (pe_callS gh (hr.mono (by omega)) (by rfl) T.g_read_head T.F_read_head.kp T.b_read_head (fun σ => L2N.passAt tk σ) (pa_cons (pv 6) pa_nil)))) (pss_one (ps_expr (LsX.pe_bmK (K := K) rfl (pe_bm PySem.F.plainAttrs_list PySem.F.slot_list_append PySem.F.type_list_append mt_append (pv 4) (pa_cons (pe_callS ge (hr.mono (by omega)) (by rfl) T.g_read_entry T.F_read_entry.kp T.b_read_entry (fun σ => L2N.passAt tk σ) (pa_cons (pv 6) (pa_cons (pe_slice (r := rSlL K) sl_list (pv 4) (po_some (pe_un un_neg pe_int)) po_none) pa_nil))) pa_nil))))))))
      (fun a oe cls d pn _ _ tkh hot => (pss_one (L2H.ps_raiseHN hot tkh (L2H.pmk5_oexH T.S_BadForm.oex T.S_BadForm.init T.S_BadForm.fn bH (L2H.roomH_mark (hr.mono (by omega)) _) hot bB pass0 (by rfl) T.g_BadForm (pa_cons (pe_op op_add (pv 5) pe_int) pa_nil))))))))
      (pss_cons (ps_if (PW.pt (pw_or (pt_cmpR op_isN (pv 3) pe_non (nomark _)) (pw_or1 (pt_cmpR op_ne (pv 2) pe_str (nomark _))))) (pss_one (ps_raise rfl (takes_of rfl rfl rfl rfl) (pmk_oex T.S_BadForm.oex T.S_BadForm.init T.S_BadForm.fn bF (hr.mono (by omega)) bB .nil pass0 (by rfl) T.g_BadForm (pa_cons (pe_op op_add (pe_callB call_len_seq (by rfl) T.g_len boot_len (pa_cons (pv 1) pa_nil)) pe_int) pa_nil)))) pss_nil)
      (pss_cons (ps_asg (pv 3) (pg_tup (by rfl) (pgs_cons (pg_name (i := 7) sc_read_bundle.nd rfl (Or.inl rfl)) (pgs_cons (pg_name (i := 8) sc_read_bundle.nd rfl (Or.inl rfl)) (pgs_cons (pg_name (i := 9) sc_read_bundle.nd rfl (Or.inl rfl)) (pgs_cons (pg_name (i := 10) sc_read_bundle.nd rfl (Or.inl rfl)) (pgs_cons (pg_name (i := 11) sc_read_bundle.nd rfl (Or.inl rfl)) pgs_nil)))))))
      (pss_one (ps_ret (pe_tup (pa_cons (pv 7) (pa_cons (pv 8) (pa_cons (pv 9) (pa_cons (pe_callTy call_tuple_of (by rfl) T.g_tuple boot_tuple (pa_cons (pv 4) pa_nil)) (pa_cons (pv 11) pa_nil))))))))))))))), ?_⟩
    rw [show L2.start N_read_bundle [.str t] = [some (.str t), none, none, none, none, none, none, none, none, none, none, none] from rfl]
    obtain ⟨f1, f2, f3⟩ := split_facts (t := t) (y := "\n") (by decide +kernel) (by decide +kernel)
    have fa := split_asc (t := t) (y := "\n") (by decide +kernel) (by decide +kernel) asc
    obtain ⟨L, u, eP⟩ : ∃ L u, Txt.split t "\n" = L ++ [u] := ⟨_, _, (List.dropLast_concat_getLast f1).symm⟩
    have eB : bunR t = linR L u := by
      unfold bunR
      rw [eP, List.dropLast_concat]
      congr 1
      simp
    rw [eB] at q qe
    rw [eP] at f2 f3 fa
    have lL : L.length ≤ t.length := by
      rw [List.length_append, List.length_singleton] at f2
      omega
    have xL : ∀ x ∈ L, x.length ≤ 10000 ∧ Asc x := fun x hx => ⟨Nat.le_trans (f3 x (List.mem_append_left _ hx)) hl, fa x (List.mem_append_left _ hx)⟩
    clear f2 f3 fa f1
    refine ⟨_, rfl, ⟨_, rfl⟩, _, _, rfl, rfl, rfl, Cm.small (by omega), fun pl npl => ?_⟩
    rw [eP]
    have s1 := Cm.same_new (o := .lst ((L ++ [u]).map V.str)) npl
    have hpl : (L2.upd H pl (.lst ((L ++ [u]).map V.str))) pl = some (.lst ((L ++ [u]).map V.str)) := upd_same
    generalize L2.upd H pl _ = H1 at *
    simp only [gName, List.set_cons_succ, List.set_cons_zero]
    refine ⟨_, rfl, .inl ⟨rfl, _, SqL.of hpl⟩, pl, _, .str u, rfl, rfl, hpl, ?_, ?_⟩
    · rw [List.length_map, List.length_append]
      show ((L ++ [u]).map V.str)[L.length + 1 - 1]? = _
      rw [List.getElem?_map, Nat.add_sub_cancel, List.getElem?_append_right (Nat.le_refl _), Nat.sub_self]
      rfl
    have sH : Same H (L2.upd H1 pl (.lst ((L ++ [u]).map V.str).dropLast)) := Cm.same_mut s1 npl
    have hp2 : (L2.upd H1 pl (.lst ((L ++ [u]).map V.str).dropLast)) pl = some (.lst (L.map V.str)) := by
      rw [upd_same, List.map_append]
      exact congrArg (fun x => some (HO.lst x)) (List.dropLast_concat ..)
    generalize L2.upd H1 pl (.lst ((L ++ [u]).map V.str).dropLast) = H2 at *
    simp only [gName, List.set_cons_succ, List.set_cons_zero]
    refine ⟨Nat.zero_le _, fun el nel => ?_⟩
    have s3 := Cm.same_new (o := .lst []) nel
    have hel : (L2.upd H2 el (.lst [])) el = some (.lst []) := upd_same
    generalize L2.upd H2 el (.lst []) = H3 at *
    simp only [gName, List.set_cons_succ, List.set_cons_zero]
    have s23 := s3
    refine ⟨_, rfl, pl, _, rfl, SqL.of (s3 _ _ hp2), for_enumP (K := K) (l := pl) (xs := L.map V.str) (fun i σ G => ∃ (x5 x6 : Option V) (hv : V) (us : List V), σ = [some (.str t), some (.ref pl), some (.str u), some hv, some (.ref el), x5, x6, none, none, none, none, none] ∧ Same H2 G ∧ G el = some (.lst us) ∧
        ((i = 0 ∧ hv = .non ∧ us = []) ∨ ∃ (l : Str) (r : List Str) (h : PyData) (es : List PyData), L = l :: r ∧ i ≠ 0 ∧ headR (Txt.split l " ") = some h ∧ Rp K G hv h ∧ Rps K G us es ∧ es.length + 1 = i ∧ (∀ e ∈ es, entD e = true) ∧ entsR [] r = preE es es.length (entsR (lastL es) (r.drop es.length))))
      ⟨_, _, _, [], rfl, s3, hel, .inl ⟨rfl, rfl, rfl⟩⟩ (fun i σ G _ ⟨_, _, _, _, _, sG, _⟩ => SqL.of (sG _ _ hp2)) (fun i y Tq σ G hy ⟨x5, x6, hv', us, e, sG, hel, inv⟩ nT => ?_) fun σ G ⟨x5, x6, hv', us, e, sG, hel, inv⟩ => ?_⟩
    · subst e
      have st := Cm.same_new (o := .tup [.int (i : Nat), y]) nT
      refine ⟨Tq, _, rfl, Cm.sqt_new, rfl, _, _, rfl, _, _, rfl, rfl, ?_⟩
      simp only [gName, List.set_cons_succ, List.set_cons_zero]
      generalize L2.upd G Tq _ = G1 at *
      have sG1 := sG.trans st
      have hel1 := st _ _ hel
      rw [List.getElem?_map] at hy
      obtain ⟨x, hx, rfl⟩ := Option.map_eq_some_iff.mp hy
      have hlt := (List.getElem?_eq_some_iff.mp hx).1
      obtain ⟨xl, xa⟩ := xL x (List.mem_of_getElem? hx)
      refine ⟨_, rfl, rfl, _, rfl, ?_⟩
      rcases inv with ⟨rfl, rfl, rfl⟩ | ⟨l, r, h, es, rfl, i0, hh, rh, ru, le, hes, eq⟩
      · refine Cm.itD (fun _ => ?_) fun z => absurd rfl z
        obtain ⟨r, rfl⟩ : ∃ r, L = x :: r := by
          cases L with
          | nil => cases hx
          | cons z r =>
            cases hx
            exact ⟨r, rfl⟩
        refine ⟨_, rfl, x, rfl, xl, xa, fun d hd v G2 s2 rv => ?_, fun no G2 s2 => ⟨true, T.e1_, fun _ b nb => ?_, fun z => nomatch z⟩⟩
        · simp only [gName, List.set_cons_succ, List.set_cons_zero]
          exact ⟨_, _, v, [], rfl, sG1.trans s2, s2 _ _ hel1, .inr ⟨x, r, d, [], rfl, by decide, hd, rv, .nil, rfl, (fun _ z => nomatch z), by
            show _ = preE [] 0 (entsR [] r)
            cases entsR [] r <;> rfl⟩⟩
        · refine ⟨_, rfl, _, _, rfl, rfl, mk_BF (n := 1) (by decide) (by decide) fun d' hd' => ?_⟩
          exact qe 1 (by rw [linR_cons, no]) d' G2 ((sH.trans sG1).trans s2) hd'
      · refine Cm.itD (fun z => ?_) fun _ => ?_
        · subst z
          obtain ⟨_, _, _, _, rfl, _⟩ := headR_ok hh
          cases rh
        obtain ⟨k, rfl⟩ : ∃ k, i = k + 1 := ⟨i - 1, by omega⟩
        have ek : es.length = k := by omega
        subst ek
        have hxr : r[es.length]? = some x := hx
        have hlr : es.length < r.length := (List.getElem?_eq_some_iff.mp hxr).1
        have edrop : r.drop es.length = x :: r.drop (es.length + 1) := by
          rw [List.drop_eq_getElem_cons hlr, (List.getElem?_eq_some_iff.mp hxr).2]
        rw [edrop] at eq
        have ru1 := ru.keep (Same.tups st)
        have lu := ru.len
        have lr : r.length + 1 ≤ t.length := lL
        refine ⟨_, rfl, .inl ⟨rfl, _, SqL.of hel1⟩, _, rfl, _, rfl, _, rfl, _, rfl, ?_⟩
        refine ⟨_, _, rfl, SqL.of hel1, fun p np => ?_⟩
        rw [cut_last]
        have sp := Cm.same_new (o := .lst (us.drop (us.length - 1))) np
        have hp : (L2.upd G1 p (.lst (us.drop (us.length - 1)))) p = some (.lst (us.drop (us.length - 1))) := upd_same
        generalize L2.upd G1 p _ = G2 at *
        have rl : Rps K G2 (us.drop (us.length - 1)) (lastL es) := by
          rw [lu]
          exact (Rps.drop ru1 _).keep (Same.tups sp)
        have bad : (∀ d, entR (Txt.split x " ") = some d → abvAll d (lastL es) = false) → linR (l :: r) u = .inl (es.length + 2) := fun no => by
          have e1 : entsR (lastL es) (x :: r.drop (es.length + 1)) = .inl 0 := by
            show (match entR (Txt.split x " ") with | some d => _ | none => _) = _
            cases hd : entR (Txt.split x " ") with
            | none => rfl
            | some d => exact if_neg (by rw [no d hd]; decide)
          rw [linR_cons, hh, eq, e1]
          show Sum.inl (0 + es.length + 2) = _
          rw [Nat.zero_add]
        refine ⟨x, p, _, lastL es, rfl, xl, xa, hp, rl, by unfold lastL; rw [List.length_drop]; omega, fun b hb => hes b (List.mem_of_mem_drop hb), fun d hd hab v G3 s3' rv => ?_, fun no G3 s3' => ⟨true, T.e1_, fun _ b nb => ?_, fun z => nomatch z⟩⟩
        · have s23 := sp.trans s3'
          have hel3 := s23 _ _ hel1
          refine ⟨el, us, v, rfl, rfl, hel3, Cm.smallL (by omega), ?_⟩
          have kn : Keep el G3 (upd G3 el (.lst (us ++ [v]))) := fun b o hb n => by rw [upd_ne n]; exact hb
          have tp := Keep.tups kn hel3
          refine ⟨_, _, hv', us ++ [v], rfl, Cm.same_mut (sG1.trans s23) nel, upd_same, .inr ⟨l, r, h, es ++ [d], rfl, by omega, hh, (rh.keep (Same.tups (st.trans s23))).keep tp, ((ru1.keep (Same.tups s23)).keep tp).app (.cons (rv.keep tp) .nil), by rw [List.length_append]; rfl, fun e he => ?_, ?_⟩⟩
          · rcases List.mem_append.mp he with he | he
            · exact hes e he
            · rw [List.mem_singleton.mp he]
              exact entR_ok hd
          · rw [eq, lastL_snoc, List.length_append, List.length_singleton]
            have e1 : entsR (lastL es) (x :: r.drop (es.length + 1)) = (match entsR [d] (r.drop (es.length + 1)) with | .inl k => .inl (k + 1) | .inr ds => .inr (d :: ds)) := by
              show (match entR (Txt.split x " ") with | some d => _ | none => _) = _
              rw [hd]
              exact if_pos hab
            rw [e1]
            cases entsR [d] (r.drop (es.length + 1)) with
            | inl k =>
              show Sum.inl (k + 1 + es.length) = Sum.inl (k + (es.length + 1))
              rw [Nat.add_assoc, Nat.add_comm 1]
            | inr ds =>
              show Sum.inr (es ++ d :: ds) = Sum.inr (es ++ [d] ++ ds)
              rw [List.append_assoc]
              rfl
        · refine ⟨_, rfl, _, _, rfl, rfl, mk_BF (n := (es.length + 1 : Nat) + 1) (by omega) (by omega) fun d' hd' => ?_⟩
          exact qe (es.length + 2) (bad no) d' G3 (((sH.trans sG1).trans sp).trans s3') hd'
    · subst e
      rw [List.length_map] at inv
      rcases inv with ⟨z, rfl, rfl⟩ | ⟨l, r, h, es, rfl, i0, hh, rh, ru, le, hes, eq⟩
      · have eL : L = [] := List.length_eq_zero_iff.mp z
        subst eL
        refine ⟨_, rfl, rfl, _, rfl, Cm.itD (fun _ => ?_) fun z => absurd rfl z⟩
        refine ⟨_, rfl, pl, _, rfl, .inl (SqL.of (sG _ _ hp2)), _, _, rfl, rfl, mk_BF (n := 1) (by decide) (by decide) fun d' hd' => ?_⟩
        exact qe 1 rfl d' G (sH.trans sG) hd'
      · have el' : es.length = r.length := by
          rw [List.length_cons] at le
          omega
        rw [el', List.drop_length] at eq
        have eE : entsR [] r = .inr es := by
          rw [eq]
          show Sum.inr (es ++ []) = _
          rw [List.append_nil]
        have eLin : linR (l :: r) u = if u = ("" : Str) then .inr (withE h es) else .inl (r.length + 2) := by
          rw [linR_cons, hh, eE]
        obtain ⟨od, m, vs, c, rfl, hb⟩ := headR_ok hh
        refine ⟨_, rfl, rfl, _, rfl, Cm.itD (fun z => ?_) fun _ => ⟨_, rfl, rfl, _, rfl, Cm.itNS (fun z => ?_) fun z => ?_⟩⟩
        · subst z
          cases rh
        · refine ⟨_, rfl, pl, _, rfl, .inl (SqL.of (sG _ _ hp2)), _, _, rfl, rfl, ?_⟩
          rw [List.length_map]
          refine mk_BF (n := (r.length + 1 : Nat) + 1) (by omega) (by have : r.length + 1 ≤ t.length := lL; omega) fun d' hd' => ?_
          exact qe (r.length + 2) (eLin.trans (if_neg z)) d' G (sH.trans sG) hd'
        · have q := q _ (eLin.trans (if_pos z))
          obtain ⟨pb, vs', rfl, hpb, rs⟩ := rh.tup_inv
          obtain ⟨w1, r1, rfl, rnm, rs⟩ := rs.cons_inv
          obtain ⟨w2, r2, rfl, rmk, rs⟩ := rs.cons_inv
          obtain ⟨w3, r3, rfl, rfs, rs⟩ := rs.cons_inv
          obtain ⟨w4, r4, rfl, r0, rs⟩ := rs.cons_inv
          obtain ⟨w5, r5, rfl, rct, rs⟩ := rs.cons_inv
          obtain rfl := rs.nil_inv
          refine ⟨_, rfl, pb, _, rfl, hpb, rfl, _, _, rfl, _, _, rfl, _, _, rfl, _, _, rfl, _, _, rfl, rfl, ?_⟩
          simp only [gName, List.set_cons_succ, List.set_cons_zero]
          refine ⟨_, rfl, _, rfl, _, rfl, _, rfl, el, us, rfl, .inl ⟨SqL.of hel, fun t2 nt2 => ?_⟩⟩
          have st := Cm.same_new (o := .tup us) nt2
          have rt : Rp K _ (.ref t2) (.tuple es) := Rp.made (K := K) nt2 ru
          generalize L2.upd G t2 _ = G1 at *
          refine ⟨_, rfl, Cm.small (by show 5 ≤ 100000; decide), fun t3 nt3 => ?_⟩
          exact q _ _ (((sH.trans sG).trans st).trans (Cm.same_new nt3)) (Rp.made nt3 (.cons (rnm.keep (Same.tups st)) (.cons (rmk.keep (Same.tups st)) (.cons (rfs.keep (Same.tups st)) (.cons rt (.cons (rct.keep (Same.tups st)) .nil))))))
/-! ### bundles that were read: how long their texts are -/
def ProcG (d : PyData) : Prop := ∃ ns : List Int, d = .tuple (ns.map PyData.int) ∧ (ns.length ≤ 10000 ∧ (pT d).length ≤ 10000) ∧ ∀ n ∈ ns, 0 ≤ n ∧ n ≤ 1000000000000
def ObjG (d : PyData) : Prop := ∃ (pd : PyData) (j : Int), d = .tuple [pd, .int j] ∧ ProcG pd ∧ 0 ≤ j ∧ j ≤ 1000000000000
def ValG (d : PyData) : Prop := d = .tuple [.str "nil"] ∨ (∃ o, ObjG o ∧ d = .tuple [.str "ref", o]) ∨ ∃ i : Int, d = .int i ∧ -1000000000000 ≤ i ∧ i ≤ 1000000000000
def FrG (d : PyData) : Prop := ∃ (op : Str) (i : Int) (ls st : List PyData), d = .tuple [.str op, .int i, .tuple ls, .tuple st] ∧ op.length ≤ 12 ∧ 0 ≤ i ∧ i ≤ 1000000000000 ∧ (ls.length ≤ 10000 ∧ (vsT ls).length ≤ 10000) ∧ (st.length ≤ 10000 ∧ (vsT st).length ≤ 10000) ∧ (∀ x ∈ ls, ValG x) ∧ ∀ x ∈ st, ValG x
def TokG (tok : PyData) (wd : Str) : Prop := (∃ x y : Int, tok = .tuple [.int x, .int y] ∧ 0 ≤ x ∧ x ≤ 1000000000000 ∧ 0 ≤ y ∧ y ≤ 1000000000000) ∨ (tok = .none ∧ wd = "")
def EntG (d : PyData) : Prop := ∃ (pd : PyData) (dep : Int) (fr back tok : PyData) (wd : Str), d = .tuple [pd, .int dep, fr, back, tok, .str wd] ∧ ProcG pd ∧ 0 ≤ dep ∧ dep ≤ 1000000000000 ∧ FrG fr ∧ (dep = 0 → back = .tuple []) ∧ (dep ≠ 0 → ObjG back) ∧ TokG tok wd ∧ wd ∈ wordsF
def BundG (d : PyData) : Prop := ∃ (o : PyData) (mk : Str) (vs es : List PyData) (c : Int), d = .tuple [o, .str mk, .tuple vs, .tuple es, .int c] ∧ ObjG o ∧ mk.length ≤ 12 ∧ (vs.length ≤ 10000 ∧ (vsT vs).length ≤ 10000) ∧ (∀ x ∈ vs, ValG x) ∧ (es.length ≤ 10000 ∧ (bT d).length ≤ 10000) ∧ (∀ x ∈ es, EntG x) ∧ 0 ≤ c ∧ c ≤ 1000000000000
theorem len_pTg {d : PyData} (h : ProcG d) : (pT d).length ≤ 10000 := by
  obtain ⟨ns, _, l, _⟩ := h
  exact l.2
theorem len_oTg {d : PyData} (h : ObjG d) : (oT d).length ≤ 10020 := by
  obtain ⟨p, k, rfl, hp, h0, h1⟩ := h
  rw [oT_eq]
  exact Nat.le_trans (j1 (j1 (len_pTg hp) (jL (n := 1) rfl)) (len_pos h0 (by omega))) (by decide)
theorem len_vTg {d : PyData} (h : ValG d) : (vT d).length ≤ 10020 := by
  rcases h with rfl | ⟨o, ho, rfl⟩ | ⟨i, rfl, h0, h1⟩
  · exact jL rfl
  · exact len_oTg ho
  · exact Nat.le_trans (len_num h0 h1) (by decide)
theorem len_tokTg {t : PyData} {w : Str} (h : TokG t w) : (tokT t).length ≤ 30 := by
  rcases h with ⟨x, y, rfl, x0, x1, y0, y1⟩ | ⟨rfl, _⟩
  · exact Nat.le_trans (j1 (j1 (len_pos x0 (by omega)) (jL (n := 1) rfl)) (len_pos y0 (by omega))) (by decide)
  · exact jL rfl
theorem len_backTg {b : PyData} (h : b = .tuple [] ∨ ObjG b) : (backT b).length ≤ 10020 := by
  rcases h with rfl | h
  · exact jL rfl
  · have e : backT b = oT b := by
      obtain ⟨p, k, rfl, _⟩ := h
      rfl
    rw [e]
    exact len_oTg h
theorem cat_sum : ∀ xs : List Str, (cat xs).length = (xs.map (·.length)).sum
  | [] => by rw [cat_nil]; rfl
  | x :: r => by rw [cat_cons, app_len, List.map_cons, List.sum_cons, cat_sum r]
theorem sum_cat {xs : List Str} (h : (cat xs).length ≤ 10000) : (xs.map (·.length)).sum + xs.length * (Str.ofString "").length ≤ 16777216 := by
  have e : (Str.ofString "").length = 0 := rfl
  rw [← cat_sum, e, Nat.mul_zero]
  omega
theorem fn_obg {d : PyData} (h : ObjG d) : Fn 2 d := by
  obtain ⟨pd, j, rfl, hp, _⟩ := h
  obtain ⟨ns, rfl, l, _⟩ := hp
  exact fn_two (fn_ints ns (by omega)) fn_int
theorem fn_valg {d : PyData} (h : ValG d) : Fn 3 d := by
  rcases h with rfl | ⟨o, ho, rfl⟩ | ⟨i, rfl, _⟩
  · exact fn_tup (n := 2) (fun x hx => by rw [List.mem_singleton.mp hx]; exact fn_word (by simp)) (by show 1 ≤ 20000; decide)
  · exact fn_two (fn_word (by simp)) (fn_obg ho)
  · exact fn_int
theorem len_word6 : ∀ x ∈ wordsF, x.length ≤ 6 := by decide +kernel
def spPTg (K : PySem.W.Frag) : Sp := fun vs H Q _ => ∃ (v : V) (d : PyData), vs = [v] ∧ Rp K H v d ∧ ProcG d ∧ ∀ H', Same H H' → Q (.str (pT d)) H'
theorem ok_process_text (T : Txt K mg w a) : FnOk P w K mg base CX0 1 (He.ga K "process_text") a.d_process_text ["process"] (spPTg K) := by
  refine T.F_process_text.ok sc_process_text (fun vs H Q E h => ?_) (fun cdv A outer s H vs Q E hr h => ?_)
  · obtain ⟨v, d, rfl, _⟩ := h
    rfl
  · obtain ⟨v, d, rfl, r, hp, q⟩ := h
    refine ⟨_, PSs.nox (pss_one (ps_ret (pe_join pe_str (pe_op op_cat (pe_lst (pa_cons pe_str pa_nil)) (pe_lc (own := [("number", 1)]) (g := gName 1) (tt := tYes)  (by rfl) sc_process_text.nd (pi_tup (pv 0)) (blkOk_by (own := [("number", 1)]) (N := N_process_text) (sc := defScope s_process_text) (by decide +kernel)) (fun _ _ _ _ _ => pg_name (i := 1) sc_process_text.nd rfl (Or.inl rfl)) (fun _ _ _ _ _ => pts_nil) (fun _ _ _ _ _ => (LsX.pe_joinedJ (.cons pe_str (.cons (pe_fmt (pv 1)) .nil))))))))), ?_⟩
    rw [show L2.start N_process_text [v] = [some v, none] from rfl]
    obtain ⟨ns, rfl, ln, hn⟩ := hp
    obtain ⟨pa, xs, rfl, hpa, rs⟩ := r.tup_inv
    refine ⟨⟨_, rfl⟩, Cm.small (by show 1 ≤ 100000; decide), fun l1 nl1 => ?_⟩
    have s1 := Cm.same_new (o := .lst [.str "p"]) nl1
    have h1 : (L2.upd H l1 (.lst [.str "p"])) l1 = some (.lst [.str "p"]) := upd_same
    generalize L2.upd H l1 (.lst [.str "p"]) = H1 at *
    have hpa1 := Cm.sameT s1 hpa
    refine ⟨_, rfl, pa, rfl, ⟨_, hpa1⟩, fun D nD => ?_⟩
    refine lc_tup (K := K) (a := pa) (xs := xs) (fun j Hj => Same H1 Hj ∧ ∃ bs : List Str, Hj D = some (.lst (bs.map V.str)) ∧ bs = (ns.take j).map (fun n => "." ++ num n) ∧ bs.length ≤ j) ⟨Cm.same_new nD, [], upd_same, rfl, Nat.le_refl _⟩ (fun j Hj _ b => Cm.sameT b.1 hpa1) (fun j y Hj hy b => ?_) fun Hj b => ?_
    · obtain ⟨sJ, bs, hD, eb, lb⟩ := b
      refine ⟨rfl, ?_⟩
      have hj : j < ns.length := by
        have := (List.getElem?_eq_some_iff.mp hy).1
        have := rs.len
        rw [List.length_map] at this
        omega
      obtain ⟨y', hy', ry⟩ := rs.at_ (i := j) (d := .int ns[j]) (by rw [List.getElem?_map, List.getElem?_eq_getElem hj]; rfl)
      rw [hy] at hy'
      cases hy'
      obtain rfl := ry.int_inv
      have hb := hn _ (List.getElem_mem hj)
      have l1 := len_pos hb.1 (by omega)
      refine ⟨_, rfl, sz (j1 jE (jL (n := 1) rfl)) rfl, _, rfl, .inr ⟨_, rfl, log_small (by omega) (by omega), _, rfl, sz (j1 (j1 jE (jL (n := 1) rfl)) l1) rfl, ?_⟩⟩
      refine ⟨_, hD, Cm.smallL (by rw [List.length_map]; omega), Cm.same_mut sJ nD, bs ++ ["." ++ num ns[j]], ?_, ?_, by rw [List.length_append]; simp only [List.length_cons, List.length_nil]; omega⟩
      · rw [upd_same, List.map_append, empty_app]
        rfl
      · rw [List.take_succ, List.getElem?_eq_getElem hj, List.map_append, eb]
        rfl
    · obtain ⟨sJ, bs, hD, eb, lb⟩ := b
      have hl := rs.len
      rw [List.length_map] at hl
      rw [hl, List.take_length] at eb
      refine ⟨l1, D, _, _, rfl, rfl, sJ _ _ h1, hD, Cm.small (by rw [List.length_map]; simp only [List.length_cons, List.length_nil]; omega), fun l3 n3 => ?_⟩
      refine ⟨_, l3, "p" :: bs, rfl, rfl, .inl (SqL.of upd_same), sum_cat (by rw [eb, ← pT_eq]; exact ln.2), ?_⟩
      rw [e0, eb]
      show Q (.str (cat ("p" :: ns.map fun n => "." ++ num n))) _
      rw [← pT_eq]
      exact q _ ((s1.trans sJ).trans (Cm.same_new n3))
def spOTg (K : PySem.W.Frag) : Sp := fun vs H Q _ => ∃ (v : V) (d : PyData), vs = [v] ∧ Rp K H v d ∧ ObjG d ∧ ∀ H', Same H H' → Q (.str (oT d)) H'
theorem ok_object_text (T : Txt K mg w a) : FnOk P w K mg base CX0 2 (He.ga K "object_text") a.d_object_text ["name"] (spOTg K) := by
  refine T.F_object_text.ok sc_object_text (fun vs H Q E h => ?_) (fun cdv A outer s H vs Q E hr h => ?_)
  · obtain ⟨v, d, rfl, _⟩ := h
    rfl
  · obtain ⟨v, d, rfl, r, ho, q⟩ := h
    refine ⟨_, PSs.nox (pss_one (ps_ret (LsX.pe_joinedJ (.cons (pe_fmt (pe_call (ok_process_text T) (hr.mono (by omega)) (by rfl) T.g_process_text T.F_process_text.kp T.b_process_text .nil pass0 (pa_cons (pe_ix ix_tup (pv 0) pe_int (fun _ _ => rfl)) pa_nil))) (.cons pe_str (.cons (pe_fmt (pe_ix ix_tup (pv 0) pe_int (fun _ _ => rfl))) .nil)))))), ?_⟩
    rw [show L2.start N_object_text [v] = [some v] from rfl]
    obtain ⟨pd, k, rfl, hp, k0, k1⟩ := ho
    obtain ⟨pa, xs, rfl, hpa, rs⟩ := r.tup_inv
    obtain ⟨w1, r1, rfl, rp, rs⟩ := rs.cons_inv
    obtain ⟨w2, r2, rfl, rk, rs⟩ := rs.cons_inv
    obtain rfl := rs.nil_inv
    obtain rfl := rk.int_inv
    refine ⟨_, rfl, pa, _, 0, _, rfl, rfl, hpa, atI_nat (j := 0) rfl, w1, pd, rfl, rp, hp, fun H1 s1 => .inl ⟨_, rfl, sz (len_pTg hp) rfl, _, rfl, sz (j1 jE (len_pTg hp)) rfl, ?_⟩⟩
    refine ⟨_, rfl, sz (j1 (j1 jE (len_pTg hp)) (jL (n := 1) rfl)) rfl, _, rfl, pa, _, 1, _, rfl, rfl, Cm.sameT s1 hpa, atI_nat (j := 1) rfl, .inr ⟨_, rfl, log_small (by omega) (by omega), _, rfl, sz (j1 (j1 (j1 jE (len_pTg hp)) (jL (n := 1) rfl)) (len_pos k0 (by omega))) rfl, ?_⟩⟩
    rw [empty_app]
    exact q H1 s1
def isRefD : PyData → Bool
  | .int _ => false
  | _ => true
def spIsRg (K : PySem.W.Frag) : Sp := fun vs H Q _ => ∃ (v : V) (d : PyData), vs = [v] ∧ Rp K H v d ∧ ValG d ∧ d ≠ .tuple [.str "nil"] ∧ ∀ H', Same H H' → Q (.bl (isRefD d)) H'
theorem ok_is_reference (T : Txt K mg w a) : FnOk P w K mg base CX0 2 (He.ga K "is_reference") a.d_is_reference ["value"] (spIsRg K) := by
  refine T.F_is_reference.ok sc_is_reference (fun vs H Q E h => ?_) (fun cdv A outer s H vs Q E hr h => ?_)
  · obtain ⟨v, d, rfl, _⟩ := h
    rfl
  · obtain ⟨v, d, rfl, r, hv, hn, q⟩ := h
    refine ⟨_, PSs.nox (pss_one (ps_ret (pe_and (pe_not (pe_call (ok_is_integer T) (hr.mono (by omega)) (by rfl) T.g_is_integer T.F_is_integer.kp T.b_is_integer .nil pass0 (pa_cons (pv 0) pa_nil))) (pe_one (pe_cmpR op_eq (pe_ix ix_tup (pv 0) pe_int (fun _ _ => rfl)) pe_str (nomark _)))))), ?_⟩
    rw [show L2.start N_is_reference [v] = [some v] from rfl]
    have fv := (fn_valg hv).fit (by decide)
    refine ⟨_, rfl, v, d, rfl, r, fv, fun H1 s1 => ⟨_, rfl, _, rfl, ?_⟩⟩
    rcases hv with e | ⟨o, ho, rfl⟩ | ⟨i, rfl, h0, h1⟩
    · exact absurd e hn
    · refine Cm.itBn (fun e => ?_) fun e => (by cases e)
      obtain ⟨pa, xs, rfl, hpa, rs⟩ := r.tup_inv
      obtain ⟨w1, r1, rfl, rp, rs⟩ := rs.cons_inv
      obtain ⟨w2, r2, rfl, rk, rs⟩ := rs.cons_inv
      obtain rfl := rs.nil_inv
      obtain rfl := rp.str_inv
      exact ⟨_, rfl, pa, _, 0, _, rfl, rfl, Cm.sameT s1 hpa, atI_nat (j := 0) rfl, rfl, q H1 s1⟩
    · refine Cm.itBn (fun e => (by cases e)) fun e => q H1 s1
def spVTg (K : PySem.W.Frag) : Sp := fun vs H Q _ => ∃ (v : V) (d : PyData), vs = [v] ∧ Rp K H v d ∧ ValG d ∧ ∀ H', Same H H' → Q (.str (vT d)) H'
theorem ok_value_text (T : Txt K mg w a) : FnOk P w K mg base CX0 3 (He.ga K "value_text") a.d_value_text ["value"] (spVTg K) := by
  refine T.F_value_text.ok sc_value_text (fun vs H Q E h => ?_) (fun cdv A outer s H vs Q E hr h => ?_)
  · obtain ⟨v, d, rfl, _⟩ := h
    rfl
  · obtain ⟨v, d, rfl, r, hv, q⟩ := h
    refine ⟨_, PSs.nox (pss_cons (ps_if (pt_cmpR (op_eqD hr.units) (pv 0) (pe_glob (v := .ref (He.ga K "NIL")) (by rfl) T.g_NIL rfl) (nomark _)) (pss_one (ps_ret pe_str)) pss_nil)
      (pss_cons (ps_if (pt_val (pe_call (ok_is_reference T) (hr.mono (by omega)) (by rfl) T.g_is_reference T.F_is_reference.kp T.b_is_reference .nil pass0 (pa_cons (pv 0) pa_nil))) (pss_one (ps_ret (pe_call (ok_object_text T) (hr.mono (by omega)) (by rfl) T.g_object_text T.F_object_text.kp T.b_object_text .nil pass0 (pa_cons (pe_ix ix_tup (pv 0) pe_int (fun _ _ => rfl)) pa_nil)))) pss_nil)
      (pss_one (ps_ret (pe_callTy call_str_int (by rfl) T.g_str boot_str (pa_cons (pv 0) pa_nil)))))), ?_⟩
    rw [show L2.start N_value_text [v] = [some v] from rfl]
    have fv := (fn_valg hv).fit (by decide)
    have rn : Rp K H (.ref (He.ga K "NIL")) (.tuple [.str "nil"]) := .tup (T.k_NIL H) (.cons (.str _) .nil)
    have shn : SeqAt.shaped (.tuple [.str "nil"]) = true := by decide +kernel
    refine ⟨_, rfl, _, _, r.dp, rn.dp, fv.shaped, shn, _, rfl, ?_⟩
    have hv' := hv
    rcases hv with rfl | ⟨o, ho, rfl⟩ | ⟨i, rfl, h0, h1⟩
    · exact Cm.itB (fun _ => q H (Same.refl _)) fun e => absurd (Nst.eqv_self shn) (by rw [e]; decide)
    · refine Cm.itB (fun e => absurd e (by simp [PyData.eqv, PyData.eqvAll])) fun _ => ?_
      refine ⟨_, rfl, v, _, rfl, r, hv', (fun z => by cases z), fun H1 s1 => ⟨_, rfl, Cm.itB (fun _ => ?_) fun e => (by cases e)⟩⟩
      obtain ⟨pa, xs, rfl, hpa, rs⟩ := r.tup_inv
      obtain ⟨w1, r1, rfl, rp, rs⟩ := rs.cons_inv
      obtain ⟨w2, r2, rfl, ro, rs⟩ := rs.cons_inv
      obtain rfl := rs.nil_inv
      exact ⟨_, rfl, pa, _, 1, _, rfl, rfl, Cm.sameT s1 hpa, atI_nat (j := 1) rfl, w2, o, rfl, ro.keep (Same.tups s1), ho, fun H2 s2 => q H2 (s1.trans s2)⟩
    · refine Cm.itB (fun e => absurd e (by simp [PyData.eqv])) fun _ => ?_
      obtain rfl := r.int_inv
      refine ⟨_, rfl, _, _, rfl, r, hv', (fun z => by cases z), fun H1 s1 => ⟨_, rfl, Cm.itB (fun e => (by cases e)) fun _ => ?_⟩⟩
      exact ⟨_, rfl, i, rfl, log_small h0 h1, q H1 s1⟩
def spVsTg (K : PySem.W.Frag) : Sp := fun vs H Q _ => ∃ (v : V) (ds : List PyData), vs = [v] ∧ Rp K H v (.tuple ds) ∧ (∀ x ∈ ds, ValG x) ∧ (ds.length ≤ 10000 ∧ (vsT ds).length ≤ 10000) ∧ ∀ H', Same H H' → Q (.str (vsT ds)) H'
theorem ok_values_text (T : Txt K mg w a) : FnOk P w K mg base CX0 4 (He.ga K "_values_text") a.d_values_text ["values"] (spVsTg K) := by
  refine T.F_values_text.ok sc_values_text (fun vs H Q E h => ?_) (fun cdv A outer s H vs Q E hr h => ?_)
  · obtain ⟨v, d, rfl, _⟩ := h
    rfl
  · obtain ⟨v, ds, rfl, r, hv, l, q⟩ := h
    refine ⟨_, PSs.nox (pss_one (ps_ret (pe_join pe_str (pe_lc (own := [("value", 1)]) (g := gName 1) (tt := tYes)  (by rfl) sc_values_text.nd (pi_tup (pv 0)) (blkOk_by (own := [("value", 1)]) (N := N_values_text) (sc := defScope s_values_text) (by decide +kernel)) (fun _ _ _ _ _ => pg_name (i := 1) sc_values_text.nd rfl (Or.inl rfl)) (fun _ _ _ _ _ => pts_nil) (fun _ _ _ _ _ => (pe_op op_add_str pe_str (pe_call (ok_value_text T) (hr.mono (by omega)) (by rfl) T.g_value_text T.F_value_text.kp T.b_value_text .nil pass0 (pa_cons (pv 1) pa_nil)))))))), ?_⟩
    rw [show L2.start N_values_text [v] = [some v, none] from rfl]
    obtain ⟨pa, xs, rfl, hpa, rs⟩ := r.tup_inv
    have hlen := rs.len
    refine ⟨⟨_, rfl⟩, _, rfl, pa, rfl, ⟨_, hpa⟩, fun D nD => ?_⟩
    refine lc_tup (K := K) (a := pa) (xs := xs) (fun j Hj => Same H Hj ∧ ∃ bs : List Str, Hj D = some (.lst (bs.map V.str)) ∧ bs = (ds.take j).map (fun d => " " ++ vT d) ∧ bs.length ≤ j) ⟨Cm.same_new nD, [], upd_same, rfl, Nat.le_refl _⟩ (fun j Hj _ b => Cm.sameT b.1 hpa) (fun j y Hj hy b => ?_) fun Hj b => ?_
    · obtain ⟨sJ, bs, hD, eb, lb⟩ := b
      refine ⟨rfl, ?_⟩
      have hj : j < ds.length := by
        rw [← hlen]
        exact (List.getElem?_eq_some_iff.mp hy).1
      obtain ⟨y', hy', ry⟩ := rs.at_ (i := j) (d := ds[j]) (List.getElem?_eq_getElem hj)
      rw [hy] at hy'
      cases hy'
      have hvj := hv _ (List.getElem_mem hj)
      refine ⟨_, rfl, y, ds[j], rfl, ry.keep (Same.tups sJ), hvj, fun H2 s2 => ?_⟩
      refine ⟨_, _, rfl, rfl, ?_⟩
      refine ⟨(by rw [← app_len]; exact sz (j1 (jL (n := 1) rfl) (len_vTg hvj)) rfl), _, s2 _ _ hD, Cm.smallL (by rw [List.length_map]; omega), Cm.same_mut (sJ.trans s2) nD, bs ++ [" " ++ vT ds[j]], ?_, ?_, by rw [List.length_append]; simp only [List.length_cons, List.length_nil]; omega⟩
      · rw [upd_same, List.map_append]
        rfl
      · rw [List.take_succ, List.getElem?_eq_getElem hj, List.map_append, eb]
        rfl
    · obtain ⟨sJ, bs, hD, eb, lb⟩ := b
      rw [hlen, List.take_length] at eb
      refine ⟨_, D, bs, rfl, rfl, .inl (SqL.of hD), sum_cat (by rw [eb]; exact l.2), ?_⟩
      rw [e0, eb]
      exact q _ sJ
def spETg (K : PySem.W.Frag) : Sp := fun vs H Q _ => ∃ (v : V) (d : PyData), vs = [v] ∧ Rp K H v d ∧ EntG d ∧ ∀ H', Same H H' → Q (.str (Txt.join " " (entW d) ++ "\n")) H'
theorem ok_entry_text (T : Txt K mg w a) : FnOk P w K mg base CX0 5 (He.ga K "_entry_text") a.d_entry_text ["entry"] (spETg K) := by
  refine T.F_entry_text.ok sc_entry_text (fun vs H Q E h => ?_) (fun cdv A outer s H vs Q E hr h => ?_)
  · obtain ⟨v, d, rfl, _⟩ := h
    rfl
  · obtain ⟨v, d, rfl, r, hd, q⟩ := h
    refine ⟨_, PSs.nox (pss_cons (ps_asg (pv 0) (pg_tup (by rfl) (pgs_cons (pg_name (i := 1) sc_entry_text.nd rfl (Or.inl rfl)) (pgs_cons (pg_name (i := 2) sc_entry_text.nd rfl (Or.inl rfl)) (pgs_cons (pg_name (i := 3) sc_entry_text.nd rfl (Or.inl rfl)) (pgs_cons (pg_name (i := 4) sc_entry_text.nd rfl (Or.inl rfl)) (pgs_cons (pg_name (i := 5) sc_entry_text.nd rfl (Or.inl rfl)) (pgs_cons (pg_name (i := 6) sc_entry_text.nd rfl (Or.inl rfl)) pgs_nil))))))))
      (pss_cons (ps_asg (pv 3) (pg_tup (by rfl) (pgs_cons (pg_name (i := 7) sc_entry_text.nd rfl (Or.inl rfl)) (pgs_cons (pg_name (i := 8) sc_entry_text.nd rfl (Or.inl rfl)) (pgs_cons (pg_name (i := 9) sc_entry_text.nd rfl (Or.inl rfl)) (pgs_cons (pg_name (i := 10) sc_entry_text.nd rfl (Or.inl rfl)) pgs_nil))))))
      (pss_cons (ps_set (i := 11) sc_entry_text.nd rfl (Or.inl rfl) (LsX.pe_cutV (pe_ifExp (pt_cmpR op_eq (pv 2) pe_int (nomark _)) pe_str (pe_call (ok_object_text T) (hr.mono (by omega)) (by rfl) T.g_object_text T.F_object_text.kp T.b_object_text .nil pass0 (pa_cons (pv 4) pa_nil)))))
      (pss_cons (ps_set (i := 12) sc_entry_text.nd rfl (Or.inl rfl) (LsX.pe_cutV (pe_ifExp (pt_cmpR op_isN (pv 5) pe_non (nomark _)) pe_str (LsX.pe_joinedJ (.cons (pe_fmt (pe_ix ix_tup (pv 5) pe_int (fun _ _ => rfl))) (.cons pe_str (.cons (pe_fmt (pe_ix ix_tup (pv 5) pe_int (fun _ _ => rfl))) .nil)))))))
      (pss_cons (ps_set (i := 13) sc_entry_text.nd rfl (Or.inl rfl) (LsX.pe_cutV (pe_ifExp (pt_cmpR op_eq (pv 6) pe_str (nomark _)) pe_str (pv 6))))
      (pss_one (ps_ret (LsX.pe_joinedJ (.cons pe_str (.cons (pe_fmt (pe_call (ok_process_text T) (hr.mono (by omega)) (by rfl) T.g_process_text T.F_process_text.kp T.b_process_text .nil pass0 (pa_cons (pv 1) pa_nil))) (.cons pe_str (.cons (pe_fmt (pv 2)) (.cons pe_str (.cons (pe_fmt (pv 7)) (.cons pe_str (.cons (pe_fmt (pv 8)) (.cons pe_str (.cons (pe_fmt (pv 11)) (.cons pe_str (.cons (pe_fmt (pv 12)) (.cons pe_str (.cons (pe_fmt (pv 13)) (.cons pe_str (.cons (pe_fmt (pe_call (ok_values_text T) (hr.mono (by omega)) (by rfl) T.g_values_text T.F_values_text.kp T.b_values_text .nil pass0 (pa_cons (pv 9) pa_nil))) (.cons pe_str (.cons (pe_fmt (pe_call (ok_values_text T) (hr.mono (by omega)) (by rfl) T.g_values_text T.F_values_text.kp T.b_values_text .nil pass0 (pa_cons (pv 10) pa_nil))) (.cons pe_str .nil))))))))))))))))))))))))))), ?_⟩
    rw [show L2.start N_entry_text [v] = [some v, none, none, none, none, none, none, none, none, none, none, none, none, none] from rfl]
    obtain ⟨pd, dep, fr, back, tok, wd, rfl, hp, d0, d1, hf, hb0, hb1, ht, hw⟩ := hd
    obtain ⟨op, i, ls, st, rfl, hop, i0, i1, l1, l2, hls, hst⟩ := hf
    obtain ⟨pa, xs, rfl, hpa, rs⟩ := r.tup_inv
    obtain ⟨w1, r1, rfl, rp, rs⟩ := rs.cons_inv
    obtain ⟨w2, r2, rfl, rdp, rs⟩ := rs.cons_inv
    obtain ⟨w3, r3, rfl, rfr, rs⟩ := rs.cons_inv
    obtain ⟨w4, r4, rfl, rbk, rs⟩ := rs.cons_inv
    obtain ⟨w5, r5, rfl, rtk, rs⟩ := rs.cons_inv
    obtain ⟨w6, r6, rfl, rwd, rs⟩ := rs.cons_inv
    obtain rfl := rs.nil_inv
    obtain rfl := rdp.int_inv
    obtain rfl := rwd.str_inv
    obtain ⟨fa, fs, rfl, hfr, rs⟩ := rfr.tup_inv
    obtain ⟨f1, r1, rfl, rop, rs⟩ := rs.cons_inv
    obtain ⟨f2, r2, rfl, ri, rs⟩ := rs.cons_inv
    obtain ⟨f3, r3, rfl, rls, rs⟩ := rs.cons_inv
    obtain ⟨f4, r4, rfl, rst, rs⟩ := rs.cons_inv
    obtain rfl := rs.nil_inv
    obtain rfl := rop.str_inv
    obtain rfl := ri.int_inv
    refine ⟨_, rfl, pa, _, rfl, hpa, rfl, _, _, rfl, _, _, rfl, _, _, rfl, _, _, rfl, _, _, rfl, _, _, rfl, rfl, ?_⟩
    refine ⟨_, rfl, fa, _, rfl, hfr, rfl, _, _, rfl, _, _, rfl, _, _, rfl, _, _, rfl, rfl, ?_⟩
    simp only [gName, List.set_cons_succ, List.set_cons_zero]
    -- back_text
    have hbk : back = .tuple [] ∨ ObjG back := by
      by_cases e : dep = 0
      · exact .inl (hb0 e)
      · exact .inr (hb1 e)
    refine ⟨fun x G => x = .str (backT back) ∧ Same H G, ⟨_, rfl, rfl, _, rfl, Cm.itEI (fun e => ⟨by rw [hb0 e]; rfl, Same.refl H⟩) fun e => ⟨_, rfl, w4, back, rfl, rbk, hb1 e, fun H1 s1 => ⟨?_, s1⟩⟩⟩, fun x H1 ⟨e, s1⟩ => ?_⟩
    · obtain ⟨p, k, rfl, _⟩ := hb1 e
      rfl
    subst e
    simp only [gName, List.set_cons_succ, List.set_cons_zero]
    -- token_text
    refine ⟨fun x G => x = .str (tokT tok) ∧ Same H1 G, ?_, fun x H2 ⟨e, s2⟩ => ?_⟩
    · refine ⟨_, rfl, rfl, _, rfl, ?_⟩
      have ht' := ht
      rcases ht with ⟨x, y, rfl, x0, x1, y0, y1⟩ | ⟨rfl, _⟩
      · obtain ⟨ta, ts, rfl, hta, rs⟩ := rtk.tup_inv
        obtain ⟨t1, r1, rfl, rx, rs⟩ := rs.cons_inv
        obtain ⟨t2, r2, rfl, ry, rs⟩ := rs.cons_inv
        obtain rfl := rs.nil_inv
        obtain rfl := rx.int_inv
        obtain rfl := ry.int_inv
        have hta1 := Cm.sameT s1 hta
        have b1 := j1 jE (len_pos x0 (by omega))
        have b2 := j1 b1 (jL (x := ",") (n := 1) rfl)
        have b3 := j1 b2 (len_pos y0 (by omega))
        refine Cm.itD (fun e => by cases e) fun _ => ⟨_, rfl, ta, _, 0, _, rfl, rfl, hta1, atI_nat (j := 0) rfl, .inr ⟨_, rfl, log_small (by omega) (by omega), _, rfl, sz b1 rfl, _, rfl, sz b2 rfl, _, rfl, ta, _, 1, _, rfl, rfl, hta1, atI_nat (j := 1) rfl, .inr ⟨_, rfl, log_small (by omega) (by omega), _, rfl, sz b3 rfl, ?_, Same.refl H1⟩⟩⟩
        rw [empty_app]
        rfl
      · cases rtk
        exact Cm.itD (fun _ => ⟨rfl, Same.refl H1⟩) fun e => absurd rfl e
    subst e
    simp only [gName, List.set_cons_succ, List.set_cons_zero]
    -- word_text
    refine ⟨fun x G => x = .str (dashT (.str wd)) ∧ Same H2 G, ⟨_, rfl, rfl, _, rfl, Cm.itES (fun e => ⟨?_, Same.refl H2⟩) fun e => ⟨_, rfl, ?_, Same.refl H2⟩⟩, fun x H3 ⟨e, s3⟩ => ?_⟩
    · subst e
      rfl
    · show V.str wd = .str (if wd = "" then "-" else wd)
      rw [if_neg e]
    subst e
    simp only [gName, List.set_cons_succ, List.set_cons_zero]
    have s13 := (s1.trans s2).trans s3
    have b1 := j1 jE (jL (x := "frame ") (n := 6) rfl)
    have b2 := j1 b1 (len_pTg hp)
    have b3 := j1 b2 (jL (x := " depth ") (n := 7) rfl)
    have b4 := j1 b3 (len_pos d0 (by omega))
    have b5 := j1 b4 (jL (x := " op ") (n := 4) rfl)
    have b6 := j1 b5 hop
    have b7 := j1 b6 (jL (x := " at ") (n := 4) rfl)
    have b8 := j1 b7 (len_pos i0 (by omega))
    have b9 := j1 b8 (jL (x := " back ") (n := 6) rfl)
    have b10 := j1 b9 (len_backTg hbk)
    have b11 := j1 b10 (jL (x := " token ") (n := 7) rfl)
    have b12 := j1 b11 (len_tokTg ht)
    have b13 := j1 b12 (jL (x := " word ") (n := 6) rfl)
    have hwl : (dashT (.str wd)).length ≤ 6 := by
      show (if wd = "" then ("-" : Str) else wd).length ≤ 6
      split
      · exact jL rfl
      · exact len_word6 wd hw
    have b14 := j1 b13 hwl
    have b15 := j1 b14 (jL (x := " locals") (n := 7) rfl)
    have v1 := l1.2
    have v2 := l2.2
    have b16 := j1 b15 v1
    have b17 := j1 b16 (jL (x := " stack") (n := 6) rfl)
    have b18 := j1 b17 v2
    have b19 := j1 b18 (jL (x := "\n") (n := 1) rfl)
    refine ⟨_, rfl, sz b1 rfl, _, rfl, w1, pd, rfl, rp.keep (Same.tups s13), hp, fun H4 s4 => .inl ⟨_, rfl, sz (len_pTg hp) rfl, _, rfl, sz b2 rfl, _, rfl, sz b3 rfl, ?_⟩⟩
    refine ⟨_, rfl, .inr ⟨_, rfl, log_small (by omega) (by omega), _, rfl, sz b4 rfl, _, rfl, sz b5 rfl, ?_⟩⟩
    refine ⟨_, rfl, .inl ⟨_, rfl, sz hop rfl, _, rfl, sz b6 rfl, _, rfl, sz b7 rfl, ?_⟩⟩
    refine ⟨_, rfl, .inr ⟨_, rfl, log_small (by omega) (by omega), _, rfl, sz b8 rfl, _, rfl, sz b9 rfl, ?_⟩⟩
    refine ⟨_, rfl, .inl ⟨_, rfl, sz (len_backTg hbk) rfl, _, rfl, sz b10 rfl, _, rfl, sz b11 rfl, ?_⟩⟩
    refine ⟨_, rfl, .inl ⟨_, rfl, sz (len_tokTg ht) rfl, _, rfl, sz b12 rfl, _, rfl, sz b13 rfl, ?_⟩⟩
    refine ⟨_, rfl, .inl ⟨_, rfl, sz hwl rfl, _, rfl, sz b14 rfl, _, rfl, sz b15 rfl, ?_⟩⟩
    have s14 := s13.trans s4
    refine ⟨_, rfl, f3, ls, rfl, rls.keep (Same.tups s14), hls, l1, fun H5 s5 => .inl ⟨_, rfl, sz v1 rfl, _, rfl, sz b16 rfl, _, rfl, sz b17 rfl, ?_⟩⟩
    refine ⟨_, rfl, f4, st, rfl, rst.keep (Same.tups (s14.trans s5)), hst, l2, fun H6 s6 => .inl ⟨_, rfl, sz v2 rfl, _, rfl, sz b18 rfl, _, rfl, sz b19 rfl, ?_⟩⟩
    have := q H6 ((s14.trans s5).trans s6)
    rw [← ent_text] at this
    exact this
def spBTg (K : PySem.W.Frag) : Sp := fun vs H Q _ => ∃ (v : V) (d : PyData), vs = [v] ∧ Rp K H v d ∧ BundG d ∧ ∀ H', Same H H' → Q (.str (bT d)) H'
theorem ok_bundle_text (T : Txt K mg w a) : FnOk P w K mg base CX0 6 (He.ga K "bundle_text") a.d_bundle_text ["bundle"] (spBTg K) := by
  refine T.F_bundle_text.ok sc_bundle_text (fun vs H Q E h => ?_) (fun cdv A outer s H vs Q E hr h => ?_)
  · obtain ⟨v, d, rfl, _⟩ := h
    rfl
  · obtain ⟨v, d, rfl, r, hd, q⟩ := h
    refine ⟨_, PSs.nox (pss_cons (ps_asg (pv 0) (pg_tup (by rfl) (pgs_cons (pg_name (i := 1) sc_bundle_text.nd rfl (Or.inl rfl)) (pgs_cons (pg_name (i := 2) sc_bundle_text.nd rfl (Or.inl rfl)) (pgs_cons (pg_name (i := 3) sc_bundle_text.nd rfl (Or.inl rfl)) (pgs_cons (pg_name (i := 4) sc_bundle_text.nd rfl (Or.inl rfl)) (pgs_cons (pg_name (i := 5) sc_bundle_text.nd rfl (Or.inl rfl)) pgs_nil)))))))
      (pss_cons (ps_set (i := 6) sc_bundle_text.nd rfl (Or.inl rfl) (LsX.pe_joinedJ (.cons pe_str (.cons (pe_fmt (pe_call (ok_object_text T) (hr.mono (by omega)) (by rfl) T.g_object_text T.F_object_text.kp T.b_object_text .nil pass0 (pa_cons (pv 1) pa_nil))) (.cons pe_str (.cons (pe_fmt (pv 2)) (.cons pe_str (.cons (pe_fmt (pv 5)) (.cons pe_str (.cons (pe_fmt (pe_call (ok_values_text T) (hr.mono (by omega)) (by rfl) T.g_values_text T.F_values_text.kp T.b_values_text .nil pass0 (pa_cons (pv 3) pa_nil))) (.cons pe_str .nil)))))))))))
      (pss_one (ps_ret (pe_op op_add_str (pv 6) (pe_join pe_str (pe_lc (own := [("entry", 7)]) (g := gName 7) (tt := tYes)  (by rfl) sc_bundle_text.nd (pi_tup (pv 4)) (blkOk_by (own := [("entry", 7)]) (N := N_bundle_text) (sc := defScope s_bundle_text) (by decide +kernel)) (fun _ _ _ _ _ => pg_name (i := 7) sc_bundle_text.nd rfl (Or.inl rfl)) (fun _ _ _ _ _ => pts_nil) (fun _ _ _ _ _ => (pe_call (ok_entry_text T) (hr.mono (by omega)) (by rfl) T.g_entry_text T.F_entry_text.kp T.b_entry_text .nil pass0 (pa_cons (pv 7) pa_nil)))))))))), ?_⟩
    rw [show L2.start N_bundle_text [v] = [some v, none, none, none, none, none, none, none] from rfl]
    obtain ⟨nm, mk, vs, es, c, rfl, ho, hm, lv, hv, le, he, c0, c1⟩ := hd
    obtain ⟨pa, xs, rfl, hpa, rs⟩ := r.tup_inv
    obtain ⟨w1, r1, rfl, rnm, rs⟩ := rs.cons_inv
    obtain ⟨w2, r2, rfl, rmk, rs⟩ := rs.cons_inv
    obtain ⟨w3, r3, rfl, rfs, rs⟩ := rs.cons_inv
    obtain ⟨w4, r4, rfl, res, rs⟩ := rs.cons_inv
    obtain ⟨w5, r5, rfl, rct, rs⟩ := rs.cons_inv
    obtain rfl := rs.nil_inv
    obtain rfl := rmk.str_inv
    obtain rfl := rct.int_inv
    refine ⟨_, rfl, pa, _, rfl, hpa, rfl, _, _, rfl, _, _, rfl, _, _, rfl, _, _, rfl, _, _, rfl, rfl, ?_⟩
    simp only [gName, List.set_cons_succ, List.set_cons_zero]
    have hml : mk.length ≤ 12 := hm
    have v1 := lv.2
    have b1 := j1 jE (jL (x := "object ") (n := 7) rfl)
    have b2 := j1 b1 (len_oTg ho)
    have b3 := j1 b2 (jL (x := " maker ") (n := 7) rfl)
    have b4 := j1 b3 hml
    have b5 := j1 b4 (jL (x := " count ") (n := 7) rfl)
    have b6 := j1 b5 (len_pos c0 c1)
    have b7 := j1 b6 (jL (x := " fields") (n := 7) rfl)
    have b8 := j1 b7 v1
    have b9 := j1 b8 (jL (x := "\n") (n := 1) rfl)
    refine ⟨_, rfl, sz b1 rfl, _, rfl, w1, nm, rfl, rnm, ho, fun H1 s1 => .inl ⟨_, rfl, sz (len_oTg ho) rfl, _, rfl, sz b2 rfl, _, rfl, sz b3 rfl, ?_⟩⟩
    refine ⟨_, rfl, .inl ⟨_, rfl, sz hml rfl, _, rfl, sz b4 rfl, _, rfl, sz b5 rfl, ?_⟩⟩
    refine ⟨_, rfl, .inr ⟨_, rfl, log_small (by omega) (by omega), _, rfl, sz b6 rfl, _, rfl, sz b7 rfl, ?_⟩⟩
    refine ⟨_, rfl, w3, vs, rfl, rfs.keep (Same.tups s1), hv, lv, fun H2 s2 => .inl ⟨_, rfl, sz v1 rfl, _, rfl, sz b8 rfl, _, rfl, sz b9 rfl, ?_⟩⟩
    have s12 := s1.trans s2
    have et := head_text nm (.str mk) (.int c) (.tuple es) vs
    simp only [gName, List.set_cons_succ, List.set_cons_zero]
    rw [show Str.empty ++ "object " ++ oT nm ++ " maker " ++ mk ++ " count " ++ Str.ofString (toString c) ++ " fields" ++ vsT vs ++ "\n" = Txt.join " " (headW (.tuple [nm, .str mk, .tuple vs, .tuple es, .int c])) ++ "\n" from et]
    rw [show Str.empty ++ "object " ++ oT nm ++ " maker " ++ mk ++ " count " ++ Str.ofString (toString c) ++ " fields" ++ vsT vs ++ "\n" = Txt.join " " (headW (.tuple [nm, .str mk, .tuple vs, .tuple es, .int c])) ++ "\n" from et] at b9
    obtain ⟨ea, evs, rfl, hea, rse⟩ := res.tup_inv
    have hlen := rse.len
    have hea2 := Cm.sameT s12 hea
    refine ⟨_, rfl, ⟨_, rfl⟩, _, rfl, ea, rfl, ⟨_, hea2⟩, fun D nD => ?_⟩
    refine lc_tup (K := K) (a := ea) (xs := evs) (fun j Hj => Same H2 Hj ∧ ∃ bs : List Str, Hj D = some (.lst (bs.map V.str)) ∧ bs = (es.take j).map (fun d => Txt.join " " (entW d) ++ "\n") ∧ bs.length ≤ j) ⟨Cm.same_new nD, [], upd_same, rfl, Nat.le_refl _⟩ (fun j Hj _ b => Cm.sameT b.1 hea2) (fun j y Hj hy b => ?_) fun Hj b => ?_
    · obtain ⟨sJ, bs, hD, eb, lb⟩ := b
      refine ⟨rfl, ?_⟩
      have hj : j < es.length := by
        rw [← hlen]
        exact (List.getElem?_eq_some_iff.mp hy).1
      obtain ⟨y', hy', ry⟩ := rse.at_ (i := j) (d := es[j]) (List.getElem?_eq_getElem hj)
      rw [hy] at hy'
      cases hy'
      have hej := he _ (List.getElem_mem hj)
      refine ⟨_, rfl, y, es[j], rfl, ry.keep (Same.tups (s12.trans sJ)), hej, fun H3 s3 => ?_⟩
      refine ⟨_, s3 _ _ hD, Cm.smallL (by rw [List.length_map]; omega), Cm.same_mut (sJ.trans s3) nD, bs ++ [Txt.join " " (entW es[j]) ++ "\n"], ?_, ?_, by rw [List.length_append]; simp only [List.length_cons, List.length_nil]; omega⟩
      · rw [upd_same, List.map_append]
        rfl
      · rw [List.take_succ, List.getElem?_eq_getElem hj, List.map_append, eb]
        rfl
    · obtain ⟨sJ, bs, hD, eb, lb⟩ := b
      rw [hlen, List.take_length] at eb
      have hcl : (cat bs).length ≤ 10000 := by
        have z := le.2
        rw [bT_eq, app_len, ← eb] at z
        omega
      refine ⟨_, D, bs, rfl, rfl, .inl (SqL.of hD), sum_cat hcl, ?_⟩
      rw [e0]
      refine ⟨_, _, rfl, rfl, (by rw [← app_len]; exact sz (j1 b9 hcl) rfl), ?_⟩
      have := q Hj (s12.trans sJ)
      rw [bT_eq, ← eb] at this
      exact this
/-! ### what is read is what stands there -/
def jl (s : Nat) : List (List Nat) → List Nat
  | [] => []
  | x :: r => x ++ r.flatMap fun z => s :: z
theorem jl_spl (s : Nat) : ∀ (x acc : List Nat), jl s (TL.spl [s] 0 acc x) = acc ++ x
  | [], acc => by
    rw [TL.spl_nil]
    rfl
  | d :: r, acc => by
    by_cases e : d = s
    · have hit : TL.pre [s] (d :: r) = true := by rw [e]; simp [TL.pre]
      rw [TL.spl_hit hit]
      have ih := jl_spl s r []
      show acc ++ (TL.spl [s] 0 [] r).flatMap (fun z => s :: z) = acc ++ d :: r
      cases h : TL.spl [s] 0 [] r with
      | nil =>
        rw [h] at ih
        have := (spl_facts [s] r 0 []).1
        exact absurd h this
      | cons y ys =>
        rw [h] at ih
        have ih : y ++ ys.flatMap (fun z => s :: z) = [] ++ r := ih
        rw [List.flatMap_cons, e]
        show acc ++ (s :: (y ++ ys.flatMap fun z => s :: z)) = _
        rw [ih]
        rfl
    · have miss : TL.pre [s] (d :: r) = false := by simp [TL.pre]; exact e
      rw [TL.spl_miss miss, jl_spl s r (acc ++ [d]), List.append_assoc]
      rfl
theorem tl_cat (xs : List Str) : TL.tl (cat xs) = xs.flatMap TL.tl := by
  induction xs with
  | nil => rw [cat_nil]; rfl
  | cons x r ih => rw [cat_cons, TL.tl_append, ih]; rfl
theorem jl_join {y : Str} {s : Nat} (ey : TL.tl y = [s]) (xs : List Str) : TL.tl (Txt.join y xs) = jl s (xs.map TL.tl) := by
  cases xs with
  | nil => rw [join_nil]; rfl
  | cons x r =>
    rw [join_cat, TL.tl_append, tl_cat]
    show _ = TL.tl x ++ (r.map TL.tl).flatMap fun z => s :: z
    rw [List.flatMap_map, List.flatMap_map]
    congr 1
    refine congrArg (fun f => List.flatMap f r) (funext fun z => ?_)
    rw [TL.tl_append, ey]
    rfl
theorem join_split {y : Str} {s : Nat} (ey : TL.tl y = [s]) (hk : y.cps.all (· < 256) = true) (t : Str) : Txt.join y (Txt.split t y) = t := by
  refine TL.ext_tl ?_
  rw [jl_join ey, TL.split_spl t y (by rw [ey]; simp) (TL.kind_ok hk), ey, jl_spl]
  rfl
theorem par_sub (s : Nat) : ∀ (x acc : List Nat) (a b : List Nat), TL.par [s] acc x = some (a, b) → acc ++ x = a ++ s :: b
  | [], acc, a, b, h => by cases h
  | d :: r, acc, a, b, h => by
    unfold TL.par at h
    by_cases z : TL.pre [s] (d :: r) = true
    · rw [if_pos z] at h
      have e : d = s := by simpa [TL.pre] using z
      cases h
      rw [e]
      rfl
    · rw [if_neg z] at h
      have := par_sub s r (acc ++ [d]) a b h
      rw [← this, List.append_assoc]
      rfl
theorem part_back {y : Str} {s : Nat} (ey : TL.tl y = [s]) (t : Str) (h : (Txt.partition t y).2.2 ≠ ("" : Str)) : t = (Txt.partition t y).1 ++ y ++ (Txt.partition t y).2.2 := by
  have e := TL.partition_par t y (by rw [ey]; simp)
  rw [ey] at e
  cases hp : TL.par [s] [] (TL.tl t) with
  | none =>
    rw [hp] at e
    rw [e] at h
    exact absurd rfl h
  | some ab =>
    obtain ⟨a, b⟩ := ab
    rw [hp] at e
    rw [e]
    have := par_sub s _ _ _ _ hp
    refine TL.ext_tl ?_
    rw [TL.tl_append, TL.tl_append, ey]
    show TL.tl t = a ++ [s] ++ b
    rw [List.append_assoc]
    exact this
theorem num_ne {t : Str} {i : Int} (h : numR t = some i) : t ≠ ("" : Str) := fun e => by
  subst e
  have : numR "" = none := by decide +kernel
  rw [this] at h
  cases h
theorem procR_back {t : Str} {ns : List Int} (h : procR t = some ns) : pT (pD ns) = t := by
  obtain ⟨ws, e, l, g⟩ := procR_ok h
  have ew : ws = ns.map num := by
    refine List.ext_getElem (by rw [List.length_map]; exact l) fun k h1 h2 => ?_
    rw [List.getElem_map]
    rw [List.length_map] at h2
    exact (g k _ _ (List.getElem?_eq_getElem h1) (List.getElem?_eq_getElem h2)).1
  have := join_split (y := ".") (s := 46) rfl (by decide +kernel) t
  rw [e, ew] at this
  rw [← this]
  show Txt.join "." ("p" :: (ns.map PyData.int).map nT) = _
  rw [List.map_map]
  rfl
theorem objR_back {t : Str} {d : PyData} (h : objR t = some d) : oT d = t := by
  obtain ⟨ns, i, rfl, o1, o2⟩ := objR_ok h
  have h1 := procR_back (procR_some o1)
  have e := part_back (y := "#") (s := 35) rfl t (num_ne (numR_some o2))
  show pT (pD ns) ++ "#" ++ num i = t
  rw [h1, ← o2.1]
  exact e.symm
theorem valR_back {t : Str} {d : PyData} (h : valR t = some d) : vT d = t := by
  unfold valR at h
  split at h
  · rename_i e
    cases h
    rw [e]
    rfl
  split at h
  · obtain ⟨o, ho, rfl⟩ := Option.map_eq_some_iff.mp h
    exact objR_back ho
  split at h
  · rename_i e
    obtain ⟨i, hi, rfl⟩ := Option.map_eq_some_iff.mp h
    obtain ⟨hi1, hi2, _⟩ := numR_ok hi
    obtain ⟨e1, e2⟩ := e
    show num (-i) = t
    -- t is '-' and its tail
    have et : TL.tl t = 45 :: TL.tl (cutS t (some 1) none) := by
      cases z : TL.tl t with
      | nil =>
        have : t = "" := TL.ext_tl z
        rw [this] at e1
        exact absurd e1 (by decide +kernel)
      | cons c r =>
        have hs := starts (x := t) (y := "-") (d := 45) z (by decide +kernel)
        rw [hs] at e1
        have hc : c = 45 := of_decide_eq_true e1
        have hw : cutS t (some 1) none = ⟨r.toArray⟩ := cut_tail (c := c) (by rw [z])
        rw [hw, hc]
    have i0 : i ≠ 0 := fun z => by
      subst z
      refine e2 (TL.ext_tl ?_)
      rw [et, hi1]
      decide +kernel
    refine TL.ext_tl ?_
    rw [et, hi1, tl_neg (by omega), tl_pos hi2, Int.neg_neg]
  · obtain ⟨i, hi, rfl⟩ := Option.map_eq_some_iff.mp h
    exact (numR_ok hi).1.symm
theorem valsR_back : ∀ {ws : List Str} {ds : List PyData}, valsR ws = some ds → ds.map vT = ws
  | [], ds, h => by
    cases h
    rfl
  | x :: r, ds, h => by
    rw [valsR_cons] at h
    cases e1 : valR x with
    | none => rw [e1] at h; cases h
    | some d =>
      cases e2 : valsR r with
      | none => rw [e1, e2] at h; cases h
      | some es =>
        rw [e1, e2] at h
        cases h
        rw [List.map_cons, valR_back e1, valsR_back e2]
theorem tokR_back {t : Str} {d : PyData} (h : tokR t = some d) : tokT d = t := by
  unfold tokR at h
  split at h
  · rename_i e
    cases h
    rw [e]
    rfl
  split at h
  · rename_i x y hx hy
    cases h
    have e := part_back (y := ",") (s := 44) rfl t (num_ne hy)
    show num x ++ "," ++ num y = t
    rw [← (numR_ok hx).1, ← (numR_ok hy).1]
    exact e.symm
  · cases h
theorem fltR_back {t w : Str} (h : fltR t = some w) : dashT (.str w) = t := by
  unfold fltR at h
  split at h
  · rename_i e
    cases h
    rw [e]
    rfl
  split at h
  · rename_i e
    cases h
    have hne : ∀ x ∈ (["number", "large", "nil"] : List Str), x ≠ "" := by decide +kernel
    exact if_neg (hne t e)
  · cases h
theorem backR_back {t : Str} {d : PyData} (h : backR t = some d) : backT d = t := by
  unfold backR at h
  split at h
  · rename_i e
    cases h
    rw [e]
    rfl
  · have := objR_back h
    obtain ⟨ns, i, rfl, _⟩ := objR_ok h
    exact this
theorem headR_back {W : List Str} {d : PyData} (h : headR W = some d) (es : List PyData) : headW (withE d es) = W ∧ bunD d = true ∧ ∃ o m n r od vs i, W = hw7 o m n r ∧ objR o = some od ∧ valsR r = some vs ∧ numR n = some i ∧ d = .tuple [od, .str m, .tuple vs, .tuple [], .int i] := by
  unfold headR at h
  split at h
  · rename_i hp
    obtain ⟨o, m, n, r, rfl⟩ := head_words hp
    have h : (match objR o, valsR r, numR n with
      | some od, some vs, some i => if bunD (.tuple [od, .str m, .tuple vs, .tuple [], .int i]) = true then some (PyData.tuple [od, .str m, .tuple vs, .tuple [], .int i]) else none
      | _, _, _ => none) = some d := h
    split at h
    · rename_i od vs i h1 h2 h3
      split at h
      · rename_i z
        cases h
        refine ⟨?_, z, o, m, n, r, od, vs, i, rfl, h1, h2, h3, rfl⟩
        show (["object", oT od, "maker", m, "count", num i, "fields"] : List Str) ++ vs.map vT = _
        rw [objR_back h1, valsR_back h2, ← (numR_ok h3).1]
      · cases h
    · cases h
  · cases h
theorem entR_back {W : List Str} {d : PyData} (h : entR W = some d) : entW d = W ∧ entD d = true ∧ ∃ p dp o i bk tk wd ls st p' dp' i' ls' st' bk' tk' wd', W = fw15 p dp o i bk tk wd (ls ++ (("stack" : Str) :: st)) ∧ procR p = some p' ∧ numR dp = some dp' ∧ numR i = some i' ∧ valsR ls = some ls' ∧ valsR st = some st' ∧ backR bk = some bk' ∧ tokR tk = some tk' ∧ fltR wd = some wd' ∧ d = entY o p' dp' i' ls' st' bk' tk' wd' := by
  unfold entR at h
  split at h
  · rename_i hp
    obtain ⟨p, dp, o, i, bk, tk, wd, r, rfl⟩ := frame_words hp
    have h : (match stkR r with
      | some (ls, st) => entX o (procR p) (numR dp) (numR i) (valsR ls) (valsR st) (backR bk) (tokR tk) (fltR wd)
      | none => none) = some d := h
    split at h
    · rename_i ls st hs
      obtain ⟨p', dp', i', ls', st', bk', tk', wd', h1, h2, h3, h4, h5, h6, h7, h8, rfl, z⟩ := entX_ok h
      obtain ⟨er, _⟩ := stkR_ok hs
      subst er
      refine ⟨?_, z, p, dp, o, i, bk, tk, wd, ls, st, p', dp', i', ls', st', bk', tk', wd', rfl, h1, h2, h3, h4, h5, h6, h7, h8, rfl⟩
      show ((["frame", pT (pD p'), "depth", num dp', "op", o, "at", num i', "back", backT bk', "token", tokT tk', "word", dashT (.str wd'), "locals"] : List Str) ++ ls'.map vT) ++ (("stack" : Str) :: st'.map vT) = _
      rw [procR_back h1, ← (numR_ok h2).1, ← (numR_ok h3).1, valsR_back h4, valsR_back h5, backR_back h6, tokR_back h7, fltR_back h8, List.append_assoc]
    · cases h
  · cases h
/-! ### what is read: its bounds, and the whole bundle -/
theorem natD_ok {n : Int} (h : natD (.int n) = true) : 0 ≤ n ∧ n ≤ 1000000000000 := by
  obtain ⟨a, b⟩ := Bool.and_eq_true_iff.mp (show (decide (0 ≤ n) && decide (n ≤ 1000000000000)) = true from h)
  exact ⟨of_decide_eq_true a, of_decide_eq_true b⟩
theorem procG_of {t : Str} {ns : List Int} (h : procR t = some ns) (l : t.length ≤ 10000) (c : procD (pD ns) = true) : ProcG (pD ns) := by
  refine ⟨ns, rfl, ⟨Nat.le_trans (procT_len (procR_ok h)) l, by rw [procR_back h]; exact l⟩, fun n hn => ?_⟩
  exact natD_ok (List.all_eq_true.mp (show (ns.map PyData.int).all natD = true from c) _ (List.mem_map.mpr ⟨n, hn, rfl⟩))
theorem objG_of {t : Str} {d : PyData} (h : objR t = some d) (l : t.length ≤ 10000) (c : objD d = true) : ObjG d := by
  obtain ⟨ns, i, rfl, o⟩ := objR_ok h
  obtain ⟨a, b⟩ := Bool.and_eq_true_iff.mp (show (procD (pD ns) && natD (.int i)) = true from c)
  have := natD_ok b
  exact ⟨pD ns, i, rfl, procG_of (procR_some o.1) (Nat.le_trans (part_len (t := t) (y := "#") (by decide +kernel)).1 l) a, this.1, this.2⟩
theorem valG_of {t : Str} {d : PyData} (h : valR t = some d) (l : t.length ≤ 10000) (c : valD d = true) : ValG d := by
  have num : ∀ {i : Int}, valD (.int i) = true → ValG (.int i) := fun {i} c => by
    obtain ⟨a, b⟩ := Bool.and_eq_true_iff.mp (show (decide (-1000000000000 ≤ i) && decide (i ≤ 1000000000000)) = true from c)
    exact .inr (.inr ⟨i, rfl, of_decide_eq_true a, of_decide_eq_true b⟩)
  unfold valR at h
  split at h
  · cases h
    exact .inl rfl
  split at h
  · obtain ⟨o, ho, rfl⟩ := Option.map_eq_some_iff.mp h
    refine .inr (.inl ⟨o, objG_of ho l ?_, rfl⟩)
    have c : (PyData.eqv (.tuple [.str "ref", o]) (.tuple [.str "nil"]) || (PyData.eqv (.str "ref") (.str "ref") && objD o)) = true := c
    rw [show PyData.eqv (.tuple [.str "ref", o]) (.tuple [.str "nil"]) = false from by simp [PyData.eqv, PyData.eqvAll], Bool.false_or] at c
    exact (Bool.and_eq_true_iff.mp c).2
  split at h
  · obtain ⟨o, ho, rfl⟩ := Option.map_eq_some_iff.mp h
    exact num c
  · obtain ⟨o, ho, rfl⟩ := Option.map_eq_some_iff.mp h
    exact num c
theorem valsG_of {ws : List Str} {ds : List PyData} (h : valsR ws = some ds) (l : ∀ x ∈ ws, x.length ≤ 10000) (c : valsD (.tuple ds) = true) : ∀ x ∈ ds, ValG x := by
  have c : ds.all valD = true := c
  induction ws generalizing ds with
  | nil =>
    cases h
    exact fun _ z => nomatch z
  | cons x r ih =>
    rw [valsR_cons] at h
    cases e1 : valR x with
    | none => rw [e1] at h; cases h
    | some d =>
      cases e2 : valsR r with
      | none => rw [e1, e2] at h; cases h
      | some es =>
        rw [e1, e2] at h
        cases h
        obtain ⟨c1, c2⟩ := Bool.and_eq_true_iff.mp (show (valD d && es.all valD) = true from c)
        intro y hy
        rcases List.mem_cons.mp hy with rfl | hy
        · exact valG_of e1 (l x List.mem_cons_self) c1
        · exact ih e2 (fun z hz => l z (List.mem_cons_of_mem _ hz)) c2 c2 y hy
theorem op_len {o : Str} (h : codeD (.str o) = true) : o.length ≤ 12 := by
  have h : (decide (o = "start") || isName o) = true := h
  rcases Bool.or_eq_true_iff.mp h with z | z
  · rw [of_decide_eq_true z]
    decide +kernel
  · unfold isName at z
    have := (Bool.and_eq_true_iff.mp z).1
    by_cases y : 12 < (o.length : Int)
    · rw [decide_eq_true y] at this
      cases this
    · omega
theorem vs_part (x : Str) (pre ws post : List Str) : (cat (ws.map fun z => " " ++ z)).length ≤ (Txt.join " " (x :: (pre ++ ws ++ post))).length := by
  rw [join_cat, app_len, List.map_append, List.map_append, cat_app, cat_app, app_len, app_len]
  omega
theorem vsT_len {ws : List Str} {ds : List PyData} (h : valsR ws = some ds) : vsT ds = cat (ws.map fun z => " " ++ z) := by
  unfold vsT
  rw [← valsR_back h, List.map_map]
  rfl
theorem entG_of {l : Str} {d : PyData} (h : entR (Txt.split l " ") = some d) (hl : l.length ≤ 10000) : EntG d ∧ Txt.join " " (entW d) = l := by
  obtain ⟨e, c, p, dp, o, i, bk, tk, wd, ls, st, p', dp', i', ls', st', bk', tk', wd', eW, h1, h2, h3, h4, h5, h6, h7, h8, rfl⟩ := entR_back h
  have ej := join_split (y := " ") (s := 32) rfl (by decide +kernel) l
  obtain ⟨f1, f2, f3⟩ := split_facts (t := l) (y := " ") (by decide +kernel) (by decide +kernel)
  refine ⟨?_, by rw [e]; exact ej⟩
  rw [eW] at ej f2 f3
  have wl : ∀ x ∈ fw15 p dp o i bk tk wd (ls ++ (("stack" : Str) :: st)), x.length ≤ 10000 := fun x hx => Nat.le_trans (f3 x hx) hl
  have c : ((procD (pD p') && (natD (.int dp') && (frD (.tuple [.str o, .int i', .tuple ls', .tuple st']) && backD bk' dp'))) && tokW tk' (.str wd')) = true := c
  obtain ⟨c1, c2⟩ := Bool.and_eq_true_iff.mp c
  obtain ⟨c3, c4⟩ := Bool.and_eq_true_iff.mp c1
  obtain ⟨c5, c6⟩ := Bool.and_eq_true_iff.mp c4
  obtain ⟨c7, c8⟩ := Bool.and_eq_true_iff.mp c6
  have c7 : (codeD (.str o) && (natD (.int i') && (valsD (.tuple ls') && valsD (.tuple st')))) = true := c7
  obtain ⟨c9, c10⟩ := Bool.and_eq_true_iff.mp c7
  obtain ⟨c11, c12⟩ := Bool.and_eq_true_iff.mp c10
  obtain ⟨c13, c14⟩ := Bool.and_eq_true_iff.mp c12
  have b1 := natD_ok c5
  have b2 := natD_ok c11
  have lls : ls.length + (st.length + 1) + 15 ≤ 10001 := by
    have e : (fw15 p dp o i bk tk wd (ls ++ (("stack" : Str) :: st))).length = 15 + (ls.length + (st.length + 1)) := by
      rw [List.length_append, List.length_append]
      rfl
    rw [e] at f2
    omega
  have hls : ∀ x ∈ ls, x.length ≤ 10000 := fun x hx => wl x (List.mem_append_right _ (List.mem_append_left _ hx))
  have hst : ∀ x ∈ st, x.length ≤ 10000 := fun x hx => wl x (List.mem_append_right _ (List.mem_append_right _ (List.mem_cons_of_mem _ hx)))
  have v1 : (vsT ls').length ≤ 10000 := by
    rw [vsT_len h4]
    refine Nat.le_trans (vs_part "frame" [p, "depth", dp, "op", o, "at", i, "back", bk, "token", tk, "word", wd, "locals"] ls (("stack" : Str) :: st)) ?_
    rw [List.append_assoc]
    refine Nat.le_trans (Nat.le_of_eq ?_) hl
    exact congrArg Str.length ej
  have v2 : (vsT st').length ≤ 10000 := by
    rw [vsT_len h5]
    refine Nat.le_trans (vs_part "frame" ([p, "depth", dp, "op", o, "at", i, "back", bk, "token", tk, "word", wd, "locals"] ++ ls ++ [("stack" : Str)]) st []) ?_
    rw [List.append_nil, List.append_assoc, List.append_assoc]
    refine Nat.le_trans (Nat.le_of_eq ?_) hl
    exact congrArg Str.length ej
  refine ⟨pD p', dp', _, bk', tk', wd', rfl, procG_of h1 (wl p (by simp)) c3, b1.1, b1.2, ⟨o, i', ls', st', rfl, op_len c9, b2.1, b2.2, ⟨by rw [valsR_len h4]; omega, v1⟩, ⟨by rw [valsR_len h5]; omega, v2⟩, valsG_of h4 hls c13, valsG_of h5 hst c14⟩, fun z => ?_, fun z => ?_, ?_, ?_⟩
  · have c8 : (if dp' = 0 then PyData.eqv bk' (.tuple []) else objD bk') = true := c8
    rw [if_pos z] at c8
    unfold backR at h6
    split at h6
    · cases h6
      rfl
    · obtain ⟨ns, k, rfl, _⟩ := objR_ok h6
      simp [PyData.eqv, PyData.eqvAll] at c8
  · have c8 : (if dp' = 0 then PyData.eqv bk' (.tuple []) else objD bk') = true := c8
    rw [if_neg z] at c8
    unfold backR at h6
    split at h6
    · cases h6
      cases c8
    · exact objG_of h6 (wl bk (by simp)) c8
  · unfold tokR at h7
    split at h7
    · cases h7
      refine .inr ⟨rfl, ?_⟩
      have c2 : decide (wd' = "") = true := c2
      exact of_decide_eq_true c2
    · split at h7
      · rename_i x y hx hy
        cases h7
        have c2 : (rowD 2 (.tuple [.int x, .int y]) && ((natD (.int x) && (natD (.int y) && true)) && wOk (.str wd'))) = true := c2
        have d1 := (Bool.and_eq_true_iff.mp (Bool.and_eq_true_iff.mp c2).2).1
        have n1 := natD_ok (Bool.and_eq_true_iff.mp d1).1
        have n2 := natD_ok (Bool.and_eq_true_iff.mp (Bool.and_eq_true_iff.mp d1).2).1
        exact .inl ⟨x, y, rfl, n1.1, n1.2, n2.1, n2.2⟩
      · cases h7
  · have := fltR_in h8
    simp only [List.mem_cons, List.not_mem_nil, or_false] at this ⊢
    rcases this with h | h | h | h <;> simp [h]
theorem entsR_ok : ∀ {bf : List PyData} {r : List Str} {es : List PyData}, entsR bf r = .inr es → es.length = r.length ∧ (∀ (k : Nat) (l : Str) (e : PyData), r[k]? = some l → es[k]? = some e → entR (Txt.split l " ") = some e) ∧ (List.zipWith (fun b e => abvD e b) es es.tail).all id = true ∧ (∀ e, es[0]? = some e → abvAll e bf = true)
  | bf, [], es, h => by
    cases h
    exact ⟨rfl, fun k l e h => by simp at h, rfl, fun e h => by simp at h⟩
  | bf, l :: r, es, h => by
    have h : (match entR (Txt.split l " ") with
      | some d => if abvAll d bf = true then (match entsR [d] r with
        | .inl k => .inl (k + 1)
        | .inr ds => .inr (d :: ds)) else .inl 0
      | none => .inl 0) = (.inr es : Nat ⊕ List PyData) := h
    split at h
    · rename_i d hd
      split at h
      · rename_i hab
        split at h
        · cases h
        · rename_i ds hds
          cases h
          obtain ⟨g1, g2, g3, g4⟩ := entsR_ok hds
          refine ⟨by rw [List.length_cons, List.length_cons, g1], fun k l' e hl he => ?_, ?_, fun e he => ?_⟩
          · cases k with
            | zero =>
              cases hl
              cases he
              exact hd
            | succ k => exact g2 k l' e hl he
          · cases ds with
            | nil => rfl
            | cons x xs =>
              show (abvD x d && (List.zipWith (fun b e => abvD e b) (x :: xs) (x :: xs).tail).all id) = true
              rw [g3]
              have := g4 x rfl
              have : (abvD x d && true) = true := this
              exact this
          · cases he
            exact hab
      · cases h
    · cases h
theorem depth_bund {o : PyData} {m : Str} {vs es : List PyData} {c : Int} (h1 : Fn 2 o) (h2 : Fn 1 (.str m)) (h3 : Fn 4 (.tuple vs)) (h4 : Fn 7 (.tuple es)) : Fit (.tuple [o, .str m, .tuple vs, .tuple es, .int c]) :=
  (fn_tup (n := 8) (al3_cons (h1.mono (by decide)) (al3_cons (h2.mono (by decide)) (al3_cons (h3.mono (by decide)) (al3_cons (h4.mono (by decide)) (al3_cons fn_int al3_nil))))) (by show 5 ≤ 20000; decide)).fit (by decide)
/-! ### what the law asks of a text -/
theorem op_str {o : Str} (h : codeD (.str o) = true) : PyData.strOk o = true := by
  have h : (decide (o = "start") || isName o) = true := h
  rcases Bool.or_eq_true_iff.mp h with z | z
  · rw [of_decide_eq_true z]
    decide +kernel
  · unfold isName at z
    have z1 := (Bool.and_eq_true_iff.mp (Bool.and_eq_true_iff.mp (Bool.and_eq_true_iff.mp z).2).2).1
    have z1 : o.cps.all (· < 128) = true := z1
    rw [← Array.all_toList] at z1
    exact asc_ok fun c hc => of_decide_eq_true (List.all_eq_true.mp z1 c hc)
theorem ent_code {o : Str} {p : List Int} {dp i : Int} {ls st : List PyData} {bk tk : PyData} {wd : Str} (h : entD (entY o p dp i ls st bk tk wd) = true) : codeD (.str o) = true := by
  have c : ((procD (pD p) && (natD (.int dp) && ((codeD (.str o) && (natD (.int i) && (valsD (.tuple ls) && valsD (.tuple st)))) && backD bk dp))) && tokW tk (.str wd)) = true := h
  simp only [Bool.and_eq_true] at c
  exact c.1.2.2.1.1
theorem fn_valsg {ds : List PyData} (h : ∀ x ∈ ds, ValG x) (l : ds.length ≤ 10000) : Fn 4 (.tuple ds) := fn_tup (fun x hx => fn_valg (h x hx)) (by omega)
theorem fn_entR {l : Str} {d : PyData} (h : entR (Txt.split l " ") = some d) (hl : l.length ≤ 10000) : Fn 6 d ∧ EntOk d := by
  obtain ⟨G, _⟩ := entG_of h hl
  obtain ⟨_, c, p, dp, o, i, bk, tk, wd, ls, st, p', dp', i', ls', st', bk', tk', wd', eW, h1, h2, h3, h4, h5, h6, h7, h8, rfl⟩ := entR_back h
  obtain ⟨f1, f2, f3⟩ := split_facts (t := l) (y := " ") (by decide +kernel) (by decide +kernel)
  rw [eW] at f2 f3
  have wl : ∀ x ∈ fw15 p dp o i bk tk wd (ls ++ (("stack" : Str) :: st)), x.length ≤ 10000 := fun x hx => Nat.le_trans (f3 x hx) hl
  have lls : ls.length + (st.length + 1) + 15 ≤ 10001 := by
    have e : (fw15 p dp o i bk tk wd (ls ++ (("stack" : Str) :: st))).length = 15 + (ls.length + (st.length + 1)) := by
      rw [List.length_append, List.length_append]
      rfl
    rw [e] at f2
    omega
  have hls : ∀ x ∈ ls, x.length ≤ 10000 := fun x hx => wl x (List.mem_append_right _ (List.mem_append_left _ hx))
  have hst : ∀ x ∈ st, x.length ≤ 10000 := fun x hx => wl x (List.mem_append_right _ (List.mem_append_right _ (List.mem_cons_of_mem _ hx)))
  have hc := ent_code c
  have ftF : Fn 5 (.tuple [.str o, .int i', .tuple ls', .tuple st']) := fn_tup (n := 4) (al3_cons (fn_str (op_str hc) (Nat.le_trans (op_len hc) (by decide))) (al3_cons fn_int (al3_cons (fnR_valsT h4 hls (by omega)) (al3_cons (fnR_valsT h5 hst (by omega)) al3_nil)))) (by show 4 ≤ 20000; decide)
  refine ⟨fn_tup (n := 5) (al3_cons ((fnR_proc h1 (wl p (by simp))).mono (by decide)) (al3_cons fn_int (al3_cons ftF (al3_cons ((fnR_back h6 (wl bk (by simp))).mono (by decide)) (al3_cons ((fnR_tok h7).mono (by decide)) (al3_cons (fnR_flt h8) al3_nil)))))) (by show 6 ≤ 20000; decide), fun p dp f b t w h => ?_⟩
  injection h with h
  injection h with _ h
  injection h with _ h
  injection h with _ h
  injection h with _ h
  injection h with _ h
  injection h with h _
  exact ⟨_, h.symm⟩
/-- a text that is read as a bundle is its text -/
theorem bun_good {t : Str} {d : PyData} (h : bunR t = .inr d) (hl : t.length ≤ 10000) : Fit d ∧ BEnt d ∧ bunD d = true ∧ BundG d ∧ bT d = t := by
  obtain ⟨f1, f2, f3⟩ := split_facts (t := t) (y := "\n") (by decide +kernel) (by decide +kernel)
  obtain ⟨L, u, eP⟩ : ∃ L u, Txt.split t "\n" = L ++ [u] := ⟨_, _, (List.dropLast_concat_getLast f1).symm⟩
  have ej := join_split (y := "\n") (s := 10) rfl (by decide +kernel) t
  have eB : bunR t = linR L u := by
    unfold bunR
    rw [eP, List.dropLast_concat]
    congr 1
    simp
  rw [eB] at h
  rw [eP] at ej f3 f2
  cases L with
  | nil => cases h
  | cons l r =>
    rw [linR_cons] at h
    split at h
    · cases h
    rename_i hd hh
    split at h
    · cases h
    rename_i es he
    split at h
    · rename_i hu
      cases h
      obtain ⟨e1, e2, o, m, n, q, od, vs, i, eW, h1, h2, h3, rfl⟩ := headR_back hh es
      obtain ⟨g1, g2, g3, _⟩ := entsR_ok he
      have ll : ∀ x ∈ l :: r, x.length ≤ 10000 := fun x hx => Nat.le_trans (f3 x (List.mem_append_left _ hx)) hl
      have lr : r.length ≤ 10000 := by
        rw [List.length_append, List.length_cons] at f2
        omega
      have at_ : ∀ e ∈ es, ∃ x ∈ r, entR (Txt.split x " ") = some e := fun e hm => by
        obtain ⟨k, hk⟩ := List.mem_iff_getElem?.mp hm
        have hk1 := (List.getElem?_eq_some_iff.mp hk).1
        obtain ⟨x, hx⟩ : ∃ x, r[k]? = some x := ⟨_, List.getElem?_eq_getElem (by omega)⟩
        exact ⟨x, List.mem_of_getElem? hx, g2 k x e hx hk⟩
      have c : ((objD od && (codeD (.str m) && (valsD (.tuple vs) && natD (.int i)))) && entsD (.tuple [])) = true := e2
      obtain ⟨c0, _⟩ := Bool.and_eq_true_iff.mp c
      obtain ⟨c1, c'⟩ := Bool.and_eq_true_iff.mp c0
      obtain ⟨c2, c'⟩ := Bool.and_eq_true_iff.mp c'
      obtain ⟨c3, c4⟩ := Bool.and_eq_true_iff.mp c'
      have jl := join_split (y := " ") (s := 32) rfl (by decide +kernel) l
      obtain ⟨k1, k2, k3⟩ := split_facts (t := l) (y := " ") (by decide +kernel) (by decide +kernel)
      have hl0 := ll l List.mem_cons_self
      rw [eW] at jl k2 k3
      have wl : ∀ x ∈ hw7 o m n q, x.length ≤ 10000 := fun x hx => Nat.le_trans (k3 x hx) hl0
      have hq : ∀ x ∈ q, x.length ≤ 10000 := fun x hx => wl x (List.mem_append_right _ hx)
      have lq : q.length ≤ 10000 := by
        have e : (hw7 o m n q).length = 7 + q.length := by
          rw [List.length_append]
          rfl
        rw [e] at k2
        omega
      have v1 : (vsT vs).length ≤ 10000 := by
        rw [vsT_len h2]
        refine Nat.le_trans (vs_part "object" [o, "maker", m, "count", n, "fields"] q []) ?_
        rw [List.append_nil]
        refine Nat.le_trans (Nat.le_of_eq ?_) hl0
        exact congrArg Str.length jl
      have eText : bT (.tuple [od, .str m, .tuple vs, .tuple es, .int i]) = t := by
        have eL : linesT (.tuple [od, .str m, .tuple vs, .tuple es, .int i]) = l :: r := by
          show Txt.join " " (headW (.tuple [od, .str m, .tuple vs, .tuple es, .int i])) :: es.map (fun e => Txt.join " " (entW e)) = _
          rw [show headW (.tuple [od, .str m, .tuple vs, .tuple es, .int i]) = Txt.split l " " from e1, eW, jl]
          congr 1
          refine List.ext_getElem (by rw [List.length_map]; exact g1) fun k z1 z2 => ?_
          rw [List.getElem_map]
          rw [List.length_map] at z1
          exact (entG_of (g2 k _ _ (List.getElem?_eq_getElem z2) (List.getElem?_eq_getElem z1)) (ll _ (List.mem_cons_of_mem _ (List.getElem_mem z2)))).2
        show cat ((linesT _).map fun z => z ++ "\n") = t
        rw [join_ends, eL, ← ej, hu]
        rfl
      have hes : ∀ x ∈ es, Fn 6 x ∧ EntOk x ∧ EntG x ∧ entD x = true := fun x hx => by
        obtain ⟨y, hy, h⟩ := at_ x hx
        have l' := ll y (List.mem_cons_of_mem _ hy)
        exact ⟨(fn_entR h l').1, (fn_entR h l').2, (entG_of h l').1, entR_ok h⟩
      have n1 := natD_ok c4
      refine ⟨depth_bund (fnR_obj h1 (wl o (by simp))) (fn_str (op_str c2) (Nat.le_trans (op_len c2) (by decide))) (fnR_valsT h2 hq (by omega)) (fn_tup (fun x hx => (hes x hx).1) (by omega)),
        ent_of_tup (fun ds e => by injection e with e; subst e; exact fun x hx => (hes x hx).2.1), ?_, ⟨od, m, vs, es, i, rfl, objG_of h1 (wl o (by simp)) c1, op_len c2, ⟨by rw [valsR_len h2]; exact lq, v1⟩, valsG_of h2 hq c3, ⟨by omega, Nat.le_trans (Nat.le_of_eq (congrArg Str.length eText)) hl⟩, fun x hx => (hes x hx).2.2.1, n1.1, n1.2⟩, eText⟩
      show ((objD od && (codeD (.str m) && (valsD (.tuple vs) && natD (.int i)))) && (es.all entD && (List.zipWith (fun b e => abvD e b) es es.tail).all id)) = true
      rw [c1, c2, c3, c4, g3, show es.all entD = true from List.all_eq_true.mpr fun x hx => (hes x hx).2.2.2]
      rfl
    · cases h
theorem Txt.e_BadForm (T : Txt K mg w a) : ExcC K (He.ga K "BadForm") := ⟨T.m1_, T.m2_, T.s_BadForm, T.m4_, T.m5_, T.m6_, T.m7_, T.m8_⟩
theorem Txt.xf_BadForm (T : Txt K mg w a) : XfC K (He.ga K "BadForm") := ⟨T.m1_, T.m2_, T.s_BadForm, T.m4_⟩
def spLL (K : PySem.W.Frag) : Sp := fun vs H Q _ => ∃ t : Str, vs = [.str t] ∧ t.length ≤ 10000 ∧ Asc t ∧ (∀ d, bunR t = .inr d → ∀ H', Same H H' → Q (.int 0) H') ∧ (∀ n : Nat, bunR t = .inl n → ∀ H', Same H H' → Q (.int n) H')
theorem ok_lw_line (hP : SupI.SupP P fileP) (T : Txt K mg w a) : FnOk P w K mg base CX0 12 (He.ga K "_law_line") a.d_lw_line ["text"] (spLL K) := by
  have gr := ok_read_bundle (P := P) (w := w) (base := base) hP T
  refine T.F_lw_line.ok sc_lw_line (fun vs H Q E h => ?_) (fun cdv A outer s H vs Q E hr h => ?_)
  · obtain ⟨t, rfl, _⟩ := h
    rfl
  · obtain ⟨t, rfl, hl, asc, q, qe⟩ := h
    refine ⟨_, PSs.nox (pss_cons (ps_try_as (i := 2) rfl rfl sc_lw_line.nd rfl rfl ⟨rfl, by decide, .inl T.g_BadForm⟩ takes0 (fun W pn xe tk _ => (pss_one (ps_set (i := 1) sc_lw_line.nd rfl (Or.inl rfl) (pe_callS gr (hr.mono (by omega)) (by rfl) T.g_read_bundle T.F_read_bundle.kp T.b_read_bundle (fun σ => passAt tk σ) (pa_cons (pv 0) pa_nil)))))
      (fun a oe cls d pn hz hf => (pss_cons (ps_if (PW.pt (pw_or (pt_not (pt_val (pe_callB (IsED.call_isED hz hf) (by rfl) T.g_isinstance boot_isinstance (pa_cons (pv 2) (pa_cons (pe_glob (v := .ref (He.ga K "PortError")) (by rfl) T.g_PortError rfl) pa_nil))))) (pw_or1 (pt_val (pe_callB (IsED.call_isED hz hf) (by rfl) T.g_isinstance boot_isinstance (pa_cons (pv 2) (pa_cons (pe_glob (v := .ref (He.ga K "NotAllowed")) (by rfl) T.g_NotAllowed rfl) pa_nil))))))) (pss_one (ps_ret (pe_un un_neg pe_int))) pss_nil)
      (pss_one (ps_ret (pe_xf T.xf_BadForm T.l_BadForm hz hf (pv 2)))))))
      (pss_cons (ps_if (PW.pt (pw_or (pt_not (pt_val (pe_call (ok_is_bundle T) (hr.mono (by omega)) (by rfl) T.g_is_bundle T.F_is_bundle.kp T.b_is_bundle .nil pass0 (pa_cons (pv 1) pa_nil)))) (pw_or1 (pt_cmpR op_ne (pe_call (ok_bundle_text T) (hr.mono (by omega)) (by rfl) T.g_bundle_text T.F_bundle_text.kp T.b_bundle_text .nil pass0 (pa_cons (pv 1) pa_nil)) (pv 0) (nomark _))))) (pss_one (ps_ret (pe_un un_neg pe_int))) pss_nil)
      (pss_one (ps_ret pe_int)))), ?_⟩
    rw [show L2.start N_lw_line [.str t] = [some (.str t), none, none] from rfl]
    refine ⟨_, rfl, t, rfl, hl, asc, fun d hd v H1 s1 rv => ?_, fun n hn d H1 s1 nd => ⟨true, T.e4_, fun _ b nb => ?_, fun z => nomatch z⟩⟩
    · simp only [gName, List.set_cons_succ, List.set_cons_zero]
      obtain ⟨ft, be, hb, hg, et⟩ := bun_good hd hl
      refine ⟨_, rfl, v, d, rfl, rv, ft, be, fun H2 s2 => ⟨_, rfl, Cm.itBn (fun e => by rw [hb] at e; cases e) fun _ => ?_⟩⟩
      refine ⟨_, rfl, v, d, rfl, rv.keep (Same.tups s2), hg, fun H3 s3 => ⟨_, rfl, rfl, _, rfl, Cm.itNS (fun z => absurd et z) fun _ => ?_⟩⟩
      exact q d hd H3 ((s1.trans s2).trans s3)
    · have sX : Same H (L2.upd H1 d (.xd [("line", .int (n : Nat))])) := s1.trans (Cm.same_new nd)
      have hx : (L2.upd H1 d (.xd [("line", .int (n : Nat))])) d = some (.xd [("line", .int (n : Nat))]) := upd_same
      generalize L2.upd H1 d _ = H2 at *
      refine ⟨_, rfl, _, _, _, _, .ref (He.ga K "PortError"), true, rfl, rfl, rfl, T.e_BadForm, hx, (fun u h => h), T.e2_, true, rfl, ?_⟩
      refine Cm.itBn (fun e => by cases e) fun _ => ?_
      refine ⟨_, rfl, _, _, _, _, .ref (He.ga K "NotAllowed"), false, rfl, rfl, rfl, T.e_BadForm, hx, (fun u h => h), T.e3_, false, rfl, ?_⟩
      refine Cm.itB (fun e => by cases e) fun _ => ?_
      refine ⟨_, rfl, rfl, rfl, _, _, _, rfl, hx, rfl, ?_⟩
      exact qe n hn H2 sX
def spOT (K : PySem.W.Frag) : Sp := fun vs H Q _ => ∃ (v : V) (d : PyData), vs = [v] ∧ Rp K H v d ∧ ObjD d ∧ ∀ H', Same H H' → Q (.str (oT d)) H'
def spVT (K : PySem.W.Frag) : Sp := fun vs H Q _ => ∃ (v : V) (d : PyData), vs = [v] ∧ Rp K H v d ∧ ValD d ∧ ∀ H', Same H H' → Q (.str (vT d)) H'
def spBT (K : PySem.W.Frag) : Sp := fun vs H Q _ => ∃ (v : V) (d : PyData), vs = [v] ∧ Rp K H v d ∧ BundD d ∧ ∀ H', Same H H' → Q (.str (bT d)) H'
theorem ok_lw_name_text (T : Txt K mg w a) : FnOk P w K mg base CX0 1 (He.ga K "_law_name_text") a.d_lw_name_text ["name"] (spOT K) := by
  refine T.F_lw_name_text.ok sc_lw_name_text (fun vs H Q E h => ?_) (fun cdv A outer s H vs Q E hr h => ?_)
  · obtain ⟨v, d, rfl, _⟩ := h
    rfl
  · obtain ⟨v, d, rfl, r, ho, q⟩ := h
    refine ⟨_, PSs.nox (pss_one (ps_ret (pe_op op_add_str (pe_op op_add_str (pe_op op_add_str pe_str (pe_join pe_str (pe_lc (own := [("number", 1)]) (g := gName 1) (tt := tYes)  (by rfl) sc_lw_name_text.nd (pi_tup (pe_ix ix_tup (pv 0) pe_int (fun _ _ => rfl))) (blkOk_by (own := [("number", 1)]) (N := N_lw_name_text) (sc := defScope s_lw_name_text) (by decide +kernel)) (fun _ _ _ _ _ => pg_name (i := 1) sc_lw_name_text.nd rfl (Or.inl rfl)) (fun _ _ _ _ _ => pts_nil) (fun _ _ _ _ _ => (pe_op op_add_str pe_str (pe_callTy call_str_int (by rfl) T.g_str boot_str (pa_cons (pv 1) pa_nil))))))) pe_str) (pe_callTy call_str_int (by rfl) T.g_str boot_str (pa_cons (pe_ix ix_tup (pv 0) pe_int (fun _ _ => rfl)) pa_nil))))), ?_⟩
    rw [show L2.start N_lw_name_text [v] = [some v, none] from rfl]
    obtain ⟨pd, k, rfl, hp, k0, k1⟩ := ho
    have lpT := len_pT hp
    obtain ⟨ns, rfl, ln, hn⟩ := hp
    obtain ⟨pa, xs, rfl, hpa, rs⟩ := r.tup_inv
    obtain ⟨w1, r1, rfl, rp, rs⟩ := rs.cons_inv
    obtain ⟨w2, r2, rfl, rk, rs⟩ := rs.cons_inv
    obtain rfl := rs.nil_inv
    obtain rfl := rk.int_inv
    obtain ⟨na, zs, rfl, hna, rz⟩ := rp.tup_inv
    have hlen := rz.len
    rw [List.length_map] at hlen
    refine ⟨⟨_, rfl⟩, _, rfl, pa, _, 0, _, rfl, rfl, hpa, atI_nat (j := 0) rfl, na, rfl, ⟨_, hna⟩, fun D nD => ?_⟩
    refine lc_tup (K := K) (a := na) (xs := zs) (fun j Hj => Same H Hj ∧ ∃ bs : List Str, Hj D = some (.lst (bs.map V.str)) ∧ bs = (ns.take j).map (fun n => "." ++ num n) ∧ bs.length ≤ j) ⟨Cm.same_new nD, [], upd_same, rfl, Nat.le_refl _⟩ (fun j Hj _ b => Cm.sameT b.1 hna) (fun j y Hj hy b => ?_) fun Hj b => ?_
    · obtain ⟨sJ, bs, hD, eb, lb⟩ := b
      refine ⟨rfl, ?_⟩
      have hj : j < ns.length := by
        have := (List.getElem?_eq_some_iff.mp hy).1
        omega
      obtain ⟨y', hy', ry⟩ := rz.at_ (i := j) (d := .int ns[j]) (by rw [List.getElem?_map, List.getElem?_eq_getElem hj]; rfl)
      rw [hy] at hy'
      cases hy'
      obtain rfl := ry.int_inv
      have hb := hn _ (List.getElem_mem hj)
      have l1 := len_pos hb.1 (by omega)
      refine ⟨_, rfl, _, rfl, log_small (by omega) (by omega), _, _, rfl, rfl, (by rw [← app_len]; exact sz (j1 (jL (x := ".") (n := 1) rfl) l1) rfl), ?_⟩
      refine ⟨_, hD, Cm.smallL (by rw [List.length_map]; omega), Cm.same_mut sJ nD, bs ++ ["." ++ num ns[j]], ?_, ?_, by rw [List.length_append]; simp only [List.length_cons, List.length_nil]; omega⟩
      · rw [upd_same, List.map_append]
        rfl
      · rw [List.take_succ, List.getElem?_eq_getElem hj, List.map_append, eb]
        rfl
    · obtain ⟨sJ, bs, hD, eb, lb⟩ := b
      rw [hlen, List.take_length] at eb
      have hbs : ∀ x ∈ bs, x.length ≤ 14 := fun x hx => by
        rw [eb] at hx
        obtain ⟨n, hn', rfl⟩ := List.mem_map.mp hx
        have hb := hn n hn'
        exact j1 (jL (n := 1) rfl) (len_pos hb.1 (by omega))
      have ep : ("p" : Str) ++ cat bs = pT (.tuple (ns.map PyData.int)) := by rw [pT_eq, cat_cons, eb]
      have c1 : (("p" : Str) ++ cat bs).length ≤ 50 := by rw [ep]; exact lpT
      have c2 := j1 c1 (jL (x := "#") (n := 1) rfl)
      have c3 := j1 c2 (len_pos k0 (by omega))
      refine ⟨_, D, bs, rfl, rfl, .inl (SqL.of hD), sum_ok hbs (by omega), ?_⟩
      rw [e0]
      refine ⟨_, _, rfl, rfl, (by rw [← app_len]; exact sz c1 rfl), _, _, rfl, rfl, (by rw [← app_len]; exact sz c2 rfl), ?_⟩
      refine ⟨_, rfl, pa, _, 1, _, rfl, rfl, Cm.sameT sJ hpa, atI_nat (j := 1) rfl, _, rfl, log_small (by omega) (by omega), _, _, rfl, rfl, (by rw [← app_len]; exact sz c3 rfl), ?_⟩
      have := q Hj sJ
      rw [oT_eq, ← ep] at this
      exact this
theorem ok_lw_value_text (T : Txt K mg w a) : FnOk P w K mg base CX0 2 (He.ga K "_law_value_text") a.d_lw_value_text ["value"] (spVT K) := by
  refine T.F_lw_value_text.ok sc_lw_value_text (fun vs H Q E h => ?_) (fun cdv A outer s H vs Q E hr h => ?_)
  · obtain ⟨v, d, rfl, _⟩ := h
    rfl
  · obtain ⟨v, d, rfl, r, hv, q⟩ := h
    refine ⟨_, PSs.nox (pss_cons (ps_if (pt_val (pe_callB call_isi (by rfl) T.g_isinstance boot_isinstance (pa_cons (pv 0) (pa_cons (pe_bltn (v := .ty "int") (by rfl) T.g_int boot_int rfl) pa_nil)))) (pss_one (ps_ret (pe_callTy call_str_int (by rfl) T.g_str boot_str (pa_cons (pv 0) pa_nil)))) pss_nil)
      (pss_cons (ps_if (pt_cmpR op_eq (pe_ix ix_tup (pv 0) pe_int (fun _ _ => rfl)) pe_str (nomark _)) (pss_one (ps_ret pe_str)) pss_nil)
      (pss_one (ps_ret (pe_call (ok_lw_name_text T) (hr.mono (by omega)) (by rfl) T.g_lw_name_text T.F_lw_name_text.kp T.b_lw_name_text .nil pass0 (pa_cons (pe_ix ix_tup (pv 0) pe_int (fun _ _ => rfl)) pa_nil)))))), ?_⟩
    rw [show L2.start N_lw_value_text [v] = [some v] from rfl]
    obtain ⟨t, hT, hK⟩ := isiI r
    refine ⟨_, rfl, _, _, _, _, _, rfl, .ty "int", hT, hK, _, rfl, ?_⟩
    rcases hv with rfl | ⟨o, ho, rfl⟩ | ⟨i, rfl, h0, h1⟩
    · refine Cm.itB (fun e => by cases e) fun _ => ?_
      obtain ⟨pa, xs, rfl, hpa, rs⟩ := r.tup_inv
      obtain ⟨w1, r1, rfl, r1', rs⟩ := rs.cons_inv
      obtain rfl := rs.nil_inv
      obtain rfl := r1'.str_inv
      exact ⟨_, rfl, pa, _, 0, _, rfl, rfl, hpa, atI_nat (j := 0) rfl, rfl, _, rfl, Cm.itES (fun _ => q H (Same.refl H)) fun e => absurd rfl e⟩
    · refine Cm.itB (fun e => by cases e) fun _ => ?_
      obtain ⟨pa, xs, rfl, hpa, rs⟩ := r.tup_inv
      obtain ⟨w1, r1, rfl, r1', rs⟩ := rs.cons_inv
      obtain ⟨w2, r2, rfl, ro, rs⟩ := rs.cons_inv
      obtain rfl := rs.nil_inv
      obtain rfl := r1'.str_inv
      exact ⟨_, rfl, pa, _, 0, _, rfl, rfl, hpa, atI_nat (j := 0) rfl, rfl, _, rfl, Cm.itES (fun e => absurd e (by decide +kernel)) fun _ => ⟨_, rfl, pa, _, 1, _, rfl, rfl, hpa, atI_nat (j := 1) rfl, w2, o, rfl, ro, ho, q⟩⟩
    · refine Cm.itB (fun _ => ?_) fun e => by cases e
      obtain rfl := r.int_inv
      exact ⟨_, rfl, i, rfl, log_small h0 h1, q H (Same.refl H)⟩
theorem ok_lw_text (T : Txt K mg w a) : FnOk P w K mg base CX0 3 (He.ga K "_law_text") a.d_lw_text ["bundle"] (spBT K) := by
  refine T.F_lw_text.ok sc_lw_text (fun vs H Q E h => ?_) (fun cdv A outer s H vs Q E hr h => ?_)
  · obtain ⟨v, d, rfl, _⟩ := h
    rfl
  · obtain ⟨v, d, rfl, r, hd, q⟩ := h
    refine ⟨_, PSs.nox (pss_cons (ps_asg (pv 0) (pg_tup (by rfl) (pgs_cons (pg_name (i := 1) sc_lw_text.nd rfl (Or.inl rfl)) (pgs_cons (pg_name (i := 2) sc_lw_text.nd rfl (Or.inl rfl)) (pgs_cons (pg_name (i := 3) sc_lw_text.nd rfl (Or.inl rfl)) (pgs_cons (pg_name (i := 4) sc_lw_text.nd rfl (Or.inl rfl)) (pgs_cons (pg_name (i := 5) sc_lw_text.nd rfl (Or.inl rfl)) pgs_nil)))))))
      (pss_cons (ps_set (i := 6) sc_lw_text.nd rfl (Or.inl rfl) (pe_lst (pa_cons (pe_join pe_str (pe_op op_cat (pe_lst (pa_cons pe_str (pa_cons (pe_call (ok_lw_name_text T) (hr.mono (by omega)) (by rfl) T.g_lw_name_text T.F_lw_name_text.kp T.b_lw_name_text .nil pass0 (pa_cons (pv 1) pa_nil)) (pa_cons pe_str (pa_cons (pv 2) (pa_cons pe_str (pa_cons (pe_callTy call_str_int (by rfl) T.g_str boot_str (pa_cons (pv 5) pa_nil)) (pa_cons pe_str pa_nil)))))))) (pe_lc (own := [("one", 15)]) (g := gName 15) (tt := tYes)  (by rfl) sc_lw_text.nd (pi_tup (pv 3)) (blkOk_by (own := [("one", 15)]) (N := N_lw_text) (sc := defScope s_lw_text) (by decide +kernel)) (fun _ _ _ _ _ => pg_name (i := 15) sc_lw_text.nd rfl (Or.inl rfl)) (fun _ _ _ _ _ => pts_nil) (fun _ _ _ _ _ => (pe_call (ok_lw_value_text T) (hr.mono (by omega)) (by rfl) T.g_lw_value_text T.F_lw_value_text.kp T.b_lw_value_text .nil pass0 (pa_cons (pv 15) pa_nil)))))) pa_nil)))
      (pss_cons (ps_for PassesOwn.never rfl (pi_tup (pv 4)) (pg_tup (by rfl) (pgs_cons (pg_name (i := 7) sc_lw_text.nd rfl (Or.inl rfl)) (pgs_cons (pg_name (i := 8) sc_lw_text.nd rfl (Or.inl rfl)) (pgs_cons (pg_name (i := 9) sc_lw_text.nd rfl (Or.inl rfl)) (pgs_cons (pg_name (i := 10) sc_lw_text.nd rfl (Or.inl rfl)) (pgs_cons (pg_name (i := 11) sc_lw_text.nd rfl (Or.inl rfl)) (pgs_cons (pg_name (i := 12) sc_lw_text.nd rfl (Or.inl rfl)) pgs_nil)))))))
      (pss_cons (ps_set (i := 13) sc_lw_text.nd rfl (Or.inl rfl) (pe_lst (pa_cons pe_str (pa_cons (pe_slice sl_str (pe_call (ok_lw_name_text T) (hr.mono (by omega)) (by rfl) T.g_lw_name_text T.F_lw_name_text.kp T.b_lw_name_text .nil pass0 (pa_cons (pe_tup (pa_cons (pv 7) (pa_cons pe_int pa_nil))) pa_nil)) po_none (po_some (pe_un un_neg pe_int))) (pa_cons pe_str (pa_cons (pe_callTy call_str_int (by rfl) T.g_str boot_str (pa_cons (pv 8) pa_nil)) (pa_cons pe_str (pa_cons (pe_ix ix_tup (pv 9) pe_int (fun _ _ => rfl)) (pa_cons pe_str (pa_cons (pe_callTy call_str_int (by rfl) T.g_str boot_str (pa_cons (pe_ix ix_tup (pv 9) pe_int (fun _ _ => rfl)) pa_nil)) (pa_cons pe_str pa_nil)))))))))))
      (C8.pss_cut (ps_if (pt_cmpR (op_eqD hr.units) (pv 10) (pe_tup pa_nil) (nomark _)) (pss_one (ps_expr (pe_bm PySem.F.plainAttrs_list PySem.F.slot_list_append PySem.F.type_list_append mt_append (pv 13) (pa_cons pe_str pa_nil)))) (pss_one (ps_expr (pe_bm PySem.F.plainAttrs_list PySem.F.slot_list_append PySem.F.type_list_append mt_append (pv 13) (pa_cons (pe_call (ok_lw_name_text T) (hr.mono (by omega)) (by rfl) T.g_lw_name_text T.F_lw_name_text.kp T.b_lw_name_text .nil pass0 (pa_cons (pv 10) pa_nil)) pa_nil)))))
      (pss_cons (ps_expr (pe_bm PySem.F.plainAttrs_list PySem.F.slot_list_append PySem.F.type_list_append mt_append (pv 13) (pa_cons pe_str pa_nil)))
      (C8.pss_cut (ps_if (pt_cmpR op_isN (pv 11) pe_non (nomark _)) (pss_one (ps_expr (pe_bm PySem.F.plainAttrs_list PySem.F.slot_list_append PySem.F.type_list_append mt_append (pv 13) (pa_cons pe_str pa_nil)))) (pss_one (ps_expr (pe_bm PySem.F.plainAttrs_list PySem.F.slot_list_append PySem.F.type_list_append mt_append (pv 13) (pa_cons (pe_op op_add_str (pe_op op_add_str (pe_callTy call_str_int (by rfl) T.g_str boot_str (pa_cons (pe_ix ix_tup (pv 11) pe_int (fun _ _ => rfl)) pa_nil)) pe_str) (pe_callTy call_str_int (by rfl) T.g_str boot_str (pa_cons (pe_ix ix_tup (pv 11) pe_int (fun _ _ => rfl)) pa_nil))) pa_nil)))))
      (pss_cons (ps_set (i := 13) sc_lw_text.nd rfl (Or.inl rfl) (pe_op op_cat (pe_op op_cat (pv 13) (pe_lst (pa_cons pe_str (pa_cons (pe_ix ix_list (pe_lst (pa_cons (pv 12) (pa_cons pe_str pa_nil))) (pe_callTy call_int1 (by rfl) T.g_int boot_int (pa_cons (pe_cmpR op_eq (pv 12) pe_str (nomark _)) pa_nil)) (fun _ _ => rfl)) (pa_cons pe_str pa_nil))))) (pe_lc (own := [("one", 15)]) (g := gName 15) (tt := tYes)  (by rfl) sc_lw_text.nd (pi_tup (pe_ix ix_tup (pv 9) pe_int (fun _ _ => rfl))) (blkOk_by (own := [("one", 15)]) (N := N_lw_text) (sc := defScope s_lw_text) (by decide +kernel)) (fun _ _ _ _ _ => pg_name (i := 15) sc_lw_text.nd rfl (Or.inl rfl)) (fun _ _ _ _ _ => pts_nil) (fun _ _ _ _ _ => (pe_call (ok_lw_value_text T) (hr.mono (by omega)) (by rfl) T.g_lw_value_text T.F_lw_value_text.kp T.b_lw_value_text .nil pass0 (pa_cons (pv 15) pa_nil))))))
      (pss_one (ps_expr (pe_bm PySem.F.plainAttrs_list PySem.F.slot_list_append PySem.F.type_list_append mt_append (pv 6) (pa_cons (pe_join pe_str (pe_op op_cat (pe_op op_cat (pv 13) (pe_lst (pa_cons pe_str pa_nil))) (pe_lc (own := [("one", 15)]) (g := gName 15) (tt := tYes)  (by rfl) sc_lw_text.nd (pi_tup (pe_ix ix_tup (pv 9) pe_int (fun _ _ => rfl))) (blkOk_by (own := [("one", 15)]) (N := N_lw_text) (sc := defScope s_lw_text) (by decide +kernel)) (fun _ _ _ _ _ => pg_name (i := 15) sc_lw_text.nd rfl (Or.inl rfl)) (fun _ _ _ _ _ => pts_nil) (fun _ _ _ _ _ => (pe_call (ok_lw_value_text T) (hr.mono (by omega)) (by rfl) T.g_lw_value_text T.F_lw_value_text.kp T.b_lw_value_text .nil pass0 (pa_cons (pv 15) pa_nil)))))) pa_nil))))))))))
      (pss_one (ps_ret (pe_join pe_str (pe_lc (own := [("line", 14)]) (g := gName 14) (tt := tYes)  (by rfl) sc_lw_text.nd (pi_list (pv 6)) (blkOk_by (own := [("line", 14)]) (N := N_lw_text) (sc := defScope s_lw_text) (by decide +kernel)) (fun _ _ _ _ _ => pg_name (i := 14) sc_lw_text.nd rfl (Or.inl rfl)) (fun _ _ _ _ _ => pts_nil) (fun _ _ _ _ _ => (pe_op op_add_str (pv 14) pe_str))))))))), ?_⟩
    rw [show L2.start N_lw_text [v] = [some v, none, none, none, none, none, none, none, none, none, none, none, none, none, none, none] from rfl]
    have hd' := hd
    obtain ⟨nm, mk, vs, es, c, rfl, ho, hm, lv, hv, le, he, c0, c1⟩ := hd
    obtain ⟨pa, xs, rfl, hpa, rs⟩ := r.tup_inv
    obtain ⟨w1, r1, rfl, rnm, rs⟩ := rs.cons_inv
    obtain ⟨w2, r2, rfl, rmk, rs⟩ := rs.cons_inv
    obtain ⟨w3, r3, rfl, rfs, rs⟩ := rs.cons_inv
    obtain ⟨w4, r4, rfl, res, rs⟩ := rs.cons_inv
    obtain ⟨w5, r5, rfl, rct, rs⟩ := rs.cons_inv
    obtain rfl := rs.nil_inv
    obtain rfl := rmk.str_inv
    obtain rfl := rct.int_inv
    refine ⟨_, rfl, pa, _, rfl, hpa, rfl, _, _, rfl, _, _, rfl, _, _, rfl, _, _, rfl, _, _, rfl, rfl, ?_⟩
    simp only [gName, List.set_cons_succ, List.set_cons_zero]
    have hml : mk.length ≤ 6 := len_words mk (makers_in mk hm)
    refine ⟨⟨_, rfl⟩, _, rfl, w1, nm, rfl, rnm, ho, fun H1 s1 => ?_⟩
    refine ⟨_, rfl, _, rfl, _, rfl, log_small (by omega) (by omega), Cm.small (by show 7 ≤ 100000; decide), fun l1 nl1 => ?_⟩
    have sl1 := Cm.same_new (o := .lst [.str "object", .str (oT nm), .str "maker", .str mk, .str "count", .str (num c), .str "fields"]) nl1
    have hl1 : (L2.upd H1 l1 (.lst [.str "object", .str (oT nm), .str "maker", .str mk, .str "count", .str (num c), .str "fields"])) l1 = some (.lst (([("object" : Str), oT nm, "maker", mk, "count", num c, "fields"] : List Str).map V.str)) := upd_same
    generalize L2.upd H1 l1 _ = H2 at *
    have s12 := s1.trans sl1
    obtain ⟨fa, fvs, rfl, hfa, rfv⟩ := rfs.tup_inv
    have hlen := rfv.len
    have hfa2 := Cm.sameT s12 hfa
    refine ⟨_, rfl, fa, rfl, ⟨_, hfa2⟩, fun D0 nD0 => ?_⟩
    refine lc_tup (K := K) (a := fa) (xs := fvs) (fun j Hj => Same H2 Hj ∧ ∃ bs : List Str, Hj D0 = some (.lst (bs.map V.str)) ∧ bs = (vs.take j).map vT ∧ bs.length ≤ j) ⟨Cm.same_new nD0, [], upd_same, rfl, Nat.le_refl _⟩ (fun j Hj _ b => Cm.sameT b.1 hfa2) (fun j y Hj hy b => ?_) fun Hj0 b => ?_
    · obtain ⟨sJ, bs, hD, eb, lb⟩ := b
      refine ⟨rfl, ?_⟩
      have hj : j < vs.length := by
        rw [← hlen]
        exact (List.getElem?_eq_some_iff.mp hy).1
      obtain ⟨y', hy', ry⟩ := rfv.at_ (i := j) (d := vs[j]) (List.getElem?_eq_getElem hj)
      rw [hy] at hy'
      cases hy'
      have hvj := hv _ (List.getElem_mem hj)
      refine ⟨_, rfl, y, vs[j], rfl, ry.keep (Same.tups ((s12).trans sJ)), hvj, fun H2 s2 => ?_⟩
      refine ⟨_, s2 _ _ hD, Cm.smallL (by rw [List.length_map]; omega), Cm.same_mut (sJ.trans s2) nD0, bs ++ [vT vs[j]], ?_, ?_, by rw [List.length_append]; simp only [List.length_cons, List.length_nil]; omega⟩
      · rw [upd_same, List.map_append]
        rfl
      · rw [List.take_succ, List.getElem?_eq_getElem hj, List.map_append, eb]
        rfl
    obtain ⟨sJ0, bs0, hD0, eb0, _⟩ := b
    rw [hlen, List.take_length] at eb0
    have lb0 : bs0.length ≤ 4 := by rw [eb0, List.length_map]; omega
    have hb0 : ∀ x ∈ bs0, x.length ≤ 70 := fun x hx => by
      rw [eb0] at hx
      obtain ⟨d, hd, rfl⟩ := List.mem_map.mp hx
      exact len_vT (hv d hd)
    have s13 := s12.trans sJ0
    refine ⟨l1, D0, _, _, rfl, rfl, sJ0 _ _ hl1, hD0, Cm.small (by rw [List.length_map, List.length_map]; show 7 + bs0.length ≤ 100000; omega), fun l2 nl2 => ?_⟩
    have s14 := s13.trans (Cm.same_new (o := .lst (([("object" : Str), oT nm, "maker", mk, "count", num c, "fields"].map V.str) ++ bs0.map V.str)) nl2)
    have eW : headW (.tuple [nm, .str mk, .tuple vs, .tuple es, .int c]) = [("object" : Str), oT nm, "maker", mk, "count", num c, "fields"] ++ bs0 := by rw [eb0]; rfl
    refine ⟨_, l2, headW (.tuple [nm, .str mk, .tuple vs, .tuple es, .int c]), rfl, rfl, .inl ?_, ?_, ?_⟩
    · rw [eW, List.map_append]
      exact SqL.of upd_same
    · rw [eW]
      refine sum_ok1 (n := 70) (fun x hx => ?_) rfl (by rw [List.length_append]; show 70 * (7 + _) + (7 + _) ≤ 1000000; omega)
      rcases List.mem_append.mp hx with hx | hx
      · simp only [List.mem_cons, List.not_mem_nil, or_false] at hx
        rcases hx with rfl | rfl | rfl | rfl | rfl | rfl | rfl
        · exact jL rfl
        · exact len_oT ho
        · exact jL rfl
        · omega
        · exact jL rfl
        · exact Nat.le_trans (len_pos c0 c1) (by decide)
        · exact jL rfl
      · exact hb0 x hx
    generalize hHL : Txt.join " " (headW (.tuple [nm, .str mk, .tuple vs, .tuple es, .int c])) = hl0
    refine ⟨Cm.small (by show 1 ≤ 100000; decide), fun ll nll => ?_⟩
    have sll := Cm.same_new (o := .lst [.str hl0]) nll
    have s15 := s14.trans sll
    have nH : H ll = none := by
      cases z : H ll with
      | none => rfl
      | some o =>
        have := s14 _ _ z
        rw [nll] at this
        cases this
    have hll : (L2.upd _ ll (.lst [.str hl0])) ll = some (.lst (([hl0] : List Str).map V.str)) := upd_same (H := L2.upd Hj0 l2 (.lst (([("object" : Str), oT nm, "maker", mk, "count", num c, "fields"].map V.str) ++ bs0.map V.str)))
    simp only [gName, List.set_cons_succ, List.set_cons_zero]
    generalize L2.upd _ ll (.lst [.str hl0]) = H5 at *
    obtain ⟨ea, evs, rfl, hea, rse⟩ := res.tup_inv
    have hlenE := rse.len
    refine ⟨_, rfl, ea, rfl, ⟨_, Cm.sameT s15 hea⟩, for_tup (K := K) (a := ea) (xs := evs) (fun j σ G => ∃ (x7 x8 x9 x10 x11 x12 x13 : Option V) (ws : List Str), σ = [some (.ref pa), some w1, some (.str mk), some (.ref fa), some (.ref ea), some (.int c), some (.ref ll), x7, x8, x9, x10, x11, x12, x13, none, none] ∧ Same H G ∧ G ll = some (.lst ((hl0 :: ws).map V.str)) ∧ ws = (es.take j).map (fun e => Txt.join " " (entW e)))
      ⟨_, _, _, _, _, _, _, [], rfl, s15, hll, rfl⟩ (fun j σ G _ ⟨_, _, _, _, _, _, _, _, _, sg, _⟩ => Cm.sameT sg hea) (fun j y σ G hy ⟨x7, x8, x9, x10, x11, x12, x13, ws, e, sG, hl, ew⟩ => ?_) fun σ G ⟨x7, x8, x9, x10, x11, x12, x13, ws, e, sG, hl, ew⟩ => ?_⟩
    · subst e
      have hj : j < es.length := by
        rw [← hlenE]
        exact (List.getElem?_eq_some_iff.mp hy).1
      obtain ⟨y', hy', ry⟩ := rse.at_ (i := j) (d := es[j]) (List.getElem?_eq_getElem hj)
      rw [hy] at hy'
      cases hy'
      have hej := he _ (List.getElem_mem hj)
      have hwl : ws.length = j := by
        rw [ew, List.length_map, List.length_take]
        omega
      have ew1 : (es.take (j + 1)).map (fun e => Txt.join " " (entW e)) = ws ++ [Txt.join " " (entW es[j])] := by
        rw [List.take_succ, List.getElem?_eq_getElem hj, List.map_append, ew]
        rfl
      generalize es[j] = ed at ry hej ew1
      obtain ⟨pd, dep, fr, back, tok, wd, rfl, hp, d0, d1, hf, hk0, hk1, ht, hw⟩ := hej
      obtain ⟨op, i, ls, st, rfl, hop, i0, i1, l1, l2, hls, hst⟩ := hf
      obtain ⟨pe, qs, rfl, hpe, rs⟩ := ry.tup_inv
      obtain ⟨u1, r1, rfl, rp, rs⟩ := rs.cons_inv
      obtain ⟨u2, r2, rfl, rdp, rs⟩ := rs.cons_inv
      obtain ⟨u3, r3, rfl, rfr, rs⟩ := rs.cons_inv
      obtain ⟨u4, r4, rfl, rbk, rs⟩ := rs.cons_inv
      obtain ⟨u5, r5, rfl, rtk, rs⟩ := rs.cons_inv
      obtain ⟨u6, r6, rfl, rwd, rs⟩ := rs.cons_inv
      obtain rfl := rs.nil_inv
      obtain rfl := rdp.int_inv
      obtain rfl := rwd.str_inv
      obtain ⟨fr, fs, rfl, hfr, rs⟩ := rfr.tup_inv
      obtain ⟨f1, r1, rfl, rop, rs⟩ := rs.cons_inv
      obtain ⟨f2, r2, rfl, ri, rs⟩ := rs.cons_inv
      obtain ⟨f3, r3, rfl, rls, rs⟩ := rs.cons_inv
      obtain ⟨f4, r4, rfl, rst, rs⟩ := rs.cons_inv
      obtain rfl := rs.nil_inv
      obtain rfl := rop.str_inv
      obtain rfl := ri.int_inv
      have hol : op.length ≤ 6 := len_words op (List.mem_of_mem_take (i := 4) hop)
      refine ⟨pe, _, rfl, Cm.sameT sG hpe, rfl, _, _, rfl, _, _, rfl, _, _, rfl, _, _, rfl, _, _, rfl, _, _, rfl, rfl, ?_⟩
      simp only [gName, List.set_cons_succ, List.set_cons_zero]
      refine ⟨_, rfl, Cm.small (by show 2 ≤ 100000; decide), fun t nt => ?_⟩
      have stt := Cm.same_new (o := .tup [u1, .int 0]) nt
      have sGt := sG.trans stt
      refine ⟨_, _, rfl, Rp.made (K := K) nt (.cons (rp.keep (Same.tups sG)) (.cons (.int 0) .nil)), ⟨pd, 0, rfl, hp, by decide, by decide⟩, fun G1 g1 => ?_⟩
      have g01 := sGt.trans g1
      have hfr1 := Cm.sameT g01 hfr
      have lo0 : (oT (.tuple [pd, .int 0])).length ≤ 70 := len_oT ⟨pd, 0, rfl, hp, by decide, by decide⟩
      refine ⟨_, rfl, _, rfl, _, rfl, sz lo0 rfl, _, rfl, _, rfl, log_small (by omega) (by omega), _, rfl, fr, _, 0, _, rfl, rfl, hfr1, atI_nat (j := 0) rfl, _, rfl, fr, _, 1, _, rfl, rfl, hfr1, atI_nat (j := 1) rfl, _, rfl, log_small (by omega) (by omega), ?_⟩
      refine ⟨Cm.small (by show 9 ≤ 100000; decide), fun pl npl => ?_⟩
      rw [show cutS (oT (.tuple [pd, .int 0])) none (some (-2)) = pT pd from cut_name pd]
      have spl := Cm.same_new (o := .lst [.str "frame", .str (pT pd), .str "depth", .str (num dep), .str "op", .str op, .str "at", .str (num i), .str "back"]) npl
      have g02 := g01.trans spl
      have nG : G pl = none := by
        cases z : G pl with
        | none => rfl
        | some o =>
          have := (stt.trans g1) _ _ z
          rw [npl] at this
          cases this
      have sG2 := (stt.trans g1).trans spl
      have hpl : (L2.upd G1 pl (.lst [.str "frame", .str (pT pd), .str "depth", .str (num dep), .str "op", .str op, .str "at", .str (num i), .str "back"])) pl = some (.lst ((["frame", pT pd, "depth", num dep, "op", op, "at", num i, "back"] : List Str).map V.str)) := upd_same
      generalize L2.upd G1 pl _ = G2 at *
      simp only [gName, List.set_cons_succ, List.set_cons_zero]
      have hbk : back = .tuple [] ∨ ObjD back := by
        by_cases e : dep = 0
        · exact .inl (hk0 e)
        · exact .inr (hk1 e)
      have hb9 : ∀ x ∈ ([("frame" : Str), pT pd, "depth", num dep, "op", op, "at", num i, "back"] : List Str), x.length ≤ 70 := fun x hx => by
        simp only [List.mem_cons, List.not_mem_nil, or_false] at hx
        rcases hx with rfl | rfl | rfl | rfl | rfl | rfl | rfl | rfl | rfl
        · exact jL rfl
        · exact Nat.le_trans (len_pT hp) (by decide)
        · exact jL rfl
        · exact Nat.le_trans (len_pos d0 (by omega)) (by decide)
        · exact jL rfl
        · omega
        · exact jL rfl
        · exact Nat.le_trans (len_pos i0 (by omega)) (by decide)
        · exact jL rfl
      generalize hW9 : ([("frame" : Str), pT pd, "depth", num dep, "op", op, "at", num i, "back"] : List Str) = W9 at *
      have l9 : W9.length = 9 := by rw [← hW9]; rfl
      have rbk2 := rbk.keep (Same.tups g02)
      -- back
      refine ⟨fun σ' G' => σ' = [some (.ref pa), some w1, some (.str mk), some (.ref fa), some (.ref ea), some (.int c), some (.ref ll), some u1, some (.int dep), some (.ref fr), some u4, some u5, some (.str wd), some (.ref pl), none, none] ∧ Same G G' ∧ G' pl = some (.lst ((W9 ++ [backT back]).map V.str)), ?_, fun σ' G3 ⟨e, sG3, hpl3⟩ => ?_⟩
      · refine ⟨_, rfl, Nat.zero_le _, fun p0 np0 => ?_⟩
        have sp0 := Cm.same_new (o := .tup []) np0
        have sh0 : SeqAt.shaped (.tuple []) = true := by decide +kernel
        have shb : SeqAt.shaped back = true := by
          rcases hbk with rfl | ho
          · exact sh0
          · exact lo_shaped (lo_obj ho) (by decide)
        refine ⟨_, _, (rbk2.keep (Same.tups sp0)).dp, (Rp.made (K := K) np0 .nil).dp, shb, sh0, _, rfl, ?_⟩
        rcases id hbk with rfl | ho
        · refine Cm.itB (fun _ => ?_) fun e => absurd (Nst.eqv_self sh0) (by rw [e]; decide)
          refine ⟨_, rfl, .inl ⟨rfl, _, SqL.of (sp0 _ _ hpl)⟩, pl, _, _, rfl, rfl, sp0 _ _ hpl, Cm.smallL (by rw [List.length_map]; omega), ?_⟩
          exact ⟨rfl, Cm.same_mut (sG2.trans sp0) nG, by rw [upd_same, List.map_append]; rfl⟩
        · have ne : PyData.eqv back (.tuple []) = false := by
            obtain ⟨p, k, rfl, _⟩ := ho
            simp [PyData.eqv, PyData.eqvAll]
          refine Cm.itB (fun e => by rw [ne] at e; cases e) fun _ => ?_
          refine ⟨_, rfl, .inl ⟨rfl, _, SqL.of (sp0 _ _ hpl)⟩, _, rfl, u4, back, rfl, rbk2.keep (Same.tups sp0), ho, fun G' g' => ⟨pl, _, _, rfl, rfl, g' _ _ (sp0 _ _ hpl), Cm.smallL (by rw [List.length_map]; omega), ?_⟩⟩
          refine ⟨rfl, Cm.same_mut ((sG2.trans sp0).trans g') nG, ?_⟩
          rw [upd_same, List.map_append]
          obtain ⟨p, k, rfl, _⟩ := ho
          rfl
      subst e
      -- token
      refine ⟨_, rfl, .inl ⟨rfl, _, SqL.of hpl3⟩, pl, _, _, rfl, rfl, hpl3, Cm.smallL (by rw [List.length_map, List.length_append]; show W9.length + 1 ≤ 100000; omega), ?_⟩
      have sG4 := Cm.same_mut (o := .lst (((W9 ++ [backT back]).map V.str) ++ [.str "token"])) sG3 nG
      have hpl4 : (L2.upd G3 pl (.lst (((W9 ++ [backT back]).map V.str) ++ [.str "token"]))) pl = some (.lst ((W9 ++ [backT back, "token"]).map V.str)) := by
        rw [upd_same]
        simp only [List.map_append, List.map_cons, List.map_nil, List.append_assoc, List.cons_append, List.nil_append]
      generalize L2.upd G3 pl _ = G4 at *
      refine ⟨fun σ' G' => σ' = [some (.ref pa), some w1, some (.str mk), some (.ref fa), some (.ref ea), some (.int c), some (.ref ll), some u1, some (.int dep), some (.ref fr), some u4, some u5, some (.str wd), some (.ref pl), none, none] ∧ Same G G' ∧ G' pl = some (.lst ((W9 ++ [backT back, "token", tokT tok]).map V.str)), ?_, fun σ' G5 ⟨e, sG5, hpl5⟩ => ?_⟩
      · refine ⟨_, rfl, rfl, _, rfl, ?_⟩
        have rtk4 := rtk.keep (Same.tups (sG.trans sG4))
        rcases id ht with ⟨x, y, rfl, x0, x1, y0, y1⟩ | ⟨rfl, _⟩
        · obtain ⟨ta, ts, rfl, hta, rs⟩ := rtk4.tup_inv
          obtain ⟨t1, r1, rfl, rx, rs⟩ := rs.cons_inv
          obtain ⟨t2, r2, rfl, ry', rs⟩ := rs.cons_inv
          obtain rfl := rs.nil_inv
          obtain rfl := rx.int_inv
          obtain rfl := ry'.int_inv
          have b1 := j1 (len_pos x0 (by omega)) (jL (x := ",") (n := 1) rfl)
          have b2 := j1 b1 (len_pos y0 (by omega))
          refine Cm.itD (fun e => by cases e) fun _ => ?_
          refine ⟨_, rfl, .inl ⟨rfl, _, SqL.of hpl4⟩, _, rfl, ta, _, 0, _, rfl, rfl, hta, atI_nat (j := 0) rfl, _, rfl, log_small (by omega) (by omega), _, _, rfl, rfl, (by rw [← app_len]; exact sz b1 rfl), ?_⟩
          refine ⟨_, rfl, ta, _, 1, _, rfl, rfl, hta, atI_nat (j := 1) rfl, _, rfl, log_small (by omega) (by omega), _, _, rfl, rfl, (by rw [← app_len]; exact sz b2 rfl), ?_⟩
          refine ⟨pl, _, _, rfl, rfl, hpl4, Cm.smallL (by rw [List.length_map, List.length_append]; show W9.length + 2 ≤ 100000; omega), ?_⟩
          refine ⟨rfl, Cm.same_mut sG4 nG, ?_⟩
          rw [upd_same]
          simp only [List.map_append, List.map_cons, List.map_nil, List.append_assoc, List.cons_append, List.nil_append]
          rfl
        · cases rtk4
          refine Cm.itD (fun _ => ?_) fun e => absurd rfl e
          refine ⟨_, rfl, .inl ⟨rfl, _, SqL.of hpl4⟩, pl, _, _, rfl, rfl, hpl4, Cm.smallL (by rw [List.length_map, List.length_append]; show W9.length + 2 ≤ 100000; omega), ?_⟩
          refine ⟨rfl, Cm.same_mut sG4 nG, ?_⟩
          rw [upd_same]
          simp only [List.map_append, List.map_cons, List.map_nil, List.append_assoc, List.cons_append, List.nil_append]
          rfl
      subst e
      clear hpl4 hpl3 hpl sG3 sG4 g02 rbk2
      -- word and locals
      refine ⟨_, rfl, _, rfl, Cm.small (by show 2 ≤ 100000; decide), fun q0 nq0 => ?_⟩
      have sq0 := Cm.same_new (o := .lst [.str wd, .str "-"]) nq0
      have hq0 : (L2.upd G5 q0 (.lst [.str wd, .str "-"])) q0 = some (.lst [.str wd, .str "-"]) := upd_same
      generalize L2.upd G5 q0 _ = G6 at *
      have hdash : atI [V.str wd, .str "-"] (if decide (V.str wd = V.str (Str.ofString "")) = true then 1 else 0) = some (.str (dashT (.str wd))) := by
        by_cases e : wd = ""
        · subst e
          rfl
        · rw [if_neg (by simpa using e)]
          show _ = some (V.str (if wd = "" then "-" else wd))
          rw [if_neg e]
          rfl
      refine ⟨_, rfl, rfl, .inr ⟨_, rfl, ?_⟩⟩
      refine ⟨q0, _, _, _, rfl, rfl, SqL.of hq0, hdash, Cm.small (by show 3 ≤ 100000; decide), fun l3 nl3 => ?_⟩
      generalize hdw : dashT (.str wd) = dw at *
      have ldw : dw.length ≤ 6 := by
        rw [← hdw]
        show (if wd = "" then ("-" : Str) else wd).length ≤ 6
        split
        · exact jL rfl
        · exact len_words wd (words_in wd hw)
      have sl3 := Cm.same_new (o := .lst [.str "word", .str dw, .str "locals"]) nl3
      have hl3 : (L2.upd G6 l3 (.lst [.str "word", .str dw, .str "locals"])) l3 = some (.lst ((["word", dw, "locals"] : List Str).map V.str)) := upd_same
      generalize L2.upd G6 l3 _ = G7 at *
      have s57 := sq0.trans sl3
      refine ⟨pl, l3, _, _, rfl, rfl, s57 _ _ hpl5, hl3, Cm.small (by rw [List.length_map, List.length_map, List.length_append]; show W9.length + 3 + 3 ≤ 100000; omega), fun l4 nl4 => ?_⟩
      rw [← List.map_append]
      have sl4 := Cm.same_new (o := .lst (((W9 ++ [backT back, "token", tokT tok]) ++ [("word" : Str), dw, "locals"]).map V.str)) nl4
      have hl4 : (L2.upd G7 l4 (.lst (((W9 ++ [backT back, "token", tokT tok]) ++ [("word" : Str), dw, "locals"]).map V.str))) l4 = some (.lst (((W9 ++ [backT back, "token", tokT tok]) ++ [("word" : Str), dw, "locals"]).map V.str)) := upd_same
      generalize L2.upd G7 l4 _ = G8 at *
      have s58 := s57.trans sl4
      have s08 := (sG.trans sG5).trans s58
      obtain ⟨la, las, rfl, hla, rla⟩ := rls.tup_inv
      have hlenA := rla.len
      have hla8 := Cm.sameT s08 hla
      refine ⟨_, rfl, fr, _, 2, _, rfl, rfl, Cm.sameT s08 hfr, atI_nat (j := 2) rfl, la, rfl, ⟨_, hla8⟩, fun D1 nD1 => ?_⟩
      refine lc_tup (K := K) (a := la) (xs := las) (fun j Hj => Same G8 Hj ∧ ∃ bs : List Str, Hj D1 = some (.lst (bs.map V.str)) ∧ bs = (ls.take j).map vT ∧ bs.length ≤ j) ⟨Cm.same_new nD1, [], upd_same, rfl, Nat.le_refl _⟩ (fun j Hj _ b => Cm.sameT b.1 hla8) (fun j y Hj hy b => ?_) fun Hj1 b => ?_
      · obtain ⟨sJ, bs, hD, eb, lb⟩ := b
        refine ⟨rfl, ?_⟩
        have hj : j < ls.length := by
          rw [← hlenA]
          exact (List.getElem?_eq_some_iff.mp hy).1
        obtain ⟨y', hy', ry⟩ := rla.at_ (i := j) (d := ls[j]) (List.getElem?_eq_getElem hj)
        rw [hy] at hy'
        cases hy'
        have hvj := hls _ (List.getElem_mem hj)
        refine ⟨_, rfl, y, ls[j], rfl, ry.keep (Same.tups ((s08).trans sJ)), hvj, fun H2 s2 => ?_⟩
        refine ⟨_, s2 _ _ hD, Cm.smallL (by rw [List.length_map]; omega), Cm.same_mut (sJ.trans s2) nD1, bs ++ [vT ls[j]], ?_, ?_, by rw [List.length_append]; simp only [List.length_cons, List.length_nil]; omega⟩
        · rw [upd_same, List.map_append]
          rfl
        · rw [List.take_succ, List.getElem?_eq_getElem hj, List.map_append, eb]
          rfl
      obtain ⟨sJ1, bs1, hD1, eb1, _⟩ := b
      rw [hlenA, List.take_length] at eb1
      have lb1 : bs1.length ≤ 3 := by rw [eb1, List.length_map]; omega
      have hb1 : ∀ x ∈ bs1, x.length ≤ 70 := fun x hx => by
        rw [eb1] at hx
        obtain ⟨d, hd, rfl⟩ := List.mem_map.mp hx
        exact len_vT (hls d hd)
      have hb15 : ∀ x ∈ (W9 ++ [backT back, "token", tokT tok]) ++ [("word" : Str), dw, "locals"], x.length ≤ 70 := fun x hx => by
        rcases List.mem_append.mp hx with hx | hx
        · rcases List.mem_append.mp hx with hx | hx
          · exact hb9 x hx
          · simp only [List.mem_cons, List.not_mem_nil, or_false] at hx
            rcases hx with rfl | rfl | rfl
            · exact len_backT hbk
            · exact jL rfl
            · exact Nat.le_trans (len_tokT ht) (by decide)
        · simp only [List.mem_cons, List.not_mem_nil, or_false] at hx
          rcases hx with rfl | rfl | rfl
          · exact jL rfl
          · omega
          · exact jL rfl
      generalize hW : (W9 ++ [backT back, "token", tokT tok]) ++ [("word" : Str), dw, "locals"] = W15 at *
      have l15 : W15.length = 15 := by
        rw [← hW, List.length_append, List.length_append]
        show W9.length + 3 + 3 = 15
        omega
      refine ⟨l4, D1, _, _, rfl, rfl, sJ1 _ _ hl4, hD1, Cm.small (by rw [List.length_map, List.length_map]; omega), fun l5 nl5 => ?_⟩
      rw [← List.map_append]
      have sl5 := Cm.same_new (o := .lst ((W15 ++ bs1).map V.str)) nl5
      have hl5 : (L2.upd Hj1 l5 (.lst ((W15 ++ bs1).map V.str))) l5 = some (.lst ((W15 ++ bs1).map V.str)) := upd_same
      generalize L2.upd Hj1 l5 _ = G9 at *
      simp only [gName, List.set_cons_succ, List.set_cons_zero]
      have s19 := (s58.trans sJ1).trans sl5
      have sG9 := sG5.trans s19
      have s09 := sG.trans sG9
      -- lines.append
      refine ⟨_, rfl, .inl ⟨rfl, _, SqL.of (sG9 _ _ hl)⟩, ⟨_, rfl⟩, _, rfl, Cm.small (by show 1 ≤ 100000; decide), fun l6 nl6 => ?_⟩
      have sl6 := Cm.same_new (o := .lst [.str "stack"]) nl6
      have hl6 : (L2.upd G9 l6 (.lst [.str "stack"])) l6 = some (.lst ((["stack"] : List Str).map V.str)) := upd_same
      generalize L2.upd G9 l6 _ = G10 at *
      refine ⟨l5, l6, _, _, rfl, rfl, sl6 _ _ hl5, hl6, Cm.small (by rw [List.length_map, List.length_map, List.length_append]; show W15.length + bs1.length + 1 ≤ 100000; omega), fun l7 nl7 => ?_⟩
      rw [← List.map_append]
      have sl7 := Cm.same_new (o := .lst (((W15 ++ bs1) ++ [("stack" : Str)]).map V.str)) nl7
      have hl7 : (L2.upd G10 l7 (.lst (((W15 ++ bs1) ++ [("stack" : Str)]).map V.str))) l7 = some (.lst (((W15 ++ bs1) ++ [("stack" : Str)]).map V.str)) := upd_same
      generalize L2.upd G10 l7 _ = G11 at *
      have sG11 := (sG9.trans sl6).trans sl7
      have s011 := sG.trans sG11
      obtain ⟨sa, sas, rfl, hsa, rsa⟩ := rst.tup_inv
      have hlenS := rsa.len
      have hsa11 := Cm.sameT s011 hsa
      refine ⟨_, rfl, fr, _, 3, _, rfl, rfl, Cm.sameT s011 hfr, atI_nat (j := 3) rfl, sa, rfl, ⟨_, hsa11⟩, fun D2 nD2 => ?_⟩
      refine lc_tup (K := K) (a := sa) (xs := sas) (fun j Hj => Same G11 Hj ∧ ∃ bs : List Str, Hj D2 = some (.lst (bs.map V.str)) ∧ bs = (st.take j).map vT ∧ bs.length ≤ j) ⟨Cm.same_new nD2, [], upd_same, rfl, Nat.le_refl _⟩ (fun j Hj _ b => Cm.sameT b.1 hsa11) (fun j y Hj hy b => ?_) fun Hj2 b => ?_
      · obtain ⟨sJ, bs, hD, eb, lb⟩ := b
        refine ⟨rfl, ?_⟩
        have hj : j < st.length := by
          rw [← hlenS]
          exact (List.getElem?_eq_some_iff.mp hy).1
        obtain ⟨y', hy', ry⟩ := rsa.at_ (i := j) (d := st[j]) (List.getElem?_eq_getElem hj)
        rw [hy] at hy'
        cases hy'
        have hvj := hst _ (List.getElem_mem hj)
        refine ⟨_, rfl, y, st[j], rfl, ry.keep (Same.tups ((s011).trans sJ)), hvj, fun H2 s2 => ?_⟩
        refine ⟨_, s2 _ _ hD, Cm.smallL (by rw [List.length_map]; omega), Cm.same_mut (sJ.trans s2) nD2, bs ++ [vT st[j]], ?_, ?_, by rw [List.length_append]; simp only [List.length_cons, List.length_nil]; omega⟩
        · rw [upd_same, List.map_append]
          rfl
        · rw [List.take_succ, List.getElem?_eq_getElem hj, List.map_append, eb]
          rfl
      obtain ⟨sJ2, bs2, hD2, eb2, _⟩ := b
      rw [hlenS, List.take_length] at eb2
      have lb2 : bs2.length ≤ 3 := by rw [eb2, List.length_map]; omega
      have hb2 : ∀ x ∈ bs2, x.length ≤ 70 := fun x hx => by
        rw [eb2] at hx
        obtain ⟨d, hd, rfl⟩ := List.mem_map.mp hx
        exact len_vT (hst d hd)
      refine ⟨l7, D2, _, _, rfl, rfl, sJ2 _ _ hl7, hD2, Cm.small (by rw [List.length_map, List.length_map, List.length_append, List.length_append]; show W15.length + bs1.length + 1 + bs2.length ≤ 100000; omega), fun l8 nl8 => ?_⟩
      rw [← List.map_append]
      have sl8 := Cm.same_new (o := .lst ((((W15 ++ bs1) ++ [("stack" : Str)]) ++ bs2).map V.str)) nl8
      have hl8 : (L2.upd Hj2 l8 (.lst ((((W15 ++ bs1) ++ [("stack" : Str)]) ++ bs2).map V.str))) l8 = some (.lst ((((W15 ++ bs1) ++ [("stack" : Str)]) ++ bs2).map V.str)) := upd_same
      generalize L2.upd Hj2 l8 _ = G12 at *
      have sG12 := (sG11.trans sJ2).trans sl8
      have eE : entW (.tuple [pd, .int dep, .tuple [.str op, .int i, .tuple ls, .tuple st], back, tok, .str wd]) = ((W15 ++ bs1) ++ [("stack" : Str)]) ++ bs2 := by
        rw [eb1, eb2, ← hW, ← hW9, ← hdw]
        simp only [List.append_assoc, List.cons_append, List.nil_append]
        rfl
      have wl : ∀ x ∈ ((W15 ++ bs1) ++ [("stack" : Str)]) ++ bs2, x.length ≤ 70 := fun x hx => by
        rcases List.mem_append.mp hx with hx | hx
        · rcases List.mem_append.mp hx with hx | hx
          · rcases List.mem_append.mp hx with hx | hx
            · exact hb15 x hx
            · exact hb1 x hx
          · rw [List.mem_singleton.mp hx]
            exact jL rfl
        · exact hb2 x hx
      refine ⟨_, l8, _, rfl, rfl, .inl (SqL.of hl8), sum_ok1 wl rfl (by rw [List.length_append, List.length_append, List.length_append]; show 70 * (W15.length + bs1.length + 1 + bs2.length) + (W15.length + bs1.length + 1 + bs2.length) ≤ 1000000; omega), ?_⟩
      rw [← eE] at *
      refine ⟨ll, _, _, rfl, rfl, sG12 _ _ hl, Cm.smallL (by rw [List.length_map, List.length_cons]; omega), ?_⟩
      refine ⟨_, _, _, _, _, _, _, ws ++ [_], rfl, Cm.same_mut (sG.trans sG12) nH, ?_, ew1.symm⟩
      rw [upd_same]
      simp only [List.map_append, List.map_cons, List.map_nil, List.cons_append]
    · subst e
      rw [hlenE, List.take_length] at ew
      have hL : ∀ x ∈ hl0 :: ws, (x ++ "\n").length ≤ 2000 := fun x hx => by
        rcases List.mem_cons.mp hx with rfl | hx
        · rw [← hHL]
          exact Nat.le_trans (len_head ho hm hv lv c0 c1) (by decide)
        · rw [ew] at hx
          obtain ⟨d, hd, rfl⟩ := List.mem_map.mp hx
          exact Nat.le_trans (len_ent (he d hd)) (by decide)
      refine ⟨⟨_, rfl⟩, _, rfl, ll, rfl, ⟨_, SqL.of hl⟩, fun D nD => ?_⟩
      refine lc_list (K := K) (a := ll) (xs := (hl0 :: ws).map V.str) (fun j Hj => Same G Hj ∧ ∃ bs : List Str, Hj D = some (.lst (bs.map V.str)) ∧ bs = ((hl0 :: ws).take j).map (fun z : Str => z ++ "\n") ∧ bs.length ≤ j) ⟨Cm.same_new nD, [], upd_same, rfl, Nat.le_refl _⟩ (fun j Hj _ b => SqL.of (b.1 _ _ hl)) (fun j y Hj hy b => ?_) fun Hj b => ?_
      · obtain ⟨sJ, bs, hD, eb, lb⟩ := b
        refine ⟨rfl, ?_⟩
        rw [List.getElem?_map] at hy
        cases hz : (hl0 :: ws)[j]? with
        | none => rw [hz] at hy; cases hy
        | some z =>
          rw [hz] at hy
          cases hy
          have hj := (List.getElem?_eq_some_iff.mp hz).1
          have hle : ws.length = es.length := by rw [ew, List.length_map]
          rw [List.length_cons] at hj
          refine ⟨_, rfl, _, _, rfl, rfl, (by rw [← app_len]; exact sz (hL z (List.mem_of_getElem? hz)) rfl), ?_⟩
          refine ⟨_, hD, Cm.smallL (by rw [List.length_map]; omega), Cm.same_mut sJ nD, bs ++ [z ++ "\n"], ?_, ?_, by rw [List.length_append]; simp only [List.length_cons, List.length_nil]; omega⟩
          · rw [upd_same, List.map_append]
            rfl
          · rw [List.take_succ, hz, List.map_append, eb]
            rfl
      · obtain ⟨sJ, bs, hD, eb, lb⟩ := b
        rw [List.length_map, List.take_length] at eb
        have hbs : ∀ x ∈ bs, x.length ≤ 2000 := fun x hx => by
          rw [eb] at hx
          obtain ⟨d, hd, rfl⟩ := List.mem_map.mp hx
          exact hL d hd
        have hle : bs.length = es.length + 1 := by rw [eb, List.length_map, List.length_cons, ew, List.length_map]
        refine ⟨_, D, bs, rfl, rfl, .inl (SqL.of hD), sum_ok hbs (by omega), ?_⟩
        rw [e0]
        have := q Hj (sG.trans sJ)
        rw [eb, ew, ← hHL]
        exact this
/-! ### the law's texts, changed -/
def spLC (K : PySem.W.Frag) : Sp := fun vs H Q _ => ∃ (nu : Addr) (ns : List Int) (k : Nat) (t : Str), vs = [.ref nu, .int k, .str t] ∧ NumAt K H nu ns ∧ k + 2 < ns.length ∧ t.length ≤ 4600 ∧ Asc t ∧ ∀ o H', Same H H' → o.length ≤ 10000 → Asc o → Q (.str o) H'
/-- the length of texts with a sign behind each -/
def JL (Y : List Str) : Nat := (Y.map fun y => y.length + 1).sum
theorem JL_app (a b : List Str) : JL (a ++ b) = JL a + JL b := by
  unfold JL
  rw [List.map_append, List.sum_append]
theorem JL_sum : ∀ Y : List Str, (Y.map (·.length)).sum + Y.length * 1 = JL Y
  | [] => rfl
  | y :: r => by
    have := JL_sum r
    show (y.length + (r.map (·.length)).sum) + (r.length + 1) * 1 = (y.length + 1) + JL r
    omega
theorem JL_split (P : List Str) (n : Nat) : JL (P.take n) + JL (P.drop n) = JL P := by
  rw [← JL_app, List.take_append_drop]
theorem JL_drop (P : List Str) (n m : Nat) : JL ((P.drop n).take m) + JL (P.drop (n + m)) = JL (P.drop n) := by
  rw [← List.drop_drop, JL_split]
theorem JL_take (P : List Str) (n : Nat) : JL (P.take n) ≤ JL P := by
  have := JL_split P n
  omega
theorem join_len {y : Str} (hy : y.length = 1) : ∀ {P : List Str}, P ≠ [] → (Txt.join y P).length + 1 = JL P
  | [], h => absurd rfl h
  | [x], _ => by
    rw [join_one]
    rfl
  | x :: z :: r, _ => by
    rw [join_two, app_len, app_len, hy]
    have := join_len hy (P := z :: r) (by simp)
    show _ = (x.length + 1) + JL (z :: r)
    omega
theorem cutM_up (P : List Str) (b : Nat) : cutV (P.map V.str) none (some (b : Int)) = (P.take b).map V.str := by
  unfold cutV
  rw [show HT.sIx (P.map V.str).length 0 none = 0 from rfl, HT.sIx_nat, List.drop_zero, Nat.sub_zero, ← List.map_take, List.length_map]
  rcases Nat.lt_or_ge b P.length with h | h
  · rw [Nat.min_eq_left (by omega)]
  · rw [Nat.min_eq_right h, List.take_of_length_le (Nat.le_refl _), List.take_of_length_le h]
theorem cutM_mid (P : List Str) (a b : Nat) (h : a ≤ b) : cutV (P.map V.str) (some (a : Int)) (some (b : Int)) = ((P.drop a).take (b - a)).map V.str := by
  unfold cutV
  rw [HT.sIx_nat, HT.sIx_nat, ← List.map_drop, ← List.map_take, List.length_map]
  congr 1
  rcases Nat.lt_or_ge b P.length with z | z
  · rw [Nat.min_eq_left (by omega), Nat.min_eq_left (by omega)]
  · rw [Nat.min_eq_right z]
    rcases Nat.lt_or_ge a P.length with z2 | z2
    · rw [Nat.min_eq_left (by omega), List.take_of_length_le (by rw [List.length_drop]; omega), List.take_of_length_le (by rw [List.length_drop]; omega)]
    · rw [Nat.min_eq_right z2, List.drop_eq_nil_of_le (Nat.le_refl _), List.drop_eq_nil_of_le z2, List.take_nil, List.take_nil]
theorem cut_sub {t : Str} {a b : Option Int} : ∀ c ∈ TL.tl (cutS t a b), c ∈ TL.tl t := fun c hc => by
  have hc : c ∈ ((TL.tl t).drop _).take _ := hc
  exact List.mem_of_mem_drop (List.mem_of_mem_take hc)
theorem cut_asc {t : Str} {a b : Option Int} (h : Asc t) : Asc (cutS t a b) := fun c hc => h c (cut_sub c hc)
theorem asc_app {x y : Str} (h1 : Asc x) (h2 : Asc y) : Asc (x ++ y) := fun c hc => by
  rw [TL.tl_append] at hc
  rcases List.mem_append.mp hc with hc | hc
  · exact h1 c hc
  · exact h2 c hc
theorem sign_all : ∀ i : Nat, i < 20 → ∃ c, (("0123456789 -.#,\npabx" : Str).cps.toList)[i]? = some c ∧ c < 128 := by
  intro i hi
  have h : (("0123456789 -.#,\npabx" : Str).cps.toList).length = 20 := by decide +kernel
  refine ⟨_, List.getElem?_eq_getElem (by omega), ?_⟩
  exact (show ∀ c ∈ ("0123456789 -.#,\npabx" : Str).cps.toList, c < 128 by decide +kernel) _ (List.getElem_mem _)
theorem sign_at (n : Int) : ∃ c, atI ("0123456789 -.#,\npabx" : Str).cps.toList (n % 20) = some c ∧ c < 128 := by
  have h0 := Int.emod_nonneg n (show (20 : Int) ≠ 0 by decide)
  have h1 := Int.emod_lt_of_pos n (show (0 : Int) < 20 by decide)
  obtain ⟨c, e, hc⟩ := sign_all (n % 20).toNat (by omega)
  refine ⟨c, ?_, hc⟩
  rw [show n % 20 = (((n % 20).toNat : Nat) : Int) by omega]
  exact atI_nat e
theorem ok_lw_changed (T : Txt K mg w a) : FnOk P w K mg base CX0 1 (He.ga K "_law_changed") a.d_lw_changed ["numbers", "at", "text"] (spLC K) := by
  refine T.F_lw_changed.ok sc_lw_changed (fun vs H Q E h => ?_) (fun cdv A outer s H vs Q E hr h => ?_)
  · obtain ⟨_, _, _, _, rfl, _⟩ := h
    rfl
  · obtain ⟨nu, ns, k, t, rfl, N1, hk, hl, asc, q⟩ := h
    refine ⟨_, PSs.nox (pss_cons (ps_set (i := 3) sc_lw_changed.nd rfl (Or.inl rfl) (pe_op op_mod (pe_ix ix_list (pv 0) (pv 1) (fun _ _ => rfl)) pe_int))
      (pss_cons (ps_set (i := 4) sc_lw_changed.nd rfl (Or.inl rfl) (pe_op op_mod (pe_ix ix_list (pv 0) (pe_op op_add (pv 1) pe_int) (fun _ _ => rfl)) (pe_op op_add (pe_callB call_len_str (by rfl) T.g_len boot_len (pa_cons (pv 2) pa_nil)) pe_int)))
      (pss_cons (ps_set (i := 5) sc_lw_changed.nd rfl (Or.inl rfl) (pe_ix ix_str pe_str (pe_op op_mod (pe_ix ix_list (pv 0) (pe_op op_add (pv 1) pe_int) (fun _ _ => rfl)) pe_int) (fun _ _ => rfl)))
      (pss_cons (ps_if (pt_cmpR op_eq (pv 3) pe_int (nomark _)) (pss_one (ps_ret (pe_op op_add_str (pe_op op_add_str (pe_slice sl_str (pv 2) po_none (po_some (pv 4))) (pv 5)) (pe_slice sl_str (pv 2) (po_some (pv 4)) po_none)))) pss_nil)
      (pss_cons (ps_if (pt_cmpR op_eq (pv 3) pe_int (nomark _)) (pss_one (ps_ret (pe_op op_add_str (pe_slice sl_str (pv 2) po_none (po_some (pv 4))) (pe_slice sl_str (pv 2) (po_some (pe_op op_add (pv 4) pe_int)) po_none)))) pss_nil)
      (pss_cons (ps_if (pt_cmpR op_eq (pv 3) pe_int (nomark _)) (pss_one (ps_ret (pe_op op_add_str (pe_op op_add_str (pe_slice sl_str (pv 2) po_none (po_some (pv 4))) (pv 5)) (pe_slice sl_str (pv 2) (po_some (pe_op op_add (pv 4) pe_int)) po_none)))) pss_nil)
      (pss_cons (ps_set (i := 6) sc_lw_changed.nd rfl (Or.inl rfl) (pe_ix ix_list (pe_lst (pa_cons pe_str (pa_cons pe_str pa_nil))) (pe_op op_mod (pv 3) pe_int) (fun _ _ => rfl)))
      (pss_cons (ps_set (i := 7) sc_lw_changed.nd rfl (Or.inl rfl) (pe_split (pv 2) (pv 6)))
      (pss_cons (ps_set (i := 8) sc_lw_changed.nd rfl (Or.inl rfl) (pe_op op_mod (pe_ix ix_list (pv 0) (pe_op op_add (pv 1) pe_int) (fun _ _ => rfl)) (pe_callB call_len_seq (by rfl) T.g_len boot_len (pa_cons (pv 7) pa_nil))))
      (C8.pss_cut (ps_if (pt_cmpR op_eq (pe_op op_mod (pe_ix ix_list (pv 0) (pe_op op_add (pv 1) pe_int) (fun _ _ => rfl)) pe_int) pe_int (nomark _)) (pss_one (ps_set (i := 7) sc_lw_changed.nd rfl (Or.inl rfl) (pe_op op_cat (pe_slice sl_list (pv 7) po_none (po_some (pv 8))) (pe_slice sl_list (pv 7) (po_some (pe_op op_add (pv 8) pe_int)) po_none)))) (pss_one (ps_if (pt_cmpR op_eq (pe_op op_mod (pe_ix ix_list (pv 0) (pe_op op_add (pv 1) pe_int) (fun _ _ => rfl)) pe_int) pe_int (nomark _)) (pss_one (ps_set (i := 7) sc_lw_changed.nd rfl (Or.inl rfl) (pe_op op_cat (pe_op op_cat (pe_slice sl_list (pv 7) po_none (po_some (pv 8))) (pe_slice sl_list (pv 7) (po_some (pv 8)) (po_some (pe_op op_add (pv 8) pe_int)))) (pe_slice sl_list (pv 7) (po_some (pv 8)) po_none)))) (pss_one (ps_set (i := 7) sc_lw_changed.nd rfl (Or.inl rfl) (pe_op op_cat (pe_op op_cat (pe_op op_cat (pe_slice sl_list (pv 7) po_none (po_some (pv 8))) (pe_slice sl_list (pv 7) (po_some (pe_op op_add (pv 8) pe_int)) (po_some (pe_op op_add (pv 8) pe_int)))) (pe_slice sl_list (pv 7) (po_some (pv 8)) (po_some (pe_op op_add (pv 8) pe_int)))) (pe_slice sl_list (pv 7) (po_some (pe_op op_add (pv 8) pe_int)) po_none)))))))
      (pss_one (ps_ret (pe_join (pv 6) (pv 7)))))))))))))), ?_⟩
    rw [show L2.start N_lw_changed [.ref nu, .int k, .str t] = [some (.ref nu), some (.int k), some (.str t), none, none, none, none, none, none] from rfl]
    obtain ⟨hnu, hok, hlen⟩ := N1
    have at_ : ∀ j : Nat, j < ns.length → atI (ns.map V.int) ((j : Nat) : Int) = some (.int ns[j]!) ∧ 0 ≤ ns[j]! := fun j hj => by
      have e : ns[j]! = ns[j] := by simp [hj]
      rw [e]
      refine ⟨atI_nat (by rw [List.getElem?_map, List.getElem?_eq_getElem hj]; rfl), (hok _ (List.getElem_mem hj)).1⟩
    obtain ⟨a0, p0⟩ := at_ k (by omega)
    obtain ⟨a1, p1⟩ := at_ (k + 1) (by omega)
    obtain ⟨a2, p2⟩ := at_ (k + 2) hk
    generalize ns[k]! = n0 at *
    generalize ns[k + 1]! = n1 at *
    generalize ns[k + 2]! = n2 at *
    have lz : t.length ≤ sizeLine := by rw [sizeLine_eq]; omega
    refine ⟨_, rfl, _, rfl, nu, _, _, _, rfl, rfl, SqL.of hnu, a0, _, _, rfl, rfl, (by show (0 : Int) < 8; decide), ?_⟩
    simp only [gName, List.set_cons_succ, List.set_cons_zero]
    refine ⟨_, rfl, _, rfl, _, _, rfl, rfl, nu, _, _, _, rfl, rfl, SqL.of hnu, a1, _, rfl, _, rfl, lz, _, _, rfl, rfl, _, _, rfl, rfl, (by omega), ?_⟩
    simp only [gName, List.set_cons_succ, List.set_cons_zero]
    have m1 := Int.emod_nonneg n1 (show (t.length : Int) + 1 ≠ 0 by omega)
    have m2 := Int.emod_lt_of_pos n1 (show (0 : Int) < (t.length : Int) + 1 by omega)
    generalize n1 % ((t.length : Int) + 1) = pl at *
    obtain ⟨c, ec, hc⟩ := sign_at n2
    refine ⟨_, rfl, _, rfl, _, _, rfl, rfl, nu, _, _, _, rfl, rfl, SqL.of hnu, a2, _, _, rfl, rfl, (by show (0 : Int) < 20; decide), _, _, c, rfl, rfl, Cm.small (by decide +kernel), ec, ?_⟩
    simp only [gName, List.set_cons_succ, List.set_cons_zero]
    have asg : Asc (⟨#[c]⟩ : Str) := fun x hx => by
      rw [List.mem_singleton.mp (show x ∈ [c] from hx)]
      exact hc
    have lsg : (⟨#[c]⟩ : Str).length ≤ 1 := Nat.le_refl _
    generalize (⟨#[c]⟩ : Str) = sg at *
    have lc : ∀ a b : Option Int, (cutS t a b).length ≤ 4600 := fun a b => Nat.le_trans cut_len hl
    have ac : ∀ a b : Option Int, Asc (cutS t a b) := fun a b => cut_asc asc
    have szz : ∀ {n : Nat}, n ≤ 100000 → n ≤ sizeLine := fun h => Cm.small h
    refine ⟨_, rfl, rfl, _, rfl, Cm.itEI (fun e => ?_) fun _ => ?_⟩
    · refine ⟨_, rfl, _, rfl, _, rfl, _, rfl, lz, _, rfl, _, _, rfl, rfl, szz (by have := lc none (some pl); omega), _, rfl, _, rfl, _, rfl, _, rfl, lz, _, _, rfl, rfl, szz (by have h1 := lc none (some pl); have h2 := lc (some pl) none; rw [app_len]; omega), ?_⟩
      exact q _ H (Same.refl H) (by have h1 := lc none (some pl); have h2 := lc (some pl) none; rw [app_len, app_len]; omega) (asc_app (asc_app (ac _ _) asg) (ac _ _))
    refine ⟨_, rfl, rfl, _, rfl, Cm.itEI (fun e => ?_) fun _ => ?_⟩
    · refine ⟨_, rfl, _, rfl, _, rfl, _, rfl, lz, _, rfl, _, rfl, _, _, rfl, rfl, _, rfl, _, rfl, lz, _, _, rfl, rfl, szz (by have h1 := lc none (some pl); have h2 := lc (some (pl + 1)) none; omega), ?_⟩
      exact q _ H (Same.refl H) (by have h1 := lc none (some pl); have h2 := lc (some (pl + 1)) none; rw [app_len]; omega) (asc_app (ac _ _) (ac _ _))
    refine ⟨_, rfl, rfl, _, rfl, Cm.itEI (fun e => ?_) fun _ => ?_⟩
    · refine ⟨_, rfl, _, rfl, _, rfl, _, rfl, lz, _, rfl, _, _, rfl, rfl, szz (by have := lc none (some pl); omega), _, rfl, _, rfl, _, _, rfl, rfl, _, rfl, _, rfl, lz, _, _, rfl, rfl, szz (by have h1 := lc none (some pl); have h2 := lc (some (pl + 1)) none; rw [app_len]; omega), ?_⟩
      exact q _ H (Same.refl H) (by have h1 := lc none (some pl); have h2 := lc (some (pl + 1)) none; rw [app_len, app_len]; omega) (asc_app (asc_app (ac _ _) asg) (ac _ _))
    refine ⟨Cm.small (by show 2 ≤ 100000; decide), fun t0 nt0 => ?_⟩
    have b0 := Int.emod_nonneg (n0 % 8) (show (2 : Int) ≠ 0 by decide)
    have b1 := Int.emod_lt_of_pos (n0 % 8) (show (0 : Int) < 2 by decide)
    obtain ⟨mk, hmk, emk⟩ := Cm.at_str (ws := [" ", "\n"]) (i := n0 % 8 % 2) b0 (by show n0 % 8 % 2 < 2; omega)
    refine ⟨_, rfl, _, _, rfl, rfl, (by show (0 : Int) < 2; decide), t0, _, _, _, rfl, rfl, Cm.sql_new, emk, ?_⟩
    simp only [gName, List.set_cons_succ, List.set_cons_zero]
    have s0 := Cm.same_new (o := .lst [.str " ", .str "\n"]) nt0
    obtain ⟨s, hs, hk, hs1, hb, hl1⟩ : ∃ s, TL.tl mk = [s] ∧ mk.cps.all (· < 256) = true ∧ s < 128 ∧ (mk.length == 0) = false ∧ mk.length = 1 := by
      simp only [List.mem_cons, List.not_mem_nil, or_false] at hmk
      rcases hmk with rfl | rfl
      · exact ⟨32, rfl, by decide +kernel, by decide, by decide +kernel, by decide +kernel⟩
      · exact ⟨10, rfl, by decide +kernel, by decide, by decide +kernel, by decide +kernel⟩
    generalize L2.upd H t0 _ = H1 at *
    obtain ⟨f1, f2, f3⟩ := split_facts (t := t) (y := mk) (by rw [hs]; simp) hk
    have fa := split_asc (t := t) (y := mk) (by rw [hs]; simp) hk asc
    have ej := join_split (y := mk) hs hk t
    generalize hP : Txt.split t mk = P at *
    refine ⟨_, rfl, ⟨_, rfl⟩, _, rfl, _, _, rfl, rfl, hb, szz (by omega), fun pt npt => ?_⟩
    rw [hP]
    have s1 := Cm.same_new (o := .lst (P.map V.str)) npt
    have hpt : (L2.upd H1 pt (.lst (P.map V.str))) pt = some (.lst (P.map V.str)) := upd_same
    generalize L2.upd H1 pt _ = H2 at *
    simp only [gName, List.set_cons_succ, List.set_cons_zero]
    have s02 := s0.trans s1
    have hnu2 := s02 _ _ hnu
    have lP : 0 < P.length := List.length_pos_iff.mpr f1
    refine ⟨_, rfl, _, rfl, _, _, rfl, rfl, nu, _, _, _, rfl, rfl, SqL.of hnu2, a1, _, rfl, pt, _, rfl, .inl (SqL.of hpt), _, _, rfl, rfl, (by rw [List.length_map]; omega), ?_⟩
    simp only [gName, List.set_cons_succ, List.set_cons_zero]
    rw [List.length_map]
    have o0 := Int.emod_nonneg n1 (show (P.length : Int) ≠ 0 by omega)
    have o1 := Int.emod_lt_of_pos n1 (show (0 : Int) < (P.length : Int) by omega)
    obtain ⟨on, hon⟩ : ∃ on : Nat, n1 % (P.length : Int) = on := ⟨(n1 % (P.length : Int)).toNat, by omega⟩
    rw [hon] at o1 ⊢
    have JP : JL P = t.length + 1 := by
      have := join_len hl1 f1
      rw [ej] at this
      omega
    have n20 : P.length ≤ 5000 := by omega
    refine ⟨fun σ G => ∃ (pq : Addr) (Y : List Str), σ = [some (.ref nu), some (.int k), some (.str t), some (.int (n0 % 8)), some (.int pl), some (.str sg), some (.str mk), some (.ref pq), some (.int on)] ∧ Same H2 G ∧ G pq = some (.lst (Y.map V.str)) ∧ JL Y ≤ 2 * JL P ∧ ∀ y ∈ Y, y ∈ P, ?_, fun σ G ⟨pq, Y, e, sG, hY, jY, aY⟩ => ?_⟩
    · have fin : ∀ (G : Hp) (pq : Addr) (Y : List Str), Same H2 G → G pq = none → JL Y ≤ 2 * JL P → (∀ y ∈ Y, y ∈ P) → ∃ (pq' : Addr) (Y' : List Str), [some (.ref nu), some (.int k), some (.str t), some (.int (n0 % 8)), some (.int pl), some (.str sg), some (.str mk), some (V.ref pq), some (.int on)] = [some (.ref nu), some (.int k), some (.str t), some (.int (n0 % 8)), some (.int pl), some (.str sg), some (.str mk), some (.ref pq'), some (.int on)] ∧ Same H2 (upd G pq (.lst (Y.map V.str))) ∧ (upd G pq (.lst (Y.map V.str))) pq' = some (.lst (Y'.map V.str)) ∧ JL Y' ≤ 2 * JL P ∧ ∀ y ∈ Y', y ∈ P :=
        fun G pq Y sG n1 n2 n3 => ⟨pq, Y, rfl, sG.trans (Cm.same_new n1), upd_same, n2, n3⟩
      refine ⟨_, rfl, _, rfl, _, _, rfl, rfl, nu, _, _, _, rfl, rfl, SqL.of hnu2, a2, _, _, rfl, rfl, (by show (0 : Int) < 3; decide), rfl, _, rfl, Cm.itEI (fun e => ?_) fun _ => ?_⟩
      · refine ⟨_, rfl, _, rfl, _, rfl, pt, _, rfl, SqL.of hpt, fun q1 nq1 => ?_⟩
        rw [cutM_up]
        have t1 := Cm.same_new (o := .lst ((P.take on).map V.str)) nq1
        have h1 : (L2.upd H2 q1 (.lst ((P.take on).map V.str))) q1 = some (.lst ((P.take on).map V.str)) := upd_same
        generalize L2.upd H2 q1 _ = G1 at *
        refine ⟨_, rfl, _, rfl, _, _, rfl, rfl, _, rfl, pt, _, rfl, SqL.of (t1 _ _ hpt), fun q2 nq2 => ?_⟩
        rw [show ((on : Nat) : Int) + 1 = ((on + 1 : Nat) : Int) from rfl, tail_from]
        have t2 := Cm.same_new (o := .lst ((P.drop (on + 1)).map V.str)) nq2
        have h2 : (L2.upd G1 q2 (.lst ((P.drop (on + 1)).map V.str))) q2 = some (.lst ((P.drop (on + 1)).map V.str)) := upd_same
        generalize L2.upd G1 q2 _ = G2 at *
        refine ⟨q1, q2, _, _, rfl, rfl, t2 _ _ h1, h2, szz (by rw [List.length_map, List.length_map, List.length_take, List.length_drop]; omega), fun q3 nq3 => ?_⟩
        rw [← List.map_append]
        simp only [gName, List.set_cons_succ, List.set_cons_zero]
        refine fin G2 q3 _ (t1.trans t2) nq3 ?_ ?_
        · have := JL_split P on
          have := JL_drop P on 1
          rw [JL_app]
          omega
        · intro y hy
          rcases List.mem_append.mp hy with hy | hy
          · exact List.mem_of_mem_take hy
          · exact List.mem_of_mem_drop hy
      refine ⟨_, rfl, _, rfl, _, _, rfl, rfl, nu, _, _, _, rfl, rfl, SqL.of hnu2, a2, _, _, rfl, rfl, (by show (0 : Int) < 3; decide), rfl, _, rfl, Cm.itEI (fun e => ?_) fun _ => ?_⟩
      · refine ⟨_, rfl, _, rfl, _, rfl, pt, _, rfl, SqL.of hpt, fun q1 nq1 => ?_⟩
        rw [cutM_up]
        have t1 := Cm.same_new (o := .lst ((P.take on).map V.str)) nq1
        have h1 : (L2.upd H2 q1 (.lst ((P.take on).map V.str))) q1 = some (.lst ((P.take on).map V.str)) := upd_same
        generalize L2.upd H2 q1 _ = G1 at *
        refine ⟨_, rfl, _, rfl, _, rfl, _, rfl, _, _, rfl, rfl, _, rfl, pt, _, rfl, SqL.of (t1 _ _ hpt), fun q2 nq2 => ?_⟩
        rw [show ((on : Nat) : Int) + 1 = ((on + 1 : Nat) : Int) from rfl, cutM_mid _ _ _ (Nat.le_succ _), show on + 1 - on = 1 by omega]
        have t2 := Cm.same_new (o := .lst (((P.drop on).take 1).map V.str)) nq2
        have h2 : (L2.upd G1 q2 (.lst (((P.drop on).take 1).map V.str))) q2 = some (.lst (((P.drop on).take 1).map V.str)) := upd_same
        generalize L2.upd G1 q2 _ = G2 at *
        refine ⟨q1, q2, _, _, rfl, rfl, t2 _ _ h1, h2, szz (by rw [List.length_map, List.length_map, List.length_take, List.length_take, List.length_drop]; omega), fun q3 nq3 => ?_⟩
        rw [← List.map_append]
        have t3 := Cm.same_new (o := .lst ((P.take on ++ (P.drop on).take 1).map V.str)) nq3
        have h3 : (L2.upd G2 q3 (.lst ((P.take on ++ (P.drop on).take 1).map V.str))) q3 = some (.lst ((P.take on ++ (P.drop on).take 1).map V.str)) := upd_same
        generalize L2.upd G2 q3 _ = G3 at *
        have t13 := (t1.trans t2).trans t3
        refine ⟨_, rfl, _, rfl, _, rfl, pt, _, rfl, SqL.of (t13 _ _ hpt), fun q4 nq4 => ?_⟩
        rw [tail_from]
        have t4 := Cm.same_new (o := .lst ((P.drop on).map V.str)) nq4
        have h4 : (L2.upd G3 q4 (.lst ((P.drop on).map V.str))) q4 = some (.lst ((P.drop on).map V.str)) := upd_same
        generalize L2.upd G3 q4 _ = G4 at *
        refine ⟨q3, q4, _, _, rfl, rfl, t4 _ _ h3, h4, szz (by rw [List.length_map, List.length_map, List.length_append, List.length_take, List.length_take, List.length_drop]; omega), fun q5 nq5 => ?_⟩
        rw [← List.map_append]
        simp only [gName, List.set_cons_succ, List.set_cons_zero]
        refine fin G4 q5 _ (t13.trans t4) nq5 ?_ ?_
        · have := JL_split P on
          have := JL_take (P.drop on) 1
          rw [JL_app, JL_app]
          omega
        · intro y hy
          rcases List.mem_append.mp hy with hy | hy
          · rcases List.mem_append.mp hy with hy | hy
            · exact List.mem_of_mem_take hy
            · exact List.mem_of_mem_drop (List.mem_of_mem_take hy)
          · exact List.mem_of_mem_drop hy
      · refine ⟨_, rfl, _, rfl, _, rfl, pt, _, rfl, SqL.of hpt, fun q1 nq1 => ?_⟩
        rw [cutM_up]
        have t1 := Cm.same_new (o := .lst ((P.take on).map V.str)) nq1
        have h1 : (L2.upd H2 q1 (.lst ((P.take on).map V.str))) q1 = some (.lst ((P.take on).map V.str)) := upd_same
        generalize L2.upd H2 q1 _ = G1 at *
        refine ⟨_, rfl, _, rfl, _, _, rfl, rfl, _, rfl, _, rfl, _, _, rfl, rfl, _, rfl, pt, _, rfl, SqL.of (t1 _ _ hpt), fun q2 nq2 => ?_⟩
        rw [show ((on : Nat) : Int) + 1 = ((on + 1 : Nat) : Int) from rfl, show ((on : Nat) : Int) + 2 = ((on + 2 : Nat) : Int) from rfl, cutM_mid _ _ _ (by omega), show on + 2 - (on + 1) = 1 by omega]
        have t2 := Cm.same_new (o := .lst (((P.drop (on + 1)).take 1).map V.str)) nq2
        have h2 : (L2.upd G1 q2 (.lst (((P.drop (on + 1)).take 1).map V.str))) q2 = some (.lst (((P.drop (on + 1)).take 1).map V.str)) := upd_same
        generalize L2.upd G1 q2 _ = G2 at *
        refine ⟨q1, q2, _, _, rfl, rfl, t2 _ _ h1, h2, szz (by rw [List.length_map, List.length_map, List.length_take, List.length_take, List.length_drop]; omega), fun q3 nq3 => ?_⟩
        rw [← List.map_append]
        have t3 := Cm.same_new (o := .lst ((P.take on ++ (P.drop (on + 1)).take 1).map V.str)) nq3
        have h3 : (L2.upd G2 q3 (.lst ((P.take on ++ (P.drop (on + 1)).take 1).map V.str))) q3 = some (.lst ((P.take on ++ (P.drop (on + 1)).take 1).map V.str)) := upd_same
        generalize L2.upd G2 q3 _ = G3 at *
        have t13 := (t1.trans t2).trans t3
        refine ⟨_, rfl, _, rfl, _, rfl, _, rfl, _, _, rfl, rfl, _, rfl, pt, _, rfl, SqL.of (t13 _ _ hpt), fun q4 nq4 => ?_⟩
        rw [show ((on : Nat) : Int) + 1 = ((on + 1 : Nat) : Int) from rfl, cutM_mid _ _ _ (Nat.le_succ _), show on + 1 - on = 1 by omega]
        have t4 := Cm.same_new (o := .lst (((P.drop on).take 1).map V.str)) nq4
        have h4 : (L2.upd G3 q4 (.lst (((P.drop on).take 1).map V.str))) q4 = some (.lst (((P.drop on).take 1).map V.str)) := upd_same
        generalize L2.upd G3 q4 _ = G4 at *
        refine ⟨q3, q4, _, _, rfl, rfl, t4 _ _ h3, h4, szz (by rw [List.length_map, List.length_map, List.length_append, List.length_take, List.length_take, List.length_take, List.length_drop]; omega), fun q5 nq5 => ?_⟩
        rw [← List.map_append]
        have t5 := Cm.same_new (o := .lst ((P.take on ++ (P.drop (on + 1)).take 1 ++ (P.drop on).take 1).map V.str)) nq5
        have h5 : (L2.upd G4 q5 (.lst ((P.take on ++ (P.drop (on + 1)).take 1 ++ (P.drop on).take 1).map V.str))) q5 = some (.lst ((P.take on ++ (P.drop (on + 1)).take 1 ++ (P.drop on).take 1).map V.str)) := upd_same
        generalize L2.upd G4 q5 _ = G5 at *
        have t15 := (t13.trans t4).trans t5
        refine ⟨_, rfl, _, rfl, _, _, rfl, rfl, _, rfl, pt, _, rfl, SqL.of (t15 _ _ hpt), fun q6 nq6 => ?_⟩
        rw [show ((on : Nat) : Int) + 2 = ((on + 2 : Nat) : Int) from rfl, tail_from]
        have t6 := Cm.same_new (o := .lst ((P.drop (on + 2)).map V.str)) nq6
        have h6 : (L2.upd G5 q6 (.lst ((P.drop (on + 2)).map V.str))) q6 = some (.lst ((P.drop (on + 2)).map V.str)) := upd_same
        generalize L2.upd G5 q6 _ = G6 at *
        refine ⟨q5, q6, _, _, rfl, rfl, t6 _ _ h5, h6, szz (by simp only [List.length_map, List.length_append, List.length_take, List.length_drop]; omega), fun q7 nq7 => ?_⟩
        rw [← List.map_append]
        simp only [gName, List.set_cons_succ, List.set_cons_zero]
        refine fin G6 q7 _ (t15.trans t6) nq7 ?_ ?_
        · have := JL_split P on
          have := JL_take (P.drop on) 1
          have h1 := JL_drop P (on + 1) 1
          have h2 := JL_split P (on + 1)
          have h3 := JL_drop P on 1
          rw [JL_app, JL_app, JL_app]
          rw [show on + 1 + 1 = on + 2 from rfl] at h1
          omega
        · intro y hy
          rcases List.mem_append.mp hy with hy | hy
          · rcases List.mem_append.mp hy with hy | hy
            · rcases List.mem_append.mp hy with hy | hy
              · exact List.mem_of_mem_take hy
              · exact List.mem_of_mem_drop (List.mem_of_mem_take hy)
            · exact List.mem_of_mem_drop (List.mem_of_mem_take hy)
          · exact List.mem_of_mem_drop hy
    · subst e
      have lj : (Txt.join mk Y).length ≤ 10000 := by
        by_cases hY0 : Y = []
        · rw [hY0, join_nil]
          exact Nat.zero_le _
        · have := join_len hl1 hY0
          omega
      have aj : Asc (Txt.join mk Y) := fun c hc => by
        rcases mem_join hc with h | ⟨x, hx, h⟩
        · rw [hs, List.mem_singleton] at h
          omega
        · exact fa x (aY x hx) c h
      have sum : (Y.map (·.length)).sum + Y.length * mk.length ≤ 16777216 := by
        have := JL_sum Y
        rw [hl1]
        omega
      refine ⟨_, rfl, ⟨_, rfl⟩, _, rfl, _, pq, Y, rfl, rfl, .inl (SqL.of hY), sum, ?_⟩
      exact q _ _ (s02.trans sG) lj aj
/-! ### drawn bundles are read back; what else is told of lines -/
theorem numR_num {i : Int} (h0 : 0 ≤ i) (h1 : i ≤ 1000000000000) : numR (num i) = some i := numR_some ⟨rfl, h0, by omega⟩
theorem procR_D {d : PyData} (h : ProcD d) : ∃ ns, d = pD ns ∧ procR (pT d) = some ns := by
  obtain ⟨ns, rfl, _, hn⟩ := h
  refine ⟨ns, rfl, procR_some ⟨ns.map num, split_pT hn, List.length_map .., fun j x i hx hi => ?_⟩⟩
  rw [List.getElem?_map, hi] at hx
  cases hx
  have := hn i (List.mem_of_getElem? hi)
  exact ⟨rfl, this.1, by omega⟩
theorem objR_D {d : PyData} (h : ObjD d) : objR (oT d) = some d := by
  obtain ⟨p, k, rfl, hp, k0, k1⟩ := h
  have e := part_oT (k := k) hp
  obtain ⟨ns, rfl, h1⟩ := procR_D hp
  unfold objR
  rw [e]
  show (match procR (pT (pD ns)), numR (num k) with | some ns, some i => some (PyData.tuple [pD ns, .int i]) | _, _ => none) = _
  rw [h1, numR_num k0 (by omega)]
theorem valR_D {d : PyData} (h : ValD d) : valR (vT d) = some d := by
  have tnil : TL.tl ("nil" : Str) = [110, 105, 108] := by decide +kernel
  unfold valR
  rcases h with rfl | ⟨o, ho, rfl⟩ | ⟨i, rfl, i0, i1⟩
  · exact if_pos rfl
  · obtain ⟨r, e1⟩ := oT_head ho
    have n1 : oT o ≠ "nil" := fun e => by
      rw [e, tnil] at e1
      cases e1
    have n2 : Txt.startswith (oT o) "p" = true := (starts (d := 112) e1 (by decide +kernel)).trans (decide_eq_true rfl)
    rw [show vT (.tuple [.str "ref", o]) = oT o from rfl, if_neg n1, if_pos n2]
    rw [objR_D ho]
    rfl
  · by_cases h : 0 ≤ i
    · obtain ⟨c, r, e1, h1, h2, _⟩ := num_head h
      have n1 : num i ≠ "nil" := fun e => by
        rw [e, tnil] at e1
        injection e1 with e1 _
        omega
      have n2 : Txt.startswith (num i) "p" = false := (starts (d := 112) e1 (by decide +kernel)).trans (decide_eq_false (by omega))
      have n3 : Txt.startswith (num i) "-" = false := (starts (d := 45) e1 (by decide +kernel)).trans (decide_eq_false (by omega))
      rw [show vT (.int i) = num i from rfl, if_neg n1, if_neg (by rw [n2]; decide), if_neg (by rw [n3]; exact fun z => absurd z.1 (by decide))]
      rw [numR_num h i1]
      rfl
    · have e1 := tl_neg (i := i) (by omega)
      have e0 : num i ≠ "-0" := fun e => by
        have e2 : TL.tl (num i) = TL.tl "-0" := by rw [e]
        rw [e1, show TL.tl ("-0" : Str) = [45, 48] from by decide +kernel] at e2
        injection e2 with _ e2
        obtain ⟨c, r, e3, h1, _⟩ := numL_head (n := (-i).toNat) (by omega)
        rw [e3] at e2
        injection e2 with e2 _
        omega
      have n1 : num i ≠ "nil" := fun e => by
        rw [e, tnil] at e1
        injection e1 with e1 _
        cases e1
      have n2 : Txt.startswith (num i) "p" = false := (starts (d := 112) e1 (by decide +kernel)).trans (decide_eq_false (by decide))
      have n3 : Txt.startswith (num i) "-" = true := (starts (d := 45) e1 (by decide +kernel)).trans (decide_eq_true rfl)
      rw [show vT (.int i) = num i from rfl, if_neg n1, if_neg (by rw [n2]; decide), if_pos ⟨n3, e0⟩, show cutS (num i) (some 1) none = num (-i) from neg_tail (by omega), numR_num (by omega) (by omega)]
      show some (PyData.int (- -i)) = _
      rw [Int.neg_neg]
theorem valsR_D : ∀ {ds : List PyData}, (∀ x ∈ ds, ValD x) → valsR (ds.map vT) = some ds
  | [], _ => rfl
  | d :: ds, h => by
    rw [List.map_cons, valsR_cons, valR_D (h d List.mem_cons_self), valsR_D fun x hx => h x (List.mem_cons_of_mem _ hx)]
theorem tokR_D {t : PyData} {w : Str} (h : TokD t w) : tokR (tokT t) = some t := by
  unfold tokR
  rcases h with ⟨x, y, rfl, x0, x1, y0, y1⟩ | ⟨rfl, _⟩
  · rw [if_neg fun e => ?_]
    · rw [show Txt.partition (tokT (.tuple [.int x, .int y])) "," = (num x, (("," : Str), num y)) from part_tok x0]
      show (match numR (num x), numR (num y) with | some x, some y => some (PyData.tuple [.int x, .int y]) | _, _ => none) = _
      rw [numR_num x0 (by omega), numR_num y0 (by omega)]
    · obtain ⟨c, r, e1, h1, h2, _⟩ := num_head x0
      have e2 : TL.tl (num x ++ "," ++ num y) = TL.tl "-" := by rw [show num x ++ "," ++ num y = "-" from e]
      rw [TL.tl_append, TL.tl_append, e1, show TL.tl ("-" : Str) = [45] from by decide +kernel] at e2
      injection e2 with e2 _
      omega
  · exact if_pos rfl
theorem fltR_D : ∀ w ∈ wordsF, fltR (dashT (.str w)) = some w := by decide +kernel
theorem backR_D {b : PyData} (h : b = .tuple [] ∨ ObjD b) : backR (backT b) = some b := by
  unfold backR
  rcases h with rfl | h
  · exact if_pos rfl
  · have e : backT b ≠ "-" := fun e => by
      have := back_dash (.inr h) e
      obtain ⟨p, k, rfl, _⟩ := h
      cases this
    rw [if_neg e, (back_obj (.inr h) e).2]
    exact objR_D h
theorem entR_D {e : PyData} (h : EntD e) : entR (entW e) = some e := by
  have he := entD_of h
  obtain ⟨pd, dep, fr, back, tok, wd, rfl, hp, d0, d1, hf, hb0, hb1, ht, hw⟩ := h
  obtain ⟨op, i, ls, st, rfl, hop, i0, i1, l1, l2, hls, hst⟩ := hf
  obtain ⟨ns, rfl, h1⟩ := procR_D hp
  have hbk : back = .tuple [] ∨ ObjD back := by
    by_cases e : dep = 0
    · exact .inl (hb0 e)
    · exact .inr (hb1 e)
  have eW : entW (.tuple [pD ns, .int dep, .tuple [.str op, .int i, .tuple ls, .tuple st], back, tok, .str wd]) = fw15 (pT (pD ns)) (num dep) op (num i) (backT back) (tokT tok) (dashT (.str wd)) (ls.map vT ++ (("stack" : Str) :: st.map vT)) := by
    show ((["frame", pT (pD ns), "depth", num dep, "op", op, "at", num i, "back", backT back, "token", tokT tok, "word", dashT (.str wd), "locals"] : List Str) ++ ls.map vT) ++ (("stack" : Str) :: st.map vT) = _
    rw [List.append_assoc]
  rw [eW]
  unfold entR
  rw [if_pos (frame_words' _ _ _ _ _ _ _ _)]
  show (match stkR (ls.map vT ++ (("stack" : Str) :: st.map vT)) with
    | some (ls', st') => entX op (procR (pT (pD ns))) (numR (num dep)) (numR (num i)) (valsR ls') (valsR st') (backR (backT back)) (tokR (tokT tok)) (fltR (dashT (.str wd)))
    | none => none) = _
  rw [stkR_some fun x hx => by
    obtain ⟨d, hd, rfl⟩ := List.mem_map.mp hx
    exact vT_stack (hls d hd)]
  show entX op (procR (pT (pD ns))) (numR (num dep)) (numR (num i)) (valsR (ls.map vT)) (valsR (st.map vT)) (backR (backT back)) (tokR (tokT tok)) (fltR (dashT (.str wd))) = _
  rw [h1, numR_num d0 (by omega), numR_num i0 (by omega), valsR_D hls, valsR_D hst, backR_D hbk, tokR_D ht, fltR_D wd hw]
  exact if_pos he
theorem headR_D {o : PyData} {mk : Str} {vs es : List PyData} {c : Int} (h : BundD (.tuple [o, .str mk, .tuple vs, .tuple es, .int c])) : headR (headW (.tuple [o, .str mk, .tuple vs, .tuple es, .int c])) = some (.tuple [o, .str mk, .tuple vs, .tuple [], .int c]) := by
  obtain ⟨o', mk', vs', es', c', e, ho, hm, lv, hv, le, he, c0, c1⟩ := h
  injection e with e
  injection e with e1 e
  injection e with e2 e
  injection e with e3 e
  injection e with e4 e
  injection e with e5 _
  injection e2 with e2
  injection e3 with e3
  injection e4 with e4
  injection e5 with e5
  subst e1 e2 e3 e4 e5
  have hb : BundD (.tuple [o, .str mk, .tuple vs, .tuple [], .int c]) := ⟨o, mk, vs, [], c, rfl, ho, hm, lv, hv, Nat.zero_le _, (fun _ h => nomatch h), c0, c1⟩
  have hord : OrdD (.tuple [o, .str mk, .tuple vs, .tuple [], .int c]) := fun o m v es c h => by
    injection h with h
    injection h with _ h
    injection h with _ h
    injection h with _ h
    injection h with h _
    injection h with h
    subst h
    rfl
  show headR (hw7 (oT o) mk (num c) (vs.map vT)) = _
  unfold headR
  rw [if_pos (head_words' _ _ _ _)]
  show (match objR (oT o), valsR (vs.map vT), numR (num c) with
    | some od, some vs, some i => if bunD (.tuple [od, .str mk, .tuple vs, .tuple [], .int i]) = true then some (PyData.tuple [od, .str mk, .tuple vs, .tuple [], .int i]) else none
    | _, _, _ => none) = _
  rw [objR_D ho, valsR_D hv, numR_num c0 c1]
  exact if_pos (bunD_of hb hord)
/-! ### whole texts -/
def tx (Ls : List Str) (u : Str) : Str := cat (Ls.map fun z => z ++ "\n") ++ u
def NoL (x : Str) : Prop := 10 ∉ TL.tl x
theorem split_tx {Ls : List Str} {u : Str} (h : ∀ x ∈ Ls, NoL x) (hu : NoL u) : Txt.split (tx Ls u) "\n" = Ls ++ [u] := by
  have e : tx Ls u = Txt.join "\n" (Ls ++ [u]) := by
    unfold tx
    rw [join_ends]
    by_cases hl : Ls = []
    · rw [hl]
      show Txt.join "\n" [Str.empty] ++ u = Txt.join "\n" [u]
      rw [join_one, join_one, empty_app]
    · rw [join_app "\n" hl (by simp), join_app "\n" hl (by simp), join_one, join_one, app_empty]
  rw [e]
  refine TL.split_join (s := 10) (S := []) rfl (by decide +kernel) (by simp) fun p hp => ?_
  rcases List.mem_append.mp hp with hp | hp
  · exact h p hp
  · rw [List.mem_singleton.mp hp]
    exact hu
theorem bunR_tx {Ls : List Str} {u : Str} (h : ∀ x ∈ Ls, NoL x) (hu : NoL u) : bunR (tx Ls u) = linR Ls u := by
  unfold bunR
  rw [split_tx h hu, List.dropLast_concat]
  congr 1
  simp
theorem tx_snoc (Ls : List Str) (l : Str) : tx Ls "" ++ l ++ "\n" = tx (Ls ++ [l]) "" := by
  unfold tx
  rw [List.map_append, cat_app, List.map_cons, List.map_nil, cat_cons, cat_nil, show (Str.ofString "") = Str.empty from rfl]
  simp only [app_empty, app_assoc]
theorem entsR_pre : ∀ {es : List PyData} {ls more : List Str} {bf : List PyData}, ls.length = es.length → (∀ (k : Nat) (l : Str) (e : PyData), ls[k]? = some l → es[k]? = some e → entR (Txt.split l " ") = some e) → (∀ e, es[0]? = some e → abvAll e bf = true) →
    (List.zipWith (fun b e => abvD e b) es es.tail).all id = true → entsR bf (ls ++ more) = preE es es.length (entsR (if es = [] then bf else lastL es) more)
  | [], [], more, bf, _, _, _, _ => by
    rw [if_pos rfl]
    show entsR bf more = preE [] 0 (entsR bf more)
    cases entsR bf more <;> rfl
  | [], _ :: _, _, _, l, _, _, _ => nomatch l
  | _ :: _, [], _, _, l, _, _, _ => nomatch l
  | e :: es, l :: ls, more, bf, hl, h, hb, hz => by
    have he := h 0 l e rfl rfl
    have hab := hb e rfl
    rw [if_neg (by simp)]
    have e1 : entsR bf ((l :: ls) ++ more) = (match entsR [e] (ls ++ more) with | .inl k => .inl (k + 1) | .inr ds => .inr (e :: ds)) := by
      show (match entR (Txt.split l " ") with | some d => _ | none => _) = _
      rw [he]
      exact if_pos hab
    have ih := entsR_pre (es := es) (ls := ls) (more := more) (bf := [e]) (Nat.succ.inj hl) (fun k l' e' h1 h2 => h (k + 1) l' e' h1 h2) (fun e' he' => by
      cases es with
      | nil => cases he'
      | cons x r =>
        have ex : x = e' := Option.some.inj he'
        rw [← ex]
        have hz : (abvD x e && (List.zipWith (fun b e => abvD e b) (x :: r) (x :: r).tail).all id) = true := hz
        show (abvD x e && true) = true
        rw [(Bool.and_eq_true_iff.mp hz).1]
        rfl) (by
      cases es with
      | nil => rfl
      | cons x r =>
        have hz : (abvD x e && (List.zipWith (fun b e => abvD e b) (x :: r) (x :: r).tail).all id) = true := hz
        exact (Bool.and_eq_true_iff.mp hz).2)
    have el : (if es = [] then [e] else lastL es) = lastL (e :: es) := by
      cases es with
      | nil => rfl
      | cons x r =>
        rw [if_neg (by simp)]
        unfold lastL
        rw [List.length_cons, List.length_cons, Nat.add_sub_cancel, Nat.add_sub_cancel]
        rfl
    rw [e1, ih, el]
    cases entsR (lastL (e :: es)) more with
    | inl k => rfl
    | inr ds => rfl
/-! ### drawn texts are of plain signs -/
theorem asc_lit {x : Str} (h : (TL.tl x).all (fun c => decide (c < 128)) = true) : Asc x := fun c hc => of_decide_eq_true (List.all_eq_true.mp h c hc)
theorem asc_num (i : Int) : Asc (num i) := by
  by_cases h : 0 ≤ i
  · exact fun c hc => by have := num_digits h c hc; omega
  · intro c hc
    rw [tl_neg (by omega)] at hc
    rcases List.mem_cons.mp hc with rfl | hc
    · decide
    · have := TL.numL_digits _ c hc
      omega
theorem asc_pT {d : PyData} (h : ProcD d) : Asc (pT d) := fun c hc => by
  have := pT_signs h c hc
  omega
theorem asc_oT {d : PyData} (h : ObjD d) : Asc (oT d) := by
  obtain ⟨p, k, rfl, hp, _⟩ := h
  rw [oT_eq]
  exact asc_app (asc_app (asc_pT hp) (asc_lit (by decide +kernel))) (asc_num _)
theorem asc_vT {d : PyData} (h : ValD d) : Asc (vT d) := by
  rcases h with rfl | ⟨o, ho, rfl⟩ | ⟨i, rfl, h0, h1⟩
  · exact asc_lit (by decide +kernel)
  · exact asc_oT ho
  · exact asc_num i
theorem asc_words : ∀ x ∈ (["start", "get", "f2", "Put", "", "number", "large", "nil", "Box", "a1", "Z", "ref"] : List Str), Asc x := fun x hx => asc_lit (List.all_eq_true.mp (show (["start", "get", "f2", "Put", "", "number", "large", "nil", "Box", "a1", "Z", "ref"] : List Str).all (fun x => (TL.tl x).all fun c => decide (c < 128)) = true by decide +kernel) x hx)
theorem asc_tok {t : PyData} {w : Str} (h : TokD t w) : Asc (tokT t) := by
  rcases h with ⟨x, y, rfl, _⟩ | ⟨rfl, _⟩
  · exact asc_app (asc_app (asc_num x) (asc_lit (by decide +kernel))) (asc_num y)
  · exact asc_lit (by decide +kernel)
theorem asc_back {b : PyData} (h : b = .tuple [] ∨ ObjD b) : Asc (backT b) := by
  rcases h with rfl | h
  · exact asc_lit (by decide +kernel)
  · have e : backT b = oT b := by
      obtain ⟨p, k, rfl, _⟩ := h
      rfl
    rw [e]
    exact asc_oT h
theorem asc_dash {w : Str} (h : w ∈ wordsF) : Asc (dashT (.str w)) := by
  show Asc (if w = "" then "-" else w)
  split
  · exact asc_lit (by decide +kernel)
  · exact asc_words w (words_in w h)
theorem asc_ls {ds : List PyData} (h : ∀ x ∈ ds, ValD x) : ∀ x ∈ lsT (.tuple ds), Asc x := fun x hx => by
  obtain ⟨d, hd, rfl⟩ := List.mem_map.mp (show x ∈ ds.map vT from hx)
  exact asc_vT (h d hd)
theorem asc_head {o : PyData} {mk : Str} {vs : List PyData} {es : PyData} {c : Int} (ho : ObjD o) (hm : mk ∈ (["start", "Box", "a1", "Z"] : List Str)) (hv : ∀ x ∈ vs, ValD x) : ∀ x ∈ headW (.tuple [o, .str mk, .tuple vs, es, .int c]), Asc x :=
  al2_app (al2_cons (asc_lit (by decide +kernel)) (al2_cons (asc_oT ho) (al2_cons (asc_lit (by decide +kernel)) (al2_cons (asc_words mk (makers_in mk hm)) (al2_cons (asc_lit (by decide +kernel)) (al2_cons (asc_num c) (al2_cons (asc_lit (by decide +kernel)) (fun _ h => nomatch h)))))))) (asc_ls hv)
theorem asc_ent {d : PyData} (h : EntD d) : ∀ x ∈ entW d, Asc x := by
  obtain ⟨pd, dep, fr, back, tok, wd, rfl, hp, d0, d1, hf, hb0, hb1, ht, hw⟩ := h
  obtain ⟨op, i, ls, st, rfl, hop, i0, i1, l1, l2, hls, hst⟩ := hf
  have hbk : back = .tuple [] ∨ ObjD back := by
    by_cases e : dep = 0
    · exact .inl (hb0 e)
    · exact .inr (hb1 e)
  have L : ∀ {x : Str}, (TL.tl x).all (fun c => decide (c < 128)) = true → Asc x := fun h => asc_lit h
  exact al2_app (al2_app (al2_cons (L (by decide +kernel)) (al2_cons (asc_pT hp) (al2_cons (L (by decide +kernel)) (al2_cons (asc_num dep) (al2_cons (L (by decide +kernel)) (al2_cons (asc_words op (List.mem_of_mem_take (i := 4) hop)) (al2_cons (L (by decide +kernel)) (al2_cons (asc_num i) (al2_cons (L (by decide +kernel)) (al2_cons (asc_back hbk) (al2_cons (L (by decide +kernel)) (al2_cons (asc_tok ht) (al2_cons (L (by decide +kernel)) (al2_cons (asc_dash hw) (al2_cons (L (by decide +kernel)) (fun _ h => nomatch h)))))))))))))))) (asc_ls hls)) (al2_cons (L (by decide +kernel)) (asc_ls hst))
theorem asc_join {y : Str} {xs : List Str} (hy : Asc y) (h : ∀ x ∈ xs, Asc x) : Asc (Txt.join y xs) := fun c hc => by
  rcases mem_join hc with h1 | ⟨x, hx, h1⟩
  · exact hy c h1
  · exact h x hx c h1
theorem asc_nl : Asc "\n" := asc_lit (by decide +kernel)
theorem asc_tx {Ls : List Str} {u : Str} (h : ∀ x ∈ Ls, Asc x) (hu : Asc u) : Asc (tx Ls u) := asc_app (fun c hc => by
  obtain ⟨x, hx, hc⟩ := mem_cat hc
  obtain ⟨y, hy, rfl⟩ := List.mem_map.mp hx
  exact asc_app (h y hy) asc_nl c hc) hu
/-! ### a drawn bundle's text -/
structure Dr (d : PyData) (hl : Str) (els : List Str) (h : PyData) (es : List PyData) : Prop where
  text : bT d = tx (hl :: els) ""
  len : els.length = es.length
  few : es.length ≤ 4
  head : headR (Txt.split hl " ") = some h
  ents : ∀ (k : Nat) (l : Str) (e : PyData), els[k]? = some l → es[k]? = some e → entR (Txt.split l " ") = some e
  chain : (List.zipWith (fun b e => abvD e b) es es.tail).all id = true
  draw : ∀ e ∈ es, EntD e
  ok : ∀ x ∈ hl :: els, NoL x ∧ Asc x ∧ x.length ≤ 899
  ne : ∀ x ∈ els, x ≠ ""
theorem dr_of {d : PyData} (hB : BundD d) (hO : OrdD d) : ∃ hl els h es o mk vs c, d = .tuple [o, mk, vs, .tuple es, c] ∧ Dr d hl els h es := by
  have hB' := hB
  obtain ⟨o, mk, vs, es, c, rfl, ho, hm, lv, hv, le, he, c0, c1⟩ := hB
  have len : ∀ {x : Str}, (x ++ "\n").length ≤ 900 → x.length ≤ 899 := fun {x} h => by
    rw [app_len] at h
    have : ("\n" : Str).length = 1 := rfl
    omega
  refine ⟨Txt.join " " (headW (.tuple [o, .str mk, .tuple vs, .tuple es, .int c])), es.map (fun e => Txt.join " " (entW e)), .tuple [o, .str mk, .tuple vs, .tuple [], .int c], es, o, _, _, _, rfl, ?_⟩
  have hs : ∀ e ∈ es, Txt.split (Txt.join " " (entW e)) " " = entW e := fun e hm => split_words (okw_ent (he e hm)) (by
    obtain ⟨pd, dep, fr, back, tok, wd, rfl, hp, d0, d1, hf, hb0, hb1, ht, hw⟩ := he e hm
    obtain ⟨op, i, ls, st, rfl, hop, i0, i1, l1, l2, hls, hst⟩ := hf
    show _ ++ _ ≠ []
    simp)
  refine ⟨?_, List.length_map .., le, ?_, fun k l e h1 h2 => ?_, hO _ _ _ _ _ rfl, he, fun x hx => ?_, fun x hx => ?_⟩
  · show cat _ = cat _ ++ (Str.ofString "")
    rw [show (Str.ofString "") = Str.empty from rfl, app_empty]
    rfl
  · rw [split_words (okw_head ho hm hv) (by show _ :: _ ≠ []; simp)]
    exact headR_D hB'
  · rw [List.getElem?_map, h2] at h1
    cases h1
    have hm := List.mem_of_getElem? h2
    rw [hs e hm]
    exact entR_D (he e hm)
  · rcases List.mem_cons.mp hx with rfl | hx
    · exact ⟨no_line (okw_head ho hm hv), asc_join (asc_lit (by decide +kernel)) (asc_head ho hm hv), len (len_head ho hm hv lv c0 c1)⟩
    · obtain ⟨e, hm, rfl⟩ := List.mem_map.mp hx
      exact ⟨no_line (okw_ent (he e hm)), asc_join (asc_lit (by decide +kernel)) (asc_ent (he e hm)), len (len_ent (he e hm))⟩
  · obtain ⟨e, hm, rfl⟩ := List.mem_map.mp hx
    intro z
    have := hs e hm
    rw [z] at this
    have h2 : Txt.split "" " " = [("" : Str)] := by decide +kernel
    rw [h2] at this
    have h3 := entR_D (he e hm)
    rw [← this] at h3
    have h4 : (entR [("" : Str)]).isNone = true := by decide +kernel
    rw [h3] at h4
    cases h4
theorem Dr.bun {d : PyData} {hl : Str} {els : List Str} {h : PyData} {es : List PyData} (D : Dr d hl els h es) {more : List Str} {u : Str} (hm : ∀ x ∈ more, NoL x) (hu : NoL u) :
    bunR (tx (hl :: els ++ more) u) = (match preE es es.length (entsR (lastL es) more) with
      | .inl k => .inl (k + 2)
      | .inr es => if u = ("" : Str) then .inr (withE h es) else .inl ((els ++ more).length + 2)) := by
  rw [bunR_tx (fun x hx => (List.mem_append.mp hx).elim (fun z => (D.ok x z).1) (hm x)) hu]
  show linR (hl :: (els ++ more)) u = _
  have e : (if es = [] then [] else lastL es) = lastL es := by
    split
    · rename_i z
      rw [z]
      rfl
    · rfl
  rw [linR_cons, D.head, entsR_pre D.len D.ents (fun _ _ => rfl) D.chain, e] <;> cases preE es es.length (entsR (lastL es) more) <;> rfl
theorem nol_nil : NoL "" := by
  unfold NoL
  decide +kernel
/-- a further bad line -/
theorem Dr.bad {d : PyData} {hl : Str} {els : List Str} {h : PyData} {es : List PyData} (D : Dr d hl els h es) {l : Str} {r : List Str} (hr : ∀ x ∈ l :: r, NoL x) (no : ∀ e, entR (Txt.split l " ") = some e → abvAll e (lastL es) = false) : bunR (tx (hl :: els ++ (l :: r)) "") = .inl (es.length + 2) := by
  rw [D.bun hr nol_nil]
  have e : entsR (lastL es) (l :: r) = .inl 0 := by
    show (match entR (Txt.split l " ") with | some d => _ | none => _) = _
    cases q : entR (Txt.split l " ") with
    | none => rfl
    | some e => exact if_neg (by rw [no e q]; decide)
  rw [e]
  show Sum.inl (0 + es.length + 2) = _
  rw [Nat.zero_add]
/-- a further good line -/
theorem Dr.good {d : PyData} {hl : Str} {els : List Str} {h : PyData} {es : List PyData} (D : Dr d hl els h es) {l : Str} {e : PyData} (hn : NoL l) (he : entR (Txt.split l " ") = some e) (hab : abvAll e (lastL es) = true) : ∃ x, bunR (tx (hl :: els ++ [l]) "") = .inr x := by
  rw [D.bun (fun x hx => by rw [List.mem_singleton.mp hx]; exact hn) nol_nil]
  have e : entsR (lastL es) [l] = .inr [e] := by
    show (match entR (Txt.split l " ") with | some d => _ | none => _) = _
    rw [he]
    exact if_pos hab
  rw [e]
  exact ⟨_, if_pos rfl⟩
theorem chain_take {es : List PyData} {n : Nat} (h : (List.zipWith (fun b e => abvD e b) es es.tail).all id = true) : (List.zipWith (fun b e => abvD e b) (es.take n) (es.take n).tail).all id = true := by
  rw [List.all_eq_true] at h ⊢
  intro b hb
  obtain ⟨k, hk, rfl⟩ := List.getElem_of_mem hb
  have hk' := hk
  rw [List.length_zipWith, List.length_tail, List.length_take] at hk'
  refine h _ ?_
  rw [List.getElem_zipWith, List.getElem_tail, List.getElem_take, List.getElem_take]
  have hk2 : k < (List.zipWith (fun b e => abvD e b) es es.tail).length := by
    rw [List.length_zipWith, List.length_tail]
    omega
  have := List.getElem_mem hk2
  rw [List.getElem_zipWith, List.getElem_tail] at this
  exact this
/-- cut off within the last line -/
theorem Dr.cut {d : PyData} {hl : Str} {els : List Str} {h : PyData} {es : List PyData} (D : Dr d hl els h es) : bunR (cutS (bT d) none (some (-1))) = .inl (es.length + 1) := by
  have hc : ∀ {Ls : List Str} {l : Str}, cutS (tx (Ls ++ [l]) "") none (some (-1)) = tx Ls l := fun {Ls l} => by
    rw [← tx_snoc]
    have e : tx Ls "" ++ l = tx Ls l := by
      unfold tx
      rw [show (Str.ofString "") = Str.empty from rfl, app_empty]
    rw [e]
    refine TL.ext_tl ?_
    have hl : (tx Ls l ++ "\n").length = (tx Ls l).length + 1 := by rw [app_len]; rfl
    show ((TL.tl (tx Ls l ++ "\n")).drop 0).take (HT.sIx (tx Ls l ++ "\n").length (tx Ls l ++ "\n").length (some (-1)) - 0) = TL.tl (tx Ls l)
    have e : HT.sIx (tx Ls l ++ "\n").length (tx Ls l ++ "\n").length (some (-1)) = (tx Ls l).length := by
      show (if (-1 : Int) < 0 then ((-1 : Int) + ((tx Ls l ++ "\n").length : Int)).toNat else min (-1 : Int).toNat (tx Ls l ++ "\n").length) = _
      rw [if_pos (by decide), hl]
      omega
    rw [e, TL.tl_append, List.drop_zero, Nat.sub_zero, TL.len_tl (tx Ls l), List.take_left]
  have hd := D.ok
  rw [D.text]
  cases z : els with
  | nil =>
    rw [show hl :: ([] : List Str) = [] ++ [hl] from rfl, hc, bunR_tx (Ls := []) (fun x hx => absurd hx (by simp)) (hd hl List.mem_cons_self).1]
    have : es.length = 0 := by
      rw [← D.len, z]
      rfl
    rw [this]
    rfl
  | cons x r =>
    have hne : els ≠ [] := by rw [z]; simp
    obtain ⟨ini, l, e⟩ : ∃ ini l, els = ini ++ [l] := ⟨_, _, (List.dropLast_concat_getLast hne).symm⟩
    rw [← z, e, show hl :: (ini ++ [l]) = (hl :: ini) ++ [l] from rfl, hc]
    have hn : ∀ x ∈ hl :: ini, NoL x := fun x hx => by
      refine (hd x ?_).1
      rw [e]
      rcases List.mem_cons.mp hx with h | h
      · rw [h]
        exact List.mem_cons_self
      · exact List.mem_cons_of_mem _ (List.mem_append_left _ h)
    rw [bunR_tx hn (hd l (by rw [e]; simp)).1, linR_cons, D.head]
    have hlen : ini.length + 1 = es.length := by
      rw [← D.len, e, List.length_append]
      rfl
    have h1 := entsR_pre (es := es.take ini.length) (ls := ini) (more := []) (bf := []) (by rw [List.length_take]; omega) (fun k l' e' a b => by
      have hk := (List.getElem?_eq_some_iff.mp a).1
      refine D.ents k l' e' ?_ ?_
      · rw [e, List.getElem?_append_left hk]
        exact a
      · rw [List.getElem?_take_of_lt hk] at b
        exact b) (fun _ _ => rfl) (chain_take D.chain)
    rw [List.append_nil] at h1
    rw [h1]
    show (if l = ("" : Str) then Sum.inr (withE h (es.take ini.length ++ [])) else Sum.inl (ini.length + 2)) = _
    rw [if_neg (D.ne l (by rw [e]; simp)), ← hlen]
/-! ### entries above others -/
theorem ent_keyS {e : PyData} (h : EntD e) : ∃ (ns : List Int) (dp : Int), key2 e = keyD (ns, dp) ∧ ∀ n ∈ ns, n ≤ 12 := by
  obtain ⟨pd, dep, fr, back, tok, wd, rfl, hp, _⟩ := h
  obtain ⟨ns, rfl, _, hn⟩ := hp
  exact ⟨ns, dep, rfl, fun n hm => (hn n hm).2⟩
theorem abv_self {e : PyData} (h : EntD e) : abvD e e = false := by
  obtain ⟨ns, dp, e1, _⟩ := ent_keyS h
  show PySem.W.dataLt (key2 e) (key2 e) = false
  rw [e1, lt_keys]
  refine decide_eq_false ?_
  unfold keyLt
  rw [if_pos rfl]
  exact Int.lt_irrefl _
def goodL : Str := "frame p.99 depth 0 op start at 0 back - token - word - locals stack"
def goodE : PyData := entY "start" [99] 0 0 [] [] (.tuple []) .none ""
theorem good_read : entR (Txt.split goodL " ") = some goodE := by kernel_rfl
theorem abv_good {e : PyData} (h : EntD e) : abvD goodE e = true := by
  obtain ⟨ns, dp, e1, hn⟩ := ent_keyS h
  show PySem.W.dataLt (key2 e) (key2 goodE) = true
  rw [e1, show key2 goodE = keyD ([99], 0) from rfl, lt_keys]
  refine decide_eq_true ?_
  unfold keyLt
  have ne : ns ≠ [99] := fun z => by
    have := hn 99 (by rw [z]; simp)
    omega
  rw [if_neg ne]
  show ns < [99]
  cases ns with
  | nil => exact List.Lex.nil
  | cons n r => exact List.Lex.rel (by have := hn n List.mem_cons_self; omega)
/-! ### the law -/
def badL : List Str := ["", "frame", "object p#0 maker start count 0 fields", "frame p depth 0 op start at 0 back - token - word - locals", " frame p depth 0 op start at 0 back - token - word - locals stack",
  "frame p.99 depth 0 op start at 00 back - token - word - locals stack", "frame p.99 depth 0 op start at 0 back p#0 token - word - locals stack", "frame p.99 depth 1 op start at 0 back - token - word - locals stack", "frame p.99 depth 0 op start at 0 back - token - word nil locals stack",
  "frame p.99 depth 0 op start at 0 back - token 1 word - locals stack", "frame p.99 depth 0 op start at 0 back - token 1,0 word zero locals stack", "frame p.99 depth 0 op if at 0 back - token - word - locals stack", "frame p.99 depth 0 op start at 0 back - token - word  locals stack",
  "frame p.99 depth 0 op start at 0 back - token - word - locals -0 stack", "frame p.99 depth 0 op start at 0 back - token - word - locals stack ", "frame p.099 depth 0 op start at 0 back - token - word - locals stack", "frame p. depth 0 op start at 0 back - token - word - locals stack",
  "frame p.99 depth 0 op start at 0 back - token - word - locals 1000000000001 stack", "frame p.99#1 depth 0 op start at 0 back - token - word - locals stack"]
theorem badL_all : badL.all (fun l => (entR (Txt.split l " ")).isNone && (!(TL.tl l).contains 10 && ((TL.tl l).all (fun c => decide (c < 128)) && decide (l.length ≤ 100)))) = true := by decide +kernel
theorem badL_ok : ∀ l ∈ badL, entR (Txt.split l " ") = none ∧ NoL l ∧ Asc l ∧ l.length ≤ 100 := fun l hl => by
  have h := List.all_eq_true.mp badL_all l hl
  simp only [Bool.and_eq_true, Option.isNone_iff_eq_none, Bool.not_eq_true', List.all_eq_true, decide_eq_true_eq] at h
  obtain ⟨h1, h2, h3, h4⟩ := h
  refine ⟨h1, fun z => ?_, fun c hc => h3 c hc, h4⟩
  rw [List.contains_iff_mem.mpr z] at h2
  cases h2
theorem entsR_lt : ∀ {bf : List PyData} {r : List Str} {k : Nat}, entsR bf r = .inl k → k < r.length
  | bf, [], k, h => by cases h
  | bf, l :: r, k, h => by
    have h : (match entR (Txt.split l " ") with
      | some d => if abvAll d bf = true then (match entsR [d] r with
        | .inl k => .inl (k + 1)
        | .inr ds => .inr (d :: ds)) else .inl 0
      | none => .inl 0) = (.inl k : Nat ⊕ List PyData) := h
    rw [List.length_cons]
    split at h
    · split at h
      · split at h
        · rename_i hk
          cases h
          have := entsR_lt hk
          omega
        · cases h
      · cases h
        omega
    · cases h
      omega
theorem bun_le {t : Str} {n : Nat} (h : bunR t = .inl n) : n ≤ (Txt.split t "\n").length := by
  obtain ⟨f1, f2, f3⟩ := split_facts (t := t) (y := "\n") (by decide +kernel) (by decide +kernel)
  obtain ⟨L, u, eP⟩ : ∃ L u, Txt.split t "\n" = L ++ [u] := ⟨_, _, (List.dropLast_concat_getLast f1).symm⟩
  have eB : bunR t = linR L u := by
    unfold bunR
    rw [eP, List.dropLast_concat]
    congr 1
    simp
  rw [eB] at h
  rw [eP, List.length_append, List.length_singleton]
  cases L with
  | nil =>
    cases h
    exact Nat.le_refl _
  | cons l r =>
    rw [linR_cons] at h
    rw [List.length_cons]
    split at h
    · cases h
      omega
    · split at h
      · rename_i hk
        cases h
        have := entsR_lt hk
        omega
      · split at h
        · cases h
        · cases h
          omega
theorem ll_inl {t : Str} {n : Nat} {H : Hp} {Q : VK} {E : XK} (e : bunR t = .inl n) (hl : t.length ≤ 10000) (asc : Asc t) (q : ∀ H', Same H H' → Q (.int (n : Nat)) H') : spLL K [.str t] H Q E :=
  ⟨t, rfl, hl, asc, fun d hd => (by rw [e] at hd; cases hd), fun m hm => (by rw [e] at hm; cases hm; exact q)⟩
theorem ll_inr {t : Str} {d : PyData} {H : Hp} {Q : VK} {E : XK} (e : bunR t = .inr d) (hl : t.length ≤ 10000) (asc : Asc t) (q : ∀ H', Same H H' → Q (.int 0) H') : spLL K [.str t] H Q E :=
  ⟨t, rfl, hl, asc, fun _ _ => q, fun m hm => (by rw [e] at hm; cases hm)⟩
theorem ll_any (t : Str) : ∃ m : Nat, m ≤ (Txt.split t "\n").length ∧ ∀ {K : PySem.W.Frag} {H : Hp} {Q : VK} {E : XK}, t.length ≤ 10000 → Asc t → (∀ H', Same H H' → Q (.int (m : Nat)) H') → spLL K [.str t] H Q E := by
  cases e : bunR t with
  | inl n => exact ⟨n, bun_le e, fun hl asc q => ll_inl e hl asc q⟩
  | inr d => exact ⟨0, Nat.zero_le _, fun hl asc q => ll_inr e hl asc q⟩
theorem bun_e : bunR "" = .inl 1 := by kernel_rfl
theorem bun_n : bunR "\n" = .inl 1 := by kernel_rfl
theorem head_x : headR (Txt.split "x" " ") = none := by kernel_rfl
theorem len_bT2 {d : PyData} (h : BundD d) : (bT d).length ≤ 4600 := by
  obtain ⟨o, mk, vs, es, c, rfl, ho, hm, lv, hv, le, he, c0, c1⟩ := h
  rw [bT_eq, app_len]
  have h1 := len_head (es := .tuple es) ho hm hv lv c0 c1
  have h2 := cat_len (xs := es.map fun e => Txt.join " " (entW e) ++ "\n") (n := 900) fun x hx => by
    obtain ⟨d, hd, rfl⟩ := List.mem_map.mp hx
    exact len_ent (he d hd)
  rw [List.length_map] at h2
  omega
def spLaw (K : PySem.W.Frag) : Sp := fun vs H Q _ => ∃ (a : Addr) (ns : List Int), vs = [.ref a] ∧ SqL K H a (ns.map V.int) ∧ ns.length ≤ 63 ∧ ∀ H', Q (.bl true) H'
theorem ok_law (hP : SupI.SupP P fileP) (T : Txt K mg w a) : FnOk P w K mg base CX0 13 (He.ga K "law") a.d_law ["script"] (spLaw K) := by
  have gbo := ok_lw_bundleO (P := P) (w := w) (base := base) T
  have gll := ok_lw_line (P := P) (w := w) (base := base) hP T
  refine T.F_law.ok sc_law (fun vs H Q E h => ?_) (fun cdv A outer s H vs Q E hr h => ?_)
  · obtain ⟨l, ns, rfl, _⟩ := h
    rfl
  · obtain ⟨l, sc, rfl, hl, hsc, q⟩ := h
    refine ⟨_, PSs.nox (pss_cons (ps_set (i := 1) sc_law.nd rfl (Or.inl rfl) (pe_call (ok_lw_numbers T) (hr.mono (by omega)) (by rfl) T.g_lw_numbers T.F_lw_numbers.kp T.b_lw_numbers .nil pass0 (pa_cons (pv 0) (pa_cons pe_int pa_nil))))
      (pss_cons (ps_set (i := 2) sc_law.nd rfl (Or.inl rfl) (pe_call gbo (hr.mono (by omega)) (by rfl) T.g_lw_bundle T.F_lw_bundle.kp T.b_lw_bundle .nil pass0 (pa_cons (pv 1) (pa_cons pe_int pa_nil))))
      (pss_cons (ps_set (i := 3) sc_law.nd rfl (Or.inl rfl) (pe_call (ok_lw_text T) (hr.mono (by omega)) (by rfl) T.g_lw_text T.F_lw_text.kp T.b_lw_text .nil pass0 (pa_cons (pv 2) pa_nil)))
      (pss_cons (ps_for PassesOwn.never rfl (pi_range1 (by rfl) T.g_range (pa_cons pe_int pa_nil)) (pg_name (i := 4) sc_law.nd rfl (Or.inl rfl))
      (pss_cons (ps_set (i := 5) sc_law.nd rfl (Or.inl rfl) (pe_call (ok_lw_changed T) (hr.mono (by omega)) (by rfl) T.g_lw_changed T.F_lw_changed.kp T.b_lw_changed .nil pass0 (pa_cons (pv 1) (pa_cons (pe_callTy call_int1 (by rfl) T.g_int boot_int (pa_cons (pe_op op_add pe_int (pe_op op_mul pe_int (pv 4))) pa_nil)) (pa_cons (pv 3) pa_nil)))))
      (pss_cons (ps_set (i := 6) sc_law.nd rfl (Or.inl rfl) (pe_call gll (hr.mono (by omega)) (by rfl) T.g_lw_line T.F_lw_line.kp T.b_lw_line .nil pass0 (pa_cons (pv 5) pa_nil)))
      (pss_one (ps_if (PW.pt (pw_or (pt_cmpR op_lt (pv 6) pe_int (nomark _)) (pw_or1 (pt_cmpR op_gt (pv 6) (pe_callB call_len_seq (by rfl) T.g_len boot_len (pa_cons (pe_split (pv 5) pe_str) pa_nil)) (nomark _))))) (pss_one (ps_ret pe_bl)) pss_nil)))))
      (pss_cons (ps_set (i := 7) sc_law.nd rfl (Or.inl rfl) (pe_callB call_len_seq (by rfl) T.g_len boot_len (pa_cons (pe_split (pv 3) pe_str) pa_nil)))
      (pss_cons (ps_set (i := 8) sc_law.nd rfl (Or.inl rfl) (pe_lst (pa_cons pe_str (pa_cons pe_str (pa_cons pe_str (pa_cons pe_str (pa_cons pe_str pa_nil)))))))
      (pss_cons (ps_set (i := 8) sc_law.nd rfl (Or.inl rfl) (pe_op op_cat (pv 8) (pe_lst (pa_cons pe_str (pa_cons pe_str pa_nil)))))
      (pss_cons (ps_set (i := 8) sc_law.nd rfl (Or.inl rfl) (pe_op op_cat (pv 8) (pe_lst (pa_cons pe_str (pa_cons pe_str pa_nil)))))
      (pss_cons (ps_set (i := 8) sc_law.nd rfl (Or.inl rfl) (pe_op op_cat (pv 8) (pe_lst (pa_cons pe_str (pa_cons pe_str pa_nil)))))
      (pss_cons (ps_set (i := 8) sc_law.nd rfl (Or.inl rfl) (pe_op op_cat (pv 8) (pe_lst (pa_cons pe_str (pa_cons pe_str pa_nil)))))
      (pss_cons (ps_set (i := 8) sc_law.nd rfl (Or.inl rfl) (pe_op op_cat (pv 8) (pe_lst (pa_cons pe_str (pa_cons pe_str pa_nil)))))
      (pss_cons (ps_set (i := 8) sc_law.nd rfl (Or.inl rfl) (pe_op op_cat (pv 8) (pe_lst (pa_cons pe_str (pa_cons pe_str pa_nil)))))
      (pss_cons (ps_set (i := 8) sc_law.nd rfl (Or.inl rfl) (pe_op op_cat (pv 8) (pe_lst (pa_cons pe_str (pa_cons pe_str pa_nil)))))
      (pss_cons (ps_set (i := 9) sc_law.nd rfl (Or.inl rfl) (pe_ix ix_list (pv 8) (pe_op op_mod (pe_ix ix_list (pv 1) pe_int (fun _ _ => rfl)) (pe_callB call_len_seq (by rfl) T.g_len boot_len (pa_cons (pv 8) pa_nil))) (fun _ _ => rfl)))
      (pss_cons (ps_if (PW.pt (pw_or (pt_cmpR op_ne (pe_call gll (hr.mono (by omega)) (by rfl) T.g_lw_line T.F_lw_line.kp T.b_lw_line .nil pass0 (pa_cons (pe_op op_add_str (pe_op op_add_str (pv 3) (pv 9)) pe_str) pa_nil)) (pv 7) (nomark _)) (pw_or1 (pt_cmpR op_ne (pe_call gll (hr.mono (by omega)) (by rfl) T.g_lw_line T.F_lw_line.kp T.b_lw_line .nil pass0 (pa_cons (pe_op op_add_str (pe_op op_add_str (pv 3) (pv 9)) pe_str) pa_nil)) (pv 7) (nomark _))))) (pss_one (ps_ret pe_bl)) pss_nil)
      (pss_cons (ps_if (PW.pt (pw_or (pt_cmpR op_ne (pe_call gll (hr.mono (by omega)) (by rfl) T.g_lw_line T.F_lw_line.kp T.b_lw_line .nil pass0 (pa_cons (pe_op op_add_str (pv 3) pe_str) pa_nil)) pe_int (nomark _)) (pw_or1 (pt_cmpR op_ne (pe_call gll (hr.mono (by omega)) (by rfl) T.g_lw_line T.F_lw_line.kp T.b_lw_line .nil pass0 (pa_cons (pe_slice sl_str (pv 3) po_none (po_some (pe_un un_neg pe_int))) pa_nil)) (pe_op op_sub (pv 7) pe_int) (nomark _))))) (pss_one (ps_ret pe_bl)) pss_nil)
      (pss_cons (ps_if (PW.pt (pw_and (pt_cmpR op_gt (pe_callB call_len_seq (by rfl) T.g_len boot_len (pa_cons (pe_ix ix_tup (pv 2) pe_int (fun _ _ => rfl)) pa_nil)) pe_int (nomark _)) (pw_and1 (pt_cmpR op_ne (pe_call gll (hr.mono (by omega)) (by rfl) T.g_lw_line T.F_lw_line.kp T.b_lw_line .nil pass0 (pa_cons (pe_op op_add_str (pe_op op_add_str (pv 3) (pe_ix ix_list (pe_split (pv 3) pe_str) (pe_op op_sub (pv 7) pe_int) (fun _ _ => rfl))) pe_str) pa_nil)) (pv 7) (nomark _))))) (pss_one (ps_ret pe_bl)) pss_nil)
      (pss_one (ps_ret (pe_and (pe_cmpR op_eq (pe_call gll (hr.mono (by omega)) (by rfl) T.g_lw_line T.F_lw_line.kp T.b_lw_line .nil pass0 (pa_cons pe_str pa_nil)) pe_int (nomark _)) (pe_and (pe_cmpR op_eq (pe_call gll (hr.mono (by omega)) (by rfl) T.g_lw_line T.F_lw_line.kp T.b_lw_line .nil pass0 (pa_cons pe_str pa_nil)) pe_int (nomark _)) (pe_one (pe_cmpR op_eq (pe_call gll (hr.mono (by omega)) (by rfl) T.g_lw_line T.F_lw_line.kp T.b_lw_line .nil pass0 (pa_cons (pe_op op_add_str pe_str (pv 3)) pa_nil)) pe_int (nomark _)))))))))))))))))))))))), ?_⟩
    rw [show L2.start N_law [.ref l] = [some (.ref l), none, none, none, none, none, none, none, none, none] from rfl]
    refine ⟨_, rfl, l, sc, 90, rfl, hl, hsc, by decide, fun H1 pn nums s1 np hp hlen hok => ?_⟩
    simp only [gName, List.set_cons_succ, List.set_cons_zero]
    have N1 : NumAt K H1 pn nums := ⟨hp, hok, by omega⟩
    refine ⟨_, rfl, pn, nums, 0, rfl, N1, fun G1 vb d s2 rb hB hO => ?_⟩
    simp only [gName, List.set_cons_succ, List.set_cons_zero]
    refine ⟨_, rfl, vb, d, rfl, rb, hB, fun G2 s3 => ?_⟩
    simp only [gName, List.set_cons_succ, List.set_cons_zero]
    have lt := len_bT2 hB
    obtain ⟨hl, els, h, es, o0, mk0, vs0, c0, ed, D⟩ := dr_of hB hO
    have asT : Asc (bT d) := by
      rw [D.text]
      exact asc_tx (fun x hx => (D.ok x hx).2.1) (fun c hc => nomatch hc)
    have N2 := (N1.same s2).same s3
    have rb2 := rb.keep (Same.tups s3)
    have S0 : Same H G2 := (s1.trans s2).trans s3
    generalize hT : bT d = text at *
    refine ⟨5, rfl, by decide, by decide, for_range (n := 5) (fun j σ G => ∃ (x4 x5 x6 : Option V), σ = [some (.ref l), some (.ref pn), some vb, some (.str text), x4, x5, x6, none, none, none] ∧ Same G2 G) ⟨_, _, _, rfl, Same.refl _⟩ (fun j σ G hj ⟨x4, x5, x6, e, sG⟩ => ?_) fun σ G ⟨x4, x5, x6, e, sG⟩ => ?_⟩
    · subst e
      simp only [gName, List.set_cons_succ, List.set_cons_zero]
      have N3 := N2.same sG
      refine ⟨_, rfl, _, rfl, _, _, rfl, rfl, .inl ⟨by decide, by decide⟩, _, _, rfl, rfl, .inl ⟨_, rfl, _, rfl, pn, nums, 50 + 3 * j, text, ?_, N3, by omega, lt, asT, fun o G3 s4 lo ao => ?_⟩⟩
      · rw [show (50 : Int) + 3 * (0 + (j : Int)) = ((50 + 3 * j : Nat) : Int) by omega]
        rfl
      simp only [gName, List.set_cons_succ, List.set_cons_zero]
      obtain ⟨m, hm, ll⟩ := ll_any o
      refine ⟨_, rfl, ?_⟩
      dsimp only [tNil]
      refine ll lo ao fun G4 s5 => ?_
      simp only [gName, List.set_cons_succ, List.set_cons_zero]
      refine ⟨_, rfl, _, _, rfl, rfl, _, rfl, Cm.itD (fun e => absurd e (by omega)) fun _ => ?_⟩
      refine ⟨_, rfl, _, rfl, ⟨_, rfl⟩, _, _, rfl, rfl, rfl, Cm.small (by omega), fun pl npl => ?_⟩
      refine ⟨pl, _, rfl, .inl (SqL.of upd_same), _, _, rfl, rfl, _, rfl, Cm.itD (fun e => absurd e (by rw [List.length_map]; omega)) fun _ => ?_⟩
      exact ⟨_, _, _, rfl, ((sG.trans s4).trans s5).trans (Cm.same_new npl)⟩
    · subst e
      have N3 := N2.same sG
      have rb3 := rb2.keep (Same.tups sG)
      have szz : ∀ {n : Nat}, n ≤ 100000 → n ≤ sizeLine := fun h => Cm.small h
      have okL : ∀ x ∈ hl :: els, NoL x := fun x hx => (D.ok x hx).1
      have esp : Txt.split text "\n" = hl :: els ++ [("" : Str)] := by
        rw [← hT, D.text]
        exact split_tx okL nol_nil
      have nl := D.few
      have nn := D.len
      -- many
      refine ⟨_, rfl, ⟨_, rfl⟩, _, _, rfl, rfl, rfl, szz (by omega), fun pl npl => ?_⟩
      refine ⟨pl, _, rfl, .inl (SqL.of upd_same), ?_⟩
      rw [List.length_map, esp]
      have eM : (((hl :: els ++ [("" : Str)]).length : Nat) : Int) = ((es.length + 2 : Nat) : Int) := by
        rw [List.length_append, List.length_cons, nn]
        rfl
      rw [eM]
      have s5 := Cm.same_new (o := .lst ((hl :: els ++ [("" : Str)]).map V.str)) npl
      generalize L2.upd G pl _ = G0 at *
      simp only [gName, List.set_cons_succ, List.set_cons_zero]
      -- bad
      refine ⟨szz (by show 5 ≤ 100000; decide), fun p1 np1 => ?_⟩
      generalize hB1 : L2.upd G0 p1 _ = B1
      have t1 : Same G0 B1 := by
        rw [← hB1]
        exact Cm.same_new np1
      have b1 : B1 p1 = some (.lst ((badL.take 5).map V.str)) := by
        rw [← hB1]
        exact upd_same
      clear hB1
      simp only [gName, List.set_cons_succ, List.set_cons_zero]
      refine ⟨_, rfl, szz (by show 2 ≤ 100000; decide), fun q1 nq1 => ?_⟩
      refine ⟨p1, q1, _, _, rfl, rfl, (Cm.same_new nq1) _ _ b1, upd_same, szz (by show 7 ≤ 100000; decide), fun p2 np2 => ?_⟩
      generalize hB2 : L2.upd (L2.upd B1 q1 _) p2 _ = B2
      have t2 : Same G0 B2 := by
        rw [← hB2]
        exact (t1.trans (Cm.same_new nq1)).trans (Cm.same_new np2)
      have b2 : B2 p2 = some (.lst ((badL.take 7).map V.str)) := by
        rw [← hB2]
        exact upd_same
      clear hB2
      simp only [gName, List.set_cons_succ, List.set_cons_zero]
      refine ⟨_, rfl, szz (by show 2 ≤ 100000; decide), fun q2 nq2 => ?_⟩
      refine ⟨p2, q2, _, _, rfl, rfl, (Cm.same_new nq2) _ _ b2, upd_same, szz (by show 9 ≤ 100000; decide), fun p3 np3 => ?_⟩
      generalize hB3 : L2.upd (L2.upd B2 q2 _) p3 _ = B3
      have t3 : Same G0 B3 := by
        rw [← hB3]
        exact (t2.trans (Cm.same_new nq2)).trans (Cm.same_new np3)
      have b3 : B3 p3 = some (.lst ((badL.take 9).map V.str)) := by
        rw [← hB3]
        exact upd_same
      clear hB3
      simp only [gName, List.set_cons_succ, List.set_cons_zero]
      refine ⟨_, rfl, szz (by show 2 ≤ 100000; decide), fun q3 nq3 => ?_⟩
      refine ⟨p3, q3, _, _, rfl, rfl, (Cm.same_new nq3) _ _ b3, upd_same, szz (by show 11 ≤ 100000; decide), fun p4 np4 => ?_⟩
      generalize hB4 : L2.upd (L2.upd B3 q3 _) p4 _ = B4
      have t4 : Same G0 B4 := by
        rw [← hB4]
        exact (t3.trans (Cm.same_new nq3)).trans (Cm.same_new np4)
      have b4 : B4 p4 = some (.lst ((badL.take 11).map V.str)) := by
        rw [← hB4]
        exact upd_same
      clear hB4
      simp only [gName, List.set_cons_succ, List.set_cons_zero]
      refine ⟨_, rfl, szz (by show 2 ≤ 100000; decide), fun q4 nq4 => ?_⟩
      refine ⟨p4, q4, _, _, rfl, rfl, (Cm.same_new nq4) _ _ b4, upd_same, szz (by show 13 ≤ 100000; decide), fun p5 np5 => ?_⟩
      generalize hB5 : L2.upd (L2.upd B4 q4 _) p5 _ = B5
      have t5 : Same G0 B5 := by
        rw [← hB5]
        exact (t4.trans (Cm.same_new nq4)).trans (Cm.same_new np5)
      have b5 : B5 p5 = some (.lst ((badL.take 13).map V.str)) := by
        rw [← hB5]
        exact upd_same
      clear hB5
      simp only [gName, List.set_cons_succ, List.set_cons_zero]
      refine ⟨_, rfl, szz (by show 2 ≤ 100000; decide), fun q5 nq5 => ?_⟩
      refine ⟨p5, q5, _, _, rfl, rfl, (Cm.same_new nq5) _ _ b5, upd_same, szz (by show 15 ≤ 100000; decide), fun p6 np6 => ?_⟩
      generalize hB6 : L2.upd (L2.upd B5 q5 _) p6 _ = B6
      have t6 : Same G0 B6 := by
        rw [← hB6]
        exact (t5.trans (Cm.same_new nq5)).trans (Cm.same_new np6)
      have b6 : B6 p6 = some (.lst ((badL.take 15).map V.str)) := by
        rw [← hB6]
        exact upd_same
      clear hB6
      simp only [gName, List.set_cons_succ, List.set_cons_zero]
      refine ⟨_, rfl, szz (by show 2 ≤ 100000; decide), fun q6 nq6 => ?_⟩
      refine ⟨p6, q6, _, _, rfl, rfl, (Cm.same_new nq6) _ _ b6, upd_same, szz (by show 17 ≤ 100000; decide), fun p7 np7 => ?_⟩
      generalize hB7 : L2.upd (L2.upd B6 q6 _) p7 _ = B7
      have t7 : Same G0 B7 := by
        rw [← hB7]
        exact (t6.trans (Cm.same_new nq6)).trans (Cm.same_new np7)
      have b7 : B7 p7 = some (.lst ((badL.take 17).map V.str)) := by
        rw [← hB7]
        exact upd_same
      clear hB7
      simp only [gName, List.set_cons_succ, List.set_cons_zero]
      refine ⟨_, rfl, szz (by show 2 ≤ 100000; decide), fun q7 nq7 => ?_⟩
      refine ⟨p7, q7, _, _, rfl, rfl, (Cm.same_new nq7) _ _ b7, upd_same, szz (by show 19 ≤ 100000; decide), fun p8 np8 => ?_⟩
      generalize hB8 : L2.upd (L2.upd B7 q7 _) p8 _ = B8
      have t8 : Same G0 B8 := by
        rw [← hB8]
        exact (t7.trans (Cm.same_new nq7)).trans (Cm.same_new np8)
      have b8 : B8 p8 = some (.lst ((badL.take 19).map V.str)) := by
        rw [← hB8]
        exact upd_same
      clear hB8
      simp only [gName, List.set_cons_succ, List.set_cons_zero]
      have b8 : B8 p8 = some (.lst (badL.map V.str)) := b8
      have N4 := (N3.same s5).same t8
      have S8 : Same G B8 := s5.trans t8
      obtain ⟨hnu, hok, hlen⟩ := N4
      have e70 : atI (nums.map V.int) 70 = some (.int nums[70]!) := by
        have h : 70 < nums.length := by omega
        have e : nums[70]! = nums[70] := by simp [h]
        rw [e]
        exact atI_nat (j := 70) (by rw [List.getElem?_map, List.getElem?_eq_getElem h]; rfl)
      generalize nums[70]! = n70 at *
      have k0 := Int.emod_nonneg n70 (show (19 : Int) ≠ 0 by decide)
      have k1 := Int.emod_lt_of_pos n70 (show (0 : Int) < 19 by decide)
      obtain ⟨line, hline, eline⟩ := Cm.at_str (ws := badL) (i := n70 % 19) k0 (by show n70 % 19 < 19; omega)
      refine ⟨_, rfl, _, rfl, pn, _, 70, _, rfl, rfl, SqL.of hnu, e70, _, rfl, p8, _, rfl, .inl (SqL.of b8), _, _, rfl, rfl, (by show (0 : Int) < 19; decide), p8, _, _, _, rfl, rfl, SqL.of b8, eline, ?_⟩
      simp only [gName, List.set_cons_succ, List.set_cons_zero]
      obtain ⟨no, ln, la, ll⟩ := badL_ok line hline
      have nlv : ("\n" : Str).length = 1 := rfl
      have eA : text ++ line ++ "\n" = tx (hl :: els ++ [line]) "" := by
        rw [← hT, D.text]
        exact tx_snoc _ _
      have rA : bunR (text ++ line ++ "\n") = .inl (es.length + 2) := by
        rw [eA]
        exact D.bad (r := []) (fun x hx => by rw [List.mem_singleton.mp hx]; exact ln) fun e he => by rw [no] at he; cases he
      refine ⟨_, rfl, _, rfl, _, _, rfl, rfl, szz (by omega), _, _, rfl, rfl, szz (by rw [app_len]; omega), ?_⟩
      dsimp only [tNil]
      refine ll_inl rA (by rw [app_len, app_len]; omega) (asc_app (asc_app asT la) asc_nl) fun C1 c1 => ?_
      refine ⟨_, rfl, rfl, _, rfl, Cm.itNI (fun e => absurd rfl e) fun _ => ?_⟩
      have eB : text ++ line ++ "\nno\n" = tx (hl :: els ++ [line, "no"]) "" := by
        have e1 : ("\nno\n" : Str) = "\n" ++ (("no" : Str) ++ "\n") := by decide +kernel
        rw [e1, ← app_assoc, eA, ← app_assoc, tx_snoc, List.append_assoc]
        rfl
      have nlv2 : ("\nno\n" : Str).length = 4 := rfl
      have rB : bunR (text ++ line ++ "\nno\n") = .inl (es.length + 2) := by
        rw [eB]
        exact D.bad (r := ["no"]) (fun x hx => by
          rcases List.mem_cons.mp hx with h | h
          · rw [h]
            exact ln
          · rw [List.mem_singleton.mp h]
            unfold NoL
            decide +kernel) fun e he => by rw [no] at he; cases he
      refine ⟨_, rfl, _, rfl, _, _, rfl, rfl, szz (by omega), _, _, rfl, rfl, szz (by rw [app_len]; omega), ?_⟩
      dsimp only [tNil]
      refine ll_inl rB (by rw [app_len, app_len]; omega) (asc_app (asc_app asT la) (asc_lit (by decide +kernel))) fun C2 c2 => ?_
      refine ⟨_, rfl, rfl, _, rfl, Cm.itNI (fun e => absurd rfl e) fun _ => ?_⟩
      -- one more good line
      have elit : ("frame p.99 depth 0 op start at 0 back - token - word - locals stack\n" : Str) = goodL ++ "\n" := by decide +kernel
      have gl : goodL.length ≤ 100 := by decide +kernel
      have gn : NoL goodL := by
        unfold NoL
        decide +kernel
      have hab : abvAll goodE (lastL es) = true := List.all_eq_true.mpr fun e he => abv_good (D.draw e (List.mem_of_mem_drop he))
      obtain ⟨x, hx⟩ := D.good gn good_read hab
      have rC : bunR (text ++ (goodL ++ "\n")) = .inr x := by
        rw [← app_assoc, ← hT, D.text, tx_snoc]
        exact hx
      refine ⟨_, rfl, _, _, rfl, rfl, szz (by rw [elit, app_len]; omega), ?_⟩
      rw [elit]
      dsimp only [tNil]
      refine ll_inr rC (by rw [app_len, app_len]; omega) (asc_app asT (asc_app (asc_lit (by decide +kernel)) asc_nl)) fun C3 c3 => ?_
      refine ⟨rfl, _, rfl, Cm.itNI (fun e => absurd rfl e) fun _ => ?_⟩
      -- cut off
      have rD : bunR (cutS text none (some (-1))) = .inl (es.length + 1) := by
        rw [← hT]
        exact D.cut
      refine ⟨_, rfl, _, rfl, _, rfl, _, rfl, szz (by omega), ?_⟩
      dsimp only [tNil]
      refine ll_inl rD (Nat.le_trans cut_len (by omega)) (cut_asc asT) fun C4 c4 => ?_
      refine ⟨_, rfl, _, _, rfl, rfl, rfl, _, rfl, Cm.itNI (fun e => absurd (by omega) e) fun _ => ?_⟩
      -- the last line once more
      have S4 : Same G C4 := (((S8.trans c1).trans c2).trans c3).trans c4
      have rb4 := rb3.keep (Same.tups S4)
      rw [ed] at rb4
      obtain ⟨pa, us, rfl, hpa, rs⟩ := rb4.tup_inv
      obtain ⟨w1, r1, rfl, _, rs⟩ := rs.cons_inv
      obtain ⟨w2, r2, rfl, _, rs⟩ := rs.cons_inv
      obtain ⟨w3, r3, rfl, _, rs⟩ := rs.cons_inv
      obtain ⟨w4, r4, rfl, re, rs⟩ := rs.cons_inv
      obtain ⟨pe, ue, rfl, hpe, rse⟩ := re.tup_inv
      have lue := rse.len
      have rX : bunR ("x\n" ++ text) = .inl 1 := by
        have e1 : ("x\n" : Str) = ("x" : Str) ++ "\n" := by decide +kernel
        have e2 : ("x\n" : Str) ++ text = tx (("x" : Str) :: hl :: els) "" := by
          rw [← hT, D.text, e1]
          show ("x" : Str) ++ "\n" ++ (cat ((hl :: els).map fun z => z ++ "\n") ++ (Str.ofString "")) = cat ((("x" : Str) :: hl :: els).map fun z => z ++ "\n") ++ (Str.ofString "")
          rw [List.map_cons (l := hl :: els), cat_cons, app_assoc (x := ("x" : Str) ++ "\n")]
        rw [e2, bunR_tx (fun x hx => by
          rcases List.mem_cons.mp hx with h | h
          · rw [h]
            unfold NoL
            decide +kernel
          · exact okL x h) nol_nil, linR_cons, head_x]
      have xl : ("x\n" : Str).length = 2 := rfl
      refine ⟨_, rfl, pa, _, 3, _, rfl, rfl, hpa, atI_nat (j := 3) rfl, pe, _, rfl, .inr hpe, _, _, rfl, rfl, _, rfl, Cm.itD (fun hgt => ?_) fun _ => ?_⟩
      · have hes : 0 < es.length := by omega
        have hne : els ≠ [] := fun z => by
          rw [z] at nn
          have : es.length = 0 := nn.symm
          omega
        obtain ⟨ini, last, eE⟩ : ∃ ini last, els = ini ++ [last] := ⟨_, _, (List.dropLast_concat_getLast hne).symm⟩
        have hin : ini.length + 1 = es.length := by
          rw [← nn, eE, List.length_append]
          rfl
        obtain ⟨el, hel⟩ : ∃ el, es[ini.length]? = some el := ⟨_, List.getElem?_eq_getElem (by omega)⟩
        have hla : els[ini.length]? = some last := by
          rw [eE, List.getElem?_append_right (Nat.le_refl _), Nat.sub_self]
          rfl
        have hread := D.ents _ _ _ hla hel
        have hdraw := D.draw el (List.mem_of_getElem? hel)
        have elast : lastL es = [el] := by
          have hk := (List.getElem?_eq_some_iff.mp hel).1
          unfold lastL
          rw [show es.length - 1 = ini.length by omega, List.drop_eq_getElem_cons hk, (List.getElem?_eq_some_iff.mp hel).2, List.drop_eq_nil_of_le (by omega)]
        have okl := D.ok last (by rw [eE]; simp)
        have rE : bunR (text ++ last ++ "\n") = .inl (es.length + 2) := by
          rw [← hT, D.text, tx_snoc]
          refine D.bad (r := []) (fun x hx => by rw [List.mem_singleton.mp hx]; exact okl.1) fun e he => ?_
          rw [hread] at he
          cases he
          rw [elast]
          show (abvD el el && true) = false
          rw [abv_self hdraw]
          rfl
        have hix : atI ((hl :: els ++ [("" : Str)]).map V.str) (((es.length + 2 : Nat) : Int) - 2) = some (.str last) := by
          rw [show ((es.length + 2 : Nat) : Int) - 2 = ((ini.length + 1 : Nat) : Int) by omega]
          refine atI_nat ?_
          rw [List.getElem?_map, eE]
          show ((ini ++ [last] ++ [("" : Str)])[ini.length]?).map V.str = _
          rw [List.append_assoc, List.getElem?_append_right (Nat.le_refl _), Nat.sub_self]
          rfl
        refine ⟨_, rfl, _, rfl, ⟨_, rfl⟩, _, _, rfl, rfl, rfl, szz (by omega), fun pl2 npl2 => ?_⟩
        rw [esp]
        refine ⟨_, rfl, _, _, rfl, rfl, pl2, _, _, _, rfl, rfl, SqL.of upd_same, hix, _, _, rfl, rfl, szz (by have := okl.2.2; omega), _, _, rfl, rfl, szz (by have := okl.2.2; rw [app_len]; omega), ?_⟩
        have s6 := Cm.same_new (o := .lst ((hl :: els ++ [("" : Str)]).map V.str)) npl2
        generalize L2.upd C4 pl2 _ = C5 at *
        dsimp only [tNil]
        refine ll_inl rE (by have := okl.2.2; rw [app_len, app_len]; omega) (asc_app (asc_app asT okl.2.1) asc_nl) fun C6 c6 => ?_
        refine ⟨_, rfl, rfl, _, rfl, Cm.itNI (fun e => absurd rfl e) fun _ => ?_⟩
        dsimp only [tNext]
        dsimp only [tNil, tRet, tAndV, tOp, tCall, tCons, tC]
        refine ll_inl bun_e (Nat.zero_le _) (fun c hc => nomatch hc) fun C7 c7 => ?_
        refine ⟨rfl, _, rfl, Cm.itEI (fun _ => ?_) fun e => absurd rfl e⟩
        refine ll_inl bun_n (by decide +kernel) (asc_lit (by decide +kernel)) fun C8 c8 => ?_
        refine ⟨rfl, _, rfl, Cm.itEI (fun _ => ?_) fun e => absurd rfl e⟩
        refine ⟨_, rfl, _, _, rfl, rfl, szz (by omega), ?_⟩
        refine ll_inl rX (by rw [app_len]; omega) (asc_app (asc_lit (by decide +kernel)) asT) fun C9 c9 => ?_
        exact ⟨rfl, q _⟩
      · refine iteF ?_
        dsimp only [tNext]
        dsimp only [tNil, tRet, tAndV, tOp, tCall, tCons, tC]
        refine ll_inl bun_e (Nat.zero_le _) (fun c hc => nomatch hc) fun C7 c7 => ?_
        refine ⟨rfl, _, rfl, Cm.itEI (fun _ => ?_) fun e => absurd rfl e⟩
        refine ll_inl bun_n (by decide +kernel) (asc_lit (by decide +kernel)) fun C8 c8 => ?_
        refine ⟨rfl, _, rfl, Cm.itEI (fun _ => ?_) fun e => absurd rfl e⟩
        refine ⟨_, rfl, _, _, rfl, rfl, szz (by omega), ?_⟩
        refine ll_inl rX (by rw [app_len]; omega) (asc_app (asc_lit (by decide +kernel)) asT) fun C9 c9 => ?_
        exact ⟨rfl, q _⟩
def fn : List He.DefD := [⟨("number_in", none), "number_in", "number_in", defArgs s_number_in, defBody s_number_in, defScope s_number_in, [], []⟩,
  ⟨("process_text", none), "process_text", "process_text", defArgs s_process_text, defBody s_process_text, defScope s_process_text, [], []⟩,
  ⟨("object_text", none), "object_text", "object_text", defArgs s_object_text, defBody s_object_text, defScope s_object_text, [], []⟩,
  ⟨("process_in", none), "process_in", "process_in", defArgs s_process_in, defBody s_process_in, defScope s_process_in, [], []⟩,
  ⟨("object_in", none), "object_in", "object_in", defArgs s_object_in, defBody s_object_in, defScope s_object_in, [], []⟩,
  ⟨("is_name", none), "is_name", "is_name", defArgs s_is_name, defBody s_is_name, defScope s_is_name, [], []⟩,
  ⟨("is_integer", none), "is_integer", "is_integer", defArgs s_is_integer, defBody s_is_integer, defScope s_is_integer, [], []⟩,
  ⟨("is_row", none), "is_row", "is_row", defArgs s_is_row, defBody s_is_row, defScope s_is_row, [], []⟩,
  ⟨("is_natural", none), "is_natural", "is_natural", defArgs s_is_natural, defBody s_is_natural, defScope s_is_natural, [], []⟩,
  ⟨("is_process_name", none), "is_process_name", "is_process_name", defArgs s_is_process_name, defBody s_is_process_name, defScope s_is_process_name, [], []⟩,
  ⟨("is_object_name", none), "is_object_name", "is_object_name", defArgs s_is_object_name, defBody s_is_object_name, defScope s_is_object_name, [], []⟩,
  ⟨("is_value", none), "is_value", "is_value", defArgs s_is_value, defBody s_is_value, defScope s_is_value, [], []⟩,
  ⟨("is_reference", none), "is_reference", "is_reference", defArgs s_is_reference, defBody s_is_reference, defScope s_is_reference, [], []⟩,
  ⟨("value_text", none), "value_text", "value_text", defArgs s_value_text, defBody s_value_text, defScope s_value_text, [], []⟩,
  ⟨("value_in", none), "value_in", "value_in", defArgs s_value_in, defBody s_value_in, defScope s_value_in, [], []⟩,
  ⟨("is_bundle", none), "is_bundle", "is_bundle", defArgs s_is_bundle, defBody s_is_bundle, defScope s_is_bundle, [], []⟩,
  ⟨("_is_code_name", none), "_is_code_name", "_is_code_name", defArgs s_is_code_name, defBody s_is_code_name, defScope s_is_code_name, [], []⟩,
  ⟨("_are_values", none), "_are_values", "_are_values", defArgs s_are_values, defBody s_are_values, defScope s_are_values, [], []⟩,
  ⟨("_is_entry", none), "_is_entry", "_is_entry", defArgs s_is_entry, defBody s_is_entry, defScope s_is_entry, [], []⟩,
  ⟨("_is_frame", none), "_is_frame", "_is_frame", defArgs s_is_frame, defBody s_is_frame, defScope s_is_frame, [], []⟩,
  ⟨("_is_back", none), "_is_back", "_is_back", defArgs s_is_back, defBody s_is_back, defScope s_is_back, [], []⟩,
  ⟨("_is_above", none), "_is_above", "_is_above", defArgs s_is_above, defBody s_is_above, defScope s_is_above, [], []⟩,
  ⟨("bundle_text", none), "bundle_text", "bundle_text", defArgs s_bundle_text, defBody s_bundle_text, defScope s_bundle_text, [], []⟩,
  ⟨("_values_text", none), "_values_text", "_values_text", defArgs s_values_text, defBody s_values_text, defScope s_values_text, [], []⟩,
  ⟨("_entry_text", none), "_entry_text", "_entry_text", defArgs s_entry_text, defBody s_entry_text, defScope s_entry_text, [], []⟩,
  ⟨("read_bundle", none), "read_bundle", "read_bundle", defArgs s_read_bundle, defBody s_read_bundle, defScope s_read_bundle, [], []⟩,
  ⟨("_read_head", none), "_read_head", "_read_head", defArgs s_read_head, defBody s_read_head, defScope s_read_head, [], []⟩,
  ⟨("_values_in", none), "_values_in", "_values_in", defArgs s_values_in, defBody s_values_in, defScope s_values_in, [], []⟩,
  ⟨("_read_entry", none), "_read_entry", "_read_entry", defArgs s_read_entry, defBody s_read_entry, defScope s_read_entry, [], []⟩,
  ⟨("_token_in", none), "_token_in", "_token_in", defArgs s_token_in, defBody s_token_in, defScope s_token_in, [], []⟩,
  ⟨("_fault_in", none), "_fault_in", "_fault_in", defArgs s_fault_in, defBody s_fault_in, defScope s_fault_in, [], []⟩,
  ⟨("_law_numbers", none), "_law_numbers", "_law_numbers", defArgs s_lw_numbers, defBody s_lw_numbers, defScope s_lw_numbers, [], []⟩,
  ⟨("_law_object", none), "_law_object", "_law_object", defArgs s_lw_object, defBody s_lw_object, defScope s_lw_object, [], []⟩,
  ⟨("_law_value", none), "_law_value", "_law_value", defArgs s_lw_value, defBody s_lw_value, defScope s_lw_value, [], []⟩,
  ⟨("_law_values", none), "_law_values", "_law_values", defArgs s_lw_values, defBody s_lw_values, defScope s_lw_values, [], []⟩,
  ⟨("_law_entry", none), "_law_entry", "_law_entry", defArgs s_lw_entry, defBody s_lw_entry, defScope s_lw_entry, [], []⟩,
  ⟨("_law_bundle", none), "_law_bundle", "_law_bundle", defArgs s_lw_bundle, defBody s_lw_bundle, defScope s_lw_bundle, [], []⟩,
  ⟨("_law_name_text", none), "_law_name_text", "_law_name_text", defArgs s_lw_name_text, defBody s_lw_name_text, defScope s_lw_name_text, [], []⟩,
  ⟨("_law_value_text", none), "_law_value_text", "_law_value_text", defArgs s_lw_value_text, defBody s_lw_value_text, defScope s_lw_value_text, [], []⟩,
  ⟨("_law_text", none), "_law_text", "_law_text", defArgs s_lw_text, defBody s_lw_text, defScope s_lw_text, [], []⟩,
  ⟨("_law_changed", none), "_law_changed", "_law_changed", defArgs s_lw_changed, defBody s_lw_changed, defScope s_lw_changed, [], []⟩,
  ⟨("_law_line", none), "_law_line", "_law_line", defArgs s_lw_line, defBody s_lw_line, defScope s_lw_line, [], []⟩,
  ⟨("law", none), "law", "law", defArgs s_law, defBody s_law, defScope s_law, [], []⟩]
def fas : List He.Fa := [.glo "number_in", .glo "process_text", .glo "object_text", .glo "process_in", .glo "object_in", .glo "is_name", .glo "is_integer", .glo "is_row", .glo "is_natural", .glo "is_process_name", .glo "is_object_name", .glo "is_value", .glo "is_reference", .glo "value_text", .glo "value_in", .glo "is_bundle", .glo "_is_code_name", .glo "_are_values", .glo "_is_entry", .glo "_is_frame", .glo "_is_back", .glo "_is_above", .glo "bundle_text", .glo "_values_text", .glo "_entry_text", .glo "read_bundle", .glo "_read_head", .glo "_values_in", .glo "_read_entry", .glo "_token_in", .glo "_fault_in", .glo "_law_numbers", .glo "_law_object", .glo "_law_value", .glo "_law_values", .glo "_law_entry", .glo "_law_bundle", .glo "_law_name_text", .glo "_law_value_text", .glo "_law_text", .glo "_law_changed", .glo "_law_line", .glo "law", .int "MAX_DIGITS" 13, .int "MAX_NUMBER" 1000000000000, .int "MAX_NAME" 12, .glo "WORDS", .glo "NIL", .glo "FAULTS", .glo "HEAD_WORDS", .glo "FRAME_WORDS", .glo "PortError", .glo "NotAllowed", .glo "BadForm", .free "int", .free "len", .free "tuple", .free "isinstance", .free "bool", .free "all", .free "str", .free "zip", .free "enumerate", .free "range", .free "abs", .free "max", .free "sorted"]
def tabs : List He.Tab := []
def okX (K : PySem.W.Frag) : Bool := He.tupB K "WORDS" v_WORDS && (He.tupB K "NIL" v_NIL && (He.tupB K "FAULTS" v_FAULTS && (He.tupB K "HEAD_WORDS" v_HEAD_WORDS && (He.tupB K "FRAME_WORDS" v_FRAME_WORDS && (He.eqO (PySem.W.nsIn K mainGlobals "super") (some none) && (He.eqO (PySem.W.findIn K (.ref (He.ga K "BadForm")) "line") (some none) && ((PySem.W.exmOne K (.ref (He.ga K "NotAllowed")) (.ref (He.ga K "NotAllowed")) == some true) && (PySem.W.excIn K (He.ga K "NotAllowed") [.type "ValueError", .type "Exception", .type "BaseException", .type "object"] "ValueError.__new__" && (PySem.W.keepIn K (.ref (He.ga K "NotAllowed")) && ((PySem.W.subIn K (.ref (He.ga K "NotAllowed")) (.type "BaseException") == some true) && ((PySem.W.typeIn K (.ref (He.ga K "NotAllowed")) == some (.type "type")) && ((PySem.W.findIn K (.ref (He.ga K "BadForm")) "__getattribute__" == some (some (.builtin "BaseException.__getattribute__"))) && ((PySem.W.findIn K (.ref (He.ga K "BadForm")) "__getattr__" == some none) && (PySem.W.hasDictIn K (He.ga K "BadForm") && ((PySem.W.findIn K (.ref (He.ga K "BadForm")) "__class__" == some (some (.builtin "object.__class__"))) && ((PySem.W.specialIn K (.builtin "object.__class__") "__get__" == some (some (.builtin "getset_descriptor.__get__"))) && ((PySem.W.takesIn K (.builtin "object.__class__") == some true) && ((PySem.W.mroIn K (He.ga K "BadForm") (.type "object") == some true) && ((PySem.W.subIn K (.ref (He.ga K "BadForm")) (.type "BaseException") == some true) && ((PySem.W.kitOne K (.ref (He.ga K "BadForm")) (.ref (He.ga K "PortError")) == some true) && ((PySem.W.kitOne K (.ref (He.ga K "BadForm")) (.ref (He.ga K "NotAllowed")) == some false) && ((PySem.W.exmOne K (.ref (He.ga K "BadForm")) (.ref (He.ga K "BadForm")) == some true)))))))))))))))))))))))
abbrev R : PySem.W.OpenRow := PySem.W.OpenLaw.row PySem.Challenge.rw_portage_k38_whole_any_text_of_a_bundle
abbrev hk : PySem.W.Hook := SupI.hookS 5 fas fn tabs okX [sup_BadForm] fileP
def ob (s : PySem.W.SharedT) : SupI.AlS := SupI.obsSG 5 fas fn tabs okX [sup_BadForm] fileP (HandSHeadRun.getT s)
theorem ob_eq (s : PySem.W.SharedT) : ob s = hk.obs s.abs := SupI.obsSG_eq (HandSHeadRun.getT_eq s)
theorem hP : SupI.SupP (PySem.Challenge.rw_portage_k38_whole_any_text_of_a_bundle).prog fileP := ⟨by kernel_rfl, by kernel_rfl⟩
abbrev loose : List Str := (["PortError", "NotAllowed", "BadForm", "MAX_DIGITS", "number_in", "process_text", "object_text", "process_in", "object_in", "MAX_NUMBER", "MAX_NAME", "WORDS", "is_name", "is_integer", "NIL", "is_row", "is_natural", "is_process_name", "is_object_name", "is_value", "is_reference", "value_text", "value_in", "FAULTS", "HEAD_WORDS", "FRAME_WORDS", "is_bundle", "_is_code_name", "_are_values", "_is_entry"] : List Str) ++ (["_is_frame", "_is_back", "_is_above", "bundle_text", "_values_text", "_entry_text", "read_bundle", "_read_head", "_values_in", "_read_entry", "_token_in", "_fault_in", "_law_numbers", "_law_object", "_law_value", "_law_values", "_law_entry", "_law_bundle", "_law_name_text", "_law_value_text", "_law_text", "_law_changed", "_law_line"] : List Str)
theorem run (w : World) : HandSHeadRun.RunEq R (PySem.W.view R.prog [61]) hk ob 4000 loose w := by
  intro os
  kernel_rfl
theorem facts {P : Program} {w : World} {K : PySem.W.Frag} {h : Heap} {mg : Str → Option Value} {f : Addr} (X : K.In h) (G : h.Ns mainGlobals mg) (hfa : mg ("law" : Str) = some (.ref f)) (ok : okX K = true) (c : He.SaysT fas fn tabs w K) (hP : SupI.SupP P fileP) (u : SupI.SaysS [sup_BadForm] fileP K) :
    ∃ fd : FuncData, (∀ (s : Shared) (v : Value), BindsTo s fd ⟨[v], []⟩ [("script", v)]) ∧ ∀ base : Heap, K.In base → base.Ns mainGlobals mg → FnOk P w K mg base CX0 13 f fd ["script"] (spLaw K) := by
  obtain ⟨d_number_in, F_number_in⟩ := c.d.def_ 0 rfl
  obtain ⟨d_process_text, F_process_text⟩ := c.d.def_ 1 rfl
  obtain ⟨d_object_text, F_object_text⟩ := c.d.def_ 2 rfl
  obtain ⟨d_process_in, F_process_in⟩ := c.d.def_ 3 rfl
  obtain ⟨d_object_in, F_object_in⟩ := c.d.def_ 4 rfl
  obtain ⟨d_is_name, F_is_name⟩ := c.d.def_ 5 rfl
  obtain ⟨d_is_integer, F_is_integer⟩ := c.d.def_ 6 rfl
  obtain ⟨d_is_row, F_is_row⟩ := c.d.def_ 7 rfl
  obtain ⟨d_is_natural, F_is_natural⟩ := c.d.def_ 8 rfl
  obtain ⟨d_is_process_name, F_is_process_name⟩ := c.d.def_ 9 rfl
  obtain ⟨d_is_object_name, F_is_object_name⟩ := c.d.def_ 10 rfl
  obtain ⟨d_is_value, F_is_value⟩ := c.d.def_ 11 rfl
  obtain ⟨d_is_reference, F_is_reference⟩ := c.d.def_ 12 rfl
  obtain ⟨d_value_text, F_value_text⟩ := c.d.def_ 13 rfl
  obtain ⟨d_value_in, F_value_in⟩ := c.d.def_ 14 rfl
  obtain ⟨d_is_bundle, F_is_bundle⟩ := c.d.def_ 15 rfl
  obtain ⟨d_is_code_name, F_is_code_name⟩ := c.d.def_ 16 rfl
  obtain ⟨d_are_values, F_are_values⟩ := c.d.def_ 17 rfl
  obtain ⟨d_is_entry, F_is_entry⟩ := c.d.def_ 18 rfl
  obtain ⟨d_is_frame, F_is_frame⟩ := c.d.def_ 19 rfl
  obtain ⟨d_is_back, F_is_back⟩ := c.d.def_ 20 rfl
  obtain ⟨d_is_above, F_is_above⟩ := c.d.def_ 21 rfl
  obtain ⟨d_bundle_text, F_bundle_text⟩ := c.d.def_ 22 rfl
  obtain ⟨d_values_text, F_values_text⟩ := c.d.def_ 23 rfl
  obtain ⟨d_entry_text, F_entry_text⟩ := c.d.def_ 24 rfl
  obtain ⟨d_read_bundle, F_read_bundle⟩ := c.d.def_ 25 rfl
  obtain ⟨d_read_head, F_read_head⟩ := c.d.def_ 26 rfl
  obtain ⟨d_values_in, F_values_in⟩ := c.d.def_ 27 rfl
  obtain ⟨d_read_entry, F_read_entry⟩ := c.d.def_ 28 rfl
  obtain ⟨d_token_in, F_token_in⟩ := c.d.def_ 29 rfl
  obtain ⟨d_fault_in, F_fault_in⟩ := c.d.def_ 30 rfl
  obtain ⟨d_lw_numbers, F_lw_numbers⟩ := c.d.def_ 31 rfl
  obtain ⟨d_lw_object, F_lw_object⟩ := c.d.def_ 32 rfl
  obtain ⟨d_lw_value, F_lw_value⟩ := c.d.def_ 33 rfl
  obtain ⟨d_lw_values, F_lw_values⟩ := c.d.def_ 34 rfl
  obtain ⟨d_lw_entry, F_lw_entry⟩ := c.d.def_ 35 rfl
  obtain ⟨d_lw_bundle, F_lw_bundle⟩ := c.d.def_ 36 rfl
  obtain ⟨d_lw_name_text, F_lw_name_text⟩ := c.d.def_ 37 rfl
  obtain ⟨d_lw_value_text, F_lw_value_text⟩ := c.d.def_ 38 rfl
  obtain ⟨d_lw_text, F_lw_text⟩ := c.d.def_ 39 rfl
  obtain ⟨d_lw_changed, F_lw_changed⟩ := c.d.def_ 40 rfl
  obtain ⟨d_lw_line, F_lw_line⟩ := c.d.def_ 41 rfl
  obtain ⟨d_law, F_law⟩ := c.d.def_ 42 rfl
  have e := hfa.symm.trans (He.glo_ok X G (c.d.fact 42 (f := .glo "law") rfl))
  cases e
  unfold okX at ok
  simp only [Bool.and_eq_true] at ok
  obtain ⟨o0, o1, o2, o3, o4, o5, o6, o7, o8, o9, o10, o11, o12, o13, o14, o15, o16, o17, o18, o19, o20, o21, o22⟩ := ok
  have T : Txt K mg w ⟨d_number_in, d_process_text, d_object_text, d_process_in, d_object_in, d_is_name, d_is_integer, d_is_row, d_is_natural, d_is_process_name, d_is_object_name, d_is_value, d_is_reference, d_value_text, d_value_in, d_is_bundle, d_is_code_name, d_are_values, d_is_entry, d_is_frame, d_is_back, d_is_above, d_bundle_text, d_values_text, d_entry_text, d_read_bundle, d_read_head, d_values_in, d_read_entry, d_token_in, d_fault_in, d_lw_numbers, d_lw_object, d_lw_value, d_lw_values, d_lw_entry, d_lw_bundle, d_lw_name_text, d_lw_value_text, d_lw_text, d_lw_changed, d_lw_line, d_law⟩ := {
    F_number_in := F_number_in
    b_number_in := F_number_in.bindsN (ps := ["text"]) fun _ _ _ _ _ _ us hl => match us, hl with | [_], _ => rfl
    g_number_in := He.glo_ok X G (c.d.fact 0 (f := .glo "number_in") rfl)
    F_process_text := F_process_text
    b_process_text := F_process_text.bindsN (ps := ["process"]) fun _ _ _ _ _ _ us hl => match us, hl with | [_], _ => rfl
    g_process_text := He.glo_ok X G (c.d.fact 1 (f := .glo "process_text") rfl)
    F_object_text := F_object_text
    b_object_text := F_object_text.bindsN (ps := ["name"]) fun _ _ _ _ _ _ us hl => match us, hl with | [_], _ => rfl
    g_object_text := He.glo_ok X G (c.d.fact 2 (f := .glo "object_text") rfl)
    F_process_in := F_process_in
    b_process_in := F_process_in.bindsN (ps := ["text"]) fun _ _ _ _ _ _ us hl => match us, hl with | [_], _ => rfl
    g_process_in := He.glo_ok X G (c.d.fact 3 (f := .glo "process_in") rfl)
    F_object_in := F_object_in
    b_object_in := F_object_in.bindsN (ps := ["text"]) fun _ _ _ _ _ _ us hl => match us, hl with | [_], _ => rfl
    g_object_in := He.glo_ok X G (c.d.fact 4 (f := .glo "object_in") rfl)
    F_is_name := F_is_name
    b_is_name := F_is_name.bindsN (ps := ["text"]) fun _ _ _ _ _ _ us hl => match us, hl with | [_], _ => rfl
    g_is_name := He.glo_ok X G (c.d.fact 5 (f := .glo "is_name") rfl)
    F_is_integer := F_is_integer
    b_is_integer := F_is_integer.bindsN (ps := ["value"]) fun _ _ _ _ _ _ us hl => match us, hl with | [_], _ => rfl
    g_is_integer := He.glo_ok X G (c.d.fact 6 (f := .glo "is_integer") rfl)
    F_is_row := F_is_row
    b_is_row := F_is_row.bindsN (ps := ["value", "many"]) fun _ _ _ _ _ _ us hl => match us, hl with | [_, _], _ => rfl
    g_is_row := He.glo_ok X G (c.d.fact 7 (f := .glo "is_row") rfl)
    F_is_natural := F_is_natural
    b_is_natural := F_is_natural.bindsN (ps := ["value"]) fun _ _ _ _ _ _ us hl => match us, hl with | [_], _ => rfl
    g_is_natural := He.glo_ok X G (c.d.fact 8 (f := .glo "is_natural") rfl)
    F_is_process_name := F_is_process_name
    b_is_process_name := F_is_process_name.bindsN (ps := ["value"]) fun _ _ _ _ _ _ us hl => match us, hl with | [_], _ => rfl
    g_is_process_name := He.glo_ok X G (c.d.fact 9 (f := .glo "is_process_name") rfl)
    F_is_object_name := F_is_object_name
    b_is_object_name := F_is_object_name.bindsN (ps := ["value"]) fun _ _ _ _ _ _ us hl => match us, hl with | [_], _ => rfl
    g_is_object_name := He.glo_ok X G (c.d.fact 10 (f := .glo "is_object_name") rfl)
    F_is_value := F_is_value
    b_is_value := F_is_value.bindsN (ps := ["value"]) fun _ _ _ _ _ _ us hl => match us, hl with | [_], _ => rfl
    g_is_value := He.glo_ok X G (c.d.fact 11 (f := .glo "is_value") rfl)
    F_is_reference := F_is_reference
    b_is_reference := F_is_reference.bindsN (ps := ["value"]) fun _ _ _ _ _ _ us hl => match us, hl with | [_], _ => rfl
    g_is_reference := He.glo_ok X G (c.d.fact 12 (f := .glo "is_reference") rfl)
    F_value_text := F_value_text
    b_value_text := F_value_text.bindsN (ps := ["value"]) fun _ _ _ _ _ _ us hl => match us, hl with | [_], _ => rfl
    g_value_text := He.glo_ok X G (c.d.fact 13 (f := .glo "value_text") rfl)
    F_value_in := F_value_in
    b_value_in := F_value_in.bindsN (ps := ["text"]) fun _ _ _ _ _ _ us hl => match us, hl with | [_], _ => rfl
    g_value_in := He.glo_ok X G (c.d.fact 14 (f := .glo "value_in") rfl)
    F_is_bundle := F_is_bundle
    b_is_bundle := F_is_bundle.bindsN (ps := ["value"]) fun _ _ _ _ _ _ us hl => match us, hl with | [_], _ => rfl
    g_is_bundle := He.glo_ok X G (c.d.fact 15 (f := .glo "is_bundle") rfl)
    F_is_code_name := F_is_code_name
    b_is_code_name := F_is_code_name.bindsN (ps := ["value"]) fun _ _ _ _ _ _ us hl => match us, hl with | [_], _ => rfl
    g_is_code_name := He.glo_ok X G (c.d.fact 16 (f := .glo "_is_code_name") rfl)
    F_are_values := F_are_values
    b_are_values := F_are_values.bindsN (ps := ["value"]) fun _ _ _ _ _ _ us hl => match us, hl with | [_], _ => rfl
    g_are_values := He.glo_ok X G (c.d.fact 17 (f := .glo "_are_values") rfl)
    F_is_entry := F_is_entry
    b_is_entry := F_is_entry.bindsN (ps := ["value"]) fun _ _ _ _ _ _ us hl => match us, hl with | [_], _ => rfl
    g_is_entry := He.glo_ok X G (c.d.fact 18 (f := .glo "_is_entry") rfl)
    F_is_frame := F_is_frame
    b_is_frame := F_is_frame.bindsN (ps := ["value"]) fun _ _ _ _ _ _ us hl => match us, hl with | [_], _ => rfl
    g_is_frame := He.glo_ok X G (c.d.fact 19 (f := .glo "_is_frame") rfl)
    F_is_back := F_is_back
    b_is_back := F_is_back.bindsN (ps := ["value", "depth"]) fun _ _ _ _ _ _ us hl => match us, hl with | [_, _], _ => rfl
    g_is_back := He.glo_ok X G (c.d.fact 20 (f := .glo "_is_back") rfl)
    F_is_above := F_is_above
    b_is_above := F_is_above.bindsN (ps := ["entry", "before"]) fun _ _ _ _ _ _ us hl => match us, hl with | [_, _], _ => rfl
    g_is_above := He.glo_ok X G (c.d.fact 21 (f := .glo "_is_above") rfl)
    F_bundle_text := F_bundle_text
    b_bundle_text := F_bundle_text.bindsN (ps := ["bundle"]) fun _ _ _ _ _ _ us hl => match us, hl with | [_], _ => rfl
    g_bundle_text := He.glo_ok X G (c.d.fact 22 (f := .glo "bundle_text") rfl)
    F_values_text := F_values_text
    b_values_text := F_values_text.bindsN (ps := ["values"]) fun _ _ _ _ _ _ us hl => match us, hl with | [_], _ => rfl
    g_values_text := He.glo_ok X G (c.d.fact 23 (f := .glo "_values_text") rfl)
    F_entry_text := F_entry_text
    b_entry_text := F_entry_text.bindsN (ps := ["entry"]) fun _ _ _ _ _ _ us hl => match us, hl with | [_], _ => rfl
    g_entry_text := He.glo_ok X G (c.d.fact 24 (f := .glo "_entry_text") rfl)
    F_read_bundle := F_read_bundle
    b_read_bundle := F_read_bundle.bindsN (ps := ["text"]) fun _ _ _ _ _ _ us hl => match us, hl with | [_], _ => rfl
    g_read_bundle := He.glo_ok X G (c.d.fact 25 (f := .glo "read_bundle") rfl)
    F_read_head := F_read_head
    b_read_head := F_read_head.bindsN (ps := ["line"]) fun _ _ _ _ _ _ us hl => match us, hl with | [_], _ => rfl
    g_read_head := He.glo_ok X G (c.d.fact 26 (f := .glo "_read_head") rfl)
    F_values_in := F_values_in
    b_values_in := F_values_in.bindsN (ps := ["words"]) fun _ _ _ _ _ _ us hl => match us, hl with | [_], _ => rfl
    g_values_in := He.glo_ok X G (c.d.fact 27 (f := .glo "_values_in") rfl)
    F_read_entry := F_read_entry
    b_read_entry := F_read_entry.bindsN (ps := ["line", "before"]) fun _ _ _ _ _ _ us hl => match us, hl with | [_, _], _ => rfl
    g_read_entry := He.glo_ok X G (c.d.fact 28 (f := .glo "_read_entry") rfl)
    F_token_in := F_token_in
    b_token_in := F_token_in.bindsN (ps := ["text"]) fun _ _ _ _ _ _ us hl => match us, hl with | [_], _ => rfl
    g_token_in := He.glo_ok X G (c.d.fact 29 (f := .glo "_token_in") rfl)
    F_fault_in := F_fault_in
    b_fault_in := F_fault_in.bindsN (ps := ["text"]) fun _ _ _ _ _ _ us hl => match us, hl with | [_], _ => rfl
    g_fault_in := He.glo_ok X G (c.d.fact 30 (f := .glo "_fault_in") rfl)
    F_lw_numbers := F_lw_numbers
    b_lw_numbers := F_lw_numbers.bindsN (ps := ["script", "many"]) fun _ _ _ _ _ _ us hl => match us, hl with | [_, _], _ => rfl
    g_lw_numbers := He.glo_ok X G (c.d.fact 31 (f := .glo "_law_numbers") rfl)
    F_lw_object := F_lw_object
    b_lw_object := F_lw_object.bindsN (ps := ["number"]) fun _ _ _ _ _ _ us hl => match us, hl with | [_], _ => rfl
    g_lw_object := He.glo_ok X G (c.d.fact 32 (f := .glo "_law_object") rfl)
    F_lw_value := F_lw_value
    b_lw_value := F_lw_value.bindsN (ps := ["number"]) fun _ _ _ _ _ _ us hl => match us, hl with | [_], _ => rfl
    g_lw_value := He.glo_ok X G (c.d.fact 33 (f := .glo "_law_value") rfl)
    F_lw_values := F_lw_values
    b_lw_values := F_lw_values.bindsN (ps := ["numbers", "at", "most"]) fun _ _ _ _ _ _ us hl => match us, hl with | [_, _, _], _ => rfl
    g_lw_values := He.glo_ok X G (c.d.fact 34 (f := .glo "_law_values") rfl)
    F_lw_entry := F_lw_entry
    b_lw_entry := F_lw_entry.bindsN (ps := ["numbers", "at"]) fun _ _ _ _ _ _ us hl => match us, hl with | [_, _], _ => rfl
    g_lw_entry := He.glo_ok X G (c.d.fact 35 (f := .glo "_law_entry") rfl)
    F_lw_bundle := F_lw_bundle
    b_lw_bundle := F_lw_bundle.bindsN (ps := ["numbers", "at"]) fun _ _ _ _ _ _ us hl => match us, hl with | [_, _], _ => rfl
    g_lw_bundle := He.glo_ok X G (c.d.fact 36 (f := .glo "_law_bundle") rfl)
    F_lw_name_text := F_lw_name_text
    b_lw_name_text := F_lw_name_text.bindsN (ps := ["name"]) fun _ _ _ _ _ _ us hl => match us, hl with | [_], _ => rfl
    g_lw_name_text := He.glo_ok X G (c.d.fact 37 (f := .glo "_law_name_text") rfl)
    F_lw_value_text := F_lw_value_text
    b_lw_value_text := F_lw_value_text.bindsN (ps := ["value"]) fun _ _ _ _ _ _ us hl => match us, hl with | [_], _ => rfl
    g_lw_value_text := He.glo_ok X G (c.d.fact 38 (f := .glo "_law_value_text") rfl)
    F_lw_text := F_lw_text
    b_lw_text := F_lw_text.bindsN (ps := ["bundle"]) fun _ _ _ _ _ _ us hl => match us, hl with | [_], _ => rfl
    g_lw_text := He.glo_ok X G (c.d.fact 39 (f := .glo "_law_text") rfl)
    F_lw_changed := F_lw_changed
    b_lw_changed := F_lw_changed.bindsN (ps := ["numbers", "at", "text"]) fun _ _ _ _ _ _ us hl => match us, hl with | [_, _, _], _ => rfl
    g_lw_changed := He.glo_ok X G (c.d.fact 40 (f := .glo "_law_changed") rfl)
    F_lw_line := F_lw_line
    b_lw_line := F_lw_line.bindsN (ps := ["text"]) fun _ _ _ _ _ _ us hl => match us, hl with | [_], _ => rfl
    g_lw_line := He.glo_ok X G (c.d.fact 41 (f := .glo "_law_line") rfl)
    F_law := F_law
    b_law := F_law.bindsN (ps := ["script"]) fun _ _ _ _ _ _ us hl => match us, hl with | [_], _ => rfl
    g_law := He.glo_ok X G (c.d.fact 42 (f := .glo "law") rfl)
    g_MAX_DIGITS := He.int_ok X G (c.d.fact 43 (f := .int "MAX_DIGITS" 13) rfl)
    g_MAX_NUMBER := He.int_ok X G (c.d.fact 44 (f := .int "MAX_NUMBER" 1000000000000) rfl)
    g_MAX_NAME := He.int_ok X G (c.d.fact 45 (f := .int "MAX_NAME" 12) rfl)
    g_WORDS := He.glo_ok X G (c.d.fact 46 (f := .glo "WORDS") rfl)
    k_WORDS := fun H => He.tupB_ok o0 H
    g_NIL := He.glo_ok X G (c.d.fact 47 (f := .glo "NIL") rfl)
    k_NIL := fun H => He.tupB_ok o1 H
    g_FAULTS := He.glo_ok X G (c.d.fact 48 (f := .glo "FAULTS") rfl)
    k_FAULTS := fun H => He.tupB_ok o2 H
    g_HEAD_WORDS := He.glo_ok X G (c.d.fact 49 (f := .glo "HEAD_WORDS") rfl)
    k_HEAD_WORDS := fun H => He.tupB_ok o3 H
    g_FRAME_WORDS := He.glo_ok X G (c.d.fact 50 (f := .glo "FRAME_WORDS") rfl)
    k_FRAME_WORDS := fun H => He.tupB_ok o4 H
    g_PortError := He.glo_ok X G (c.d.fact 51 (f := .glo "PortError") rfl)
    g_NotAllowed := He.glo_ok X G (c.d.fact 52 (f := .glo "NotAllowed") rfl)
    g_BadForm := He.glo_ok X G (c.d.fact 53 (f := .glo "BadForm") rfl)
    S_BadForm := u.sup 0 rfl
    g_int := He.free_ok X G (c.d.fact 54 (f := .free "int") rfl)
    g_len := He.free_ok X G (c.d.fact 55 (f := .free "len") rfl)
    g_tuple := He.free_ok X G (c.d.fact 56 (f := .free "tuple") rfl)
    g_isinstance := He.free_ok X G (c.d.fact 57 (f := .free "isinstance") rfl)
    g_bool := He.free_ok X G (c.d.fact 58 (f := .free "bool") rfl)
    g_all := He.free_ok X G (c.d.fact 59 (f := .free "all") rfl)
    g_str := He.free_ok X G (c.d.fact 60 (f := .free "str") rfl)
    g_zip := He.free_ok X G (c.d.fact 61 (f := .free "zip") rfl)
    g_enumerate := He.free_ok X G (c.d.fact 62 (f := .free "enumerate") rfl)
    g_range := He.free_ok X G (c.d.fact 63 (f := .free "range") rfl)
    g_abs := He.free_ok X G (c.d.fact 64 (f := .free "abs") rfl)
    g_max := He.free_ok X G (c.d.fact 65 (f := .free "max") rfl)
    g_sorted := He.free_ok X G (c.d.fact 66 (f := .free "sorted") rfl)
    g_super := He.free_ok X G (x := "super") o5
    l_BadForm := He.eqO_ok o6
    e1_ := eq_of_beq o7
    x_NotAllowed := o8
    k_NotAllowed := o9
    s_NotAllowed := eq_of_beq o10
    t_NotAllowed := eq_of_beq o11
    m1_ := eq_of_beq o12
    m2_ := eq_of_beq o13
    m4_ := o14
    m5_ := eq_of_beq o15
    m6_ := eq_of_beq o16
    m7_ := eq_of_beq o17
    m8_ := eq_of_beq o18
    s_BadForm := eq_of_beq o19
    e2_ := eq_of_beq o20
    e3_ := eq_of_beq o21
    e4_ := eq_of_beq o22
  }
  have b := Cm.bindsA_of (x := "law") (st := s_law) (ps := ["script"]) F_law fun _ _ _ _ _ _ us hl => match us, hl with | [_], _ => rfl
  exact ⟨d_law, fun s v => b s [v] rfl, fun base _ _ => ok_law hP T⟩
end K38
open PySem PySem.W PySem.Calls PyProof.Rows
set_option maxHeartbeats 0 in
theorem PySem.Challenge.cw_portage_k38_whole_any_text_of_a_bundle_holds : PySem.Challenge.rw_portage_k38_whole_any_text_of_a_bundle.Holds := by
  w_on; o_law
  refine HandSHeadRun.head_any (r := OpenLaw.row PySem.Challenge.rw_portage_k38_whole_any_text_of_a_bundle) (q := view (OpenLaw.row PySem.Challenge.rw_portage_k38_whole_any_text_of_a_bundle).prog [61]) (H := K38.hk) (ob := K38.ob) (M := 4000) (loose := K38.loose) (d := HandSHeadRun.topDef (OpenLaw.row PySem.Challenge.rw_portage_k38_whole_any_text_of_a_bundle).prog 61) (kwd := []) K38.ob_eq
    (by kernel_rfl) (fun s => by kernel_rfl) K38.run (by kernel_rfl) (by kernel_rfl) (by kernel_rfl) (by rfl) (by first | assumption | decide +kernel) (by decide +kernel) ⟨rfl, rfl, rfl, rfl, rfl, by decide +kernel⟩ ?hw ?hc
  case hw => w_witness2
  case hc =>
    refine L2.walk_ofE (l := PySem.Challenge.rw_portage_k38_whole_any_text_of_a_bundle) (n := 63) (k := 13) (x := "script") (CX := L2.CX0) rfl (by decide) (by kernel_rfl) ⟨rfl, by decide, by decide⟩ ?F (fun _ _ _ _ z => z)
    intro w mg fa h Y G hmg0
    obtain ⟨K, KX, u, ok, c⟩ := Y
    have hmg : mg ("law" : PySem.Str) = some (.ref fa) := by
      have e : (HandSHeadRun.topDef (OpenLaw.row PySem.Challenge.rw_portage_k38_whole_any_text_of_a_bundle).prog 61).name = ("law" : PySem.Str) := by kernel_rfl
      rw [← e]
      exact hmg0
    obtain ⟨fd, hb, hF⟩ := K38.facts (P := (PySem.Challenge.rw_portage_k38_whole_any_text_of_a_bundle).prog) (w := w) KX G hmg ok c K38.hP u
    exact ⟨K, fd, K38.spLaw K, KX, hb, fun H a ns hl _ hS => ⟨a, ns, rfl, hS, hl, fun _ => rfl⟩, hF⟩

