import PyProof.Rows.All
import Wide.All
import OpenK.AllK
import Wide.FinOn
import KE.KStateDown
import Lean
import HandS.ForMost
import HandS.Defaults
import HandS.More
import HandS.Flow
import HandS.Style
import HandS.StrMore
import HandS.IsInst
import HandS.TupAny
import HandS.TupMul
import HandS.Head0
import HandS.Head1
import HandS.Head2
import HandS.HeadEnd
import HandS.HeadHook1
import HandS.HeadHook2
import HandS.HeadHook3
import KE.KeyNested
import PyProof.DictMoreH
import KE.KTupSum
import HandS.ExcOwn
import HandS.WordsExc
import KE.SortCalls
import KE.SortKeyed
import KE.KDictCopyH
import KE.KDictSum
import HandS.DictTup
import KE.SortData
import HandS.TupSets
import HandS.Deep
import HandS.Conv
import HandS.Codes
import HandS.ExcIs
import HandS.RaiseMore
import PySem.Challenge.RW_portage_k42_whole_each_body_once
set_option Elab.async false
set_option linter.all false
set_option maxRecDepth 100000
set_option maxHeartbeats 4000000
/-! What my proofs have in common: a Hook with one more test, and small words. -/
namespace Cm
open PySem PySem.Spec PyProof.Rows L2 He

abbrev FnP (K : PySem.W.Frag) (x : Str) (st : Stmt) (f : Addr) (fd : FuncData) : Prop := FunD K x x (defArgs st) (defBody st) (defScope st) [] [] f fd
theorem bindsA_of {K : PySem.W.Frag} {x : Str} {st : Stmt} {f : Addr} {fd : FuncData} {ps : List Str} (F : FnP K x st f fd)
    (h : ∀ (kV doc pm : Value) (an : Option Addr) (cdv ct : Value) (us : List Value), us.length = ps.length → bindArgs (PySem.W.fnOf x x (defArgs st) (defBody st) (defScope st) .none kV doc pm an cdv ct) ⟨us, []⟩ = pure (ps.zip us)) (s : Shared) (us : List Value) (hl : us.length = ps.length) : BindsTo s fd ⟨us, []⟩ (ps.zip us) := FunD.bindsA F h s us hl

/-! ### heaps that grow -/
theorem same_new {H : Hp} {p : Addr} {o : HO} (h : H p = none) : Same H (upd H p o) := fun b x e => by
  rw [upd_ne (ne_of_none e h)]
  exact e
theorem same_mut {H H' : Hp} {p : Addr} {o : HO} (s : Same H H') (h : H p = none) : Same H (upd H' p o) := fun b x e => by
  rw [upd_ne (ne_of_none e h)]
  exact s b x e
theorem sameT {K : PySem.W.Frag} {H H' : Hp} {a : Addr} {xs : List V} (s : Same H H') (h : SqT K H a xs) : SqT K H' a xs := by
  rcases h with (h | ⟨o, h⟩) | h
  · exact .inl (.inl (s _ _ h))
  · exact .inl (.inr ⟨o, s _ _ h⟩)
  · exact .inr h
theorem sqt_new {K : PySem.W.Frag} {H : Hp} {p : Addr} {xs : List V} : SqT K (upd H p (.tup xs)) p xs := .inl (.inl upd_same)
theorem sql_new {K : PySem.W.Frag} {H : Hp} {p : Addr} {xs : List V} : SqL K (upd H p (.lst xs)) p xs := .inl (.inl upd_same)
theorem small {n : Nat} (h : n ≤ 100000) : n ≤ sizeLine := by
  rw [sizeLine_eq]
  omega
theorem smallL {n : Nat} (h : n ≤ 100000) : n < sizeLine := by
  rw [sizeLine_eq]
  omega
/-! ### tests -/
theorem itV {x : Bool} {A B : Prop} (h1 : x = true → A) (h2 : x = false → B) : if (if false = true then !x else x) = true then A else B := by
  cases x
  · exact h2 rfl
  · exact h1 rfl
theorem itVn {x : Bool} {A B : Prop} (h1 : x = false → A) (h2 : x = true → B) : if (if true = true then !x else x) = true then A else B := by
  cases x
  · exact h1 rfl
  · exact h2 rfl
theorem itB {x : Bool} {A B : Prop} (h1 : x = true → A) (h2 : x = false → B) : if x = true then A else B := by
  cases x
  · exact h2 rfl
  · exact h1 rfl
theorem itBn {x : Bool} {A B : Prop} (h1 : x = false → A) (h2 : x = true → B) : if (!x) = true then A else B := by
  cases x
  · exact h1 rfl
  · exact h2 rfl
theorem itD {c : Prop} [Decidable c] {A B : Prop} (h1 : c → A) (h2 : ¬ c → B) : if decide c = true then A else B := by
  by_cases h : c
  · rw [if_pos (decide_eq_true h)]
    exact h1 h
  · rw [if_neg (by rw [decide_eq_false h]; decide)]
    exact h2 h
theorem itDn {c : Prop} [Decidable c] {A B : Prop} (h1 : ¬ c → A) (h2 : c → B) : if (!decide c) = true then A else B := by
  by_cases h : c
  · rw [if_neg (by rw [decide_eq_true h]; decide)]
    exact h2 h
  · rw [if_pos (by rw [decide_eq_false h]; rfl)]
    exact h1 h
theorem deq_int {i j : Int} : decide (V.int i = V.int j) = decide (i = j) := by
  by_cases h : i = j
  · rw [h, decide_eq_true rfl, decide_eq_true rfl]
  · rw [decide_eq_false h, decide_eq_false fun e => h (V.int.inj e)]
theorem deq_str {x y : Str} : decide (V.str x = V.str y) = decide (x = y) := by
  by_cases h : x = y
  · rw [h, decide_eq_true rfl, decide_eq_true rfl]
  · rw [decide_eq_false h, decide_eq_false fun e => h (V.str.inj e)]
theorem deq_bl {x y : Bool} : decide (V.bl x = V.bl y) = decide (x = y) := by
  by_cases h : x = y
  · rw [h, decide_eq_true rfl, decide_eq_true rfl]
  · rw [decide_eq_false h, decide_eq_false fun e => h (V.bl.inj e)]
theorem itEI {x y : Int} {A B : Prop} (h1 : x = y → A) (h2 : ¬ x = y → B) : if decide (V.int x = V.int y) = true then A else B := by
  rw [deq_int]
  exact itD h1 h2
theorem itES {x y : Str} {A B : Prop} (h1 : x = y → A) (h2 : ¬ x = y → B) : if decide (V.str x = V.str y) = true then A else B := by
  rw [deq_str]
  exact itD h1 h2
theorem itNI {x y : Int} {A B : Prop} (h1 : ¬ x = y → A) (h2 : x = y → B) : if (!decide (V.int x = V.int y)) = true then A else B := by
  rw [deq_int]
  exact itDn h1 h2
theorem itNS {x y : Str} {A B : Prop} (h1 : ¬ x = y → A) (h2 : x = y → B) : if (!decide (V.str x = V.str y)) = true then A else B := by
  rw [deq_str]
  exact itDn h1 h2
theorem str_nil {z : Str} (h : z.cps.toList = []) : z = ⟨#[]⟩ := by
  obtain ⟨c⟩ := z
  have e : c = #[] := by simpa using h
  rw [e]
/-! ### items -/
theorem at_in {xs : List V} {i : Int} (h0 : 0 ≤ i) (h1 : i < (xs.length : Int)) : ∃ v, v ∈ xs ∧ atI xs i = some v := by
  obtain ⟨j, rfl⟩ := Int.eq_ofNat_of_zero_le h0
  have h2 : j < xs.length := by omega
  exact ⟨xs[j], List.getElem_mem h2, atI_nat (List.getElem?_eq_getElem h2)⟩
theorem at_str {ws : List Str} {i : Int} (h0 : 0 ≤ i) (h1 : i < (ws.length : Int)) : ∃ w, w ∈ ws ∧ atI (ws.map V.str) i = some (.str w) := by
  obtain ⟨v, hv, e⟩ := at_in (xs := ws.map V.str) h0 (by rw [List.length_map]; exact h1)
  obtain ⟨w, hw, rfl⟩ := List.mem_map.mp hv
  exact ⟨w, hw, e⟩
theorem at_int {ns : List Int} {i : Int} (h0 : 0 ≤ i) (h1 : i < (ns.length : Int)) : ∃ n, n ∈ ns ∧ atI (ns.map V.int) i = some (.int n) := by
  obtain ⟨v, hv, e⟩ := at_in (xs := ns.map V.int) h0 (by rw [List.length_map]; exact h1)
  obtain ⟨n, hn, rfl⟩ := List.mem_map.mp hv
  exact ⟨n, hn, e⟩
/-! ### a Hook with one more test -/
abbrev AlX : Type := Bool × AlT
def obsX (fa : List Fa) (fn : List DefD) (ts : List Tab) (ok : PySem.W.Frag → Bool) (K : PySem.W.Frag) : AlX := (ok K, obsT fa fn ts K)
def obsXG (n : Nat) (fa : List Fa) (fn : List DefD) (ts : List Tab) (ok : PySem.W.Frag → Bool) (g : Addr → Option Obj) : AlX := obsX fa fn ts ok (frG g (asD g n))
def hookX (n : Nat) (fa : List Fa) (fn : List DefD) (ts : List Tab) (ok : PySem.W.Frag → Bool) : PySem.W.Hook where
  α := AlX
  obs := fun s => obsXG n fa fn ts ok s.heap.get?
  val := fun w => (true, valT fn ts w)
  says := fun w h => ∃ K : PySem.W.Frag, K.In h ∧ ok K = true ∧ SaysT fa fn ts w K
  of := fun w s e => ⟨frG s.heap.get? (asD s.heap.get? n), frG_in, congrArg (fun z : AlX => z.1) e, congrArg (fun z : AlX => z.2) e⟩
  keeps := fun _ _ _ ⟨K, hK, o, c⟩ k => ⟨K, PySem.W.Frag.In.keeps hK k, o, c⟩
theorem obsXG_eq {n : Nat} {fa : List Fa} {fn : List DefD} {ts : List Tab} {ok : PySem.W.Frag → Bool} {g : Addr → Option Obj} {s : Shared} (h : ∀ a, g a = s.heap.get? a) : obsXG n fa fn ts ok g = (hookX n fa fn ts ok).obs s := by
  have e : g = s.heap.get? := funext h
  rw [e] <;> rfl
end Cm

set_option Elab.async false
set_option linter.all false
set_option maxRecDepth 100000
set_option maxHeartbeats 4000000
/-! Program trees: expressions, statements, what they are as data, their code. No word of any one statement here. -/
namespace Pt
open PySem PySem.Spec PyProof.Rows L2

/-! ### data that never changes: numbers, texts, truth values, tuples of such -/
mutual
inductive Rp (K : PySem.W.Frag) (H : Hp) : V → PyData → Prop
  | non : Rp K H .non .none
  | bl (b : Bool) : Rp K H (.bl b) (.bool b)
  | int (i : Int) : Rp K H (.int i) (.int i)
  | str (x : Str) : Rp K H (.str x) (.str x)
  | tup {a : Addr} {xs : List V} {ds : List PyData} : SqT K H a xs → Rps K H xs ds → Rp K H (.ref a) (.tuple ds)
inductive Rps (K : PySem.W.Frag) (H : Hp) : List V → List PyData → Prop
  | nil : Rps K H [] []
  | cons {v : V} {vs : List V} {d : PyData} {ds : List PyData} : Rp K H v d → Rps K H vs ds → Rps K H (v :: vs) (d :: ds)
end
/-- all that was tracked stays, but what stands at c -/
def Keep (c : Addr) (H H' : Hp) : Prop := ∀ b o, H b = some o → b ≠ c → H' b = some o
theorem Keep.refl (c : Addr) (H : Hp) : Keep c H H := fun _ _ h _ => h
theorem Keep.trans {c : Addr} {H H1 H2 : Hp} (a : Keep c H H1) (b : Keep c H1 H2) : Keep c H H2 := fun x o h n => b x o (a x o h n) n
theorem Keep.of {c : Addr} {H H' : Hp} (s : Same H H') : Keep c H H' := fun b o h _ => s b o h
/-- what was tracked and is no list stays -/
def Tups (H H' : Hp) : Prop := ∀ b o, H b = some o → (∀ xs, o ≠ .lst xs) → H' b = some o
theorem Same.tups {H H' : Hp} (s : Same H H') : Tups H H' := fun b o h _ => s b o h
theorem Keep.tups {c : Addr} {H H' : Hp} {xs : List V} (k : Keep c H H') (h : H c = some (.lst xs)) : Tups H H' := fun b o hb no => k b o hb fun e => by
  subst e
  rw [h] at hb
  exact no xs (Option.some.inj hb).symm
section
variable {K : PySem.W.Frag} {H H' : Hp}
theorem Tups.sqt (k : Tups H H') {a : Addr} {xs : List V} (h : SqT K H a xs) : SqT K H' a xs := by
  rcases h with (h | ⟨o, h⟩) | h
  · exact .inl (.inl (k _ _ h fun _ e => by cases e))
  · exact .inl (.inr ⟨o, k _ _ h fun _ e => by cases e⟩)
  · exact .inr h
mutual
theorem Rp.keep (k : Tups H H') : ∀ {v : V} {d : PyData}, Rp K H v d → Rp K H' v d
  | _, _, .non => .non
  | _, _, .bl b => .bl b
  | _, _, .int i => .int i
  | _, _, .str x => .str x
  | _, _, .tup h r => .tup (k.sqt h) (Rps.keep k r)
theorem Rps.keep (k : Tups H H') : ∀ {vs : List V} {ds : List PyData}, Rps K H vs ds → Rps K H' vs ds
  | _, _, .nil => .nil
  | _, _, .cons h r => .cons (Rp.keep k h) (Rps.keep k r)
end
mutual
theorem Rp.dp : ∀ {v : V} {d : PyData}, Rp K H v d → Dp K H v d
  | _, _, .non => .non
  | _, _, .bl b => .bl b
  | _, _, .int i => .int i
  | _, _, .str x => .str x
  | _, _, .tup h r => .tup h (Rps.dp r)
theorem Rps.dp : ∀ {vs : List V} {ds : List PyData}, Rps K H vs ds → DpAll K H vs ds
  | _, _, .nil => .nil
  | _, _, .cons h r => .cons (Rp.dp h) (Rps.dp r)
end
theorem Rps.len : ∀ {vs : List V} {ds : List PyData}, Rps K H vs ds → vs.length = ds.length
  | _, _, .nil => rfl
  | _, _, .cons _ r => congrArg (· + 1) (Rps.len r)
theorem Rps.app : ∀ {vs us : List V} {ds es : List PyData}, Rps K H vs ds → Rps K H us es → Rps K H (vs ++ us) (ds ++ es)
  | _, _, _, _, .nil, r => r
  | _, _, _, _, .cons h r, s => .cons h (Rps.app r s)
theorem Rps.at_ : ∀ {vs : List V} {ds : List PyData} {i : Nat} {d : PyData}, Rps K H vs ds → ds[i]? = some d → ∃ v, vs[i]? = some v ∧ Rp K H v d
  | _, _, 0, _, .cons h _, e => ⟨_, rfl, by cases e; exact h⟩
  | _, _, i + 1, _, .cons _ r, e => Rps.at_ (i := i) r e
theorem Rps.drop : ∀ {vs : List V} {ds : List PyData} (n : Nat), Rps K H vs ds → Rps K H (vs.drop n) (ds.drop n)
  | _, _, 0, r => r
  | _, _, _ + 1, .nil => .nil
  | _, _, n + 1, .cons _ r => Rps.drop n r
theorem Rps.take : ∀ {vs : List V} {ds : List PyData} (n : Nat), Rps K H vs ds → Rps K H (vs.take n) (ds.take n)
  | _, _, 0, _ => .nil
  | _, _, _ + 1, .nil => .nil
  | _, _, n + 1, .cons h r => .cons h (Rps.take n r)
theorem Rps.one {v : V} {d : PyData} (h : Rp K H v d) : Rps K H [v] [d] := .cons h .nil
theorem Rp.tup_inv {v : V} {ds : List PyData} (h : Rp K H v (.tuple ds)) : ∃ a vs, v = .ref a ∧ SqT K H a vs ∧ Rps K H vs ds := by
  cases h with
  | tup h r => exact ⟨_, _, rfl, h, r⟩
theorem Rp.str_inv {v : V} {x : Str} (h : Rp K H v (.str x)) : v = .str x := by
  cases h
  rfl
theorem Rp.int_inv {v : V} {i : Int} (h : Rp K H v (.int i)) : v = .int i := by
  cases h
  rfl
theorem Rp.bl_inv {v : V} {b : Bool} (h : Rp K H v (.bool b)) : v = .bl b := by
  cases h
  rfl
theorem Rps.cons_inv {vs : List V} {d : PyData} {ds : List PyData} (h : Rps K H vs (d :: ds)) : ∃ v r, vs = v :: r ∧ Rp K H v d ∧ Rps K H r ds := by
  cases h with
  | cons a b => exact ⟨_, _, rfl, a, b⟩
theorem Rps.nil_inv {vs : List V} (h : Rps K H vs []) : vs = [] := by
  cases h
  rfl
theorem Rp.new {p : Addr} {vs : List V} {ds : List PyData} (h : H' p = some (.tup vs)) (r : Rps K H' vs ds) : Rp K H' (.ref p) (.tuple ds) := .tup (.inl (.inl h)) r
/-- a new tuple of what stood before -/
theorem Rp.made {p : Addr} {vs : List V} {ds : List PyData} (hp : H p = none) (r : Rps K H vs ds) : Rp K (upd H p (.tup vs)) (.ref p) (.tuple ds) := .tup (.inl (.inl upd_same)) (r.keep (Same.tups (Cm.same_new hp)))
/-- a list stays where its content is another than c's -/
theorem Keep.seq {c a : Addr} {xs ys : List V} (k : Keep c H H') (hc : H c = some (.lst ys)) (ne : xs ≠ ys) (h : SqL K H a xs) : SqL K H' a xs := by
  rcases h with (h | ⟨o, h⟩) | h
  · refine .inl (.inl (k _ _ h fun e => ?_))
    rw [e, hc] at h
    cases h
    exact ne rfl
  · refine .inl (.inr ⟨o, k _ _ h fun e => ?_⟩)
    rw [e, hc] at h
    cases h
  · exact .inr h
end

/-- tuple + tuple -/
theorem cat_rp {K : PySem.W.Frag} {H : Hp} {x y : V} {ds es : List PyData} {Q : VK} (hx : Rp K H x (.tuple ds)) (hy : Rp K H y (.tuple es)) (hl : ds.length + es.length ≤ 10000000) (h : ∀ (v : V) (H' : Hp), Same H H' → Rp K H' v (.tuple (ds ++ es)) → Q v H') : rCatA K x y H Q := by
  obtain ⟨a, xs, rfl, ha, hxs⟩ := hx.tup_inv
  obtain ⟨b, ys, rfl, hb, hys⟩ := hy.tup_inv
  refine ⟨a, b, xs, ys, rfl, rfl, ha, hb, ?_, fun e => ?_, fun _ e => ?_, fun _ _ p np => ?_⟩
  · rw [hxs.len, hys.len, sizeLine_eq]
    omega
  · subst e
    cases hxs
    exact h _ _ (Same.refl H) hy
  · subst e
    cases hys
    rw [List.append_nil] at h
    exact h _ _ (Same.refl H) hx
  · exact h _ _ (Cm.same_new np) (Rp.made np (hxs.app hys))
/-- a tuple from a place on -/
theorem from_rp {K : PySem.W.Frag} {H : Hp} {x : V} {ds : List PyData} {k : Nat} {Q : VK} (hx : Rp K H x (.tuple ds)) (hk : k ≤ ds.length) (h : ∀ (v : V) (H' : Hp), Same H H' → Rp K H' v (.tuple (ds.drop k)) → Q v H') : rSlA K x (some (k : Int)) none H Q := by
  obtain ⟨a, xs, rfl, ha, hxs⟩ := hx.tup_inv
  have hl := hxs.len
  have e0 : HT.sIx xs.length 0 (some (k : Int)) = k := by
    rw [show HT.sIx xs.length 0 (some (k : Int)) = min k xs.length from HT.sIx_nat _ 0 k]
    omega
  refine ⟨a, xs, rfl, ha, fun e => ?_, fun _ p np => ?_⟩
  · have z := e.1
    rw [e0] at z
    subst z
    exact h _ _ (Same.refl H) hx
  · have ec : cutV xs (some (k : Int)) none = xs.drop k := by
      unfold cutV
      rw [e0, HT.sIx_none]
      exact List.take_of_length_le (by rw [List.length_drop]; exact Nat.le_refl _)
    rw [ec]
    exact h _ _ (Cm.same_new np) (Rp.made np (hxs.drop k))
/-! ### equality of data is reflexive; its form -/
/-- numbers, texts, truth values, None -/
def leafD : PyData → Bool
  | .none => true
  | .bool _ => true
  | .int _ => true
  | .str _ => true
  | _ => false

/-! ### expressions and statements -/
mutual
inductive E where
  | int (n : Int)
  | name (x : Str)
  | choice (o : Bool) (l r : E)
  | call (r : E) (f : Str) (as : Es)
  | new (m : Str) (as : Es)
  | plain (w : Str) (as : Es)
inductive Es where
  | nil
  | cons (e : E) (es : Es)
end
mutual
inductive S where
  | letS (x k : Str) (e : E)
  | setS (x : Str) (e : E)
  | ifS (e : E) (b c : Ss)
  | whileS (e : E) (b : Ss)
  | doS (e : E)
  | fork (r : E) (f : Str) (as : Es)
  | plain (w : Str) (as : Es)
inductive Ss where
  | nil
  | cons (s : S) (ss : Ss)
end
def cw (o : Bool) : Str := if o then "or" else "and"
mutual
def E.d : E → PyData
  | .int n => .tuple [.str "int", .int n]
  | .name x => .tuple [.str "name", .str x]
  | .choice o l r => .tuple [.str (cw o), l.d, r.d]
  | .call r f as => .tuple [.str "call", r.d, .str f, .tuple as.ds]
  | .new m as => .tuple [.str "new", .str m, .tuple as.ds]
  | .plain w as => .tuple (.str w :: as.ds)
def Es.ds : Es → List PyData
  | .nil => []
  | .cons e es => e.d :: es.ds
end
mutual
def S.d : S → PyData
  | .letS x k e => .tuple [.str "let", .str x, .str k, e.d]
  | .setS x e => .tuple [.str "set", .str x, e.d]
  | .ifS e b c => .tuple [.str "if", e.d, .tuple b.ds, .tuple c.ds]
  | .whileS e b => .tuple [.str "while", e.d, .tuple b.ds]
  | .doS e => .tuple [.str "do", e.d]
  | .fork r f as => .tuple [.str "fork", r.d, .str f, .tuple as.ds]
  | .plain w as => .tuple (.str w :: as.ds)
def Ss.ds : Ss → List PyData
  | .nil => []
  | .cons s ss => s.d :: ss.ds
end
def Es.list : Es → List E
  | .nil => []
  | .cons e es => e :: es.list
def Ss.list : Ss → List S
  | .nil => []
  | .cons s ss => s :: ss.list
def Ss.of : List S → Ss
  | [] => .nil
  | s :: ss => .cons s (Ss.of ss)
def Ss.app : Ss → Ss → Ss
  | .nil, c => c
  | .cons s b, c => .cons s (b.app c)
def Es.len : Es → Nat
  | .nil => 0
  | .cons _ es => es.len + 1
theorem Es.ds_len : ∀ es : Es, es.ds.length = es.len
  | .nil => rfl
  | .cons _ es => congrArg (· + 1) (Es.ds_len es)
theorem Es.list_ds : ∀ es : Es, es.ds = es.list.map E.d
  | .nil => rfl
  | .cons _ es => congrArg (_ :: ·) (Es.list_ds es)
theorem Ss.list_ds : ∀ es : Ss, es.ds = es.list.map S.d
  | .nil => rfl
  | .cons _ es => congrArg (_ :: ·) (Ss.list_ds es)
theorem Ss.app_ds : ∀ b c : Ss, (b.app c).ds = b.ds ++ c.ds
  | .nil, _ => rfl
  | .cons _ b, c => congrArg (_ :: ·) (Ss.app_ds b c)
theorem Ss.app_list : ∀ b c : Ss, (b.app c).list = b.list ++ c.list
  | .nil, _ => rfl
  | .cons _ b, c => congrArg (_ :: ·) (Ss.app_list b c)
theorem Ss.of_list : ∀ l : List S, (Ss.of l).list = l
  | [] => rfl
  | _ :: l => congrArg (_ :: ·) (Ss.of_list l)
/-! ### the names that are used; the names of lets -/
mutual
def E.uses : E → List Str
  | .int _ => []
  | .name x => [x]
  | .choice _ l r => l.uses ++ r.uses
  | .call r _ as => r.uses ++ as.uses
  | .new _ as => as.uses
  | .plain _ as => as.uses
def Es.uses : Es → List Str
  | .nil => []
  | .cons e es => e.uses ++ es.uses
end
mutual
def S.uses : S → List Str
  | .letS x _ e => x :: e.uses
  | .setS x e => x :: e.uses
  | .ifS e b c => e.uses ++ (b.uses ++ c.uses)
  | .whileS e b => e.uses ++ b.uses
  | .doS e => e.uses
  | .fork r _ as => r.uses ++ as.uses
  | .plain _ as => as.uses
def Ss.uses : Ss → List Str
  | .nil => []
  | .cons s ss => s.uses ++ ss.uses
end
mutual
def S.lets : S → List Str
  | .letS x _ _ => [x]
  | .ifS _ b c => b.lets ++ c.lets
  | .whileS _ b => b.lets
  | _ => []
def Ss.lets : Ss → List Str
  | .nil => []
  | .cons s ss => s.lets ++ ss.lets
end
theorem Ss.app_lets : ∀ b c : Ss, (b.app c).lets = b.lets ++ c.lets
  | .nil, _ => rfl
  | .cons s b, c => by
    show s.lets ++ (b.app c).lets = (s.lets ++ b.lets) ++ c.lets
    rw [Ss.app_lets b c, List.append_assoc]
theorem Ss.app_uses : ∀ b c : Ss, (b.app c).uses = b.uses ++ c.uses
  | .nil, _ => rfl
  | .cons s b, c => by
    show s.uses ++ (b.app c).uses = (s.uses ++ b.uses) ++ c.uses
    rw [Ss.app_uses b c, List.append_assoc]
/-! ### words in their places -/
abbrev plainE : List Str := ["nil", "self", "add", "sub", "mul", "less", "most", "same", "not"]
abbrev leafE : List Str := ["nil", "self"]
def Es.isNil : Es → Bool
  | .nil => true
  | .cons _ _ => false
abbrev plainB : List Str := ["return", "print", "move"]
/-- how many parts stand behind a word -/
def arE (w : Str) : Nat := if w ∈ leafE then 0 else if w = "not" then 1 else 2
def arB (w : Str) : Nat := if w = "move" then 2 else 1
mutual
def E.wf : E → Bool
  | .int _ => true
  | .name _ => true
  | .choice _ l r => l.wf && r.wf
  | .call r _ as => r.wf && as.wf
  | .new _ as => as.wf
  | .plain w as => (decide (w ∈ plainE) && decide (as.len = arE w)) && as.wf
def Es.wf : Es → Bool
  | .nil => true
  | .cons e es => e.wf && es.wf
end
mutual
def S.wf : S → Bool
  | .letS _ _ e => e.wf
  | .setS _ e => e.wf
  | .ifS e b c => e.wf && (b.wf && c.wf)
  | .whileS e b => e.wf && b.wf
  | .doS e => e.wf
  | .fork r _ as => r.wf && as.wf
  | .plain w as => (decide (w ∈ plainB) && decide (as.len = arB w)) && as.wf
def Ss.wf : Ss → Bool
  | .nil => true
  | .cons s ss => s.wf && ss.wf
end
theorem Ss.app_wf : ∀ b c : Ss, (b.app c).wf = (b.wf && c.wf)
  | .nil, _ => rfl
  | .cons s b, c => by
    show (s.wf && (b.app c).wf) = ((s.wf && b.wf) && c.wf)
    rw [Ss.app_wf b c, Bool.and_assoc]
theorem and2 {a b : Bool} (h1 : a = true) (h2 : b = true) : (a && b) = true := by rw [h1, h2]; rfl
theorem wfP {w : Str} {e : E} {as : Es} (h1 : decide (w ∈ plainB) = true) (h3 : (Es.cons e as).len = arB w) (h2 : (Es.cons e as).wf = true) : (S.plain w (.cons e as)).wf = true := and2 (and2 h1 (decide_eq_true h3)) h2
theorem ar_nil {w : Str} (h : decide (0 = arE w) = true) : w ∈ leafE := by
  by_cases e : w ∈ leafE
  · exact e
  · have h' := of_decide_eq_true h
    unfold arE at h'
    rw [if_neg e] at h'
    split at h' <;> omega
theorem ar_some {w : Str} {n : Nat} (h : decide (n + 1 = arE w) = true) : ¬ w ∈ leafE := fun e => by
  have h' := of_decide_eq_true h
  unfold arE at h'
  rw [if_pos e] at h'
  omega
theorem wfW {e : E} {b : Ss} (h1 : e.wf = true) (h2 : b.wf = true) : (S.whileS e b).wf = true := and2 h1 h2
theorem wfC {e : E} {es : Es} (h1 : e.wf = true) (h2 : es.wf = true) : (Es.cons e es).wf = true := and2 h1 h2
theorem wfSs {e : S} {es : Ss} (h1 : e.wf = true) (h2 : es.wf = true) : (Ss.cons e es).wf = true := and2 h1 h2
/-! ### depth -/
mutual
def E.dep : E → Nat
  | .int _ => 0
  | .name _ => 0
  | .choice _ l r => max l.dep r.dep + 1
  | .call r _ as => max r.dep as.dep + 1
  | .new _ as => as.dep + 1
  | .plain _ as => as.dep + 1
def Es.dep : Es → Nat
  | .nil => 0
  | .cons e es => max e.dep es.dep
end
mutual
def S.dep : S → Nat
  | .letS _ _ e => e.dep + 1
  | .setS _ e => e.dep + 1
  | .ifS e b c => max e.dep (max b.dep c.dep) + 1
  | .whileS e b => max e.dep b.dep + 1
  | .doS e => e.dep + 1
  | .fork r _ as => max r.dep as.dep + 1
  | .plain _ as => as.dep + 1
def Ss.dep : Ss → Nat
  | .nil => 0
  | .cons s ss => max s.dep ss.dep
end
/-! ### the number of instructions -/
mutual
def E.sz : E → Nat
  | .int _ => 1
  | .name _ => 1
  | .choice o l r => l.sz + r.sz + (if o then 2 else 0) + 5
  | .call r _ as => r.sz + as.sz + 1
  | .new _ as => as.sz + 1
  | .plain _ as => as.sz + 1
def Es.sz : Es → Nat
  | .nil => 0
  | .cons e es => e.sz + es.sz
end
mutual
def S.sz : S → Nat
  | .letS _ _ e => e.sz + 1
  | .setS _ e => e.sz + 1
  | .ifS e b c => e.sz + 1 + b.sz + (match c with | .nil => 0 | .cons _ _ => 1) + c.sz
  | .whileS e b => e.sz + b.sz + 2
  | .doS e => e.sz + 1
  | .fork r _ as => r.sz + as.sz + 1
  | .plain _ as => as.sz + 1
def Ss.sz : Ss → Nat
  | .nil => 0
  | .cons s ss => s.sz + ss.sz
end
theorem Ss.app_dep : ∀ b c : Ss, (b.app c).dep = max b.dep c.dep
  | .nil, _ => (Nat.zero_max _).symm
  | .cons s b, c => by
    show max s.dep (b.app c).dep = max (max s.dep b.dep) c.dep
    rw [Ss.app_dep b c, Nat.max_assoc]
theorem Ss.app_sz : ∀ b c : Ss, (b.app c).sz = b.sz + c.sz
  | .nil, _ => (Nat.zero_add _).symm
  | .cons s b, c => by
    show s.sz + (b.app c).sz = (s.sz + b.sz) + c.sz
    rw [Ss.app_sz b c, Nat.add_assoc]
/-! ### code -/
def I1 (x : Str) : PyData := .tuple [.str x]
def I2 (x : Str) (n : Int) : PyData := .tuple [.str x, .int n]
def I3 (x y : Str) (n : Int) : PyData := .tuple [.str x, .str y, .int n]
/-- what turns the parts of an or -/
def tn (o : Bool) : List PyData := if o then [I1 "not"] else []
def kn (o : Bool) : Nat := if o then 1 else 0
def ends (o : Bool) (d : Nat) : List PyData := [I2 "push" (if o then 0 else 1), I2 "jump" ((d : Int) + 1), I2 "push" (if o then 1 else 0)]
abbrev Plc := Str → Str × Int
mutual
def E.code (pl : Plc) : E → Nat → List PyData
  | .int n, _ => [I2 "push" n]
  | .name x, _ => [I2 (pl x).1 (pl x).2]
  | .choice o l r, at_ => (l.code pl at_ ++ tn o) ++ [I2 "unless" ((at_ + l.sz + kn o + 1 + r.sz + kn o + 3 : Nat) : Int)] ++ (r.code pl (at_ + l.sz + kn o + 1) ++ tn o) ++ [I2 "unless" ((at_ + l.sz + kn o + 1 + r.sz + kn o + 3 : Nat) : Int)] ++ ends o (at_ + l.sz + kn o + 1 + r.sz + kn o + 3)
  | .call r f as, at_ => (r.code pl at_ ++ as.code pl (at_ + r.sz)) ++ [I3 "call" f as.len]
  | .new m as, at_ => as.code pl at_ ++ [I3 "new" m as.len]
  | .plain w as, at_ => as.code pl at_ ++ [I1 w]
def Es.code (pl : Plc) : Es → Nat → List PyData
  | .nil, _ => []
  | .cons e es, at_ => e.code pl at_ ++ es.code pl (at_ + e.sz)
end
mutual
def S.code (pl : Plc) : S → Nat → List PyData
  | .letS x _ e, at_ => e.code pl at_ ++ [I2 ("set" ++ (pl x).1) (pl x).2]
  | .setS x e, at_ => e.code pl at_ ++ [I2 ("set" ++ (pl x).1) (pl x).2]
  | .ifS e b .nil, at_ => e.code pl at_ ++ [I2 "unless" ((at_ + e.sz + 1 + b.sz : Nat) : Int)] ++ b.code pl (at_ + e.sz + 1)
  | .ifS e b (.cons s ss), at_ => e.code pl at_ ++ [I2 "unless" ((at_ + e.sz + 1 + b.sz + 1 : Nat) : Int)] ++ b.code pl (at_ + e.sz + 1) ++ [I2 "jump" ((at_ + e.sz + 1 + b.sz + 1 + (s.sz + ss.sz) : Nat) : Int)] ++
      (s.code pl (at_ + e.sz + 1 + b.sz + 1) ++ ss.code pl (at_ + e.sz + 1 + b.sz + 1 + s.sz))
  | .whileS e b, at_ => e.code pl at_ ++ [I2 "unless" ((at_ + e.sz + 1 + b.sz + 1 : Nat) : Int)] ++ b.code pl (at_ + e.sz + 1) ++ [I2 "jump" (at_ : Nat)]
  | .doS e, at_ => e.code pl at_ ++ [I1 "drop"]
  | .fork r f as, at_ => (r.code pl at_ ++ as.code pl (at_ + r.sz)) ++ [I3 "fork" f as.len]
  | .plain w as, at_ => as.code pl at_ ++ [I1 w]
def Ss.code (pl : Plc) : Ss → Nat → List PyData
  | .nil, _ => []
  | .cons s ss, at_ => s.code pl at_ ++ ss.code pl (at_ + s.sz)
end
theorem tn_len (o : Bool) : (tn o).length = kn o := by cases o <;> rfl
mutual
theorem E.code_len (pl : Plc) : ∀ (e : E) (a : Nat), (e.code pl a).length = e.sz
  | .int _, _ => rfl
  | .name _, _ => rfl
  | .choice o l r, a => by
    have h1 := E.code_len pl l a
    have h2 := E.code_len pl r (a + l.sz + kn o + 1)
    simp only [E.code, List.length_append, List.length_cons, List.length_nil, h1, h2, tn_len, ends, E.sz]
    cases o <;> simp [kn] <;> omega
  | .call r f as, a => by
    have h1 := E.code_len pl r a
    have h2 := Es.code_len pl as (a + r.sz)
    simp only [E.code, List.length_append, List.length_cons, List.length_nil, h1, h2, E.sz]
  | .new m as, a => by
    have h2 := Es.code_len pl as a
    simp only [E.code, List.length_append, List.length_cons, List.length_nil, h2, E.sz]
  | .plain w as, a => by
    have h2 := Es.code_len pl as a
    simp only [E.code, List.length_append, List.length_cons, List.length_nil, h2, E.sz]
theorem Es.code_len (pl : Plc) : ∀ (es : Es) (a : Nat), (es.code pl a).length = es.sz
  | .nil, _ => rfl
  | .cons e es, a => by
    have h1 := E.code_len pl e a
    have h2 := Es.code_len pl es (a + e.sz)
    simp only [Es.code, List.length_append, h1, h2, Es.sz]
end
mutual
theorem S.code_len (pl : Plc) : ∀ (s : S) (a : Nat), (s.code pl a).length = s.sz
  | .letS x k e, a => by simp only [S.code, List.length_append, List.length_cons, List.length_nil, E.code_len, S.sz]
  | .setS x e, a => by simp only [S.code, List.length_append, List.length_cons, List.length_nil, E.code_len, S.sz]
  | .ifS e b .nil, a => by
    have h := Ss.code_len pl b (a + e.sz + 1)
    simp only [S.code, List.length_append, List.length_cons, List.length_nil, E.code_len, h, S.sz, Ss.sz]
    omega
  | .ifS e b (.cons s ss), a => by
    have h := Ss.code_len pl b (a + e.sz + 1)
    have h1 := S.code_len pl s (a + e.sz + 1 + b.sz + 1)
    have h2 := Ss.code_len pl ss (a + e.sz + 1 + b.sz + 1 + s.sz)
    simp only [S.code, List.length_append, List.length_cons, List.length_nil, E.code_len, h, h1, h2, S.sz, Ss.sz]
  | .whileS e b, a => by
    have h := Ss.code_len pl b (a + e.sz + 1)
    simp only [S.code, List.length_append, List.length_cons, List.length_nil, E.code_len, h, S.sz]
    omega
  | .doS e, a => by simp only [S.code, List.length_append, List.length_cons, List.length_nil, E.code_len, S.sz]
  | .fork r f as, a => by simp only [S.code, List.length_append, List.length_cons, List.length_nil, E.code_len, Es.code_len, S.sz]
  | .plain w as, a => by simp only [S.code, List.length_append, List.length_cons, List.length_nil, Es.code_len, S.sz]
theorem Ss.code_len (pl : Plc) : ∀ (ss : Ss) (a : Nat), (ss.code pl a).length = ss.sz
  | .nil, _ => rfl
  | .cons s ss, a => by
    have h1 := S.code_len pl s a
    have h2 := Ss.code_len pl ss (a + s.sz)
    simp only [Ss.code, List.length_append, h1, h2, Ss.sz]
end
/-! ### rows of expressions, of statements, taken to a place -/
def Es.take : Es → Nat → Es
  | _, 0 => .nil
  | .nil, _ + 1 => .nil
  | .cons e es, n + 1 => .cons e (es.take n)
def Ss.take : Ss → Nat → Ss
  | _, 0 => .nil
  | .nil, _ + 1 => .nil
  | .cons e es, n + 1 => .cons e (es.take n)
theorem Es.take_next {pl : Plc} : ∀ {es : Es} {i : Nat} {e : E} (a : Nat), es.list[i]? = some e → (es.take (i + 1)).code pl a = (es.take i).code pl a ++ e.code pl (a + (es.take i).sz) ∧ (es.take (i + 1)).sz = (es.take i).sz + e.sz
  | .cons e es, 0, _, a, h => by
    cases h
    constructor
    · show e.code pl a ++ (es.take 0).code pl (a + e.sz) = [] ++ e.code pl (a + 0)
      cases es <;> simp [Es.take, Es.code]
    · show e.sz + (es.take 0).sz = 0 + e.sz
      cases es <;> simp [Es.take, Es.sz]
  | .cons e es, i + 1, f, a, h => by
    have ih := Es.take_next (pl := pl) (es := es) (i := i) (e := f) (a + e.sz) h
    constructor
    · show e.code pl a ++ (es.take (i + 1)).code pl (a + e.sz) = (e.code pl a ++ (es.take i).code pl (a + e.sz)) ++ f.code pl (a + (e.sz + (es.take i).sz))
      rw [ih.1, List.append_assoc, Nat.add_assoc a]
    · show e.sz + (es.take (i + 1)).sz = e.sz + (es.take i).sz + f.sz
      rw [ih.2]
      omega
  | .nil, i, _, _, h => by cases h
theorem Es.take_all : ∀ es : Es, es.take es.list.length = es
  | .nil => rfl
  | .cons e es => congrArg (Es.cons e) (Es.take_all es)
theorem Es.take_sz : ∀ (es : Es) (i : Nat), (es.take i).sz ≤ es.sz
  | es, 0 => by cases es <;> exact Nat.zero_le _
  | .nil, _ + 1 => Nat.le_refl _
  | .cons e es, i + 1 => Nat.add_le_add_left (Es.take_sz es i) _
theorem Ss.take_next {pl : Plc} : ∀ {es : Ss} {i : Nat} {e : S} (a : Nat), es.list[i]? = some e → (es.take (i + 1)).code pl a = (es.take i).code pl a ++ e.code pl (a + (es.take i).sz) ∧ (es.take (i + 1)).sz = (es.take i).sz + e.sz
  | .cons e es, 0, _, a, h => by
    cases h
    constructor
    · show e.code pl a ++ (es.take 0).code pl (a + e.sz) = [] ++ e.code pl (a + 0)
      cases es <;> simp [Ss.take, Ss.code]
    · show e.sz + (es.take 0).sz = 0 + e.sz
      cases es <;> simp [Ss.take, Ss.sz]
  | .cons e es, i + 1, f, a, h => by
    have ih := Ss.take_next (pl := pl) (es := es) (i := i) (e := f) (a + e.sz) h
    constructor
    · show e.code pl a ++ (es.take (i + 1)).code pl (a + e.sz) = (e.code pl a ++ (es.take i).code pl (a + e.sz)) ++ f.code pl (a + (e.sz + (es.take i).sz))
      rw [ih.1, List.append_assoc, Nat.add_assoc a]
    · show e.sz + (es.take (i + 1)).sz = e.sz + (es.take i).sz + f.sz
      rw [ih.2]
      omega
  | .nil, i, _, _, h => by cases h
theorem Ss.take_all : ∀ es : Ss, es.take es.list.length = es
  | .nil => rfl
  | .cons e es => congrArg (Ss.cons e) (Ss.take_all es)
theorem Ss.take_sz : ∀ (es : Ss) (i : Nat), (es.take i).sz ≤ es.sz
  | es, 0 => by cases es <;> exact Nat.zero_le _
  | .nil, _ + 1 => Nat.le_refl _
  | .cons e es, i + 1 => Nat.add_le_add_left (Ss.take_sz es i) _
/-- the parts of a row -/
theorem Es.part : ∀ {es : Es} {e : E}, e ∈ es.list → (es.wf = true → e.wf = true) ∧ (∀ x ∈ e.uses, x ∈ es.uses) ∧ e.dep ≤ es.dep ∧ e.sz ≤ es.sz
  | .cons f fs, e, h => by
    rcases List.mem_cons.mp (show e ∈ f :: fs.list from h) with rfl | h
    · exact ⟨fun w => (Bool.and_eq_true_iff.mp w).1, fun x hx => List.mem_append_left _ hx, Nat.le_max_left _ _, Nat.le_add_right _ _⟩
    · obtain ⟨h1, h2, h3, h4⟩ := Es.part h
      exact ⟨fun w => h1 (Bool.and_eq_true_iff.mp w).2, fun x hx => List.mem_append_right _ (h2 x hx), Nat.le_trans h3 (Nat.le_max_right _ _), Nat.le_trans h4 (Nat.le_add_left _ _)⟩
  | .nil, _, h => by cases h
theorem Ss.part : ∀ {es : Ss} {e : S}, e ∈ es.list → (es.wf = true → e.wf = true) ∧ (∀ x ∈ e.uses, x ∈ es.uses) ∧ e.dep ≤ es.dep ∧ e.sz ≤ es.sz
  | .cons f fs, e, h => by
    rcases List.mem_cons.mp (show e ∈ f :: fs.list from h) with rfl | h
    · exact ⟨fun w => (Bool.and_eq_true_iff.mp w).1, fun x hx => List.mem_append_left _ hx, Nat.le_max_left _ _, Nat.le_add_right _ _⟩
    · obtain ⟨h1, h2, h3, h4⟩ := Ss.part h
      exact ⟨fun w => h1 (Bool.and_eq_true_iff.mp w).2, fun x hx => List.mem_append_right _ (h2 x hx), Nat.le_trans h3 (Nat.le_max_right _ _), Nat.le_trans h4 (Nat.le_add_left _ _)⟩
  | .nil, _, h => by cases h
theorem Rps.at_E {K : PySem.W.Frag} {H : Hp} {vs : List V} {es : Es} {i : Nat} {v : V} (r : Rps K H vs es.ds) (h : vs[i]? = some v) : ∃ e, es.list[i]? = some e ∧ Rp K H v e.d := by
  rw [Es.list_ds] at r
  have hl := r.len
  rw [List.length_map] at hl
  have hi : i < es.list.length := by
    rw [← hl]
    exact (List.getElem?_eq_some_iff.mp h).1
  have e1 : es.list[i]? = some es.list[i] := List.getElem?_eq_getElem hi
  obtain ⟨u, hu, ru⟩ := r.at_ (i := i) (d := es.list[i].d) (by rw [List.getElem?_map, e1]; rfl)
  rw [h] at hu
  cases hu
  exact ⟨_, e1, ru⟩
theorem Rps.at_S {K : PySem.W.Frag} {H : Hp} {vs : List V} {es : Ss} {i : Nat} {v : V} (r : Rps K H vs es.ds) (h : vs[i]? = some v) : ∃ e, es.list[i]? = some e ∧ Rp K H v e.d := by
  rw [Ss.list_ds] at r
  have hl := r.len
  rw [List.length_map] at hl
  have hi : i < es.list.length := by
    rw [← hl]
    exact (List.getElem?_eq_some_iff.mp h).1
  have e1 : es.list[i]? = some es.list[i] := List.getElem?_eq_getElem hi
  obtain ⟨u, hu, ru⟩ := r.at_ (i := i) (d := es.list[i].d) (by rw [List.getElem?_map, e1]; rfl)
  rw [h] at hu
  cases hu
  exact ⟨_, e1, ru⟩
/-- an item of a tuple of data -/
theorem ix_rp {K : PySem.W.Frag} {H : Hp} {x : V} {ds : List PyData} {i : Nat} {d : PyData} {Q : VK} (hx : Rp K H x (.tuple ds)) (hi : ds[i]? = some d) (h : ∀ v, Rp K H v d → Q v H) : rIxT K x (.int (i : Nat)) H Q := by
  obtain ⟨a, xs, rfl, ha, hxs⟩ := hx.tup_inv
  obtain ⟨v, hv, rv⟩ := hxs.at_ hi
  exact ⟨a, xs, _, v, rfl, rfl, ha, atI_nat hv, h v rv⟩
theorem len_rp {K : PySem.W.Frag} {H : Hp} {x : V} {ds : List PyData} (hx : Rp K H x (.tuple ds)) : ∃ a xs, x = .ref a ∧ SqT K H a xs ∧ xs.length = ds.length := by
  obtain ⟨a, xs, rfl, ha, hxs⟩ := hx.tup_inv
  exact ⟨a, xs, rfl, ha, hxs.len⟩
/-- where the names are kept: a dict of places -/
def PlAt (K : PySem.W.Frag) (H : Hp) (nd : Addr) (pl : Plc) (N : List Str) : Prop := ∃ kvs, H nd = some (.dK kvs) ∧ ∀ x ∈ N, (pl x).1.length ≤ 1000 ∧ ∃ v, valV kvs (.inr x : Key) = some v ∧ Rp K H v (.tuple [.str (pl x).1, .int (pl x).2])
theorem PlAt.same {K : PySem.W.Frag} {H H' : Hp} {nd : Addr} {pl : Plc} {N : List Str} (p : PlAt K H nd pl N) (s : Same H H') : PlAt K H' nd pl N := by
  obtain ⟨kvs, h, q⟩ := p
  exact ⟨kvs, s _ _ h, fun x hx => ⟨(q x hx).1, by
    obtain ⟨v, h1, h2⟩ := (q x hx).2
    exact ⟨v, h1, h2.keep (Same.tups s)⟩⟩⟩
end Pt

set_option Elab.async false
set_option linter.all false
set_option maxRecDepth 100000
set_option maxHeartbeats 4000000
/-! Dicts whose keys are tuples of any depth (names of processes, of objects): {}, d[k], d[k] = v, del d[k], k in d, d.get. -/
namespace ND
open PySem PySem.W PySem.Spec PyProof.Rows L2 Pt

/-- tuples stay -/
abbrev TK (K : PySem.W.Frag) (H H' : Hp) : Prop := ∀ c xs, SqT K H c xs → SqT K H' c xs
theorem TK.refl {K : PySem.W.Frag} {H : Hp} : TK K H H := fun _ _ h => h
theorem TK.trans {K : PySem.W.Frag} {H H1 H2 : Hp} (a : TK K H H1) (b : TK K H1 H2) : TK K H H2 := fun c xs h => b c xs (a c xs h)
theorem TK.same {K : PySem.W.Frag} {H H' : Hp} (s : Same H H') : TK K H H' := fun _ _ h => Cm.sameT s h
theorem TK.of {K : PySem.W.Frag} {H H' : Hp} (t : Tups H H') : TK K H H' := fun _ _ h => t.sqt h
/-- what may be written is no tuple -/
theorem TK.upd {K : PySem.W.Frag} {H : Hp} {a : Addr} {o : HO} (m : Mut (H a)) : TK K H (upd H a o) := fun c xs h => by
  rcases h with (h | ⟨u, h⟩) | h
  · refine .inl (.inl ?_)
    rw [upd_ne fun z => by subst z; rw [h] at m; exact m]
    exact h
  · refine .inl (.inr ⟨u, ?_⟩)
    rw [upd_ne fun z => by subst z; rw [h] at m; exact m]
    exact h
  · exact .inr h
mutual
theorem rp_keep {K : PySem.W.Frag} {H H' : Hp} (k : TK K H H') : ∀ {v : V} {d : PyData}, Rp K H v d → Rp K H' v d
  | _, _, .non => .non
  | _, _, .bl b => .bl b
  | _, _, .int i => .int i
  | _, _, .str x => .str x
  | _, _, .tup h r => .tup (k _ _ h) (rps_keep k r)
theorem rps_keep {K : PySem.W.Frag} {H H' : Hp} (k : TK K H H') : ∀ {vs : List V} {ds : List PyData}, Rps K H vs ds → Rps K H' vs ds
  | _, _, .nil => .nil
  | _, _, .cons h r => .cons (rp_keep k h) (rps_keep k r)
end
/-- the value v is the key k -/
def KeyAt (K : PySem.W.Frag) (H : Hp) (v : V) (k : NestedKey) : Prop := Rp K H v k.data ∧ k.depth ≤ 8 ∧ ∃ ks, k = .tup ks
theorem KeyAt.keep {K : PySem.W.Frag} {H H' : Hp} {v : V} {k : NestedKey} (t : TK K H H') (h : KeyAt K H v k) : KeyAt K H' v k := ⟨rp_keep t h.1, h.2⟩
theorem KeyAt.ref {K : PySem.W.Frag} {H : Hp} {v : V} {k : NestedKey} (h : KeyAt K H v k) : ∃ b, v = .ref b := by
  obtain ⟨r, _, ks, rfl⟩ := h
  obtain ⟨a, xs, rfl, _⟩ := r.tup_inv
  exact ⟨a, rfl⟩
section
variable {X : Cx} {pins : List (Addr × Obj)} {σ : L2.St} {H : Hp} {s : Shared}
mutual
theorem is_of (I : Inv X pins σ H s) : ∀ (k : NestedKey) (v : V) (u : Value), Rp X.K H v k.data → RelV v u → NestedIs s.heap k u
  | .none, v, u, r, ru => by
    simp only [NestedKey.data] at r
    cases r
    cases ru
    exact .none
  | .num i, v, u, r, ru => by
    simp only [NestedKey.data] at r
    cases r
    obtain ⟨t, rfl⟩ := ru
    exact .int _ _
  | .text x, v, u, r, ru => by
    simp only [NestedKey.data] at r
    cases r
    obtain ⟨t, rfl⟩ := ru
    exact .text _ _
  | .tup ks, v, u, r, ru => by
    simp only [NestedKey.data] at r
    obtain ⟨a, vs, rfl, ha, hvs⟩ := r.tup_inv
    cases ru
    obtain ⟨its, rv, ⟨o, ho, hc, n, hd⟩, hz⟩ := I.tuple ha
    exact .tup ho hc hd (by simpa using all_of I ks vs its hvs rv)
theorem all_of (I : Inv X pins σ H s) : ∀ (ks : List NestedKey) (vs : List V) (us : List Value), Rps X.K H vs (NestedKey.datas ks) → Vals vs us → NestedAll s.heap ks us
  | [], vs, us, r, ru => by
    simp only [NestedKey.datas] at r
    cases r
    cases ru
    exact .nil
  | k :: ks, vs, us, r, ru => by
    simp only [NestedKey.datas] at r
    cases r with
    | cons h t =>
      cases ru with
      | cons h' t' => exact .cons (is_of I k _ _ h h') (all_of I ks _ _ t t')
end
theorem key_of (I : Inv X pins σ H s) {b : Addr} {k : NestedKey} (h : KeyAt X.K H (.ref b) k) : (nestedKind X.prog X.w).is s.heap k b := ⟨is_of I k _ _ h.1 rfl, h.2.1⟩
end

/-- the dict at a holds xs -/
def ndO (P : Program) (w : World) (xs : List (NestedKey × Addr × Value)) (a : Addr) : HO := .ext fun h => (a == sysModules) = false ∧ xs.length ≤ sizeLine ∧
  ∃ o es ep, h.get? a = some o ∧ o.ExactDict ∧ o.data = .dict es ep ∧ es.toList = xs.map (entryOfKey (nestedKind P w)) ∧ (xs.map (·.1)).Nodup
abbrev KN (K : PySem.W.Frag) (H : Hp) : List (NestedKey × V) → List (NestedKey × Addr × Value) → Prop := Paired fun p q => p.1 = q.1 ∧ KeyAt K H (.ref q.2.1) p.1 ∧ RelV p.2 q.2.2
/-- at a stands a dict with these entries -/
def NDct (P : Program) (w : World) (K : PySem.W.Frag) (H : Hp) (a : Addr) (kvs : List (NestedKey × V)) : Prop := ∃ xs, H a = some (ndO P w xs a) ∧ KN K H kvs xs
section
variable {P : Program} {w : World} {K : PySem.W.Frag} {H H' : Hp} {a : Addr} {kvs : List (NestedKey × V)}
theorem KN.keep (t : TK K H H') {xs : List (NestedKey × Addr × Value)} (h : KN K H kvs xs) : KN K H' kvs xs := Paired.mapP h fun _ _ z => ⟨z.1, z.2.1.keep t, z.2.2⟩
theorem NDct.keep (t : TK K H H') (e : H' a = H a) (h : NDct P w K H a kvs) : NDct P w K H' a kvs := by
  obtain ⟨xs, h1, h2⟩ := h
  exact ⟨xs, e.trans h1, KN.keep t h2⟩
theorem NDct.same (t : Same H H') (h : NDct P w K H a kvs) : NDct P w K H' a kvs := by
  obtain ⟨xs, h1, h2⟩ := h
  exact ⟨xs, t _ _ h1, KN.keep (TK.same t) h2⟩
theorem NDct.some (h : NDct P w K H a kvs) : ∃ o, H a = some o ∧ (∀ xs, o ≠ .lst xs) ∧ (∀ xs, o ≠ .tup xs) ∧ Mut (H a) := by
  obtain ⟨xs, h1, h2⟩ := h
  exact ⟨_, h1, (fun _ z => nomatch z), (fun _ z => nomatch z), by rw [h1]; exact True.intro⟩
theorem KN.val {xs : List (NestedKey × Addr × Value)} (r : KN K H kvs xs) (k : NestedKey) : RelO (valV kvs k) ((atKey xs k).map (·.2)) := by
  induction r with
  | nil => exact True.intro
  | @cons p q ps qs h t ih =>
    obtain ⟨h1, _, h2⟩ := h
    by_cases e : p.1 = k
    · have e' : q.1 = k := h1.symm.trans e
      have b : atKey (q :: qs) k = some q.2 := by simp [atKey, List.find?_cons, e']
      rw [valV_pos e, b]; exact h2
    · have e' : ¬ q.1 = k := fun z => e (h1.trans z)
      have b : atKey (q :: qs) k = atKey qs k := by simp [atKey, List.find?_cons, e']
      rw [valV_neg e, b]; exact ih
theorem KN.repl {xs : List (NestedKey × Addr × Value)} (r : KN K H kvs xs) (k : NestedKey) {y : V} {u : Value} (ry : RelV y u) :
    KN K H (kvs.map fun kv => if kv.1 = k then (kv.1, y) else kv) (xs.map (putAt k u)) := by
  induction r with
  | nil => exact .nil
  | @cons p q ps qs h t ih =>
    rw [List.map_cons, List.map_cons]
    refine .cons ?_ ih
    obtain ⟨h1, h2, h3⟩ := h
    unfold putAt
    by_cases e : p.1 = k
    · rw [if_pos e, if_pos (h1.symm.trans e)]; exact ⟨h1, h2, ry⟩
    · rw [if_neg e, if_neg (fun z => e (h1.trans z))]; exact ⟨h1, h2, h3⟩
theorem KN.put {xs : List (NestedKey × Addr × Value)} (r : KN K H kvs xs) (k : NestedKey) {b : Addr} {y : V} {u : Value} (hb : KeyAt K H (.ref b) k) (ry : RelV y u) :
    KN K H (putK kvs k y) (storedH xs k b u) := by
  have e : (kvs.any fun kv => decide (kv.1 = k)) = (atKey xs k).isSome := by
    rw [valV_any, (r.val k).isSome_eq, Option.isSome_map]
  unfold putK storedH
  rw [e]
  by_cases q : (atKey xs k).isSome = true
  · rw [if_pos q, if_pos q]; exact r.repl k ry
  · rw [if_neg q, if_neg q]; exact Paired.snoc r ⟨rfl, hb, ry⟩
theorem KN.drop {xs : List (NestedKey × Addr × Value)} (r : KN K H kvs xs) (k : NestedKey) : KN K H (dropK kvs k) (withoutH xs k) := by
  induction r with
  | nil => exact .nil
  | @cons p q ps qs h t ih =>
    obtain ⟨h1, h2, h3⟩ := h
    unfold dropK withoutH at ih ⊢
    rw [List.filter_cons, List.filter_cons]
    by_cases e : p.1 = k
    · have e' : q.1 = k := h1.symm.trans e
      simp only [e, e', decide_true, Bool.not_true, ne_eq, not_true_eq_false, decide_false, Bool.false_eq_true, if_false]
      exact ih
    · have e' : ¬ q.1 = k := fun z => e (h1.trans z)
      simp only [e, e', decide_false, Bool.not_false, ne_eq, not_false_eq_true, decide_true, if_true]
      exact .cons ⟨h1, h2, h3⟩ ih
end

section
variable {X : Cx} {pins : List (Addr × Obj)} {σ : L2.St} {H : Hp} {s : Shared} {a b : Addr} {v : V} {u r : Value} {k : NestedKey} {kvs : List (NestedKey × V)} {A : Around} {E : Value → Shared → Prop}
theorem nd_of (I : Inv X pins σ H s) (g : NDct X.prog X.w X.K H a kvs) : kvs.length ≤ sizeLine ∧ (a == sysModules) = false ∧ ∃ xs, H a = some (ndO X.prog X.w xs a) ∧ KN X.K H kvs xs ∧ s.heap.DictOfH (nestedKind X.prog X.w) a xs := by
  obtain ⟨xs, e, r⟩ := g
  obtain ⟨⟨hd, hz, o, es, ep, h1, h2, h3, h4, h5⟩, _⟩ := (show ObjOk X.prog X.w H s.heap a (ndO X.prog X.w xs a) from I.hok a _ e)
  refine ⟨by rw [Paired.length r]; exact hz, hd, xs, e, r, o, es, ep, h1, h2, h3, h4, fun x hx => ?_, h5⟩
  have all : ∀ {l : List (NestedKey × V)} {m : List (NestedKey × Addr × Value)}, KN X.K H l m → ∀ x ∈ m, (nestedKind X.prog X.w).is s.heap x.1 x.2.1 := by
    intro l m q
    induction q with
    | nil => intro x hx; exact nomatch hx
    | @cons p q ps qs hq t ih =>
      intro x hx
      rcases List.mem_cons.mp hx with e | hx
      · subst e
        exact key_of I (by rw [← hq.1]; exact hq.2.1)
      · exact ih x hx
  exact all r x hx
theorem nd_ok {P : Program} {w : World} {H' : Hp} {h' : Heap} {xs : List (NestedKey × Addr × Value)} (hd : (a == sysModules) = false) (hz : xs.length ≤ sizeLine) (dd : h'.DictOfH (nestedKind P w) a xs) :
    ObjOk P w H' h' a (ndO P w xs a) := by
  obtain ⟨o, es, ep, h1, h2, h3, h4, _, h5⟩ := dd
  exact ⟨⟨hd, hz, o, es, ep, h1, h2, h3, h4, h5⟩, ⟨o, h1⟩, fun g1 g2 ⟨q1, q2, o', es', ep', p1, p⟩ k => ⟨q1, q2, o', es', ep', k _ p1, p⟩⟩
theorem nd_type (I : Inv X pins σ H s) (g : NDct X.prog X.w X.K H a kvs) : s.TypeIs (.ref a) "dict" ∧ (∀ b, Value.ref a = .ref b → ∃ ob, s.heap.get? b = some ob ∧ ob.dict = none) := by
  obtain ⟨_, _, xs, _, _, dd⟩ := nd_of I g
  refine ⟨dd.typeIs, fun b q => ?_⟩
  cases q
  obtain ⟨ob, _, _, h1, h2, _⟩ := dd
  exact ⟨ob, h1, h2.2.1⟩
theorem nd_getItem {Q : Value → Shared → Prop} (hu : A.units + 9 < cLine) (I : Inv X pins σ H s) (g : NDct X.prog X.w X.K H a kvs) (ky : KeyAt X.K H (.ref b) k) (l : valV kvs k = some v) (h : ∀ w' s', Inv X pins σ H s' → RelV v w' → Q w' s') :
    wpAny (model X.prog X.w) A (getItem (.ref a) (.ref b)) Q E s := by
  obtain ⟨_, _, xs, _, rel, dd⟩ := nd_of I g
  obtain ⟨w', hw, rw'⟩ := RelO.some_of (v := v) (o := (atKey xs k).map (·.2)) (by rw [← l]; exact rel.val k)
  obtain ⟨p, hp, hp2⟩ := Option.map_eq_some_iff.mp hw
  refine wpAny_getItem_heap (show A.in1.units + 8 < cLine by rw [Around.in1_units]; omega) (key_of I ky) dd hp ?_
  rw [hp2]
  exact h w' _ (I.tok _) rw'
theorem nd_in {Q : Value → Shared → Prop} (hu : A.units + 9 < cLine) (I : Inv X pins σ H s) (g : NDct X.prog X.w X.K H a kvs) (ky : KeyAt X.K H (.ref b) k) (h : ∀ s', Inv X pins σ H s' → Q (.bool (valV kvs k).isSome) s') :
    wpAny (model X.prog X.w) A (compareOp .In (.ref b) (.ref a)) Q E s := by
  obtain ⟨_, hd, xs, _, rel, dd⟩ := nd_of I g
  refine wpAny_in_heap (show A.in1.units + 8 < cLine by rw [Around.in1_units]; omega) (key_of I ky) hd dd ?_
  have q := (rel.val k).isSome_eq
  rw [Option.isSome_map] at q
  rw [← q]
  exact h _ (I.tok _)
theorem nd_notIn {Q : Value → Shared → Prop} (hu : A.units + 9 < cLine) (I : Inv X pins σ H s) (g : NDct X.prog X.w X.K H a kvs) (ky : KeyAt X.K H (.ref b) k) (h : ∀ s', Inv X pins σ H s' → Q (.bool (!(valV kvs k).isSome)) s') :
    wpAny (model X.prog X.w) A (compareOp .NotIn (.ref b) (.ref a)) Q E s := by
  obtain ⟨_, hd, xs, _, rel, dd⟩ := nd_of I g
  refine wpAny_notIn_heap (show A.in1.units + 8 < cLine by rw [Around.in1_units]; omega) (key_of I ky) hd dd ?_
  have q := (rel.val k).isSome_eq
  rw [Option.isSome_map] at q
  rw [← q]
  exact h _ (I.tok _)
theorem nd_get1 {Q : Value → Shared → Prop} (hu : A.units + 9 < cLine) (I : Inv X pins σ H s) (g : NDct X.prog X.w X.K H a kvs) (ky : KeyAt X.K H (.ref b) k) (h : ∀ w' s', Inv X pins σ H s' → RelV ((valV kvs k).getD .non) w' → Q w' s') :
    wpAny (model X.prog X.w) A (call (.builtin "dict.get") [.ref a, .ref b]) Q E s := by
  obtain ⟨_, hd, xs, _, rel, dd⟩ := nd_of I g
  refine call_meetsIn PySem.F.slot_dict_get dd.typeIs PySem.F.entry_dict_get (PySem.F.args_dict_get_2 _ _) (meetsH_dict_get (nestedKind X.prog X.w) a b hd) ⟨show A.in1.units + 8 < cLine by rw [Around.in1_units]; omega, k, xs, key_of I ky, dd, h _ _ (I.tok _) ?_⟩
  exact (rel.val k).getD rfl
theorem nd_get2 {d : V} {Q : Value → Shared → Prop} (hu : A.units + 9 < cLine) (I : Inv X pins σ H s) (g : NDct X.prog X.w X.K H a kvs) (ky : KeyAt X.K H (.ref b) k) (rd : RelV d r) (h : ∀ w' s', Inv X pins σ H s' → RelV ((valV kvs k).getD d) w' → Q w' s') :
    wpAny (model X.prog X.w) A (call (.builtin "dict.get") [.ref a, .ref b, r]) Q E s := by
  obtain ⟨_, hd, xs, _, rel, dd⟩ := nd_of I g
  refine call_meetsIn PySem.F.slot_dict_get dd.typeIs PySem.F.entry_dict_get (PySem.F.args_dict_get_3 _ _ _) (meetsH_dict_get_default (nestedKind X.prog X.w) a b hd r) ⟨show A.in1.units + 8 < cLine by rw [Around.in1_units]; omega, k, xs, key_of I ky, dd, h _ _ (I.tok _) ?_⟩
  exact (rel.val k).getD rd
/-- d[k] = v -/
theorem nd_setItem {Q : Unit → Shared → Prop} (hu : A.units + 9 < cLine) (I : Inv X pins σ H s) (g : NDct X.prog X.w X.K H a kvs) (ky : KeyAt X.K H (.ref b) k) (hl : kvs.length < sizeLine) (rv : RelV v r)
    (h : ∀ o s', NDct X.prog X.w X.K (upd H a o) a (putK kvs k v) → Inv X pins σ (upd H a o) s' → Q () s') :
    wpAny (model X.prog X.w) A (setItem (.ref a) (.ref b) r) Q E s := by
  obtain ⟨_, hd, xs, e, rel, dd⟩ := nd_of I g
  have hz : xs.length ≤ sizeLine := by rw [← Paired.length rel]; omega
  refine wpAny_setItem_heap (hsz := hz) (show A.in1.units + 8 < cLine by rw [Around.in1_units]; omega) (key_of I ky) dd fun h' dd' hs => ?_
  have rel' := rel.put k ky rv
  have hz' : (storedH xs k b r).length ≤ sizeLine := by
    rw [← Paired.length rel']
    have := length_putK kvs k v
    omega
  have he : ∃ q, h'.get? a = some q := let ⟨q, _, _, hq, _⟩ := dd'; ⟨q, hq⟩
  exact h (ndO X.prog X.w (storedH xs k b r) a) _ ⟨_, upd_same, KN.keep (TK.upd (H := H) (a := a) (by rw [e]; exact True.intro)) rel'⟩ (d_write I (by rw [e]; exact True.intro) hs he (nd_ok hd hz' dd'))
/-- del d[k] -/
theorem nd_delItem {Q : Unit → Shared → Prop} (hu : A.units + 9 < cLine) (I : Inv X pins σ H s) (g : NDct X.prog X.w X.K H a kvs) (ky : KeyAt X.K H (.ref b) k) (l : (valV kvs k).isSome = true)
    (h : ∀ o s', NDct X.prog X.w X.K (upd H a o) a (dropK kvs k) → Inv X pins σ (upd H a o) s' → Q () s') :
    wpAny (model X.prog X.w) A (delItem (.ref a) (.ref b)) Q E s := by
  obtain ⟨hl, hd, xs, e, rel, dd⟩ := nd_of I g
  have hz : xs.length ≤ sizeLine := by rw [← Paired.length rel]; exact hl
  have q := (rel.val k).isSome_eq
  rw [Option.isSome_map, l] at q
  obtain ⟨p, hp⟩ := Option.isSome_iff_exists.mp q.symm
  refine wpAny_delItem_heap (hsz := hz) (show A.in1.units + 8 < cLine by rw [Around.in1_units]; omega) (key_of I ky) hd dd hp fun h' dd' hs => ?_
  have rel' := rel.drop k
  have hz' : (withoutH xs k).length ≤ sizeLine := Nat.le_trans (by unfold withoutH; exact List.length_filter_le _ _) hz
  have he : ∃ q, h'.get? a = some q := let ⟨q, _, _, hq, _⟩ := dd'; ⟨q, hq⟩
  exact h (ndO X.prog X.w (withoutH xs k) a) _ ⟨_, upd_same, KN.keep (TK.upd (H := H) (a := a) (by rw [e]; exact True.intro)) rel'⟩ (d_write I (by rw [e]; exact True.intro) hs he (nd_ok hd hz' dd'))
end

/-! ### readings and rules -/
section
variable (P : Program) (w : World) (K : PySem.W.Frag)
/-- {} -/
def tNNew : TE := fun _ H Q => ∀ p o, H p = none → NDct P w K (upd H p o) p [] → Q (.ref p) (upd H p o)
/-- d[y] -/
def tNGet (td ty : TE) : TE := fun σ H Q => td σ H fun x H1 => ty σ H1 fun y H2 => ∃ a kvs k v, x = .ref a ∧ NDct P w K H2 a kvs ∧ KeyAt K H2 y k ∧ valV kvs k = some v ∧ Q v H2
/-- y in d, y not in d -/
def tNIn (neg : Bool) (ty td : TE) : TE := fun σ H Q => ty σ H fun y H1 => td σ H1 fun x H2 => ∃ a kvs k, x = .ref a ∧ NDct P w K H2 a kvs ∧ KeyAt K H2 y k ∧ Q (.bl (if neg then !(valV kvs k).isSome else (valV kvs k).isSome)) H2
/-- d.get(y), d.get(y, z) -/
def tNGet1 (td ty : TE) : TE := fun σ H Q => td σ H fun x H1 => ∃ a kvs, x = .ref a ∧ NDct P w K H1 a kvs ∧ ty σ H1 fun y H2 => ∃ kvs k, NDct P w K H2 a kvs ∧ KeyAt K H2 y k ∧ Q ((valV kvs k).getD .non) H2
def tNGet2 (td ty tz : TE) : TE := fun σ H Q => td σ H fun x H1 => ∃ a kvs, x = .ref a ∧ NDct P w K H1 a kvs ∧ ty σ H1 fun y H2 => tz σ H2 fun z H3 => ∃ kvs k, NDct P w K H3 a kvs ∧ KeyAt K H3 y k ∧ Q ((valV kvs k).getD z) H3
/-- d[y] = v -/
def sNPut (td ty tv : TE) : TS := fun D σ H => tv σ H fun v H1 => td σ H1 fun x H2 => ty σ H2 fun y H3 => ∃ a kvs k, x = .ref a ∧ NDct P w K H3 a kvs ∧ KeyAt K H3 y k ∧ kvs.length < sizeLine ∧
  ∀ o, NDct P w K (upd H3 a o) a (putK kvs k v) → D.nx σ (upd H3 a o)
/-- del d[y] -/
def sNDel (td ty : TE) : TS := fun D σ H => td σ H fun x H1 => ty σ H1 fun y H2 => ∃ a kvs k, x = .ref a ∧ NDct P w K H2 a kvs ∧ KeyAt K H2 y k ∧ (valV kvs k).isSome = true ∧
  ∀ o, NDct P w K (upd H2 a o) a (dropK kvs k) → D.nx σ (upd H2 a o)
end
section
variable {X : Cx} {o i e f value : Expr} {pos pos' tpos apos cpos : Pos} {td ty tv tz : TE}
theorem pe_nnew : PE X (.Dict [] [] pos) (tNNew X.prog X.w X.K) := ⟨fun pins s σ H Q I h => by
  have hb := I.big
  have ok : ObjOk X.prog X.w (upd H s.heap.objs.size (ndO X.prog X.w [] s.heap.objs.size)) (s.heap.push { cls := .type "dict", data := .dict #[] }) s.heap.objs.size (ndO X.prog X.w [] s.heap.objs.size) :=
    nd_ok (beq_eq_false_iff_ne.mpr (Ne.symm (Nat.ne_of_lt hb))) (Nat.zero_le _) ⟨_, #[], 0, Heap.get?_push_size _ rfl, ⟨rfl, rfl, rfl⟩, rfl, rfl, (fun x hx => nomatch hx), List.nodup_nil⟩
  exact wpAny_Dict_empty ⟨.ref s.heap.objs.size, _, I.laid (a := s.heap.objs.size) (o := ndO X.prog X.w [] s.heap.objs.size) (t' := s.toks) (fun _ _ q => Heap.get?_push_of_some _ q) (Nat.le_refl _) ok, rfl, h _ _ (I.hok.fresh (Nat.le_refl _)) ⟨[], upd_same, .nil⟩⟩⟩
theorem pe_nget (hu : X.A.units + 9 < cLine) (ho : PE X o td) (hi : PE X i ty) (hs : NoSl i) : PE X (.Subscript o i pos) (tNGet X.prog X.w X.K td ty) := by
  refine ⟨fun pins s σ H Q I h => ?_⟩
  refine subD_of PySem.F.slot_dict_getitem.lookup hs (thn (ho.run pins s σ H _ I h) fun u s1 ⟨x, H1, I1, rx, q1⟩ => thn (hi.run pins s1 σ H1 _ I1 q1) fun iv s2 ⟨y, H2, I2, ry, a, kvs, k, v, ex, g, ky, l, q2⟩ => ?_)
  subst ex
  obtain rfl : u = Value.ref a := rx
  obtain ⟨b, rfl⟩ := ky.ref
  obtain rfl : iv = Value.ref b := ry
  exact ⟨(nd_type I2 g).1, nd_getItem hu I2 g ky l fun w' s3 I3 rw' => ⟨v, H2, I3, rw', q2⟩⟩
theorem pc_nin (hu : X.A.units + 9 < cLine) (hi : PE X i ty) (ho : PE X o td) : PC X .In i o (tNIn X.prog X.w X.K false ty td) := by
  refine ⟨fun pins s σ H Q I h => ?_⟩
  refine thn (hi.run pins s σ H _ I h) fun iv s1 ⟨y, H1, I1, ry, q1⟩ => thn (ho.run pins s1 σ H1 _ I1 q1) fun u s2 ⟨x, H2, I2, rx, a, kvs, k, ex, g, ky, q2⟩ => ?_
  subst ex
  obtain rfl : u = Value.ref a := rx
  obtain ⟨b, rfl⟩ := ky.ref
  obtain rfl : iv = Value.ref b := ry
  exact nd_in hu I2 g ky fun s3 I3 => ⟨.bl (valV kvs k).isSome, H2, I3, rfl, q2⟩
theorem pc_nnotin (hu : X.A.units + 9 < cLine) (hi : PE X i ty) (ho : PE X o td) : PC X .NotIn i o (tNIn X.prog X.w X.K true ty td) := by
  refine ⟨fun pins s σ H Q I h => ?_⟩
  refine thn (hi.run pins s σ H _ I h) fun iv s1 ⟨y, H1, I1, ry, q1⟩ => thn (ho.run pins s1 σ H1 _ I1 q1) fun u s2 ⟨x, H2, I2, rx, a, kvs, k, ex, g, ky, q2⟩ => ?_
  subst ex
  obtain rfl : u = Value.ref a := rx
  obtain ⟨b, rfl⟩ := ky.ref
  obtain rfl : iv = Value.ref b := ry
  exact nd_notIn hu I2 g ky fun s3 I3 => ⟨.bl (!(valV kvs k).isSome), H2, I3, rfl, q2⟩
theorem ps_nput (hu : X.A.units + 9 < cLine) (ho : PE X o td) (hi : PE X i ty) (hv : PE X value tv) (hs : swapsWith value (some (.Subscript o i pos')) pos.line X.env = pure false) :
    PS X (.Assign [.Subscript o i pos'] value pos) (sNPut X.prog X.w X.K td ty tv) := by
  refine ⟨fun pins s σ H D I h => ?_⟩
  refine wpAny_Assign_Subscript (thn (hv.run pins s σ H _ I h) fun r s1 ⟨v, H1, I1, rv, q1⟩ => thn (ho.run pins s1 σ H1 _ I1 q1) fun u s2 ⟨x, H2, I2, rx, q2⟩ => thn (hi.run pins s2 σ H2 _ I2 q2) fun iv s3 ⟨y, H3, I3, ry, a, kvs, k, ex, g, ky, hl, q3⟩ => ?_) hs
  subst ex
  obtain rfl : u = Value.ref a := rx
  obtain ⟨b, rfl⟩ := ky.ref
  obtain rfl : iv = Value.ref b := ry
  exact nd_setItem hu I3 g ky hl rv fun o s4 g4 I4 => ⟨σ, _, I4, q3 o g4⟩
theorem ps_ndel (hu : X.A.units + 9 < cLine) (ho : PE X o td) (hi : PE X i ty) : PS X (.Delete [.Subscript o i tpos] pos) (sNDel X.prog X.w X.K td ty) := by
  refine ⟨fun pins s σ H D I h => ?_⟩
  refine wpAny_Delete (wpAny_deleteEach_cons (wpAny_delete_Subscript (thn (ho.run pins s σ H _ I h) fun u s1 ⟨x, H1, I1, rx, q1⟩ => thn (hi.run pins s1 σ H1 _ I1 q1) fun iv s2 ⟨y, H2, I2, ry, a, kvs, k, ex, g, ky, l, q2⟩ => ?_)))
  subst ex
  obtain rfl : u = Value.ref a := rx
  obtain ⟨b, rfl⟩ := ky.ref
  obtain rfl : iv = Value.ref b := ry
  exact nd_delItem hu I2 g ky l fun o s3 g3 I3 => wpAny_deleteEach_nil ⟨σ, _, I3, q2 o g3⟩
theorem pe_nget1 (hu : X.A.units + 9 < cLine) (ho : PE X o td) (he : PE X e ty) (m : M1 X o "get" apos e cpos) : PE X (.Call (.Attribute o "get" apos) [e] [] cpos) (tNGet1 X.prog X.w X.K td ty) := by
  refine ⟨fun pins s σ H Q I h => ?_⟩
  refine wpAny_Call_method m.base m.few m.line PySem.F.plainAttrs_dict PySem.F.slot_dict_get PySem.F.type_dict_get (thn (ho.run pins s σ H _ I h) fun u s1 ⟨x, H1, I1, rx, a, kvs0, ex, d, q1⟩ => ?_)
  subst ex
  obtain rfl : u = Value.ref a := rx
  obtain ⟨t1, t2⟩ := nd_type I1 d
  refine ⟨t1, t2, ?_⟩
  rw [m.trees]
  refine Calls.callWith_builtin rfl (Calls.evalArgs_plain (Calls.spliced_cons (thn (he.run pins s1 σ H1 _ I1 q1) fun iv s2 ⟨y, H2, I2, ry, kvs, k, g, ky, q2⟩ => Calls.spliced_nil ?_)))
  obtain ⟨b, rfl⟩ := ky.ref
  obtain rfl : iv = Value.ref b := ry
  exact nd_get1 hu I2 g ky fun w' s3 I3 rw' => ⟨_, H2, I3, rw', q2⟩
theorem pe_nget2 (hu : X.A.units + 9 < cLine) (ho : PE X o td) (he : PE X e ty) (hf : PE X f tz) (m : M2 X o "get" apos e f cpos) : PE X (.Call (.Attribute o "get" apos) [e, f] [] cpos) (tNGet2 X.prog X.w X.K td ty tz) := by
  refine ⟨fun pins s σ H Q I h => ?_⟩
  refine wpAny_Call_method m.base m.few m.line PySem.F.plainAttrs_dict PySem.F.slot_dict_get PySem.F.type_dict_get (thn (ho.run pins s σ H _ I h) fun u s1 ⟨x, H1, I1, rx, a, kvs0, ex, d, q1⟩ => ?_)
  subst ex
  obtain rfl : u = Value.ref a := rx
  obtain ⟨t1, t2⟩ := nd_type I1 d
  refine ⟨t1, t2, ?_⟩
  rw [m.trees]
  refine Calls.callWith_builtin rfl (Calls.evalArgs_plain (Calls.spliced_cons (thn (he.run pins s1 σ H1 _ I1 q1) fun iv s2 ⟨y, H2, I2, ry, q2⟩ =>
    Calls.spliced_cons (thn (hf.run pins s2 σ H2 _ I2 q2) fun fv s3 ⟨z, H3, I3, rz, kvs, k, g, ky, q3⟩ => Calls.spliced_nil ?_))))
  obtain ⟨b, rfl⟩ := ky.ref
  obtain rfl : iv = Value.ref b := ry
  exact nd_get2 hu I3 g ky rz fun w' s4 I4 rw' => ⟨_, H3, I4, rw', q3⟩
end
theorem nu_of {A : Around} {k : Nat} (hr : Room k A) : A.units + 9 < cLine := Nat.lt_of_le_of_lt (Nat.add_le_add_left (by decide : 9 ≤ 64) _) hr.units
end ND

set_option Elab.async false
set_option linter.all false
set_option maxRecDepth 100000
set_option maxHeartbeats 4000000
/-! sum(t), t a tuple of ints -/
namespace SumT
open PySem PySem.W PySem.Calls PyProof.Rows PyProof.V PySem.Spec L2
section
variable {X : Cx}
def rSumT (K : PySem.W.Frag) : List V → Hp → VK → Prop := fun vs H Q => ∃ (a : Addr) (ns : List Int), vs = [V.ref a] ∧ SqT K H a (ns.map V.int) ∧ Q (.int ns.sum) H
theorem cr_sumT (hc : X.calm = true) : CallR X (.builtin "sum") (rSumT X.K) := by
  intro pins s σ H vs us Q I r h
  obtain ⟨a, ns, rfl, hs, q⟩ := h
  obtain ⟨its, rv, pl, hz⟩ := I.tuple hs
  rw [Vals.ref1 r]
  obtain ⟨xs, e⟩ := rv.ints.allInts.items
  have hn : numsOf (intItems xs).toList = ns := by rw [← e]; exact rv.ints.numsOf
  rw [nums_intItems] at hn
  rw [e] at pl
  refine ktm_sumG (I.ok.hd hc) pl fun h' tk t' hk => ⟨.int _, H, I.kept hk, ⟨_, by rw [preSum_eq, List.take_of_length_le (by simp), hn]⟩, q⟩
end
end SumT

set_option Elab.async false
set_option linter.all false
set_option maxRecDepth 100000
set_option maxHeartbeats 4000000
/-! Rules whose readings name K, for the inside of comprehensions. -/
namespace Nst
open PySem PySem.Spec PyProof.Rows L2
def rLen (K : PySem.W.Frag) : List V → Hp → VK → Prop := fun xs H Q => ∃ p ys, xs = [V.ref p] ∧ (SqL K H p ys ∨ SqT K H p ys) ∧ Q (.int ys.length) H
theorem len_seq {X : Cx} (K : PySem.W.Frag) (h : X.K = K) : CallR X (.builtin "len") (rLen K) := by
  subst h
  exact call_len_seq
def rTupOf (K : PySem.W.Frag) : List V → Hp → VK → Prop := fun xs H Q => ∃ p ys, xs = [.ref p] ∧ ((SqL K H p ys ∧ ∀ l, H l = none → Q (.ref l) (upd H l (.tup ys))) ∨ (SqT K H p ys ∧ Q (.ref p) H))
theorem tuple_of {X : Cx} (K : PySem.W.Frag) (h : X.K = K) : CallR X (.type "tuple") (rTupOf K) := by
  subst h
  exact call_tuple_of
theorem at_item {xs : List V} {i : Int} (h0 : 0 ≤ i) (h1 : i < (xs.length : Int)) : ∃ y, xs[i.toNat]? = some y ∧ atI xs i = some y := by
  obtain ⟨j, rfl⟩ := Int.eq_ofNat_of_zero_le h0
  have h2 : j < xs.length := by omega
  exact ⟨xs[j], by rw [Int.toNat_natCast]; exact List.getElem?_eq_getElem h2, atI_nat (List.getElem?_eq_getElem h2)⟩
/-- tuple + tuple, whatever they hold -/
theorem cat_sq {K : PySem.W.Frag} {H : Hp} {a b : Addr} {xs ys : List V} {Q : VK} (ha : SqT K H a xs) (hb : SqT K H b ys) (hl : xs.length + ys.length ≤ 100000) (h : ∀ (r : Addr) (H' : Hp), Same H H' → SqT K H' r (xs ++ ys) → Q (.ref r) H') : rCatA K (.ref a) (.ref b) H Q := by
  refine ⟨a, b, xs, ys, rfl, rfl, ha, hb, Cm.small hl, fun e => ?_, fun _ e => ?_, fun _ _ p np => ?_⟩
  · subst e
    exact h b H (Same.refl H) hb
  · subst e
    exact h a H (Same.refl H) (by rw [List.append_nil]; exact ha)
  · exact h p _ (Cm.same_new np) Cm.sqt_new
theorem shaped_of {d : PyData} (h1 : d.canLay0 = true) (h2 : d.depth ≤ 64) : SeqAt.shaped d = true := by
  show (d.canLay0 && decide (d.depth ≤ 64)) = true
  rw [Bool.and_eq_true]
  exact ⟨h1, decide_eq_true h2⟩
theorem eqv_self {d : PyData} (h : SeqAt.shaped d = true) : PyData.eqv d d = true := SeqAt.eqv_refl _ (SeqAt.canLay_of_shaped h)
/-- a tuple of a text and two numbers -/
theorem shaped_w2 {x : Str} (h : PyData.strOk x = true) (i j : Int) : SeqAt.shaped (.tuple [.str x, .int i, .int j]) = true :=
  shaped_of (by simp [PyData.canLay0, PyData.canLayAll0, h]) (by simp [PyData.depth, PyData.depthAll])
end Nst

set_option Elab.async false
set_option linter.all false
set_option maxRecDepth 100000
set_option maxHeartbeats 4000000
/-! Calls of methods that may raise: within a try (pe_methT), and where it is known that nothing is raised (passF). -/
namespace MethT
open PySem PySem.Spec PyProof.Rows L2
theorem passF {X : Cx} : Passes (L2.CX X.prog X.w) X E0 := fun _ _ _ _ _ _ _ h => by
  obtain ⟨_, _, _, _, _, _, _, _, _, _, _, _, e⟩ := h
  exact e.elim
section
variable {X : Cx} {CX : CXT} {k : Nat} {f C : Addr} {fd : FuncData} {ps : List Str} {sp : Sp} {E : L2.St → XK} {x m : Str} {p pos apos : Pos} {e o : Expr} {es : List Expr} {ta : TE} {t : TA}
def tMethT (C : Addr) (m : Str) (sp : Sp) (E : L2.St → XK) (ta : TE) (t : TA) : TE := fun σ H Q => ta σ H fun x H1 => ∃ a dx fs, x = .ref a ∧ H1 a = some (.ins C dx fs) ∧ fs.lookup m = none ∧ t σ H1 fun vs H2 => sp (x :: vs) H2 Q (E σ)
theorem pe_methT {pl : Sem Bool} (he : PE X o ta) (c : Cls X.K C) (hm : Meth X.K C m f) (F : FnOk X.prog X.w X.K X.mg X.base CX k f fd ps sp) (hr : Room k X.A) (hb : Binds X.K fd ps []) (hx : ∀ σ, PassesAt CX X σ (E σ)) (ha : PA X (e :: es) t)
    (hst : starEach (e :: es) X.env = (false, eval e X.env) :: starEach es X.env := by rfl) (hpl : (backTo pos (starEach es X.env)).any (·.1) = false := by rfl)
    (ht : eval (.Call (.Attribute o m apos) (e :: es) [] pos) X.env = (do
      let ov ← eval o X.env
      standAt apos.atName
      let (f, first) ← holding [ov] (getMethod ov m pl)
      callWith pos f first (backTo pos (starEach (e :: es) X.env)) (backToKw pos (keywordEach [] X.env))) := by rfl) :
    PE X (.Call (.Attribute o m apos) (e :: es) [] pos) (tMethT C m sp E ta t) := by
  refine ⟨fun pins s σ H Q I h => ?_⟩
  refine PySem.W.methodCall_KW (pl := pl) (thn (he.run pins s σ H _ I h) fun u s1 ⟨x, H1, I1, rx, a, dx, fs, ex, ea, l, q⟩ => ?_) ht
  subst ex
  obtain rfl : u = Value.ref a := rx
  refine getmeth_ok I1 ea c hm l ?_
  refine PySem.W.callWith_K (first := [.ref a]) (h₀ := X.base) I.ok.mod.kin hm.kp (thn (ha.run pos pins s1 σ H1 _ I1 q) fun us s2 ⟨vs, H2, I2, r, q2⟩ => ⟨I2.kIn, ?_⟩) hst hpl
  exact run_fnS (us := .ref a :: us) (vs := .ref a :: vs) F hr hb (hx σ) I2 (.cons rfl r) q2
theorem pe_methT0 {pl : Sem Bool} (he : PE X o ta) (c : Cls X.K C) (hm : Meth X.K C m f) (F : FnOk X.prog X.w X.K X.mg X.base CX k f fd ps sp) (hr : Room k X.A) (hb : Binds X.K fd ps []) (hx : ∀ σ, PassesAt CX X σ (E σ))
    (ht : eval (.Call (.Attribute o m apos) [] [] pos) X.env = (do
      let ov ← eval o X.env
      standAt apos.atName
      let (f, first) ← holding [ov] (getMethod ov m pl)
      callWith pos f first (backTo pos (starEach [] X.env)) (backToKw pos (keywordEach [] X.env))) := by rfl) :
    PE X (.Call (.Attribute o m apos) [] [] pos) (tMethT C m sp E ta tNil) := by
  refine ⟨fun pins s σ H Q I h => ?_⟩
  refine PySem.W.methodCall_KW (pl := pl) (thn (he.run pins s σ H _ I h) fun u s1 ⟨x, H1, I1, rx, a, dx, fs, ex, ea, l, q⟩ => ?_) ht
  subst ex
  obtain rfl : u = Value.ref a := rx
  refine getmeth_ok I1 ea c hm l ?_
  exact PySem.W.callWith_K0 (first := [.ref a]) I1.kIn hm.kp (run_fnS (us := [.ref a]) (vs := [.ref a]) F hr hb (hx σ) I1 (.cons rfl .nil) q)
end
end MethT

set_option Elab.async false
set_option linter.all false
set_option maxRecDepth 100000
set_option maxHeartbeats 4000000
/-! sorted(xs), sorted(d): items that are data, nested tuples; what comes out is the merge sort of the data. -/
namespace SortN
open PySem PySem.W PySem.Calls PyProof.Rows PyProof.V PySem.Spec L2 Pt ND

/-- the order of data -/
abbrev dle : PyData → PyData → Bool := dataLe false id
abbrev srt (ds : List PyData) : List PyData := ds.mergeSort dle
section
variable {X : Cx} {pins : List (Addr × Obj)} {σ : L2.St} {H : Hp} {s : Shared}
theorem each_reads (I : Inv X pins σ H s) : ∀ {xs : List V} {ds : List PyData} {us : List Value}, Rps X.K H xs ds → Vals xs us → EachIs (fun v d => ∃ as, Reads s.heap v d as) us ds
  | _, _, _, .nil, .nil => .nil
  | _, _, _, .cons h t, .cons h' t' => .cons (Dp.reads I _ _ _ h.dp h') (each_reads I t t')
theorem each_both {K : PySem.W.Frag} : ∀ {xs : List V} {ds : List PyData} {us : List Value}, Rps K H xs ds → Vals xs us → EachIs (fun v (b : V × PyData) => RelV b.1 v ∧ Rp K H b.1 b.2) us (xs.zip ds)
  | _, _, _, .nil, .nil => .nil
  | _, _, _, .cons h t, .cons h' t' => .cons ⟨h', h⟩ (each_both t t')
theorem each_snd {R : Value → PyData → Prop} : ∀ {xs : List V} {ds : List PyData} {us : List Value}, xs.length = ds.length → EachIs R us ds → EachIs (fun v (b : V × PyData) => R v b.2) us (xs.zip ds)
  | [], [], _, _, .nil => .nil
  | x :: xs, d :: ds, _, hl, .cons h t => .cons h (each_snd (Nat.succ.inj hl) t)
theorem out_of {K : PySem.W.Frag} : ∀ {bs : List (V × PyData)} {out : List Value}, EachIs (fun v (b : V × PyData) => RelV b.1 v ∧ Rp K H b.1 b.2) out bs → Vals (bs.map (·.1)) out ∧ Rps K H (bs.map (·.1)) (bs.map (·.2))
  | _, _, .nil => ⟨.nil, .nil⟩
  | _, _, .cons h t => ⟨.cons h.1 (out_of t).1, .cons h.2 (out_of t).2⟩
theorem zip_snd : ∀ {xs : List V} {ds : List PyData}, xs.length = ds.length → (xs.zip ds).map (·.2) = ds
  | [], [], _ => rfl
  | x :: xs, d :: ds, hl => congrArg (d :: ·) (zip_snd (Nat.succ.inj hl))
/-- what the sort gives -/
theorem sorted_out {K : PySem.W.Frag} {h : Heap} {xs : List V} {ds : List PyData} {us : List Value} (hal : AllAlike ds) (r : Rps K H xs ds) (rv : Vals xs us) (e : EachIs (fun v d => ∃ as, Reads h v d as) us ds) :
    ∃ ys, Vals ys (sortVals (dataKind h ds) false us us) ∧ Rps K H ys (srt ds) ∧ ys.length = xs.length := by
  have hl := r.len
  have e3 := sortVals_each (κ := dataKind h ds) (rev := false) (k := fun b : V × PyData => keyToks b.2) (each_both r rv) (each_snd hl (each_keys hal e))
  obtain ⟨v1, r1⟩ := out_of e3
  refine ⟨_, v1, ?_, ?_⟩
  · have em : ((xs.zip ds).mergeSort (sortLe (dataKind h ds).toKeyOrd false fun b : V × PyData => keyToks b.2)).map (·.2) = srt ds := by
      have q := sort_maps (r := sortLe (dataKind h ds).toKeyOrd false fun b : V × PyData => keyToks b.2) (s := dle) (fun b : V × PyData => b.2) (l := xs.zip ds) (fun a _ b _ => rfl)
      rw [q, zip_snd hl]
    rw [← em]
    exact r1
  · rw [List.length_map, List.length_mergeSort, List.length_zip, hl, Nat.min_self]
end
section
variable {X : Cx}
/-- sorted(xs) of a list -/
def rSortL (K : PySem.W.Frag) : List V → Hp → VK → Prop := fun vs H Q => ∃ (a : Addr) (xs : List V) (ds : List PyData), vs = [.ref a] ∧ SqL K H a xs ∧ Rps K H xs ds ∧ AllAlike ds ∧ Sortable ds ∧ (∀ d ∈ ds, d.depth ≤ 50) ∧
  ∀ (ys : List V) (p : Addr), Rps K H ys (srt ds) → H p = none → Q (.ref p) (upd H p (.lst ys))
theorem call_sortL (hc : X.calm = true) (hu : X.A.units + 64 < cLine) : CallR X (.builtin "sorted") (rSortL X.K) := by
  intro pins s σ H vs us Q I r q
  obtain ⟨a, xs, ds, rfl, hl, hr, hal, hk, hdp, q⟩ := q
  rw [Vals.ref1 r]
  obtain ⟨its, rv, pl, hz⟩ := I.list hl
  have hzi : its.length ≤ sizeLine := by rw [← rv.length]; exact hz
  have I1 : Inv X pins σ H { s with heap := sortingHeap (copyHeap s.heap its) (s.heap.objs.size + 1) its, toks := s.toks } := I.kept fun b o e => sorting_copy_old e
  have ea : EachIs (fun v d => ∃ as, Reads (sortingHeap (copyHeap s.heap its) (s.heap.objs.size + 1) its) v d as) its ds := each_reads I1 hr rv
  refine sorted_vals (κ := dataKind (sortingHeap (copyHeap s.heap its) (s.heap.objs.size + 1) its) ds) pl.isList (SortsAt.data (s := { s with heap := sortingHeap (copyHeap s.heap its) (s.heap.objs.size + 1) its }) ea hal hk fun d hd => ?_) hzi ?_
  · have := hdp d hd
    simp only [Around.in1_units]
    omega
  · obtain ⟨ys, v1, r1, l1⟩ := sorted_out (K := X.K) hal hr rv ea
    obtain ⟨e', he'⟩ := sortedAll_at s.heap its (sortVals (dataKind (sortingHeap (copyHeap s.heap its) (s.heap.objs.size + 1) its) ds) false its its).toArray
    refine ⟨.ref (s.heap.objs.size + 1), upd H (s.heap.objs.size + 1) (.lst ys), I.laid (t' := s.toks) (fun b u e => sortedAll_old e) (Nat.le_succ _) ?_, rfl, q ys _ r1 (I.hok.fresh (Nat.le_succ _))⟩
    exact ⟨by rw [l1]; exact hz, _, e', v1, he'⟩
/-- sorted(t) of a tuple -/
def rSortTup (K : PySem.W.Frag) : List V → Hp → VK → Prop := fun vs H Q => ∃ (a : Addr) (xs : List V) (ds : List PyData), vs = [.ref a] ∧ SqT K H a xs ∧ Rps K H xs ds ∧ AllAlike ds ∧ Sortable ds ∧ (∀ d ∈ ds, d.depth ≤ 50) ∧
  ∀ (ys : List V) (p : Addr), Rps K H ys (srt ds) → H p = none → Q (.ref p) (upd H p (.lst ys))
theorem call_sortTup (hc : X.calm = true) (hu : X.A.units + 64 < cLine) : CallR X (.builtin "sorted") (rSortTup X.K) := by
  intro pins s σ H vs us Q I r q
  obtain ⟨a, xs, ds, rfl, hl, hr, hal, hk, hdp, q⟩ := q
  rw [Vals.ref1 r]
  obtain ⟨its, rv, ⟨o, ho, hcl, n, hd⟩, hz⟩ := I.tuple hl
  have hzi : its.length ≤ sizeLine := by rw [← rv.length]; exact hz
  refine Calls.call_function_entry PyProof.Rows.kind_sorted PyProof.Rows.plain_sorted PyProof.Rows.entry_sorted (PyProof.Rows.args_sorted1 _) ?_
  unfold Builtin.«sorted»
  refine wpAny_bind (m := checkCount "sorted" 1 1 _) (wpAny_pure ?_)
  refine wpAny_bind (wpAny_collect_seq a (.inr rfl) ho hcl hd (fun h' hkp => ?_) (by rw [List.size_toArray]; exact hzi))
  have I1 : Inv X pins σ H { s with heap := h' } := I.kept (t' := s.toks) hkp
  rw [show its.toArray.toList = its from rfl]
  refine wpAny_bind (wpAny_newList ?_ hzi)
  have hoL : (h'.push (seqObj "list" its.toArray 0)).get? h'.objs.size = some (seqObj "list" its.toArray 0) := Heap.get?_push_size _ rfl
  show wpAny _ _ _ _ _ { s with heap := h'.push (seqObj "list" its.toArray 0) }
  have old : ∀ b u, h'.get? b = some u → (sortingHeap (h'.push (seqObj "list" its.toArray 0)) h'.objs.size its).get? b = some u := fun b u q1 =>
    sortingHeap_old (Nat.ne_of_lt (Heap.lt_size q1)) (Heap.get?_push_of_some _ q1)
  have I2 : Inv X pins σ H { s with heap := sortingHeap (h'.push (seqObj "list" its.toArray 0)) h'.objs.size its } := I1.kept (t' := s.toks) old
  have ea := each_reads I2 hr rv
  refine wpAny_bind (wpAny_holding (wpAny_call_entry PyProof.Rows.slot_list_sort ⟨_, hoL, rfl⟩ PyProof.Rows.entry_list_sort
    (list_sort_vals (κ := dataKind (sortingHeap (h'.push (seqObj "list" its.toArray 0)) h'.objs.size its) ds) (s := { s with heap := h'.push (seqObj "list" its.toArray 0) }) hoL
      (SortsAt.data (s := { s with heap := sortingHeap (h'.push (seqObj "list" its.toArray 0)) h'.objs.size its }) ea hal hk fun d hd => ?_) hzi ⟨_, rfl, ?_⟩) (PyProof.Rows.args_list_sort _)))
  · have := hdp d hd
    simp only [Around.in1_units]
    omega
  · obtain ⟨ys, v1, r1, l1⟩ := sorted_out (K := X.K) hal hr rv ea
    obtain ⟨e', he'⟩ := PyProof.Rows.sortedHeap_at (vs := its) (out := (sortVals (dataKind (sortingHeap (h'.push (seqObj "list" its.toArray 0)) h'.objs.size its) ds) false its its).toArray) hoL
    refine wpAny_pure ⟨_, rfl, .ref h'.objs.size, upd H h'.objs.size (.lst ys), I1.laid (t' := s.toks) (fun b u e => ?_) (Nat.le_refl _)
      (show ObjOk X.prog X.w _ _ _ (.lst ys) from ⟨by rw [l1]; exact hz, _, e', v1, he'⟩), rfl, q ys _ r1 (I1.hok.fresh (Nat.le_refl _))⟩
    have hb : b < h'.objs.size := Heap.lt_size e
    rw [PyProof.Rows.sortedHeap_old (Nat.ne_of_lt hb) (by rw [size_push']; exact Nat.lt_succ_of_lt hb)]
    exact Heap.get?_push_of_some _ e
theorem vals_keys {K : PySem.W.Frag} {H : Hp} {w : World} {P : Program} : ∀ {kvs : List (NestedKey × V)} {xs : List (NestedKey × Addr × Value)}, KN K H kvs xs → Rps K H (xs.map fun x => V.ref x.2.1) (kvs.map (·.1.data))
  | _, _, .nil => .nil
  | _, _, .cons h t => .cons h.2.1.1 (vals_keys (w := w) (P := P) t)
theorem vals_refs : ∀ xs : List (NestedKey × Addr × Value), Vals (xs.map fun x => V.ref x.2.1) (xs.map fun x => Value.ref x.2.1)
  | [] => .nil
  | _ :: xs => .cons rfl (vals_refs xs)
/-- sorted(d) of a dict with keys of any depth -/
def rSortD (P : Program) (w : World) (K : PySem.W.Frag) : List V → Hp → VK → Prop := fun vs H Q => ∃ (a : Addr) (kvs : List (NestedKey × V)), vs = [.ref a] ∧ NDct P w K H a kvs ∧ AllAlike (kvs.map (·.1.data)) ∧ Sortable (kvs.map (·.1.data)) ∧
  (∀ d ∈ kvs.map (·.1.data), d.depth ≤ 50) ∧ ∀ (ys : List V) (p : Addr), Rps K H ys (srt (kvs.map (·.1.data))) → H p = none → Q (.ref p) (upd H p (.lst ys))
theorem call_sortD (hc : X.calm = true) (hu : X.A.units + 64 < cLine) : CallR X (.builtin "sorted") (rSortD X.prog X.w X.K) := by
  intro pins s σ H vs us Q I r q
  obtain ⟨a, kvs, rfl, g, hal, hk, hdp, q⟩ := q
  rw [Vals.ref1 r]
  obtain ⟨z, lo, xs, e, rel, dd⟩ := nd_of I g
  obtain ⟨o, es, ep, h1, h2, h3, h4, h5, h6⟩ := dd
  have hl : es.size = kvs.length := by
    have q1 := congrArg List.length h4
    rw [List.length_map, Array.length_toList] at q1
    rw [q1, Paired.length rel]
  refine Calls.call_function_entry PyProof.Rows.kind_sorted PyProof.Rows.plain_sorted PyProof.Rows.entry_sorted (PyProof.Rows.args_sorted1 _) ?_
  unfold Builtin.«sorted»
  refine wpAny_bind (m := checkCount "sorted" 1 1 _) (wpAny_pure ?_)
  refine wpAny_bind (PySem.W.kdu_collect (A := X.A.in1) (KdlSrc.rawDict (d := a) (es := es) (ep := ep) lo) (I.ok.hd hc) ⟨o, h1, h2, h3⟩ (by rw [hl]; exact z) fun h' tk acc hkp hacc => ?_)
  have hav : acc.toList = xs.map fun x => Value.ref x.2.1 := by
    refine List.ext_getElem? fun j => ?_
    by_cases hj : j < es.size
    · have hja : j < acc.size := by rw [hacc.1]; exact hj
      obtain ⟨hi, ev⟩ := hacc.2 j acc[j] (Array.getElem?_eq_getElem hja)
      have ex : es.toList[j]? = (xs.map (entryOfKey (nestedKind X.prog X.w)))[j]? := by rw [h4]
      rw [Array.getElem?_toList, Array.getElem?_eq_getElem hj, List.getElem?_map] at ex
      rw [Array.getElem?_toList, Array.getElem?_eq_getElem hja, List.getElem?_map, ev]
      cases hx : xs[j]? with
      | none =>
        rw [hx] at ex
        cases ex
      | some x =>
        rw [hx] at ex
        have e2 : es[j] = entryOfKey (nestedKind X.prog X.w) x := Option.some.inj ex
        rw [e2]
        rfl
    · have hn : es.size = xs.length := by rw [hl, Paired.length rel]
      rw [List.getElem?_eq_none (by rw [Array.length_toList, hacc.1]; omega), List.getElem?_eq_none (by rw [List.length_map]; omega)]
  have I1 : Inv X pins σ H { s with heap := h', toks := tk } := I.kept hkp
  have hzi : acc.toList.length ≤ sizeLine := by
    rw [Array.length_toList, hacc.1, hl]
    exact z
  refine wpAny_bind (wpAny_newList ?_ hzi)
  have hoL : (h'.push (seqObj "list" acc.toList.toArray 0)).get? h'.objs.size = some (seqObj "list" acc.toList.toArray 0) := Heap.get?_push_size _ rfl
  show wpAny _ _ _ _ _ { s with heap := h'.push (seqObj "list" acc.toList.toArray 0), toks := tk }
  have rk := vals_keys (K := X.K) (w := X.w) (P := X.prog) rel
  have rv : Vals (xs.map fun x => V.ref x.2.1) acc.toList := by
    rw [hav]
    exact vals_refs xs
  have old : ∀ b u, h'.get? b = some u → (sortingHeap (h'.push (seqObj "list" acc.toList.toArray 0)) h'.objs.size acc.toList).get? b = some u := fun b u q1 =>
    sortingHeap_old (Nat.ne_of_lt (Heap.lt_size q1)) (Heap.get?_push_of_some _ q1)
  have I2 : Inv X pins σ H { s with heap := sortingHeap (h'.push (seqObj "list" acc.toList.toArray 0)) h'.objs.size acc.toList, toks := tk } := I1.kept old
  have ea := each_reads I2 rk rv
  refine wpAny_bind (wpAny_holding (wpAny_call_entry PyProof.Rows.slot_list_sort ⟨_, hoL, rfl⟩ PyProof.Rows.entry_list_sort
    (list_sort_vals (κ := dataKind (sortingHeap (h'.push (seqObj "list" acc.toList.toArray 0)) h'.objs.size acc.toList) (kvs.map (·.1.data))) (s := { s with heap := h'.push (seqObj "list" acc.toList.toArray 0), toks := tk }) hoL
      (SortsAt.data (s := { s with heap := sortingHeap (h'.push (seqObj "list" acc.toList.toArray 0)) h'.objs.size acc.toList, toks := tk }) ea hal hk fun d hd => ?_) hzi ⟨_, rfl, ?_⟩) (PyProof.Rows.args_list_sort _)))
  · have := hdp d hd
    simp only [Around.in1_units]
    omega
  · obtain ⟨ys, v1, r1, l1⟩ := sorted_out (K := X.K) hal rk rv ea
    obtain ⟨e', he'⟩ := PyProof.Rows.sortedHeap_at (vs := acc.toList) (out := (sortVals (dataKind (sortingHeap (h'.push (seqObj "list" acc.toList.toArray 0)) h'.objs.size acc.toList) (kvs.map (·.1.data))) false acc.toList acc.toList).toArray) hoL
    refine wpAny_pure ⟨_, rfl, .ref h'.objs.size, upd H h'.objs.size (.lst ys), I1.laid (t' := tk) (fun b u e => ?_) (Nat.le_refl _)
      (show ObjOk X.prog X.w _ _ _ (.lst ys) from ⟨by rw [l1, List.length_map, ← Paired.length rel]; exact z, _, e', v1, he'⟩), rfl, q ys _ r1 (I1.hok.fresh (Nat.le_refl _))⟩
    have hb : b < h'.objs.size := Heap.lt_size e
    rw [PyProof.Rows.sortedHeap_old (Nat.ne_of_lt hb) (by rw [size_push']; exact Nat.lt_succ_of_lt hb)]
    exact Heap.get?_push_of_some _ e
end
end SortN

set_option Elab.async false
set_option linter.all false
set_option maxRecDepth 100000
set_option maxHeartbeats 4000000
/-! d.items() of a dict with flat keys; sorted(d.items()) where keys and values are ints. -/
namespace ItemN
open PySem PySem.W PySem.Calls PyProof.Rows PyProof.V PySem.Spec L2 Pt ND SortN

abbrev pairD (x : Int × Int) : PyData := .tuple [.int x.1, .int x.2]
theorem pairs_get {P : Program} {w : World} : ∀ {es : List DictEntry} {vs : List (L2.Key × Value)} {j : Nat} {e : DictEntry}, Pairs (mixKind P w) es vs → es[j]? = some e → ∃ kv, vs[j]? = some kv ∧ keyIs kv.1 e.key = true ∧ e.val = kv.2
  | _, _, j, e, .nil, h => by simp at h
  | _, _, 0, e, .cons h1 h2 t, h => by
    simp only [List.getElem?_cons_zero, Option.some.injEq] at h
    subst h
    exact ⟨_, rfl, h1, h2⟩
  | _, _, j + 1, e, .cons h1 h2 t, h => by
    simp only [List.getElem?_cons_succ] at h ⊢
    exact pairs_get t h
theorem pairs_alike (ns : List (Int × Int)) : AllAlike (ns.map pairD) := by
  intro d hd d' hd'
  obtain ⟨a, _, rfl⟩ := List.mem_map.mp hd
  obtain ⟨b, _, rfl⟩ := List.mem_map.mp hd'
  simp [alike, alikeAll]
theorem pairs_sortable (ns : List (Int × Int)) : Sortable (ns.map pairD) := by
  refine .inl fun d hd => ?_
  obtain ⟨a, _, rfl⟩ := List.mem_map.mp hd
  exact ⟨_, _, rfl⟩
theorem pairs_depth (ns : List (Int × Int)) : ∀ d ∈ ns.map pairD, d.depth ≤ 50 := by
  intro d hd
  obtain ⟨a, _, rfl⟩ := List.mem_map.mp hd
  simp [PyData.depth, PyData.depthAll]
theorem rps_pairs {K : PySem.W.Frag} {H : Hp} : ∀ {as : List Addr} {ns : List (Int × Int)}, as.length = ns.length → (∀ (j : Nat) (b : Addr), as[j]? = some b → ∃ x : Int × Int, ns[j]? = some x ∧ H b = some (.tup [.int x.1, .int x.2])) → Rps K H (as.map V.ref) (ns.map pairD)
  | [], [], _, _ => .nil
  | a :: as, n :: ns, hl, h => by
    obtain ⟨x, hx, hb⟩ := h 0 a rfl
    simp only [List.getElem?_cons_zero, Option.some.injEq] at hx
    subst hx
    refine .cons (.tup (.inl (.inl hb)) (.cons (.int _) (.cons (.int _) .nil))) (rps_pairs (Nat.succ.inj hl) fun j b hj => ?_)
    obtain ⟨x, hx, hb⟩ := h (j + 1) b (by simpa using hj)
    exact ⟨x, by simpa using hx, hb⟩
section
variable {X : Cx}
def rItemsK : V → List V → Hp → VK → Prop := fun x xs H Q => ∃ (a : Addr) (kvs : List (L2.Key × V)), x = .ref a ∧ xs = [] ∧ H a = some (.dK kvs) ∧ ∀ p, H p = none → Q (.ref p) (upd H p (L2.DX.itemsO p a))
theorem mt_itemsK : MtR X "dict.items" rItemsK := by
  intro pins s σ H x xs v us Q I rx rxs h
  obtain ⟨a, kvs, rfl, rfl, ha, q⟩ := h
  cases rx
  cases rxs
  obtain ⟨z, hd, vs, rel, o, es, ep, ho, hx, hdat, _⟩ := dk_of I.hok ha
  refine DT.callItems (es := es) (ep := ep) hd ⟨o, ho, hx, hdat⟩ ?_
  have hf : H s.heap.objs.size = none := I.hok.fresh (Nat.le_refl _)
  exact ⟨.ref s.heap.objs.size, upd H s.heap.objs.size (L2.DX.itemsO s.heap.objs.size a), I.laid (t' := s.toks) (fun b u e => Heap.get?_push_of_some _ e) (Nat.le_refl _) (L2.DX.itemsO_ok (Heap.get?_push_size _ rfl)), rfl, q _ hf⟩
def rSortItems (K : PySem.W.Frag) : List V → Hp → VK → Prop := fun vs H Q => ∃ (p a : Addr) (ns : List (Int × Int)), vs = [.ref p] ∧ H p = some (L2.DX.itemsO p a) ∧ H a = some (.dK (ns.map fun x => (Sum.inl x.1, V.int x.2))) ∧
  ∀ (H' : Hp) (l : Addr) (ys : List V), Same H H' → H l = none → H' l = some (.lst ys) → Rps K H' ys (srt (ns.map pairD)) → Q (.ref l) H'
theorem call_sortItems (hc : X.calm = true) (hu : X.A.units + 64 < cLine) : CallR X (.builtin "sorted") (rSortItems X.K) := by
  intro pins s σ H xs us Q I r h
  obtain ⟨p, a, ns, rfl, hp, ha, q⟩ := h
  rw [Vals.ref1 r]
  have view : s.heap.IsItemsView p a := (show ObjOk X.prog X.w H s.heap p (L2.DX.itemsO p a) from I.hok p _ hp).1
  obtain ⟨z, hd, vs, rel, o, es, ep, ho, hx, hdat, hks, hps, hn⟩ := dk_of I.hok ha
  have hh : X.A.handled = none := I.ok.hd hc
  have l0 := rel.length
  have l00 := hps.length
  rw [List.length_map] at l0 z
  rw [Array.length_toList] at l00
  have l1 : es.size = ns.length := by omega
  refine DT.sortedI (es := es) (ep := ep) hh view ⟨o, ho, hx, hdat⟩ (by rw [l1]; exact z) fun h' tk as hk hlt hl hG => ?_
  have lak : as.length = ns.length := by omega
  have nd : as.Nodup := List.Pairwise.imp (fun h => Nat.ne_of_lt h) hG.rise
  have pr : ∀ (j : Nat) (b : Addr), as[j]? = some b → ∃ (x : Int × Int) (t1 t2 : Tok), ns[j]? = some x ∧ h'.get? b = some { cls := .type "tuple", data := .seq #[Value.int x.1 t1, Value.int x.2 t2] } := by
    intro j b hj
    obtain ⟨en, he, hg⟩ := hG.pairs j b hj
    obtain ⟨kv, hkv, h1, h2⟩ := pairs_get hps (by rw [Array.getElem?_toList]; exact he)
    obtain ⟨p0, hp0, r1, r2⟩ := L2.DX.pget rel hkv
    rw [List.getElem?_map] at hp0
    obtain ⟨x, hx0, rfl⟩ := Option.map_eq_some_iff.mp hp0
    obtain ⟨t2, e2⟩ := (show ∃ t, kv.2 = Value.int x.2 t from r2)
    have r1' : Sum.inl x.1 = kv.1 := r1
    rw [← r1'] at h1
    rcases keyIs_shape h1 with ⟨i, t, ek, ev⟩ | ⟨y, t, ek, ev⟩
    · cases ek
      exact ⟨x, t, t2, hx0, by rw [hg, ev, h2, e2]⟩
    · cases ek
  have I1 : Inv X pins σ H { s with heap := h', toks := tk } := I.kept (t' := tk) hk
  obtain ⟨H2, I2, g, qt⟩ := L2.DX.takeT (h' := h') (tk := tk) (P := fun b vs => ∃ (j : Nat) (x : Int × Int), as[j]? = some b ∧ ns[j]? = some x ∧ vs = [V.int x.1, V.int x.2]) I as H I1 nd fun b hb => by
    obtain ⟨j, hj⟩ := List.mem_iff_getElem?.mp hb
    obtain ⟨x, t1, t2, hx, hg⟩ := pr j b hj
    have hbl : s.heap.objs.size ≤ b := Nat.le_of_lt (hG.above b hb)
    exact ⟨hbl, I.hok.fresh hbl, [V.int x.1, V.int x.2], ⟨j, x, hj, hx, rfl⟩, fun H3 => ⟨(by rw [sizeLine_eq]; show 2 ≤ 16777216; omega), [Value.int x.1 t1, Value.int x.2 t2], .cons ⟨t1, rfl⟩ (.cons ⟨t2, rfl⟩ .nil), ⟨_, hg, rfl, 0, rfl⟩⟩⟩
  have hr : Rps X.K H2 (as.map V.ref) (ns.map pairD) := rps_pairs lak fun j b hj => by
    obtain ⟨vs', ⟨i, x, hi, hx, rfl⟩, hH⟩ := qt b (List.mem_of_getElem? hj)
    have eij : j = i := (List.getElem?_inj (List.getElem?_eq_some_iff.mp hj).1 nd).mp (hj.trans hi.symm)
    subst eij
    exact ⟨x, hx, hH⟩
  have hoL : (h'.push { cls := .type "list", data := .seq (as.map Value.ref).toArray }).get? h'.objs.size = some (seqObj "list" (as.map Value.ref).toArray 0) := Heap.get?_push_size _ rfl
  have old : ∀ b u, h'.get? b = some u → (sortingHeap (h'.push { cls := .type "list", data := .seq (as.map Value.ref).toArray }) h'.objs.size (as.map Value.ref)).get? b = some u := fun b u q1 =>
    sortingHeap_old (Nat.ne_of_lt (Heap.lt_size q1)) (Heap.get?_push_of_some _ q1)
  have I3 : Inv X pins σ H2 { s with heap := sortingHeap (h'.push { cls := .type "list", data := .seq (as.map Value.ref).toArray }) h'.objs.size (as.map Value.ref), toks := tk } := I2.kept (t' := tk) old
  have rv : Vals (as.map V.ref) (as.map Value.ref) := vals_maps V.ref Value.ref as fun _ _ => rfl
  have ea := each_reads I3 hr rv
  have hzi : (as.map Value.ref).length ≤ sizeLine := by rw [List.length_map, lak]; exact z
  refine wpAny_call_entry PyProof.Rows.slot_list_sort ⟨_, hoL, rfl⟩ PyProof.Rows.entry_list_sort
    (list_sort_vals (κ := dataKind (sortingHeap (h'.push { cls := .type "list", data := .seq (as.map Value.ref).toArray }) h'.objs.size (as.map Value.ref)) (ns.map pairD)) (s := { s with heap := h'.push { cls := .type "list", data := .seq (as.map Value.ref).toArray }, toks := tk }) hoL
      (SortsAt.data (s := { s with heap := sortingHeap (h'.push { cls := .type "list", data := .seq (as.map Value.ref).toArray }) h'.objs.size (as.map Value.ref), toks := tk }) ea (pairs_alike ns) (pairs_sortable ns) fun d hd => ?_) hzi ⟨_, rfl, ?_⟩) (PyProof.Rows.args_list_sort _)
  · have := pairs_depth ns d hd
    simp only [Around.in1_units]
    omega
  · obtain ⟨ys, v1, r1, l1⟩ := sorted_out (K := X.K) (pairs_alike ns) hr rv ea
    obtain ⟨e', he'⟩ := PyProof.Rows.sortedHeap_at (vs := as.map Value.ref) (out := (sortVals (dataKind (sortingHeap (h'.push { cls := .type "list", data := .seq (as.map Value.ref).toArray }) h'.objs.size (as.map Value.ref)) (ns.map pairD)) false (as.map Value.ref) (as.map Value.ref)).toArray) hoL
    have hn2 : H2 h'.objs.size = none := I2.hok.fresh (Nat.le_refl _)
    have st := Cm.same_new (o := .lst ys) hn2
    refine ⟨.ref h'.objs.size, upd H2 h'.objs.size (.lst ys), I2.laid (t' := tk) (fun b u e => ?_) (Nat.le_refl _)
      (show ObjOk X.prog X.w _ _ _ (.lst ys) from ⟨by rw [l1, List.length_map, lak]; exact z, _, e', v1, he'⟩), rfl, q _ _ ys (Same.trans g st) (Same.free g hn2) upd_same (r1.keep (Same.tups st))⟩
    have hb : b < h'.objs.size := Heap.lt_size e
    rw [PyProof.Rows.sortedHeap_old (Nat.ne_of_lt hb) (by rw [size_push']; exact Nat.lt_succ_of_lt hb)]
    exact Heap.get?_push_of_some _ e
end
end ItemN

set_option Elab.async false
set_option linter.all false
set_option maxRecDepth 100000
/-! How many different tuples of ints a list has: len(set(xs)), xs without one twice; and x not in t, t a tuple of data. -/
namespace TupIn
open PySem PySem.Spec PyProof.Rows L2
theorem got_len {ks L : List (Addr × List Int)} (g : Got ks ks.length L) (nk : (ks.map (·.2)).Nodup) (nl : (L.map (·.2)).Nodup) : L.length = ks.length := by
  have p : (L.map (·.2)).Perm (ks.map (·.2)) := (List.perm_ext_iff_of_nodup nl nk).mpr fun x => by
    constructor
    · intro h
      obtain ⟨q, hq, rfl⟩ := List.mem_map.mp h
      exact List.mem_map.mpr ⟨q, List.mem_of_mem_take (g.sub q hq), rfl⟩
    · intro h
      obtain ⟨q, hq, rfl⟩ := List.mem_map.mp h
      exact g.all q (by rw [List.take_length]; exact hq)
  have := p.length_eq
  rwa [List.length_map, List.length_map] at this
section
variable {X : Cx}
/-- len(set(xs)), xs a list of different tuples of ints -/
def tLenSetT (K : PySem.W.Frag) (ta : TE) : TE := fun σ H Q => ta σ H fun x H1 => ∃ (l : Addr) (ks : List (Addr × List Int)), x = .ref l ∧ SqL K H1 l (ks.map fun p => V.ref p.1) ∧ (∀ p ∈ ks, SqT K H1 p.1 (p.2.map V.int)) ∧ ks.length < 64 ∧ (ks.map (·.2)).Nodup ∧ Q (.int ks.length) H1
theorem pe_lenSetT {e : Expr} {te : TE} {p p2 q pos : Pos} (hc : X.calm = true) (hu : X.A.units + 64 < cLine) (hg : Gl X "len") (hm : X.mg "len" = none) (hg2 : Gl X "set") (hm2 : X.mg "set" = none) (he : PE X e te)
    (na : starEach [e] X.env = (false, eval e X.env) :: starEach [] X.env := by rfl) : PE X (.Call (.Name "len" p) [.Call (.Name "set" p2) [e] [] q] [] pos) (tLenSetT X.K te) := by
  refine ⟨fun pins s σ H Q I h => Call_ (ld_blt I hg hm boot_len (PyProof.Rows.callWith_builtin1 (PyProof.Rows.args_cons (Call_ (ld_blt I hg2 hm2 PyProof.Rows.boot_set (PyProof.Rows.callWith_type1 (PyProof.Rows.args_cons (thn (he.run pins s σ H _ I h) fun v s1 ⟨x, H1, I1, r1, q1⟩ => PyProof.Rows.args_nil ?_) na) na rfl))) rfl) rfl rfl))⟩
  obtain ⟨l, ks, rfl, hl, hk, hf, nd, q1⟩ := q1
  cases r1
  obtain ⟨its, rv, pl, hz⟩ := I1.list hl
  refine call_set_tups (P := X.prog) (w := X.w) ks (I1.ok.hd hc) pl.isList (by simpa using refs_of_vals rv) (fun p hp => I1.isT (hk p hp)) hf (by omega) fun h' tk L es ep t R g k => PyProof.Rows.args_nil ?_
  obtain ⟨o, ho, hex, hd⟩ := R.ob
  have I2 : Inv X pins σ H1 { s1 with heap := h', toks := tk } := I1.kept k
  have hn : es.size = ks.length := (SetTR.size (s := { s1 with heap := h', toks := tk }) R).trans (got_len g nd R.nd)
  exact call_len_set ho hex hd (SetTR.fits (s := { s1 with heap := h', toks := tk }) R) (by rw [hn] <;> omega) ⟨.int ks.length, H1, I2.tok _, ⟨_, by rw [hn]⟩, q1⟩
/-- x not in t, t a tuple of data -/
def rNotInT (K : PySem.W.Frag) : R2 := fun x y H Q => ∃ d ds, Dp K H x d ∧ Dp K H y (.tuple ds) ∧ SeqAt.shaped d = true ∧ SeqAt.shaped (.tuple ds) = true ∧ Q (.bl (!ds.any fun z => PyData.eqv z d)) H
theorem op_notInT (hu : X.A.units + 65 < cLine) : OpR X (compareOp .NotIn) (rNotInT X.K) := by
  intro pins s σ H x y v u Q I rx ry h
  obtain ⟨d, ds, hd, he, sd, se, q⟩ := h
  obtain ⟨as, r1⟩ := Dp.reads I d x v hd rx
  obtain ⟨bs, r2⟩ := Dp.reads I (.tuple ds) y u he ry
  exact SeqAt.notIn_tuple_reads r2 r1 (SeqAt.canLay_of_shaped se) (SeqAt.canLay_of_shaped sd) (room_in_shaped sd hu) ⟨.bl _, H, I, rfl, q⟩
theorem u65 {A : Around} {k : Nat} (hr : Room k A) : A.units + 65 < cLine := by have := hr.un; omega
theorem any_in {ds : List PyData} {d : PyData} (h : d ∈ ds) (s : PyData.eqv d d = true) : (ds.any fun z => PyData.eqv z d) = true := List.any_eq_true.mpr ⟨d, h, s⟩
end
end TupIn

set_option Elab.async false
set_option linter.all false
set_option maxRecDepth 100000
set_option maxHeartbeats 4000000
--%OPEN Cm Pt ND
--%VAR variable {P : Program} {w : World} {K : PySem.W.Frag} {mg : Str → Option Value} {base : Heap} {a : Fds}
namespace K43
open PySem PySem.Spec PyProof.Rows L2 Cm Pt ND
open PySem PySem.Spec PyProof.Rows L2
def topS (i : Nat) : Stmt := PySem.Challenge.pw_portage_k42_whole_each_body_once.main.body.getD i (.Pass ⟨0, 0, 0, 0⟩)
abbrev s_Post_init : Stmt := inClass (topS 5) 0
abbrev N_Post_init : List Str := ["self", "me"]
theorem sc_Post_init : FnScope N_Post_init ["self", "me"] (defScope s_Post_init) := ⟨rfl, rfl, rfl, by decide +kernel, rfl, by decide +kernel, by decide +kernel⟩
abbrev s_Post_give : Stmt := inClass (topS 5) 1
abbrev N_Post_give : List Str := ["self", "other", "body", "number"]
theorem sc_Post_give : FnScope N_Post_give ["self", "other", "body"] (defScope s_Post_give) := ⟨rfl, rfl, rfl, by decide +kernel, rfl, by decide +kernel, by decide +kernel⟩
abbrev s_Post_take : Stmt := inClass (topS 5) 2
abbrev N_Post_take : List Str := ["self", "letter", "sender", "goal", "number", "body"]
theorem sc_Post_take : FnScope N_Post_take ["self", "letter"] (defScope s_Post_take) := ⟨rfl, rfl, rfl, by decide +kernel, rfl, by decide +kernel, by decide +kernel⟩
abbrev s_Post_p_let_go : Stmt := inClass (topS 5) 3
abbrev N_Post_p_let_go : List Str := ["self", "other", "told", "letter"]
theorem sc_Post_p_let_go : FnScope N_Post_p_let_go ["self", "other", "told"] (defScope s_Post_p_let_go) := ⟨rfl, rfl, rfl, by decide +kernel, rfl, by decide +kernel, by decide +kernel⟩
abbrev s_Post_is_taken : Stmt := inClass (topS 5) 4
abbrev N_Post_is_taken : List Str := ["self", "other", "number"]
theorem sc_Post_is_taken : FnScope N_Post_is_taken ["self", "other", "number"] (defScope s_Post_is_taken) := ⟨rfl, rfl, rfl, by decide +kernel, rfl, by decide +kernel, by decide +kernel⟩
abbrev s_Post_taken : Stmt := inClass (topS 5) 5
abbrev N_Post_taken : List Str := ["self", "other"]
theorem sc_Post_taken : FnScope N_Post_taken ["self", "other"] (defScope s_Post_taken) := ⟨rfl, rfl, rfl, by decide +kernel, rfl, by decide +kernel, by decide +kernel⟩
abbrev s_Post_next_number : Stmt := inClass (topS 5) 6
abbrev N_Post_next_number : List Str := ["self", "other"]
theorem sc_Post_next_number : FnScope N_Post_next_number ["self", "other"] (defScope s_Post_next_number) := ⟨rfl, rfl, rfl, by decide +kernel, rfl, by decide +kernel, by decide +kernel⟩
abbrev s_Post_outbox : Stmt := inClass (topS 5) 7
abbrev N_Post_outbox : List Str := ["self"]
theorem sc_Post_outbox : FnScope N_Post_outbox ["self"] (defScope s_Post_outbox) := ⟨rfl, rfl, rfl, by decide +kernel, rfl, by decide +kernel, by decide +kernel⟩
abbrev s_Post_answers : Stmt := inClass (topS 5) 8
abbrev N_Post_answers : List Str := ["self", "other"]
theorem sc_Post_answers : FnScope N_Post_answers ["self"] (defScope s_Post_answers) := ⟨rfl, rfl, rfl, by decide +kernel, rfl, by decide +kernel, by decide +kernel⟩
abbrev s_Post_copy : Stmt := inClass (topS 5) 10
abbrev N_Post_copy : List Str := ["self", "twin"]
theorem sc_Post_copy : FnScope N_Post_copy ["self"] (defScope s_Post_copy) := ⟨rfl, rfl, rfl, by decide +kernel, rfl, by decide +kernel, by decide +kernel⟩
abbrev s_tells : Stmt := topS 6
abbrev N_tells : List Str := ["told", "number", "low", "beyond"]
theorem sc_tells : FnScope N_tells ["told", "number"] (defScope s_tells) := ⟨rfl, rfl, rfl, by decide +kernel, rfl, by decide +kernel, by decide +kernel⟩
abbrev s_with_number : Stmt := topS 7
abbrev N_with_number : List Str := ["told", "number", "low", "beyond", "numbers", "at"]
theorem sc_with_number : FnScope N_with_number ["told", "number"] (defScope s_with_number) := ⟨rfl, rfl, rfl, by decide +kernel, rfl, by decide +kernel, by decide +kernel⟩
abbrev s_lw_numbers : Stmt := topS 9
abbrev N_lw_numbers : List Str := ["script", "many", "numbers", "k", "cell", "j", "mixed", "base", "last"]
theorem sc_lw_numbers : FnScope N_lw_numbers ["script", "many"] (defScope s_lw_numbers) := ⟨rfl, rfl, rfl, by decide +kernel, rfl, by decide +kernel, by decide +kernel⟩
abbrev s_lw_event : Stmt := topS 10
abbrev N_lw_event : List Str := ["places", "air", "number", "other", "me", "place", "way", "goal", "body", "letter"]
theorem sc_lw_event : FnScope N_lw_event ["places", "air", "number", "other"] (defScope s_lw_event) := ⟨rfl, rfl, rfl, by decide +kernel, rfl, by decide +kernel, by decide +kernel⟩
abbrev s_lw_sound : Stmt := topS 11
abbrev N_lw_sound : List Str := ["places", "me", "place", "letter", "names", "other", "numbers", "number", "box"]
theorem sc_lw_sound : FnScope N_lw_sound ["places"] (defScope s_lw_sound) := ⟨rfl, rfl, rfl, by decide +kernel, rfl, by decide +kernel, by decide +kernel⟩
abbrev s_law : Stmt := topS 12
abbrev N_law : List Str := ["script", "numbers", "places", "me", "air", "k"]
theorem sc_law : FnScope N_law ["script"] (defScope s_law) := ⟨rfl, rfl, rfl, by decide +kernel, rfl, by decide +kernel, by decide +kernel⟩
/-- the function objects that the top has made -/
structure Fds where
  d_Post_init : FuncData
  d_Post_give : FuncData
  d_Post_take : FuncData
  d_Post_p_let_go : FuncData
  d_Post_is_taken : FuncData
  d_Post_taken : FuncData
  d_Post_next_number : FuncData
  d_Post_outbox : FuncData
  d_Post_answers : FuncData
  d_Post_copy : FuncData
  d_tells : FuncData
  d_with_number : FuncData
  d_lw_numbers : FuncData
  d_lw_event : FuncData
  d_lw_sound : FuncData
  d_law : FuncData
/-- what the walks ask of the top -/
structure Txt (K : PySem.W.Frag) (mg : Str → Option Value) (w : World) (a : Fds) : Prop where
  F_Post_init : FunD K "__init__" "Post.__init__" (defArgs s_Post_init) (defBody s_Post_init) (defScope s_Post_init) [] [] (He.ma K (He.ga K "Post") "__init__") a.d_Post_init
  b_Post_init : Binds K a.d_Post_init ["self", "me"] []
  k_Post : Mk K (He.ga K "Post") (He.ma K (He.ga K "Post") "__init__")
  F_Post_give : FunD K "give" "Post.give" (defArgs s_Post_give) (defBody s_Post_give) (defScope s_Post_give) [] [] (He.ma K (He.ga K "Post") "give") a.d_Post_give
  b_Post_give : Binds K a.d_Post_give ["self", "other", "body"] []
  m_Post_give : Meth K (He.ga K "Post") "give" (He.ma K (He.ga K "Post") "give")
  F_Post_take : FunD K "take" "Post.take" (defArgs s_Post_take) (defBody s_Post_take) (defScope s_Post_take) [] [] (He.ma K (He.ga K "Post") "take") a.d_Post_take
  b_Post_take : Binds K a.d_Post_take ["self", "letter"] []
  m_Post_take : Meth K (He.ga K "Post") "take" (He.ma K (He.ga K "Post") "take")
  F_Post_p_let_go : FunD K "_let_go" "Post._let_go" (defArgs s_Post_p_let_go) (defBody s_Post_p_let_go) (defScope s_Post_p_let_go) [] [] (He.ma K (He.ga K "Post") "_let_go") a.d_Post_p_let_go
  b_Post_p_let_go : Binds K a.d_Post_p_let_go ["self", "other", "told"] []
  m_Post_p_let_go : Meth K (He.ga K "Post") "_let_go" (He.ma K (He.ga K "Post") "_let_go")
  F_Post_is_taken : FunD K "is_taken" "Post.is_taken" (defArgs s_Post_is_taken) (defBody s_Post_is_taken) (defScope s_Post_is_taken) [] [] (He.ma K (He.ga K "Post") "is_taken") a.d_Post_is_taken
  b_Post_is_taken : Binds K a.d_Post_is_taken ["self", "other", "number"] []
  m_Post_is_taken : Meth K (He.ga K "Post") "is_taken" (He.ma K (He.ga K "Post") "is_taken")
  F_Post_taken : FunD K "taken" "Post.taken" (defArgs s_Post_taken) (defBody s_Post_taken) (defScope s_Post_taken) [] [] (He.ma K (He.ga K "Post") "taken") a.d_Post_taken
  b_Post_taken : Binds K a.d_Post_taken ["self", "other"] []
  m_Post_taken : Meth K (He.ga K "Post") "taken" (He.ma K (He.ga K "Post") "taken")
  F_Post_next_number : FunD K "next_number" "Post.next_number" (defArgs s_Post_next_number) (defBody s_Post_next_number) (defScope s_Post_next_number) [] [] (He.ma K (He.ga K "Post") "next_number") a.d_Post_next_number
  b_Post_next_number : Binds K a.d_Post_next_number ["self", "other"] []
  m_Post_next_number : Meth K (He.ga K "Post") "next_number" (He.ma K (He.ga K "Post") "next_number")
  F_Post_outbox : FunD K "outbox" "Post.outbox" (defArgs s_Post_outbox) (defBody s_Post_outbox) (defScope s_Post_outbox) [] [] (He.ma K (He.ga K "Post") "outbox") a.d_Post_outbox
  b_Post_outbox : Binds K a.d_Post_outbox ["self"] []
  m_Post_outbox : Meth K (He.ga K "Post") "outbox" (He.ma K (He.ga K "Post") "outbox")
  F_Post_answers : FunD K "answers" "Post.answers" (defArgs s_Post_answers) (defBody s_Post_answers) (defScope s_Post_answers) [] [] (He.ma K (He.ga K "Post") "answers") a.d_Post_answers
  b_Post_answers : Binds K a.d_Post_answers ["self"] []
  m_Post_answers : Meth K (He.ga K "Post") "answers" (He.ma K (He.ga K "Post") "answers")
  F_Post_copy : FunD K "copy" "Post.copy" (defArgs s_Post_copy) (defBody s_Post_copy) (defScope s_Post_copy) [] [] (He.ma K (He.ga K "Post") "copy") a.d_Post_copy
  b_Post_copy : Binds K a.d_Post_copy ["self"] []
  m_Post_copy : Meth K (He.ga K "Post") "copy" (He.ma K (He.ga K "Post") "copy")
  F_tells : Cm.FnP K "_tells" s_tells (He.ga K "_tells") a.d_tells
  b_tells : Binds K a.d_tells ["told", "number"] []
  g_tells : mg "_tells" = some (.ref (He.ga K "_tells"))
  F_with_number : Cm.FnP K "_with_number" s_with_number (He.ga K "_with_number") a.d_with_number
  b_with_number : Binds K a.d_with_number ["told", "number"] []
  g_with_number : mg "_with_number" = some (.ref (He.ga K "_with_number"))
  F_lw_numbers : Cm.FnP K "_law_numbers" s_lw_numbers (He.ga K "_law_numbers") a.d_lw_numbers
  b_lw_numbers : Binds K a.d_lw_numbers ["script", "many"] []
  g_lw_numbers : mg "_law_numbers" = some (.ref (He.ga K "_law_numbers"))
  F_lw_event : Cm.FnP K "_law_event" s_lw_event (He.ga K "_law_event") a.d_lw_event
  b_lw_event : Binds K a.d_lw_event ["places", "air", "number", "other"] []
  g_lw_event : mg "_law_event" = some (.ref (He.ga K "_law_event"))
  F_lw_sound : Cm.FnP K "_law_sound" s_lw_sound (He.ga K "_law_sound") a.d_lw_sound
  b_lw_sound : Binds K a.d_lw_sound ["places"] []
  g_lw_sound : mg "_law_sound" = some (.ref (He.ga K "_law_sound"))
  F_law : Cm.FnP K "law" s_law (He.ga K "law") a.d_law
  b_law : Binds K a.d_law ["script"] []
  g_law : mg "law" = some (.ref (He.ga K "law"))
  g_PortError : mg "PortError" = some (.ref (He.ga K "PortError"))
  g_NotAllowed : mg "NotAllowed" = some (.ref (He.ga K "NotAllowed"))
  g_Post : mg "Post" = some (.ref (He.ga K "Post"))
  c_Post : Cls K (He.ga K "Post")
  n_Post__me : NoAttr K (He.ga K "Post") "_me"
  n_Post__letters : NoAttr K (He.ga K "Post") "_letters"
  n_Post__numbers : NoAttr K (He.ga K "Post") "_numbers"
  n_Post__heard : NoAttr K (He.ga K "Post") "_heard"
  g_tuple : mg "tuple" = none
  g_sorted : mg "sorted" = none
  g_list : mg "list" = none
  g_dict : mg "dict" = none
  g_len : mg "len" = none
  g_range : mg "range" = none
  g_abs : mg "abs" = none
  g_max : mg "max" = none
  g_int : mg "int" = none
  g_min : mg "min" = none
  g_set : mg "set" = none
  x_NotAllowed : PySem.W.excIn K (He.ga K "NotAllowed") [.type "ValueError", .type "Exception", .type "BaseException", .type "object"] "ValueError.__new__" = true
  k_NotAllowed : PySem.W.keepIn K (.ref (He.ga K "NotAllowed")) = true
  s_NotAllowed : PySem.W.subIn K (.ref (He.ga K "NotAllowed")) (.type "BaseException") = some true
  t_NotAllowed : PySem.W.typeIn K (.ref (He.ga K "NotAllowed")) = some (.type "type")
variable {P : Program} {w : World} {K : PySem.W.Frag} {mg : Str → Option Value} {base : Heap} {a : Fds}
/-! ### the numbers of a script (the family with % 10007) -/
abbrev NumOk (ns : List Int) : Prop := ∀ n ∈ ns, 0 ≤ n ∧ n < 2147483647
def spNum2 (K : PySem.W.Frag) : Sp := fun vs H Q _ => ∃ (l : Addr) (ns : List Int) (many : Nat), vs = [.ref l, .int many] ∧ SqL K H l (ns.map V.int) ∧ ns.length ≤ 63 ∧ many ≤ 1000 ∧
  ∀ (H' : Hp) (p : Addr) (ms : List Int), Same H H' → H p = none → H' p = some (.lst (ms.map V.int)) → ms.length = many → NumOk ms → Q (.ref p) H'
theorem num_snoc {ns : List Int} {n : Int} (h : NumOk ns) (h0 : 0 ≤ n) (h1 : n < 2147483647) : NumOk (ns ++ [n]) := fun m hm => by
  rcases List.mem_append.mp hm with hm | hm
  · exact h m hm
  · rw [List.mem_singleton.mp hm]
    exact ⟨h0, h1⟩
theorem map_snoc {ns : List Int} {n : Int} : ns.map V.int ++ [V.int n] = (ns ++ [n]).map V.int := by
  rw [List.map_append]
  rfl
theorem len_map {ns : List Int} : (ns.map V.int).length = ns.length := List.length_map ..
theorem pMod : (0 : Int) < 10007 := by decide
theorem pMersenne : (0 : Int) < 2147483647 := by decide
theorem mersenne (z : Int) : 0 ≤ z % 2147483647 ∧ z % 2147483647 < 2147483647 := by omega
theorem cut_all {xs : List V} {n : Nat} (h : xs.length = n) : cutV xs none (some (n : Int)) = xs := by
  unfold cutV
  rw [HT.sIx_nat, show HT.sIx xs.length 0 none = 0 from rfl]
  rw [← h, Nat.min_self]
  simp
theorem ok_lw_numbers (T : Txt K mg w a) : FnOk P w K mg base CX0 1 (He.ga K "_law_numbers") a.d_lw_numbers ["script", "many"] (spNum2 K) := by
  refine T.F_lw_numbers.ok sc_lw_numbers (fun vs H Q E h => ?_) (fun cdv A outer s H vs Q E hr h => ?_)
  · obtain ⟨l, ns, many, rfl, _⟩ := h
    rfl
  · obtain ⟨l, sc, many, rfl, hl, hsc, hm, q⟩ := h
    refine ⟨_, PSs.nox (pss_cons (ps_set (i := 2) sc_lw_numbers.nd rfl (Or.inl rfl) (pe_lst pa_nil))
      (pss_cons (ps_for PassesOwn.never rfl (pi_range1 (by rfl) T.g_range (pa_cons (pe_callB call_len_seq (by rfl) T.g_len boot_len (pa_cons (pv 0) pa_nil)) pa_nil)) (pg_name (i := 3) sc_lw_numbers.nd rfl (Or.inl rfl))
      (pss_cons (ps_set (i := 4) sc_lw_numbers.nd rfl (Or.inl rfl) (pe_callB call_abs (by rfl) T.g_abs boot_abs (pa_cons (pe_callTy call_int1 (by rfl) T.g_int boot_int (pa_cons (pe_ix ix_list (pv 0) (pv 3) (fun _ _ => rfl)) pa_nil)) pa_nil)))
      (pss_one (ps_if (pt_cmpR op_ge (pv 4) (pe_op op_pow pe_int pe_int) (nomark _)) (pss_one (ps_for PassesOwn.never rfl (pi_range1 (by rfl) T.g_range (pa_cons pe_int pa_nil)) (pg_name (i := 5) sc_lw_numbers.nd rfl (Or.inl rfl))
      (pss_one (ps_if (PW.pt (pw_and (pt_cmpR op_gt (pv 4) pe_int (nomark _)) (pw_and1 (pt_cmpR op_lt (pe_callB call_len_seq (by rfl) T.g_len boot_len (pa_cons (pv 2) pa_nil)) (pv 1) (nomark _))))) (pss_cons (ps_expr (pe_bm PySem.F.plainAttrs_list PySem.F.slot_list_append PySem.F.type_list_append mt_append (pv 2) (pa_cons (pe_op op_mod (pv 4) pe_int) pa_nil)))
      (pss_one (ps_set (i := 4) sc_lw_numbers.nd rfl (Or.inl rfl) (pe_op op_fdiv (pv 4) pe_int)))) pss_nil)))) (pss_one (ps_if (pt_cmpR op_lt (pe_callB call_len_seq (by rfl) T.g_len boot_len (pa_cons (pv 2) pa_nil)) (pv 1) (nomark _)) (pss_cons (ps_set (i := 6) sc_lw_numbers.nd rfl (Or.inl rfl) (pe_op op_mod (pe_callTy call_int1 (by rfl) T.g_int boot_int (pa_cons (pe_op op_add (pe_op op_add (pe_op op_mul (pv 4) pe_int) (pe_op op_mul (pv 3) pe_int)) pe_int) pa_nil)) pe_int))
      (pss_one (ps_expr (pe_bm PySem.F.plainAttrs_list PySem.F.slot_list_append PySem.F.type_list_append mt_append (pv 2) (pa_cons (pe_op op_fdiv (pe_op op_mod (pe_callTy call_int1 (by rfl) T.g_int boot_int (pa_cons (pe_op op_add (pe_op op_add (pe_op op_mul (pv 6) pe_int) (pe_op op_mul pe_int (pv 3))) pe_int) pa_nil)) pe_int) pe_int) pa_nil))))) pss_nil))))))
      (pss_cons (ps_set (i := 7) sc_lw_numbers.nd rfl (Or.inl rfl) (pe_callB call_len_seq (by rfl) T.g_len boot_len (pa_cons (pv 2) pa_nil)))
      (pss_cons (ps_set (i := 8) sc_lw_numbers.nd rfl (Or.inl rfl) (pe_op op_add pe_int (pe_callB call_len_seq (by rfl) T.g_len boot_len (pa_cons (pv 0) pa_nil))))
      (pss_cons (ps_for PassesOwn.never rfl (pi_range1 (by rfl) T.g_range (pa_cons (pe_callB (call_max2 rfl) (by rfl) T.g_max boot_max (pa_cons pe_int (pa_cons (pe_op op_sub (pv 1) (pv 7)) pa_nil))) pa_nil)) (pg_name (i := 3) sc_lw_numbers.nd rfl (Or.inl rfl))
      (pss_cons (ps_if (pt_cmpR op_gt (pv 7) pe_int (nomark _)) (pss_one (ps_set (i := 8) sc_lw_numbers.nd rfl (Or.inl rfl) (pe_op op_add (pv 8) (pe_ix ix_list (pv 2) (pe_op op_mod (pv 3) (pv 7)) (fun _ _ => rfl))))) pss_nil)
      (pss_cons (ps_set (i := 8) sc_lw_numbers.nd rfl (Or.inl rfl) (pe_op op_mod (pe_callTy call_int1 (by rfl) T.g_int boot_int (pa_cons (pe_op op_add (pe_op op_mul (pv 8) pe_int) (pv 3)) pa_nil)) pe_int))
      (pss_one (ps_expr (pe_bm PySem.F.plainAttrs_list PySem.F.slot_list_append PySem.F.type_list_append mt_append (pv 2) (pa_cons (pe_op op_fdiv (pv 8) pe_int) pa_nil)))))))
      (pss_one (ps_ret (pe_slice sl_list (pv 2) po_none (po_some (pv 1)))))))))), ?_⟩
    -- numbers = []
    refine ⟨Nat.zero_le _, fun p np => ?_⟩
    have s0 : Same H (upd H p (.lst [])) := Cm.same_new np
    -- for k in range(len(script))
    refine ⟨_, rfl, l, _, rfl, .inl (s0.seq hl), ((sc.map V.int).length : Int), rfl, by omega, by rw [len_map]; omega, ?_⟩
    rw [Int.toNat_natCast]
    refine for_range (fun i σ H2 => ∃ (ms : List Int) (x3 x4 x5 x6 : Option V), σ = [some (.ref l), some (.int many), some (.ref p), x3, x4, x5, x6, none, none] ∧ Same H H2 ∧ H2 p = some (.lst (ms.map V.int)) ∧ ms.length ≤ many ∧ NumOk ms)
      ⟨[], none, none, none, none, rfl, s0, upd_same, Nat.zero_le _, fun n h => nomatch h⟩ (fun i σ H2 hi ⟨ms, x3, x4, x5, x6, e, s2, hp, hn, ha⟩ => ?_) fun σ H2 ⟨ms, x3, x4, x5, x6, e, s2, hp, hn, ha⟩ => ?_
    · subst e
      rw [len_map] at hi
      obtain ⟨c, _, ec⟩ := Cm.at_int (ns := sc) (i := (0 + (i : Int))) (by omega) (by omega)
      refine ⟨_, rfl, _, rfl, l, _, _, _, rfl, rfl, s2.seq hl, ec, .inl ⟨_, rfl, _, rfl, ?_⟩⟩
      generalize (if c < 0 then -c else c) = c0
      refine ⟨_, rfl, _, _, rfl, rfl, ⟨by decide, by decide, by decide⟩, _, _, rfl, rfl, _, rfl, Cm.itD (fun _ => ?_) fun _ => ?_⟩
      · refine ⟨60, rfl, by decide, by decide, for_range (n := 60) (fun j σ H2 => ∃ (ms : List Int) (c : Int) (x5 : Option V), σ = [some (.ref l), some (.int many), some (.ref p), some (.int (0 + (i : Int))), some (.int c), x5, x6, none, none] ∧ Same H H2 ∧ H2 p = some (.lst (ms.map V.int)) ∧ ms.length ≤ many ∧ NumOk ms)
          ⟨ms, c0, x5, rfl, s2, hp, hn, ha⟩ (fun j σ H2 hj ⟨ms, c, x5, e, s2, hp, hn, ha⟩ => ?_) fun σ H2 ⟨ms, c, x5, e, s2, hp, hn, ha⟩ => ?_⟩
        · subst e
          refine ⟨_, rfl, _, _, rfl, rfl, _, rfl, Cm.itD (fun h1 => ?_) fun h1 => ?_⟩
          · refine ⟨_, rfl, p, _, rfl, .inl (SqL.of hp), _, rfl, _, _, rfl, rfl, _, rfl, Cm.itD (fun h2 => ?_) fun h2 => ?_⟩
            · rw [len_map] at h2
              refine ⟨_, rfl, .inl ⟨rfl, _, SqL.of hp⟩, _, rfl, _, _, rfl, rfl, pMod, p, _, _, rfl, rfl, hp, Cm.smallL (by rw [len_map]; omega), ?_⟩
              refine ⟨_, rfl, _, _, rfl, rfl, ⟨by decide, by decide⟩, ?_⟩
              exact ⟨ms ++ [c % 10007], _, _, rfl, Cm.same_mut s2 np, by rw [upd_same, map_snoc], by rw [List.length_append]; simp only [List.length_cons, List.length_nil]; omega, num_snoc ha (by omega) (by omega)⟩
            · exact ⟨ms, c, _, rfl, s2, hp, hn, ha⟩
          · exact ⟨ms, c, _, rfl, s2, hp, hn, ha⟩
        · subst e
          exact ⟨ms, _, _, _, _, rfl, s2, hp, hn, ha⟩
      · refine ⟨_, rfl, p, _, rfl, .inl (SqL.of hp), _, rfl, _, _, rfl, rfl, _, rfl, Cm.itD (fun h2 => ?_) fun h2 => ?_⟩
        · rw [len_map] at h2
          refine ⟨_, rfl, _, _, rfl, rfl, .inr ⟨by decide, by decide⟩, _, rfl, _, _, rfl, rfl, .inr ⟨by decide, by decide⟩, _, _, rfl, rfl, _, _, rfl, rfl, .inl ⟨_, rfl, _, _, rfl, rfl, pMersenne, ?_⟩⟩
          refine ⟨_, rfl, .inl ⟨rfl, _, SqL.of hp⟩, _, rfl, _, _, rfl, rfl, .inr ⟨by decide, by decide⟩, _, rfl, _, _, rfl, rfl, .inl ⟨by decide, by decide⟩, _, _, rfl, rfl, _, _, rfl, rfl, .inl ⟨_, rfl, _, _, rfl, rfl, pMersenne, _, _, rfl, rfl, ⟨by decide, by decide⟩, p, _, _, rfl, rfl, hp, Cm.smallL (by rw [len_map]; omega), ?_⟩⟩
          have hy := mersenne ((c0 * 48271 + (0 + (i : Int)) * 69621 + 11) % 2147483647 * 16807 + 7 * (0 + (i : Int)) + 3)
          exact ⟨ms ++ [((c0 * 48271 + (0 + (i : Int)) * 69621 + 11) % 2147483647 * 16807 + 7 * (0 + (i : Int)) + 3) % 2147483647 / 3], _, _, _, _, rfl, Cm.same_mut s2 np, by rw [upd_same, map_snoc], by rw [List.length_append]; simp only [List.length_cons, List.length_nil]; omega, num_snoc ha (by omega) (by omega)⟩
        · exact ⟨ms, _, _, _, _, rfl, s2, hp, hn, ha⟩
    · subst e
      -- base = len(numbers)
      refine ⟨_, rfl, p, _, rfl, .inl (SqL.of hp), ?_⟩
      rw [len_map]
      refine ⟨_, rfl, l, _, rfl, .inl (s2.seq hl), _, _, rfl, rfl, ?_⟩
      rw [len_map]
      -- for k in range(max(0, many - base))
      refine ⟨_, rfl, _, rfl, _, _, rfl, rfl, _, _, rfl, _, rfl, by split <;> omega, by split <;> omega, ?_⟩
      rw [show (if (many : Int) - (ms.length : Int) > 0 then (many : Int) - (ms.length : Int) else 0).toNat = many - ms.length by split <;> omega]
      have nb : NumOk ms := ha
      refine for_range (n := many - ms.length) (fun i σ H2 => ∃ (m2 : List Int) (L : Int) (x3 : Option V), σ = [some (.ref l), some (.int many), some (.ref p), x3, x4, x5, x6, some (.int ms.length), some (.int L)] ∧ (0 ≤ L ∧ L < 2147483647) ∧ Same H H2 ∧ H2 p = some (.lst (m2.map V.int)) ∧ m2.length = ms.length + i ∧ NumOk m2)
        ⟨ms, _, _, rfl, ⟨by omega, by omega⟩, s2, hp, rfl, ha⟩ (fun i σ H2 hi ⟨m2, L, x3, e, hL, s2, hp, hn2, ha⟩ => ?_) fun σ H2 ⟨m2, L, x3, e, hL, s2, hp, hn2, ha⟩ => ?_
      · subst e
        refine ⟨_, rfl, _, _, rfl, rfl, _, rfl, Cm.itD (fun hb => ?_) fun hb => ?_⟩
        · have hb0 : (0 : Int) < (ms.length : Int) := hb
          have g0 := Int.emod_nonneg (0 + (i : Int)) (show (ms.length : Int) ≠ 0 by omega)
          have g1 := Int.emod_lt_of_pos (0 + (i : Int)) hb0
          obtain ⟨v, hv, ev⟩ := Cm.at_int (ns := m2) (i := (0 + (i : Int)) % (ms.length : Int)) g0 (by omega)
          obtain ⟨hv0, hv1⟩ := ha v hv
          refine ⟨_, rfl, _, rfl, _, rfl, _, rfl, _, _, rfl, rfl, hb0, p, _, _, _, rfl, rfl, SqL.of hp, ev, _, _, rfl, rfl, ?_⟩
          refine ⟨_, rfl, _, _, rfl, rfl, .inr ⟨by decide, by decide⟩, _, rfl, _, _, rfl, rfl, .inl ⟨_, rfl, _, _, rfl, rfl, pMersenne, ?_⟩⟩
          have hy := mersenne ((L + v) * 48271 + (0 + (i : Int)))
          refine ⟨_, rfl, .inl ⟨rfl, _, SqL.of hp⟩, _, rfl, _, _, rfl, rfl, ⟨by decide, by decide⟩, p, _, _, rfl, rfl, hp, Cm.smallL (by rw [len_map]; omega), ?_⟩
          exact ⟨m2 ++ [((L + v) * 48271 + (0 + (i : Int))) % 2147483647 / 7], _, _, rfl, hy, Cm.same_mut s2 np, by rw [upd_same, map_snoc], by rw [List.length_append]; simp only [List.length_cons, List.length_nil]; omega, num_snoc ha (by omega) (by omega)⟩
        · refine ⟨_, rfl, _, _, rfl, rfl, .inr ⟨by decide, by decide⟩, _, rfl, _, _, rfl, rfl, .inl ⟨_, rfl, _, _, rfl, rfl, pMersenne, ?_⟩⟩
          have hy := mersenne (L * 48271 + (0 + (i : Int)))
          refine ⟨_, rfl, .inl ⟨rfl, _, SqL.of hp⟩, _, rfl, _, _, rfl, rfl, ⟨by decide, by decide⟩, p, _, _, rfl, rfl, hp, Cm.smallL (by rw [len_map]; omega), ?_⟩
          exact ⟨m2 ++ [(L * 48271 + (0 + (i : Int))) % 2147483647 / 7], _, _, rfl, hy, Cm.same_mut s2 np, by rw [upd_same, map_snoc], by rw [List.length_append]; simp only [List.length_cons, List.length_nil]; omega, num_snoc ha (by omega) (by omega)⟩
      · subst e
        have hl2 : m2.length = many := by omega
        refine ⟨_, rfl, _, rfl, _, rfl, p, _, rfl, SqL.of hp, fun p2 np2 => ?_⟩
        rw [cut_all (by rw [len_map]; exact hl2)]
        exact q _ p2 m2 (s2.trans (Cm.same_new np2)) (s2.free np2) upd_same hl2 ha
/-- numbers[x % len(numbers)] -/
theorem at_mod {ns : List Int} (x : Int) (h : 0 < ns.length) : (0 : Int) < ((ns.map V.int).length : Int) ∧ ∃ v, v ∈ ns ∧ atI (ns.map V.int) (x % ((ns.map V.int).length : Int)) = some (.int v) := by
  have hp : (0 : Int) < ((ns.map V.int).length : Int) := by
    rw [len_map]
    omega
  have h0 := Int.emod_nonneg x (show ((ns.map V.int).length : Int) ≠ 0 by omega)
  have h1 := Int.emod_lt_of_pos x hp
  obtain ⟨v, hv, ev⟩ := Cm.at_int (ns := ns) h0 (by rw [len_map] at h1 ⊢; exact h1)
  exact ⟨hp, v, hv, ev⟩
/-! ### a post: its attributes -/
theorem putF_len (f : Str) (v : V) : ∀ fs : List (Str × V), (putF f v fs).length ≤ fs.length + 1
  | [] => Nat.le_refl _
  | (g, u) :: r => by
    have ih := putF_len f v r
    unfold putF
    split <;> simp only [List.length_cons] <;> omega

abbrev CPo (K : PySem.W.Frag) : Addr := He.ga K "Post"
def fldsP (me : Int) (ol nd hd : Addr) : List (Str × V) := putF "_heard" (.ref hd) (putF "_numbers" (.ref nd) (putF "_letters" (.ref ol) (putF "_me" (.int me) [])))
theorem fp_heard {me : Int} {ol nd hd : Addr} : (fldsP me ol nd hd).lookup ("_heard" : Str) = some (.ref hd) := by
  unfold fldsP
  rw [lookup_putF, if_pos rfl]
theorem fp_numbers {me : Int} {ol nd hd : Addr} : (fldsP me ol nd hd).lookup ("_numbers" : Str) = some (.ref nd) := by
  unfold fldsP
  rw [lookup_putF, if_neg (by decide +kernel), lookup_putF, if_pos rfl]
theorem fp_letters {me : Int} {ol nd hd : Addr} : (fldsP me ol nd hd).lookup ("_letters" : Str) = some (.ref ol) := by
  unfold fldsP
  rw [lookup_putF, if_neg (by decide +kernel), lookup_putF, if_neg (by decide +kernel), lookup_putF, if_pos rfl]
theorem fp_me {me : Int} {ol nd hd : Addr} : (fldsP me ol nd hd).lookup ("_me" : Str) = some (.int me) := by
  unfold fldsP
  rw [lookup_putF, if_neg (by decide +kernel), lookup_putF, if_neg (by decide +kernel), lookup_putF, if_neg (by decide +kernel), lookup_putF, if_pos rfl]
theorem fp_no {me : Int} {ol nd hd : Addr} {m : Str} (h : m ∉ (["_heard", "_numbers", "_letters", "_me"] : List Str)) : (fldsP me ol nd hd).lookup m = none := by
  unfold fldsP
  simp only [List.mem_cons, List.not_mem_nil, or_false, not_or] at h
  rw [lookup_putF, if_neg (fun e => h.1 e), lookup_putF, if_neg (fun e => h.2.1 e), lookup_putF, if_neg (fun e => h.2.2.1 e), lookup_putF, if_neg (fun e => h.2.2.2 e)]
  rfl
theorem rps_ints {H : Hp} : ∀ {vs : List V} {ns : List Int}, Rps K H vs (ns.map PyData.int) → vs = ns.map V.int
  | _, [], h => h.nil_inv
  | _, n :: ns, h => by
    obtain ⟨v, r, rfl, h1, h2⟩ := h.cons_inv
    rw [h1.int_inv, rps_ints h2]
    rfl
theorem ints_rps {H : Hp} : ∀ ns : List Int, Rps K H (ns.map V.int) (ns.map PyData.int)
  | [] => .nil
  | n :: ns => .cons (.int n) (ints_rps ns)
abbrev srtI (l : List Int) : List Int := l.mergeSort (fun a b => decide (a ≤ b))
theorem srt_ints (l : List Int) : SortN.srt (l.map PyData.int) = (srtI l).map PyData.int :=
  (PySem.W.sort_maps (r := fun a b : Int => decide (a ≤ b)) (s := SortN.dle) PyData.int (l := l) fun a _ b _ => (congrFun (congrFun (PySem.W.dataLe_int (fun x : Int => x)) a) b).symm).symm
theorem ints_alike (l : List Int) : PySem.W.AllAlike (l.map PyData.int) := by
  intro d hd d' hd'
  obtain ⟨a, _, rfl⟩ := List.mem_map.mp hd
  obtain ⟨b, _, rfl⟩ := List.mem_map.mp hd'
  simp [PySem.W.alike]
theorem ints_depth (l : List Int) : ∀ d ∈ l.map PyData.int, d.depth ≤ 50 := by
  intro d hd
  obtain ⟨a, _, rfl⟩ := List.mem_map.mp hd
  simp [PyData.depth]
/-! ### what numbers were taken -/
theorem in_ints {n : Int} : ∀ {l : List Int}, inV (.int n) (l.map V.int) = decide (n ∈ l)
  | [] => rfl
  | x :: r => by
    show (eqV (.int x) (.int n) || inV (.int n) (r.map V.int)) = _
    rw [in_ints (l := r)]
    show ((x == n) || decide (n ∈ r)) = _
    by_cases e : x = n
    · simp [e]
    · rw [show (x == n) = false from by simpa using e, Bool.false_or, decide_eq_decide]
      exact ⟨List.mem_cons_of_mem _, fun z => (List.mem_cons.mp z).elim (fun h => absurd h.symm e) id⟩
theorem flat_ints : ∀ {l : List Int}, (l.map V.int).all flatV = true
  | [] => rfl
  | x :: r => flat_ints (l := r)
/-- what a pair (low, beyond) tells -/
def tellsF (low : Int) (bey : List Int) (n : Int) : Bool := (decide (0 ≤ n) && decide (n < low)) || decide (n ∈ bey)
def spTells (K : PySem.W.Frag) : Sp := fun vs H Q _ => ∃ (b by_ : Addr) (low n : Int) (bey : List Int), vs = [.ref b, .int n] ∧ SqT K H b [.int low, .ref by_] ∧ SqT K H by_ (bey.map V.int) ∧ Q (.bl (tellsF low bey n)) H
theorem ok_tells (T : Txt K mg w a) : FnOk P w K mg base CX0 1 (He.ga K "_tells") a.d_tells ["told", "number"] (spTells K) := by
  refine T.F_tells.ok sc_tells (fun vs H Q E h => ?_) (fun cdv A outer s H vs Q E hr h => ?_)
  · obtain ⟨b, by_, low, n, bey, rfl, _⟩ := h
    rfl
  · obtain ⟨b, by_, low, n, bey, rfl, hb, hy, q⟩ := h
    refine ⟨_, PSs.nox (pss_cons (ps_asg (pv 0) (pg_tup (by rfl) (pgs_cons (pg_name (i := 2) sc_tells.nd rfl (Or.inl rfl)) (pgs_cons (pg_name (i := 3) sc_tells.nd rfl (Or.inl rfl)) pgs_nil))))
      (pss_one (ps_ret (pe_or (pe_chain op_le op_lt pe_int (pv 1) (pv 2)) (pe_one (pe_cmpR op_in_seq (pv 1) (pv 3) (by rfl))))))), ?_⟩
    rw [show L2.start N_tells [.ref b, .int n] = [some (.ref b), some (.int n), none, none] from rfl]
    refine ⟨_, rfl, b, _, rfl, hb, rfl, _, _, rfl, _, _, rfl, rfl, ?_⟩
    have fin : ∀ Q' : VK, Q' (.bl (decide (n ∈ bey))) H → rIn K false (.int n) (.ref by_) H Q' := fun Q' z => by
      refine ⟨by_, _, rfl, .inr hy, rfl, flat_ints, ?_⟩
      rw [show (if false = true then !inV (.int n) (bey.map V.int) else inV (.int n) (bey.map V.int)) = decide (n ∈ bey) from in_ints]
      exact z
    refine ⟨_, rfl, _, _, rfl, rfl, _, rfl, Cm.itD (fun h0 => ⟨_, rfl, _, _, rfl, rfl, _, rfl, Cm.itD (fun h1 => ?_) fun h1 => ?_⟩) fun h0 => ⟨false, rfl, iteF ?_⟩⟩
    · rw [show tellsF low bey n = true from by simp [tellsF, h0, h1]] at q
      exact q
    · rw [show tellsF low bey n = decide (n ∈ bey) from by simp [tellsF, h0, h1]] at q
      exact ⟨_, rfl, _, rfl, fin _ q⟩
    · rw [show tellsF low bey n = decide (n ∈ bey) from by simp [tellsF, h0]] at q
      exact ⟨_, rfl, _, rfl, fin _ q⟩
theorem cut_from {xs : List V} {k : Nat} (h : k ≤ xs.length) : cutV xs (some (k : Int)) none = xs.drop k := by
  have e0 : HT.sIx xs.length 0 (some (k : Int)) = k := by
    show HT.sIx xs.length 0 (some (k : Int)) = k
    unfold HT.sIx
    simp only
    rw [if_neg (by omega)]
    have : ((k : Int)).toNat = k := by omega
    simp only [this]
    omega
  unfold cutV
  rw [e0, HT.sIx_none]
  exact List.take_of_length_le (by rw [List.length_drop]; exact Nat.le_refl _)
/-- how many of a row follow one another from low on -/
def runF : List Int → Int → Nat
  | [], _ => 0
  | x :: r, low => if x = low then runF r (low + 1) + 1 else 0
theorem runF_le : ∀ (l : List Int) (low : Int), runF l low ≤ l.length
  | [], _ => Nat.le_refl _
  | x :: r, low => by
    show (if x = low then runF r (low + 1) + 1 else 0) ≤ r.length + 1
    have := runF_le r (low + 1)
    split <;> omega
def withF (low : Int) (bey : List Int) (n : Int) : Int × List Int := (low + (runF (srtI (bey ++ [n])) low : Int), (srtI (bey ++ [n])).drop (runF (srtI (bey ++ [n])) low))
def PairAt (K : PySem.W.Frag) (H : Hp) (v : V) (pr : Int × List Int) : Prop := ∃ b by_, v = .ref b ∧ SqT K H b [.int pr.1, .ref by_] ∧ SqT K H by_ (pr.2.map V.int)
def spWithN (K : PySem.W.Frag) : Sp := fun vs H Q _ => ∃ (v : V) (pr : Int × List Int) (n : Int), vs = [v, .int n] ∧ PairAt K H v pr ∧ pr.2.length ≤ 1000 ∧ ∀ H' v', Same H H' → PairAt K H' v' (withF pr.1 pr.2 n) → Q v' H'
theorem ok_with_number (T : Txt K mg w a) : FnOk P w K mg base CX0 1 (He.ga K "_with_number") a.d_with_number ["told", "number"] (spWithN K) := by
  refine T.F_with_number.ok sc_with_number (fun vs H Q E h => ?_) (fun cdv A outer s H vs Q E hr h => ?_)
  · obtain ⟨v, pr, n, rfl, _⟩ := h
    rfl
  · obtain ⟨v, ⟨low, bey⟩, n, rfl, ⟨b, by_, rfl, hb, hy⟩, hl, q⟩ := h
    refine ⟨_, PSs.nox (pss_cons (ps_asg (pv 0) (pg_tup (by rfl) (pgs_cons (pg_name (i := 2) sc_with_number.nd rfl (Or.inl rfl)) (pgs_cons (pg_name (i := 3) sc_with_number.nd rfl (Or.inl rfl)) pgs_nil))))
      (pss_cons (ps_set (i := 4) sc_with_number.nd rfl (Or.inl rfl) (pe_callB (SortN.call_sortTup rfl hr.units) (by rfl) T.g_sorted boot_sorted (pa_cons (pe_op op_catA (pv 3) (pe_tup (pa_cons (pv 1) pa_nil))) pa_nil)))
      (pss_cons (ps_set (i := 5) sc_with_number.nd rfl (Or.inl rfl) pe_int)
      (pss_cons (ps_while PassesOwn.never (PW.pt (pw_and (pt_cmpR op_lt (pv 5) (pe_callB call_len_seq (by rfl) T.g_len boot_len (pa_cons (pv 4) pa_nil)) (nomark _)) (pw_and1 (pt_cmpR op_eq (pe_ix ix_list (pv 4) (pv 5) (fun _ _ => rfl)) (pe_op op_add (pv 2) (pv 5)) (nomark _)))))
      (pss_one (ps_aug (i := 5) sc_with_number.nd rfl (Or.inl rfl) pe_int ip_add)))
      (pss_one (ps_ret (pe_tup (pa_cons (pe_op op_add (pv 2) (pv 5)) (pa_cons (pe_callTy call_tuple_of (by rfl) T.g_tuple boot_tuple (pa_cons (pe_slice sl_list (pv 4) (po_some (pv 5)) po_none) pa_nil)) pa_nil))))))))), ?_⟩
    rw [show L2.start N_with_number [.ref b, .int n] = [some (.ref b), some (.int n), none, none, none, none] from rfl]
    refine ⟨_, rfl, b, _, rfl, hb, rfl, _, _, rfl, _, _, rfl, rfl, ?_⟩
    have hl' : bey.length ≤ 1000 := hl
    refine ⟨_, rfl, _, rfl, Cm.small (by show 1 ≤ 100000; decide), fun t nt => ?_⟩
    have st := Cm.same_new (o := .tup [.int n]) nt
    refine Nst.cat_sq (Cm.sameT st hy) Cm.sqt_new (by rw [len_map]; simp only [List.length_cons, List.length_nil]; omega) fun r H2 s2 hr2 => ?_
    rw [show bey.map V.int ++ [V.int n] = (bey ++ [n]).map V.int from map_snoc] at hr2
    refine ⟨r, _, _, rfl, hr2, ints_rps _, ints_alike _, ?_, ints_depth _, fun ys nl ry nnl => ?_⟩
    · refine .inr fun d hd => ?_
      obtain ⟨i, _, rfl⟩ := List.mem_map.mp hd
      exact ⟨fun z => (nomatch z), fun xs z => (nomatch z)⟩
    · rw [srt_ints] at ry
      obtain rfl := rps_ints ry
      have s12 := st.trans s2
      have s3 := Cm.same_new (o := .lst ((srtI (bey ++ [n])).map V.int)) nnl
      have hnl : (upd H2 nl (.lst ((srtI (bey ++ [n])).map V.int))) nl = some (.lst ((srtI (bey ++ [n])).map V.int)) := upd_same
      have s13 := s12.trans s3
      generalize upd H2 nl (.lst ((srtI (bey ++ [n])).map V.int)) = H3 at *
      generalize hL : srtI (bey ++ [n]) = L at *
      have hLl : L.length = bey.length + 1 := by
        rw [← hL, List.length_mergeSort, List.length_append]
        rfl
      have hrl := runF_le L low
      simp only [gName, List.set_cons_succ, List.set_cons_zero]
      refine ⟨fun m σ Hi => Hi = H3 ∧ ∃ k : Nat, σ = [some (.ref b), some (.int n), some (.int low), some (.ref by_), some (.ref nl), some (.int k)] ∧ k ≤ L.length ∧ runF (L.drop k) (low + k) + k = runF L low ∧ m = L.length - k, ⟨_, rfl, 0, rfl, Nat.zero_le _, by simp, rfl⟩, fun m σ Hi ⟨eH, k, e, hk, hrk, hm⟩ => ?_⟩
      subst eH e
      refine ⟨_, rfl, _, rfl, nl, _, rfl, .inl (SqL.of hnl), _, _, rfl, rfl, _, rfl, Cm.itD (fun h => ?_) fun h => ?_⟩
      · rw [len_map] at h
        have hk2 : k < L.length := by omega
        obtain ⟨v, hgk⟩ : ∃ v, L[k]? = some v := ⟨_, List.getElem?_eq_getElem hk2⟩
        have ev : atI (L.map V.int) (k : Int) = some (.int v) := atI_nat (j := k) (by rw [List.getElem?_map, hgk]; rfl)
        have hdr : L.drop k = v :: L.drop (k + 1) := by
          rw [List.drop_eq_getElem_cons hk2]
          rw [List.getElem?_eq_getElem hk2] at hgk
          rw [Option.some.inj hgk]
        rw [hdr] at hrk
        have hrk' : (if v = low + (k : Int) then runF (L.drop (k + 1)) (low + k + 1) + 1 else 0) + k = runF L low := hrk
        refine ⟨_, rfl, _, rfl, nl, _, _, _, rfl, rfl, SqL.of hnl, ev, _, rfl, _, rfl, _, _, rfl, rfl, rfl, _, rfl, Cm.itEI (fun e => ?_) fun e => ?_⟩
        · rw [if_pos e] at hrk'
          refine ⟨fun σ' H' => σ' = [some (.ref b), some (.int n), some (.int low), some (.ref by_), some (.ref nl), some (.int ((k : Int) + 1))] ∧ H' = Hi, fun σ' H' ⟨e1, e2⟩ => ⟨L.length - (k + 1), by omega, e2, k + 1, by rw [e1]; rfl, by omega, ?_, rfl⟩, _, rfl, _, _, rfl, rfl, rfl, rfl⟩
          rw [← hrk', show low + ((k + 1 : Nat) : Int) = low + k + 1 by omega]
          omega
        · rw [if_neg e] at hrk'
          have hfin : runF L low = k := by omega
          refine ⟨_, rfl, _, rfl, _, _, rfl, rfl, _, rfl, _, rfl, _, rfl, nl, _, rfl, SqL.of hnl, fun p2 np2 => ⟨p2, _, rfl, .inl ⟨Cm.sql_new, fun l3 nl3 => ⟨Cm.small (by show 2 ≤ 100000; decide), fun p4 np4 => ?_⟩⟩⟩⟩
          have z1 := Cm.same_new (o := .lst (cutV (L.map V.int) (some (k : Int)) none)) np2
          have z2 := Cm.same_new (o := .tup (cutV (L.map V.int) (some (k : Int)) none)) nl3
          have z3 := Cm.same_new (o := .tup [.int (low + (k : Int)), .ref l3]) np4
          refine q _ _ (s13.trans ((z1.trans z2).trans z3)) ⟨p4, l3, rfl, ?_, ?_⟩
          · show SqT K _ p4 [.int (low + (runF (srtI (bey ++ [n])) low : Int)), .ref l3]
            rw [hL, hfin]
            exact Cm.sqt_new
          · show SqT K _ l3 (((srtI (bey ++ [n])).drop (runF (srtI (bey ++ [n])) low)).map V.int)
            rw [hL, hfin, List.map_drop, ← cut_from (by rw [len_map]; exact hk)]
            exact Cm.sameT z3 Cm.sqt_new
      · rw [len_map] at h
        have hk2 : k = L.length := by omega
        have hfin : runF L low = k := by
          rw [← hrk, hk2, List.drop_length]
          show 0 + L.length = L.length
          omega
        refine ⟨_, rfl, _, rfl, _, _, rfl, rfl, _, rfl, _, rfl, _, rfl, nl, _, rfl, SqL.of hnl, fun p2 np2 => ⟨p2, _, rfl, .inl ⟨Cm.sql_new, fun l3 nl3 => ⟨Cm.small (by show 2 ≤ 100000; decide), fun p4 np4 => ?_⟩⟩⟩⟩
        have z1 := Cm.same_new (o := .lst (cutV (L.map V.int) (some (k : Int)) none)) np2
        have z2 := Cm.same_new (o := .tup (cutV (L.map V.int) (some (k : Int)) none)) nl3
        have z3 := Cm.same_new (o := .tup [.int (low + (k : Int)), .ref l3]) np4
        refine q _ _ (s13.trans ((z1.trans z2).trans z3)) ⟨p4, l3, rfl, ?_, ?_⟩
        · show SqT K _ p4 [.int (low + (runF (srtI (bey ++ [n])) low : Int)), .ref l3]
          rw [hL, hfin]
          exact Cm.sqt_new
        · show SqT K _ l3 (((srtI (bey ++ [n])).drop (runF (srtI (bey ++ [n])) low)).map V.int)
          rw [hL, hfin, List.map_drop, ← cut_from (by rw [len_map]; exact hk)]
          exact Cm.sameT z3 Cm.sqt_new
/-! ### a post stands at p -/
abbrev Nums : Type := List (Int × Int)
abbrev Heard : Type := List (Int × (Int × List Int))
abbrev NumsV (ns : Nums) : List (Key × V) := ns.map fun x => (Sum.inl x.1, V.int x.2)
abbrev HeardV (K : PySem.W.Frag) (H : Hp) : List (Key × V) → Heard → Prop := Paired fun p q => p.1 = Sum.inl q.1 ∧ PairAt K H p.2 q.2
structure PostAt (K : PySem.W.Frag) (H : Hp) (p ol nd hd : Addr) (me : Int) (ls : List V) (ns : Nums) (hs : Heard) : Prop where
  ob : ∃ dx, H p = some (.ins (CPo K) dx (fldsP me ol nd hd))
  lt : H ol = some (.lst ls)
  nm : H nd = some (.dK (NumsV ns))
  hr : ∃ kvs, H hd = some (.dK kvs) ∧ HeardV K H kvs hs
def spPInit (K : PySem.W.Frag) : Sp := fun vs H Q _ => ∃ (p dx : Addr) (me : Int), vs = [.ref p, .int me] ∧ H p = some (.ins (CPo K) dx []) ∧
  ∀ (ol nd hd : Addr) (H' : Hp), H ol = none → H nd = none → H hd = none → nd ≠ hd → PostAt K H' p ol nd hd me [] [] [] → (∀ b o, H b = some o → b ≠ p → H' b = some o) → Q .non H'
theorem ok_Post_init (T : Txt K mg w a) : FnOk P w K mg base CX0 1 (He.ma K (CPo K) "__init__") a.d_Post_init ["self", "me"] (spPInit K) := by
  refine T.F_Post_init.ok sc_Post_init (fun vs H Q E h => ?_) (fun cdv A outer s H vs Q E hr h => ?_)
  · obtain ⟨p, dx, me, rfl, _⟩ := h
    rfl
  · obtain ⟨p, dx, me, rfl, hp, q⟩ := h
    refine ⟨_, PSs.nox (pss_cons (ps_fld (pv 0) (pv 1) rfl)
      (pss_cons (ps_fld (pv 0) (pe_lst pa_nil) rfl)
      (pss_cons (ps_fld (pv 0) pe_dnewK rfl)
      (pss_one (ps_fld (pv 0) pe_dnewK rfl))))), ?_⟩
    refine ⟨_, rfl, _, rfl, p, CPo K, dx, [], rfl, hp, T.c_Post, T.n_Post__me, by decide, ?_⟩
    have l1 := putF_len "_me" (.int me) []
    simp only [List.length_nil] at l1
    refine ⟨Nat.zero_le _, fun ol ho => ?_⟩
    have n1 : p ≠ ol := ne_of_none upd_same ho
    have l2 := putF_len "_letters" (.ref ol) (putF "_me" (.int me) [])
    refine ⟨_, rfl, p, CPo K, dx, _, rfl, by rw [upd_ne n1]; exact upd_same, T.c_Post, T.n_Post__letters, by omega, ?_⟩
    intro nd hn
    have n2 : p ≠ nd := ne_of_none upd_same hn
    have n3 : ol ≠ nd := ne_of_none (by rw [upd_ne n1.symm]; exact upd_same) hn
    have l3 := putF_len "_numbers" (.ref nd) (putF "_letters" (.ref ol) (putF "_me" (.int me) []))
    refine ⟨_, rfl, p, CPo K, dx, _, rfl, by rw [upd_ne n2]; exact upd_same, T.c_Post, T.n_Post__numbers, by omega, ?_⟩
    intro hd hh
    have n4 : p ≠ hd := ne_of_none upd_same hh
    have n5 : nd ≠ hd := ne_of_none (by rw [upd_ne n2.symm]; exact upd_same) hh
    have n6 : ol ≠ hd := ne_of_none (by rw [upd_ne n1.symm, upd_ne n3, upd_ne n1.symm]; exact upd_same) hh
    refine ⟨_, rfl, p, CPo K, dx, _, rfl, by rw [upd_ne n4]; exact upd_same, T.c_Post, T.n_Post__heard, by omega, ?_⟩
    have hon : H ol = none := by
      rw [upd_ne n1.symm] at ho
      exact ho
    have hnn : H nd = none := by
      rw [upd_ne n2.symm, upd_ne n3.symm, upd_ne n2.symm] at hn
      exact hn
    have hhn : H hd = none := by
      rw [upd_ne n4.symm, upd_ne n5.symm, upd_ne n4.symm, upd_ne n6.symm, upd_ne n4.symm] at hh
      exact hh
    refine q ol nd hd _ hon hnn hhn n5 ⟨⟨dx, upd_same⟩, ?_, ?_, ⟨[], ?_, .nil⟩⟩ fun b u hb hne => ?_
    · rw [upd_ne n1.symm, upd_ne n6, upd_ne n1.symm, upd_ne n3, upd_ne n1.symm, upd_same]
    · rw [upd_ne n2.symm, upd_ne n5, upd_ne n2.symm, upd_same]
      rfl
    · rw [upd_ne n4.symm, upd_same]
    · rw [upd_ne hne, upd_ne (ne_of_none hb hhn), upd_ne hne, upd_ne (ne_of_none hb hnn), upd_ne hne, upd_ne (ne_of_none hb hon), upd_ne hne]
      exact hb
/-! ### dicts by numbers -/
def lkA {α : Type} (ns : List (Int × α)) (k : Int) : Option α := (ns.find? fun x => decide (x.1 = k)).map (·.2)
def puA {α : Type} (ns : List (Int × α)) (k : Int) (v : α) : List (Int × α) := if (ns.any fun x => decide (x.1 = k)) = true then ns.map (fun x => if x.1 = k then (x.1, v) else x) else ns ++ [(k, v)]
theorem inl_eq {a b : Int} : ((Sum.inl a : Key) = Sum.inl b) ↔ a = b := ⟨fun h => Sum.inl.inj h, fun h => by rw [h]⟩
theorem numsV_get (k : Int) : ∀ ns : Nums, valV (NumsV ns) (Sum.inl k) = (lkA ns k).map V.int
  | [] => rfl
  | (x, n) :: r => by
    have ih := numsV_get k r
    unfold valV lkA NumsV at ih ⊢
    rw [List.map_cons, List.find?_cons, List.find?_cons]
    by_cases e : x = k
    · simp [e]
    · rw [show decide ((Sum.inl (x, n).1 : Key) = Sum.inl k) = false from decide_eq_false (fun h => e (inl_eq.mp h)), show decide ((x, n).1 = k) = false from decide_eq_false e]
      exact ih
theorem numsV_any (k : Int) (ns : Nums) : ((NumsV ns).any fun kv => decide (kv.1 = Sum.inl k)) = ns.any fun x => decide (x.1 = k) := by
  unfold NumsV
  rw [List.any_map]
  congr 1
  funext x
  show decide ((Sum.inl x.1 : Key) = Sum.inl k) = decide (x.1 = k)
  rw [decide_eq_decide]
  exact inl_eq
theorem numsV_put (k v : Int) (ns : Nums) : putK (NumsV ns) (Sum.inl k) (.int v) = NumsV (puA ns k v) := by
  unfold putK puA
  rw [numsV_any]
  split
  · unfold NumsV
    rw [List.map_map, List.map_map]
    refine List.map_congr_left fun x _ => ?_
    show (if (Sum.inl x.1 : Key) = Sum.inl k then ((Sum.inl x.1 : Key), V.int v) else (Sum.inl x.1, V.int x.2)) = (fun y : Int × Int => ((Sum.inl y.1 : Key), V.int y.2)) (if x.1 = k then (x.1, v) else x)
    by_cases e : x.1 = k
    · rw [if_pos (inl_eq.mpr e), if_pos e]
    · rw [if_neg (fun h => e (inl_eq.mp h)), if_neg e]
  · unfold NumsV
    rw [List.map_append]
    rfl
theorem heardV_get {K : PySem.W.Frag} {H : Hp} {kvs : List (Key × V)} {hs : Heard} (h : HeardV K H kvs hs) (k : Int) : match lkA hs k with | none => valV kvs (Sum.inl k) = none | some pr => ∃ v, valV kvs (Sum.inl k) = some v ∧ PairAt K H v pr := by
  induction h with
  | nil => exact rfl
  | @cons p q ps qs h t ih =>
    obtain ⟨e1, e2⟩ := h
    unfold valV lkA at ih ⊢
    rw [List.find?_cons, List.find?_cons]
    by_cases e : q.1 = k
    · rw [show decide (p.1 = Sum.inl k) = true from decide_eq_true (by rw [e1, e]), show decide (q.1 = k) = true from decide_eq_true e]
      exact ⟨_, rfl, e2⟩
    · rw [show decide (p.1 = Sum.inl k) = false from decide_eq_false (fun h => e (inl_eq.mp (e1.symm.trans h))), show decide (q.1 = k) = false from decide_eq_false e]
      exact ih
theorem PairAt.keep {K : PySem.W.Frag} {H H' : Hp} (t : TK K H H') {v : V} {pr : Int × List Int} (h : PairAt K H v pr) : PairAt K H' v pr := by
  obtain ⟨b, by_, e, h1, h2⟩ := h
  exact ⟨b, by_, e, t _ _ h1, t _ _ h2⟩
theorem HeardV.keep {K : PySem.W.Frag} {H H' : Hp} (t : TK K H H') {kvs : List (Key × V)} {hs : Heard} (h : HeardV K H kvs hs) : HeardV K H' kvs hs := Paired.mapP h fun _ _ z => ⟨z.1, z.2.keep t⟩
/-! ### what is told of it -/
def getN (ns : Nums) (k : Int) : Int := (lkA ns k).getD 0
def getH (hs : Heard) (k : Int) : Int × List Int := (lkA hs k).getD (0, [])
def spNext (K : PySem.W.Frag) : Sp := fun vs H Q _ => ∃ (p ol nd hd : Addr) (me : Int) (ls : List V) (ns : Nums) (hs : Heard) (o : Int), vs = [.ref p, .int o] ∧ PostAt K H p ol nd hd me ls ns hs ∧ Q (.int (getN ns o)) H
theorem ok_Post_next_number (T : Txt K mg w a) : FnOk P w K mg base CX0 1 (He.ma K (CPo K) "next_number") a.d_Post_next_number ["self", "other"] (spNext K) := by
  refine T.F_Post_next_number.ok sc_Post_next_number (fun vs H Q E h => ?_) (fun cdv A outer s H vs Q E hr h => ?_)
  · obtain ⟨p, ol, nd, hd, me, ls, ns, hs, o, rfl, _⟩ := h
    rfl
  · obtain ⟨p, ol, nd, hd, me, ls, ns, hs, o, rfl, G, q⟩ := h
    obtain ⟨⟨dx, h1⟩, h2, h3, kvs, h4, h5⟩ := id G
    refine ⟨_, PSs.nox (pss_one (ps_ret (pe_dget2 (hu_of hr) (pe_fld (pv 0) rfl) (pv 1) pe_int ⟨rfl, rfl, rfl, rfl⟩))), ?_⟩
    refine ⟨_, rfl, p, CPo K, dx, _, _, rfl, h1, T.c_Post, T.n_Post__numbers, fp_numbers, nd, rfl, .inl ⟨_, .inl h3⟩, _, rfl, _, .inl ⟨_, Sum.inl o, .inl h3, rfl, rfl⟩, ?_⟩
    rw [show valV (NumsV ns) (Sum.inl o) = (lkA ns o).map V.int from numsV_get o ns]
    unfold getN at q
    cases z : lkA ns o with
    | none => rw [z] at q; exact q
    | some n => rw [z] at q; exact q
def spTaken (K : PySem.W.Frag) : Sp := fun vs H Q _ => ∃ (p ol nd hd : Addr) (me : Int) (ls : List V) (ns : Nums) (hs : Heard) (o : Int), vs = [.ref p, .int o] ∧ PostAt K H p ol nd hd me ls ns hs ∧ ∀ H' v, Same H H' → PairAt K H' v (getH hs o) → Q v H'
theorem ok_Post_taken (T : Txt K mg w a) : FnOk P w K mg base CX0 1 (He.ma K (CPo K) "taken") a.d_Post_taken ["self", "other"] (spTaken K) := by
  refine T.F_Post_taken.ok sc_Post_taken (fun vs H Q E h => ?_) (fun cdv A outer s H vs Q E hr h => ?_)
  · obtain ⟨p, ol, nd, hd, me, ls, ns, hs, o, rfl, _⟩ := h
    rfl
  · obtain ⟨p, ol, nd, hd, me, ls, ns, hs, o, rfl, G, q⟩ := h
    obtain ⟨⟨dx, h1⟩, h2, h3, kvs, h4, h5⟩ := id G
    refine ⟨_, PSs.nox (pss_one (ps_ret (pe_dget2 (hu_of hr) (pe_fld (pv 0) rfl) (pv 1) (pe_tup (pa_cons pe_int (pa_cons (pe_tup pa_nil) pa_nil))) ⟨rfl, rfl, rfl, rfl⟩))), ?_⟩
    refine ⟨_, rfl, p, CPo K, dx, _, _, rfl, h1, T.c_Post, T.n_Post__heard, fp_heard, hd, rfl, .inl ⟨_, .inl h4⟩, _, rfl, Nat.zero_le _, fun t0 u0 => ⟨Cm.small (by show 2 ≤ 100000; decide), fun t1 u1 => ?_⟩⟩
    have s0 := Cm.same_new (o := .tup []) u0
    have s1 := Cm.same_new (o := .tup [.int 0, .ref t0]) u1
    have s01 := s0.trans s1
    refine ⟨_, .inl ⟨_, Sum.inl o, .inl (s01 _ _ h4), rfl, rfl⟩, ?_⟩
    have hg := heardV_get (h5.keep (TK.same s01)) o
    unfold getH at q
    cases z : lkA hs o with
    | none =>
      rw [z] at q hg
      rw [hg]
      exact q _ _ s01 ⟨t1, t0, rfl, Cm.sqt_new, Cm.sameT s1 (Cm.sqt_new (xs := []))⟩
    | some pr =>
      rw [z] at q hg
      obtain ⟨v, hv, hp⟩ := hg
      rw [hv]
      exact q _ _ s01 hp
def spIsTaken (K : PySem.W.Frag) : Sp := fun vs H Q _ => ∃ (p ol nd hd : Addr) (me : Int) (ls : List V) (ns : Nums) (hs : Heard) (o n : Int), vs = [.ref p, .int o, .int n] ∧ PostAt K H p ol nd hd me ls ns hs ∧ ∀ H', Same H H' → Q (.bl (tellsF (getH hs o).1 (getH hs o).2 n)) H'
theorem ok_Post_is_taken (T : Txt K mg w a) : FnOk P w K mg base CX0 2 (He.ma K (CPo K) "is_taken") a.d_Post_is_taken ["self", "other", "number"] (spIsTaken K) := by
  refine T.F_Post_is_taken.ok sc_Post_is_taken (fun vs H Q E h => ?_) (fun cdv A outer s H vs Q E hr h => ?_)
  · obtain ⟨p, ol, nd, hd, me, ls, ns, hs, o, n, rfl, _⟩ := h
    rfl
  · obtain ⟨p, ol, nd, hd, me, ls, ns, hs, o, n, rfl, G, q⟩ := h
    obtain ⟨dx, h1⟩ := G.ob
    refine ⟨_, PSs.nox (pss_one (ps_ret (pe_call (ok_tells T) (hr.mono (by omega)) (by rfl) T.g_tells T.F_tells.kp T.b_tells .nil pass0 (pa_cons (pe_meth (pv 0) T.c_Post T.m_Post_taken (ok_Post_taken T) (hr.mono (by omega)) T.b_Post_taken .nil pass0 (pa_cons (pv 1) pa_nil)) (pa_cons (pv 2) pa_nil))))), ?_⟩
    refine ⟨_, rfl, p, dx, _, rfl, h1, fp_no (by decide +kernel), _, rfl, p, ol, nd, hd, me, ls, ns, hs, o, rfl, G, fun H1 v s1 hv => ?_⟩
    obtain ⟨b, by_, rfl, hb, hy⟩ := hv
    exact ⟨_, rfl, b, by_, _, n, _, rfl, hb, hy, q H1 s1⟩
def spOutbox (K : PySem.W.Frag) : Sp := fun vs H Q _ => ∃ (p ol nd hd : Addr) (me : Int) (ls : List V) (ns : Nums) (hs : Heard), vs = [.ref p] ∧ PostAt K H p ol nd hd me ls ns hs ∧ ∀ r, H r = none → Q (.ref r) (upd H r (.tup ls))
theorem ok_Post_outbox (T : Txt K mg w a) : FnOk P w K mg base CX0 1 (He.ma K (CPo K) "outbox") a.d_Post_outbox ["self"] (spOutbox K) := by
  refine T.F_Post_outbox.ok sc_Post_outbox (fun vs H Q E h => ?_) (fun cdv A outer s H vs Q E hr h => ?_)
  · obtain ⟨p, ol, nd, hd, me, ls, ns, hs, rfl, _⟩ := h
    rfl
  · obtain ⟨p, ol, nd, hd, me, ls, ns, hs, rfl, G, q⟩ := h
    obtain ⟨⟨dx, h1⟩, h2, _, _⟩ := id G
    refine ⟨_, PSs.nox (pss_one (ps_ret (pe_callTy call_tuple_of (by rfl) T.g_tuple boot_tuple (pa_cons (pe_fld (pv 0) rfl) pa_nil)))), ?_⟩
    exact ⟨_, rfl, p, CPo K, dx, _, _, rfl, h1, T.c_Post, T.n_Post__letters, fp_letters, ol, ls, rfl, .inl ⟨SqL.of h2, q⟩⟩
/-! ### give -/
theorem PostAt.same {H H' : Hp} {p ol nd hd : Addr} {me : Int} {ls : List V} {ns : Nums} {hs : Heard} (s : Same H H') (G : PostAt K H p ol nd hd me ls ns hs) : PostAt K H' p ol nd hd me ls ns hs := by
  obtain ⟨⟨dx, h1⟩, h2, h3, kvs, h4, h5⟩ := G
  exact ⟨⟨dx, s _ _ h1⟩, s _ _ h2, s _ _ h3, kvs, s _ _ h4, h5.keep (TK.same s)⟩
theorem PostAt.ne {H : Hp} {p ol nd hd : Addr} {me : Int} {ls : List V} {ns : Nums} {hs : Heard} (G : PostAt K H p ol nd hd me ls ns hs) : p ≠ ol ∧ p ≠ nd ∧ p ≠ hd ∧ ol ≠ nd ∧ ol ≠ hd := by
  obtain ⟨⟨dx, h1⟩, h2, h3, kvs, h4, h5⟩ := G
  refine ⟨fun z => ?_, fun z => ?_, fun z => ?_, fun z => ?_, fun z => ?_⟩
  · rw [z, h2] at h1; cases h1
  · rw [z, h3] at h1; cases h1
  · rw [z, h4] at h1; cases h1
  · rw [z, h3] at h2; cases h2
  · rw [z, h4] at h2; cases h2
def spGive (K : PySem.W.Frag) : Sp := fun vs H Q E => ∃ (p ol nd hd : Addr) (me : Int) (ls : List V) (ns : Nums) (hs : Heard) (o : Int) (b : V), vs = [.ref p, .int o, b] ∧ PostAt K H p ol nd hd me ls ns hs ∧ nd ≠ hd ∧ ls.length ≤ 1000 ∧ ns.length ≤ 1000 ∧
  (o ≠ me → 0 ≤ o → ∀ H' t, H t = none → PostAt K H' p ol nd hd me (ls ++ [.ref t]) (puA ns o (getN ns o + 1)) hs → SqT K H' t [.int me, .int o, .int (getN ns o), b] → (∀ c u, H c = some u → c ≠ ol → c ≠ nd → H' c = some u) → Q (.int (getN ns o)) H') ∧
  (¬ (o ≠ me ∧ 0 ≤ o) → E (.ref (He.ga K "NotAllowed")) none H)
theorem ok_Post_give (T : Txt K mg w a) : FnOk P w K mg base (L2.CX P w) 2 (He.ma K (CPo K) "give") a.d_Post_give ["self", "other", "body"] (spGive K) := by
  refine T.F_Post_give.ok (CX := L2.CX P w) sc_Post_give (fun vs H Q E h => ?_) (fun cdv A outer s H vs Q E hr h => ?_)
  · obtain ⟨p, ol, nd, hd, me, ls, ns, hs, o, b, rfl, _⟩ := h
    rfl
  · obtain ⟨p, ol, nd, hd, me, ls, ns, hs, o, b, rfl, G, nnh, ll, ln, ok, bad⟩ := h
    obtain ⟨⟨dx, h1⟩, h2, h3, kvs, h4, h5⟩ := id G
    obtain ⟨m1, m2, m3, m4, m5⟩ := G.ne
    refine ⟨_, (pss_cons (ps_if (PW.pt (pw_or (pt_cmpR op_eq (pv 1) (pe_fld (pv 0) rfl) (nomark _)) (pw_or1 (pt_cmpR op_lt (pv 1) pe_int (nomark _))))) (pss_one (ps_raise rfl (takes_of rfl rfl rfl rfl) (SkE.pmk_own1 PySem.F.excBase_ValueError T.x_NotAllowed T.g_NotAllowed T.k_NotAllowed (raises_own T.s_NotAllowed T.t_NotAllowed) (by rfl) pe_str))) pss_nil)
      (pss_cons (ps_set (i := 3) sc_Post_give.nd rfl (Or.inl rfl) (pe_meth (pv 0) T.c_Post T.m_Post_next_number (ok_Post_next_number T) (hr.mono (by omega)) T.b_Post_next_number .nil pass0 (pa_cons (pv 1) pa_nil)))
      (pss_cons (ps_expr (pe_bm PySem.F.plainAttrs_list PySem.F.slot_list_append PySem.F.type_list_append mt_append (pe_fld (pv 0) rfl) (pa_cons (pe_tup (pa_cons (pe_fld (pv 0) rfl) (pa_cons (pv 1) (pa_cons (pv 3) (pa_cons (pv 2) pa_nil))))) pa_nil)))
      (pss_cons (ps_dput (hu_of hr) (pe_fld (pv 0) rfl) (pv 1) (pe_op op_add (pv 3) pe_int) rfl)
      (pss_one (ps_ret (pv 3))))))), ?_⟩
    rw [show L2.start N_Post_give [.ref p, .int o, b] = [some (.ref p), some (.int o), some b, none] from rfl]
    refine ⟨_, rfl, _, rfl, p, CPo K, dx, _, _, rfl, h1, T.c_Post, T.n_Post__me, fp_me, rfl, _, rfl, Cm.itEI (fun e => ?_) fun e => ?_⟩
    · exact iteT (bad fun z => z.1 e)
    · refine ⟨_, rfl, _, _, rfl, rfl, _, rfl, Cm.itD (fun hc => ?_) fun hc => ?_⟩
      · exact bad fun z => by omega
      · refine ⟨_, rfl, p, dx, _, rfl, h1, fp_no (by decide +kernel), _, rfl, p, ol, nd, hd, me, ls, ns, hs, o, rfl, G, ?_⟩
        refine ⟨_, rfl, p, CPo K, dx, _, _, rfl, h1, T.c_Post, T.n_Post__letters, fp_letters, .inl ⟨rfl, _, SqL.of h2⟩, _, rfl, p, CPo K, dx, _, _, rfl, h1, T.c_Post, T.n_Post__me, fp_me, _, rfl, _, rfl, _, rfl, Cm.small (by show 4 ≤ 100000; decide), fun t nt => ?_⟩
        have st := Cm.same_new (o := .tup [.int me, .int o, .int (getN ns o), b]) nt
        refine ⟨ol, _, _, rfl, rfl, st _ _ h2, Cm.smallL (by omega), ?_⟩
        have n1 : p ≠ ol := m1
        have hp2 : (upd (upd H t (.tup [.int me, .int o, .int (getN ns o), b])) ol (.lst (ls ++ [.ref t]))) p = some (.ins (CPo K) dx (fldsP me ol nd hd)) := by
          rw [upd_ne n1]
          exact st _ _ h1
        have hn2 : (upd (upd H t (.tup [.int me, .int o, .int (getN ns o), b])) ol (.lst (ls ++ [.ref t]))) nd = some (.dK (NumsV ns)) := by
          rw [upd_ne m4.symm]
          exact st _ _ h3
        refine ⟨_, rfl, _, _, rfl, rfl, _, rfl, p, CPo K, dx, _, _, rfl, hp2, T.c_Post, T.n_Post__numbers, fp_numbers, _, rfl, nd, _, rfl, .inl ⟨_, Sum.inl o, hn2, rfl, Cm.smallL (by unfold NumsV; rw [List.length_map]; omega), rfl⟩, ?_⟩
        rw [numsV_put]
        refine ⟨_, rfl, ok e (by omega) _ t nt ⟨⟨dx, ?_⟩, ?_, upd_same, kvs, ?_, ?_⟩ ?_ fun c u hc c1 c2 => ?_⟩
        · rw [upd_ne m2]
          exact hp2
        · rw [upd_ne m4, upd_same]
        · rw [upd_ne nnh.symm, upd_ne m5.symm]
          exact st _ _ h4
        · have tk1 : TK K (upd H t (.tup [.int me, .int o, .int (getN ns o), b])) (upd (upd H t (.tup [.int me, .int o, .int (getN ns o), b])) ol (.lst (ls ++ [.ref t]))) := TK.upd (by rw [st _ _ h2]; exact True.intro)
          have tk2 : TK K (upd (upd H t (.tup [.int me, .int o, .int (getN ns o), b])) ol (.lst (ls ++ [.ref t]))) (upd (upd (upd H t (.tup [.int me, .int o, .int (getN ns o), b])) ol (.lst (ls ++ [.ref t]))) nd (.dK (NumsV (puA ns o (getN ns o + 1))))) := TK.upd (by rw [hn2]; exact True.intro)
          exact h5.keep (((TK.same st).trans tk1).trans tk2)
        · have e1 : t ≠ ol := (ne_of_none h2 nt).symm
          have e2 : t ≠ nd := (ne_of_none h3 nt).symm
          exact .inl (.inl (by rw [upd_ne e2, upd_ne e1, upd_same]))
        · rw [upd_ne c2, upd_ne c1]
          exact st _ _ hc
/-! ### letters that are let go -/
theorem fp_put {me : Int} {ol ol' nd hd : Addr} : putF "_letters" (.ref ol') (fldsP me ol nd hd) = fldsP me ol' nd hd := rfl
theorem fp_len {me : Int} {ol nd hd : Addr} : (fldsP me ol nd hd).length ≤ 4 := by
  have h1 := putF_len "_heard" (.ref hd) (putF "_numbers" (.ref nd) (putF "_letters" (.ref ol) (putF "_me" (.int me) [])))
  have h2 := putF_len "_numbers" (.ref nd) (putF "_letters" (.ref ol) (putF "_me" (.int me) []))
  have h3 := putF_len "_letters" (.ref ol) (putF "_me" (.int me) [])
  have h4 := putF_len "_me" (.int me) []
  simp only [List.length_nil] at h4
  unfold fldsP
  omega
theorem take_flt {α : Type} {f : α → Bool} {l : List α} {n : Nat} {x : α} (h : l[n]? = some x) : (l.take (n + 1)).filter f = (l.take n).filter f ++ (if f x = true then [x] else []) := by
  rw [List.take_succ, h, List.filter_append]
  congr 1
  show [x].filter f = _
  rw [List.filter_cons, List.filter_nil]
abbrev Lets : Type := List (Int × Int × PyData)
abbrev letD (me : Int) (x : Int × Int × PyData) : PyData := .tuple [.int me, .int x.1, .int x.2.1, x.2.2]
def keepL (o : Int) (pr : Int × List Int) (x : Int × Int × PyData) : Bool := !(decide (x.1 = o) && tellsF pr.1 pr.2 x.2.1)
def spLetGo (K : PySem.W.Frag) : Sp := fun vs H Q _ => ∃ (p ol nd hd : Addr) (me : Int) (ls : List V) (ns : Nums) (hs : Heard) (lets : Lets) (o : Int) (v : V) (pr : Int × List Int), vs = [.ref p, .int o, v] ∧ PostAt K H p ol nd hd me ls ns hs ∧ Rps K H ls (lets.map (letD me)) ∧ lets.length ≤ 1000 ∧ PairAt K H v pr ∧
  ∀ H' ol' ls', H ol' = none → PostAt K H' p ol' nd hd me ls' ns hs → Rps K H' ls' ((lets.filter (keepL o pr)).map (letD me)) → (∀ c u, H c = some u → c ≠ p → H' c = some u) → Q .non H'
theorem ok_Post_p_let_go (T : Txt K mg w a) : FnOk P w K mg base CX0 2 (He.ma K (CPo K) "_let_go") a.d_Post_p_let_go ["self", "other", "told"] (spLetGo K) := by
  refine T.F_Post_p_let_go.ok sc_Post_p_let_go (fun vs H Q E h => ?_) (fun cdv A outer s H vs Q E hr h => ?_)
  · obtain ⟨p, ol, nd, hd, me, ls, ns, hs, lets, o, v, pr, rfl, _⟩ := h
    rfl
  · obtain ⟨p, ol, nd, hd, me, ls, ns, hs, lets, o, v, pr, rfl, G, rl, llt, hv, q⟩ := h
    obtain ⟨⟨dx, h1⟩, h2, h3, kvs, h4, h5⟩ := id G
    refine ⟨_, PSs.nox (pss_one (ps_fld (pv 0) (pe_lc (own := [("letter", 3)]) (g := gName 3)   (by rfl) sc_Post_p_let_go.nd (pi_list (pe_fld (pv 0) rfl)) (blkOk_by (own := [("letter", 3)]) (N := N_Post_p_let_go) (sc := defScope s_Post_p_let_go) (by decide +kernel)) (fun _ _ _ _ _ => pg_name (i := 3) sc_Post_p_let_go.nd rfl (Or.inl rfl)) (fun _ _ _ _ _ => pts_one (PW.pt (pw_or (pt_cmpR op_ne (pe_ix (r := rIxT K) ix_tup (pv 3) pe_int (fun _ _ => rfl)) (pv 1) (nomark _)) (pw_or1 (pt_not (pt_val (pe_call (ok_tells T) (hr.mono (by omega)) (by rfl) T.g_tells T.F_tells.kp T.b_tells .nil pass0 (pa_cons (pv 2) (pa_cons (pe_ix (r := rIxT K) ix_tup (pv 3) pe_int (fun _ _ => rfl)) pa_nil))))))))) (fun _ _ _ _ _ => (pv 3))) rfl)), ?_⟩
    rw [show L2.start N_Post_p_let_go [.ref p, .int o, v] = [some (.ref p), some (.int o), some v, none] from rfl]
    obtain ⟨bv, by_, rfl, hbv, hby⟩ := hv
    obtain ⟨m1, m2, m3, _, _⟩ := G.ne
    refine ⟨_, rfl, p, CPo K, dx, _, _, rfl, h1, T.c_Post, T.n_Post__letters, fp_letters, ol, rfl, ⟨_, SqL.of h2⟩, fun D nD => ?_⟩
    refine lc_list (K := K) (a := ol) (xs := ls) (fun i Hi => Same H Hi ∧ ∃ acc, Hi D = some (.lst acc) ∧ Rps K Hi acc (((lets.take i).filter (keepL o pr)).map (letD me)) ∧ acc.length ≤ i) ⟨Cm.same_new nD, [], upd_same, .nil, Nat.le_refl _⟩ (fun i Hi _ b => SqL.of (b.1 _ _ h2)) (fun i y Hi hy b => ?_) fun Hi b => ?_
    · obtain ⟨sH, acc, hD, rD, lD⟩ := b
      refine ⟨rfl, ?_⟩
      have hl := rl.len
      rw [List.length_map] at hl
      have hn : i < lets.length := by
        rw [← hl]
        exact (List.getElem?_eq_some_iff.mp hy).1
      have hbd : lets[i]? = some lets[i] := List.getElem?_eq_getElem hn
      obtain ⟨y', hy', ry⟩ := rl.at_ (i := i) (d := letD me lets[i]) (by rw [List.getElem?_map, hbd]; rfl)
      rw [hy] at hy'
      cases hy'
      generalize lets[i] = x at hbd ry
      obtain ⟨xo, xn, xd⟩ := x
      have ryi := ry.keep (Same.tups sH)
      obtain ⟨t, vs, rfl, ht, rvs⟩ := ryi.tup_inv
      obtain ⟨v1, r1, rfl, w1, rvs⟩ := rvs.cons_inv
      obtain ⟨v2, r2, rfl, w2, rvs⟩ := rvs.cons_inv
      obtain ⟨v3, r3, rfl, w3, rvs⟩ := rvs.cons_inv
      obtain rfl := w1.int_inv
      obtain rfl := w2.int_inv
      obtain rfl := w3.int_inv
      have hD4 : ∀ u, TK K Hi (upd Hi D (.lst u)) := fun u => TK.upd (by rw [hD]; exact True.intro)
      have go : keepL o pr (xo, xn, xd) = true → ∃ acc', Hi D = some (.lst acc') ∧ acc'.length < sizeLine ∧ Same H (upd Hi D (.lst (acc' ++ [.ref t]))) ∧ ∃ acc, (upd Hi D (.lst (acc' ++ [.ref t]))) D = some (.lst acc) ∧ Rps K (upd Hi D (.lst (acc' ++ [.ref t]))) acc (((lets.take (i + 1)).filter (keepL o pr)).map (letD me)) ∧ acc.length ≤ i + 1 := fun e => by
        refine ⟨acc, hD, Cm.smallL (by omega), Cm.same_mut sH nD, acc ++ [.ref t], upd_same, ?_, by rw [List.length_append]; simp only [List.length_cons, List.length_nil]; omega⟩
        rw [take_flt hbd, if_pos e, List.map_append]
        exact rps_keep (hD4 _) (rD.app (.cons ryi .nil))
      refine ⟨_, rfl, t, _, 1, _, rfl, rfl, ht, atI_nat (j := 1) rfl, _, rfl, rfl, _, rfl, Cm.itNI (fun e => ?_) fun e => ?_⟩
      · refine iteT ⟨_, rfl, ?_⟩
        exact go (by simp [keepL, e])
      · refine ⟨_, rfl, _, rfl, t, _, 2, _, rfl, rfl, ht, atI_nat (j := 2) rfl, bv, by_, pr.1, xn, pr.2, rfl, Cm.sameT sH hbv, Cm.sameT sH hby, _, rfl, Cm.itBn (fun z => ?_) fun z => ?_⟩
        · refine ⟨_, rfl, ?_⟩
          exact go (by simp [keepL, z])
        · have e' : xo = o := e
          refine ⟨sH, acc, hD, ?_, by omega⟩
          rw [take_flt hbd, if_neg (by simp [keepL, z, e']), List.append_nil]
          exact rD
    · obtain ⟨sH, acc, hD, rD, lD⟩ := b
      have hl := rl.len
      rw [List.length_map] at hl
      rw [hl, List.take_length] at rD
      refine ⟨_, rfl, p, CPo K, dx, _, rfl, sH _ _ h1, T.c_Post, T.n_Post__letters, Nat.lt_of_le_of_lt fp_len (by decide), ?_⟩
      rw [fp_put]
      have mu : Mut (Hi p) := by rw [sH _ _ h1]; exact True.intro
      have nDp : D ≠ p := fun z => by
        have := sH _ _ h1
        rw [← z, hD] at this
        cases this
      refine q _ D acc nD ⟨⟨dx, upd_same⟩, by rw [upd_ne nDp]; exact hD, by rw [upd_ne m2.symm]; exact sH _ _ h3, kvs, by rw [upd_ne m3.symm]; exact sH _ _ h4, h5.keep ((TK.same sH).trans (TK.upd mu))⟩ (rps_keep (TK.upd mu) rD) fun c u hc hn => by
        rw [upd_ne hn]
        exact sH _ _ hc
/-! ### take -/
theorem lkA_mem {α : Type} {hs : List (Int × α)} {k : Int} {v : α} (h : lkA hs k = some v) : (k, v) ∈ hs := by
  obtain ⟨x, hx, rfl⟩ := Option.map_eq_some_iff.mp h
  have h1 := List.mem_of_find?_eq_some hx
  have h2 : x.1 = k := by simpa using List.find?_some hx
  rw [← h2]
  exact h1
theorem getH_len {hs : Heard} {k : Int} (h : ∀ x ∈ hs, x.2.2.length ≤ 1000) : (getH hs k).2.length ≤ 1000 := by
  unfold getH
  cases z : lkA hs k with
  | none => exact Nat.zero_le _
  | some v => exact h _ (lkA_mem z)
theorem heardV_any {K : PySem.W.Frag} {H : Hp} {kvs : List (Key × V)} {hs : Heard} (h : HeardV K H kvs hs) (k : Int) : (kvs.any fun kv => decide (kv.1 = Sum.inl k)) = hs.any fun x => decide (x.1 = k) := by
  induction h with
  | nil => rfl
  | @cons p q ps qs h t ih =>
    rw [List.any_cons, List.any_cons, ih]
    congr 1
    rw [decide_eq_decide, h.1]
    exact inl_eq
theorem heardV_snoc {K : PySem.W.Frag} {H : Hp} {kvs : List (Key × V)} {hs : Heard} {p : Key × V} {q : Int × (Int × List Int)} (h : HeardV K H kvs hs) (g : p.1 = Sum.inl q.1 ∧ PairAt K H p.2 q.2) : HeardV K H (kvs ++ [p]) (hs ++ [q]) := by
  induction h with
  | nil => exact .cons g .nil
  | cons h t ih => exact .cons h ih
theorem heardV_put {K : PySem.W.Frag} {H : Hp} {kvs : List (Key × V)} {hs : Heard} {v : V} {pr : Int × List Int} (h : HeardV K H kvs hs) (k : Int) (hv : PairAt K H v pr) : HeardV K H (putK kvs (Sum.inl k) v) (puA hs k pr) := by
  unfold putK puA
  rw [heardV_any h]
  split
  · rename_i hx
    clear hx
    induction h with
    | nil => exact .nil
    | @cons p q ps qs h t ih =>
      rw [List.map_cons, List.map_cons]
      refine .cons ?_ ih
      by_cases e : q.1 = k
      · rw [if_pos (h.1.trans (inl_eq.mpr e)), if_pos e]
        exact ⟨h.1, hv⟩
      · rw [if_neg (fun z => e (inl_eq.mp (h.1.symm.trans z))), if_neg e]
        exact h
  · exact heardV_snoc h ⟨rfl, hv⟩
def puH (hs : Heard) (o n : Int) : Heard := puA hs o (withF (getH hs o).1 (getH hs o).2 n)
def spTake (K : PySem.W.Frag) : Sp := fun vs H Q E => ∃ (p ol nd hd : Addr) (me : Int) (ls : List V) (ns : Nums) (hs : Heard) (lets : Lets) (t b : Addr) (s g n : Int) (w : Str) (r : List V), vs = [.ref p, .ref t] ∧ PostAt K H p ol nd hd me ls ns hs ∧ nd ≠ hd ∧ Rps K H ls (lets.map (letD me)) ∧ lets.length ≤ 1000 ∧ hs.length ≤ 1000 ∧ (∀ x ∈ hs, x.2.2.length ≤ 1000) ∧
  SqT K H t [.int s, .int g, .int n, .ref b] ∧ SqT K H b (.str w :: r) ∧
  (¬ (g = me ∧ s ≠ me) → E (.ref (He.ga K "NotAllowed")) none H) ∧
  (g = me → s ≠ me → w = "ack" → ∃ low by_ bey, r = [.int low, .ref by_] ∧ SqT K H by_ (bey.map V.int) ∧
    ∀ H' ol' ls', H ol' = none → PostAt K H' p ol' nd hd me ls' ns hs → Rps K H' ls' ((lets.filter (keepL s (low, bey))).map (letD me)) → (∀ c u, H c = some u → c ≠ p → H' c = some u) → Q (.bl false) H') ∧
  (g = me → s ≠ me → w ≠ "ack" → tellsF (getH hs s).1 (getH hs s).2 n = true → ∀ H', Same H H' → Q (.bl false) H') ∧
  (g = me → s ≠ me → w ≠ "ack" → tellsF (getH hs s).1 (getH hs s).2 n = false → ∀ H', PostAt K H' p ol nd hd me ls ns (puH hs s n) → (∀ c u, H c = some u → c ≠ hd → H' c = some u) → Q (.bl true) H')
theorem ok_Post_take (T : Txt K mg w a) : FnOk P w K mg base (L2.CX P w) 4 (He.ma K (CPo K) "take") a.d_Post_take ["self", "letter"] (spTake K) := by
  refine T.F_Post_take.ok (CX := L2.CX P w) sc_Post_take (fun vs H Q E h => ?_) (fun cdv A outer s H vs Q E hr h => ?_)
  · obtain ⟨p, ol, nd, hd, me, ls, ns, hs, lets, t, b, s, g, n, w, r, rfl, _⟩ := h
    rfl
  · obtain ⟨p, ol, nd, hd, me, ls, ns, hs, lets, t, b, s, g, n, wd, r, rfl, G, nnh, rl, llt, lhs, lbs, ht, hb, bad, ack, old, new⟩ := h
    obtain ⟨⟨dx, h1⟩, h2, h3, kvs, h4, h5⟩ := id G
    refine ⟨_, (pss_cons (ps_asg (pv 1) (pg_tup (by rfl) (pgs_cons (pg_name (i := 2) sc_Post_take.nd rfl (Or.inl rfl)) (pgs_cons (pg_name (i := 3) sc_Post_take.nd rfl (Or.inl rfl)) (pgs_cons (pg_name (i := 4) sc_Post_take.nd rfl (Or.inl rfl)) (pgs_cons (pg_name (i := 5) sc_Post_take.nd rfl (Or.inl rfl)) pgs_nil))))))
      (pss_cons (ps_if (PW.pt (pw_or (pt_cmpR op_ne (pv 3) (pe_fld (pv 0) rfl) (nomark _)) (pw_or1 (pt_cmpR op_eq (pv 2) (pe_fld (pv 0) rfl) (nomark _))))) (pss_one (ps_raise rfl (takes_of rfl rfl rfl rfl) (SkE.pmk_own1 PySem.F.excBase_ValueError T.x_NotAllowed T.g_NotAllowed T.k_NotAllowed (raises_own T.s_NotAllowed T.t_NotAllowed) (by rfl) pe_str))) pss_nil)
      (pss_cons (ps_if (pt_cmpR op_eq (pe_ix ix_tup (pv 5) pe_int (fun _ _ => rfl)) pe_str (nomark _)) (pss_cons (ps_expr (pe_meth (pv 0) T.c_Post T.m_Post_p_let_go (ok_Post_p_let_go T) (hr.mono (by omega)) T.b_Post_p_let_go .nil pass0 (pa_cons (pv 2) (pa_cons (pe_slice sl_tupA (pv 5) (po_some pe_int) po_none) pa_nil))))
      (pss_one (ps_ret pe_bl))) pss_nil)
      (pss_cons (ps_if (pt_val (pe_meth (pv 0) T.c_Post T.m_Post_is_taken (ok_Post_is_taken T) (hr.mono (by omega)) T.b_Post_is_taken .nil pass0 (pa_cons (pv 2) (pa_cons (pv 4) pa_nil)))) (pss_one (ps_ret pe_bl)) pss_nil)
      (pss_cons (ps_dput (hu_of hr) (pe_fld (pv 0) rfl) (pv 2) (pe_call (ok_with_number T) (hr.mono (by omega)) (by rfl) T.g_with_number T.F_with_number.kp T.b_with_number .nil pass0 (pa_cons (pe_meth (pv 0) T.c_Post T.m_Post_taken (ok_Post_taken T) (hr.mono (by omega)) T.b_Post_taken .nil pass0 (pa_cons (pv 2) pa_nil)) (pa_cons (pv 4) pa_nil))) rfl)
      (pss_one (ps_ret pe_bl))))))), ?_⟩
    rw [show L2.start N_Post_take [.ref p, .ref t] = [some (.ref p), some (.ref t), none, none, none, none] from rfl]
    refine ⟨_, rfl, t, _, rfl, ht, rfl, _, _, rfl, _, _, rfl, _, _, rfl, _, _, rfl, rfl, ?_⟩
    refine ⟨_, rfl, _, rfl, p, CPo K, dx, _, _, rfl, h1, T.c_Post, T.n_Post__me, fp_me, rfl, _, rfl, Cm.itNI (fun e => iteT (bad fun z => e z.1)) fun eg => ?_⟩
    refine ⟨_, rfl, _, rfl, p, CPo K, dx, _, _, rfl, h1, T.c_Post, T.n_Post__me, fp_me, rfl, _, rfl, Cm.itEI (fun e => bad fun z => z.2 e) fun es => ?_⟩
    refine ⟨_, rfl, b, _, 0, _, rfl, rfl, hb, atI_nat (j := 0) rfl, rfl, _, rfl, Cm.itES (fun ew => ?_) fun ew => ?_⟩
    · obtain ⟨low, by_, bey, rfl, hby, fin⟩ := ack eg es ew
      refine ⟨_, rfl, p, dx, _, rfl, h1, fp_no (by decide +kernel), _, rfl, _, rfl, _, rfl, b, _, rfl, hb, fun e => ?_, fun _ p2 np2 => ?_⟩
      · have z := e.1
        rw [show HT.sIx _ 0 (some (1 : Int)) = min 1 _ from HT.sIx_nat _ 0 1] at z
        simp at z
      · have ec : cutV [V.str wd, V.int low, V.ref by_] (some ((1 : Nat) : Int)) none = [V.int low, V.ref by_] := cut_from (k := 1) (by simp)
        have st := Cm.same_new (o := .tup (cutV [V.str wd, V.int low, V.ref by_] (some ((1 : Nat) : Int)) none)) np2
        have hp2 : SqT K (upd H p2 (.tup (cutV [V.str wd, V.int low, V.ref by_] (some ((1 : Nat) : Int)) none))) p2 [V.int low, V.ref by_] := by
          rw [ec]
          exact Cm.sqt_new
        refine ⟨p, ol, nd, hd, me, ls, ns, hs, lets, s, .ref p2, (low, bey), rfl, G.same st, rl.keep (Same.tups st), llt, ⟨p2, by_, rfl, hp2, Cm.sameT st hby⟩, fun H' ol' ls' ho G' rl' fr => ?_⟩
        exact fin H' ol' ls' (st.free ho) G' rl' fun c u hc hn => fr c u (st _ _ hc) hn
    · refine ⟨_, rfl, p, dx, _, rfl, h1, fp_no (by decide +kernel), _, rfl, _, rfl, p, ol, nd, hd, me, ls, ns, hs, s, n, rfl, G, fun H1 s1 => ⟨_, rfl, Cm.itB (fun e => old eg es ew e H1 s1) fun e => ?_⟩⟩
      refine ⟨_, rfl, p, dx, _, rfl, s1 _ _ h1, fp_no (by decide +kernel), _, rfl, p, ol, nd, hd, me, ls, ns, hs, s, rfl, G.same s1, fun H2 v s2 hv => ?_⟩
      refine ⟨_, rfl, v, getH hs s, n, rfl, hv, getH_len lbs, fun H3 v' s3 hv' => ?_⟩
      have s13 := (s1.trans s2).trans s3
      obtain ⟨⟨dx3, g1⟩, g2, g3, kvs3, g4, g5⟩ := G.same s13
      obtain ⟨m1, m2, m3, m4, m5⟩ := G.ne
      have mu : Mut (H3 hd) := by rw [g4]; exact True.intro
      refine ⟨_, rfl, p, CPo K, dx3, _, _, rfl, g1, T.c_Post, T.n_Post__heard, fp_heard, _, rfl, hd, _, rfl, .inl ⟨kvs3, Sum.inl s, g4, rfl, Cm.smallL (by rw [Paired.length g5]; omega), rfl⟩, ?_⟩
      refine new eg es ew e _ ⟨⟨dx3, by rw [upd_ne m3]; exact g1⟩, by rw [upd_ne m5]; exact g2, by rw [upd_ne nnh]; exact g3, _, upd_same, ?_⟩ fun c u hc hn => ?_
      · exact heardV_put (g5.keep (TK.upd mu)) s (hv'.keep (TK.upd mu))
      · rw [upd_ne hn]
        exact s13 _ _ hc
def spCopy (K : PySem.W.Frag) : Sp := fun vs H Q _ => ∃ (p ol nd hd : Addr) (me : Int) (ls : List V) (ns : Nums) (hs : Heard), vs = [.ref p] ∧ PostAt K H p ol nd hd me ls ns hs ∧
  ∀ H' p' ol' nd' hd', H p' = none → H ol' = none → H nd' = none → H hd' = none → nd' ≠ hd' → PostAt K H' p' ol' nd' hd' me ls ns hs → Same H H' → Q (.ref p') H'
theorem ok_Post_copy (T : Txt K mg w a) : FnOk P w K mg base CX0 3 (He.ma K (CPo K) "copy") a.d_Post_copy ["self"] (spCopy K) := by
  refine T.F_Post_copy.ok sc_Post_copy (fun vs H Q E h => ?_) (fun cdv A outer s H vs Q E hr h => ?_)
  · obtain ⟨p, ol, nd, hd, me, ls, ns, hs, rfl, _⟩ := h
    rfl
  · obtain ⟨p, ol, nd, hd, me, ls, ns, hs, rfl, G, q⟩ := h
    obtain ⟨⟨dx, h1⟩, h2, h3, kvs, h4, h5⟩ := id G
    refine ⟨_, PSs.nox (pss_cons (ps_set (i := 1) sc_Post_copy.nd rfl (Or.inl rfl) (pe_make T.k_Post (ok_Post_init T) (hr.mono (by omega)) (by rfl) T.g_Post T.b_Post_init .nil pass0 (pa_cons (pe_fld (pv 0) rfl) pa_nil)))
      (pss_cons (ps_fld (pv 1) (pe_callTy call_list_of (by rfl) T.g_list boot_list (pa_cons (pe_fld (pv 0) rfl) pa_nil)) rfl)
      (pss_cons (ps_fld (pv 1) (pe_callTy call_dictD (by rfl) T.g_dict boot_dict (pa_cons (pe_fld (pv 0) rfl) pa_nil)) rfl)
      (pss_cons (ps_fld (pv 1) (pe_callTy call_dictD (by rfl) T.g_dict boot_dict (pa_cons (pe_fld (pv 0) rfl) pa_nil)) rfl)
      (pss_one (ps_ret (pv 1))))))), ?_⟩
    rw [show L2.start N_Post_copy [.ref p] = [some (.ref p), none] from rfl]
    refine ⟨_, rfl, p, CPo K, dx, _, _, rfl, h1, T.c_Post, T.n_Post__me, fp_me, fun x dx' nx ndx nex => ⟨x, dx', _, rfl, upd_same, fun o0 n0 d0 H1 ho0 hn0 hh0 _ G1 fr1 => ⟨rfl, ?_⟩⟩⟩
    have s1 : Same H H1 := fun b o hb => fr1 b o (by rw [upd_ne (ne_of_none hb nx), upd_ne (ne_of_none hb ndx)]; exact hb) (ne_of_none hb nx)
    obtain ⟨dxx, x1⟩ := G1.ob
    clear fr1 ho0 hn0 hh0
    refine ⟨_, rfl, p, CPo K, dx, _, _, rfl, s1 _ _ h1, T.c_Post, T.n_Post__letters, fp_letters, ol, ls, rfl, .inl (SqL.of (s1 _ _ h2)), fun l1 nl1 => ?_⟩
    have nxl : x ≠ l1 := ne_of_none x1 nl1
    have hl1 : H l1 = none := s1.free nl1
    refine ⟨_, rfl, x, CPo K, dxx, _, rfl, by rw [upd_ne nxl]; exact x1, T.c_Post, T.n_Post__letters, Nat.lt_of_le_of_lt fp_len (by decide), ?_⟩
    rw [fp_put]
    have sA : Same H (upd (upd H1 l1 (.lst ls)) x (.ins (CPo K) dxx (fldsP me l1 n0 d0))) := fun b o hb => by
      rw [upd_ne (ne_of_none hb nx), upd_ne (ne_of_none hb hl1)]
      exact s1 _ _ hb
    have a1 : (upd (upd H1 l1 (.lst ls)) x (.ins (CPo K) dxx (fldsP me l1 n0 d0))) x = some (.ins (CPo K) dxx (fldsP me l1 n0 d0)) := upd_same
    have a2 : (upd (upd H1 l1 (.lst ls)) x (.ins (CPo K) dxx (fldsP me l1 n0 d0))) l1 = some (.lst ls) := by rw [upd_ne nxl.symm, upd_same]
    generalize upd (upd H1 l1 (.lst ls)) x (.ins (CPo K) dxx (fldsP me l1 n0 d0)) = HA at *
    refine ⟨_, rfl, p, CPo K, dx, _, _, rfl, sA _ _ h1, T.c_Post, T.n_Post__numbers, fp_numbers, nd, _, rfl, .inl (sA _ _ h3), fun nn nnn => ?_⟩
    have nxn : x ≠ nn := ne_of_none a1 nnn
    have nln : l1 ≠ nn := ne_of_none a2 nnn
    have hnn : H nn = none := sA.free nnn
    refine ⟨_, rfl, x, CPo K, dxx, _, rfl, by rw [upd_ne nxn]; exact a1, T.c_Post, T.n_Post__numbers, Nat.lt_of_le_of_lt fp_len (by decide), ?_⟩
    rw [show putF "_numbers" (.ref nn) (fldsP me l1 n0 d0) = fldsP me l1 nn d0 from rfl]
    have sB : Same H (upd (upd HA nn (.dK (NumsV ns))) x (.ins (CPo K) dxx (fldsP me l1 nn d0))) := fun b o hb => by
      rw [upd_ne (ne_of_none hb nx), upd_ne (ne_of_none hb hnn)]
      exact sA _ _ hb
    have b1 : (upd (upd HA nn (.dK (NumsV ns))) x (.ins (CPo K) dxx (fldsP me l1 nn d0))) x = some (.ins (CPo K) dxx (fldsP me l1 nn d0)) := upd_same
    have b2 : (upd (upd HA nn (.dK (NumsV ns))) x (.ins (CPo K) dxx (fldsP me l1 nn d0))) l1 = some (.lst ls) := by
      rw [upd_ne nxl.symm, upd_ne nln]
      exact a2
    have b3 : (upd (upd HA nn (.dK (NumsV ns))) x (.ins (CPo K) dxx (fldsP me l1 nn d0))) nn = some (.dK (NumsV ns)) := by rw [upd_ne nxn.symm, upd_same]
    generalize upd (upd HA nn (.dK (NumsV ns))) x (.ins (CPo K) dxx (fldsP me l1 nn d0)) = HB at *
    refine ⟨_, rfl, p, CPo K, dx, _, _, rfl, sB _ _ h1, T.c_Post, T.n_Post__heard, fp_heard, hd, _, rfl, .inl (sB _ _ h4), fun hh nhh => ?_⟩
    have nxh : x ≠ hh := ne_of_none b1 nhh
    have nlh : l1 ≠ hh := ne_of_none b2 nhh
    have nnh : nn ≠ hh := ne_of_none b3 nhh
    have hhh : H hh = none := sB.free nhh
    refine ⟨_, rfl, x, CPo K, dxx, _, rfl, by rw [upd_ne nxh]; exact b1, T.c_Post, T.n_Post__heard, Nat.lt_of_le_of_lt fp_len (by decide), ?_⟩
    rw [show putF "_heard" (.ref hh) (fldsP me l1 nn d0) = fldsP me l1 nn hh from rfl]
    have sC : Same H (upd (upd HB hh (.dK kvs)) x (.ins (CPo K) dxx (fldsP me l1 nn hh))) := fun b o hb => by
      rw [upd_ne (ne_of_none hb nx), upd_ne (ne_of_none hb hhh)]
      exact sB _ _ hb
    refine ⟨_, rfl, q _ x l1 nn hh nx hl1 hnn hhh nnh ⟨⟨dxx, upd_same⟩, ?_, ?_, kvs, ?_, h5.keep (TK.same sC)⟩ sC⟩
    · rw [upd_ne nxl.symm, upd_ne nlh]
      exact b2
    · rw [upd_ne nxn.symm, upd_ne nnh]
      exact b3
    · rw [upd_ne nxh.symm, upd_same]
/-! ### answers, image -/
def ansD (me : Int) (hs : Heard) (o : Int) : PyData := .tuple [.int me, .int o, .int (-1), .tuple [.str "ack", .int (getH hs o).1, .tuple ((getH hs o).2.map PyData.int)]]
theorem srtI_eq {l ys : List Int} (h1 : ys.Perm l) (h2 : ys.Pairwise (· ≤ ·)) : ys = srtI l := by
  have h3 : (srtI l).Pairwise (fun a b : Int => decide (a ≤ b) = true) := List.pairwise_mergeSort (le := fun a b : Int => decide (a ≤ b)) (fun a b c x y => by simp only [decide_eq_true_eq] at x y ⊢; omega) (fun a b => by simp only [Bool.or_eq_true, decide_eq_true_eq]; omega) l
  exact List.Perm.eq_of_pairwise (le := (· ≤ ·)) (fun a b _ _ x y => Int.le_antisymm x y) h2 (h3.imp fun x => of_decide_eq_true x) (h1.trans (List.mergeSort_perm l _).symm)
theorem heardV_keys {K : PySem.W.Frag} {H : Hp} {kvs : List (Key × V)} {hs : Heard} (h : HeardV K H kvs hs) : kvs.map (·.1) = (hs.map (·.1)).map Sum.inl := by
  induction h with
  | nil => rfl
  | cons h t ih => rw [List.map_cons, List.map_cons, List.map_cons, ih, h.1]
theorem lkA_key {α : Type} {k : Int} : ∀ {hs : List (Int × α)}, k ∈ hs.map (·.1) → ∃ v, lkA hs k = some v
  | (x, v) :: r, h => by
    by_cases e : x = k
    · exact ⟨v, by simp [lkA, List.find?_cons, e]⟩
    · rcases List.mem_cons.mp h with z | z
      · exact absurd z.symm e
      · obtain ⟨u, hu⟩ := lkA_key z
        refine ⟨u, ?_⟩
        rw [← hu]
        simp [lkA, List.find?_cons, e]
def spAnswers (K : PySem.W.Frag) : Sp := fun vs H Q _ => ∃ (p ol nd hd : Addr) (me : Int) (ls : List V) (ns : Nums) (hs : Heard), vs = [.ref p] ∧ PostAt K H p ol nd hd me ls ns hs ∧ hs.length < 64 ∧ ∀ H' v, Same H H' → Rp K H' v (.tuple ((srtI (hs.map (·.1))).map (ansD me hs))) → Q v H'
theorem ok_Post_answers (T : Txt K mg w a) : FnOk P w K mg base CX0 3 (He.ma K (CPo K) "answers") a.d_Post_answers ["self"] (spAnswers K) := by
  refine T.F_Post_answers.ok sc_Post_answers (fun vs H Q E h => ?_) (fun cdv A outer s H vs Q E hr h => ?_)
  · obtain ⟨p, ol, nd, hd, me, ls, ns, hs, rfl, _⟩ := h
    rfl
  · obtain ⟨p, ol, nd, hd, me, ls, ns, hs, rfl, G, lh, q⟩ := h
    obtain ⟨⟨dx, h1⟩, h2, h3, kvs, h4, h5⟩ := id G
    refine ⟨_, PSs.nox (pss_one (ps_ret (pe_callTy call_tuple_of (by rfl) T.g_tuple boot_tuple (pa_cons (pe_lc (own := [("other", 1)]) (g := gName 1) (tt := tYes) (te := (tTup (tCons (tFld K (tVar 0) "_me") (tCons (tVar 1) (tCons (tUn (rU fun i => .int (-i)) (tC (.int 1))) (tCons (tOp (rCatA K) (tTup (tCons (tC (.str "ack")) tNil)) (tDGet (tFld K (tVar 0) "_heard") (tVar 1))) tNil)))))) (by rfl) sc_Post_answers.nd (pi_list (pe_callB (call_sortedDI rfl) (by rfl) T.g_sorted boot_sorted (pa_cons (pe_fld (pv 0) rfl) pa_nil))) (blkOk_by (own := [("other", 1)]) (N := N_Post_answers) (sc := defScope s_Post_answers) (by decide +kernel)) (fun _ _ _ _ _ => pg_name (i := 1) sc_Post_answers.nd rfl (Or.inl rfl)) (fun _ _ _ _ _ => pts_nil) (fun _ _ _ _ _ => (pe_tup (pa_cons (pe_fld (pv 0) rfl) (pa_cons (pv 1) (pa_cons (pe_un un_neg pe_int) (pa_cons (pe_op op_catA (pe_tup (pa_cons pe_str pa_nil)) (pe_dget (hu_of hr) (pe_fld (pv 0) rfl) (pv 1) (fun _ _ => rfl))) pa_nil))))))) pa_nil)))), ?_⟩
    rw [show L2.start N_Post_answers [.ref p] = [some (.ref p), none] from rfl]
    refine ⟨_, rfl, p, CPo K, dx, _, _, rfl, h1, T.c_Post, T.n_Post__heard, fp_heard, hd, kvs, hs.map (·.1), rfl, .inl h4, heardV_keys h5, by rw [List.length_map]; exact lh, fun ys nl pm pw nnl => ?_⟩
    obtain rfl := srtI_eq pm pw
    have s1 := Cm.same_new (o := .lst ((srtI (hs.map (·.1))).map V.int)) nnl
    have hnl : (upd H nl (.lst ((srtI (hs.map (·.1))).map V.int))) nl = some (.lst ((srtI (hs.map (·.1))).map V.int)) := upd_same
    have hL : (srtI (hs.map (·.1))).length < 64 := by rw [List.length_mergeSort, List.length_map]; exact lh
    have hmem : ∀ o ∈ srtI (hs.map (·.1)), o ∈ hs.map (·.1) := fun o ho => (List.mergeSort_perm _ _).mem_iff.mp ho
    generalize upd H nl (.lst ((srtI (hs.map (·.1))).map V.int)) = H1 at *
    generalize srtI (hs.map (·.1)) = L at *
    refine ⟨nl, rfl, ⟨_, SqL.of hnl⟩, fun D nD => ?_⟩
    refine lc_list (K := K) (a := nl) (xs := L.map V.int) (fun i Hi => Same H1 Hi ∧ ∃ acc, Hi D = some (.lst acc) ∧ Rps K Hi acc ((L.take i).map (ansD me hs)) ∧ acc.length = i) ⟨Cm.same_new nD, [], upd_same, .nil, rfl⟩ (fun i Hi _ b => SqL.of (b.1 _ _ hnl)) (fun i y Hi hy b => ?_) fun Hi b => ?_
    · obtain ⟨sH, acc, hD, rD, lD⟩ := b
      refine ⟨rfl, ?_⟩
      rw [List.getElem?_map] at hy
      obtain ⟨o, ho, rfl⟩ := Option.map_eq_some_iff.mp hy
      have hil := (List.getElem?_eq_some_iff.mp ho).1
      obtain ⟨pr, hpr⟩ := lkA_key (hmem o (List.mem_of_getElem? ho))
      have s1i := s1.trans sH
      refine ⟨_, rfl, p, CPo K, dx, _, _, rfl, s1i _ _ h1, T.c_Post, T.n_Post__me, fp_me, _, rfl, _, rfl, Cm.small (by show 1 ≤ 100000; decide), fun t nt => ?_⟩
      have st := Cm.same_new (o := .tup [.str "ack"]) nt
      have s2 := s1i.trans st
      have hg := heardV_get (h5.keep (TK.same s2)) o
      rw [hpr] at hg
      obtain ⟨v, hv, bb, by_, rfl, hbb, hby⟩ := hg
      refine ⟨_, rfl, p, CPo K, dx, _, _, rfl, s2 _ _ h1, T.c_Post, T.n_Post__heard, fp_heard, _, rfl, hd, _, rfl, .inl ⟨kvs, Sum.inl o, .inl (s2 _ _ h4), rfl, hv.symm⟩, ?_⟩
      refine Nst.cat_sq Cm.sqt_new hbb (by show 3 ≤ 100000; decide) fun r H4 s4 hr4 => ⟨Cm.small (by show 4 ≤ 100000; decide), fun t2 nt2 => ?_⟩
      have st2 := Cm.same_new (o := .tup [.int me, .int o, .int (-1), .ref r]) nt2
      have sall := (st.trans s4).trans st2
      have hD4 := sall _ _ hD
      refine ⟨acc, hD4, Cm.smallL (by omega), Cm.same_mut (sH.trans sall) nD, acc ++ [.ref t2], upd_same, ?_, by rw [List.length_append, lD]; rfl⟩
      have tk : TK K (upd H4 t2 (.tup [.int me, .int o, .int (-1), .ref r])) (upd (upd H4 t2 (.tup [.int me, .int o, .int (-1), .ref r])) D (.lst (acc ++ [.ref t2]))) := TK.upd (by rw [hD4]; exact True.intro)
      rw [List.take_succ, ho, List.map_append]
      refine (rps_keep ((TK.same sall).trans tk) rD).app (.cons ?_ .nil)
      rw [show ansD me hs o = .tuple [.int me, .int o, .int (-1), .tuple [.str "ack", .int pr.1, .tuple (pr.2.map PyData.int)]] from by unfold ansD getH; rw [hpr]; rfl]
      exact rp_keep tk (Rp.made nt2 (.cons (.int _) (.cons (.int _) (.cons (.int _) (.cons (.tup hr4 (.cons (.str _) (.cons (.int _) (.cons (.tup (Cm.sameT s4 hby) (ints_rps _)) .nil)))) .nil)))))
    · obtain ⟨sH, acc, hD, rD, lD⟩ := b
      rw [len_map, List.take_length] at rD
      refine ⟨D, acc, rfl, .inl ⟨SqL.of hD, fun l2 nl2 => ?_⟩⟩
      exact q _ _ ((s1.trans sH).trans (Cm.same_new nl2)) (Rp.made nl2 rD)
/-! ### image -/
def rowH (hs : Heard) (o : Int) : PyData := .tuple [.int o, .int (getH hs o).1, .tuple ((getH hs o).2.map PyData.int)]
def imgP (me : Int) (lets : Lets) (ns : Nums) (hs : Heard) : PyData := .tuple [.tuple (lets.map (letD me)), .tuple (SortN.srt (ns.map ItemN.pairD)), .tuple ((srtI (hs.map (·.1))).map (rowH hs))]
def spImage (K : PySem.W.Frag) : Sp := fun vs H Q _ => ∃ (p ol nd hd : Addr) (me : Int) (ls : List V) (ns : Nums) (hs : Heard) (lets : Lets), vs = [.ref p] ∧ PostAt K H p ol nd hd me ls ns hs ∧ Rps K H ls (lets.map (letD me)) ∧ hs.length < 64 ∧ ∀ H' v, Same H H' → Rp K H' v (imgP me lets ns hs) → Q v H'
/-! ### what is known of a post -/
def BdOk (d : PyData) : Prop := d.canLay0 = true ∧ d.depth ≤ 10
theorem bd_drop {n : Int} : BdOk (.tuple [.str "drop", .int n, .tuple []]) := by
  refine ⟨?_, ?_⟩
  · simp [PyData.canLay0, PyData.canLayAll0, show PyData.strOk "drop" = true from by decide +kernel]
  · simp [PyData.depth, PyData.depthAll]
structure PD (K : PySem.W.Frag) (H : Hp) (p ol nd hd : Addr) (me : Int) (lets : Lets) (ns : Nums) (hs : Heard) : Prop where
  g : ∃ ls, PostAt K H p ol nd hd me ls ns hs ∧ Rps K H ls (lets.map (letD me))
  e : nd ≠ hd
structure PB (m : Nat) (lets : Lets) (ns : Nums) (hs : Heard) : Prop where
  l : lets.length ≤ m
  n : ns.length ≤ m
  h : hs.length ≤ m
  b : ∀ x ∈ hs, x.2.2.length ≤ m
  k : (ns.map (·.1)).Nodup
  w : ∀ x ∈ lets, BdOk x.2.2
theorem PB.mono {m m' : Nat} {lets : Lets} {ns : Nums} {hs : Heard} (h : m ≤ m') (B : PB m lets ns hs) : PB m' lets ns hs :=
  ⟨Nat.le_trans B.l h, Nat.le_trans B.n h, Nat.le_trans B.h h, fun x hx => Nat.le_trans (B.b x hx) h, B.k, B.w⟩
section
variable {α : Type}
theorem puA_len (ns : List (Int × α)) (k : Int) (v : α) : (puA ns k v).length ≤ ns.length + 1 := by
  unfold puA
  split
  · rw [List.length_map]; omega
  · rw [List.length_append]; simp
theorem puA_mem {ns : List (Int × α)} {k : Int} {v : α} {x : Int × α} (h : x ∈ puA ns k v) : x ∈ ns ∨ x.2 = v := by
  unfold puA at h
  split at h
  · obtain ⟨y, hy, rfl⟩ := List.mem_map.mp h
    by_cases e : y.1 = k
    · rw [if_pos e]; exact .inr rfl
    · rw [if_neg e]; exact .inl hy
  · rcases List.mem_append.mp h with h | h
    · exact .inl h
    · rw [List.mem_singleton.mp h]; exact .inr rfl
theorem puA_keys {ns : List (Int × α)} {k : Int} {v : α} : (ns.map fun x => if x.1 = k then (x.1, v) else x).map (·.1) = ns.map (·.1) := by
  rw [List.map_map]
  refine List.map_congr_left fun x _ => ?_
  show (if x.1 = k then (x.1, v) else x).1 = x.1
  split <;> rfl
theorem puA_nodup {ns : List (Int × α)} (k : Int) (v : α) (h : (ns.map (·.1)).Nodup) : ((puA ns k v).map (·.1)).Nodup := by
  unfold puA
  split
  · rw [puA_keys]; exact h
  · rename_i hx
    rw [List.map_append]
    refine List.nodup_append.mpr ⟨h, by simp, fun a ha b hb e => hx ?_⟩
    obtain ⟨y, hy, rfl⟩ := List.mem_map.mp ha
    rw [List.map_cons, List.map_nil, List.mem_singleton] at hb
    exact List.any_eq_true.mpr ⟨y, hy, decide_eq_true (e.trans hb)⟩
theorem lkA_map (o k : Int) (v : α) : ∀ ns : List (Int × α), lkA (ns.map fun x => if x.1 = o then (x.1, v) else x) k = if o = k then (lkA ns k).map (fun _ => v) else lkA ns k
  | [] => by
    show none = if o = k then none else none
    split <;> rfl
  | (x, u) :: r => by
    have ih := lkA_map o k v r
    unfold lkA at ih ⊢
    rw [List.map_cons, List.find?_cons, List.find?_cons]
    by_cases e : x = k
    · subst e
      by_cases e2 : x = o
      · subst e2
        simp
      · simp [e2, Ne.symm e2]
    · rw [show decide ((if (x, u).1 = o then ((x, u).1, v) else (x, u)).1 = k) = false from by split <;> exact decide_eq_false e, show decide ((x, u).1 = k) = false from decide_eq_false e]
      exact ih
theorem lkA_app (o k : Int) (v : α) : ∀ ns : List (Int × α), ¬ (ns.any fun x => decide (x.1 = o)) = true → lkA (ns ++ [(o, v)]) k = if o = k then some v else lkA ns k
  | [], _ => by
    unfold lkA
    by_cases e : o = k
    · simp [e]
    · simp [e]
  | (x, u) :: r, h => by
    rw [List.any_cons] at h
    have ih := lkA_app o k v r (fun z => h (by rw [z, Bool.or_true]))
    have hx : ¬ x = o := fun z => h (by simp [z])
    unfold lkA at ih ⊢
    rw [List.cons_append, List.find?_cons, List.find?_cons]
    by_cases e : x = k
    · subst e
      simp [Ne.symm hx]
    · rw [show decide ((x, u).1 = k) = false from decide_eq_false e]
      exact ih
theorem lkA_any {ns : List (Int × α)} {o : Int} (h : (ns.any fun x => decide (x.1 = o)) = true) : ∃ v, lkA ns o = some v := by
  obtain ⟨y, hy, e⟩ := List.any_eq_true.mp h
  exact lkA_key (List.mem_map.mpr ⟨y, hy, of_decide_eq_true e⟩)
theorem lkA_puA (ns : List (Int × α)) (o k : Int) (v : α) : lkA (puA ns o v) k = if o = k then some v else lkA ns k := by
  unfold puA
  by_cases h : (ns.any fun x => decide (x.1 = o)) = true
  · rw [if_pos h, lkA_map]
    by_cases e : o = k
    · subst e
      obtain ⟨u, hu⟩ := lkA_any h
      rw [if_pos rfl, if_pos rfl, hu]
      rfl
    · rw [if_neg e, if_neg e]
  · rw [if_neg h, lkA_app _ _ _ _ h]
theorem lkA_of_mem {k : Int} {v : α} : ∀ {ns : List (Int × α)}, (ns.map (·.1)).Nodup → (k, v) ∈ ns → lkA ns k = some v
  | (x, u) :: r, h, hm => by
    rw [List.map_cons, List.nodup_cons] at h
    unfold lkA
    rw [List.find?_cons]
    rcases List.mem_cons.mp hm with e | hm
    · cases e
      simp
    · have ne : ¬ x = k := fun z => h.1 (by rw [z]; exact List.mem_map.mpr ⟨_, hm, rfl⟩)
      rw [show decide ((x, u).1 = k) = false from decide_eq_false ne]
      exact lkA_of_mem h.2 hm
end
theorem withF_len (low : Int) (bey : List Int) (n : Int) : (withF low bey n).2.length ≤ bey.length + 1 := by
  unfold withF
  show ((srtI (bey ++ [n])).drop _).length ≤ _
  rw [List.length_drop, List.length_mergeSort, List.length_append]
  simp only [List.length_cons, List.length_nil]
  omega
theorem getN_put (ns : Nums) (o k v : Int) : getN (puA ns o v) k = if o = k then v else getN ns k := by
  unfold getN
  rw [lkA_puA]
  split <;> rfl
theorem getN_mono (ns : Nums) (o k : Int) : getN ns k ≤ getN (puA ns o (getN ns o + 1)) k := by
  rw [getN_put]
  split
  · rename_i e
    rw [e]
    omega
  · exact Int.le_refl _
/-! ### images that differ -/
theorem eqvAll_pairs : ∀ a b : List PyData, (∀ d ∈ a, ∃ x, d = ItemN.pairD x) → (∀ d ∈ b, ∃ x, d = ItemN.pairD x) → PyData.eqvAll a b = true → a = b
  | [], [], _, _, _ => rfl
  | [], _ :: _, _, _, h => by simp [PyData.eqvAll] at h
  | _ :: _, [], _, _, h => by simp [PyData.eqvAll] at h
  | x :: a, y :: b, h1, h2, h => by
    obtain ⟨u, rfl⟩ := h1 x List.mem_cons_self
    obtain ⟨v, rfl⟩ := h2 y List.mem_cons_self
    rw [PyData.eqvAll, Bool.and_eq_true] at h
    rw [eqvAll_pairs a b (fun d hd => h1 d (List.mem_cons_of_mem _ hd)) (fun d hd => h2 d (List.mem_cons_of_mem _ hd)) h.2]
    have e := h.1
    simp only [PyData.eqv, PyData.eqvAll, Bool.and_true, Bool.and_eq_true, beq_iff_eq, decide_eq_true_eq] at e
    obtain ⟨u1, u2⟩ := u
    obtain ⟨v1, v2⟩ := v
    simp only at e
    rw [e.1, e.2]
theorem srt_pairs (ns : Nums) : ∀ d ∈ SortN.srt (ns.map ItemN.pairD), ∃ x ∈ ns, d = ItemN.pairD x := fun d hd => by
  obtain ⟨x, hx, rfl⟩ := List.mem_map.mp ((List.mergeSort_perm _ _).mem_iff.mp hd)
  exact ⟨x, hx, rfl⟩
theorem srt_eq_lk {ns ns' : Nums} (h : SortN.srt (ns.map ItemN.pairD) = SortN.srt (ns'.map ItemN.pairD)) (k : (ns.map (·.1)).Nodup) {o v : Int} (hl : lkA ns' o = some v) : lkA ns o = some v := by
  have m := lkA_mem hl
  have m2 : ItemN.pairD (o, v) ∈ SortN.srt (ns.map ItemN.pairD) := by
    rw [h]
    exact (List.mergeSort_perm _ _).mem_iff.mpr (List.mem_map.mpr ⟨_, m, rfl⟩)
  obtain ⟨⟨x, u⟩, hx, e⟩ := srt_pairs ns _ m2
  simp only [ItemN.pairD, PyData.tuple.injEq, List.cons.injEq, PyData.int.injEq] at e
  obtain ⟨rfl, rfl, _⟩ := e
  exact lkA_of_mem k hx
theorem img_ne {me : Int} {lets lets' : Lets} {ns ns' : Nums} {hs hs' : Heard} (k : (ns'.map (·.1)).Nodup) {o v : Int} (h1 : lkA ns o = some v) (h2 : lkA ns' o ≠ some v) : PyData.eqv (imgP me lets ns hs) (imgP me lets' ns' hs') = false := by
  cases e : PyData.eqv (imgP me lets ns hs) (imgP me lets' ns' hs') with
  | false => rfl
  | true =>
    unfold imgP at e
    simp only [PyData.eqv, PyData.eqvAll, Bool.and_true, Bool.and_eq_true] at e
    have e2 := eqvAll_pairs _ _ (fun d hd => let ⟨x, _, q⟩ := srt_pairs _ d hd; ⟨x, q⟩) (fun d hd => let ⟨x, _, q⟩ := srt_pairs _ d hd; ⟨x, q⟩) e.2.1
    exact absurd (srt_eq_lk e2.symm k h1) h2
/-! ### shapes -/
theorem layAll_of : ∀ {l : List PyData}, (∀ d ∈ l, d.canLay0 = true) → PyData.canLayAll0 l = true
  | [], _ => by simp [PyData.canLayAll0]
  | x :: l, h => by simp [PyData.canLayAll0, h x List.mem_cons_self, layAll_of fun d hd => h d (List.mem_cons_of_mem _ hd)]
theorem depthAll_of {n : Nat} : ∀ {l : List PyData}, (∀ d ∈ l, d.depth ≤ n) → PyData.depthAll l ≤ n
  | [], _ => by simp [PyData.depthAll]
  | x :: l, h => by
    have h1 := h x List.mem_cons_self
    have h2 := depthAll_of (n := n) fun d hd => h d (List.mem_cons_of_mem x hd)
    simp only [PyData.depthAll]
    omega
theorem lay_intsP (l : List Int) : PyData.canLayAll0 (l.map PyData.int) = true := layAll_of fun d hd => by
  obtain ⟨x, _, rfl⟩ := List.mem_map.mp hd
  simp [PyData.canLay0]
theorem depth_intsP (l : List Int) : PyData.depthAll (l.map PyData.int) ≤ 0 := depthAll_of fun d hd => by
  obtain ⟨x, _, rfl⟩ := List.mem_map.mp hd
  simp [PyData.depth]
theorem imgP_shaped {me : Int} {lets : Lets} {ns : Nums} {hs : Heard} (w : ∀ x ∈ lets, BdOk x.2.2) : SeqAt.shaped (imgP me lets ns hs) = true := by
  have a1 : PyData.canLayAll0 (lets.map (letD me)) = true := layAll_of fun d hd => by
    obtain ⟨x, hx, rfl⟩ := List.mem_map.mp hd
    simp [PyData.canLay0, PyData.canLayAll0, (w x hx).1]
  have a2 : PyData.depthAll (lets.map (letD me)) ≤ 11 := depthAll_of fun d hd => by
    obtain ⟨x, hx, rfl⟩ := List.mem_map.mp hd
    have := (w x hx).2
    simp only [PyData.depth, PyData.depthAll]
    omega
  have b1 : PyData.canLayAll0 (SortN.srt (ns.map ItemN.pairD)) = true := layAll_of fun d hd => by
    obtain ⟨x, _, rfl⟩ := srt_pairs _ d hd
    simp [PyData.canLay0, PyData.canLayAll0]
  have b2 : PyData.depthAll (SortN.srt (ns.map ItemN.pairD)) ≤ 1 := depthAll_of fun d hd => by
    obtain ⟨x, _, rfl⟩ := srt_pairs _ d hd
    simp [PyData.depth, PyData.depthAll]
  have c1 : PyData.canLayAll0 ((srtI (hs.map (·.1))).map (rowH hs)) = true := layAll_of fun d hd => by
    obtain ⟨x, _, rfl⟩ := List.mem_map.mp hd
    simp [rowH, PyData.canLay0, PyData.canLayAll0, lay_intsP]
  have c2 : PyData.depthAll ((srtI (hs.map (·.1))).map (rowH hs)) ≤ 2 := depthAll_of fun d hd => by
    obtain ⟨x, _, rfl⟩ := List.mem_map.mp hd
    have := depth_intsP (getH hs x).2
    simp only [rowH, PyData.depth, PyData.depthAll]
    omega
  refine Nst.shaped_of ?_ ?_
  · simp [imgP, PyData.canLay0, PyData.canLayAll0, a1, b1, c1]
  · simp only [imgP, PyData.depth, PyData.depthAll]
    omega
theorem ans_shaped {me : Int} {hs : Heard} {L : List Int} : SeqAt.shaped (.tuple (L.map (ansD me hs))) = true := by
  have c1 : PyData.canLayAll0 (L.map (ansD me hs)) = true := layAll_of fun d hd => by
    obtain ⟨x, _, rfl⟩ := List.mem_map.mp hd
    simp [ansD, PyData.canLay0, PyData.canLayAll0, lay_intsP, show PyData.strOk "ack" = true from by decide +kernel]
  have c2 : PyData.depthAll (L.map (ansD me hs)) ≤ 3 := depthAll_of fun d hd => by
    obtain ⟨x, _, rfl⟩ := List.mem_map.mp hd
    have := depth_intsP (getH hs x).2
    simp only [ansD, PyData.depth, PyData.depthAll]
    omega
  refine Nst.shaped_of (by simp [PyData.canLay0, c1]) ?_
  simp only [PyData.depth]
  omega
/-! ### frames -/
/-- all stays but what belongs to one post -/
def Fr (p ol nd hd : Addr) (H H' : Hp) : Prop := ∀ c u, H c = some u → c ≠ p → c ≠ ol → c ≠ nd → c ≠ hd → H' c = some u
section
variable {H H' : Hp} {p ol nd hd : Addr} {me : Int} {lets : Lets} {ns : Nums} {hs : Heard}
theorem PD.same (s : Same H H') (D : PD K H p ol nd hd me lets ns hs) : PD K H' p ol nd hd me lets ns hs := by
  obtain ⟨⟨ls, G, r⟩, e⟩ := D
  exact ⟨⟨ls, G.same s, r.keep (Same.tups s)⟩, e⟩
theorem PD.muts (D : PD K H p ol nd hd me lets ns hs) : Mut (H p) ∧ Mut (H ol) ∧ Mut (H nd) ∧ Mut (H hd) := by
  obtain ⟨⟨ls, ⟨⟨dx, h1⟩, h2, h3, kvs, h4, h5⟩, r⟩, e⟩ := D
  exact ⟨by rw [h1]; exact True.intro, by rw [h2]; exact True.intro, by rw [h3]; exact True.intro, by rw [h4]; exact True.intro⟩
theorem PD.there (D : PD K H p ol nd hd me lets ns hs) : (∃ o, H p = some o) ∧ (∃ o, H ol = some o) ∧ (∃ o, H nd = some o) ∧ ∃ o, H hd = some o := by
  obtain ⟨⟨ls, ⟨⟨dx, h1⟩, h2, h3, kvs, h4, h5⟩, r⟩, e⟩ := D
  exact ⟨⟨_, h1⟩, ⟨_, h2⟩, ⟨_, h3⟩, ⟨_, h4⟩⟩
theorem Fr.tk (f : Fr p ol nd hd H H') (D : PD K H p ol nd hd me lets ns hs) : TK K H H' := fun c xs h => by
  obtain ⟨m1, m2, m3, m4⟩ := D.muts
  have ne : ∀ {u : HO}, H c = some u → ¬ Mut (some u) → H' c = some u := fun {u} e nm => f c u e (fun z => nm (by rw [← e, z]; exact m1)) (fun z => nm (by rw [← e, z]; exact m2)) (fun z => nm (by rw [← e, z]; exact m3)) fun z => nm (by rw [← e, z]; exact m4)
  rcases h with (h | ⟨u, h⟩) | h
  · exact .inl (.inl (ne h fun z => z))
  · exact .inl (.inr ⟨u, ne h fun z => z⟩)
  · exact .inr h
theorem Fr.refl : Fr p ol nd hd H H := fun _ _ h _ _ _ _ => h
/-- another post is not touched -/
theorem PD.other {p2 ol2 nd2 hd2 : Addr} {me2 : Int} {lets2 : Lets} {ns2 : Nums} {hs2 : Heard} (D : PD K H p ol nd hd me lets ns hs) (f : Fr p ol nd hd H H') (D2 : PD K H p2 ol2 nd2 hd2 me2 lets2 ns2 hs2)
    (n : ∀ c ∈ [p2, ol2, nd2, hd2], c ≠ p ∧ c ≠ ol ∧ c ≠ nd ∧ c ≠ hd) : PD K H' p2 ol2 nd2 hd2 me2 lets2 ns2 hs2 := by
  have tk := f.tk D
  obtain ⟨⟨ls, ⟨⟨dx, h1⟩, h2, h3, kvs, h4, h5⟩, r⟩, e⟩ := D2
  have go : ∀ c ∈ [p2, ol2, nd2, hd2], ∀ u, H c = some u → H' c = some u := fun c hc u hu => f c u hu (n c hc).1 (n c hc).2.1 (n c hc).2.2.1 (n c hc).2.2.2
  exact ⟨⟨ls, ⟨⟨dx, go _ (by simp) _ h1⟩, go _ (by simp) _ h2, go _ (by simp) _ h3, kvs, go _ (by simp) _ h4, h5.keep tk⟩, rps_keep tk r⟩, e⟩
theorem PD.gave {ls : List V} {t : Addr} {o : Int} {b : V} {bd : PyData} {ns' : Nums} (tk : TK K H H') (D : Rps K H ls (lets.map (letD me))) (e : nd ≠ hd) (G : PostAt K H' p ol nd hd me (ls ++ [.ref t]) ns' hs) (ht : SqT K H' t [.int me, .int o, .int (getN ns o), b]) (rb : Rp K H b bd) :
    PD K H' p ol nd hd me (lets ++ [(o, getN ns o, bd)]) ns' hs := by
  refine ⟨⟨_, G, ?_⟩, e⟩
  rw [List.map_append]
  exact (rps_keep tk D).app (.cons (.tup ht (.cons (.int _) (.cons (.int _) (.cons (.int _) (.cons (rp_keep tk rb) .nil))))) .nil)
end
theorem PB.gave {m : Nat} {lets : Lets} {ns : Nums} {hs : Heard} {o n v : Int} {bd : PyData} (B : PB m lets ns hs) (hb : BdOk bd) : PB (m + 1) (lets ++ [(o, n, bd)]) (puA ns o v) hs := by
  have B2 := B.mono (Nat.le_succ m)
  refine ⟨by rw [List.length_append]; have := B.l; simp only [List.length_cons, List.length_nil]; omega, by have := puA_len ns o v; have := B.n; omega, B2.h, B2.b, puA_nodup _ _ B.k, fun x hx => ?_⟩
  rcases List.mem_append.mp hx with h | h
  · exact B.w x h
  · rw [List.mem_singleton.mp h]
    exact hb
theorem PB.took {m : Nat} {lets : Lets} {ns : Nums} {hs : Heard} {o n : Int} (B : PB m lets ns hs) : PB (m + 1) lets ns (puH hs o n) := by
  have B2 := B.mono (Nat.le_succ m)
  refine ⟨B2.l, B2.n, by have := puA_len hs o (withF (getH hs o).1 (getH hs o).2 n); have := B.h; unfold puH; omega, fun x hx => ?_, B.k, B.w⟩
  rcases puA_mem hx with h | h
  · exact B2.b x h
  · rw [h]
    have h1 := withF_len (getH hs o).1 (getH hs o).2 n
    have h2 : (getH hs o).2.length ≤ m := by
      unfold getH
      cases z : lkA hs o with
      | none => exact Nat.zero_le _
      | some v => exact B.b _ (lkA_mem z)
    omega
theorem PB.let_ {m : Nat} {lets : Lets} {ns : Nums} {hs : Heard} {f : Int × Int × PyData → Bool} (B : PB m lets ns hs) : PB m (lets.filter f) ns hs :=
  ⟨Nat.le_trans (List.length_filter_le _ _) B.l, B.n, B.h, B.b, B.k, fun x hx => B.w x ((List.mem_filter.mp hx).1)⟩
/-! ### the least number that was not taken -/
def mexN (L : List Int) : Nat → Int
  | 0 => 0
  | k + 1 => if mexN L k ∈ L then mexN L k + 1 else mexN L k
def mexF (L : List Int) : Int := mexN L (L.length + 1)
theorem mexN_spec (L : List Int) : ∀ k, (∀ i, 0 ≤ i → i < mexN L k → i ∈ L) ∧ 0 ≤ mexN L k ∧ (mexN L k ∉ L ∨ mexN L k = (k : Int))
  | 0 => ⟨fun i h1 h2 => by have : i < 0 := h2; omega, Int.le_refl _, .inr rfl⟩
  | k + 1 => by
    obtain ⟨h1, h2, h3⟩ := mexN_spec L k
    unfold mexN
    by_cases e : mexN L k ∈ L
    · rw [if_pos e]
      have e3 : mexN L k = (k : Int) := h3.elim (fun z => absurd e z) id
      refine ⟨fun i a b => ?_, by omega, .inr (by omega)⟩
      by_cases z : i = mexN L k
      · rw [z]; exact e
      · exact h1 i a (by omega)
    · rw [if_neg e]
      exact ⟨h1, h2, .inl e⟩
theorem cover : ∀ (n : Nat) (L : List Int), (∀ i : Nat, i < n → (i : Int) ∈ L) → n ≤ L.length
  | 0, _, _ => Nat.zero_le _
  | n + 1, L, h => by
    have m := h n (Nat.lt_succ_self n)
    have ih := cover n (L.erase (n : Int)) fun i hi => (List.mem_erase_of_ne (by omega)).mpr (h i (by omega))
    rw [List.length_erase_of_mem m] at ih
    have := List.length_pos_of_mem m
    omega
structure IsMex (L : List Int) (m : Int) : Prop where
  all : ∀ i, 0 ≤ i → i < m → i ∈ L
  pos : 0 ≤ m
  out : m ∉ L
theorem mexF_is (L : List Int) : IsMex L (mexF L) := by
  obtain ⟨h1, h2, h3⟩ := mexN_spec L (L.length + 1)
  refine ⟨h1, h2, fun z => ?_⟩
  rcases h3 with h3 | h3
  · exact h3 z
  · have := cover (L.length + 1 + 1) L fun i hi => by
      by_cases e : i = L.length + 1
      · rw [e, ← h3]
        exact z
      · exact h1 i (by omega) (by rw [h3]; omega)
    omega
theorem IsMex.uniq {L : List Int} {a b : Int} (x : IsMex L a) (y : IsMex L b) : a = b := by
  rcases Int.lt_trichotomy a b with h | h | h
  · exact absurd (y.all a x.pos h) x.out
  · exact h
  · exact absurd (x.all b y.pos h) y.out
def pairF (L : List Int) : Int × List Int := (mexF L, srtI (L.filter fun n => decide (mexF L < n)))
theorem srtI_mem {l : List Int} {x : Int} : x ∈ srtI l ↔ x ∈ l := (List.mergeSort_perm l _).mem_iff
theorem srtI_nodup {l : List Int} (h : l.Nodup) : (srtI l).Nodup := (List.mergeSort_perm l _).nodup_iff.mpr h
theorem srtI_le (l : List Int) : (srtI l).Pairwise (· ≤ ·) :=
  (List.pairwise_mergeSort (le := fun a b : Int => decide (a ≤ b)) (fun a b c x y => by simp only [decide_eq_true_eq] at x y ⊢; omega) (fun a b => by simp only [Bool.or_eq_true, decide_eq_true_eq]; omega) l).imp fun x => of_decide_eq_true x
theorem srtI_lt {l : List Int} (h : l.Nodup) : (srtI l).Pairwise (· < ·) := by
  have a := srtI_le l
  have b := srtI_nodup h
  exact (List.pairwise_and_iff.mpr ⟨a, b⟩).imp fun ⟨x, y⟩ => by omega
theorem pairF_tells {L : List Int} (h : ∀ x ∈ L, 0 ≤ x) (n : Int) : tellsF (pairF L).1 (pairF L).2 n = decide (n ∈ L) := by
  have M := mexF_is L
  show ((decide (0 ≤ n) && decide (n < mexF L)) || decide (n ∈ srtI (L.filter fun n => decide (mexF L < n)))) = _
  by_cases e : n ∈ L
  · rw [decide_eq_true e]
    rcases Int.lt_trichotomy n (mexF L) with z | z | z
    · rw [decide_eq_true (h n e), decide_eq_true z]
      rfl
    · exact absurd (z ▸ e) M.out
    · rw [decide_eq_true (srtI_mem.mpr (List.mem_filter.mpr ⟨e, decide_eq_true z⟩)), Bool.or_true]
  · rw [decide_eq_false e]
    have h1 : decide (n ∈ srtI (L.filter fun n => decide (mexF L < n))) = false := decide_eq_false fun z => e (List.mem_filter.mp (srtI_mem.mp z)).1
    rw [h1, Bool.or_false]
    by_cases a : 0 ≤ n
    · by_cases b : n < mexF L
      · exact absurd (M.all n a b) e
      · rw [decide_eq_false b, Bool.and_false]
    · rw [decide_eq_false a, Bool.false_and]
theorem run_spec : ∀ (S : List Int) (low : Int), S.Pairwise (· < ·) → (∀ x ∈ S, low ≤ x) →
    (∀ i, low ≤ i → i < low + (runF S low : Int) → i ∈ S) ∧ low + (runF S low : Int) ∉ S ∧ S.drop (runF S low) = S.filter fun n => decide (low + (runF S low : Int) < n)
  | [], low, _, _ => ⟨fun i a b => by have : i < low + 0 := b; omega, (fun z => nomatch z), rfl⟩
  | x :: r, low, hp, hge => by
    rw [List.pairwise_cons] at hp
    have hx := hge x List.mem_cons_self
    by_cases e : x = low
    · have er : runF (x :: r) low = runF r (low + 1) + 1 := if_pos e
      obtain ⟨a, b, c⟩ := run_spec r (low + 1) hp.2 fun y hy => by have := hp.1 y hy; omega
      rw [er]
      have en : low + ((runF r (low + 1) + 1 : Nat) : Int) = low + 1 + (runF r (low + 1) : Int) := by omega
      rw [en]
      refine ⟨fun i h1 h2 => ?_, fun z => ?_, ?_⟩
      · by_cases z : i = low
        · rw [z, ← e]; exact List.mem_cons_self
        · exact List.mem_cons_of_mem _ (a i (by omega) h2)
      · rcases List.mem_cons.mp z with z | z
        · omega
        · exact b z
      · rw [List.drop_succ_cons, c, List.filter_cons, if_neg (by simp only [decide_eq_true_eq]; omega)]
    · have er : runF (x :: r) low = 0 := if_neg e
      rw [er]
      refine ⟨fun i h1 h2 => by omega, fun z => ?_, ?_⟩
      · rcases List.mem_cons.mp z with z | z
        · omega
        · have := hp.1 _ z
          omega
      · symm
        refine List.filter_eq_self.mpr fun y hy => decide_eq_true ?_
        rcases List.mem_cons.mp hy with z | z
        · omega
        · have := hp.1 y z
          omega
theorem pairF_snoc {L : List Int} {n : Int} (nd : L.Nodup) (h : n ∉ L) (h0 : 0 ≤ n) : pairF (L ++ [n]) = withF (pairF L).1 (pairF L).2 n := by
  have M := mexF_is L
  show pairF (L ++ [n]) = (mexF L + (runF (srtI (srtI (L.filter fun n => decide (mexF L < n)) ++ [n])) (mexF L) : Int), (srtI (srtI (L.filter fun n => decide (mexF L < n)) ++ [n])).drop (runF (srtI (srtI (L.filter fun n => decide (mexF L < n)) ++ [n])) (mexF L)))
  generalize hS : srtI (srtI (L.filter fun n => decide (mexF L < n)) ++ [n]) = S
  generalize mexF L = low at *
  have nge : low ≤ n := by
    rcases Int.lt_or_le n low with z | z
    · exact absurd (M.all n h0 z) h
    · exact z
  have memS : ∀ x, x ∈ S ↔ x ∈ L ++ [n] ∧ low ≤ x := fun x => by
    rw [← hS, srtI_mem, List.mem_append, srtI_mem, List.mem_filter, List.mem_append, List.mem_singleton, decide_eq_true_eq]
    constructor
    · rintro (⟨a, b⟩ | a)
      · exact ⟨.inl a, by omega⟩
      · exact ⟨.inr a, by omega⟩
    · rintro ⟨a | a, b⟩
      · refine .inl ⟨a, ?_⟩
        rcases Int.lt_or_eq_of_le b with z | z
        · exact z
        · exact absurd (z ▸ a) M.out
      · exact .inr a
  have ndS : S.Nodup := by
    rw [← hS]
    refine srtI_nodup (List.nodup_append.mpr ⟨srtI_nodup (nd.filter _), by simp, fun a ha b hb e => ?_⟩)
    rw [List.mem_singleton] at hb
    rw [e, hb] at ha
    exact h (List.mem_filter.mp (srtI_mem.mp ha)).1
  have ltS : S.Pairwise (· < ·) := by
    have a : S.Pairwise (· ≤ ·) := by rw [← hS]; exact srtI_le _
    exact (List.pairwise_and_iff.mpr ⟨a, ndS⟩).imp fun ⟨x, y⟩ => by omega
  obtain ⟨a, b, c⟩ := run_spec S low ltS fun x hx => ((memS x).mp hx).2
  have M2 : IsMex (L ++ [n]) (low + (runF S low : Int)) := by
    refine ⟨fun i h1 h2 => ?_, by have := M.pos; omega, fun z => b ((memS _).mpr ⟨z, by omega⟩)⟩
    by_cases z : i < low
    · exact List.mem_append_left _ (M.all i h1 z)
    · exact ((memS i).mp (a i (by omega) h2)).1
  have e1 : mexF (L ++ [n]) = low + (runF S low : Int) := (mexF_is _).uniq M2
  unfold pairF
  rw [e1, c]
  refine congrArg (Prod.mk _) ?_
  refine (srtI_eq ?_ ((ltS.filter _).imp fun x => Int.le_of_lt x)).symm
  have nd2 : (L ++ [n]).Nodup := List.nodup_append.mpr ⟨nd, by simp, fun a ha b hb e => by
    rw [List.mem_singleton] at hb
    rw [e, hb] at ha
    exact h ha⟩
  refine (List.perm_ext_iff_of_nodup (ndS.filter _) (nd2.filter _)).mpr fun x => ?_
  rw [List.mem_filter, List.mem_filter, memS, decide_eq_true_eq]
  constructor
  · rintro ⟨⟨u, _⟩, v⟩
    exact ⟨u, v⟩
  · rintro ⟨u, v⟩
    exact ⟨⟨u, by omega⟩, v⟩
/-! ### pairs of numbers in order -/
theorem dle_tot : PySem.W.TotalLe SortN.dle := PySem.W.sortLe_total _ _ _
theorem dle_pair {x y : Int × Int} (h : x.1 ≠ y.1) : SortN.dle (ItemN.pairD x) (ItemN.pairD y) = decide (x.1 ≤ y.1) := by
  show (!PySem.W.dataLt (.tuple [.int y.1, .int y.2]) (.tuple [.int x.1, .int x.2])) = _
  rw [PySem.W.dataLt_ii]
  by_cases z : x.1 ≤ y.1
  · rw [decide_eq_true z, decide_eq_false (fun w => by omega)]
    rfl
  · rw [decide_eq_false z, decide_eq_true (Or.inl (by omega))]
    rfl
theorem srt_pairs_keys {ns : Nums} (nd : (ns.map (·.1)).Nodup) : SortN.srt (ns.map ItemN.pairD) = (srtI (ns.map (·.1))).map fun o => ItemN.pairD (o, getN ns o) := by
  have q1 := PySem.W.sort_maps (r := fun x y : Int × Int => decide (x.1 ≤ y.1)) (s := SortN.dle) ItemN.pairD (l := ns) (fun a ha b hb => by
    by_cases e : a.1 = b.1
    · have e2 : a = b := by
        have h1 := lkA_of_mem nd (k := a.1) (v := a.2) ha
        have h2 := lkA_of_mem nd (k := b.1) (v := b.2) hb
        rw [e, h2] at h1
        exact Prod.ext e (Option.some.inj h1).symm
      rw [e2, dle_tot.refl]
      exact decide_eq_true (Int.le_refl _)
    · exact (dle_pair e).symm)
  have q2 := PySem.W.sort_maps (r := fun x y : Int × Int => decide (x.1 ≤ y.1)) (s := fun a b : Int => decide (a ≤ b)) (fun x : Int × Int => x.1) (l := ns) (fun a _ b _ => rfl)
  rw [show SortN.srt (ns.map ItemN.pairD) = _ from q1.symm, show srtI (ns.map (·.1)) = _ from q2.symm, List.map_map]
  refine List.map_congr_left fun x hx => ?_
  have hx' : x ∈ ns := (List.mergeSort_perm _ _).mem_iff.mp hx
  show ItemN.pairD x = ItemN.pairD (x.1, getN ns x.1)
  unfold getN
  rw [lkA_of_mem nd (k := x.1) (v := x.2) hx']
  rfl
/-! ### the law's own record -/
abbrev AsV {α : Type} (R : V → α → Prop) : List (Key × V) → List (Int × α) → Prop := Paired fun p q => p.1 = Sum.inl q.1 ∧ R p.2 q.2
section
variable {α : Type} {R : V → α → Prop} {kvs : List (Key × V)} {ts : List (Int × α)}
theorem asV_keys (h : AsV R kvs ts) : kvs.map (·.1) = (ts.map (·.1)).map Sum.inl := by
  induction h with
  | nil => rfl
  | cons h t ih => rw [List.map_cons, List.map_cons, List.map_cons, ih, h.1]
theorem asV_get (h : AsV R kvs ts) (k : Int) : match lkA ts k with | none => valV kvs (Sum.inl k) = none | some u => ∃ v, valV kvs (Sum.inl k) = some v ∧ R v u := by
  induction h with
  | nil => exact rfl
  | @cons p q ps qs h t ih =>
    obtain ⟨e1, e2⟩ := h
    unfold valV lkA at ih ⊢
    rw [List.find?_cons, List.find?_cons]
    by_cases e : q.1 = k
    · rw [show decide (p.1 = Sum.inl k) = true from decide_eq_true (by rw [e1, e]), show decide (q.1 = k) = true from decide_eq_true e]
      exact ⟨_, rfl, e2⟩
    · rw [show decide (p.1 = Sum.inl k) = false from decide_eq_false (fun h => e (inl_eq.mp (e1.symm.trans h))), show decide (q.1 = k) = false from decide_eq_false e]
      exact ih
theorem asV_snoc {p : Key × V} {q : Int × α} (h : AsV R kvs ts) (g : p.1 = Sum.inl q.1 ∧ R p.2 q.2) : AsV R (kvs ++ [p]) (ts ++ [q]) := by
  induction h with
  | nil => exact .cons g .nil
  | cons h t ih => exact .cons h ih
theorem asV_any (h : AsV R kvs ts) (k : Int) : (kvs.any fun kv => decide (kv.1 = Sum.inl k)) = ts.any fun x => decide (x.1 = k) := by
  induction h with
  | nil => rfl
  | @cons p q ps qs h t ih =>
    rw [List.any_cons, List.any_cons, ih]
    congr 1
    rw [decide_eq_decide, h.1]
    exact inl_eq
theorem asV_put {v : V} {u : α} (h : AsV R kvs ts) (k : Int) (hv : R v u) : AsV R (putK kvs (Sum.inl k) v) (puA ts k u) := by
  unfold putK puA
  rw [asV_any h]
  split
  · rename_i hx
    clear hx
    induction h with
    | nil => exact .nil
    | @cons p q ps qs h t ih =>
      rw [List.map_cons, List.map_cons]
      refine .cons ?_ ih
      by_cases e : q.1 = k
      · rw [if_pos (h.1.trans (inl_eq.mpr e)), if_pos e]
        exact ⟨h.1, hv⟩
      · rw [if_neg (fun z => e (inl_eq.mp (h.1.symm.trans z))), if_neg e]
        exact h
  · exact asV_snoc h ⟨rfl, hv⟩
end
abbrev Taks : Type := List (Int × List Int)
def getT (ts : Taks) (o : Int) : List Int := (lkA ts o).getD []
abbrev LstI (H : Hp) (av : List Addr) (v : V) (L : List Int) : Prop := ∃ l, v = .ref l ∧ l ∉ av ∧ H l = some (.lst (L.map V.int))
abbrev TakV (H : Hp) (av : List Addr) : List (Key × V) → Taks → Prop := AsV (LstI H av)
theorem TakV.mono {H H' : Hp} {av av' : List Addr} {kvs : List (Key × V)} {ts : Taks} (h : TakV H av kvs ts) (f : ∀ l us, l ∉ av → H l = some (.lst us) → l ∉ av' ∧ H' l = some (.lst us)) : TakV H' av' kvs ts :=
  Paired.mapP h fun _ _ ⟨e, l, e2, n, hl⟩ => ⟨e, l, e2, (f l _ n hl).1, (f l _ n hl).2⟩
theorem tak_get {H : Hp} {av : List Addr} {kvs : List (Key × V)} {ts : Taks} (h : TakV H av kvs ts) (o : Int) {t0 : Addr} (ht : H t0 = some (.lst [])) : ∃ l, (valV kvs (Sum.inl o)).getD (.ref t0) = .ref l ∧ H l = some (.lst ((getT ts o).map V.int)) := by
  have g := asV_get h o
  unfold getT
  cases z : lkA ts o with
  | none =>
    rw [z] at g
    rw [g]
    exact ⟨t0, rfl, ht⟩
  | some L =>
    rw [z] at g
    obtain ⟨v, hv, l, rfl, _, hl⟩ := g
    rw [hv]
    exact ⟨l, rfl, hl⟩
abbrev RelT : Heard → Taks → Prop := Paired fun h t => h.1 = t.1 ∧ h.2 = pairF t.2 ∧ t.2.Nodup ∧ ∀ x ∈ t.2, 0 ≤ x
theorem relT_keys {hs : Heard} {ts : Taks} (h : RelT hs ts) : hs.map (·.1) = ts.map (·.1) := by
  induction h with
  | nil => rfl
  | cons h t ih => rw [List.map_cons, List.map_cons, ih, h.1]
theorem pairF_nil : pairF [] = (0, []) := by decide +kernel
theorem relT_get {hs : Heard} {ts : Taks} (h : RelT hs ts) (o : Int) : getH hs o = pairF (getT ts o) ∧ (getT ts o).Nodup ∧ ∀ x ∈ getT ts o, 0 ≤ x := by
  unfold getH getT
  induction h with
  | nil => exact ⟨pairF_nil.symm, List.nodup_nil, fun x hx => nomatch hx⟩
  | @cons p q ps qs h t ih =>
    obtain ⟨e1, e2, e3, e4⟩ := h
    unfold lkA at ih ⊢
    rw [List.find?_cons, List.find?_cons]
    by_cases e : q.1 = o
    · rw [show decide (p.1 = o) = true from decide_eq_true (by rw [e1, e]), show decide (q.1 = o) = true from decide_eq_true e]
      exact ⟨e2, e3, e4⟩
    · rw [show decide (p.1 = o) = false from decide_eq_false (fun h => e (e1.symm.trans h)), show decide (q.1 = o) = false from decide_eq_false e]
      exact ih
theorem relT_any {hs : Heard} {ts : Taks} (h : RelT hs ts) (o : Int) : (hs.any fun x => decide (x.1 = o)) = ts.any fun x => decide (x.1 = o) := by
  induction h with
  | nil => rfl
  | cons h t ih => rw [List.any_cons, List.any_cons, ih, h.1]
theorem relT_put {hs : Heard} {ts : Taks} (h : RelT hs ts) {o n : Int} (hn : n ∉ getT ts o) (h0 : 0 ≤ n) : RelT (puH hs o n) (puA ts o (getT ts o ++ [n])) := by
  obtain ⟨g1, g2, g3⟩ := relT_get h o
  have row : (withF (getH hs o).1 (getH hs o).2 n) = pairF (getT ts o ++ [n]) ∧ (getT ts o ++ [n]).Nodup ∧ ∀ x ∈ getT ts o ++ [n], 0 ≤ x := by
    refine ⟨by rw [g1, pairF_snoc g2 hn h0], List.nodup_append.mpr ⟨g2, by simp, fun a ha b hb e => ?_⟩, fun x hx => ?_⟩
    · rw [List.mem_singleton] at hb
      rw [e, hb] at ha
      exact hn ha
    · rcases List.mem_append.mp hx with z | z
      · exact g3 x z
      · rw [List.mem_singleton.mp z]; exact h0
  unfold puH puA
  rw [relT_any h]
  generalize getT ts o ++ [n] = L2 at *
  generalize withF (getH hs o).1 (getH hs o).2 n = W2 at *
  split
  · rename_i hx
    clear hx g1 g2 g3 hn
    induction h with
    | nil => exact .nil
    | @cons p q ps qs h t ih =>
      rw [List.map_cons, List.map_cons]
      refine .cons ?_ ih
      by_cases e : q.1 = o
      · rw [if_pos (h.1.trans e), if_pos e]
        exact ⟨h.1, row⟩
      · rw [if_neg (fun z => e (h.1.symm.trans z)), if_neg e]
        exact h
  · rename_i hx
    clear hx g1 g2 g3 hn
    induction h with
    | nil => exact .cons ⟨rfl, row⟩ .nil
    | cons h t ih => exact .cons h ih
theorem pair_rp {H : Hp} {v : V} {pr : Int × List Int} (h : PairAt K H v pr) : Rp K H v (.tuple [.int pr.1, .tuple (pr.2.map PyData.int)]) := by
  obtain ⟨b, by_, rfl, h1, h2⟩ := h
  exact .tup h1 (.cons (.int _) (.cons (.tup h2 (ints_rps _)) .nil))
theorem pair_shaped (pr : Int × List Int) : SeqAt.shaped (.tuple [.int pr.1, .tuple (pr.2.map PyData.int)]) = true := by
  refine Nst.shaped_of (by simp [PyData.canLay0, PyData.canLayAll0, lay_intsP]) ?_
  have := depth_intsP pr.2
  simp only [PyData.depth, PyData.depthAll]
  omega
/-- what the law keeps beside the post -/
structure Rec (K : PySem.W.Frag) (H : Hp) (bx fd td : Addr) (me : Int) (av : List Addr) (lets : Lets) (ns : Nums) (hs : Heard) (ts : Taks) : Prop where
  b : ∃ us, H bx = some (.lst us) ∧ Rps K H us (lets.map (letD me))
  f : H fd = some (.dK (NumsV ns))
  t : ∃ kvs, H td = some (.dK kvs) ∧ TakV H av kvs ts
  r : RelT hs ts
theorem Rec.same {H H' : Hp} {bx fd td : Addr} {me : Int} {av : List Addr} {lets : Lets} {ns : Nums} {hs : Heard} {ts : Taks} (s : Same H H') (R : Rec K H bx fd td me av lets ns hs ts) : Rec K H' bx fd td me av lets ns hs ts := by
  obtain ⟨⟨us, h1, h2⟩, h3, ⟨kvs, h4, h5⟩, h6⟩ := R
  exact ⟨⟨us, s _ _ h1, h2.keep (Same.tups s)⟩, s _ _ h3, ⟨kvs, s _ _ h4, h5.mono fun l us n hl => ⟨n, s _ _ hl⟩⟩, h6⟩
def spFits (K : PySem.W.Frag) : Sp := fun vs H Q _ => ∃ (p ol nd hd bx fd td : Addr) (me : Int) (av : List Addr) (lets : Lets) (ns : Nums) (hs : Heard) (ts : Taks), vs = [.ref p, .int me, .ref bx, .ref fd, .ref td] ∧ PD K H p ol nd hd me lets ns hs ∧ PB 60 lets ns hs ∧
  Rec K H bx fd td me av lets ns hs ts ∧ (∀ x ∈ ts, x.2.length ≤ 60) ∧ ∀ H', Same H H' → Q (.bl true) H'
/-! ### posts, places, letters in the air: what they are -/
structure PS where
  lets : Lets
  ns : Nums
  hs : Heard
  ts : Taks
def dropD (k : Int) : PyData := .tuple [.str "drop", .int k, .tuple []]
/-- a post that is sound by itself, at the place m of cnt; not more than N of anything -/
structure PSok (N : Nat) (cnt m : Int) (s : PS) : Prop where
  b : PB N s.lets s.ns s.hs
  r : RelT s.hs s.ts
  l : ∀ x ∈ s.ts, x.2.length ≤ N
  z : ∀ x ∈ s.lets, (0 ≤ x.2.1 ∧ x.2.1 < getN s.ns x.1) ∧ (x.1 ≠ m ∧ 0 ≤ x.1 ∧ x.1 < cnt) ∧ ∃ k, x.2.2 = dropD k
  g : ∀ o, 0 ≤ getN s.ns o
  t : ∀ o, getT s.ts o ≠ [] → o ≠ m ∧ 0 ≤ o ∧ o < cnt
  u : ∀ o ∈ s.hs.map (·.1), getT s.ts o ≠ []
  k : (s.hs.map (·.1)).Nodup
theorem PSok.mono {N N' : Nat} {cnt m : Int} {s : PS} (h : N ≤ N') (p : PSok N cnt m s) : PSok N' cnt m s := ⟨p.b.mono h, p.r, fun x hx => Nat.le_trans (p.l x hx) h, p.z, p.g, p.t, p.u, p.k⟩
def psGive (s : PS) (g k : Int) : PS := ⟨s.lets ++ [(g, getN s.ns g, dropD k)], puA s.ns g (getN s.ns g + 1), s.hs, s.ts⟩
def psTake (s : PS) (o n : Int) : PS := ⟨s.lets, s.ns, puH s.hs o n, puA s.ts o (getT s.ts o ++ [n])⟩
def psAck (s : PS) (o : Int) (pr : Int × List Int) : PS := ⟨s.lets.filter (keepL o pr), s.ns, s.hs, s.ts⟩
def psNew : PS := ⟨[], [], [], []⟩
theorem getT_put (ts : Taks) (o k : Int) (L : List Int) : getT (puA ts o L) k = if o = k then L else getT ts k := by
  unfold getT
  rw [lkA_puA]
  split <;> rfl
theorem psNew_ok {cnt m : Int} : PSok 0 cnt m psNew :=
  ⟨⟨Nat.le_refl _, Nat.le_refl _, Nat.le_refl _, (fun x hx => nomatch hx), List.nodup_nil, fun x hx => nomatch hx⟩, .nil, (fun x hx => nomatch hx), (fun x hx => nomatch hx), fun _ => Int.le_refl _, fun o h => absurd rfl h, (fun o h => nomatch h), List.nodup_nil⟩
theorem psGive_ok {N : Nat} {cnt m g k : Int} {s : PS} (p : PSok N cnt m s) (h1 : g ≠ m) (h2 : 0 ≤ g) (h3 : g < cnt) : PSok (N + 1) cnt m (psGive s g k) := by
  have p2 := p.mono (Nat.le_succ N)
  refine ⟨p.b.gave bd_drop, p.r, p2.l, fun x hx => ?_, fun o => ?_, p.t, p.u, p.k⟩
  · show (0 ≤ x.2.1 ∧ x.2.1 < getN (puA s.ns g (getN s.ns g + 1)) x.1) ∧ _
    rcases List.mem_append.mp hx with h | h
    · obtain ⟨⟨a1, a2⟩, b, c⟩ := p.z x h
      have := getN_mono s.ns g x.1
      exact ⟨⟨a1, by omega⟩, b, c⟩
    · rw [List.mem_singleton.mp h]
      have := p.g g
      refine ⟨⟨this, ?_⟩, ⟨h1, h2, h3⟩, k, rfl⟩
      show getN s.ns g < getN (puA s.ns g (getN s.ns g + 1)) g
      rw [getN_put, if_pos rfl]
      omega
  · have := p.g o
    have := getN_mono s.ns g o
    show 0 ≤ getN (puA s.ns g (getN s.ns g + 1)) o
    omega
theorem psTake_ok {N : Nat} {cnt m o n : Int} {s : PS} (p : PSok N cnt m s) (h1 : o ≠ m) (h2 : 0 ≤ o) (h3 : o < cnt) (h4 : n ∉ getT s.ts o) (h5 : 0 ≤ n) : PSok (N + 1) cnt m (psTake s o n) := by
  have p2 := p.mono (Nat.le_succ N)
  refine ⟨p.b.took, relT_put p.r h4 h5, fun x hx => ?_, p.z, p.g, fun k hk => ?_, fun k hk => ?_, puA_nodup _ _ p.k⟩
  · rcases puA_mem hx with h | h
    · exact p2.l x h
    · rw [h, List.length_append]
      have : (getT s.ts o).length ≤ N := by
        unfold getT
        cases z : lkA s.ts o with
        | none => exact Nat.zero_le _
        | some u => exact p.l _ (lkA_mem z)
      simp only [List.length_cons, List.length_nil]
      omega
  · by_cases e : o = k
    · rw [← e]; exact ⟨h1, h2, h3⟩
    · have hk' : getT (puA s.ts o (getT s.ts o ++ [n])) k ≠ [] := hk
      rw [getT_put, if_neg e] at hk'
      exact p.t k hk'
  · show getT (puA s.ts o (getT s.ts o ++ [n])) k ≠ []
    rw [getT_put]
    by_cases e : o = k
    · rw [if_pos e]; simp
    · rw [if_neg e]
      refine p.u k ?_
      obtain ⟨y, hy, ey⟩ := List.mem_map.mp hk
      have hy' : y ∈ puA s.hs o (withF (getH s.hs o).1 (getH s.hs o).2 n) := hy
      unfold puA at hy'
      split at hy'
      · obtain ⟨z, hz, ez⟩ := List.mem_map.mp hy'
        refine List.mem_map.mpr ⟨z, hz, ?_⟩
        by_cases e2 : z.1 = o
        · rw [if_pos e2] at ez
          rw [← ey, ← ez]
        · rw [if_neg e2] at ez
          rw [← ey, ← ez]
      · rcases List.mem_append.mp hy' with h | h
        · exact List.mem_map.mpr ⟨y, h, ey⟩
        · rw [List.mem_singleton.mp h] at ey
          exact absurd ey e
theorem psAck_ok {N : Nat} {cnt m o : Int} {pr : Int × List Int} {s : PS} (p : PSok N cnt m s) : PSok N cnt m (psAck s o pr) :=
  ⟨p.b.let_, p.r, p.l, fun x hx => p.z x (List.mem_filter.mp hx).1, p.g, p.t, p.u, p.k⟩
inductive Bdy
  | drop (k : Int)
  | ack (low : Int) (bey : List Int)
def Bdy.D : Bdy → PyData
  | .drop k => dropD k
  | .ack low bey => .tuple [.str "ack", .int low, .tuple (bey.map PyData.int)]
structure LetA where
  s : Int
  g : Int
  n : Int
  b : Bdy
def LetA.D (a : LetA) : PyData := .tuple [.int a.s, .int a.g, .int a.n, a.b.D]
abbrev Nw : Type := List (Int × Int × PyData)
structure Pl where
  P : PS
  K : PS
  nw : Nw
  kn : Nw
def Pl.commit (x : Pl) : Pl := ⟨x.P, x.P, x.nw, x.nw⟩
def Pl.fall (x : Pl) : Pl := ⟨x.K, x.K, x.kn, x.kn⟩
def Pl.give (x : Pl) (g k : Int) : Pl := ⟨psGive x.P g k, x.K, x.nw, x.kn⟩
/-- a letter is taken at its place -/
def Pl.take (x : Pl) (a : LetA) : Pl := match a.b with
  | .drop k => if a.n ∈ getT x.P.ts a.s then x else ⟨psTake x.P a.s a.n, x.K, x.nw ++ [(a.s, a.n, dropD k)], x.kn⟩
  | .ack low bey => ⟨psAck x.P a.s (low, bey), x.K, x.nw, x.kn⟩
def upW (ω : Nat → Pl) (m : Nat) (x : Pl) : Nat → Pl := fun i => if i = m then x else ω i
theorem upW_same {ω : Nat → Pl} {m : Nat} {x : Pl} : upW ω m x m = x := if_pos rfl
theorem upW_ne {ω : Nat → Pl} {m i : Nat} {x : Pl} (h : i ≠ m) : upW ω m x i = ω i := if_neg h
def AirOk (cnt : Nat) (ω : Nat → Pl) (a : LetA) : Prop := ∃ s g : Nat, a.s = (s : Int) ∧ a.g = (g : Int) ∧ s < cnt ∧ g < cnt ∧ s ≠ g ∧ match a.b with
  | .drop _ => 0 ≤ a.n ∧ a.n < getN (ω s).K.ns g
  | .ack low bey => a.n = -1 ∧ ∀ n, tellsF low bey n = true → n ∈ getT (ω s).K.ts g
def NwOk (ps : PS) (nw : Nw) : Prop := ∀ s : Int, (nw.filter fun e => decide (e.1 = s)).map (·.2.1) = getT ps.ts s
structure Inv (cnt N : Nat) (ω : Nat → Pl) : Prop where
  ok : ∀ m, m < cnt → PSok N cnt m (ω m).P ∧ PSok N cnt m (ω m).K
  mn : ∀ m, m < cnt → ∀ o, getN (ω m).K.ns o ≤ getN (ω m).P.ns o
  mt : ∀ m, m < cnt → ∀ o n, n ∈ getT (ω m).K.ts o → n ∈ getT (ω m).P.ts o
  cp : ∀ m g, m < cnt → g < cnt → m ≠ g → ∀ n, 0 ≤ n → n < getN (ω m).P.ns g → (∃ d, ((g : Int), n, d) ∈ (ω m).P.lets) ∨ n ∈ getT (ω g).K.ts m
  ck : ∀ m g, m < cnt → g < cnt → m ≠ g → ∀ n, 0 ≤ n → n < getN (ω m).K.ns g → (∃ d, ((g : Int), n, d) ∈ (ω m).K.lets) ∨ n ∈ getT (ω g).K.ts m
  st : ∀ m s, m < cnt → s < cnt → ∀ n ∈ getT (ω m).P.ts s, 0 ≤ n ∧ n < getN (ω s).K.ns m
  nw : ∀ m, m < cnt → NwOk (ω m).P (ω m).nw ∧ NwOk (ω m).K (ω m).kn
theorem Inv.mono {cnt N N' : Nat} {ω : Nat → Pl} (h : N ≤ N') (I : Inv cnt N ω) : Inv cnt N' ω :=
  ⟨fun m hm => ⟨(I.ok m hm).1.mono h, (I.ok m hm).2.mono h⟩, I.mn, I.mt, I.cp, I.ck, I.st, I.nw⟩
theorem Inv.commit {cnt N : Nat} {ω : Nat → Pl} {m : Nat} (hm : m < cnt) (I : Inv cnt N ω) : Inv cnt N (upW ω m (ω m).commit) := by
  have P' : ∀ i, (upW ω m (ω m).commit i).P = (ω i).P := fun i => by
    unfold upW
    split
    · rename_i e; rw [e]; rfl
    · rfl
  have Km : (upW ω m (ω m).commit m).K = (ω m).P := by rw [upW_same]; rfl
  have Ki : ∀ i, i ≠ m → (upW ω m (ω m).commit i).K = (ω i).K := fun i h => by rw [upW_ne h]
  have grow : ∀ i, i < cnt → ∀ o n, n ∈ getT (ω i).K.ts o → n ∈ getT (upW ω m (ω m).commit i).K.ts o := fun i hi o n h => by
    by_cases e : i = m
    · rw [e, Km]; exact I.mt m hm o n (e ▸ h)
    · rw [Ki i e]; exact h
  have groN : ∀ i, i < cnt → ∀ o, getN (ω i).K.ns o ≤ getN (upW ω m (ω m).commit i).K.ns o := fun i hi o => by
    by_cases e : i = m
    · rw [e, Km]; exact I.mn m hm o
    · rw [Ki i e]; exact Int.le_refl _
  refine ⟨fun i hi => ?_, fun i hi o => ?_, fun i hi o n h => ?_, fun i g hi hg ne n h0 h1 => ?_, fun i g hi hg ne n h0 h1 => ?_, fun i s hi hs n hn => ?_, fun i hi => ?_⟩
  · rw [P' i]
    refine ⟨(I.ok i hi).1, ?_⟩
    by_cases e : i = m
    · rw [e, Km]; exact (I.ok m hm).1
    · rw [Ki i e]; exact (I.ok i hi).2
  · rw [P' i]
    by_cases e : i = m
    · rw [e, Km]; exact Int.le_refl _
    · rw [Ki i e]; exact I.mn i hi o
  · rw [P' i]
    by_cases e : i = m
    · rw [e, Km] at h; rw [e]; exact h
    · rw [Ki i e] at h; exact I.mt i hi o n h
  · rw [P' i] at h1 ⊢
    exact (I.cp i g hi hg ne n h0 h1).imp id (grow g hg i n)
  · by_cases e : i = m
    · rw [e, Km] at h1 ⊢
      rw [e] at ne
      exact (I.cp m g hm hg ne n h0 h1).imp id (grow g hg m n)
    · rw [Ki i e] at h1 ⊢
      exact (I.ck i g hi hg ne n h0 h1).imp id (grow g hg i n)
  · rw [P' i] at hn
    obtain ⟨a, b⟩ := I.st i s hi hs n hn
    have := groN s hs i
    exact ⟨a, by omega⟩
  · by_cases e : i = m
    · rw [e, upW_same]; exact ⟨(I.nw m hm).1, (I.nw m hm).1⟩
    · rw [upW_ne e]; exact I.nw i hi
theorem AirOk.commit {cnt : Nat} {ω : Nat → Pl} {m : Nat} {N : Nat} (hm : m < cnt) (I : Inv cnt N ω) {a : LetA} (h : AirOk cnt ω a) : AirOk cnt (upW ω m (ω m).commit) a := by
  obtain ⟨s, g, e1, e2, h1, h2, h3, h4⟩ := h
  refine ⟨s, g, e1, e2, h1, h2, h3, ?_⟩
  by_cases e : s = m
  · rw [e, upW_same]
    rw [e] at h4
    cases hb : a.b with
    | drop k =>
      rw [hb] at h4
      have := I.mn m hm g
      exact ⟨h4.1, by have z : (ω m).commit.K = (ω m).P := rfl; rw [z]; omega⟩
    | ack low bey =>
      rw [hb] at h4
      exact ⟨h4.1, fun n hn => I.mt m hm _ n (h4.2 n hn)⟩
  · rw [upW_ne e]
    exact h4
theorem Inv.fall {cnt N : Nat} {ω : Nat → Pl} {m : Nat} (hm : m < cnt) (I : Inv cnt N ω) : Inv cnt N (upW ω m (ω m).fall) := by
  have Pm : (upW ω m (ω m).fall m).P = (ω m).K := by rw [upW_same]; rfl
  have Pi : ∀ i, i ≠ m → (upW ω m (ω m).fall i).P = (ω i).P := fun i h => by rw [upW_ne h]
  have K' : ∀ i, (upW ω m (ω m).fall i).K = (ω i).K := fun i => by
    unfold upW
    split
    · rename_i e; rw [e]; rfl
    · rfl
  refine ⟨fun i hi => ?_, fun i hi o => ?_, fun i hi o n h => ?_, fun i g hi hg ne n h0 h1 => ?_, fun i g hi hg ne n h0 h1 => ?_, fun i s hi hs n hn => ?_, fun i hi => ?_⟩
  · rw [K' i]
    refine ⟨?_, (I.ok i hi).2⟩
    by_cases e : i = m
    · rw [e, Pm]; exact (I.ok m hm).2
    · rw [Pi i e]; exact (I.ok i hi).1
  · rw [K' i]
    by_cases e : i = m
    · rw [e, Pm]; exact Int.le_refl _
    · rw [Pi i e]; exact I.mn i hi o
  · rw [K' i] at h
    by_cases e : i = m
    · rw [e, Pm]; rw [e] at h; exact h
    · rw [Pi i e]; exact I.mt i hi o n h
  · rw [K' g]
    by_cases e : i = m
    · rw [e, Pm] at h1 ⊢
      rw [e] at ne
      exact I.ck m g hm hg ne n h0 h1
    · rw [Pi i e] at h1 ⊢
      exact I.cp i g hi hg ne n h0 h1
  · rw [K' i] at h1 ⊢
    rw [K' g]
    exact I.ck i g hi hg ne n h0 h1
  · rw [K' s]
    by_cases e : i = m
    · rw [e, Pm] at hn
      rw [e]
      exact I.st m s hm hs n (I.mt m hm s n hn)
    · rw [Pi i e] at hn
      exact I.st i s hi hs n hn
  · by_cases e : i = m
    · rw [e, upW_same]; exact ⟨(I.nw m hm).2, (I.nw m hm).2⟩
    · rw [upW_ne e]; exact I.nw i hi
theorem AirOk.same {cnt : Nat} {ω ω' : Nat → Pl} (h : ∀ i, (ω' i).K = (ω i).K) {a : LetA} (k : AirOk cnt ω a) : AirOk cnt ω' a := by
  obtain ⟨s, g, e1, e2, h1, h2, h3, h4⟩ := k
  refine ⟨s, g, e1, e2, h1, h2, h3, ?_⟩
  rw [h s]
  exact h4
theorem fall_K {ω : Nat → Pl} {m : Nat} : ∀ i, (upW ω m (ω m).fall i).K = (ω i).K := fun i => by
  unfold upW
  split
  · rename_i e; rw [e]; rfl
  · rfl
theorem give_K {ω : Nat → Pl} {m : Nat} {g k : Int} : ∀ i, (upW ω m ((ω m).give g k) i).K = (ω i).K := fun i => by
  unfold upW
  split
  · rename_i e; rw [e]; rfl
  · rfl
theorem Inv.give {cnt N : Nat} {ω : Nat → Pl} {m g : Nat} {k : Int} (hm : m < cnt) (hg : g < cnt) (hne : g ≠ m) (I : Inv cnt N ω) : Inv cnt (N + 1) (upW ω m ((ω m).give g k)) := by
  have Pi : ∀ i, i ≠ m → upW ω m ((ω m).give g k) i = ω i := fun i h => upW_ne h
  have I2 := I.mono (Nat.le_succ N)
  have tsE : ∀ i, (upW ω m ((ω m).give g k) i).P.ts = (ω i).P.ts := fun i => by
    unfold upW
    split
    · rename_i e; rw [e]; rfl
    · rfl
  refine ⟨fun i hi => ?_, fun i hi o => ?_, fun i hi o n h => ?_, fun i j hi hj ne n h0 h1 => ?_, fun i j hi hj ne n h0 h1 => ?_, fun i s hi hs n hn => ?_, fun i hi => ?_⟩
  · by_cases e : i = m
    · rw [e, upW_same]
      exact ⟨psGive_ok (I.ok m hm).1 (by omega) (by omega) (by omega), (I2.ok m hm).2⟩
    · rw [Pi i e]; exact I2.ok i hi
  · by_cases e : i = m
    · rw [e, upW_same]
      have a := I.mn m hm o
      have b := getN_mono (ω m).P.ns g o
      show getN (ω m).K.ns o ≤ getN (puA (ω m).P.ns g (getN (ω m).P.ns g + 1)) o
      omega
    · rw [Pi i e]; exact I.mn i hi o
  · rw [give_K] at h
    rw [tsE]
    exact I.mt i hi o n h
  · rw [give_K]
    by_cases e : i = m
    · rw [e, upW_same] at h1 ⊢
      rw [e] at ne
      have h1' : n < getN (puA (ω m).P.ns g (getN (ω m).P.ns g + 1)) j := h1
      show (∃ d, ((j : Int), n, d) ∈ (ω m).P.lets ++ [((g : Int), getN (ω m).P.ns g, dropD k)]) ∨ _
      rw [getN_put] at h1'
      by_cases e2 : (g : Int) = (j : Int)
      · rw [if_pos e2] at h1'
        by_cases e3 : n = getN (ω m).P.ns g
        · refine .inl ⟨dropD k, List.mem_append_right _ ?_⟩
          rw [e3, e2]
          exact List.mem_singleton.mpr rfl
        · rcases I.cp m j hm hj ne n h0 (by rw [← e2]; omega) with ⟨d, hd⟩ | h
          · exact .inl ⟨d, List.mem_append_left _ hd⟩
          · exact .inr h
      · rw [if_neg e2] at h1'
        rcases I.cp m j hm hj ne n h0 h1' with ⟨d, hd⟩ | h
        · exact .inl ⟨d, List.mem_append_left _ hd⟩
        · exact .inr h
    · rw [Pi i e] at h1 ⊢
      exact I.cp i j hi hj ne n h0 h1
  · rw [give_K i] at h1 ⊢
    rw [give_K j]
    exact I.ck i j hi hj ne n h0 h1
  · rw [tsE] at hn
    rw [give_K]
    exact I.st i s hi hs n hn
  · by_cases e : i = m
    · rw [e, upW_same]
      exact ⟨(I.nw m hm).1, (I.nw m hm).2⟩
    · rw [Pi i e]; exact I.nw i hi
theorem take_Kx {x : Pl} {a : LetA} : (x.take a).K = x.K ∧ (x.take a).kn = x.kn ∧ (x.take a).P.ns = x.P.ns := by
  unfold Pl.take
  split
  · split
    · exact ⟨rfl, rfl, rfl⟩
    · exact ⟨rfl, rfl, rfl⟩
  · exact ⟨rfl, rfl, rfl⟩
theorem take_K {ω : Nat → Pl} {m : Nat} {a : LetA} : ∀ i, (upW ω m ((ω m).take a) i).K = (ω i).K := fun i => by
  unfold upW
  split
  · rename_i e; rw [e]; exact take_Kx.1
  · rfl
/-- what is taken only grows, what waits to be acknowledged only shrinks -/
theorem take_ts {x : Pl} {a : LetA} {o n : Int} (h : n ∈ getT x.P.ts o) : n ∈ getT (x.take a).P.ts o := by
  unfold Pl.take
  split
  · split
    · exact h
    · show n ∈ getT (puA x.P.ts a.s (getT x.P.ts a.s ++ [a.n])) o
      rw [getT_put]
      split
      · rename_i e
        rw [e]
        exact List.mem_append_left _ h
      · exact h
  · exact h
theorem take_lets {x : Pl} {a : LetA} {y : Int × Int × PyData} (h : y ∈ (x.take a).P.lets) : y ∈ x.P.lets := by
  unfold Pl.take at h
  split at h
  · split at h
    · exact h
    · exact h
  · exact (List.mem_filter.mp h).1
theorem Inv.take {cnt N : Nat} {ω : Nat → Pl} {a : LetA} (k : AirOk cnt ω a) (I : Inv cnt N ω) : ∃ g : Nat, a.g = (g : Int) ∧ g < cnt ∧ Inv cnt (N + 1) (upW ω g ((ω g).take a)) := by
  obtain ⟨s, m, e1, e2, hs, hm, hsm, h4⟩ := k
  refine ⟨m, e2, hm, ?_⟩
  have I2 := I.mono (Nat.le_succ N)
  have nsE : ∀ i, (upW ω m ((ω m).take a) i).P.ns = (ω i).P.ns := fun i => by
    unfold upW
    split
    · rename_i e; rw [e]; exact take_Kx.2.2
    · rfl
  refine ⟨fun i hi => ?_, fun i hi o => ?_, fun i hi o n h => ?_, fun i j hi hj ne n h0 h1 => ?_, fun i j hi hj ne n h0 h1 => ?_, fun i s' hi hs' n hn => ?_, fun i hi => ?_⟩
  · by_cases e : i = m
    · rw [e, upW_same, take_Kx.1]
      refine ⟨?_, (I2.ok m hm).2⟩
      unfold Pl.take
      cases hb : a.b with
      | drop k0 =>
        rw [hb] at h4
        show PSok _ _ _ (if a.n ∈ getT (ω m).P.ts a.s then ω m else _).P
        by_cases z : a.n ∈ getT (ω m).P.ts a.s
        · rw [if_pos z]; exact (I2.ok m hm).1
        · rw [if_neg z]
          exact psTake_ok (I.ok m hm).1 (by omega) (by omega) (by omega) z h4.1
      | ack low bey => exact psAck_ok (I2.ok m hm).1
    · rw [upW_ne e]; exact I2.ok i hi
  · rw [take_K, nsE]; exact I.mn i hi o
  · rw [take_K] at h
    by_cases e : i = m
    · rw [e, upW_same]
      exact take_ts (I.mt m hm o n (e ▸ h))
    · rw [upW_ne e]; exact I.mt i hi o n h
  · rw [nsE] at h1
    rw [take_K]
    by_cases e : i = m
    · rw [e, upW_same]
      rw [e] at ne h1
      rcases I.cp m j hm hj ne n h0 h1 with ⟨d, hd⟩ | h
      · unfold Pl.take
        cases hb : a.b with
        | drop k0 =>
          show (∃ d, _ ∈ (if a.n ∈ getT (ω m).P.ts a.s then ω m else _).P.lets) ∨ _
          split
          · exact .inl ⟨d, hd⟩
          · exact .inl ⟨d, hd⟩
        | ack low bey =>
          rw [hb] at h4
          show (∃ d, _ ∈ (ω m).P.lets.filter (keepL a.s (low, bey))) ∨ _
          by_cases z : keepL a.s (low, bey) ((j : Int), n, d) = true
          · exact .inl ⟨d, List.mem_filter.mpr ⟨hd, z⟩⟩
          · refine .inr ?_
            have z2 : (decide ((j : Int) = a.s) && tellsF low bey n) = true := by
              unfold keepL at z
              simpa using z
            rw [Bool.and_eq_true, decide_eq_true_eq] at z2
            have ej : j = s := by
              have := z2.1
              rw [e1] at this
              omega
            rw [ej]
            exact h4.2 n z2.2
      · exact .inr h
    · rw [upW_ne e]; exact I.cp i j hi hj ne n h0 h1
  · rw [take_K i] at h1 ⊢
    rw [take_K j]
    exact I.ck i j hi hj ne n h0 h1
  · rw [take_K]
    by_cases e : i = m
    · rw [e, upW_same] at hn
      rw [e]
      unfold Pl.take at hn
      cases hb : a.b with
      | drop k0 =>
        rw [hb] at hn h4
        have hn' : n ∈ getT (if a.n ∈ getT (ω m).P.ts a.s then ω m else ⟨psTake (ω m).P a.s a.n, (ω m).K, (ω m).nw ++ [(a.s, a.n, dropD k0)], (ω m).kn⟩).P.ts s' := hn
        by_cases z : a.n ∈ getT (ω m).P.ts a.s
        · rw [if_pos z] at hn'
          exact I.st m s' hm hs' n hn'
        · rw [if_neg z] at hn'
          have hn2 : n ∈ getT (puA (ω m).P.ts a.s (getT (ω m).P.ts a.s ++ [a.n])) s' := hn'
          rw [getT_put] at hn2
          by_cases e3 : a.s = (s' : Int)
          · rw [if_pos e3] at hn2
            rcases List.mem_append.mp hn2 with y | y
            · rw [e3] at y
              exact I.st m s' hm hs' n y
            · rw [List.mem_singleton.mp y]
              have es : s = s' := by omega
              rw [← es]
              exact h4
          · rw [if_neg e3] at hn2
            exact I.st m s' hm hs' n hn2
      | ack low bey =>
        rw [hb] at hn
        exact I.st m s' hm hs' n hn
    · rw [upW_ne e] at hn
      exact I.st i s' hi hs' n hn
  · by_cases e : i = m
    · rw [e, upW_same, take_Kx.1, take_Kx.2.1]
      refine ⟨?_, (I.nw m hm).2⟩
      have old := (I.nw m hm).1
      unfold Pl.take
      cases hb : a.b with
      | drop k0 =>
        show NwOk (if a.n ∈ getT (ω m).P.ts a.s then ω m else _).P (if a.n ∈ getT (ω m).P.ts a.s then ω m else _).nw
        split
        · exact old
        · intro s'
          show (((ω m).nw ++ [(a.s, a.n, dropD k0)]).filter fun e => decide (e.1 = s')).map (·.2.1) = getT (puA (ω m).P.ts a.s (getT (ω m).P.ts a.s ++ [a.n])) s'
          rw [List.filter_append, List.map_append, old s', getT_put]
          by_cases e3 : a.s = s'
          · rw [if_pos e3, ← e3]
            simp
          · rw [if_neg e3]
            simp [e3]
      | ack low bey => exact old
    · rw [upW_ne e]; exact I.nw i hi
theorem cover2 : ∀ (n : Nat) (L : List Int), L.Nodup → (∀ x ∈ L, 0 ≤ x ∧ x < (n : Int)) → L.length ≤ n
  | 0, [], _, _ => Nat.le_refl _
  | 0, x :: _, _, h => by
    have := h x List.mem_cons_self
    omega
  | n + 1, L, nd, h => by
    have ih := cover2 n (L.erase (n : Int)) (nd.erase _) fun x hx => by
      have a := h x (List.mem_of_mem_erase hx)
      have b : x ≠ (n : Int) := (List.Nodup.mem_erase_iff nd).mp hx |>.1
      omega
    by_cases m : (n : Int) ∈ L
    · rw [List.length_erase_of_mem m] at ih
      omega
    · rw [List.erase_of_not_mem m] at ih
      omega
theorem PSok.few {N cnt m : Nat} {s : PS} (p : PSok N cnt m s) : s.hs.length ≤ cnt := by
  have h := cover2 cnt (s.hs.map (·.1)) p.k fun x hx => by
    obtain ⟨_, a, b⟩ := p.t x (p.u x hx)
    exact ⟨a, b⟩
  rw [List.length_map] at h
  exact h
def Nb (cnt N : Nat) (ω : Nat → Pl) : Prop := ∀ m, m < cnt → (ω m).nw.length ≤ N ∧ (ω m).kn.length ≤ N
theorem Nb.mono {cnt N N' : Nat} {ω : Nat → Pl} (h : N ≤ N') (b : Nb cnt N ω) : Nb cnt N' ω := fun m hm => ⟨Nat.le_trans (b m hm).1 h, Nat.le_trans (b m hm).2 h⟩
theorem Nb.up {cnt N : Nat} {ω : Nat → Pl} {m : Nat} {x : Pl} (b : Nb cnt N ω) (h1 : x.nw.length ≤ N) (h2 : x.kn.length ≤ N) : Nb cnt N (upW ω m x) := fun i hi => by
  unfold upW
  split
  · exact ⟨h1, h2⟩
  · exact b i hi
theorem take_nw {x : Pl} {a : LetA} : (x.take a).nw.length ≤ x.nw.length + 1 := by
  unfold Pl.take
  split
  · split
    · exact Nat.le_succ _
    · rw [List.length_append]; exact Nat.le_refl _
  · exact Nat.le_succ _
/-! ### what is sent, what was delivered -/
def kOf : PyData → Int
  | .tuple [_, .int k, _] => k
  | _ => 0
theorem kOf_drop (k : Int) : kOf (dropD k) = k := rfl
def outL (m : Nat) (s : PS) : List LetA := s.lets.map fun x => ⟨m, x.1, x.2.1, .drop (kOf x.2.2)⟩
def ansL (m : Nat) (s : PS) : List LetA := (srtI (s.hs.map (·.1))).map fun o => ⟨m, o, -1, .ack (getH s.hs o).1 (getH s.hs o).2⟩
theorem outL_D {N : Nat} {cnt : Int} {m : Nat} {s : PS} (p : PSok N cnt m s) : (outL m s).map LetA.D = s.lets.map (letD m) := by
  unfold outL
  rw [List.map_map]
  refine List.map_congr_left fun x hx => ?_
  obtain ⟨_, _, k, e⟩ := p.z x hx
  show PyData.tuple [.int m, .int x.1, .int x.2.1, dropD (kOf x.2.2)] = .tuple [.int m, .int x.1, .int x.2.1, x.2.2]
  rw [e, kOf_drop]
theorem ansL_D {m : Nat} {s : PS} : (ansL m s).map LetA.D = (srtI (s.hs.map (·.1))).map (ansD m s.hs) := by
  unfold ansL
  rw [List.map_map]
  rfl
theorem outL_ok {cnt N : Nat} {ω : Nat → Pl} {m : Nat} (hm : m < cnt) (I : Inv cnt N ω) : ∀ a ∈ outL m (ω m).K, AirOk cnt ω a := fun a ha => by
  obtain ⟨x, hx, rfl⟩ := List.mem_map.mp ha
  obtain ⟨⟨a1, a2⟩, ⟨b1, b2, b3⟩, _⟩ := (I.ok m hm).2.z x hx
  refine ⟨m, x.1.toNat, rfl, ?_, hm, by omega, by omega, a1, ?_⟩
  · show x.1 = ((x.1.toNat : Nat) : Int)
    omega
  · show x.2.1 < getN (ω m).K.ns ((x.1.toNat : Nat) : Int)
    rw [Int.toNat_of_nonneg b2]
    exact a2
theorem ansL_ok {cnt N : Nat} {ω : Nat → Pl} {m : Nat} (hm : m < cnt) (I : Inv cnt N ω) : ∀ a ∈ ansL m (ω m).K, AirOk cnt ω a := fun a ha => by
  obtain ⟨o, ho, rfl⟩ := List.mem_map.mp ha
  have p := (I.ok m hm).2
  obtain ⟨b1, b2, b3⟩ := p.t o (p.u o (srtI_mem.mp ho))
  refine ⟨m, o.toNat, rfl, ?_, hm, by omega, by omega, rfl, fun n hn => ?_⟩
  · show o = ((o.toNat : Nat) : Int)
    omega
  · obtain ⟨e, _, pos⟩ := relT_get p.r o
    rw [e, pairF_tells pos] at hn
    rw [Int.toNat_of_nonneg b2]
    exact of_decide_eq_true hn
def Deliv (ω : Nat → Pl) (a : LetA) : Prop := match a.b with
  | .drop _ => a.n ∈ getT (ω a.g.toNat).P.ts a.s
  | .ack low bey => ∀ x ∈ (ω a.g.toNat).P.lets, x.1 = a.s → tellsF low bey x.2.1 = false
def takeW (ω : Nat → Pl) (a : LetA) : Nat → Pl := upW ω a.g.toNat ((ω a.g.toNat).take a)
theorem deliv_now (ω : Nat → Pl) (a : LetA) : Deliv (takeW ω a) a := by
  unfold Deliv takeW
  rw [upW_same]
  unfold Pl.take
  cases a.b with
  | drop k =>
    show a.n ∈ getT (if a.n ∈ getT (ω a.g.toNat).P.ts a.s then ω a.g.toNat else _).P.ts a.s
    split
    · rename_i h; exact h
    · show a.n ∈ getT (puA (ω a.g.toNat).P.ts a.s (getT (ω a.g.toNat).P.ts a.s ++ [a.n])) a.s
      rw [getT_put, if_pos rfl]
      exact List.mem_append_right _ List.mem_cons_self
  | ack low bey =>
    intro x hx e
    have h := (List.mem_filter.mp (show x ∈ (ω a.g.toNat).P.lets.filter (keepL a.s (low, bey)) from hx)).2
    unfold keepL at h
    rw [decide_eq_true e, Bool.true_and] at h
    simpa using h
theorem deliv_keep {ω : Nat → Pl} {a b : LetA} (h : Deliv ω a) : Deliv (takeW ω b) a := by
  unfold Deliv at h ⊢
  unfold takeW
  by_cases e : a.g.toNat = b.g.toNat
  · rw [e, upW_same]
    rw [e] at h
    cases hb : a.b with
    | drop k =>
      rw [hb] at h
      exact take_ts h
    | ack low bey =>
      rw [hb] at h
      exact fun x hx => h x (take_lets hx)
  · rw [upW_ne e]
    exact h
theorem takeW_K {ω : Nat → Pl} {a : LetA} : ∀ i, (takeW ω a i).K = (ω i).K := take_K
theorem takeW_ns {ω : Nat → Pl} {a : LetA} : ∀ i, (takeW ω a i).P.ns = (ω i).P.ns := fun i => by
  unfold takeW upW
  split
  · rename_i e; rw [e]; exact take_Kx.2.2
  · rfl
theorem takeW_ts {ω : Nat → Pl} {a : LetA} {i : Nat} {o n : Int} (h : n ∈ getT (ω i).P.ts o) : n ∈ getT (takeW ω a i).P.ts o := by
  unfold takeW
  by_cases e : i = a.g.toNat
  · rw [e, upW_same]
    rw [e] at h
    exact take_ts h
  · rw [upW_ne e]; exact h
theorem Inv.takeW {cnt N : Nat} {ω : Nat → Pl} {a : LetA} (k : AirOk cnt ω a) (I : Inv cnt N ω) : Inv cnt (N + 1) (K43.takeW ω a) := by
  obtain ⟨g, e, hg, J⟩ := I.take k
  unfold K43.takeW
  have : a.g.toNat = g := by omega
  rw [this]
  exact J
/-! ### all places commit -/
def comA (ω : Nat → Pl) (j : Nat) : Nat → Pl := fun i => if i < j then (ω i).commit else ω i
theorem comA_zero (ω : Nat → Pl) : comA ω 0 = ω := funext fun i => if_neg (Nat.not_lt_zero i)
theorem comA_succ (ω : Nat → Pl) (j : Nat) : comA ω (j + 1) = upW (comA ω j) j (comA ω j j).commit := funext fun i => by
  have ej : comA ω j j = ω j := if_neg (Nat.lt_irrefl j)
  unfold upW
  by_cases e : i = j
  · rw [if_pos e, ej, e]
    exact if_pos (Nat.lt_succ_self j)
  · rw [if_neg e]
    unfold comA
    by_cases h : i < j
    · rw [if_pos h, if_pos (Nat.lt_succ_of_lt h)]
    · rw [if_neg h, if_neg (by omega)]
theorem comA_P (ω : Nat → Pl) (j : Nat) : ∀ i, (comA ω j i).P = (ω i).P := fun i => by
  unfold comA
  split <;> rfl
theorem comA_K {ω : Nat → Pl} {j i : Nat} (h : i < j) : (comA ω j i).K = (ω i).P := by
  unfold comA
  rw [if_pos h]
  rfl
theorem comA_kn {ω : Nat → Pl} {j i : Nat} (h : i < j) : (comA ω j i).kn = (ω i).nw := by
  unfold comA
  rw [if_pos h]
  rfl
theorem comA_inv {cnt N : Nat} {ω : Nat → Pl} (I : Inv cnt N ω) : ∀ j, j ≤ cnt → Inv cnt N (comA ω j)
  | 0, _ => by rw [comA_zero]; exact I
  | j + 1, h => by
    rw [comA_succ]
    exact (comA_inv I j (by omega)).commit (by omega)
def allL (ω : Nat → Pl) (j : Nat) : List LetA := (List.range j).flatMap fun i => outL i (ω i).P ++ ansL i (ω i).P
theorem allL_succ (ω : Nat → Pl) (j : Nat) : allL ω (j + 1) = allL ω j ++ (outL j (ω j).P ++ ansL j (ω j).P) := by
  unfold allL
  rw [List.range_succ, List.flatMap_append]
  simp
theorem allL_mem {ω : Nat → Pl} {j : Nat} {a : LetA} : a ∈ allL ω j ↔ ∃ i, i < j ∧ (a ∈ outL i (ω i).P ∨ a ∈ ansL i (ω i).P) := by
  unfold allL
  rw [List.mem_flatMap]
  constructor
  · rintro ⟨i, hi, h⟩
    exact ⟨i, List.mem_range.mp hi, List.mem_append.mp h⟩
  · rintro ⟨i, hi, h⟩
    exact ⟨i, List.mem_range.mpr hi, List.mem_append.mpr h⟩
theorem allL_ok {cnt N : Nat} {ω : Nat → Pl} (I : Inv cnt N ω) : ∀ a ∈ allL ω cnt, AirOk cnt (comA ω cnt) a := fun a ha => by
  obtain ⟨i, hi, h⟩ := allL_mem.mp ha
  have J := comA_inv I cnt (Nat.le_refl _)
  have e : (comA ω cnt i).K = (ω i).P := comA_K hi
  rcases h with h | h
  · exact outL_ok hi J a (by rw [e]; exact h)
  · exact ansL_ok hi J a (by rw [e]; exact h)
/-- one after another -/
def runW (ω : Nat → Pl) : List LetA → Nat → Pl
  | [] => ω
  | a :: r => runW (takeW ω a) r
theorem runW_snoc (a : LetA) : ∀ (L : List LetA) (ω : Nat → Pl), runW ω (L ++ [a]) = takeW (runW ω L) a
  | [], _ => rfl
  | b :: r, ω => by
    show runW (takeW ω b) (r ++ [a]) = takeW (runW (takeW ω b) r) a
    exact runW_snoc a r (takeW ω b)
structure Ran (cnt N : Nat) (ω ω' : Nat → Pl) (L : List LetA) : Prop where
  inv : Inv cnt (N + L.length) ω'
  K : ∀ i, (ω' i).K = (ω i).K
  ns : ∀ i, (ω' i).P.ns = (ω i).P.ns
  ts : ∀ i o n, n ∈ getT (ω i).P.ts o → n ∈ getT (ω' i).P.ts o
  del : ∀ a ∈ L, Deliv ω' a
theorem runW_ran {cnt N : Nat} {ω : Nat → Pl} (I : Inv cnt N ω) (L : List LetA) (h : ∀ a ∈ L, AirOk cnt ω a) : ∀ k, k ≤ L.length → Ran cnt N ω (runW ω (L.take k)) (L.take k)
  | 0, _ => by
    rw [List.take_zero]
    exact ⟨I, fun _ => rfl, fun _ => rfl, fun _ _ _ h => h, fun a ha => nomatch ha⟩
  | k + 1, hk => by
    have R := runW_ran I L h k (by omega)
    have e : L.take (k + 1) = L.take k ++ [L[k]] := by
      rw [List.take_succ, List.getElem?_eq_getElem (by omega)]
      rfl
    rw [e, runW_snoc]
    have ok : AirOk cnt (runW ω (L.take k)) L[k] := (h _ (List.getElem_mem (by omega))).same R.K
    refine ⟨?_, fun i => by rw [takeW_K, R.K], fun i => by rw [takeW_ns, R.ns], fun i o n hn => takeW_ts (R.ts i o n hn), fun a ha => ?_⟩
    · rw [List.length_append]
      exact R.inv.takeW ok
    · rcases List.mem_append.mp ha with z | z
      · exact deliv_keep (R.del a z)
      · rw [List.mem_singleton.mp z]
        exact deliv_now _ _
/-! ### two turns -/
def Full (cnt : Nat) (ω : Nat → Pl) : Prop := ∀ m g, m < cnt → g < cnt → m ≠ g → ∀ n, 0 ≤ n → n < getN (ω m).P.ns g → n ∈ getT (ω g).P.ts m
theorem turn_full {cnt N : Nat} {ω ω' : Nat → Pl} {L : List LetA} (R : Ran cnt N (comA ω cnt) ω' L) (h : ∀ a ∈ allL ω cnt, a ∈ L) : Full cnt ω' := fun m g hm hg ne n h0 h1 => by
  have e1 : (ω' m).P.ns = (ω' m).K.ns := by rw [R.ns, R.K, comA_P, comA_K hm]
  rw [e1] at h1
  rcases R.inv.ck m g hm hg ne n h0 h1 with ⟨d, hd⟩ | hd
  · rw [R.K, comA_K hm] at hd
    have mem : (⟨m, g, n, .drop (kOf d)⟩ : LetA) ∈ allL ω cnt := allL_mem.mpr ⟨m, hm, .inl (List.mem_map.mpr ⟨_, hd, rfl⟩)⟩
    have z := R.del _ (h _ mem)
    exact z
  · exact R.inv.mt g hg m n hd
theorem full_keep {cnt N : Nat} {ω ω' : Nat → Pl} {L : List LetA} (R : Ran cnt N (comA ω cnt) ω' L) (F : Full cnt ω) : Full cnt ω' := fun m g hm hg ne n h0 h1 => by
  rw [R.ns, comA_P] at h1
  refine R.ts g m n ?_
  rw [comA_P]
  exact F m g hm hg ne n h0 h1
theorem relT_key {hs : Heard} {ts : Taks} {o n : Int} (r : RelT hs ts) (h : n ∈ getT ts o) : o ∈ hs.map (·.1) := by
  rw [relT_keys r]
  unfold getT at h
  cases z : lkA ts o with
  | none => rw [z] at h; exact nomatch h
  | some v => exact List.mem_map.mpr ⟨_, lkA_mem z, rfl⟩
theorem turn_empty {cnt N : Nat} {ω ω' : Nat → Pl} {L : List LetA} (I : Inv cnt N ω) (R : Ran cnt N (comA ω cnt) ω' L) (h : ∀ a ∈ allL ω cnt, a ∈ L) (F : Full cnt ω) : ∀ m, m < cnt → (ω' m).P.lets = [] := fun m hm => by
  rcases List.eq_nil_or_concat (ω' m).P.lets with e | ⟨l, x, e⟩
  · exact e
  · exfalso
    have hx : x ∈ (ω' m).P.lets := by
      rw [e, List.concat_eq_append]
      exact List.mem_append_right _ List.mem_cons_self
    obtain ⟨⟨a1, a2⟩, ⟨b1, b2, b3⟩, _⟩ := (R.inv.ok m hm).1.z x hx
    rw [R.ns, comA_P] at a2
    have eg : ((x.1.toNat : Nat) : Int) = x.1 := Int.toNat_of_nonneg b2
    have hg : x.1.toNat < cnt := by omega
    have f := F m x.1.toNat hm hg (by omega) x.2.1 a1 (by rw [eg]; exact a2)
    have p := (I.ok x.1.toNat hg).1
    have key := relT_key p.r f
    have mem : (⟨(x.1.toNat : Nat), m, -1, .ack (getH (ω x.1.toNat).P.hs m).1 (getH (ω x.1.toNat).P.hs m).2⟩ : LetA) ∈ allL ω cnt := allL_mem.mpr ⟨x.1.toNat, hg, .inr (List.mem_map.mpr ⟨_, srtI_mem.mpr key, rfl⟩)⟩
    have z : ∀ y ∈ (ω' (m : Int).toNat).P.lets, y.1 = ((x.1.toNat : Nat) : Int) → tellsF (getH (ω x.1.toNat).P.hs m).1 (getH (ω x.1.toNat).P.hs m).2 y.2.1 = false := R.del _ (h _ mem)
    have z2 := z x (by rw [Int.toNat_natCast]; exact hx) eg.symm
    obtain ⟨e2, _, pos⟩ := relT_get p.r m
    rw [e2, pairF_tells pos, decide_eq_true f] at z2
    cases z2
/-! ### the end -/
def rgI (n : Nat) : List Int := (List.range n).map fun i => ((i : Nat) : Int)
theorem rgI_mem {n : Nat} {x : Int} : x ∈ rgI n ↔ 0 ≤ x ∧ x < n := by
  unfold rgI
  rw [List.mem_map]
  constructor
  · rintro ⟨i, hi, rfl⟩
    have := List.mem_range.mp hi
    omega
  · rintro ⟨a, b⟩
    exact ⟨x.toNat, List.mem_range.mpr (by omega), by omega⟩
theorem rgI_lt (n : Nat) : (rgI n).Pairwise (· < ·) := by
  unfold rgI
  rw [List.pairwise_map]
  exact List.pairwise_lt_range.imp fun h => by omega
theorem full_list {T : List Int} {n : Nat} (nd : T.Nodup) (h : ∀ x, x ∈ T ↔ 0 ≤ x ∧ x < (n : Int)) : srtI T = rgI n ∧ pairF T = ((n : Int), []) := by
  have a : srtI T = rgI n := by
    refine (srtI_eq ?_ ((rgI_lt n).imp fun z => Int.le_of_lt z)).symm
    refine (List.perm_ext_iff_of_nodup ((rgI_lt n).imp fun z e => by omega) nd).mpr fun x => ?_
    rw [rgI_mem, h]
  refine ⟨a, ?_⟩
  have M : IsMex T (n : Int) := ⟨fun i h0 h1 => (h i).mpr ⟨h0, h1⟩, by omega, fun z => by have := (h _).mp z; omega⟩
  have e : mexF T = (n : Int) := (mexF_is T).uniq M
  unfold pairF
  rw [e]
  have f : (T.filter fun k => decide ((n : Int) < k)) = [] := by
    rw [List.filter_eq_nil_iff]
    intro x hx
    have := (h x).mp hx
    simp only [decide_eq_true_eq]
    omega
  rw [f]
  simp [srtI]
theorem end_all {cnt N : Nat} {ω : Nat → Pl} (I : Inv cnt N ω) (F : Full cnt ω) {m o : Nat} (hm : m < cnt) (ho : o < cnt) (ne : o ≠ m) :
    ∃ n : Nat, getN (ω o).P.ns m = (n : Int) ∧ getH (ω m).P.hs o = ((n : Int), []) ∧ srtI (((ω m).nw.filter fun e => decide (e.1 = (o : Int))).map (·.2.1)) = rgI n := by
  have g0 := (I.ok o ho).1.g m
  refine ⟨(getN (ω o).P.ns m).toNat, by omega, ?_⟩
  obtain ⟨e, nd, pos⟩ := relT_get (I.ok m hm).1.r (o : Int)
  have all : ∀ x, x ∈ getT (ω m).P.ts o ↔ 0 ≤ x ∧ x < (((getN (ω o).P.ns m).toNat : Nat) : Int) := fun x => by
    rw [Int.toNat_of_nonneg g0]
    constructor
    · intro hx
      obtain ⟨a, b⟩ := I.st m o hm ho x hx
      have := I.mn o ho m
      exact ⟨a, by omega⟩
    · rintro ⟨a, b⟩
      exact F o m ho hm ne x a b
  obtain ⟨a, b⟩ := full_list nd all
  rw [(I.nw m hm).1 (o : Int)]
  exact ⟨e.trans b, a⟩
/-! ### small things that k42 and k43 share -/
theorem catA_all {H : Hp} {Q : VK} {a b : Addr} {xs ys : List V} (ha : SqT K H a xs) (hb : SqT K H b ys) (hz : xs.length + ys.length ≤ sizeLine) (q : ∀ H' p, Same H H' → SqT K H' p (xs ++ ys) → Q (.ref p) H') : rCatA K (.ref a) (.ref b) H Q := by
  refine ⟨a, b, xs, ys, rfl, rfl, ha, hb, hz, fun e => ?_, fun _ e => ?_, fun _ _ p np => ?_⟩
  · exact q H b (Same.refl _) (by rw [e]; exact hb)
  · exact q H a (Same.refl _) (by rw [e, List.append_nil]; exact ha)
  · exact q _ p (Cm.same_new np) Cm.sqt_new
theorem Nb.takeW {cnt N : Nat} {ω : Nat → Pl} {a : LetA} (k : AirOk cnt ω a) (b : Nb cnt N ω) : Nb cnt (N + 1) (K43.takeW ω a) := by
  obtain ⟨s, g, _, e2, _, hg, _⟩ := k
  unfold K43.takeW
  have eg : a.g.toNat = g := by omega
  rw [eg]
  have h := b g hg
  refine (b.mono (Nat.le_succ N)).up ?_ ?_
  · have := take_nw (x := ω g) (a := a)
    omega
  · rw [take_Kx.2.1]
    omega
theorem sent_D {N cnt m : Nat} {s : PS} (p : PSok N cnt m s) : (outL m s ++ ansL m s).map LetA.D = s.lets.map (letD m) ++ (srtI (s.hs.map (·.1))).map (ansD m s.hs) := by
  rw [List.map_append, outL_D p, ansL_D]
theorem srtI_len (l : List Int) : (srtI l).length = l.length := (List.mergeSort_perm l _).length_eq
theorem sent_len {m : Nat} {s : PS} : (outL m s ++ ansL m s).length = s.lets.length + s.hs.length := by
  unfold outL ansL
  rw [List.length_append, List.length_map, List.length_map, srtI_len, List.length_map]
/-! ### places with what they gave, what is old, what was ever sent -/
abbrev Tr : Type := List (Int × Int × PyData)
structure Ex where
  sent : Tr
  given : Tr
  old : Tr
structure Pq where
  x : Pl
  e : Ex
def upQ (ω : Nat → Pq) (m : Nat) (y : Pq) : Nat → Pq := fun i => if i = m then y else ω i
theorem upQ_same {ω : Nat → Pq} {m : Nat} {y : Pq} : upQ ω m y m = y := if_pos rfl
theorem upQ_ne {ω : Nat → Pq} {m i : Nat} {y : Pq} (h : i ≠ m) : upQ ω m y i = ω i := if_neg h
def xO (ω : Nat → Pq) : Nat → Pl := fun i => (ω i).x
theorem xO_up {ω : Nat → Pq} {m : Nat} {y : Pq} : xO (upQ ω m y) = upW (xO ω) m y.x := funext fun i => by
  unfold xO upQ upW
  split <;> rfl
theorem upQ_id {ω : Nat → Pq} {m : Nat} : upQ ω m (ω m) = ω := funext fun i => by
  unfold upQ
  split
  · rename_i e; rw [e]
  · rfl
def giveQ (y : Pq) (g k : Int) : Pq := ⟨y.x.give g k, ⟨y.e.sent, y.e.given ++ [(g, getN y.x.P.ns g, dropD k)], y.e.old⟩⟩
def commitQ (y : Pq) (sub : Tr) : Pq := ⟨y.x.commit, ⟨y.e.sent ++ sub, y.e.given, y.e.given⟩⟩
def fallQ (y : Pq) : Pq := ⟨y.x.fall, ⟨y.e.sent, y.e.old, y.e.old⟩⟩
def takeQ (y : Pq) (a : LetA) : Pq := ⟨y.x.take a, y.e⟩
def GOk (cnt m : Nat) (ns : Nums) (z : Int × Int × PyData) : Prop := (0 ≤ z.2.1 ∧ z.2.1 < getN ns z.1) ∧ (z.1 ≠ m ∧ 0 ≤ z.1 ∧ z.1 < cnt) ∧ ∃ k, z.2.2 = dropD k
def FromOld (cnt m : Nat) (ω : Nat → Pq) (t : Int × Int × PyData) : Prop := ∃ s : Nat, s < cnt ∧ t.1 = s ∧ ((m : Int), t.2.1, t.2.2) ∈ (ω s).e.old
structure Inw (cnt N : Nat) (ω : Nat → Pq) : Prop where
  I : Inv cnt N (xO ω)
  B : Nb cnt N (xO ω)
  gv : ∀ m, m < cnt → ∀ z ∈ (ω m).e.given, GOk cnt m (ω m).x.P.ns z
  ol : ∀ m, m < cnt → ∀ z ∈ (ω m).e.old, GOk cnt m (ω m).x.K.ns z
  gu : ∀ m, m < cnt → ∀ z ∈ (ω m).e.given, ∀ z' ∈ (ω m).e.given, z.1 = z'.1 → z.2.1 = z'.2.1 → z = z'
  og : ∀ m, m < cnt → ∀ z ∈ (ω m).e.old, z ∈ (ω m).e.given
  lp : ∀ m, m < cnt → ∀ z ∈ (ω m).x.P.lets, z ∈ (ω m).e.given
  lk : ∀ m, m < cnt → ∀ z ∈ (ω m).x.K.lets, z ∈ (ω m).e.old
  so : ∀ m, m < cnt → ∀ z ∈ (ω m).e.sent, z ∈ (ω m).e.old
  nw : ∀ m, m < cnt → ∀ t ∈ (ω m).x.nw, FromOld cnt m ω t
  kn : ∀ m, m < cnt → ∀ t ∈ (ω m).x.kn, FromOld cnt m ω t
def AirQ (cnt : Nat) (ω : Nat → Pq) (a : LetA) : Prop := AirOk cnt (xO ω) a ∧ ∀ k, a.b = .drop k → (a.g, a.n, dropD k) ∈ (ω a.s.toNat).e.old
theorem FromOld.mono {cnt m : Nat} {ω ω' : Nat → Pq} {t : Int × Int × PyData} (h : ∀ i, i < cnt → ∀ z ∈ (ω i).e.old, z ∈ (ω' i).e.old) (f : FromOld cnt m ω t) : FromOld cnt m ω' t := by
  obtain ⟨s, a, b, c⟩ := f
  exact ⟨s, a, b, h s a _ c⟩
/-- one place is changed -/
theorem Inw.up {cnt N : Nat} {ω : Nat → Pq} {m : Nat} {y : Pq} (hm : m < cnt) (W : Inw cnt N ω) (I : Inv cnt N (upW (xO ω) m y.x)) (B : Nb cnt N (upW (xO ω) m y.x)) (gv : ∀ z ∈ y.e.given, GOk cnt m y.x.P.ns z) (ol : ∀ z ∈ y.e.old, GOk cnt m y.x.K.ns z)
    (gu : ∀ z ∈ y.e.given, ∀ z' ∈ y.e.given, z.1 = z'.1 → z.2.1 = z'.2.1 → z = z') (og : ∀ z ∈ y.e.old, z ∈ y.e.given) (lp : ∀ z ∈ y.x.P.lets, z ∈ y.e.given) (lk : ∀ z ∈ y.x.K.lets, z ∈ y.e.old) (so : ∀ z ∈ y.e.sent, z ∈ y.e.old)
    (gr : ∀ z ∈ (ω m).e.old, z ∈ y.e.old) (nw : ∀ t ∈ y.x.nw, FromOld cnt m ω t) (kn : ∀ t ∈ y.x.kn, FromOld cnt m ω t) : Inw cnt N (upQ ω m y) := by
  have grow : ∀ i, i < cnt → ∀ z ∈ (ω i).e.old, z ∈ (upQ ω m y i).e.old := fun i _ z hz => by
    by_cases e : i = m
    · rw [e, upQ_same]; exact gr z (e ▸ hz)
    · rw [upQ_ne e]; exact hz
  refine ⟨by rw [xO_up]; exact I, by rw [xO_up]; exact B, fun i hi => ?_, fun i hi => ?_, fun i hi => ?_, fun i hi => ?_, fun i hi => ?_, fun i hi => ?_, fun i hi => ?_, fun i hi t ht => ?_, fun i hi t ht => ?_⟩
  all_goals by_cases e : i = m
  · rw [e, upQ_same]; exact gv
  · rw [upQ_ne e]; exact W.gv i hi
  · rw [e, upQ_same]; exact ol
  · rw [upQ_ne e]; exact W.ol i hi
  · rw [e, upQ_same]; exact gu
  · rw [upQ_ne e]; exact W.gu i hi
  · rw [e, upQ_same]; exact og
  · rw [upQ_ne e]; exact W.og i hi
  · rw [e, upQ_same]; exact lp
  · rw [upQ_ne e]; exact W.lp i hi
  · rw [e, upQ_same]; exact lk
  · rw [upQ_ne e]; exact W.lk i hi
  · rw [e, upQ_same]; exact so
  · rw [upQ_ne e]; exact W.so i hi
  · rw [e, upQ_same] at ht
    rw [e]
    exact (nw t ht).mono grow
  · rw [upQ_ne e] at ht
    exact (W.nw i hi t ht).mono grow
  · rw [e, upQ_same] at ht
    rw [e]
    exact (kn t ht).mono grow
  · rw [upQ_ne e] at ht
    exact (W.kn i hi t ht).mono grow
theorem Inw.mono {cnt N N' : Nat} {ω : Nat → Pq} (h : N ≤ N') (W : Inw cnt N ω) : Inw cnt N' ω := ⟨W.I.mono h, W.B.mono h, W.gv, W.ol, W.gu, W.og, W.lp, W.lk, W.so, W.nw, W.kn⟩
theorem Inw.give {cnt N : Nat} {ω : Nat → Pq} {m g : Nat} {k : Int} (hm : m < cnt) (hg : g < cnt) (hne : g ≠ m) (W : Inw cnt N ω) : Inw cnt (N + 1) (upQ ω m (giveQ (ω m) g k)) := by
  have p0 := (W.I.ok m hm).1.g g
  have p0' : 0 ≤ getN (ω m).x.P.ns g := p0
  have fr : ∀ z ∈ (ω m).e.given, z.1 = (g : Int) → z.2.1 < getN (ω m).x.P.ns g := fun z hz e => by
    have := (W.gv m hm z hz).1.2
    rw [e] at this
    exact this
  refine (W.mono (Nat.le_succ N)).up hm (W.I.give hm hg hne (k := k)) ((W.B.mono (Nat.le_succ N)).up (Nat.le_succ_of_le (W.B m hm).1) (Nat.le_succ_of_le (W.B m hm).2)) (fun z hz => ?_) (W.ol m hm) (fun z hz z' hz' e1 e2 => ?_) (fun z hz => List.mem_append_left _ (W.og m hm z hz)) (fun z hz => ?_) (W.lk m hm) (W.so m hm) (fun z hz => hz) (W.nw m hm) (W.kn m hm)
  · show (0 ≤ z.2.1 ∧ z.2.1 < getN (puA (ω m).x.P.ns g (getN (ω m).x.P.ns g + 1)) z.1) ∧ _
    rcases List.mem_append.mp hz with h | h
    · obtain ⟨⟨a1, a2⟩, b⟩ := W.gv m hm z h
      have := getN_mono (ω m).x.P.ns g z.1
      exact ⟨⟨a1, by omega⟩, b⟩
    · rw [List.mem_singleton.mp h]
      refine ⟨⟨p0', ?_⟩, ⟨by show ((g : Nat) : Int) ≠ m; omega, by show (0 : Int) ≤ g; omega, by show ((g : Nat) : Int) < cnt; omega⟩, k, rfl⟩
      show getN (ω m).x.P.ns g < getN (puA (ω m).x.P.ns g (getN (ω m).x.P.ns g + 1)) g
      rw [getN_put, if_pos rfl]
      omega
  · rcases List.mem_append.mp hz with h | h
    · rcases List.mem_append.mp hz' with h' | h'
      · exact W.gu m hm z h z' h' e1 e2
      · rw [List.mem_singleton.mp h'] at e1 e2
        have := fr z h e1
        have e2' : z.2.1 = getN (ω m).x.P.ns g := e2
        omega
    · rcases List.mem_append.mp hz' with h' | h'
      · rw [List.mem_singleton.mp h] at e1 e2
        have := fr z' h' e1.symm
        have e2' : getN (ω m).x.P.ns g = z'.2.1 := e2
        omega
      · rw [List.mem_singleton.mp h, List.mem_singleton.mp h']
  · have hz' : z ∈ (ω m).x.P.lets ++ [((g : Int), getN (ω m).x.P.ns g, dropD k)] := hz
    rcases List.mem_append.mp hz' with h | h
    · exact List.mem_append_left _ (W.lp m hm z h)
    · exact List.mem_append_right _ h
theorem Inw.commit {cnt N : Nat} {ω : Nat → Pq} {m : Nat} {sub : Tr} (hm : m < cnt) (hs : ∀ z ∈ sub, z ∈ (ω m).x.P.lets) (W : Inw cnt N ω) : Inw cnt N (upQ ω m (commitQ (ω m) sub)) :=
  W.up hm (W.I.commit hm) (W.B.up (W.B m hm).1 (W.B m hm).1) (W.gv m hm) (W.gv m hm) (W.gu m hm) (fun z hz => hz) (W.lp m hm) (W.lp m hm)
    (fun z hz => (List.mem_append.mp hz).elim (fun h => W.og m hm z (W.so m hm z h)) fun h => W.lp m hm z (hs z h)) (W.og m hm) (W.nw m hm) (W.nw m hm)
theorem Inw.fall {cnt N : Nat} {ω : Nat → Pq} {m : Nat} (hm : m < cnt) (W : Inw cnt N ω) : Inw cnt N (upQ ω m (fallQ (ω m))) :=
  W.up hm (W.I.fall hm) (W.B.up (W.B m hm).2 (W.B m hm).2) (W.ol m hm) (W.ol m hm) (fun z hz z' hz' => W.gu m hm z (W.og m hm z hz) z' (W.og m hm z' hz')) (fun z hz => hz) (W.lk m hm) (W.lk m hm) (W.so m hm) (fun z hz => hz) (W.kn m hm) (W.kn m hm)
theorem Inw.take {cnt N : Nat} {ω : Nat → Pq} {a : LetA} (k : AirQ cnt ω a) (W : Inw cnt N ω) : Inw cnt (N + 1) (upQ ω a.g.toNat (takeQ (ω a.g.toNat) a)) := by
  obtain ⟨ka, ko⟩ := k
  obtain ⟨s, g, es, eg, hs, hg, hne, _⟩ := id ka
  have e2 : a.g.toNat = g := by omega
  have e1 : a.s.toNat = s := by omega
  have J := W.I.takeW ka
  have Bt := W.B.takeW ka
  unfold K43.takeW at J Bt
  rw [e2] at J Bt ⊢
  rw [e1] at ko
  obtain ⟨tK, tkn, tns⟩ := take_Kx (x := (ω g).x) (a := a)
  refine (W.mono (Nat.le_succ N)).up hg J Bt (fun z hz => ?_) (fun z hz => ?_) (W.gu g hg) (W.og g hg) (fun z hz => W.lp g hg z (take_lets hz)) (fun z hz => ?_) (W.so g hg) (fun z hz => hz) (fun t ht => ?_) (fun t ht => ?_)
  · show GOk cnt g ((ω g).x.take a).P.ns z
    rw [tns]
    exact W.gv g hg z hz
  · show GOk cnt g ((ω g).x.take a).K.ns z
    rw [tK]
    exact W.ol g hg z hz
  · have hz' : z ∈ ((ω g).x.take a).K.lets := hz
    rw [tK] at hz'
    exact W.lk g hg z hz'
  · have ht' : t ∈ ((ω g).x.take a).nw := ht
    unfold Pl.take at ht'
    cases hb : a.b with
    | drop k =>
      rw [hb] at ht'
      have ht2 : t ∈ (if a.n ∈ getT (ω g).x.P.ts a.s then (ω g).x else ⟨psTake (ω g).x.P a.s a.n, (ω g).x.K, (ω g).x.nw ++ [(a.s, a.n, dropD k)], (ω g).x.kn⟩ : Pl).nw := ht'
      split at ht2
      · exact W.nw g hg t ht2
      · rcases List.mem_append.mp ht2 with h | h
        · exact W.nw g hg t h
        · rw [List.mem_singleton.mp h]
          have := ko k hb
          rw [eg] at this
          exact ⟨s, hs, es, this⟩
    | ack low bey =>
      rw [hb] at ht'
      exact W.nw g hg t ht'
  · have ht' : t ∈ ((ω g).x.take a).kn := ht
    rw [tkn] at ht'
    exact W.kn g hg t ht'
theorem AirQ.keep {cnt : Nat} {ω ω' : Nat → Pq} {a : LetA} (hK : ∀ i, (ω' i).x.K = (ω i).x.K) (ho : ∀ i, (ω' i).e.old = (ω i).e.old) (k : AirQ cnt ω a) : AirQ cnt ω' a :=
  ⟨k.1.same hK, fun d h => by rw [ho]; exact k.2 d h⟩
theorem AirQ.commit {cnt N : Nat} {ω : Nat → Pq} {m : Nat} {sub : Tr} {a : LetA} (hm : m < cnt) (W : Inw cnt N ω) (k : AirQ cnt ω a) : AirQ cnt (upQ ω m (commitQ (ω m) sub)) a := by
  refine ⟨?_, fun d h => ?_⟩
  · rw [xO_up]
    exact k.1.commit hm W.I
  · by_cases e : a.s.toNat = m
    · rw [e, upQ_same]
      have := k.2 d h
      rw [e] at this
      exact W.og m hm _ this
    · rw [upQ_ne e]; exact k.2 d h
theorem up_K {ω : Nat → Pq} {m : Nat} {y : Pq} (h : y.x.K = (ω m).x.K) : ∀ i, (upQ ω m y i).x.K = (ω i).x.K := fun i => by
  unfold upQ
  split
  · rename_i e; rw [e]; exact h
  · rfl
theorem up_old {ω : Nat → Pq} {m : Nat} {y : Pq} (h : y.e.old = (ω m).e.old) : ∀ i, (upQ ω m y i).e.old = (ω i).e.old := fun i => by
  unfold upQ
  split
  · rename_i e; rw [e]; exact h
  · rfl
theorem sentQ {cnt N : Nat} {ω : Nat → Pq} {m : Nat} (hm : m < cnt) (W : Inw cnt N ω) : ∀ a ∈ outL m (ω m).x.K ++ ansL m (ω m).x.K, AirQ cnt ω a := fun a ha => by
  rcases List.mem_append.mp ha with h | h
  · refine ⟨outL_ok hm W.I a h, fun d e => ?_⟩
    obtain ⟨x, hx, rfl⟩ := List.mem_map.mp h
    obtain ⟨_, _, k, ek⟩ := (W.I.ok m hm).2.z x hx
    have ek' : x.2.2 = dropD k := ek
    have e' : Bdy.drop (kOf x.2.2) = Bdy.drop d := e
    rw [ek', kOf_drop] at e'
    injection e' with e'
    have := W.lk m hm x hx
    show (x.1, x.2.1, dropD d) ∈ (ω (m : Int).toNat).e.old
    rw [← e', ← ek', Int.toNat_natCast]
    exact this
  · refine ⟨ansL_ok hm W.I a h, fun d e => ?_⟩
    obtain ⟨o, ho, rfl⟩ := List.mem_map.mp h
    cases e
/-! ### what the law asks -/
theorem nodup_pairs : ∀ (L : Nw), (∀ s : Int, ((L.filter fun e => decide (e.1 = s)).map (·.2.1)).Nodup) → (L.map fun t => [t.1, t.2.1]).Nodup
  | [], _ => List.nodup_nil
  | t :: r, h => by
    rw [List.map_cons, List.nodup_cons]
    refine ⟨fun z => ?_, nodup_pairs r fun s => ?_⟩
    · obtain ⟨u, hu, e⟩ := List.mem_map.mp z
      have e1 : u.1 = t.1 := by injection e
      have e2 : u.2.1 = t.2.1 := by injection e with _ e; injection e
      have := h t.1
      rw [List.filter_cons, if_pos (by simp), List.map_cons, List.nodup_cons] at this
      exact this.1 (List.mem_map.mpr ⟨u, List.mem_filter.mpr ⟨hu, decide_eq_true e1⟩, e2⟩)
    · have := h s
      rw [List.filter_cons] at this
      split at this
      · rw [List.map_cons, List.nodup_cons] at this
        exact this.2
      · exact this
theorem Inw.names {cnt N : Nat} {ω : Nat → Pq} {m : Nat} (hm : m < cnt) (W : Inw cnt N ω) : ((ω m).x.kn.map fun t => [t.1, t.2.1]).Nodup := nodup_pairs _ fun s => by
  have := (W.I.nw m hm).2 s
  have this' : ((ω m).x.kn.filter fun e => decide (e.1 = s)).map (·.2.1) = getT (ω m).x.K.ts s := this
  rw [this']
  exact (relT_get (W.I.ok m hm).2.r s).2.1
theorem Inw.told {cnt N : Nat} {ω : Nat → Pq} {m : Nat} (hm : m < cnt) (W : Inw cnt N ω) (o n : Int) : tellsF (getH (ω m).x.K.hs o).1 (getH (ω m).x.K.hs o).2 n = decide (n ∈ ((ω m).x.kn.filter fun e => decide (e.1 = o)).map (·.2.1)) := by
  have h1 : ((ω m).x.kn.filter fun e => decide (e.1 = o)).map (·.2.1) = getT (ω m).x.K.ts o := (W.I.nw m hm).2 o
  obtain ⟨e, _, pos⟩ := relT_get (W.I.ok m hm).2.r o
  have e' : getH (ω m).x.K.hs o = pairF (getT (ω m).x.K.ts o) := e
  rw [h1, e']
  exact pairF_tells pos n
theorem Inw.boxed {cnt N : Nat} {ω : Nat → Pq} {m : Nat} (hm : m < cnt) (W : Inw cnt N ω) {z : Int × Int × PyData} (hz : z ∈ (ω m).e.sent) : ∃ g : Nat, g < cnt ∧ z.1 = g ∧ (z ∈ (ω m).x.K.lets ∨ tellsF (getH (ω g).x.K.hs m).1 (getH (ω g).x.K.hs m).2 z.2.1 = true) := by
  have ho := W.so m hm z hz
  obtain ⟨⟨a1, a2⟩, ⟨b1, b2, b3⟩, _⟩ := W.ol m hm z ho
  have eg : ((z.1.toNat : Nat) : Int) = z.1 := Int.toNat_of_nonneg b2
  have hg : z.1.toNat < cnt := by omega
  refine ⟨z.1.toNat, hg, eg.symm, ?_⟩
  rcases W.I.ck m z.1.toNat hm hg (by omega) z.2.1 a1 (by rw [eg]; exact a2) with ⟨d, hd⟩ | h
  · left
    rw [eg] at hd
    have h2 := W.lk m hm _ hd
    have := W.gu m hm z (W.og m hm z ho) _ (W.og m hm _ h2) rfl rfl
    rw [this]
    exact hd
  · right
    obtain ⟨e, _, pos⟩ := relT_get (W.I.ok z.1.toNat hg).2.r (m : Int)
    have e' : getH (ω z.1.toNat).x.K.hs m = pairF (getT (ω z.1.toNat).x.K.ts m) := e
    rw [e']
    exact (pairF_tells pos _).trans (decide_eq_true h)
/-! ### places in the heap: each thing is tagged by its owner -/
structure PA where
  p : Addr
  ol : Addr
  nd : Addr
  hd : Addr
structure PR where
  d : Addr
  a : PA
  b : PA
  q : Nat → Addr
abbrev DK (r : PR) : List (Key × V) := [(Sum.inr "present", .ref r.a.p), (Sum.inr "kept", .ref r.b.p), (Sum.inr "new", .ref (r.q 0)), (Sum.inr "known", .ref (r.q 1)), (Sum.inr "sent", .ref (r.q 2)), (Sum.inr "given", .ref (r.q 3)), (Sum.inr "old", .ref (r.q 4))]
def nwM (m : Nat) (t : Int × Int × PyData) : PyData := .tuple [.int t.1, .int m, .int t.2.1, t.2.2]
def datQ (m : Nat) (y : Pq) : Nat → List PyData
  | 0 => y.x.nw.map (nwM m)
  | 1 => y.x.kn.map (nwM m)
  | 2 => y.e.sent.map (letD m)
  | 3 => y.e.given.map (letD m)
  | _ => y.e.old.map (letD m)
abbrev PDs (K : PySem.W.Frag) (H : Hp) (a : PA) (m : Int) (s : PS) : Prop := PD K H a.p a.ol a.nd a.hd m s.lets s.ns s.hs
abbrev tag (own : Addr → Nat) (a : PA) (t : Nat) : Prop := own a.p = t ∧ own a.ol = t ∧ own a.nd = t ∧ own a.hd = t
structure PlaceAt (K : PySem.W.Frag) (H : Hp) (own : Addr → Nat) (m : Nat) (r : PR) (y : Pq) : Prop where
  d : H r.d = some (.dK (DK r))
  a : PDs K H r.a m y.x.P
  b : PDs K H r.b m y.x.K
  q : ∀ i, i < 5 → ∃ us, H (r.q i) = some (.lst us) ∧ Rps K H us (datQ m y i)
  td : own r.d = 10 * m
  ta : tag own r.a (10 * m + 1)
  tb : tag own r.b (10 * m + 2)
  tq : ∀ i, i < 5 → own (r.q i) = 10 * m + 3 + i
theorem PD.moved {H H' : Hp} {p ol nd hd : Addr} {me : Int} {lets : Lets} {ns : Nums} {hs : Heard} (D : PD K H p ol nd hd me lets ns hs) (tk : TK K H H') (f : ∀ c ∈ [p, ol, nd, hd], ∀ u, H c = some u → H' c = some u) : PD K H' p ol nd hd me lets ns hs := by
  obtain ⟨⟨ls, ⟨⟨dx, h1⟩, h2, h3, kvs, h4, h5⟩, r⟩, e⟩ := D
  exact ⟨⟨ls, ⟨⟨dx, f _ (by simp) _ h1⟩, f _ (by simp) _ h2, f _ (by simp) _ h3, kvs, f _ (by simp) _ h4, h5.keep tk⟩, rps_keep tk r⟩, e⟩
theorem PD.own {H : Hp} {a : PA} {m : Int} {s : PS} {own own' : Addr → Nat} {t : Nat} (D : PDs K H a m s) (h : tag own a t) (f : ∀ c u, H c = some u → own' c = own c) : tag own' a t := by
  obtain ⟨⟨_, t1⟩, ⟨_, t2⟩, ⟨_, t3⟩, ⟨_, t4⟩⟩ := PD.there D
  exact ⟨(f _ _ t1).trans h.1, (f _ _ t2).trans h.2.1, (f _ _ t3).trans h.2.2.1, (f _ _ t4).trans h.2.2.2⟩
/-- what belongs to the place stays: so does the place -/
theorem PlaceAt.keep {H H' : Hp} {own own' : Addr → Nat} {m : Nat} {r : PR} {y : Pq} (A : PlaceAt K H own m r y) (tk : TK K H H') (f : ∀ c u, H c = some u → own c / 10 = m → H' c = some u) (o : ∀ c u, H c = some u → own' c = own c) : PlaceAt K H' own' m r y := by
  obtain ⟨d, a, b, q, td, ta, tb, tq⟩ := A
  have fa : ∀ c ∈ [r.a.p, r.a.ol, r.a.nd, r.a.hd], ∀ u, H c = some u → H' c = some u := fun c hc u hu => f c u hu (by
    simp only [List.mem_cons, List.not_mem_nil, or_false] at hc
    obtain ⟨t1, t2, t3, t4⟩ := ta
    rcases hc with e | e | e | e <;> rw [e] <;> omega)
  have fb : ∀ c ∈ [r.b.p, r.b.ol, r.b.nd, r.b.hd], ∀ u, H c = some u → H' c = some u := fun c hc u hu => f c u hu (by
    simp only [List.mem_cons, List.not_mem_nil, or_false] at hc
    obtain ⟨t1, t2, t3, t4⟩ := tb
    rcases hc with e | e | e | e <;> rw [e] <;> omega)
  refine ⟨f _ _ d (by omega), PD.moved a tk fa, PD.moved b tk fb, fun i hi => ?_, (o _ _ d).trans td, PD.own a ta o, PD.own b tb o, fun i hi => ?_⟩
  · obtain ⟨us, h1, h2⟩ := q i hi
    have := tq i hi
    exact ⟨us, f _ _ h1 (by omega), rps_keep tk h2⟩
  · obtain ⟨us, h1, _⟩ := q i hi
    exact (o _ _ h1).trans (tq i hi)
theorem PlaceAt.same {H H' : Hp} {own : Addr → Nat} {m : Nat} {r : PR} {y : Pq} (A : PlaceAt K H own m r y) (s : Same H H') : PlaceAt K H' own m r y := A.keep (TK.same s) (fun c u h _ => s _ _ h) fun _ _ _ => rfl
/-- what one place does to the rest: nothing -/
structure Step (K : PySem.W.Frag) (H : Hp) (own : Addr → Nat) (m : Nat) (H' : Hp) (own' : Addr → Nat) : Prop where
  tk : TK K H H'
  fr : ∀ c u, H c = some u → own c / 10 ≠ m → H' c = some u
  ow : ∀ c u, H c = some u → own' c = own c
  al : ∀ c, H' c = none → H c = none
theorem Step.same {H H' : Hp} {own : Addr → Nat} {m : Nat} (s : Same H H') : Step K H own m H' own := ⟨TK.same s, fun c u h _ => s _ _ h, fun _ _ _ => rfl, fun _ h => s.free h⟩
theorem Step.trans {H H1 H2 : Hp} {own own1 own2 : Addr → Nat} {m : Nat} (a : Step K H own m H1 own1) (b : Step K H1 own1 m H2 own2) : Step K H own m H2 own2 := by
  refine ⟨a.tk.trans b.tk, fun c u h n => ?_, fun c u h => ?_, fun c h => a.al c (b.al c h)⟩
  · have h1 := a.fr c u h n
    exact b.fr c u h1 (by rw [a.ow c u h]; exact n)
  · cases e : H1 c with
    | none =>
      have := a.al c e
      rw [h] at this
      cases this
    | some u1 => rw [b.ow c u1 e, a.ow c u h]
/-- the post that a copy makes -/
theorem tag_new {H : Hp} {own : Addr → Nat} {p ol nd hd : Addr} {t : Nat} (n1 : H p = none) (n2 : H ol = none) (n3 : H nd = none) (n4 : H hd = none) : ∃ own' : Addr → Nat, tag own' ⟨p, ol, nd, hd⟩ t ∧ ∀ c u, H c = some u → own' c = own c := by
  refine ⟨fun c => if c = p ∨ c = ol ∨ c = nd ∨ c = hd then t else own c, ⟨if_pos (.inl rfl), if_pos (.inr (.inl rfl)), if_pos (.inr (.inr (.inl rfl))), if_pos (.inr (.inr (.inr rfl)))⟩, fun c u h => if_neg ?_⟩
  rintro (e | e | e | e)
  · exact ne_of_none h n1 e
  · exact ne_of_none h n2 e
  · exact ne_of_none h n3 e
  · exact ne_of_none h n4 e
theorem tag_one {H : Hp} {own : Addr → Nat} {q : Addr} {t : Nat} (n : H q = none) : ∃ own' : Addr → Nat, own' q = t ∧ ∀ c u, H c = some u → own' c = own c :=
  ⟨fun c => if c = q then t else own c, if_pos rfl, fun c u h => if_neg (ne_of_none h n)⟩
theorem ne_own {own : Addr → Nat} {c d : Addr} {i j : Nat} (h1 : own c = i) (h2 : own d = j) (n : i ≠ j) : c ≠ d := fun e => n (by rw [← h1, ← h2, e])
theorem kne : ¬ (("present" : Str) = "kept") ∧ ¬ (("present" : Str) = "new") ∧ ¬ (("present" : Str) = "known") ∧ ¬ (("present" : Str) = "sent") ∧ ¬ (("present" : Str) = "given") ∧ ¬ (("present" : Str) = "old") ∧ ¬ (("kept" : Str) = "present") ∧ ¬ (("kept" : Str) = "new") ∧ ¬ (("kept" : Str) = "known") ∧ ¬ (("kept" : Str) = "sent") ∧ ¬ (("kept" : Str) = "given") ∧ ¬ (("kept" : Str) = "old") ∧ ¬ (("new" : Str) = "present") ∧ ¬ (("new" : Str) = "kept") ∧ ¬ (("new" : Str) = "known") ∧ ¬ (("new" : Str) = "sent") ∧ ¬ (("new" : Str) = "given") ∧ ¬ (("new" : Str) = "old") ∧ ¬ (("known" : Str) = "present") ∧ ¬ (("known" : Str) = "kept") ∧ ¬ (("known" : Str) = "new") ∧ ¬ (("known" : Str) = "sent") ∧ ¬ (("known" : Str) = "given") ∧ ¬ (("known" : Str) = "old") ∧ ¬ (("sent" : Str) = "present") ∧ ¬ (("sent" : Str) = "kept") ∧ ¬ (("sent" : Str) = "new") ∧ ¬ (("sent" : Str) = "known") ∧ ¬ (("sent" : Str) = "given") ∧ ¬ (("sent" : Str) = "old") ∧ ¬ (("given" : Str) = "present") ∧ ¬ (("given" : Str) = "kept") ∧ ¬ (("given" : Str) = "new") ∧ ¬ (("given" : Str) = "known") ∧ ¬ (("given" : Str) = "sent") ∧ ¬ (("given" : Str) = "old") ∧ ¬ (("old" : Str) = "present") ∧ ¬ (("old" : Str) = "kept") ∧ ¬ (("old" : Str) = "new") ∧ ¬ (("old" : Str) = "known") ∧ ¬ (("old" : Str) = "sent") ∧ ¬ (("old" : Str) = "given") := by decide +kernel
def setQ (r : PR) (j : Nat) (q : Addr) : PR := { r with q := fun i => if i = j then q else r.q i }
theorem setQ_q {r : PR} {j : Nat} {q : Addr} : (setQ r j q).q j = q := if_pos rfl
theorem putD_kept {r : PR} {q : Addr} : putK (DK r) (Sum.inr "kept") (.ref q) = DK { r with b := { r.b with p := q } } := by
  obtain ⟨k0, k1, k2, k3, k4, k5, k6, k7, k8, k9, k10, k11, k12, k13, k14, k15, k16, k17, k18, k19, k20, k21, k22, k23, k24, k25, k26, k27, k28, k29, k30, k31, k32, k33, k34, k35, k36, k37, k38, k39, k40, k41⟩ := kne
  unfold putK
  rw [if_pos (by simp)]
  simp [DK, setQ, k0, k1, k2, k3, k4, k5, k6, k7, k8, k9, k10, k11, k12, k13, k14, k15, k16, k17, k18, k19, k20, k21, k22, k23, k24, k25, k26, k27, k28, k29, k30, k31, k32, k33, k34, k35, k36, k37, k38, k39, k40, k41]
theorem putD_present {r : PR} {q : Addr} : putK (DK r) (Sum.inr "present") (.ref q) = DK { r with a := { r.a with p := q } } := by
  obtain ⟨k0, k1, k2, k3, k4, k5, k6, k7, k8, k9, k10, k11, k12, k13, k14, k15, k16, k17, k18, k19, k20, k21, k22, k23, k24, k25, k26, k27, k28, k29, k30, k31, k32, k33, k34, k35, k36, k37, k38, k39, k40, k41⟩ := kne
  unfold putK
  rw [if_pos (by simp)]
  simp [DK, setQ, k0, k1, k2, k3, k4, k5, k6, k7, k8, k9, k10, k11, k12, k13, k14, k15, k16, k17, k18, k19, k20, k21, k22, k23, k24, k25, k26, k27, k28, k29, k30, k31, k32, k33, k34, k35, k36, k37, k38, k39, k40, k41]
theorem putD_new {r : PR} {q : Addr} : putK (DK r) (Sum.inr "new") (.ref q) = DK (setQ r 0 q) := by
  obtain ⟨k0, k1, k2, k3, k4, k5, k6, k7, k8, k9, k10, k11, k12, k13, k14, k15, k16, k17, k18, k19, k20, k21, k22, k23, k24, k25, k26, k27, k28, k29, k30, k31, k32, k33, k34, k35, k36, k37, k38, k39, k40, k41⟩ := kne
  unfold putK
  rw [if_pos (by simp)]
  simp [DK, setQ, k0, k1, k2, k3, k4, k5, k6, k7, k8, k9, k10, k11, k12, k13, k14, k15, k16, k17, k18, k19, k20, k21, k22, k23, k24, k25, k26, k27, k28, k29, k30, k31, k32, k33, k34, k35, k36, k37, k38, k39, k40, k41]
theorem putD_known {r : PR} {q : Addr} : putK (DK r) (Sum.inr "known") (.ref q) = DK (setQ r 1 q) := by
  obtain ⟨k0, k1, k2, k3, k4, k5, k6, k7, k8, k9, k10, k11, k12, k13, k14, k15, k16, k17, k18, k19, k20, k21, k22, k23, k24, k25, k26, k27, k28, k29, k30, k31, k32, k33, k34, k35, k36, k37, k38, k39, k40, k41⟩ := kne
  unfold putK
  rw [if_pos (by simp)]
  simp [DK, setQ, k0, k1, k2, k3, k4, k5, k6, k7, k8, k9, k10, k11, k12, k13, k14, k15, k16, k17, k18, k19, k20, k21, k22, k23, k24, k25, k26, k27, k28, k29, k30, k31, k32, k33, k34, k35, k36, k37, k38, k39, k40, k41]
theorem putD_sent {r : PR} {q : Addr} : putK (DK r) (Sum.inr "sent") (.ref q) = DK (setQ r 2 q) := by
  obtain ⟨k0, k1, k2, k3, k4, k5, k6, k7, k8, k9, k10, k11, k12, k13, k14, k15, k16, k17, k18, k19, k20, k21, k22, k23, k24, k25, k26, k27, k28, k29, k30, k31, k32, k33, k34, k35, k36, k37, k38, k39, k40, k41⟩ := kne
  unfold putK
  rw [if_pos (by simp)]
  simp [DK, setQ, k0, k1, k2, k3, k4, k5, k6, k7, k8, k9, k10, k11, k12, k13, k14, k15, k16, k17, k18, k19, k20, k21, k22, k23, k24, k25, k26, k27, k28, k29, k30, k31, k32, k33, k34, k35, k36, k37, k38, k39, k40, k41]
theorem putD_given {r : PR} {q : Addr} : putK (DK r) (Sum.inr "given") (.ref q) = DK (setQ r 3 q) := by
  obtain ⟨k0, k1, k2, k3, k4, k5, k6, k7, k8, k9, k10, k11, k12, k13, k14, k15, k16, k17, k18, k19, k20, k21, k22, k23, k24, k25, k26, k27, k28, k29, k30, k31, k32, k33, k34, k35, k36, k37, k38, k39, k40, k41⟩ := kne
  unfold putK
  rw [if_pos (by simp)]
  simp [DK, setQ, k0, k1, k2, k3, k4, k5, k6, k7, k8, k9, k10, k11, k12, k13, k14, k15, k16, k17, k18, k19, k20, k21, k22, k23, k24, k25, k26, k27, k28, k29, k30, k31, k32, k33, k34, k35, k36, k37, k38, k39, k40, k41]
theorem putD_old {r : PR} {q : Addr} : putK (DK r) (Sum.inr "old") (.ref q) = DK (setQ r 4 q) := by
  obtain ⟨k0, k1, k2, k3, k4, k5, k6, k7, k8, k9, k10, k11, k12, k13, k14, k15, k16, k17, k18, k19, k20, k21, k22, k23, k24, k25, k26, k27, k28, k29, k30, k31, k32, k33, k34, k35, k36, k37, k38, k39, k40, k41⟩ := kne
  unfold putK
  rw [if_pos (by simp)]
  simp [DK, setQ, k0, k1, k2, k3, k4, k5, k6, k7, k8, k9, k10, k11, k12, k13, k14, k15, k16, k17, k18, k19, k20, k21, k22, k23, k24, k25, k26, k27, k28, k29, k30, k31, k32, k33, k34, k35, k36, k37, k38, k39, k40, k41]
theorem getD_kept {r : PR} : valV (DK r) (Sum.inr "kept") = some (.ref r.b.p) := by
  obtain ⟨k0, k1, k2, k3, k4, k5, k6, k7, k8, k9, k10, k11, k12, k13, k14, k15, k16, k17, k18, k19, k20, k21, k22, k23, k24, k25, k26, k27, k28, k29, k30, k31, k32, k33, k34, k35, k36, k37, k38, k39, k40, k41⟩ := kne
  unfold valV
  simp [k0, k1, k2, k3, k4, k5, k6, k7, k8, k9, k10, k11, k12, k13, k14, k15, k16, k17, k18, k19, k20, k21, k22, k23, k24, k25, k26, k27, k28, k29, k30, k31, k32, k33, k34, k35, k36, k37, k38, k39, k40, k41]
theorem getD_present {r : PR} : valV (DK r) (Sum.inr "present") = some (.ref r.a.p) := by
  obtain ⟨k0, k1, k2, k3, k4, k5, k6, k7, k8, k9, k10, k11, k12, k13, k14, k15, k16, k17, k18, k19, k20, k21, k22, k23, k24, k25, k26, k27, k28, k29, k30, k31, k32, k33, k34, k35, k36, k37, k38, k39, k40, k41⟩ := kne
  unfold valV
  simp [k0, k1, k2, k3, k4, k5, k6, k7, k8, k9, k10, k11, k12, k13, k14, k15, k16, k17, k18, k19, k20, k21, k22, k23, k24, k25, k26, k27, k28, k29, k30, k31, k32, k33, k34, k35, k36, k37, k38, k39, k40, k41]
theorem getD_new {r : PR} : valV (DK r) (Sum.inr "new") = some (.ref (r.q 0)) := by
  obtain ⟨k0, k1, k2, k3, k4, k5, k6, k7, k8, k9, k10, k11, k12, k13, k14, k15, k16, k17, k18, k19, k20, k21, k22, k23, k24, k25, k26, k27, k28, k29, k30, k31, k32, k33, k34, k35, k36, k37, k38, k39, k40, k41⟩ := kne
  unfold valV
  simp [k0, k1, k2, k3, k4, k5, k6, k7, k8, k9, k10, k11, k12, k13, k14, k15, k16, k17, k18, k19, k20, k21, k22, k23, k24, k25, k26, k27, k28, k29, k30, k31, k32, k33, k34, k35, k36, k37, k38, k39, k40, k41]
theorem getD_known {r : PR} : valV (DK r) (Sum.inr "known") = some (.ref (r.q 1)) := by
  obtain ⟨k0, k1, k2, k3, k4, k5, k6, k7, k8, k9, k10, k11, k12, k13, k14, k15, k16, k17, k18, k19, k20, k21, k22, k23, k24, k25, k26, k27, k28, k29, k30, k31, k32, k33, k34, k35, k36, k37, k38, k39, k40, k41⟩ := kne
  unfold valV
  simp [k0, k1, k2, k3, k4, k5, k6, k7, k8, k9, k10, k11, k12, k13, k14, k15, k16, k17, k18, k19, k20, k21, k22, k23, k24, k25, k26, k27, k28, k29, k30, k31, k32, k33, k34, k35, k36, k37, k38, k39, k40, k41]
theorem getD_sent {r : PR} : valV (DK r) (Sum.inr "sent") = some (.ref (r.q 2)) := by
  obtain ⟨k0, k1, k2, k3, k4, k5, k6, k7, k8, k9, k10, k11, k12, k13, k14, k15, k16, k17, k18, k19, k20, k21, k22, k23, k24, k25, k26, k27, k28, k29, k30, k31, k32, k33, k34, k35, k36, k37, k38, k39, k40, k41⟩ := kne
  unfold valV
  simp [k0, k1, k2, k3, k4, k5, k6, k7, k8, k9, k10, k11, k12, k13, k14, k15, k16, k17, k18, k19, k20, k21, k22, k23, k24, k25, k26, k27, k28, k29, k30, k31, k32, k33, k34, k35, k36, k37, k38, k39, k40, k41]
theorem getD_given {r : PR} : valV (DK r) (Sum.inr "given") = some (.ref (r.q 3)) := by
  obtain ⟨k0, k1, k2, k3, k4, k5, k6, k7, k8, k9, k10, k11, k12, k13, k14, k15, k16, k17, k18, k19, k20, k21, k22, k23, k24, k25, k26, k27, k28, k29, k30, k31, k32, k33, k34, k35, k36, k37, k38, k39, k40, k41⟩ := kne
  unfold valV
  simp [k0, k1, k2, k3, k4, k5, k6, k7, k8, k9, k10, k11, k12, k13, k14, k15, k16, k17, k18, k19, k20, k21, k22, k23, k24, k25, k26, k27, k28, k29, k30, k31, k32, k33, k34, k35, k36, k37, k38, k39, k40, k41]
theorem getD_old {r : PR} : valV (DK r) (Sum.inr "old") = some (.ref (r.q 4)) := by
  obtain ⟨k0, k1, k2, k3, k4, k5, k6, k7, k8, k9, k10, k11, k12, k13, k14, k15, k16, k17, k18, k19, k20, k21, k22, k23, k24, k25, k26, k27, k28, k29, k30, k31, k32, k33, k34, k35, k36, k37, k38, k39, k40, k41⟩ := kne
  unfold valV
  simp [k0, k1, k2, k3, k4, k5, k6, k7, k8, k9, k10, k11, k12, k13, k14, k15, k16, k17, k18, k19, k20, k21, k22, k23, k24, k25, k26, k27, k28, k29, k30, k31, k32, k33, k34, k35, k36, k37, k38, k39, k40, k41]
theorem PD.upd {H : Hp} {p ol nd hd c : Addr} {u : HO} {me : Int} {lets : Lets} {ns : Nums} {hs : Heard} (D : PD K H p ol nd hd me lets ns hs) (m : Mut (H c)) (n : p ≠ c ∧ ol ≠ c ∧ nd ≠ c ∧ hd ≠ c) : PD K (L2.upd H c u) p ol nd hd me lets ns hs :=
  PD.moved D (TK.upd m) fun e he u' hu => by
    simp only [List.mem_cons, List.not_mem_nil, or_false] at he
    rw [upd_ne]
    · exact hu
    · rcases he with rfl | rfl | rfl | rfl
      · exact n.1
      · exact n.2.1
      · exact n.2.2.1
      · exact n.2.2.2
theorem upd_none' {H : Hp} {a c : Addr} {o : HO} (h : L2.upd H a o c = none) : H c = none := by
  by_cases e : c = a
  · rw [e, upd_same] at h
    cases h
  · rw [upd_ne e] at h
    exact h
/-- the place's dict is written -/
theorem PlaceAt.store {H : Hp} {own : Addr → Nat} {m : Nat} {r r' : PR} {y' : Pq} {kv : List (Key × V)} (d : H r.d = some (.dK kv)) (td : own r.d = 10 * m) (e : r'.d = r.d) (a : PDs K H r'.a m y'.x.P) (b : PDs K H r'.b m y'.x.K) (q : ∀ i, i < 5 → ∃ us, H (r'.q i) = some (.lst us) ∧ Rps K H us (datQ m y' i))
    (ta : tag own r'.a (10 * m + 1)) (tb : tag own r'.b (10 * m + 2)) (tq : ∀ i, i < 5 → own (r'.q i) = 10 * m + 3 + i) :
    PlaceAt K (L2.upd H r.d (.dK (DK r'))) own m r' y' ∧ Step K H own m (L2.upd H r.d (.dK (DK r'))) own := by
  have mu : Mut (H r.d) := by rw [d]; exact True.intro
  have t : TK K H (L2.upd H r.d (.dK (DK r'))) := TK.upd mu
  have ne : ∀ {c i}, own c = i → i ≠ 10 * m → c ≠ r.d := fun h z => ne_own h td z
  refine ⟨⟨by rw [e, upd_same], PD.upd a mu ⟨ne ta.1 (by omega), ne ta.2.1 (by omega), ne ta.2.2.1 (by omega), ne ta.2.2.2 (by omega)⟩, PD.upd b mu ⟨ne tb.1 (by omega), ne tb.2.1 (by omega), ne tb.2.2.1 (by omega), ne tb.2.2.2 (by omega)⟩,
    fun i hi => ?_, by rw [e]; exact td, ta, tb, tq⟩, t, fun c u h z => ?_, fun _ _ _ => rfl, fun c h => upd_none' h⟩
  · obtain ⟨us, h1, h2⟩ := q i hi
    exact ⟨us, by rw [upd_ne (ne (tq i hi) (by omega))]; exact h1, rps_keep t h2⟩
  · rw [upd_ne fun y => z (by rw [y, td]; omega)]
    exact h
/-- one more in one of the place's lists -/
theorem PlaceAt.append {H : Hp} {own : Addr → Nat} {m j : Nat} {r : PR} {y y' : Pq} {us : List V} {v : V} {e : PyData} (A : PlaceAt K H own m r y) (hj : j < 5) (h : H (r.q j) = some (.lst us)) (ru : Rps K H us (datQ m y j)) (rv : Rp K H v e)
    (eP : y'.x.P = y.x.P) (eK : y'.x.K = y.x.K) (ej : datQ m y' j = datQ m y j ++ [e]) (ei : ∀ i, i < 5 → i ≠ j → datQ m y' i = datQ m y i) :
    PlaceAt K (L2.upd H (r.q j) (.lst (us ++ [v]))) own m r y' ∧ Step K H own m (L2.upd H (r.q j) (.lst (us ++ [v]))) own := by
  have mu : Mut (H (r.q j)) := by rw [h]; exact True.intro
  have t : TK K H (L2.upd H (r.q j) (.lst (us ++ [v]))) := TK.upd mu
  obtain ⟨d, a, b, q, td, ta, tb, tq⟩ := A
  have tj := tq j hj
  have ne : ∀ {c i}, own c = i → i ≠ 10 * m + 3 + j → c ≠ r.q j := fun h z => ne_own h tj z
  refine ⟨⟨by rw [upd_ne (ne td (by omega))]; exact d, by rw [eP]; exact PD.upd a mu ⟨ne ta.1 (by omega), ne ta.2.1 (by omega), ne ta.2.2.1 (by omega), ne ta.2.2.2 (by omega)⟩, by rw [eK]; exact PD.upd b mu ⟨ne tb.1 (by omega), ne tb.2.1 (by omega), ne tb.2.2.1 (by omega), ne tb.2.2.2 (by omega)⟩,
    fun i hi => ?_, td, ta, tb, tq⟩, t, fun c u hc z => ?_, fun _ _ _ => rfl, fun c hc => upd_none' hc⟩
  · by_cases z : i = j
    · rw [z, ej]
      exact ⟨_, upd_same, (rps_keep t ru).app (.cons (rp_keep t rv) .nil)⟩
    · obtain ⟨vs, h1, h2⟩ := q i hi
      rw [ei i hi z]
      exact ⟨vs, by rw [upd_ne (ne (tq i hi) (by omega))]; exact h1, rps_keep t h2⟩
  · rw [upd_ne fun y => z (by rw [y, tj]; omega)]
    exact hc
/-- the present post has changed -/
theorem PlaceAt.present {H H' : Hp} {own own' : Addr → Nat} {m : Nat} {r : PR} {y : Pq} {a' : PA} {P' : PS} (A : PlaceAt K H own m r y) (t : TK K H H') (f : ∀ c u, H c = some u → own c ≠ 10 * m + 1 → H' c = some u) (o : ∀ c u, H c = some u → own' c = own c) (ep : a'.p = r.a.p) (D : PDs K H' a' m P') (ta : tag own' a' (10 * m + 1)) :
    PlaceAt K H' own' m { r with a := a' } ⟨{ y.x with P := P' }, y.e⟩ := by
  obtain ⟨d, a, b, q, td, _, tb, tq⟩ := A
  have fb : ∀ c ∈ [r.b.p, r.b.ol, r.b.nd, r.b.hd], ∀ u, H c = some u → H' c = some u := fun c hc u hu => f c u hu (by
    simp only [List.mem_cons, List.not_mem_nil, or_false] at hc
    obtain ⟨t1, t2, t3, t4⟩ := tb
    rcases hc with e | e | e | e <;> rw [e] <;> omega)
  refine ⟨?_, D, PD.moved b t fb, fun i hi => ?_, (o _ _ d).trans td, ta, PD.own b tb o, fun i hi => ?_⟩
  · rw [f _ _ d (by omega)]
    show some (HO.dK (DK r)) = some (HO.dK [(Sum.inr "present", .ref a'.p), _, _, _, _, _, _])
    rw [ep]
  · obtain ⟨us, h1, h2⟩ := q i hi
    have z : own (r.q i) ≠ 10 * m + 1 := by rw [tq i hi]; omega
    refine ⟨us, f _ _ h1 z, ?_⟩
    have e : datQ m ⟨{ y.x with P := P' }, y.e⟩ i = datQ m y i := by
      match i with
      | 0 => rfl
      | 1 => rfl
      | 2 => rfl
      | 3 => rfl
      | _ + 4 => rfl
    rw [e]
    exact rps_keep t h2
  · obtain ⟨us, h1, _⟩ := q i hi
    exact (o _ _ h1).trans (tq i hi)
/-! ### the world in the heap -/
structure WAt (K : PySem.W.Frag) (H : Hp) (own : Addr → Nat) (cnt : Nat) (pl : Addr) (rs : Nat → PR) (ω : Nat → Pq) : Prop where
  l : H pl = some (.lst ((List.range cnt).map fun i => V.ref (rs i).d))
  o : 1000 ≤ own pl
  c : cnt ≤ 3
  p : ∀ m, m < cnt → PlaceAt K H own m (rs m) (ω m)
def upR (rs : Nat → PR) (m : Nat) (r : PR) : Nat → PR := fun i => if i = m then r else rs i
structure Out (K : PySem.W.Frag) (H : Hp) (own : Addr → Nat) (H' : Hp) (own' : Addr → Nat) : Prop where
  tk : TK K H H'
  fr : ∀ c u, H c = some u → 1000 ≤ own c → H' c = some u ∧ 1000 ≤ own' c
  al : ∀ c, H' c = none → H c = none
theorem Out.trans {H H1 H2 : Hp} {own own1 own2 : Addr → Nat} (a : Out K H own H1 own1) (b : Out K H1 own1 H2 own2) : Out K H own H2 own2 :=
  ⟨a.tk.trans b.tk, fun c u h n => let ⟨h1, n1⟩ := a.fr c u h n; b.fr c u h1 n1, fun c h => a.al c (b.al c h)⟩
theorem Out.same {H H' : Hp} {own : Addr → Nat} (s : Same H H') : Out K H own H' own := ⟨TK.same s, fun c u h n => ⟨s _ _ h, n⟩, fun c h => s.free h⟩
theorem Step.out {H H' : Hp} {own own' : Addr → Nat} {m : Nat} (hm : m < 100) (S : Step K H own m H' own') : Out K H own H' own' :=
  ⟨S.tk, fun c u h n => ⟨S.fr c u h (by omega), by rw [S.ow c u h]; exact n⟩, S.al⟩
theorem WAt.same {H H' : Hp} {own : Addr → Nat} {cnt : Nat} {pl : Addr} {rs : Nat → PR} {ω : Nat → Pq} (s : Same H H') (W : WAt K H own cnt pl rs ω) : WAt K H' own cnt pl rs ω := ⟨s _ _ W.l, W.o, W.c, fun m hm => (W.p m hm).same s⟩
/-- a new thing that belongs to no place -/
theorem WAt.made {H H' : Hp} {own own' : Addr → Nat} {cnt : Nat} {pl : Addr} {rs : Nat → PR} {ω : Nat → Pq} (s : Same H H') (o : ∀ c u, H c = some u → own' c = own c) (W : WAt K H own cnt pl rs ω) : WAt K H' own' cnt pl rs ω :=
  ⟨s _ _ W.l, by rw [o _ _ W.l]; exact W.o, W.c, fun m hm => (W.p m hm).keep (TK.same s) (fun c u h _ => s _ _ h) o⟩
theorem WAt.step {H H' : Hp} {own own' : Addr → Nat} {cnt m : Nat} {pl : Addr} {rs : Nat → PR} {ω : Nat → Pq} {r' : PR} {x' : Pq} (W : WAt K H own cnt pl rs ω) (hm : m < cnt) (S : Step K H own m H' own') (e : r'.d = (rs m).d) (A : PlaceAt K H' own' m r' x') : WAt K H' own' cnt pl (upR rs m r') (upQ ω m x') := by
  have c := W.c
  have o := W.o
  refine ⟨?_, by rw [S.ow _ _ W.l]; exact o, c, fun i hi => ?_⟩
  · rw [S.fr _ _ W.l (by omega)]
    congr 2
    refine List.map_congr_left fun i _ => ?_
    unfold upR
    split
    · rename_i z; rw [z, e]
    · rfl
  · unfold upR upQ
    by_cases z : i = m
    · rw [if_pos z, if_pos z, z]; exact A
    · rw [if_neg z, if_neg z]
      exact (W.p i hi).keep S.tk (fun c u h n => S.fr c u h (by omega)) S.ow
theorem WAt.at_ {H : Hp} {own : Addr → Nat} {cnt g : Nat} {pl : Addr} {rs : Nat → PR} {ω : Nat → Pq} (_W : WAt K H own cnt pl rs ω) (hg : g < cnt) : atI ((List.range cnt).map fun i => V.ref (rs i).d) (g : Int) = some (.ref (rs g).d) :=
  atI_nat (j := g) (by rw [List.getElem?_map, List.getElem?_range hg]; rfl)
section
variable {H2 HB H' : Hp} {p ol ol' nd hd : Addr} {me : Int} {lets : Lets} {ns : Nums} {hs : Heard}
theorem al_ack {ls : List V} (fr : ∀ c u, HB c = some u → c ≠ p → H' c = some u) (G : PostAt K H' p ol nd hd me ls ns hs) {c : Addr} (hc : H' c = none) : HB c = none := by
  obtain ⟨⟨dx, h1⟩, _⟩ := G
  cases e : HB c with
  | none => rfl
  | some u =>
    have := fr c u e (ne_of_none h1 hc).symm
    rw [this] at hc
    cases hc
end
structure AirAt (K : PySem.W.Frag) (H : Hp) (own : Addr → Nat) (cnt M : Nat) (pl al : Addr) (ω : Nat → Pq) (A : List LetA) : Prop where
  h : ∃ us, H al = some (.lst us) ∧ Rps K H us (A.map LetA.D)
  o : 1000 ≤ own al
  n : al ≠ pl
  k : ∀ a ∈ A, AirQ cnt ω a
  l : A.length ≤ M
structure OutX (K : PySem.W.Frag) (H : Hp) (own : Addr → Nat) (al : Addr) (H' : Hp) (own' : Addr → Nat) : Prop where
  tk : TK K H H'
  fr : ∀ c u, H c = some u → 1000 ≤ own c → c ≠ al → H' c = some u ∧ 1000 ≤ own' c
  al : ∀ c, H' c = none → H c = none
theorem OutX.trans {H H1 H2 : Hp} {own own1 own2 : Addr → Nat} {x : Addr} (a : OutX K H own x H1 own1) (b : OutX K H1 own1 x H2 own2) : OutX K H own x H2 own2 :=
  ⟨a.tk.trans b.tk, fun c u h n m => let ⟨h1, n1⟩ := a.fr c u h n m; b.fr c u h1 n1 m, fun c h => a.al c (b.al c h)⟩
theorem Out.x {H H' : Hp} {own own' : Addr → Nat} {x : Addr} (a : Out K H own H' own') : OutX K H own x H' own' := ⟨a.tk, fun c u h n _ => a.fr c u h n, a.al⟩
theorem AirAt.out {H H' : Hp} {own own' : Addr → Nat} {cnt M M' : Nat} {pl al : Addr} {ω ω' : Nat → Pq} {A : List LetA} (o : Out K H own H' own') (m : M ≤ M') (k : ∀ a ∈ A, AirQ cnt ω' a) (W : AirAt K H own cnt M pl al ω A) : AirAt K H' own' cnt M' pl al ω' A := by
  obtain ⟨⟨us, h, r⟩, b, n, _, l⟩ := W
  obtain ⟨h1, b1⟩ := o.fr _ _ h b
  exact ⟨⟨us, h1, rps_keep o.tk r⟩, b1, n, k, Nat.le_trans l m⟩
theorem WAt.upd {H : Hp} {own : Addr → Nat} {cnt : Nat} {pl al : Addr} {rs : Nat → PR} {ω : Nat → Pq} {us : List V} {o : HO} (h : H al = some (.lst us)) (b : 1000 ≤ own al) (n : al ≠ pl) (W : WAt K H own cnt pl rs ω) : WAt K (L2.upd H al o) own cnt pl rs ω := by
  have mu : Mut (H al) := by rw [h]; exact True.intro
  have c := W.c
  refine ⟨by rw [upd_ne n.symm]; exact W.l, W.o, c, fun m hm => (W.p m hm).keep (TK.upd mu) (fun c' u h' e => ?_) fun _ _ _ => rfl⟩
  rw [upd_ne fun z => by rw [z] at e; omega]
  exact h'
theorem outX_upd {H : Hp} {own : Addr → Nat} {al : Addr} {us : List V} {o : HO} (h : H al = some (.lst us)) : OutX K H own al (L2.upd H al o) own :=
  ⟨TK.upd (by rw [h]; exact True.intro), fun c u h' b n => ⟨by rw [upd_ne n]; exact h', b⟩, fun c hc => upd_none' hc⟩
/-! ### what is put into a place -/
theorem PlaceAt.putL {H : Hp} {own : Addr → Nat} {m i : Nat} {r : PR} {y y' : Pq} {p : Addr} {us : List V} (A : PlaceAt K H own m r y) (hi : i < 5) (np : H p = none) (ru : Rps K H us (datQ m y' i)) (eP : y'.x.P = y.x.P) (eK : y'.x.K = y.x.K) (ej : ∀ j, j < 5 → j ≠ i → datQ m y' j = datQ m y j) :
    (L2.upd H p (.lst us)) r.d = some (.dK (DK r)) ∧ ∃ own', PlaceAt K (L2.upd (L2.upd H p (.lst us)) r.d (.dK (DK (setQ r i p)))) own' m (setQ r i p) y' ∧ Step K H own m (L2.upd (L2.upd H p (.lst us)) r.d (.dK (DK (setQ r i p)))) own' := by
  have s := Cm.same_new (o := .lst us) np
  obtain ⟨own', tp, o⟩ := tag_one (own := own) (t := 10 * m + 3 + i) np
  have hp : (L2.upd H p (.lst us)) p = some (.lst us) := upd_same
  have st1 : Step K H own m (L2.upd H p (.lst us)) own' := ⟨TK.same s, fun c u h _ => s _ _ h, o, fun _ h => s.free h⟩
  have A1 := A.keep st1.tk (fun c u h _ => s _ _ h) o
  refine ⟨A1.d, own', ?_⟩
  have hq : ∀ j, j < 5 → ∃ vs, (L2.upd H p (.lst us)) ((setQ r i p).q j) = some (.lst vs) ∧ Rps K (L2.upd H p (.lst us)) vs (datQ m y' j) := fun j hj => by
    by_cases e : j = i
    · rw [e, setQ_q]
      exact ⟨us, hp, ru.keep (Same.tups s)⟩
    · rw [ej j hj e, show (setQ r i p).q j = r.q j from if_neg e]
      exact A1.q j hj
  have ht : ∀ j, j < 5 → own' ((setQ r i p).q j) = 10 * m + 3 + j := fun j hj => by
    by_cases e : j = i
    · rw [e, setQ_q]
      exact tp
    · rw [show (setQ r i p).q j = r.q j from if_neg e]
      exact A1.tq j hj
  obtain ⟨A2, st2⟩ := PlaceAt.store (r := r) (r' := setQ r i p) (y' := y') A1.d A1.td rfl (by rw [eP]; exact A1.a) (by rw [eK]; exact A1.b) hq A1.ta A1.tb ht
  exact ⟨A2, st1.trans st2⟩
theorem PlaceAt.putB {H H1 : Hp} {own : Addr → Nat} {m : Nat} {r : PR} {y : Pq} {b : PA} {S : PS} (A : PlaceAt K H own m r y) (f1 : H b.p = none) (f2 : H b.ol = none) (f3 : H b.nd = none) (f4 : H b.hd = none) (s : Same H H1) (D : PDs K H1 b m S) :
    H1 r.d = some (.dK (DK r)) ∧ ∃ own', PlaceAt K (L2.upd H1 r.d (.dK (DK { r with b := b }))) own' m { r with b := b } ⟨{ y.x with K := S }, y.e⟩ ∧ Step K H own m (L2.upd H1 r.d (.dK (DK { r with b := b }))) own' := by
  obtain ⟨own', tb, o⟩ := tag_new (own := own) (t := 10 * m + 2) f1 f2 f3 f4
  have st1 : Step K H own m H1 own' := ⟨TK.same s, fun c u h _ => s _ _ h, o, fun _ h => s.free h⟩
  have A1 := A.keep st1.tk (fun c u h _ => s _ _ h) o
  refine ⟨A1.d, own', ?_⟩
  have hq : ∀ j, j < 5 → ∃ vs, H1 (r.q j) = some (.lst vs) ∧ Rps K H1 vs (datQ m ⟨{ y.x with K := S }, y.e⟩ j) := fun j hj => by
    obtain ⟨us, h1, h2⟩ := A1.q j hj
    refine ⟨us, h1, ?_⟩
    match j, hj with
    | 0, _ => exact h2
    | 1, _ => exact h2
    | 2, _ => exact h2
    | 3, _ => exact h2
    | 4, _ => exact h2
  obtain ⟨A2, st2⟩ := PlaceAt.store (r := r) (r' := { r with b := b }) (y' := ⟨{ y.x with K := S }, y.e⟩) A1.d A1.td rfl A1.a D hq A1.ta tb A1.tq
  exact ⟨A2, st1.trans st2⟩
theorem PlaceAt.putA {H H1 : Hp} {own : Addr → Nat} {m : Nat} {r : PR} {y : Pq} {b : PA} {S : PS} (A : PlaceAt K H own m r y) (f1 : H b.p = none) (f2 : H b.ol = none) (f3 : H b.nd = none) (f4 : H b.hd = none) (s : Same H H1) (D : PDs K H1 b m S) :
    H1 r.d = some (.dK (DK r)) ∧ ∃ own', PlaceAt K (L2.upd H1 r.d (.dK (DK { r with a := b }))) own' m { r with a := b } ⟨{ y.x with P := S }, y.e⟩ ∧ Step K H own m (L2.upd H1 r.d (.dK (DK { r with a := b }))) own' := by
  obtain ⟨own', tb, o⟩ := tag_new (own := own) (t := 10 * m + 1) f1 f2 f3 f4
  have st1 : Step K H own m H1 own' := ⟨TK.same s, fun c u h _ => s _ _ h, o, fun _ h => s.free h⟩
  have A1 := A.keep st1.tk (fun c u h _ => s _ _ h) o
  refine ⟨A1.d, own', ?_⟩
  have hq : ∀ j, j < 5 → ∃ vs, H1 (r.q j) = some (.lst vs) ∧ Rps K H1 vs (datQ m ⟨{ y.x with P := S }, y.e⟩ j) := fun j hj => by
    obtain ⟨us, h1, h2⟩ := A1.q j hj
    refine ⟨us, h1, ?_⟩
    match j, hj with
    | 0, _ => exact h2
    | 1, _ => exact h2
    | 2, _ => exact h2
    | 3, _ => exact h2
    | 4, _ => exact h2
  obtain ⟨A2, st2⟩ := PlaceAt.store (r := r) (r' := { r with a := b }) (y' := ⟨{ y.x with P := S }, y.e⟩) A1.d A1.td rfl D A1.b hq tb A1.tb A1.tq
  exact ⟨A2, st1.trans st2⟩
theorem let_shaped {m : Nat} {z : Int × Int × PyData} (h : BdOk z.2.2) : SeqAt.shaped (letD m z) = true := by
  refine Nst.shaped_of (by simp [letD, PyData.canLay0, PyData.canLayAll0, h.1]) ?_
  have := h.2
  simp only [letD, PyData.depth, PyData.depthAll]
  omega
theorem lets_lay {m : Nat} {L : Tr} (h : ∀ z ∈ L, BdOk z.2.2) : PyData.canLayAll0 (L.map (letD m)) = true ∧ PyData.depthAll (L.map (letD m)) ≤ 11 := by
  refine ⟨layAll_of fun d hd => ?_, depthAll_of fun d hd => ?_⟩
  · obtain ⟨x, hx, rfl⟩ := List.mem_map.mp hd
    simp [letD, PyData.canLay0, PyData.canLayAll0, (h x hx).1]
  · obtain ⟨x, hx, rfl⟩ := List.mem_map.mp hd
    have := (h x hx).2
    simp only [letD, PyData.depth, PyData.depthAll]
    omega
theorem lets_shapedL {m : Nat} {L : Tr} (h : ∀ z ∈ L, BdOk z.2.2) : SeqAt.shaped (.list (L.map (letD m))) = true := by
  obtain ⟨a1, a2⟩ := lets_lay (m := m) h
  refine Nst.shaped_of (by simp only [PyData.canLay0, a1]) ?_
  simp only [PyData.depth]
  omega
theorem lets_shapedT {m : Nat} {L : Tr} (h : ∀ z ∈ L, BdOk z.2.2) : SeqAt.shaped (.tuple (L.map (letD m))) = true := by
  obtain ⟨a1, a2⟩ := lets_lay (m := m) h
  refine Nst.shaped_of (by simp only [PyData.canLay0, a1]) ?_
  simp only [PyData.depth]
  omega
theorem goal_ne {cnt m : Nat} {k : Int} (h2 : 2 ≤ cnt) (h3 : cnt ≤ 3) (hm : m < cnt) (k0 : 0 ≤ k) (k1 : k < (cnt : Int) - 1) : ∃ g : Nat, g < cnt ∧ g ≠ m ∧ ((m : Int) + 1 + k) % (cnt : Int) = (g : Int) := by
  have z1 := Int.emod_nonneg ((m : Int) + 1 + k) (b := (cnt : Int)) (by omega)
  have z2 := Int.emod_lt_of_pos ((m : Int) + 1 + k) (b := (cnt : Int)) (by omega)
  refine ⟨(((m : Int) + 1 + k) % (cnt : Int)).toNat, by omega, ?_, by omega⟩
  have hc : cnt = 2 ∨ cnt = 3 := by omega
  rcases hc with e | e
  · subst e
    omega
  · subst e
    omega
/-- bounds of the lists -/
def Szs (cnt N S : Nat) (ω : Nat → Pq) : Prop := ∀ m, m < cnt → (ω m).e.sent.length ≤ S ∧ (ω m).e.given.length ≤ N ∧ (ω m).e.old.length ≤ N
theorem Szs.up {cnt N S : Nat} {ω : Nat → Pq} {m : Nat} {y : Pq} {N' S' : Nat} (z : Szs cnt N S ω) (hN : N ≤ N') (hS : S ≤ S') (a : y.e.sent.length ≤ S') (b : y.e.given.length ≤ N') (c : y.e.old.length ≤ N') : Szs cnt N' S' (upQ ω m y) := fun i hi => by
  unfold upQ
  split
  · exact ⟨a, b, c⟩
  · obtain ⟨h1, h2, h3⟩ := z i hi
    exact ⟨Nat.le_trans h1 hS, Nat.le_trans h2 hN, Nat.le_trans h3 hN⟩
theorem Szs.mono {cnt N S N' S' : Nat} {ω : Nat → Pq} (z : Szs cnt N S ω) (hN : N ≤ N') (hS : S ≤ S') : Szs cnt N' S' ω := fun i hi => by
  obtain ⟨h1, h2, h3⟩ := z i hi
  exact ⟨Nat.le_trans h1 hS, Nat.le_trans h2 hN, Nat.le_trans h3 hN⟩
theorem Inw.bodies {cnt N : Nat} {ω : Nat → Pq} {m : Nat} (hm : m < cnt) (W : Inw cnt N ω) : (∀ z ∈ (ω m).e.given, BdOk z.2.2) ∧ (∀ z ∈ (ω m).e.old, BdOk z.2.2) ∧ (∀ z ∈ (ω m).e.sent, BdOk z.2.2) ∧ (∀ z ∈ (ω m).x.P.lets, BdOk z.2.2) ∧ ∀ z ∈ (ω m).x.K.lets, BdOk z.2.2 := by
  have a : ∀ z ∈ (ω m).e.given, BdOk z.2.2 := fun z hz => by
    obtain ⟨_, _, k, e⟩ := W.gv m hm z hz
    rw [e]
    exact bd_drop
  have b : ∀ z ∈ (ω m).e.old, BdOk z.2.2 := fun z hz => a z (W.og m hm z hz)
  exact ⟨a, b, fun z hz => b z (W.so m hm z hz), fun z hz => a z (W.lp m hm z hz), fun z hz => b z (W.lk m hm z hz)⟩
/-! ### _law_event -/
def spEvent (K : PySem.W.Frag) : Sp := fun vs H Q _ => ∃ (own : Addr → Nat) (cnt N M S : Nat) (pl al : Addr) (rs : Nat → PR) (ω : Nat → Pq) (A : List LetA) (num oth : Int), vs = [.ref pl, .ref al, .int num, .int oth] ∧ WAt K H own cnt pl rs ω ∧ 2 ≤ cnt ∧ Inw cnt N ω ∧ Szs cnt N S ω ∧ N ≤ 60 ∧ S ≤ 20000 ∧ AirAt K H own cnt M pl al ω A ∧ M ≤ 20000 ∧ 0 ≤ num ∧ 0 ≤ oth ∧
  ∀ H' own' rs' ω' A', OutX K H own al H' own' → WAt K H' own' cnt pl rs' ω' → Inw cnt (N + 1) ω' → Szs cnt (N + 1) (S + 60) ω' → AirAt K H' own' cnt (M + 100) pl al ω' A' → Q .non H'
theorem ok_lw_event (T : Txt K mg w a) : FnOk P w K mg base CX0 6 (He.ga K "_law_event") a.d_lw_event ["places", "air", "number", "other"] (spEvent K) := by
  have gg := ok_Post_give (P := P) (w := w) (base := base) T
  have gt := ok_Post_take (P := P) (w := w) (base := base) T
  refine T.F_lw_event.ok sc_lw_event (fun vs H Q E h => ?_) (fun cdv A outer s H vs Q E hr h => ?_)
  · obtain ⟨own, cnt, N, M, S, pl, al, rs, ω, A, num, oth, rfl, _⟩ := h
    rfl
  · obtain ⟨own, cnt, N, M, S, pl, al, rs, ω, A, num, oth, rfl, W, hc2, I, Z, hN, hS, R, hM, hnum, hoth, q⟩ := h
    refine ⟨_, PSs.nox (pss_cons (ps_set (i := 4) sc_lw_event.nd rfl (Or.inl rfl) (pe_op op_mod (pv 3) (pe_callB call_len_seq (by rfl) T.g_len boot_len (pa_cons (pv 0) pa_nil))))
      (pss_cons (ps_set (i := 5) sc_lw_event.nd rfl (Or.inr rfl) (pe_ix ix_list (pv 0) (pv 4) (fun _ _ => rfl)))
      (pss_cons (ps_set (i := 6) sc_lw_event.nd rfl (Or.inl rfl) (pe_op op_mod (pv 2) pe_int))
      (pss_one (ps_if (pt_cmpR op_lt (pv 6) pe_int (nomark _)) (pss_cons (ps_set (i := 7) sc_lw_event.nd rfl (Or.inl rfl) (pe_op op_mod (pe_callTy call_int1 (by rfl) T.g_int boot_int (pa_cons (pe_op op_add (pe_op op_add (pv 4) pe_int) (pe_op op_mod (pe_op op_fdiv (pv 3) pe_int) (pe_op op_sub (pe_callB call_len_seq (by rfl) T.g_len boot_len (pa_cons (pv 0) pa_nil)) pe_int))) pa_nil)) (pe_callB call_len_seq (by rfl) T.g_len boot_len (pa_cons (pv 0) pa_nil))))
      (pss_cons (ps_set (i := 8) sc_lw_event.nd rfl (Or.inl rfl) (pe_tup (pa_cons pe_str (pa_cons (pe_op op_add (pe_op op_mul (pv 2) pe_int) (pv 3)) (pa_cons (pe_tup pa_nil) pa_nil)))))
      (pss_one (ps_expr (pe_bm PySem.F.plainAttrs_list PySem.F.slot_list_append PySem.F.type_list_append mt_append (pe_dget (hu_of hr) (pv 5) pe_str (fun _ _ => rfl)) (pa_cons (pe_tup (pa_cons (pv 4) (pa_cons (pv 7) (pa_cons (pe_meth (pe_dget (hu_of hr) (pv 5) pe_str (fun _ _ => rfl)) T.c_Post T.m_Post_give gg (hr.mono (by omega)) T.b_Post_give .nil MethT.passF (pa_cons (pv 7) (pa_cons (pv 8) pa_nil))) (pa_cons (pv 8) pa_nil))))) pa_nil)))))) (pss_one (ps_if (pt_cmpR op_eq (pv 6) pe_int (nomark _)) (pss_cons (ps_dput (hu_of hr) (pv 5) pe_str (pe_meth0 (pe_dget (hu_of hr) (pv 5) pe_str (fun _ _ => rfl)) T.c_Post T.m_Post_copy (ok_Post_copy T) (hr.mono (by omega)) T.b_Post_copy .nil pass0) rfl)
      (pss_cons (ps_dput (hu_of hr) (pv 5) pe_str (pe_callTy call_list_of (by rfl) T.g_list boot_list (pa_cons (pe_dget (hu_of hr) (pv 5) pe_str (fun _ _ => rfl)) pa_nil)) rfl)
      (pss_cons (ps_dput (hu_of hr) (pv 5) pe_str (pe_op op_cat (pe_dget (hu_of hr) (pv 5) pe_str (fun _ _ => rfl)) (pe_lc (own := [("letter", 9)]) (g := gName 9) (tt := (tTest (tOp (rNotInD K) (tVar 9) (tDGet (tVar 5) (tC (.str "sent"))))))  (by rfl) sc_lw_event.nd (pi_tup (pe_meth0 (pe_dget (hu_of hr) (pv 5) pe_str (fun _ _ => rfl)) T.c_Post T.m_Post_outbox (ok_Post_outbox T) (hr.mono (by omega)) T.b_Post_outbox .nil pass0)) (blkOk_by (own := [("letter", 9)]) (N := N_lw_event) (sc := defScope s_lw_event) (by decide +kernel)) (fun _ _ _ _ _ => pg_name (i := 9) sc_lw_event.nd rfl (Or.inl rfl)) (fun _ _ _ _ _ => pts_one (pt_cmpR (op_notInD (TupIn.u65 hr)) (pv 9) (pe_dget (hu_of hr) (pv 5) pe_str (fun _ _ => rfl)) (by rfl))) (fun _ _ _ _ _ => (pv 9)))) rfl)
      (pss_one (ps_dput (hu_of hr) (pv 5) pe_str (pe_callTy call_list_of (by rfl) T.g_list boot_list (pa_cons (pe_dget (hu_of hr) (pv 5) pe_str (fun _ _ => rfl)) pa_nil)) rfl))))) (pss_one (ps_if (pt_cmpR op_eq (pv 6) pe_int (nomark _)) (pss_cons (ps_dput (hu_of hr) (pv 5) pe_str (pe_meth0 (pe_dget (hu_of hr) (pv 5) pe_str (fun _ _ => rfl)) T.c_Post T.m_Post_copy (ok_Post_copy T) (hr.mono (by omega)) T.b_Post_copy .nil pass0) rfl)
      (pss_cons (ps_dput (hu_of hr) (pv 5) pe_str (pe_callTy call_list_of (by rfl) T.g_list boot_list (pa_cons (pe_dget (hu_of hr) (pv 5) pe_str (fun _ _ => rfl)) pa_nil)) rfl)
      (pss_one (ps_dput (hu_of hr) (pv 5) pe_str (pe_callTy call_list_of (by rfl) T.g_list boot_list (pa_cons (pe_dget (hu_of hr) (pv 5) pe_str (fun _ _ => rfl)) pa_nil)) rfl)))) (pss_one (ps_if (pt_cmpR op_eq (pv 6) pe_int (nomark _)) (pss_one (ps_for PassesOwn.never rfl (pi_tup (pe_op op_catA (pe_meth0 (pe_dget (hu_of hr) (pv 5) pe_str (fun _ _ => rfl)) T.c_Post T.m_Post_outbox (ok_Post_outbox T) (hr.mono (by omega)) T.b_Post_outbox .nil pass0) (pe_meth0 (pe_dget (hu_of hr) (pv 5) pe_str (fun _ _ => rfl)) T.c_Post T.m_Post_answers (ok_Post_answers T) (hr.mono (by omega)) T.b_Post_answers .nil pass0))) (pg_name (i := 9) sc_lw_event.nd rfl (Or.inl rfl))
      (pss_one (ps_expr (pe_bm PySem.F.plainAttrs_list PySem.F.slot_list_append PySem.F.type_list_append mt_append (pv 1) (pa_cons (pv 9) pa_nil)))))) (pss_one (ps_if (pt_cmpR op_gt (pe_callB call_len_seq (by rfl) T.g_len boot_len (pa_cons (pv 1) pa_nil)) pe_int (nomark _)) (pss_cons (ps_set (i := 9) sc_lw_event.nd rfl (Or.inl rfl) (pe_ix ix_list (pv 1) (pe_ix ix_list (pe_lst (pa_cons (pe_op op_mod (pe_op op_fdiv (pv 3) pe_int) (pe_callB call_len_seq (by rfl) T.g_len boot_len (pa_cons (pv 1) pa_nil))) (pa_cons (pe_op op_sub (pe_op op_sub (pe_callB call_len_seq (by rfl) T.g_len boot_len (pa_cons (pv 1) pa_nil)) pe_int) (pe_op op_mod (pv 3) (pe_callB (call_min2 rfl) (by rfl) T.g_min boot_min (pa_cons pe_int (pa_cons (pe_callB call_len_seq (by rfl) T.g_len boot_len (pa_cons (pv 1) pa_nil)) pa_nil))))) pa_nil))) (pe_op op_mod (pv 6) pe_int) (fun _ _ => rfl)) (fun _ _ => rfl)))
      (pss_one (ps_if (pt_val (pe_meth (pe_dget (hu_of hr) (pe_ix ix_list (pv 0) (pe_ix ix_tup (pv 9) pe_int (fun _ _ => rfl)) (fun _ _ => rfl)) pe_str (fun _ _ => rfl)) T.c_Post T.m_Post_take gt (hr.mono (by omega)) T.b_Post_take .nil MethT.passF (pa_cons (pv 9) pa_nil))) (pss_one (ps_expr (pe_bm PySem.F.plainAttrs_list PySem.F.slot_list_append PySem.F.type_list_append mt_append (pe_dget (hu_of hr) (pe_ix ix_list (pv 0) (pe_ix ix_tup (pv 9) pe_int (fun _ _ => rfl)) (fun _ _ => rfl)) pe_str (fun _ _ => rfl)) (pa_cons (pv 9) pa_nil)))) pss_nil))) pss_nil))))))))))))), ?_⟩
    rw [show L2.start N_lw_event [.ref pl, .ref al, .int num, .int oth] = [some (.ref pl), some (.ref al), some (.int num), some (.int oth), none, none, none, none, none, none] from rfl]
    have hc3 := W.c
    have ll : (((List.range cnt).map fun i => V.ref (rs i).d).length : Int) = (cnt : Int) := by rw [List.length_map, List.length_range]
    refine ⟨_, rfl, _, rfl, pl, _, rfl, .inl (SqL.of W.l), _, _, rfl, rfl, (by rw [ll]; omega), ?_⟩
    rw [ll]
    simp only [gName, List.set_cons_succ, List.set_cons_zero]
    obtain ⟨m, hm, em⟩ : ∃ m : Nat, m < cnt ∧ oth % (cnt : Int) = (m : Int) := by
      have z1 := Int.emod_nonneg oth (b := (cnt : Int)) (by omega)
      have z2 := Int.emod_lt_of_pos oth (b := (cnt : Int)) (by omega)
      exact ⟨(oth % (cnt : Int)).toNat, by omega, by omega⟩
    rw [em]
    have A1 := W.p m hm
    refine ⟨_, rfl, _, rfl, pl, _, _, _, rfl, rfl, SqL.of W.l, W.at_ hm, ?_⟩
    simp only [gName, List.set_cons_succ, List.set_cons_zero]
    refine ⟨_, rfl, _, _, rfl, rfl, (by show (0 : Int) < 10; decide), ?_⟩
    simp only [gName, List.set_cons_succ, List.set_cons_zero]
    generalize num % 10 = way
    obtain ⟨⟨ls, G, rl⟩, nnh⟩ := id A1.a
    obtain ⟨⟨lk, Gk, rlk⟩, nnhk⟩ := id A1.b
    obtain ⟨⟨dx, ho⟩, _⟩ := id G
    obtain ⟨⟨dxk, hok⟩, _⟩ := id Gk
    have ps : PSok N cnt m (ω m).x.P := (I.I.ok m hm).1
    have psk : PSok N cnt m (ω m).x.K := (I.I.ok m hm).2
    have bl : (ω m).x.P.lets.length ≤ N := ps.b.l
    have bn : (ω m).x.P.ns.length ≤ N := ps.b.n
    have lls : ls.length = (ω m).x.P.lets.length := by rw [rl.len, List.length_map]
    obtain ⟨zs, zg, zo⟩ := Z m hm
    refine ⟨_, rfl, _, _, rfl, rfl, _, rfl, Cm.itD (fun _ => ?_) fun _ => ?_⟩
    · -- give
      have lc1 : ((List.range cnt).map fun i => V.ref (rs i).d).length = cnt := by rw [List.length_map, List.length_range]
      refine ⟨_, rfl, _, _, rfl, rfl, _, rfl, _, _, rfl, rfl, ⟨by decide, by decide⟩, _, rfl, pl, _, rfl, .inl (SqL.of W.l), _, _, rfl, rfl, _, _, rfl, rfl, (by rw [ll]; omega), _, _, rfl, rfl, .inl ⟨_, rfl, ?_⟩⟩
      refine ⟨_, rfl, pl, _, rfl, .inl (SqL.of W.l), _, _, rfl, rfl, (by rw [ll]; omega), ?_⟩
      rw [ll]
      obtain ⟨g, hg, hgm, eg⟩ := goal_ne (k := oth / 3 % ((cnt : Int) - 1)) hc2 hc3 hm (Int.emod_nonneg _ (by omega)) (Int.emod_lt_of_pos _ (by omega))
      simp only [eg, gName, List.set_cons_succ, List.set_cons_zero]
      refine ⟨_, rfl, _, _, rfl, rfl, .inr ⟨by decide, by decide⟩, _, rfl, _, _, rfl, rfl, Nat.zero_le _, fun t0 nt0 => ⟨Cm.small (by show 3 ≤ 100000; decide), fun b0 nb0 => ?_⟩⟩
      have q1 := Cm.same_new (o := .tup []) nt0
      have q2 := Cm.same_new (o := .tup [.str "drop", .int (num * 100 + oth), .ref t0]) nb0
      have qA := q1.trans q2
      have rb : Rp K (L2.upd (L2.upd H t0 (.tup [])) b0 (.tup [.str "drop", .int (num * 100 + oth), .ref t0])) (.ref b0) (dropD (num * 100 + oth)) := .tup Cm.sqt_new (.cons (.str _) (.cons (.int _) (.cons (.tup (Cm.sameT q2 Cm.sqt_new) .nil) .nil)))
      generalize L2.upd (L2.upd H t0 (.tup [])) b0 (.tup [.str "drop", .int (num * 100 + oth), .ref t0]) = HB at *
      generalize num * 100 + oth = kk at *
      have AB := A1.same qA
      obtain ⟨ug, hgv, _⟩ := AB.q 3 (by decide)
      simp only [gName, List.set_cons_succ, List.set_cons_zero]
      refine ⟨_, rfl, (rs m).d, _, rfl, .inl ⟨DK (rs m), Sum.inr "given", .inl AB.d, rfl, getD_given.symm⟩, .inl ⟨rfl, _, SqL.of hgv⟩, _, rfl, _, rfl, _, rfl, (rs m).d, _, rfl, .inl ⟨DK (rs m), Sum.inr "present", .inl AB.d, rfl, getD_present.symm⟩, ?_⟩
      refine ⟨(rs m).a.p, dx, _, rfl, qA _ _ ho, fp_no (by decide +kernel), _, rfl, _, rfl, ?_⟩
      refine ⟨(rs m).a.p, (rs m).a.ol, (rs m).a.nd, (rs m).a.hd, m, ls, (ω m).x.P.ns, (ω m).x.P.hs, g, _, rfl, G.same qA, nnh, by omega, by omega, fun _ _ HG t nt G' ht fr' => ?_, fun bad => absurd ⟨by omega, by omega⟩ bad⟩
      have fB : Fr (rs m).a.p (rs m).a.ol (rs m).a.nd (rs m).a.hd HB HG := fun c u h _ n1 n2 _ => fr' c u h n1 n2
      have tkG := fB.tk AB.a
      have DG : PDs K HG (rs m).a m (psGive (ω m).x.P g kk) := PD.gave tkG (rl.keep (Same.tups qA)) nnh G' ht rb
      have f1 : ∀ c u, HB c = some u → own c ≠ 10 * m + 1 → HG c = some u := fun c u h n => fr' c u h (fun e => n (by rw [e]; exact A1.ta.2.1)) fun e => n (by rw [e]; exact A1.ta.2.2.1)
      have A2 := AB.present (a' := (rs m).a) tkG f1 (fun _ _ _ => rfl) rfl DG AB.ta
      have hal : ∀ c, HG c = none → HB c = none := fun c hc => by
        obtain ⟨_, ⟨_, t2⟩, ⟨_, t3⟩, _⟩ := PD.there DG
        cases e : HB c with
        | none => rfl
        | some u =>
          rw [fr' c u e (ne_of_none t2 hc).symm (ne_of_none t3 hc).symm] at hc
          cases hc
      have st1 : Step K HB own m HG own := ⟨tkG, fun c u h n => f1 c u h (by omega), fun _ _ _ => rfl, hal⟩
      refine ⟨_, rfl, Cm.small (by show 4 ≤ 100000; decide), fun tl ntl => ?_⟩
      have s4 := Cm.same_new (o := .tup [.int m, .int g, .int (getN (ω m).x.P.ns g), .ref b0]) ntl
      have rt : Rp K (L2.upd HG tl (.tup [.int m, .int g, .int (getN (ω m).x.P.ns g), .ref b0])) (.ref tl) (letD m (g, getN (ω m).x.P.ns g, dropD kk)) := Rp.made ntl (.cons (.int _) (.cons (.int _) (.cons (.int _) (.cons (rp_keep tkG rb) .nil))))
      generalize L2.upd HG tl (.tup [.int m, .int g, .int (getN (ω m).x.P.ns g), .ref b0]) = HL at *
      have A3 := A2.same s4
      obtain ⟨ug2, hg2, rg2⟩ := A3.q 3 (by decide)
      have lug : ug2.length ≤ N := by
        have h := rg2.len
        have h' : ug2.length = ((ω m).e.given.map (letD m)).length := h
        rw [List.length_map] at h'
        omega
      have hg2' : HL ((rs m).q 3) = some (.lst ug2) := hg2
      refine ⟨(rs m).q 3, ug2, _, rfl, rfl, hg2', Cm.smallL (by omega), ?_⟩
      obtain ⟨A4, st4⟩ := PlaceAt.append (y' := giveQ (ω m) g kk) A3 (j := 3) (by decide) hg2 rg2 rt rfl rfl (by show (_ ++ [_]).map (letD m) = _; rw [List.map_append]; rfl) (fun i hi hn => by rcases i with _ | _ | _ | _ | _ | i <;> first | rfl | exact absurd rfl hn | omega)
      have st := (((Step.same (K := K) (own := own) (m := m) qA).trans st1).trans (Step.same s4)).trans st4
      have ot := st.out (by omega)
      exact q _ own (upR rs m { rs m with a := (rs m).a }) _ A ot.x (W.step hm st rfl A4) (I.give hm hg hgm (k := kk)) (Z.up (Nat.le_succ N) (by omega) (Nat.le_trans zs (by omega)) (by show (_ ++ [_]).length ≤ N + 1; rw [List.length_append]; simp only [List.length_cons, List.length_nil]; omega) (Nat.le_succ_of_le zo)) (R.out ot (by omega) fun a ha => (R.k a ha).keep (up_K rfl) (up_old rfl))
    · refine ⟨_, rfl, rfl, _, rfl, Cm.itEI (fun _ => ?_) fun _ => ?_⟩
      · -- commit
        refine ⟨_, rfl, (rs m).d, _, rfl, .inl ⟨DK (rs m), Sum.inr "present", .inl A1.d, rfl, getD_present.symm⟩, ?_⟩
        refine ⟨(rs m).a.p, dx, _, rfl, ho, fp_no (by decide +kernel), (rs m).a.p, (rs m).a.ol, (rs m).a.nd, (rs m).a.hd, m, ls, (ω m).x.P.ns, (ω m).x.P.hs, rfl, G, fun H1 p' ol' nd' hd' f1 f2 f3 f4 n34 G1 s1 => ?_⟩
        have D1 : PDs K H1 ⟨p', ol', nd', hd'⟩ m (ω m).x.P := ⟨⟨ls, G1, rl.keep (Same.tups s1)⟩, n34⟩
        obtain ⟨hd1, own1, B1, st1⟩ := A1.putB (b := ⟨p', ol', nd', hd'⟩) f1 f2 f3 f4 s1 D1
        refine ⟨_, rfl, (rs m).d, _, rfl, .inl ⟨_, Sum.inr "kept", hd1, rfl, Cm.smallL (by show 7 ≤ 100000; decide), rfl⟩, ?_⟩
        rw [putD_kept]
        rw [show DK { (rs m) with b := { (rs m).b with p := p' } } = DK { (rs m) with b := ⟨p', ol', nd', hd'⟩ } from rfl]
        generalize L2.upd H1 (rs m).d (.dK (DK { (rs m) with b := ⟨p', ol', nd', hd'⟩ })) = H2 at *
        obtain ⟨r2, er2, er2d, era⟩ : ∃ r2 : PR, r2 = { (rs m) with b := ⟨p', ol', nd', hd'⟩ } ∧ r2.d = (rs m).d ∧ r2.a = (rs m).a := ⟨_, rfl, rfl, rfl⟩
        rw [← er2] at B1
        clear hd1 D1 G1 s1 f1 f2 f3 f4 er2
        rw [← er2d]
        obtain ⟨un, n1, n2⟩ := B1.q 0 (by decide)
        refine ⟨_, rfl, r2.d, _, rfl, .inl ⟨_, Sum.inr "new", .inl B1.d, rfl, getD_new.symm⟩, r2.q 0, un, rfl, .inl (SqL.of n1), fun q5 nq5 => ?_⟩
        obtain ⟨hd2, own2, B2, st2⟩ := B1.putL (i := 1) (y' := ⟨(ω m).x.commit, (ω m).e⟩) (by decide) nq5 n2 rfl rfl (fun i hi hn => by rcases i with _ | _ | _ | _ | _ | i <;> first | rfl | exact absurd rfl hn | omega)
        refine ⟨_, rfl, r2.d, _, rfl, .inl ⟨_, Sum.inr "known", hd2, rfl, Cm.smallL (by show 7 ≤ 100000; decide), rfl⟩, ?_⟩
        rw [putD_known]
        generalize L2.upd (L2.upd H2 q5 (.lst un)) r2.d (.dK (DK (setQ r2 1 q5))) = H3 at *
        obtain ⟨r3, er3, er3d, er3a⟩ : ∃ r3 : PR, r3 = setQ r2 1 q5 ∧ r3.d = r2.d ∧ r3.a = r2.a := ⟨_, rfl, rfl, rfl⟩
        rw [← er3] at B2
        have st12 := st1.trans st2
        clear hd2 n1 n2 nq5 er3 B1 st1 st2
        rw [← er3d]
        -- sent
        obtain ⟨⟨ls3, G3, rl3⟩, _⟩ := id B2.a
        obtain ⟨⟨dx3, ho3⟩, _⟩ := id G3
        have rl3' : Rps K H3 ls3 ((ω m).x.P.lets.map (letD m)) := rl3
        have lls3 : ls3.length = (ω m).x.P.lets.length := by rw [rl3'.len, List.length_map]
        obtain ⟨us, u1, u2⟩ := B2.q 2 (by decide)
        have u2' : Rps K H3 us ((ω m).e.sent.map (letD m)) := u2
        have lus : us.length = (ω m).e.sent.length := by rw [u2'.len, List.length_map]
        obtain ⟨_, _, bdS, bdP, _⟩ := I.bodies hm
        refine ⟨_, rfl, r3.d, _, rfl, .inl ⟨_, Sum.inr "sent", .inl B2.d, rfl, getD_sent.symm⟩, ?_⟩
        refine ⟨_, rfl, r3.d, _, rfl, .inl ⟨_, Sum.inr "present", .inl B2.d, rfl, getD_present.symm⟩, ?_⟩
        refine ⟨r3.a.p, dx3, _, rfl, ho3, fp_no (by decide +kernel), r3.a.p, r3.a.ol, r3.a.nd, r3.a.hd, m, ls3, _, _, rfl, G3, fun bx nbx => ?_⟩
        have sbx := Cm.same_new (o := .tup ls3) nbx
        have hbx := Cm.sqt_new (K := K) (H := H3) (p := bx) (xs := ls3)
        refine ⟨bx, rfl, ⟨_, hbx⟩, fun D nD => ?_⟩
        generalize L2.upd H3 bx (.tup ls3) = H4 at *
        refine lc_tup (K := K) (a := bx) (xs := ls3) (fun j Hj => Same H4 Hj ∧ ∃ (acc : List V) (sub : Tr), Hj D = some (.lst acc) ∧ Rps K Hj acc (sub.map (letD m)) ∧ (∀ z ∈ sub, z ∈ (ω m).x.P.lets) ∧ acc.length ≤ j ∧ sub.length ≤ j) ⟨Cm.same_new nD, [], [], upd_same, .nil, (fun z hz => nomatch hz), Nat.le_refl _, Nat.le_refl _⟩ (fun j Hj _ b => Cm.sameT b.1 hbx) (fun j y Hj hy b => ?_) fun Hj b => ?_
        · obtain ⟨sJ, acc, sub, hD, rD, hsub, la, lb⟩ := b
          refine ⟨rfl, ?_⟩
          have s34 := sbx.trans sJ
          have hj : j < (ω m).x.P.lets.length := by
            rw [← lls3]
            exact (List.getElem?_eq_some_iff.mp hy).1
          obtain ⟨y', hy', ry⟩ := rl3'.at_ (i := j) (d := letD m (ω m).x.P.lets[j]) (by rw [List.getElem?_map, List.getElem?_eq_getElem hj]; rfl)
          rw [hy] at hy'
          cases hy'
          have hx := List.getElem_mem hj
          generalize (ω m).x.P.lets[j] = x at ry hx
          have ryj := ry.keep (Same.tups s34)
          refine ⟨_, rfl, _, rfl, r3.d, _, rfl, .inl ⟨_, Sum.inr "sent", .inl (s34 _ _ B2.d), rfl, getD_sent.symm⟩, letD m x, (ω m).e.sent.map (letD m), ryj.dp, .lst (SqL.of (s34 _ _ u1)) (u2'.keep (Same.tups s34)).dp, let_shaped (bdP x hx), lets_shapedL bdS, _, rfl, Cm.itB (fun _ => ?_) fun _ => ?_⟩
          · refine ⟨_, rfl, acc, hD, Cm.smallL (by omega), Cm.same_mut sJ nD, acc ++ [y], sub ++ [x], upd_same, ?_, fun z hz => ?_, by rw [List.length_append]; simp only [List.length_cons, List.length_nil]; omega, by rw [List.length_append]; simp only [List.length_cons, List.length_nil]; omega⟩
            · rw [List.map_append]
              exact rps_keep (TK.upd (by rw [hD]; exact True.intro)) (rD.app (.cons ryj .nil))
            · rcases List.mem_append.mp hz with h | h
              · exact hsub z h
              · rw [List.mem_singleton.mp h]; exact hx
          · exact ⟨sJ, acc, sub, hD, rD, hsub, by omega, by omega⟩
        · obtain ⟨sJ, acc, sub, hD, rD, hsub, la, lb⟩ := b
          have s34 := sbx.trans sJ
          have B3 := B2.same s34
          refine ⟨r3.q 2, D, us, acc, rfl, rfl, s34 _ _ u1, hD, Cm.small (by omega), fun ps nps => ?_⟩
          have rN : Rps K Hj (us ++ acc) (((ω m).e.sent ++ sub).map (letD m)) := by
            rw [List.map_append]
            exact (u2'.keep (Same.tups s34)).app rD
          obtain ⟨hd3, own3, B4, st3⟩ := B3.putL (i := 2) (y' := ⟨(ω m).x.commit, ⟨(ω m).e.sent ++ sub, (ω m).e.given, (ω m).e.old⟩⟩) (by decide) nps rN rfl rfl (fun i hi hn => by rcases i with _ | _ | _ | _ | _ | i <;> first | rfl | exact absurd rfl hn | omega)
          refine ⟨_, rfl, r3.d, _, rfl, .inl ⟨_, Sum.inr "sent", hd3, rfl, Cm.smallL (by show 7 ≤ 100000; decide), rfl⟩, ?_⟩
          rw [putD_sent]
          generalize L2.upd (L2.upd Hj ps (.lst (us ++ acc))) r3.d (.dK (DK (setQ r3 2 ps))) = H5 at *
          obtain ⟨r4, er4, er4d⟩ : ∃ r4 : PR, r4 = setQ r3 2 ps ∧ r4.d = r3.d := ⟨_, rfl, rfl⟩
          rw [← er4] at B4
          have st13 := (st12.trans (Step.same s34)).trans st3
          clear hd3 er4 rN nps
          rw [← er4d]
          obtain ⟨ug, g1, g2⟩ := B4.q 3 (by decide)
          refine ⟨_, rfl, r4.d, _, rfl, .inl ⟨_, Sum.inr "given", .inl B4.d, rfl, getD_given.symm⟩, r4.q 3, ug, rfl, .inl (SqL.of g1), fun q7 nq7 => ?_⟩
          obtain ⟨hd4, own4, B5, st4⟩ := B4.putL (i := 4) (y' := commitQ (ω m) sub) (by decide) nq7 g2 rfl rfl (fun i hi hn => by rcases i with _ | _ | _ | _ | _ | i <;> first | rfl | exact absurd rfl hn | omega)
          refine ⟨_, rfl, r4.d, _, rfl, .inl ⟨_, Sum.inr "old", hd4, rfl, Cm.smallL (by show 7 ≤ 100000; decide), rfl⟩, ?_⟩
          rw [putD_old]
          have st := st13.trans st4
          have ot := st.out (by omega)
          exact q _ own4 (upR rs m (setQ r4 4 q7)) _ A ot.x (W.step hm st (er4d.trans (er3d.trans er2d)) B5) ((I.commit hm hsub).mono (Nat.le_succ N)) (Z.up (Nat.le_succ N) (by omega) (by show ((ω m).e.sent ++ sub).length ≤ S + 60; rw [List.length_append]; omega) (Nat.le_succ_of_le zg) (Nat.le_succ_of_le zg)) (R.out ot (by omega) fun a ha => (R.k a ha).commit hm I)
      · refine ⟨_, rfl, rfl, _, rfl, Cm.itEI (fun _ => ?_) fun _ => ?_⟩
        · -- fall
          refine ⟨_, rfl, (rs m).d, _, rfl, .inl ⟨DK (rs m), Sum.inr "kept", .inl A1.d, rfl, getD_kept.symm⟩, ?_⟩
          refine ⟨(rs m).b.p, dxk, _, rfl, hok, fp_no (by decide +kernel), (rs m).b.p, (rs m).b.ol, (rs m).b.nd, (rs m).b.hd, m, lk, (ω m).x.K.ns, (ω m).x.K.hs, rfl, Gk, fun H1 p' ol' nd' hd' f1 f2 f3 f4 n34 G1 s1 => ?_⟩
          have D1 : PDs K H1 ⟨p', ol', nd', hd'⟩ m (ω m).x.K := ⟨⟨lk, G1, rlk.keep (Same.tups s1)⟩, n34⟩
          obtain ⟨hd1, own1, B1, st1⟩ := A1.putA (b := ⟨p', ol', nd', hd'⟩) f1 f2 f3 f4 s1 D1
          refine ⟨_, rfl, (rs m).d, _, rfl, .inl ⟨_, Sum.inr "present", hd1, rfl, Cm.smallL (by show 7 ≤ 100000; decide), rfl⟩, ?_⟩
          rw [putD_present]
          rw [show DK { (rs m) with a := { (rs m).a with p := p' } } = DK { (rs m) with a := ⟨p', ol', nd', hd'⟩ } from rfl]
          generalize L2.upd H1 (rs m).d (.dK (DK { (rs m) with a := ⟨p', ol', nd', hd'⟩ })) = H2 at *
          obtain ⟨r2, er2, er2d⟩ : ∃ r2 : PR, r2 = { (rs m) with a := ⟨p', ol', nd', hd'⟩ } ∧ r2.d = (rs m).d := ⟨_, rfl, rfl⟩
          rw [← er2] at B1
          clear hd1 D1 G1 s1 f1 f2 f3 f4 er2
          rw [← er2d]
          obtain ⟨un, n1, n2⟩ := B1.q 1 (by decide)
          refine ⟨_, rfl, r2.d, _, rfl, .inl ⟨_, Sum.inr "known", .inl B1.d, rfl, getD_known.symm⟩, r2.q 1, un, rfl, .inl (SqL.of n1), fun q5 nq5 => ?_⟩
          obtain ⟨hd2, own2, B2, st2⟩ := B1.putL (i := 0) (y' := ⟨(ω m).x.fall, (ω m).e⟩) (by decide) nq5 n2 rfl rfl (fun i hi hn => by rcases i with _ | _ | _ | _ | _ | i <;> first | rfl | exact absurd rfl hn | omega)
          refine ⟨_, rfl, r2.d, _, rfl, .inl ⟨_, Sum.inr "new", hd2, rfl, Cm.smallL (by show 7 ≤ 100000; decide), rfl⟩, ?_⟩
          rw [putD_new]
          generalize L2.upd (L2.upd H2 q5 (.lst un)) r2.d (.dK (DK (setQ r2 0 q5))) = H3 at *
          obtain ⟨r3, er3, er3d⟩ : ∃ r3 : PR, r3 = setQ r2 0 q5 ∧ r3.d = r2.d := ⟨_, rfl, rfl⟩
          rw [← er3] at B2
          have st12 := st1.trans st2
          clear hd2 n1 n2 nq5 er3 B1 st1 st2
          rw [← er3d]
          obtain ⟨ug, g1, g2⟩ := B2.q 4 (by decide)
          refine ⟨_, rfl, r3.d, _, rfl, .inl ⟨_, Sum.inr "old", .inl B2.d, rfl, getD_old.symm⟩, r3.q 4, ug, rfl, .inl (SqL.of g1), fun q7 nq7 => ?_⟩
          obtain ⟨hd4, own4, B5, st4⟩ := B2.putL (i := 3) (y' := fallQ (ω m)) (by decide) nq7 g2 rfl rfl (fun i hi hn => by rcases i with _ | _ | _ | _ | _ | i <;> first | rfl | exact absurd rfl hn | omega)
          refine ⟨_, rfl, r3.d, _, rfl, .inl ⟨_, Sum.inr "given", hd4, rfl, Cm.smallL (by show 7 ≤ 100000; decide), rfl⟩, ?_⟩
          rw [putD_given]
          have st := st12.trans st4
          have ot := st.out (by omega)
          exact q _ own4 (upR rs m (setQ r3 3 q7)) _ A ot.x (W.step hm st (er3d.trans er2d) B5) ((I.fall hm).mono (Nat.le_succ N)) (Z.up (Nat.le_succ N) (by omega) (Nat.le_trans zs (by omega)) (Nat.le_succ_of_le zo) (Nat.le_succ_of_le zo)) (R.out ot (by omega) fun a ha => (R.k a ha).keep (up_K rfl) (up_old rfl))
        · refine ⟨_, rfl, rfl, _, rfl, Cm.itEI (fun _ => ?_) fun _ => ?_⟩
          · -- what it sends
            have bk := psk.b.h
            have few := psk.few
            refine ⟨_, rfl, (rs m).d, _, rfl, .inl ⟨DK (rs m), Sum.inr "kept", .inl A1.d, rfl, getD_kept.symm⟩, ?_⟩
            refine ⟨(rs m).b.p, dxk, _, rfl, hok, fp_no (by decide +kernel), (rs m).b.p, (rs m).b.ol, (rs m).b.nd, (rs m).b.hd, m, lk, (ω m).x.K.ns, (ω m).x.K.hs, rfl, Gk, fun bx nbx => ?_⟩
            have s1 := Cm.same_new (o := .tup lk) nbx
            have hbx := Cm.sqt_new (K := K) (H := H) (p := bx) (xs := lk)
            have A2 := A1.same s1
            refine ⟨_, rfl, (rs m).d, _, rfl, .inl ⟨DK (rs m), Sum.inr "kept", .inl A2.d, rfl, getD_kept.symm⟩, ?_⟩
            refine ⟨(rs m).b.p, dxk, _, rfl, s1 _ _ hok, fp_no (by decide +kernel), (rs m).b.p, (rs m).b.ol, (rs m).b.nd, (rs m).b.hd, m, lk, (ω m).x.K.ns, (ω m).x.K.hs, rfl, Gk.same s1, Nat.lt_of_le_of_lt few (by omega), fun H2 v s2 rv => ?_⟩
            obtain ⟨ax, ays, rfl, hax, ray⟩ := rv.tup_inv
            have s12 := s1.trans s2
            have rlk2 := rlk.keep (Same.tups s12)
            have lay : ays.length = (ω m).x.K.hs.length := by rw [ray.len, List.length_map, srtI_len, List.length_map]
            have llk : lk.length = (ω m).x.K.lets.length := by rw [rlk.len, List.length_map]
            have blk : (ω m).x.K.lets.length ≤ N := psk.b.l
            have few' : (ω m).x.K.hs.length ≤ 3 := Nat.le_trans few hc3
            refine catA_all (Cm.sameT s2 hbx) hax (Cm.small (by omega)) fun H3 p3 s3 hp3 => ?_
            have s13 := s12.trans s3
            have rL : Rps K H3 (lk ++ ays) ((outL m (ω m).x.K ++ ansL m (ω m).x.K).map LetA.D) := by
              rw [sent_D psk]
              exact (rlk2.keep (Same.tups s3)).app (ray.keep (Same.tups s3))
            have okL := sentQ hm I
            have lenL : (outL m (ω m).x.K ++ ansL m (ω m).x.K).length = (ω m).x.K.lets.length + (ω m).x.K.hs.length := sent_len
            generalize outL m (ω m).x.K ++ ansL m (ω m).x.K = L at rL okL lenL
            have W3 := W.same s13
            have o3 : Out K H own H3 own := Out.same s13
            have R3 := R.out o3 (Nat.le_refl _) R.k
            refine ⟨p3, rfl, ⟨_, hp3⟩, for_tup (K := K) (a := p3) (xs := lk ++ ays) (fun j σ Hj => ∃ x9 : Option V, σ = [some (.ref pl), some (.ref al), some (.int num), some (.int oth), some (.int m), some (.ref (rs m).d), some (.int way), none, none, x9] ∧ SqT K Hj p3 (lk ++ ays) ∧ Rps K Hj (lk ++ ays) (L.map LetA.D) ∧ WAt K Hj own cnt pl rs ω ∧ AirAt K Hj own cnt (M + j) pl al ω (A ++ L.take j) ∧ OutX K H3 own al Hj own)
              ⟨none, rfl, hp3, rL, W3, (by rw [List.take_zero, List.append_nil]; exact R3), (Out.same (Same.refl _)).x⟩ (fun j σ Hj _ ⟨_, _, h, _⟩ => h) (fun j x σ Hj hx ⟨x7, e, h3, r3, Wj, Rj, Oj⟩ => ?_) fun σ Hj ⟨x7, e, h3, r3, Wj, Rj, Oj⟩ => ?_⟩
            · subst e
              have lxs : (lk ++ ays).length = L.length := by rw [rL.len, List.length_map]
              have hj : j < L.length := by
                rw [← lxs]
                exact (List.getElem?_eq_some_iff.mp hx).1
              obtain ⟨y', hy', ry⟩ := r3.at_ (i := j) (d := L[j].D) (by rw [List.getElem?_map, List.getElem?_eq_getElem hj]; rfl)
              rw [hx] at hy'
              cases hy'
              obtain ⟨us, hal, rus⟩ := Rj.h
              have lus : us.length = (A ++ L.take j).length := by rw [rus.len, List.length_map]
              have lAj := Rj.l
              refine ⟨_, rfl, .inl ⟨rfl, _, SqL.of hal⟩, _, rfl, al, us, _, rfl, rfl, hal, Cm.smallL (by omega), ?_⟩
              have mu : Mut (Hj al) := by rw [hal]; exact True.intro
              have tkj : TK K Hj (L2.upd Hj al (.lst (us ++ [x]))) := TK.upd mu
              refine ⟨some x, rfl, tkj _ _ h3, rps_keep tkj r3, Wj.upd hal Rj.o Rj.n, ⟨⟨us ++ [x], upd_same, ?_⟩, Rj.o, Rj.n, fun a ha => ?_, ?_⟩, Oj.trans (outX_upd hal)⟩
              · rw [List.take_succ, List.getElem?_eq_getElem hj, ← List.append_assoc, List.map_append]
                exact (rps_keep tkj rus).app (.cons (rp_keep tkj ry) .nil)
              · rcases List.mem_append.mp ha with z | z
                · exact R.k a z
                · exact okL a (List.mem_of_mem_take z)
              · rw [List.length_append] at lAj ⊢
                have := R.l
                rw [List.length_take]
                omega
            · subst e
              have lxs : (lk ++ ays).length = L.length := by rw [rL.len, List.length_map]
              rw [lxs, List.take_length] at Rj
              refine q Hj own rs ω (A ++ L) (o3.x.trans Oj) Wj (I.mono (Nat.le_succ N)) (Z.mono (Nat.le_succ N) (by omega)) ⟨Rj.h, Rj.o, Rj.n, Rj.k, ?_⟩
              have := Rj.l
              omega
          · -- one letter comes
            obtain ⟨us, hal, rus⟩ := R.h
            have lus : us.length = A.length := by rw [rus.len, List.length_map]
            have lA := R.l
            refine ⟨_, rfl, al, _, rfl, .inl (SqL.of hal), _, _, rfl, rfl, _, rfl, Cm.itD (fun pos => ?_) fun _ => ?_⟩
            · have pos' : 0 < us.length := by omega
              refine ⟨_, rfl, _, rfl, _, _, rfl, rfl, ⟨by decide, by decide⟩, _, rfl, al, _, rfl, .inl (SqL.of hal), _, _, rfl, rfl, pos, _, rfl, al, _, rfl, .inl (SqL.of hal), _, _, rfl, rfl, _, rfl, _, rfl, al, _, rfl, .inl (SqL.of hal), _, _, rfl, _, _, rfl, rfl, (by split <;> omega), _, _, rfl, rfl, Cm.small (by show 2 ≤ 100000; decide), fun lp nlp => ?_⟩
              obtain ⟨k, hk, ek⟩ : ∃ k : Nat, k < us.length ∧ atI [V.int (oth / 7 % (us.length : Int)), V.int ((us.length : Int) - 1 - oth % (if (us.length : Int) < 4 then (us.length : Int) else 4))] (way % 2) = some (V.int (k : Int)) := by
                have z1 := Int.emod_nonneg (oth / 7) (b := (us.length : Int)) (by omega)
                have z2 := Int.emod_lt_of_pos (oth / 7) (b := (us.length : Int)) (by omega)
                have y0 : 0 < (if (us.length : Int) < 4 then (us.length : Int) else 4) ∧ (if (us.length : Int) < 4 then (us.length : Int) else 4) ≤ (us.length : Int) := by split <;> omega
                generalize (if (us.length : Int) < 4 then (us.length : Int) else 4) = four at y0 ⊢
                have y1 := Int.emod_nonneg oth (b := four) (by omega)
                have y2 := Int.emod_lt_of_pos oth (b := four) (by omega)
                have hw : way % 2 = 0 ∨ way % 2 = 1 := by omega
                rcases hw with e | e
                · refine ⟨(oth / 7 % (us.length : Int)).toNat, by omega, ?_⟩
                  rw [e, Int.toNat_of_nonneg z1]
                  exact atI_nat (j := 0) rfl
                · refine ⟨((us.length : Int) - 1 - oth % four).toNat, by omega, ?_⟩
                  rw [e, Int.toNat_of_nonneg (by omega)]
                  exact atI_nat (j := 1) rfl
              have sL := Cm.same_new (o := .lst [V.int (oth / 7 % (us.length : Int)), V.int ((us.length : Int) - 1 - oth % (if (us.length : Int) < 4 then (us.length : Int) else 4))]) nlp
              have hkA : k < A.length := by omega
              obtain ⟨v, hv, rv0⟩ := rus.at_ (i := k) (d := A[k].D) (by rw [List.getElem?_map, List.getElem?_eq_getElem hkA]; rfl)
              have okk := R.k _ (List.getElem_mem hkA)
              refine ⟨_, rfl, _, _, rfl, rfl, (by show (0 : Int) < 2; decide), lp, _, _, _, rfl, rfl, Cm.sql_new, ek, al, _, _, _, rfl, rfl, SqL.of (sL _ _ hal), atI_nat hv, ?_⟩
              have rv := rv0.keep (Same.tups sL)
              simp only [gName, List.set_cons_succ, List.set_cons_zero]
              have W1 := W.same sL
              have o1 : Out K H own _ own := Out.same sL
              generalize L2.upd H lp (.lst [V.int (oth / 7 % (us.length : Int)), V.int ((us.length : Int) - 1 - oth % (if (us.length : Int) < 4 then (us.length : Int) else 4))]) = HX at *
              clear ek rv0 sL G ho rl Gk hok rlk
              generalize A[k] = a at rv okk
              obtain ⟨as_, ag, an, ab⟩ := a
              obtain ⟨⟨s', g, es, eg, hs, hg, hsg, h4⟩, h5⟩ := id okk
              have es' : as_ = (s' : Int) := es
              have eg' : ag = (g : Int) := eg
              subst es' eg'
              obtain ⟨t, vs, rfl, ht, rvs⟩ := rv.tup_inv
              obtain ⟨v1, r1, rfl, w1, rvs⟩ := rvs.cons_inv
              obtain ⟨v2, r2, rfl, w2, rvs⟩ := rvs.cons_inv
              obtain ⟨v3, r3, rfl, w3, rvs⟩ := rvs.cons_inv
              obtain ⟨v4, r4, rfl, w4, rvs⟩ := rvs.cons_inv
              obtain rfl := rvs.nil_inv
              obtain rfl := w1.int_inv
              obtain rfl := w2.int_inv
              obtain rfl := w3.int_inv
              have Ag := W1.p g hg
              refine ⟨_, rfl, _, rfl, t, _, 1, _, rfl, rfl, ht, atI_nat (j := 1) rfl, pl, _, _, _, rfl, rfl, SqL.of W1.l, W1.at_ hg, ?_⟩
              obtain ⟨⟨lg, Gg, rg⟩, nng⟩ := id Ag.a
              obtain ⟨⟨dxg, hog⟩, _⟩ := id Gg
              have psg : PSok N cnt g (ω g).x.P := (I.I.ok g hg).1
              have bl' : (ω g).x.P.lets.length ≤ N := psg.b.l
              have bh' : (ω g).x.P.hs.length ≤ N := psg.b.h
              have bb' := psg.b.b
              have hne : ((s' : Nat) : Int) ≠ (g : Int) := by omega
              refine ⟨(rs g).d, _, rfl, .inl ⟨DK (rs g), Sum.inr "present", .inl Ag.d, rfl, getD_present.symm⟩, ?_⟩
              refine ⟨(rs g).a.p, dxg, _, rfl, hog, fp_no (by decide +kernel), _, rfl, ?_⟩
              have fin : ∀ H' own' rs', Out K HX own H' own' → WAt K H' own' cnt pl rs' (upQ ω g (takeQ (ω g) ⟨s', g, an, ab⟩)) → Q .non H' := fun H' own' rs' ot W' => by
                have ot2 := o1.trans ot
                have I' := I.take okk
                have eN : ((⟨s', g, an, ab⟩ : LetA).g).toNat = g := Int.toNat_natCast g
                rw [eN] at I'
                exact q H' own' rs' _ A ot2.x W' I' (Z.up (Nat.le_succ N) (by omega) (Nat.le_trans (Z g hg).1 (by omega)) (Nat.le_succ_of_le (Z g hg).2.1) (Nat.le_succ_of_le (Z g hg).2.2)) (R.out ot2 (by omega) fun a ha => (R.k a ha).keep (up_K take_Kx.1) (up_old rfl))
              cases ab with
              | drop kk =>
                obtain ⟨b, ws, rfl, hb, rws⟩ := w4.tup_inv
                obtain ⟨x1, r1, rfl, y1, rws⟩ := rws.cons_inv
                obtain ⟨x2, r2, rfl, y2, rws⟩ := rws.cons_inv
                obtain ⟨x3, r3, rfl, y3, rws⟩ := rws.cons_inv
                obtain rfl := rws.nil_inv
                obtain rfl := y1.str_inv
                obtain rfl := y2.int_inv
                obtain ⟨eT0, nT, pT⟩ := relT_get psg.r (s' : Int)
                have eT : getH (ω g).x.P.hs s' = pairF (getT (ω g).x.P.ts s') := eT0
                have tT := pairF_tells pT an
                refine ⟨(rs g).a.p, (rs g).a.ol, (rs g).a.nd, (rs g).a.hd, g, lg, (ω g).x.P.ns, (ω g).x.P.hs, (ω g).x.P.lets, t, b, s', g, an, "drop", _, rfl, Gg, nng, rg, by omega, by omega, fun y hy => by have := bb' y hy; omega, ht, hb, fun bad => absurd ⟨rfl, hne⟩ bad, fun _ _ e => absurd e (by decide), fun _ _ _ old H' s2 => ?_, fun _ _ _ new H' G' fr' => ?_⟩
                · rw [eT, tT] at old
                  have hin : an ∈ getT (ω g).x.P.ts s' := of_decide_eq_true old
                  refine ⟨_, rfl, Cm.itB (fun z => nomatch z) fun _ => ?_⟩
                  refine fin H' own rs (Out.same s2) ?_
                  have e : takeQ (ω g) ⟨(s' : Int), (g : Int), an, .drop kk⟩ = ω g := by
                    unfold takeQ
                    rw [show (ω g).x.take ⟨(s' : Int), (g : Int), an, .drop kk⟩ = (ω g).x from if_pos hin]
                  rw [e, upQ_id]
                  exact W1.same s2
                · rw [eT, tT] at new
                  have hout : an ∉ getT (ω g).x.P.ts s' := of_decide_eq_false new
                  refine ⟨_, rfl, Cm.itB (fun _ => ?_) fun z => nomatch z⟩
                  have fB : Fr (rs g).a.p (rs g).a.ol (rs g).a.nd (rs g).a.hd HX H' := fun c u h _ _ _ n => fr' c u h n
                  have tk1 := fB.tk Ag.a
                  have D' : PDs K H' (rs g).a g (psTake (ω g).x.P s' an) := ⟨⟨lg, G', rps_keep tk1 rg⟩, nng⟩
                  have f1 : ∀ c u, HX c = some u → own c ≠ 10 * g + 1 → H' c = some u := fun c u h n => fr' c u h fun e => n (by rw [e]; exact Ag.ta.2.2.2)
                  have A2 := Ag.present (a' := (rs g).a) tk1 f1 (fun _ _ _ => rfl) rfl D' Ag.ta
                  have hal' : ∀ c, H' c = none → HX c = none := fun c hc => by
                    cases e : HX c with
                    | none => rfl
                    | some u =>
                      by_cases z : c = (rs g).a.hd
                      · obtain ⟨_, _, _, ⟨_, t4⟩⟩ := PD.there D'
                        rw [z, t4] at hc
                        cases hc
                      · rw [fr' c u e z] at hc
                        cases hc
                  have st1 : Step K HX own g H' own := ⟨tk1, fun c u h n => f1 c u h (by omega), fun _ _ _ => rfl, hal'⟩
                  have ht1 := tk1 _ _ ht
                  have wb := rp_keep tk1 w4
                  have W2 := W1.step hg st1 rfl A2
                  obtain ⟨un, n1, n2⟩ := A2.q 0 (by decide)
                  have n1' : H' ((rs g).q 0) = some (.lst un) := n1
                  have lun : un.length ≤ 1000 := by
                    have h := n2.len
                    have h' : un.length = ((ω g).x.nw.map (nwM g)).length := h
                    have b2 : (ω g).x.nw.length ≤ N := (I.B g hg).1
                    rw [List.length_map] at h'
                    omega
                  have hpl2 : H' pl = some (.lst ((List.range cnt).map fun i => V.ref (rs i).d)) := st1.fr _ _ W1.l (by have := W1.o; omega)
                  refine ⟨_, rfl, _, rfl, t, _, 1, _, rfl, rfl, ht1, atI_nat (j := 1) rfl, pl, _, _, _, rfl, rfl, SqL.of hpl2, W1.at_ hg, ?_⟩
                  refine ⟨(rs g).d, _, rfl, .inl ⟨DK { rs g with a := (rs g).a }, Sum.inr "new", .inl A2.d, rfl, getD_new.symm⟩, .inl ⟨rfl, _, SqL.of n1'⟩, ?_⟩
                  refine ⟨_, rfl, (rs g).q 0, un, _, rfl, rfl, n1', Cm.smallL (by omega), ?_⟩
                  have rt : Rp K H' (.ref t) (nwM g ((s' : Int), an, dropD kk)) := .tup ht1 (.cons (.int _) (.cons (.int _) (.cons (.int _) (.cons wb .nil))))
                  have et : takeQ (ω g) ⟨(s' : Int), (g : Int), an, .drop kk⟩ = ⟨⟨psTake (ω g).x.P s' an, (ω g).x.K, (ω g).x.nw ++ [((s' : Int), an, dropD kk)], (ω g).x.kn⟩, (ω g).e⟩ := by
                    unfold takeQ
                    rw [show (ω g).x.take ⟨(s' : Int), (g : Int), an, .drop kk⟩ = ⟨psTake (ω g).x.P s' an, (ω g).x.K, (ω g).x.nw ++ [((s' : Int), an, dropD kk)], (ω g).x.kn⟩ from if_neg hout]
                  obtain ⟨A4, st4⟩ := PlaceAt.append (y' := ⟨⟨psTake (ω g).x.P s' an, (ω g).x.K, (ω g).x.nw ++ [((s' : Int), an, dropD kk)], (ω g).x.kn⟩, (ω g).e⟩) A2 (j := 0) (by decide) n1 n2 rt rfl rfl (by show (_ ++ [_]).map (nwM g) = _; rw [List.map_append]; rfl) (fun i hi hn => by rcases i with _ | _ | _ | _ | _ | i <;> first | rfl | exact absurd rfl hn | omega)
                  have st := st1.trans st4
                  refine fin _ own (upR rs g { rs g with a := (rs g).a }) (st.out (by omega)) ?_
                  rw [et]
                  exact W1.step hg st rfl A4
              | ack low bey =>
                obtain ⟨b, ws, rfl, hb, rws⟩ := w4.tup_inv
                obtain ⟨x1, r1, rfl, y1, rws⟩ := rws.cons_inv
                obtain ⟨x2, r2, rfl, y2, rws⟩ := rws.cons_inv
                obtain ⟨x3, r3, rfl, y3, rws⟩ := rws.cons_inv
                obtain rfl := rws.nil_inv
                obtain rfl := y1.str_inv
                obtain rfl := y2.int_inv
                obtain ⟨by_, us', rfl, hby, rus'⟩ := y3.tup_inv
                obtain rfl := rps_ints rus'
                refine ⟨(rs g).a.p, (rs g).a.ol, (rs g).a.nd, (rs g).a.hd, g, lg, (ω g).x.P.ns, (ω g).x.P.hs, (ω g).x.P.lets, t, b, s', g, an, "ack", _, rfl, Gg, nng, rg, by omega, by omega, fun y hy => by have := bb' y hy; omega, ht, hb, fun bad => absurd ⟨rfl, hne⟩ bad, fun _ _ _ => ⟨low, by_, bey, rfl, hby, fun H' ol2 ls2 ho2 G' rl' fr' => ?_⟩, fun _ _ e => absurd rfl e, fun _ _ e => absurd rfl e⟩
                refine ⟨_, rfl, Cm.itB (fun z => nomatch z) fun _ => ?_⟩
                have fB : Fr (rs g).a.p (rs g).a.ol (rs g).a.nd (rs g).a.hd HX H' := fun c u h n _ _ _ => fr' c u h n
                have tk1 := fB.tk Ag.a
                obtain ⟨own1, to, o1'⟩ := tag_one (own := own) (t := 10 * g + 1) ho2
                have D' : PDs K H' ⟨(rs g).a.p, ol2, (rs g).a.nd, (rs g).a.hd⟩ g (psAck (ω g).x.P s' (low, bey)) := ⟨⟨ls2, G', rl'⟩, nng⟩
                have f1 : ∀ c u, HX c = some u → own c ≠ 10 * g + 1 → H' c = some u := fun c u h n => fr' c u h fun e => n (by rw [e]; exact Ag.ta.1)
                obtain ⟨⟨_, t1⟩, ⟨_, t2⟩, ⟨_, t3⟩, ⟨_, t4⟩⟩ := PD.there Ag.a
                have tg : tag own1 ⟨(rs g).a.p, ol2, (rs g).a.nd, (rs g).a.hd⟩ (10 * g + 1) := ⟨(o1' _ _ t1).trans Ag.ta.1, to, (o1' _ _ t3).trans Ag.ta.2.2.1, (o1' _ _ t4).trans Ag.ta.2.2.2⟩
                have A2 := Ag.present (a' := ⟨(rs g).a.p, ol2, (rs g).a.nd, (rs g).a.hd⟩) tk1 f1 o1' rfl D' tg
                have st1 : Step K HX own g H' own1 := ⟨tk1, fun c u h n => f1 c u h (by omega), o1', fun c hc => al_ack fr' G' hc⟩
                exact fin H' own1 (upR rs g { rs g with a := ⟨(rs g).a.p, ol2, (rs g).a.nd, (rs g).a.hd⟩ }) (st1.out (by omega)) (W1.step hg st1 rfl A2)
            · exact q H own rs ω A (Out.same (Same.refl _)).x W (I.mono (Nat.le_succ N)) (Z.mono (Nat.le_succ N) (by omega)) (R.out (Out.same (Same.refl _)) (by omega) R.k)
/-! ### _law_sound -/
theorem in_lst {H : Hp} {n : Int} {l : Addr} {L : List Int} {Q : VK} (h : SqL K H l (L.map V.int) ∨ SqT K H l (L.map V.int)) (q : Q (.bl (decide (n ∈ L))) H) : rIn K false (.int n) (.ref l) H Q := by
  refine ⟨l, _, rfl, h, rfl, flat_ints, ?_⟩
  rw [show (if false = true then !inV (.int n) (L.map V.int) else inV (.int n) (L.map V.int)) = decide (n ∈ L) from in_ints]
  exact q
theorem nw_parts {H : Hp} {m : Nat} {v : V} {z : Int × Int × PyData} (r : Rp K H v (nwM m z)) : ∃ t v4, v = .ref t ∧ SqT K H t [.int z.1, .int m, .int z.2.1, v4] ∧ Rp K H v4 z.2.2 := by
  obtain ⟨t, vs, rfl, ht, rvs⟩ := r.tup_inv
  obtain ⟨v1, r1, rfl, w1, rvs⟩ := rvs.cons_inv
  obtain ⟨v2, r2, rfl, w2, rvs⟩ := rvs.cons_inv
  obtain ⟨v3, r3, rfl, w3, rvs⟩ := rvs.cons_inv
  obtain ⟨v4, r4, rfl, w4, rvs⟩ := rvs.cons_inv
  obtain rfl := rvs.nil_inv
  obtain rfl := w1.int_inv
  obtain rfl := w2.int_inv
  obtain rfl := w3.int_inv
  exact ⟨t, v4, rfl, ht, w4⟩
theorem letD_parts {H : Hp} {m : Nat} {v : V} {z : Int × Int × PyData} (r : Rp K H v (letD m z)) : ∃ t v4, v = .ref t ∧ SqT K H t [.int m, .int z.1, .int z.2.1, v4] ∧ Rp K H v4 z.2.2 := by
  obtain ⟨t, vs, rfl, ht, rvs⟩ := r.tup_inv
  obtain ⟨v1, r1, rfl, w1, rvs⟩ := rvs.cons_inv
  obtain ⟨v2, r2, rfl, w2, rvs⟩ := rvs.cons_inv
  obtain ⟨v3, r3, rfl, w3, rvs⟩ := rvs.cons_inv
  obtain ⟨v4, r4, rfl, w4, rvs⟩ := rvs.cons_inv
  obtain rfl := rvs.nil_inv
  obtain rfl := w1.int_inv
  obtain rfl := w2.int_inv
  obtain rfl := w3.int_inv
  exact ⟨t, v4, rfl, ht, w4⟩
def spSound (K : PySem.W.Frag) : Sp := fun vs H Q _ => ∃ (own : Addr → Nat) (cnt N : Nat) (pl : Addr) (rs : Nat → PR) (ω : Nat → Pq), vs = [.ref pl] ∧ WAt K H own cnt pl rs ω ∧ Inw cnt N ω ∧ N ≤ 60 ∧ ∀ H', Same H H' → Q (.bl true) H'
theorem ok_lw_sound (T : Txt K mg w a) : FnOk P w K mg base CX0 4 (He.ga K "_law_sound") a.d_lw_sound ["places"] (spSound K) := by
  refine T.F_lw_sound.ok sc_lw_sound (fun vs H Q E h => ?_) (fun cdv A outer s H vs Q E hr h => ?_)
  · obtain ⟨own, cnt, N, pl, rs, ω, rfl, _⟩ := h
    rfl
  · obtain ⟨own, cnt, N, pl, rs, ω, rfl, W, I, hN, q⟩ := h
    refine ⟨_, PSs.nox (pss_cons (ps_for PassesOwn.never rfl (pi_range1 (by rfl) T.g_range (pa_cons (pe_callB call_len_seq (by rfl) T.g_len boot_len (pa_cons (pv 0) pa_nil)) pa_nil)) (pg_name (i := 1) sc_lw_sound.nd rfl (Or.inl rfl))
      (pss_cons (ps_set (i := 2) sc_lw_sound.nd rfl (Or.inl rfl) (pe_ix ix_list (pv 0) (pv 1) (fun _ _ => rfl)))
      (pss_cons (ps_setLc (i := 4) (own := [("letter", 3)]) (g := gName 3) (tt := tYes) (te := (tTup (tCons (tOp (rIxT K) (tVar 3) (tC (.int 0))) (tCons (tOp (rIxT K) (tVar 3) (tC (.int 2))) tNil)))) (by rfl) sc_lw_sound.nd rfl rfl (sw_true rfl rfl rfl (by decide +kernel)) (pi_list (pe_dget (hu_of hr) (pv 2) pe_str (fun _ _ => rfl))) (blkOk_by (own := [("letter", 3)]) (N := N_lw_sound) (sc := defScope s_lw_sound) (by decide +kernel)) (fun _ _ _ _ _ => pg_name (i := 3) sc_lw_sound.nd rfl (Or.inl rfl)) (fun _ _ _ _ _ => pts_nil) (fun _ _ _ _ _ => (pe_tup (pa_cons (pe_ix (r := rIxT K) ix_tup (pv 3) pe_int (fun _ _ => rfl)) (pa_cons (pe_ix (r := rIxT K) ix_tup (pv 3) pe_int (fun _ _ => rfl)) pa_nil)))))
      (pss_cons (ps_if (pt_cmpR op_ne (pe_callB call_len_seq (by rfl) T.g_len boot_len (pa_cons (pv 4) pa_nil)) (TupIn.pe_lenSetT rfl hr.units (by rfl) T.g_len (by rfl) T.g_set (pv 4)) (nomark _)) (pss_one (ps_ret pe_bl)) pss_nil)
      (pss_cons (ps_for PassesOwn.never rfl (pi_range1 (by rfl) T.g_range (pa_cons (pe_callB call_len_seq (by rfl) T.g_len boot_len (pa_cons (pv 0) pa_nil)) pa_nil)) (pg_name (i := 5) sc_lw_sound.nd rfl (Or.inr rfl))
      (pss_cons (ps_setLc (i := 6) (own := [("letter", 3)]) (g := gName 3) (tt := (tTest (tOp rEq (tOp (rIxT K) (tVar 3) (tC (.int 0))) (tVar 5)))) (te := (tOp (rIxT K) (tVar 3) (tC (.int 2)))) (by rfl) sc_lw_sound.nd rfl rfl (sw_true rfl rfl rfl (by decide +kernel)) (pi_list (pe_dget (hu_of hr) (pv 2) pe_str (fun _ _ => rfl))) (blkOk_by (own := [("letter", 3)]) (N := N_lw_sound) (sc := defScope s_lw_sound) (by decide +kernel)) (fun _ _ _ _ _ => pg_name (i := 3) sc_lw_sound.nd rfl (Or.inl rfl)) (fun _ _ _ _ _ => pts_one (pt_cmpR op_eq (pe_ix (r := rIxT K) ix_tup (pv 3) pe_int (fun _ _ => rfl)) (pv 5) (nomark _))) (fun _ _ _ _ _ => (pe_ix (r := rIxT K) ix_tup (pv 3) pe_int (fun _ _ => rfl))))
      (pss_one (ps_for PassesOwn.never rfl (pi_range1 (by rfl) T.g_range (pa_cons pe_int pa_nil)) (pg_name (i := 7) sc_lw_sound.nd rfl (Or.inl rfl))
      (pss_one (ps_if (pt_cmpR op_ne (pe_meth (pe_dget (hu_of hr) (pv 2) pe_str (fun _ _ => rfl)) T.c_Post T.m_Post_is_taken (ok_Post_is_taken T) (hr.mono (by omega)) T.b_Post_is_taken .nil pass0 (pa_cons (pv 5) (pa_cons (pv 7) pa_nil))) (pe_cmpR op_in_seq (pv 7) (pv 6) (by rfl)) (nomark _)) (pss_one (ps_ret pe_bl)) pss_nil))))))
      (pss_cons (ps_for PassesOwn.never rfl (pi_list (pe_dget (hu_of hr) (pv 2) pe_str (fun _ _ => rfl))) (pg_name (i := 3) sc_lw_sound.nd rfl (Or.inl rfl))
      (pss_one (ps_if (pt_cmpR (op_notInD (TupIn.u65 hr)) (pv 3) (pe_dget (hu_of hr) (pe_ix ix_list (pv 0) (pe_ix ix_tup (pv 3) pe_int (fun _ _ => rfl)) (fun _ _ => rfl)) pe_str (fun _ _ => rfl)) (by rfl)) (pss_one (ps_ret pe_bl)) pss_nil)))
      (pss_cons (ps_set (i := 8) sc_lw_sound.nd rfl (Or.inl rfl) (pe_meth0 (pe_dget (hu_of hr) (pv 2) pe_str (fun _ _ => rfl)) T.c_Post T.m_Post_outbox (ok_Post_outbox T) (hr.mono (by omega)) T.b_Post_outbox .nil pass0))
      (pss_one (ps_for PassesOwn.never rfl (pi_list (pe_dget (hu_of hr) (pv 2) pe_str (fun _ _ => rfl))) (pg_name (i := 3) sc_lw_sound.nd rfl (Or.inl rfl))
      (pss_one (ps_if (PW.pt (pw_and (pt_cmpR (TupIn.op_notInT (TupIn.u65 hr)) (pv 3) (pv 8) (by rfl)) (pw_and1 (pt_not (pt_val (pe_meth (pe_dget (hu_of hr) (pe_ix ix_list (pv 0) (pe_ix ix_tup (pv 3) pe_int (fun _ _ => rfl)) (fun _ _ => rfl)) pe_str (fun _ _ => rfl)) T.c_Post T.m_Post_is_taken (ok_Post_is_taken T) (hr.mono (by omega)) T.b_Post_is_taken .nil pass0 (pa_cons (pv 1) (pa_cons (pe_ix ix_tup (pv 3) pe_int (fun _ _ => rfl)) pa_nil)))))))) (pss_one (ps_ret pe_bl)) pss_nil)))))))))))
      (pss_one (ps_ret pe_bl))), ?_⟩
    rw [show L2.start N_lw_sound [.ref pl] = [some (.ref pl), none, none, none, none, none, none, none, none] from rfl]
    have hc3 := W.c
    have ll : (((List.range cnt).map fun i => V.ref (rs i).d).length : Int) = (cnt : Int) := by rw [List.length_map, List.length_range]
    refine ⟨_, rfl, pl, _, rfl, .inl (SqL.of W.l), ?_⟩
    rw [ll]
    refine ⟨_, rfl, by omega, by omega, ?_⟩
    refine for_range (n := cnt) (fun i σ Hi => ∃ (x1 x2 x3 x4 x5 x6 x7 x8 : Option V), σ = [some (.ref pl), x1, x2, x3, x4, x5, x6, x7, x8] ∧ Same H Hi)
      ⟨_, _, _, _, _, _, _, _, rfl, Same.refl _⟩ (fun i σ Hi hi ⟨x1, x2, x3, x4, x5, x6, x7, x8, e, sI⟩ => ?_) fun σ Hi ⟨x1, x2, x3, x4, x5, x6, x7, x8, e, sI⟩ => ?_
    · subst e
      simp only [Int.zero_add, List.set_cons_succ, List.set_cons_zero]
      have Wi := W.same sI
      have Ai := Wi.p i hi
      refine ⟨_, rfl, _, rfl, pl, _, _, _, rfl, rfl, SqL.of Wi.l, Wi.at_ hi, ?_⟩
      simp only [gName, List.set_cons_succ, List.set_cons_zero]
      obtain ⟨uk, k1, k2⟩ := Ai.q 1 (by decide)
      have k2' : Rps K Hi uk ((ω i).x.kn.map (nwM i)) := k2
      have luk : uk.length = (ω i).x.kn.length := by rw [k2'.len, List.length_map]
      have lkn : (ω i).x.kn.length ≤ 60 := Nat.le_trans (I.B i hi).2 hN
      refine ⟨_, rfl, (rs i).d, _, rfl, .inl ⟨DK (rs i), Sum.inr "known", .inl Ai.d, rfl, getD_known.symm⟩, ?_⟩
      refine ⟨(rs i).q 1, rfl, ⟨_, SqL.of k1⟩, fun D nD => ?_⟩
      refine lc_list (K := K) (a := (rs i).q 1) (xs := uk) (fun j Hj => Same Hi Hj ∧ ∃ ks : List (Addr × List Int), Hj D = some (.lst (ks.map fun p => V.ref p.1)) ∧ ks.map (·.2) = ((ω i).x.kn.take j).map (fun t => [t.1, t.2.1]) ∧ (∀ p ∈ ks, SqT K Hj p.1 (p.2.map V.int)) ∧ ks.length ≤ j) ⟨Cm.same_new nD, [], upd_same, rfl, (fun p hp => nomatch hp), Nat.le_refl _⟩ (fun j Hj _ b => SqL.of (b.1 _ _ k1)) (fun j y Hj hy b => ?_) fun Hj b => ?_
      · obtain ⟨sJ, ks, hD, ek, hk, lk⟩ := b
        refine ⟨rfl, ?_⟩
        have hn : j < (ω i).x.kn.length := by
          rw [← luk]
          exact (List.getElem?_eq_some_iff.mp hy).1
        have hbd : (ω i).x.kn[j]? = some (ω i).x.kn[j] := List.getElem?_eq_getElem hn
        obtain ⟨y', hy', ry⟩ := k2'.at_ (i := j) (d := nwM i (ω i).x.kn[j]) (by rw [List.getElem?_map, hbd]; rfl)
        rw [hy] at hy'
        cases hy'
        generalize (ω i).x.kn[j] = z at hbd ry
        obtain ⟨t, v4, rfl, ht, _⟩ := nw_parts (ry.keep (Same.tups sJ))
        refine ⟨_, rfl, t, _, 0, _, rfl, rfl, ht, atI_nat (j := 0) rfl, _, rfl, t, _, 2, _, rfl, rfl, ht, atI_nat (j := 2) rfl, Cm.small (by show 2 ≤ 100000; decide), fun tp ntp => ?_⟩
        have st := Cm.same_new (o := .tup [.int z.1, .int z.2.1]) ntp
        have sall := sJ.trans st
        have hD2 := st _ _ hD
        have hm := Cm.same_mut sall nD (o := .lst (ks.map (fun p => V.ref p.1) ++ [.ref tp]))
        have tk : TK K _ (L2.upd (L2.upd Hj tp (.tup [.int z.1, .int z.2.1])) D (.lst (ks.map (fun p => V.ref p.1) ++ [.ref tp]))) := TK.upd (by rw [hD2]; exact True.intro)
        refine ⟨_, hD2, Cm.smallL (by rw [List.length_map]; omega), hm, ks ++ [(tp, [z.1, z.2.1])], ?_, ?_, fun p hp => ?_, by rw [List.length_append]; simp only [List.length_cons, List.length_nil]; omega⟩
        · rw [upd_same, List.map_append]
          rfl
        · rw [List.map_append, List.take_succ, hbd, List.map_append, ek]
          rfl
        · rcases List.mem_append.mp hp with h | h
          · exact tk _ _ (Cm.sameT st (hk p h))
          · rw [List.mem_singleton.mp h]
            exact tk _ _ Cm.sqt_new
      · obtain ⟨sJ, ks, hD, ek, hk, lk⟩ := b
        rw [luk, List.take_length] at ek
        have nd := I.names hi
        rw [← ek] at nd
        have lks : ks.length ≤ 60 := by omega
        simp only [gName, List.set_cons_succ, List.set_cons_zero]
        refine ⟨_, rfl, D, _, rfl, .inl (SqL.of hD), _, rfl, D, ks, rfl, SqL.of hD, hk, by omega, nd, rfl, _, rfl, Cm.itNI (fun e => absurd (by rw [List.length_map]) e) fun _ => ?_⟩
        have sA := sI.trans sJ
        have WA := W.same sA
        refine ⟨_, rfl, pl, _, rfl, .inl (SqL.of WA.l), ?_⟩
        rw [ll]
        refine ⟨_, rfl, by omega, by omega, ?_⟩
        clear hD hk ek nd lk
        refine for_range (n := cnt) (fun k σ Hk => ∃ (y3 y5 y6 y7 : Option V), σ = [some (.ref pl), some (.int i), some (.ref (rs i).d), y3, some (.ref D), y5, y6, y7, x8] ∧ Same H Hk)
          ⟨_, _, _, _, rfl, sA⟩ (fun k σ Hk hk ⟨y3, y5, y6, y7, e, sK⟩ => ?_) fun σ Hk ⟨y3, y5, y6, y7, e, sK⟩ => ?_
        · subst e
          simp only [Int.zero_add, List.set_cons_succ, List.set_cons_zero]
          have Wk := W.same sK
          have Ak := Wk.p i hi
          obtain ⟨vk, k3, k4⟩ := Ak.q 1 (by decide)
          have k4' : Rps K Hk vk ((ω i).x.kn.map (nwM i)) := k4
          have lvk : vk.length = (ω i).x.kn.length := by rw [k4'.len, List.length_map]
          refine ⟨_, rfl, (rs i).d, _, rfl, .inl ⟨DK (rs i), Sum.inr "known", .inl Ak.d, rfl, getD_known.symm⟩, ?_⟩
          refine ⟨(rs i).q 1, rfl, ⟨_, SqL.of k3⟩, fun D2 nD2 => ?_⟩
          refine lc_list (K := K) (a := (rs i).q 1) (xs := vk) (fun j Hj => Same Hk Hj ∧ ∃ acc : List Int, Hj D2 = some (.lst (acc.map V.int)) ∧ acc = (((ω i).x.kn.take j).filter fun e => decide (e.1 = (k : Int))).map (·.2.1)) ⟨Cm.same_new nD2, [], upd_same, rfl⟩ (fun j Hj _ b => SqL.of (b.1 _ _ k3)) (fun j y Hj hy b => ?_) fun Hj b => ?_
          · obtain ⟨sH, acc, hD, eD⟩ := b
            refine ⟨rfl, ?_⟩
            have hn : j < (ω i).x.kn.length := by
              rw [← lvk]
              exact (List.getElem?_eq_some_iff.mp hy).1
            have hbd : (ω i).x.kn[j]? = some (ω i).x.kn[j] := List.getElem?_eq_getElem hn
            obtain ⟨y', hy', ry⟩ := k4'.at_ (i := j) (d := nwM i (ω i).x.kn[j]) (by rw [List.getElem?_map, hbd]; rfl)
            rw [hy] at hy'
            cases hy'
            generalize (ω i).x.kn[j] = z at hbd ry
            obtain ⟨xo, xn, xd⟩ := z
            obtain ⟨t, v4, rfl, ht, _⟩ := nw_parts (ry.keep (Same.tups sH))
            have lacc : acc.length ≤ j := by
              rw [eD, List.length_map]
              refine Nat.le_trans (List.length_filter_le _ _) ?_
              rw [List.length_take]
              omega
            refine ⟨_, rfl, t, _, 0, _, rfl, rfl, ht, atI_nat (j := 0) rfl, _, rfl, rfl, _, rfl, Cm.itEI (fun e => ?_) fun e => ?_⟩
            · refine ⟨_, rfl, t, _, 2, _, rfl, rfl, ht, atI_nat (j := 2) rfl, _, hD, Cm.smallL (by rw [len_map]; omega), Cm.same_mut sH nD2, acc ++ [xn], by rw [upd_same, map_snoc], ?_⟩
              rw [take_flt hbd, if_pos (decide_eq_true e), List.map_append, eD]
              rfl
            · refine ⟨sH, acc, hD, ?_⟩
              rw [take_flt hbd, if_neg (by simpa using e), List.append_nil, eD]
          · obtain ⟨sH, acc, hD, eD⟩ := b
            rw [lvk, List.take_length] at eD
            have sHj := sK.trans sH
            simp only [gName, List.set_cons_succ, List.set_cons_zero]
            refine ⟨9, rfl, by decide, by decide, for_range (n := 9) (fun j σ Hn => ∃ (z3 z7 : Option V), σ = [some (.ref pl), some (.int i), some (.ref (rs i).d), z3, some (.ref D), some (.int k), some (.ref D2), z7, x8] ∧ Same Hj Hn)
              ⟨_, _, rfl, Same.refl _⟩ (fun j σ Hn hj ⟨z3, z7, e, sN⟩ => ?_) fun σ Hn ⟨z3, z7, e, sN⟩ => ?_⟩
            · subst e
              generalize (0 + (j : Int)) = n
              have Wn := W.same (sHj.trans sN)
              have An := Wn.p i hi
              obtain ⟨⟨lsn, Gn, _⟩, _⟩ := id An.b
              obtain ⟨⟨dxn, hon⟩, _⟩ := id Gn
              simp only [List.set_cons_succ, List.set_cons_zero]
              refine ⟨_, rfl, (rs i).d, _, rfl, .inl ⟨DK (rs i), Sum.inr "kept", .inl An.d, rfl, getD_kept.symm⟩, ?_⟩
              refine ⟨(rs i).b.p, dxn, _, rfl, hon, fp_no (by decide +kernel), _, rfl, _, rfl, (rs i).b.p, (rs i).b.ol, (rs i).b.nd, (rs i).b.hd, i, lsn, _, _, (k : Int), n, rfl, Gn, fun HO so => ?_⟩
              rw [I.told hi k n, ← eD]
              refine ⟨_, rfl, _, rfl, in_lst (.inl (SqL.of (so _ _ (sN _ _ hD)))) ?_⟩
              refine ⟨rfl, _, rfl, ?_⟩
              rw [Cm.deq_bl, decide_eq_true rfl]
              exact ⟨_, _, rfl, sN.trans so⟩
            · subst e
              exact ⟨_, _, _, _, rfl, sHj.trans sN⟩
        · subst e
          have Wk := W.same sK
          have Ak := Wk.p i hi
          obtain ⟨vk, k3, k4⟩ := Ak.q 1 (by decide)
          have k4' : Rps K Hk vk ((ω i).x.kn.map (nwM i)) := k4
          have lvk : vk.length = (ω i).x.kn.length := by rw [k4'.len, List.length_map]
          refine ⟨_, rfl, (rs i).d, _, rfl, .inl ⟨DK (rs i), Sum.inr "known", .inl Ak.d, rfl, getD_known.symm⟩, ?_⟩
          refine ⟨(rs i).q 1, rfl, ⟨_, SqL.of k3⟩, for_list (K := K) (a := (rs i).q 1) (xs := vk) (fun j σ Hj => ∃ (z3 : Option V), σ = [some (.ref pl), some (.int i), some (.ref (rs i).d), z3, some (.ref D), y5, y6, y7, x8] ∧ Same Hk Hj)
            ⟨_, rfl, Same.refl _⟩ (fun j σ Hj _ ⟨_, _, b⟩ => SqL.of (b _ _ k3)) (fun j y σ Hj hy ⟨z3, e, sJ⟩ => ?_) fun σ Hj ⟨z3, e, sJ⟩ => ?_⟩
          · subst e
            have hn : j < (ω i).x.kn.length := by
              rw [← lvk]
              exact (List.getElem?_eq_some_iff.mp hy).1
            obtain ⟨y', hy', ry⟩ := k4'.at_ (i := j) (d := nwM i (ω i).x.kn[j]) (by rw [List.getElem?_map, List.getElem?_eq_getElem hn]; rfl)
            rw [hy] at hy'
            cases hy'
            obtain ⟨s', hs', es, hin⟩ := I.kn i hi _ (List.getElem_mem hn)
            generalize (ω i).x.kn[j] = z at ry es hin
            obtain ⟨xo, xn, xd⟩ := z
            have es' : xo = (s' : Int) := es
            subst es'
            have ryj := ry.keep (Same.tups sJ)
            obtain ⟨t, v4, rfl, ht, _⟩ := nw_parts ryj
            have Wj := Wk.same sJ
            have As := Wj.p s' hs'
            obtain ⟨uo, o1, o2⟩ := As.q 4 (by decide)
            have o2' : Rps K Hj uo ((ω s').e.old.map (letD s')) := o2
            have bo := (I.bodies hs').2.1
            have hin' : ((i : Int), xn, xd) ∈ (ω s').e.old := hin
            have shd := let_shaped (m := s') (bo _ hin')
            have rld : Rp K Hj (.ref t) (letD s' ((i : Int), xn, xd)) := ryj
            simp only [List.set_cons_succ, List.set_cons_zero, gName]
            refine ⟨_, rfl, _, rfl, _, rfl, t, _, 0, _, rfl, rfl, ht, atI_nat (j := 0) rfl, pl, _, _, _, rfl, rfl, SqL.of Wj.l, Wj.at_ hs', (rs s').d, _, rfl, .inl ⟨DK (rs s'), Sum.inr "old", .inl As.d, rfl, getD_old.symm⟩, ?_⟩
            refine ⟨_, _, rld.dp, .lst (SqL.of o1) o2'.dp, shd, lets_shapedL bo, _, rfl, Cm.itBn (fun z => absurd (TupIn.any_in (List.mem_map_of_mem hin') (Nst.eqv_self shd)) (by rw [z]; decide)) fun _ => ?_⟩
            exact ⟨_, rfl, sJ⟩
          · subst e
            have sKJ := sK.trans sJ
            have Wj := W.same sKJ
            have Aj := Wj.p i hi
            obtain ⟨⟨lb, Gb, rb⟩, _⟩ := id Aj.b
            obtain ⟨⟨dxb, hob⟩, _⟩ := id Gb
            have rb' : Rps K Hj lb ((ω i).x.K.lets.map (letD i)) := rb
            simp only [List.set_cons_succ, List.set_cons_zero, gName]
            refine ⟨_, rfl, (rs i).d, _, rfl, .inl ⟨DK (rs i), Sum.inr "kept", .inl Aj.d, rfl, getD_kept.symm⟩, ?_⟩
            refine ⟨(rs i).b.p, dxb, _, rfl, hob, fp_no (by decide +kernel), (rs i).b.p, (rs i).b.ol, (rs i).b.nd, (rs i).b.hd, i, lb, _, _, rfl, Gb, fun bx nbx => ?_⟩
            have sbx := Cm.same_new (o := .tup lb) nbx
            have rbx : Rp K (L2.upd Hj bx (.tup lb)) (.ref bx) (.tuple ((ω i).x.K.lets.map (letD i))) := Rp.made nbx rb'
            generalize L2.upd Hj bx (.tup lb) = HB at *
            have sB := sKJ.trans sbx
            have WB := W.same sB
            have AB := WB.p i hi
            obtain ⟨us, u1, u2⟩ := AB.q 2 (by decide)
            have u2' : Rps K HB us ((ω i).e.sent.map (letD i)) := u2
            have lus : us.length = (ω i).e.sent.length := by rw [u2'.len, List.length_map]
            obtain ⟨_, _, bs, _, bkl⟩ := I.bodies hi
            simp only [List.set_cons_succ, List.set_cons_zero, gName]
            refine ⟨_, rfl, (rs i).d, _, rfl, .inl ⟨DK (rs i), Sum.inr "sent", .inl AB.d, rfl, getD_sent.symm⟩, ?_⟩
            refine ⟨(rs i).q 2, rfl, ⟨_, SqL.of u1⟩, for_list (K := K) (a := (rs i).q 2) (xs := us) (fun j σ Hn => ∃ (z3 : Option V), σ = [some (.ref pl), some (.int i), some (.ref (rs i).d), z3, some (.ref D), y5, y6, y7, some (.ref bx)] ∧ Same HB Hn)
              ⟨_, rfl, Same.refl _⟩ (fun j σ Hn _ ⟨_, _, b⟩ => SqL.of (b _ _ u1)) (fun j y σ Hn hy ⟨z3, e, sN⟩ => ?_) fun σ Hn ⟨z3, e, sN⟩ => ?_⟩
            · subst e
              have hn : j < (ω i).e.sent.length := by
                rw [← lus]
                exact (List.getElem?_eq_some_iff.mp hy).1
              obtain ⟨y', hy', ry⟩ := u2'.at_ (i := j) (d := letD i (ω i).e.sent[j]) (by rw [List.getElem?_map, List.getElem?_eq_getElem hn]; rfl)
              rw [hy] at hy'
              cases hy'
              have hz := List.getElem_mem hn
              generalize (ω i).e.sent[j] = z at ry hz
              obtain ⟨g, hg, eg, hor⟩ := I.boxed hi hz
              obtain ⟨zg, zn, zd⟩ := z
              have eg' : zg = (g : Int) := eg
              subst eg'
              have ryn := ry.keep (Same.tups sN)
              obtain ⟨t, v4, rfl, ht, _⟩ := letD_parts ryn
              have shd := let_shaped (m := i) (bs _ hz)
              have Wn := WB.same sN
              have Ag := Wn.p g hg
              obtain ⟨⟨lg, Gg, _⟩, _⟩ := id Ag.b
              obtain ⟨⟨dxg, hog⟩, _⟩ := id Gg
              simp only [List.set_cons_succ, List.set_cons_zero, gName]
              refine ⟨_, rfl, _, rfl, _, _, ryn.dp, (rbx.keep (Same.tups sN)).dp, shd, lets_shapedT bkl, _, rfl, Cm.itBn (fun notin => ?_) fun _ => ?_⟩
              · refine ⟨_, rfl, _, rfl, t, _, 1, _, rfl, rfl, ht, atI_nat (j := 1) rfl, pl, _, _, _, rfl, rfl, SqL.of Wn.l, Wn.at_ hg, (rs g).d, _, rfl, .inl ⟨DK (rs g), Sum.inr "kept", .inl Ag.d, rfl, getD_kept.symm⟩, ?_⟩
                refine ⟨(rs g).b.p, dxg, _, rfl, hog, fp_no (by decide +kernel), _, rfl, _, rfl, t, _, 2, _, rfl, rfl, ht, atI_nat (j := 2) rfl, ?_⟩
                refine ⟨(rs g).b.p, (rs g).b.ol, (rs g).b.nd, (rs g).b.hd, g, lg, _, _, (i : Int), zn, rfl, Gg, fun HO so => ?_⟩
                have tru : tellsF (getH (ω g).x.K.hs i).1 (getH (ω g).x.K.hs i).2 zn = true := by
                  rcases hor with h | h
                  · have := TupIn.any_in (List.mem_map_of_mem (f := letD i) h) (Nst.eqv_self shd)
                    rw [notin] at this
                    cases this
                  · exact h
                rw [tru]
                exact ⟨true, rfl, iteF ⟨_, rfl, sN.trans so⟩⟩
              · exact iteF ⟨_, rfl, sN⟩
            · subst e
              exact ⟨_, _, _, _, _, _, _, _, rfl, sB.trans sN⟩
    · subst e
      exact q _ sI
/-! ### new places -/
def qF (a b c d e : Addr) : Nat → Addr
  | 0 => a
  | 1 => b
  | 2 => c
  | 3 => d
  | _ => e
theorem mergeD {d : Addr} {a b : PA} {q0 q1 q2 q3 q4 : Addr} : mergeK [] [(Sum.inr "present", V.ref a.p), (Sum.inr "kept", .ref b.p), (Sum.inr "new", .ref q0), (Sum.inr "known", .ref q1), (Sum.inr "sent", .ref q2), (Sum.inr "given", .ref q3), (Sum.inr "old", .ref q4)] = DK ⟨d, a, b, qF q0 q1 q2 q3 q4⟩ := by
  obtain ⟨k0, k1, k2, k3, k4, k5, k6, k7, k8, k9, k10, k11, k12, k13, k14, k15, k16, k17, k18, k19, k20, k21, k22, k23, k24, k25, k26, k27, k28, k29, k30, k31, k32, k33, k34, k35, k36, k37, k38, k39, k40, k41⟩ := kne
  unfold mergeK putK
  simp [DK, qF, k0, k1, k2, k3, k4, k5, k6, k7, k8, k9, k10, k11, k12, k13, k14, k15, k16, k17, k18, k19, k20, k21, k22, k23, k24, k25, k26, k27, k28, k29, k30, k31, k32, k33, k34, k35, k36, k37, k38, k39, k40, k41]
def allNew : Nat → Pq := fun _ => ⟨⟨psNew, psNew, [], []⟩, ⟨[], [], []⟩⟩
theorem allNew_inw (cnt : Nat) : Inw cnt 0 allNew :=
  ⟨⟨fun m _ => ⟨psNew_ok, psNew_ok⟩, fun _ _ _ => Int.le_refl _, fun _ _ _ _ h => h, fun m g _ _ _ n h0 h1 => by have : n < 0 := h1; omega, fun m g _ _ _ n h0 h1 => by have : n < 0 := h1; omega, (fun m s _ _ n hn => nomatch hn), fun m _ => ⟨fun _ => rfl, fun _ => rfl⟩⟩,
    fun _ _ => ⟨Nat.le_refl _, Nat.le_refl _⟩, (fun m _ z hz => nomatch hz), (fun m _ z hz => nomatch hz), (fun m _ z hz => nomatch hz), (fun m _ z hz => nomatch hz), (fun m _ z hz => nomatch hz), (fun m _ z hz => nomatch hz), (fun m _ z hz => nomatch hz), (fun m _ z hz => nomatch hz), (fun m _ z hz => nomatch hz)⟩
theorem datNew {m i : Nat} : datQ m ⟨⟨psNew, psNew, [], []⟩, ⟨[], [], []⟩⟩ i = [] := by
  rcases i with _ | _ | _ | _ | i <;> rfl
theorem WAt.grow {H H' : Hp} {own own' : Addr → Nat} {j : Nat} {pl : Addr} {rs : Nat → PR} {ω : Nat → Pq} {r : PR} (W : WAt K H own j pl rs ω) (hj : j + 1 ≤ 3) (S : Step K H own j H' own') (A : PlaceAt K H' own' j r (ω j)) :
    H' pl = some (.lst ((List.range j).map fun i => V.ref (rs i).d)) ∧ WAt K (L2.upd H' pl (.lst (((List.range j).map fun i => V.ref (rs i).d) ++ [.ref r.d]))) own' (j + 1) pl (upR rs j r) ω := by
  have o := W.o
  have hl := S.fr _ _ W.l (by omega)
  have o' : 1000 ≤ own' pl := by rw [S.ow _ _ W.l]; exact o
  have mu : Mut (H' pl) := by rw [hl]; exact True.intro
  have keepU : ∀ {m : Nat} {q : PR}, m < j + 1 → PlaceAt K H' own' m q (ω m) → PlaceAt K (L2.upd H' pl (.lst (((List.range j).map fun i => V.ref (rs i).d) ++ [.ref r.d]))) own' m q (ω m) := fun hm B =>
    B.keep (TK.upd mu) (fun c u h e => by rw [upd_ne fun z => by rw [z] at e; omega]; exact h) fun _ _ _ => rfl
  refine ⟨hl, ?_, o', hj, fun m hm => ?_⟩
  · rw [upd_same, List.range_succ, List.map_append]
    congr 3
    · refine List.map_congr_left fun i hi => ?_
      have := List.mem_range.mp hi
      unfold upR
      rw [if_neg (by omega)]
    · show [V.ref r.d] = [V.ref (upR rs j r j).d]
      unfold upR
      rw [if_pos rfl]
  · unfold upR
    by_cases z : m = j
    · rw [if_pos z, z]
      exact keepU (by omega) A
    · rw [if_neg z]
      exact keepU hm ((W.p m (by omega)).keep S.tk (fun c u h e => S.fr c u h (by omega)) S.ow)
def spLaw (K : PySem.W.Frag) : Sp := fun vs H Q _ => ∃ (a : Addr) (ns : List Int), vs = [.ref a] ∧ SqL K H a (ns.map V.int) ∧ ns.length ≤ 63 ∧ ∀ H', Q (.bl true) H'
theorem ok_law (T : Txt K mg w a) : FnOk P w K mg base CX0 7 (He.ga K "law") a.d_law ["script"] (spLaw K) := by
  refine T.F_law.ok sc_law (fun vs H Q E h => ?_) (fun cdv A outer s H vs Q E hr h => ?_)
  · obtain ⟨l, ns, rfl, _⟩ := h
    rfl
  · obtain ⟨l, sc, rfl, hl, hsc, q⟩ := h
    refine ⟨_, PSs.nox (pss_cons (ps_set (i := 1) sc_law.nd rfl (Or.inl rfl) (pe_call (ok_lw_numbers T) (hr.mono (by omega)) (by rfl) T.g_lw_numbers T.F_lw_numbers.kp T.b_lw_numbers .nil pass0 (pa_cons (pv 0) (pa_cons pe_int pa_nil))))
      (pss_cons (ps_set (i := 2) sc_law.nd rfl (Or.inl rfl) (pe_lst pa_nil))
      (pss_cons (ps_for PassesOwn.never rfl (pi_range1 (by rfl) T.g_range (pa_cons (pe_op op_add pe_int (pe_op op_mod (pe_ix ix_list (pv 1) pe_int (fun _ _ => rfl)) pe_int)) pa_nil)) (pg_name (i := 3) sc_law.nd rfl (Or.inl rfl))
      (pss_one (ps_expr (pe_bm PySem.F.plainAttrs_list PySem.F.slot_list_append PySem.F.type_list_append mt_append (pv 2) (pa_cons (pe_disp (pps_cons pe_str (pe_make T.k_Post (ok_Post_init T) (hr.mono (by omega)) (by rfl) T.g_Post T.b_Post_init .nil pass0 (pa_cons (pv 3) pa_nil)) (pps_cons pe_str (pe_make T.k_Post (ok_Post_init T) (hr.mono (by omega)) (by rfl) T.g_Post T.b_Post_init .nil pass0 (pa_cons (pv 3) pa_nil)) (pps_cons pe_str (pe_lst pa_nil) (pps_cons pe_str (pe_lst pa_nil) (pps_cons pe_str (pe_lst pa_nil) (pps_cons pe_str (pe_lst pa_nil) (pps_cons pe_str (pe_lst pa_nil) pps_nil))))))) (by rfl) (by rfl) (fun z => by cases z) (by decide)) pa_nil)))))
      (pss_cons (ps_set (i := 4) sc_law.nd rfl (Or.inl rfl) (pe_lst pa_nil))
      (pss_cons (ps_for PassesOwn.never rfl (pi_range1 (by rfl) T.g_range (pa_cons (pe_op op_mod (pe_ix ix_list (pv 1) pe_int (fun _ _ => rfl)) pe_int) pa_nil)) (pg_name (i := 5) sc_law.nd rfl (Or.inl rfl))
      (pss_cons (ps_expr (pe_call (ok_lw_event T) (hr.mono (by omega)) (by rfl) T.g_lw_event T.F_lw_event.kp T.b_lw_event .nil pass0 (pa_cons (pv 2) (pa_cons (pv 4) (pa_cons (pe_ix ix_list (pv 1) (pe_callTy call_int1 (by rfl) T.g_int boot_int (pa_cons (pe_op op_add pe_int (pe_op op_mul pe_int (pv 5))) pa_nil)) (fun _ _ => rfl)) (pa_cons (pe_ix ix_list (pv 1) (pe_callTy call_int1 (by rfl) T.g_int boot_int (pa_cons (pe_op op_add pe_int (pe_op op_mul pe_int (pv 5))) pa_nil)) (fun _ _ => rfl)) pa_nil))))))
      (pss_one (ps_if (pt_not (pt_val (pe_call (ok_lw_sound T) (hr.mono (by omega)) (by rfl) T.g_lw_sound T.F_lw_sound.kp T.b_lw_sound .nil pass0 (pa_cons (pv 2) pa_nil)))) (pss_one (ps_ret pe_bl)) pss_nil))))
      (pss_one (ps_ret pe_bl))))))), ?_⟩
    rw [show L2.start N_law [.ref l] = [some (.ref l), none, none, none, none, none] from rfl]
    refine ⟨_, rfl, l, sc, 110, rfl, hl, hsc, by decide, fun H1 pn nums s1 np hp hlen hok => ?_⟩
    simp only [List.set_cons_succ, List.set_cons_zero]
    obtain ⟨n0, hn0, e0⟩ := Cm.at_int (ns := nums) (i := 0) (by omega) (by omega)
    obtain ⟨n1, hn1, e1⟩ := Cm.at_int (ns := nums) (i := 1) (by omega) (by omega)
    obtain ⟨g0, _⟩ := hok n0 hn0
    obtain ⟨g1, _⟩ := hok n1 hn1
    refine ⟨Nat.zero_le _, fun pl npl => ?_⟩
    have s2 := Cm.same_new (o := .lst []) npl
    have hp2 := s2 _ _ hp
    have hpl2 : (L2.upd H1 pl (.lst [])) pl = some (.lst []) := upd_same
    have pnl : pn ≠ pl := ne_of_none hp npl
    generalize L2.upd H1 pl (.lst []) = H2 at *
    simp only [gName, List.set_cons_succ, List.set_cons_zero]
    refine ⟨_, rfl, pn, _, _, _, rfl, rfl, SqL.of hp2, e0, _, _, rfl, rfl, (by show (0 : Int) < 2; decide), _, _, rfl, rfl, _, rfl, by omega, by omega, ?_⟩
    obtain ⟨cnt, ec⟩ : ∃ cnt : Nat, 2 + n0 % 2 = (cnt : Int) := ⟨(2 + n0 % 2).toNat, by omega⟩
    have hc2 : 2 ≤ cnt := by omega
    have hc3 : cnt ≤ 3 := by omega
    rw [ec]
    refine for_range (n := cnt) (fun i σ H3 => ∃ (x3 : Option V) (own : Addr → Nat) (rs : Nat → PR), σ = [some (.ref l), some (.ref pn), some (.ref pl), x3, none, none] ∧ WAt K H3 own i pl rs allNew ∧ H3 pn = some (.lst (nums.map V.int)) ∧ 1000 ≤ own pn)
      ⟨none, fun _ => 1000, fun _ => ⟨pl, ⟨pl, pl, pl, pl⟩, ⟨pl, pl, pl, pl⟩, fun _ => pl⟩, rfl, ⟨hpl2, Nat.le_refl _, Nat.zero_le _, fun m hm => absurd hm (Nat.not_lt_zero m)⟩, hp2, Nat.le_refl _⟩ (fun i σ H3 hi ⟨x3, own, rs, e, W, hpn, on⟩ => ?_) fun σ H3 ⟨x3, own, rs, e, W, hpn, on⟩ => ?_
    · subst e
      simp only [Int.zero_add, List.set_cons_succ, List.set_cons_zero]
      refine ⟨_, rfl, .inl ⟨rfl, _, SqL.of W.l⟩, fun d nd => ?_⟩
      have sD := Cm.same_new (o := .dK []) nd
      obtain ⟨own1, td1, o1⟩ := tag_one (own := own) (t := 10 * i) nd
      have hd1 : (L2.upd H3 d (.dK [])) d = some (.dK []) := upd_same
      generalize L2.upd H3 d (.dK []) = HD at *
      refine ⟨_, rfl, fun x dx nx ndx nex => ⟨x, dx, _, rfl, upd_same, fun ol nn hh H4 ho hn hhn nnh G fr => ⟨rfl, ?_⟩⟩⟩
      have sA : Same HD H4 := fun b o hb => fr b o (by rw [upd_ne (ne_of_none hb nx), upd_ne (ne_of_none hb ndx)]; exact hb) (ne_of_none hb nx)
      obtain ⟨own2, ta2, o2⟩ := tag_new (own := own1) (t := 10 * i + 1) nx (upd_none' (upd_none' ho)) (upd_none' (upd_none' hn)) (upd_none' (upd_none' hhn))
      have DA : PDs K H4 ⟨x, ol, nn, hh⟩ i psNew := ⟨⟨[], G, .nil⟩, nnh⟩
      clear fr ho hn hhn nex ndx nx G nnh
      refine ⟨_, rfl, fun x' dx' nx ndx nex => ⟨x', dx', _, rfl, upd_same, fun ol' nn' hh' H5 ho hn hhn nnh G fr => ⟨rfl, ?_⟩⟩⟩
      have sB : Same H4 H5 := fun b o hb => fr b o (by rw [upd_ne (ne_of_none hb nx), upd_ne (ne_of_none hb ndx)]; exact hb) (ne_of_none hb nx)
      obtain ⟨own3, tb3, o3⟩ := tag_new (own := own2) (t := 10 * i + 2) nx (upd_none' (upd_none' ho)) (upd_none' (upd_none' hn)) (upd_none' (upd_none' hhn))
      have DB : PDs K H5 ⟨x', ol', nn', hh'⟩ i psNew := ⟨⟨[], G, .nil⟩, nnh⟩
      clear fr ho hn hhn nex ndx nx G nnh
      refine ⟨Nat.zero_le _, fun qa nqa => ⟨Nat.zero_le _, fun qb nqb => ⟨Nat.zero_le _, fun qc nqc => ⟨Nat.zero_le _, fun qd nqd => ⟨Nat.zero_le _, fun qe nqe => ?_⟩⟩⟩⟩⟩
      have og5' : ∀ c u, H5 c = some u → own3 c = own3 c := fun _ _ _ => rfl
      have sQa := Cm.same_new (o := .lst []) nqa
      obtain ⟨own4, tqa, o4⟩ := tag_one (own := own3) (t := 10 * i + 3) nqa
      have hqa : (L2.upd H5 qa (.lst [])) qa = some (.lst []) := upd_same
      generalize L2.upd H5 qa (.lst []) = H6 at *
      have sQb := Cm.same_new (o := .lst []) nqb
      obtain ⟨own5, tqb, o5⟩ := tag_one (own := own4) (t := 10 * i + 4) nqb
      have hqb : (L2.upd H6 qb (.lst [])) qb = some (.lst []) := upd_same
      generalize L2.upd H6 qb (.lst []) = H7 at *
      have sQc := Cm.same_new (o := .lst []) nqc
      obtain ⟨own6, tqc, o6⟩ := tag_one (own := own5) (t := 10 * i + 5) nqc
      have hqc : (L2.upd H7 qc (.lst [])) qc = some (.lst []) := upd_same
      generalize L2.upd H7 qc (.lst []) = H8 at *
      have sQd := Cm.same_new (o := .lst []) nqd
      obtain ⟨own7, tqd, o7⟩ := tag_one (own := own6) (t := 10 * i + 6) nqd
      have hqd : (L2.upd H8 qd (.lst [])) qd = some (.lst []) := upd_same
      generalize L2.upd H8 qd (.lst []) = H9 at *
      have sQe := Cm.same_new (o := .lst []) nqe
      obtain ⟨own8, tqe, o8⟩ := tag_one (own := own7) (t := 10 * i + 7) nqe
      have hqe : (L2.upd H9 qe (.lst [])) qe = some (.lst []) := upd_same
      generalize L2.upd H9 qe (.lst []) = H10 at *
      have sde := sQd.trans sQe
      have sce := sQc.trans sde
      have sbe := sQb.trans sce
      have sae := sQa.trans sbe
      have s4e := sB.trans sae
      have s3e := (sD.trans sA).trans s4e
      have hd9 : H10 d = some (.dK []) := (sA.trans s4e) _ _ hd1
      have og9 : ∀ c u, H9 c = some u → own8 c = own7 c := o8
      have og8 : ∀ c u, H8 c = some u → own8 c = own6 c := fun c u h => (og9 c u (sQd _ _ h)).trans (o7 c u h)
      have og7 : ∀ c u, H7 c = some u → own8 c = own5 c := fun c u h => (og8 c u (sQc _ _ h)).trans (o6 c u h)
      have og6 : ∀ c u, H6 c = some u → own8 c = own4 c := fun c u h => (og7 c u (sQb _ _ h)).trans (o5 c u h)
      have og5 : ∀ c u, H5 c = some u → own8 c = own3 c := fun c u h => (og6 c u (sQa _ _ h)).trans (o4 c u h)
      have og4 : ∀ c u, H4 c = some u → own8 c = own2 c := fun c u h => (og5 c u (sB _ _ h)).trans (o3 c u h)
      have ogD : ∀ c u, HD c = some u → own8 c = own1 c := fun c u h => (og4 c u (sA _ _ h)).trans (o2 c u h)
      have og3 : ∀ c u, H3 c = some u → own8 c = own c := fun c u h => (ogD c u (sD _ _ h)).trans (o1 c u h)
      have hq : ∀ j, j < 5 → ∃ us, H10 ((qF qa qb qc qd qe) j) = some (.lst us) ∧ Rps K H10 us (datQ i ⟨⟨psNew, psNew, [], []⟩, ⟨[], [], []⟩⟩ j) := fun j hj => by
        rw [datNew]
        match j, hj with
        | 0, _ => exact ⟨[], sbe _ _ hqa, .nil⟩
        | 1, _ => exact ⟨[], sce _ _ hqb, .nil⟩
        | 2, _ => exact ⟨[], sde _ _ hqc, .nil⟩
        | 3, _ => exact ⟨[], sQe _ _ hqd, .nil⟩
        | 4, _ => exact ⟨[], hqe, .nil⟩
      have htq : ∀ j, j < 5 → own8 ((qF qa qb qc qd qe) j) = 10 * i + 3 + j := fun j hj => by
        match j, hj with
        | 0, _ => exact (og6 _ _ hqa).trans tqa
        | 1, _ => exact (og7 _ _ hqb).trans tqb
        | 2, _ => exact (og8 _ _ hqc).trans tqc
        | 3, _ => exact (og9 _ _ hqd).trans tqd
        | 4, _ => exact tqe
      obtain ⟨AX, st⟩ := PlaceAt.store (K := K) (own := own8) (m := i) (r := ⟨d, ⟨x, ol, nn, hh⟩, ⟨x', ol', nn', hh'⟩, qF qa qb qc qd qe⟩) (r' := ⟨d, ⟨x, ol, nn, hh⟩, ⟨x', ol', nn', hh'⟩, qF qa qb qc qd qe⟩) (y' := ⟨⟨psNew, psNew, [], []⟩, ⟨[], [], []⟩⟩) hd9 ((ogD _ _ hd1).trans td1) rfl (PD.same s4e DA) (PD.same sae DB) hq (PD.own DA ta2 og4) (PD.own DB tb3 og5) htq
      have st37 : Step K H3 own i H10 own8 := ⟨TK.same s3e, fun c u h _ => s3e _ _ h, og3, fun _ h => s3e.free h⟩
      have stX := st37.trans st
      obtain ⟨hplX, WX⟩ := W.grow (by omega) stX AX
      refine ⟨hd9, [(Sum.inr "present", .ref x), (Sum.inr "kept", .ref x'), (Sum.inr "new", .ref qa), (Sum.inr "known", .ref qb), (Sum.inr "sent", .ref qc), (Sum.inr "given", .ref qd), (Sum.inr "old", .ref qe)], rfl, by show 7 ≤ 15; decide, ?_⟩
      rw [mergeD (d := d) (a := ⟨x, ol, nn, hh⟩) (b := ⟨x', ol', nn', hh'⟩)]
      have hpnX := stX.fr _ _ hpn (by omega)
      refine ⟨pl, _, _, rfl, rfl, hplX, Cm.smallL (by rw [List.length_map, List.length_range]; omega), ?_⟩
      exact ⟨_, own8, upR rs i ⟨d, ⟨x, ol, nn, hh⟩, ⟨x', ol', nn', hh'⟩, qF qa qb qc qd qe⟩, rfl, WX, by rw [upd_ne pnl]; exact hpnX, by rw [stX.ow _ _ hpn]; exact on⟩
    · subst e
      refine ⟨Nat.zero_le _, fun al nal => ?_⟩
      have s4 := Cm.same_new (o := .lst []) nal
      obtain ⟨own1, tal, o1⟩ := tag_one (own := own) (t := 1000) nal
      have W1 := W.made s4 o1
      have hpn4 := s4 _ _ hpn
      have on4 : 1000 ≤ own1 pn := by rw [o1 _ _ hpn]; exact on
      have hal4 : (L2.upd H3 al (.lst [])) al = some (.lst []) := upd_same
      have nap : al ≠ pl := (ne_of_none W.l nal).symm
      have nan : pn ≠ al := ne_of_none hpn nal
      have R1 : AirAt K (L2.upd H3 al (.lst [])) own1 cnt 0 pl al allNew [] := ⟨⟨[], hal4, .nil⟩, by rw [tal]; exact Nat.le_refl _, nap, (fun a ha => nomatch ha), Nat.le_refl _⟩
      clear hpl2 hp2
      generalize L2.upd H3 al (.lst []) = H4 at *
      clear s4 o1 tal W hpn on nal hal4
      simp only [gName, List.set_cons_succ, List.set_cons_zero]
      refine ⟨_, rfl, pn, _, _, _, rfl, rfl, SqL.of hpn4, e1, _, _, rfl, rfl, (by show (0 : Int) < 51; decide), _, rfl, by omega, by omega, ?_⟩
      refine for_range (n := (n1 % 51).toNat) (fun i σ H5 => ∃ (x5 : Option V) (own : Addr → Nat) (rs : Nat → PR) (ω : Nat → Pq) (A : List LetA), σ = [some (.ref l), some (.ref pn), some (.ref pl), x3, some (.ref al), x5] ∧ WAt K H5 own cnt pl rs ω ∧ Inw cnt i ω ∧ Szs cnt i (60 * i) ω ∧ AirAt K H5 own cnt (100 * i) pl al ω A ∧ H5 pn = some (.lst (nums.map V.int)) ∧ 1000 ≤ own pn)
        ⟨none, own1, rs, allNew, [], rfl, W1, allNew_inw cnt, fun _ _ => ⟨Nat.le_refl _, Nat.le_refl _, Nat.le_refl _⟩, R1, hpn4, on4⟩ (fun i σ H5 hi ⟨x5, own, rs, ω, A, e, W, I, Z, R, hpn, on⟩ => ?_) fun σ H5 ⟨x5, own, rs, ω, A, e, W, I, Z, R, hpn, on⟩ => ?_
      · subst e
        obtain ⟨m0, hm0, em0⟩ := Cm.at_int (ns := nums) (i := 4 + 2 * (0 + (i : Int))) (by omega) (by omega)
        obtain ⟨m1, hm1, em1⟩ := Cm.at_int (ns := nums) (i := 5 + 2 * (0 + (i : Int))) (by omega) (by omega)
        obtain ⟨u0, _⟩ := hok m0 hm0
        obtain ⟨u1, _⟩ := hok m1 hm1
        refine ⟨_, rfl, _, rfl, _, rfl, _, rfl, _, _, rfl, rfl, .inl ⟨by decide, by decide⟩, _, _, rfl, rfl, .inl ⟨_, rfl, pn, _, _, _, rfl, rfl, SqL.of hpn, em0, ?_⟩⟩
        refine ⟨_, rfl, _, rfl, _, _, rfl, rfl, .inl ⟨by decide, by decide⟩, _, _, rfl, rfl, .inl ⟨_, rfl, pn, _, _, _, rfl, rfl, SqL.of hpn, em1, ?_⟩⟩
        refine ⟨own, cnt, i, 100 * i, 60 * i, pl, al, rs, ω, A, m0, m1, rfl, W, hc2, I, Z, by omega, by omega, R, by omega, u0, u1, fun H' own' rs' ω' A' O W' I' Z' R' => ?_⟩
        obtain ⟨hpn', on'⟩ := O.fr _ _ hpn on nan
        refine ⟨_, rfl, own', cnt, i + 1, pl, rs', ω', rfl, W', I', by omega, fun H2 s2 => ⟨true, rfl, iteF ?_⟩⟩
        have oo : Out K H' own' H2 own' := Out.same s2
        refine ⟨_, own', rs', ω', A', rfl, W'.same s2, I', by rw [show 60 * (i + 1) = 60 * i + 60 by omega]; exact Z', ?_, s2 _ _ hpn', on'⟩
        rw [show 100 * (i + 1) = 100 * i + 100 by omega]
        exact R'.out oo (Nat.le_refl _) R'.k
      · subst e
        exact q _
def fn : List He.DefD := [⟨("Post", some "__init__"), "__init__", "Post.__init__", defArgs s_Post_init, defBody s_Post_init, defScope s_Post_init, [], []⟩,
  ⟨("Post", some "give"), "give", "Post.give", defArgs s_Post_give, defBody s_Post_give, defScope s_Post_give, [], []⟩,
  ⟨("Post", some "take"), "take", "Post.take", defArgs s_Post_take, defBody s_Post_take, defScope s_Post_take, [], []⟩,
  ⟨("Post", some "_let_go"), "_let_go", "Post._let_go", defArgs s_Post_p_let_go, defBody s_Post_p_let_go, defScope s_Post_p_let_go, [], []⟩,
  ⟨("Post", some "is_taken"), "is_taken", "Post.is_taken", defArgs s_Post_is_taken, defBody s_Post_is_taken, defScope s_Post_is_taken, [], []⟩,
  ⟨("Post", some "taken"), "taken", "Post.taken", defArgs s_Post_taken, defBody s_Post_taken, defScope s_Post_taken, [], []⟩,
  ⟨("Post", some "next_number"), "next_number", "Post.next_number", defArgs s_Post_next_number, defBody s_Post_next_number, defScope s_Post_next_number, [], []⟩,
  ⟨("Post", some "outbox"), "outbox", "Post.outbox", defArgs s_Post_outbox, defBody s_Post_outbox, defScope s_Post_outbox, [], []⟩,
  ⟨("Post", some "answers"), "answers", "Post.answers", defArgs s_Post_answers, defBody s_Post_answers, defScope s_Post_answers, [], []⟩,
  ⟨("Post", some "copy"), "copy", "Post.copy", defArgs s_Post_copy, defBody s_Post_copy, defScope s_Post_copy, [], []⟩,
  ⟨("_tells", none), "_tells", "_tells", defArgs s_tells, defBody s_tells, defScope s_tells, [], []⟩,
  ⟨("_with_number", none), "_with_number", "_with_number", defArgs s_with_number, defBody s_with_number, defScope s_with_number, [], []⟩,
  ⟨("_law_numbers", none), "_law_numbers", "_law_numbers", defArgs s_lw_numbers, defBody s_lw_numbers, defScope s_lw_numbers, [], []⟩,
  ⟨("_law_event", none), "_law_event", "_law_event", defArgs s_lw_event, defBody s_lw_event, defScope s_lw_event, [], []⟩,
  ⟨("_law_sound", none), "_law_sound", "_law_sound", defArgs s_lw_sound, defBody s_lw_sound, defScope s_lw_sound, [], []⟩,
  ⟨("law", none), "law", "law", defArgs s_law, defBody s_law, defScope s_law, [], []⟩]
def fas : List He.Fa := [.mkr "Post", .meth "Post" "give", .meth "Post" "take", .meth "Post" "_let_go", .meth "Post" "is_taken", .meth "Post" "taken", .meth "Post" "next_number", .meth "Post" "outbox", .meth "Post" "answers", .meth "Post" "copy", .glo "_tells", .glo "_with_number", .glo "_law_numbers", .glo "_law_event", .glo "_law_sound", .glo "law", .glo "PortError", .glo "NotAllowed", .glo "Post", .cls "Post", .noat "Post" "_me", .noat "Post" "_letters", .noat "Post" "_numbers", .noat "Post" "_heard", .free "tuple", .free "sorted", .free "list", .free "dict", .free "len", .free "range", .free "abs", .free "max", .free "int", .free "min", .free "set"]
def tabs : List He.Tab := []
def okX (K : PySem.W.Frag) : Bool := PySem.W.excIn K (He.ga K "NotAllowed") [.type "ValueError", .type "Exception", .type "BaseException", .type "object"] "ValueError.__new__" && (PySem.W.keepIn K (.ref (He.ga K "NotAllowed")) && ((PySem.W.subIn K (.ref (He.ga K "NotAllowed")) (.type "BaseException") == some true) && ((PySem.W.typeIn K (.ref (He.ga K "NotAllowed")) == some (.type "type")))))
abbrev R : PySem.W.OpenRow := PySem.W.OpenLaw.row PySem.Challenge.rw_portage_k42_whole_each_body_once
abbrev hk : PySem.W.Hook := Cm.hookX 5 fas fn tabs okX
def ob (s : PySem.W.SharedT) : Cm.AlX := Cm.obsXG 5 fas fn tabs okX (HandSHeadRun.getT s)
theorem ob_eq (s : PySem.W.SharedT) : ob s = hk.obs s.abs := Cm.obsXG_eq (HandSHeadRun.getT_eq s)
abbrev loose : List Str := (["_wall", "PortError", "NotAllowed", "Post", "_tells", "_with_number", "_law_numbers", "_law_event", "_law_sound"] : List Str)
theorem run (w : World) : HandSHeadRun.RunEq R (PySem.W.view R.prog [12]) hk ob 4000 loose w := by
  intro os
  kernel_rfl
theorem facts {P : Program} {w : World} {K : PySem.W.Frag} {h : Heap} {mg : Str → Option Value} {f : Addr} (X : K.In h) (G : h.Ns mainGlobals mg) (hfa : mg ("law" : Str) = some (.ref f)) (ok : okX K = true) (c : He.SaysT fas fn tabs w K) :
    ∃ fd : FuncData, (∀ (s : Shared) (v : Value), BindsTo s fd ⟨[v], []⟩ [("script", v)]) ∧ ∀ base : Heap, K.In base → base.Ns mainGlobals mg → FnOk P w K mg base CX0 7 f fd ["script"] (spLaw K) := by
  obtain ⟨d_Post_init, F_Post_init⟩ := c.d.def_ 0 rfl
  obtain ⟨d_Post_give, F_Post_give⟩ := c.d.def_ 1 rfl
  obtain ⟨d_Post_take, F_Post_take⟩ := c.d.def_ 2 rfl
  obtain ⟨d_Post_p_let_go, F_Post_p_let_go⟩ := c.d.def_ 3 rfl
  obtain ⟨d_Post_is_taken, F_Post_is_taken⟩ := c.d.def_ 4 rfl
  obtain ⟨d_Post_taken, F_Post_taken⟩ := c.d.def_ 5 rfl
  obtain ⟨d_Post_next_number, F_Post_next_number⟩ := c.d.def_ 6 rfl
  obtain ⟨d_Post_outbox, F_Post_outbox⟩ := c.d.def_ 7 rfl
  obtain ⟨d_Post_answers, F_Post_answers⟩ := c.d.def_ 8 rfl
  obtain ⟨d_Post_copy, F_Post_copy⟩ := c.d.def_ 9 rfl
  obtain ⟨d_tells, F_tells⟩ := c.d.def_ 10 rfl
  obtain ⟨d_with_number, F_with_number⟩ := c.d.def_ 11 rfl
  obtain ⟨d_lw_numbers, F_lw_numbers⟩ := c.d.def_ 12 rfl
  obtain ⟨d_lw_event, F_lw_event⟩ := c.d.def_ 13 rfl
  obtain ⟨d_lw_sound, F_lw_sound⟩ := c.d.def_ 14 rfl
  obtain ⟨d_law, F_law⟩ := c.d.def_ 15 rfl
  have e := hfa.symm.trans (He.glo_ok X G (c.d.fact 15 (f := .glo "law") rfl))
  cases e
  unfold okX at ok
  simp only [Bool.and_eq_true] at ok
  obtain ⟨o0, o1, o2, o3⟩ := ok
  have T : Txt K mg w ⟨d_Post_init, d_Post_give, d_Post_take, d_Post_p_let_go, d_Post_is_taken, d_Post_taken, d_Post_next_number, d_Post_outbox, d_Post_answers, d_Post_copy, d_tells, d_with_number, d_lw_numbers, d_lw_event, d_lw_sound, d_law⟩ := {
    F_Post_init := F_Post_init
    b_Post_init := F_Post_init.bindsN (ps := ["self", "me"]) fun _ _ _ _ _ _ us hl => match us, hl with | [_, _], _ => rfl
    k_Post := He.mkr_ok (c.d.fact 0 (f := .mkr "Post") rfl)
    F_Post_give := F_Post_give
    b_Post_give := F_Post_give.bindsN (ps := ["self", "other", "body"]) fun _ _ _ _ _ _ us hl => match us, hl with | [_, _, _], _ => rfl
    m_Post_give := He.meth_ok (c.d.fact 1 (f := .meth "Post" "give") rfl)
    F_Post_take := F_Post_take
    b_Post_take := F_Post_take.bindsN (ps := ["self", "letter"]) fun _ _ _ _ _ _ us hl => match us, hl with | [_, _], _ => rfl
    m_Post_take := He.meth_ok (c.d.fact 2 (f := .meth "Post" "take") rfl)
    F_Post_p_let_go := F_Post_p_let_go
    b_Post_p_let_go := F_Post_p_let_go.bindsN (ps := ["self", "other", "told"]) fun _ _ _ _ _ _ us hl => match us, hl with | [_, _, _], _ => rfl
    m_Post_p_let_go := He.meth_ok (c.d.fact 3 (f := .meth "Post" "_let_go") rfl)
    F_Post_is_taken := F_Post_is_taken
    b_Post_is_taken := F_Post_is_taken.bindsN (ps := ["self", "other", "number"]) fun _ _ _ _ _ _ us hl => match us, hl with | [_, _, _], _ => rfl
    m_Post_is_taken := He.meth_ok (c.d.fact 4 (f := .meth "Post" "is_taken") rfl)
    F_Post_taken := F_Post_taken
    b_Post_taken := F_Post_taken.bindsN (ps := ["self", "other"]) fun _ _ _ _ _ _ us hl => match us, hl with | [_, _], _ => rfl
    m_Post_taken := He.meth_ok (c.d.fact 5 (f := .meth "Post" "taken") rfl)
    F_Post_next_number := F_Post_next_number
    b_Post_next_number := F_Post_next_number.bindsN (ps := ["self", "other"]) fun _ _ _ _ _ _ us hl => match us, hl with | [_, _], _ => rfl
    m_Post_next_number := He.meth_ok (c.d.fact 6 (f := .meth "Post" "next_number") rfl)
    F_Post_outbox := F_Post_outbox
    b_Post_outbox := F_Post_outbox.bindsN (ps := ["self"]) fun _ _ _ _ _ _ us hl => match us, hl with | [_], _ => rfl
    m_Post_outbox := He.meth_ok (c.d.fact 7 (f := .meth "Post" "outbox") rfl)
    F_Post_answers := F_Post_answers
    b_Post_answers := F_Post_answers.bindsN (ps := ["self"]) fun _ _ _ _ _ _ us hl => match us, hl with | [_], _ => rfl
    m_Post_answers := He.meth_ok (c.d.fact 8 (f := .meth "Post" "answers") rfl)
    F_Post_copy := F_Post_copy
    b_Post_copy := F_Post_copy.bindsN (ps := ["self"]) fun _ _ _ _ _ _ us hl => match us, hl with | [_], _ => rfl
    m_Post_copy := He.meth_ok (c.d.fact 9 (f := .meth "Post" "copy") rfl)
    F_tells := F_tells
    b_tells := F_tells.bindsN (ps := ["told", "number"]) fun _ _ _ _ _ _ us hl => match us, hl with | [_, _], _ => rfl
    g_tells := He.glo_ok X G (c.d.fact 10 (f := .glo "_tells") rfl)
    F_with_number := F_with_number
    b_with_number := F_with_number.bindsN (ps := ["told", "number"]) fun _ _ _ _ _ _ us hl => match us, hl with | [_, _], _ => rfl
    g_with_number := He.glo_ok X G (c.d.fact 11 (f := .glo "_with_number") rfl)
    F_lw_numbers := F_lw_numbers
    b_lw_numbers := F_lw_numbers.bindsN (ps := ["script", "many"]) fun _ _ _ _ _ _ us hl => match us, hl with | [_, _], _ => rfl
    g_lw_numbers := He.glo_ok X G (c.d.fact 12 (f := .glo "_law_numbers") rfl)
    F_lw_event := F_lw_event
    b_lw_event := F_lw_event.bindsN (ps := ["places", "air", "number", "other"]) fun _ _ _ _ _ _ us hl => match us, hl with | [_, _, _, _], _ => rfl
    g_lw_event := He.glo_ok X G (c.d.fact 13 (f := .glo "_law_event") rfl)
    F_lw_sound := F_lw_sound
    b_lw_sound := F_lw_sound.bindsN (ps := ["places"]) fun _ _ _ _ _ _ us hl => match us, hl with | [_], _ => rfl
    g_lw_sound := He.glo_ok X G (c.d.fact 14 (f := .glo "_law_sound") rfl)
    F_law := F_law
    b_law := F_law.bindsN (ps := ["script"]) fun _ _ _ _ _ _ us hl => match us, hl with | [_], _ => rfl
    g_law := He.glo_ok X G (c.d.fact 15 (f := .glo "law") rfl)
    g_PortError := He.glo_ok X G (c.d.fact 16 (f := .glo "PortError") rfl)
    g_NotAllowed := He.glo_ok X G (c.d.fact 17 (f := .glo "NotAllowed") rfl)
    g_Post := He.glo_ok X G (c.d.fact 18 (f := .glo "Post") rfl)
    c_Post := He.cls_ok (c.d.fact 19 (f := .cls "Post") rfl)
    n_Post__me := He.noat_ok (c.d.fact 20 (f := .noat "Post" "_me") rfl)
    n_Post__letters := He.noat_ok (c.d.fact 21 (f := .noat "Post" "_letters") rfl)
    n_Post__numbers := He.noat_ok (c.d.fact 22 (f := .noat "Post" "_numbers") rfl)
    n_Post__heard := He.noat_ok (c.d.fact 23 (f := .noat "Post" "_heard") rfl)
    g_tuple := He.free_ok X G (c.d.fact 24 (f := .free "tuple") rfl)
    g_sorted := He.free_ok X G (c.d.fact 25 (f := .free "sorted") rfl)
    g_list := He.free_ok X G (c.d.fact 26 (f := .free "list") rfl)
    g_dict := He.free_ok X G (c.d.fact 27 (f := .free "dict") rfl)
    g_len := He.free_ok X G (c.d.fact 28 (f := .free "len") rfl)
    g_range := He.free_ok X G (c.d.fact 29 (f := .free "range") rfl)
    g_abs := He.free_ok X G (c.d.fact 30 (f := .free "abs") rfl)
    g_max := He.free_ok X G (c.d.fact 31 (f := .free "max") rfl)
    g_int := He.free_ok X G (c.d.fact 32 (f := .free "int") rfl)
    g_min := He.free_ok X G (c.d.fact 33 (f := .free "min") rfl)
    g_set := He.free_ok X G (c.d.fact 34 (f := .free "set") rfl)
    x_NotAllowed := o0
    k_NotAllowed := o1
    s_NotAllowed := eq_of_beq o2
    t_NotAllowed := eq_of_beq o3
  }
  have b := Cm.bindsA_of (x := "law") (st := s_law) (ps := ["script"]) F_law fun _ _ _ _ _ _ us hl => match us, hl with | [_], _ => rfl
  exact ⟨d_law, fun s v => b s [v] rfl, fun base _ _ => ok_law T⟩
end K43
open PySem PySem.W PySem.Calls PyProof.Rows
set_option maxHeartbeats 0 in
theorem PySem.Challenge.cw_portage_k42_whole_each_body_once_holds : PySem.Challenge.rw_portage_k42_whole_each_body_once.Holds := by
  w_on; o_law
  refine HandSHeadRun.head_any (r := OpenLaw.row PySem.Challenge.rw_portage_k42_whole_each_body_once) (q := view (OpenLaw.row PySem.Challenge.rw_portage_k42_whole_each_body_once).prog [12]) (H := K43.hk) (ob := K43.ob) (M := 4000) (loose := K43.loose) (d := HandSHeadRun.topDef (OpenLaw.row PySem.Challenge.rw_portage_k42_whole_each_body_once).prog 12) (kwd := []) K43.ob_eq
    (by kernel_rfl) (fun s => by kernel_rfl) K43.run (by kernel_rfl) (by kernel_rfl) (by kernel_rfl) (by rfl) (by first | assumption | decide +kernel) (by decide +kernel) ⟨rfl, rfl, rfl, rfl, rfl, by decide +kernel⟩ ?hw ?hc
  case hw => w_witness2
  case hc =>
    refine L2.walk_ofE (l := PySem.Challenge.rw_portage_k42_whole_each_body_once) (n := 63) (k := 7) (x := "script") (CX := L2.CX0) rfl (by decide) (by kernel_rfl) ⟨rfl, by decide, by decide⟩ ?F (fun _ _ _ _ z => z)
    intro w mg fa h Y G hmg0
    obtain ⟨K, KX, ok, c⟩ := Y
    have hmg : mg ("law" : PySem.Str) = some (.ref fa) := by
      have e : (HandSHeadRun.topDef (OpenLaw.row PySem.Challenge.rw_portage_k42_whole_each_body_once).prog 12).name = ("law" : PySem.Str) := by kernel_rfl
      rw [← e]
      exact hmg0
    obtain ⟨fd, hb, hF⟩ := K43.facts (P := (PySem.Challenge.rw_portage_k42_whole_each_body_once).prog) (w := w) KX G hmg ok c
    exact ⟨K, fd, K43.spLaw K, KX, hb, fun H a ns hl _ hS => ⟨a, ns, rfl, hS, hl, fun _ => rfl⟩, hF⟩

