import PyProof.Rows.All
import Wide.All
import OpenK.AllK
import Wide.FinOn
import KE.KStateDown
import Lean
import HandS.ForMost
import HandS.Defaults
import HandS.More
import HandS.Flow
import HandS.Style
import HandS.StrMore
import HandS.IsInst
import HandS.TupAny
import HandS.TupMul
import HandS.Head0
import HandS.Head1
import HandS.Head2
import HandS.HeadEnd
import HandS.HeadHook1
import HandS.HeadHook2
import HandS.HeadHook3
import KE.KeyNested
import PyProof.DictMoreH
import KE.KTupSum
import HandS.ExcOwn
import HandS.WordsExc
import KE.SortCalls
import KE.SortKeyed
import KE.KDictCopyH
import KE.KDictSum
import HandS.Zip
import HandS.Deep
import HandS.Comp
import KE.DataCmp
import KE.SortData
import HandS.Codes
import PySem.Challenge.RW_portage_k36_bundles_checked
set_option Elab.async false
set_option linter.all false
set_option maxRecDepth 100000
set_option maxHeartbeats 4000000
/-! What my proofs have in common: a Hook with one more test, and small words. -/
namespace Cm
open PySem PySem.Spec PyProof.Rows L2 He

abbrev FnP (K : PySem.W.Frag) (x : Str) (st : Stmt) (f : Addr) (fd : FuncData) : Prop := FunD K x x (defArgs st) (defBody st) (defScope st) [] [] f fd
theorem bindsA_of {K : PySem.W.Frag} {x : Str} {st : Stmt} {f : Addr} {fd : FuncData} {ps : List Str} (F : FnP K x st f fd)
    (h : ∀ (kV doc pm : Value) (an : Option Addr) (cdv ct : Value) (us : List Value), us.length = ps.length → bindArgs (PySem.W.fnOf x x (defArgs st) (defBody st) (defScope st) .none kV doc pm an cdv ct) ⟨us, []⟩ = pure (ps.zip us)) (s : Shared) (us : List Value) (hl : us.length = ps.length) : BindsTo s fd ⟨us, []⟩ (ps.zip us) := FunD.bindsA F h s us hl

/-! ### heaps that grow -/
theorem same_new {H : Hp} {p : Addr} {o : HO} (h : H p = none) : Same H (upd H p o) := fun b x e => by
  rw [upd_ne (ne_of_none e h)]
  exact e
theorem same_mut {H H' : Hp} {p : Addr} {o : HO} (s : Same H H') (h : H p = none) : Same H (upd H' p o) := fun b x e => by
  rw [upd_ne (ne_of_none e h)]
  exact s b x e
theorem sameT {K : PySem.W.Frag} {H H' : Hp} {a : Addr} {xs : List V} (s : Same H H') (h : SqT K H a xs) : SqT K H' a xs := by
  rcases h with (h | ⟨o, h⟩) | h
  · exact .inl (.inl (s _ _ h))
  · exact .inl (.inr ⟨o, s _ _ h⟩)
  · exact .inr h
theorem sqt_new {K : PySem.W.Frag} {H : Hp} {p : Addr} {xs : List V} : SqT K (upd H p (.tup xs)) p xs := .inl (.inl upd_same)
theorem sql_new {K : PySem.W.Frag} {H : Hp} {p : Addr} {xs : List V} : SqL K (upd H p (.lst xs)) p xs := .inl (.inl upd_same)
theorem small {n : Nat} (h : n ≤ 100000) : n ≤ sizeLine := by
  rw [sizeLine_eq]
  omega
theorem smallL {n : Nat} (h : n ≤ 100000) : n < sizeLine := by
  rw [sizeLine_eq]
  omega
/-! ### tests -/
theorem itV {x : Bool} {A B : Prop} (h1 : x = true → A) (h2 : x = false → B) : if (if false = true then !x else x) = true then A else B := by
  cases x
  · exact h2 rfl
  · exact h1 rfl
theorem itVn {x : Bool} {A B : Prop} (h1 : x = false → A) (h2 : x = true → B) : if (if true = true then !x else x) = true then A else B := by
  cases x
  · exact h1 rfl
  · exact h2 rfl
theorem itB {x : Bool} {A B : Prop} (h1 : x = true → A) (h2 : x = false → B) : if x = true then A else B := by
  cases x
  · exact h2 rfl
  · exact h1 rfl
theorem itBn {x : Bool} {A B : Prop} (h1 : x = false → A) (h2 : x = true → B) : if (!x) = true then A else B := by
  cases x
  · exact h1 rfl
  · exact h2 rfl
theorem itD {c : Prop} [Decidable c] {A B : Prop} (h1 : c → A) (h2 : ¬ c → B) : if decide c = true then A else B := by
  by_cases h : c
  · rw [if_pos (decide_eq_true h)]
    exact h1 h
  · rw [if_neg (by rw [decide_eq_false h]; decide)]
    exact h2 h
theorem itDn {c : Prop} [Decidable c] {A B : Prop} (h1 : ¬ c → A) (h2 : c → B) : if (!decide c) = true then A else B := by
  by_cases h : c
  · rw [if_neg (by rw [decide_eq_true h]; decide)]
    exact h2 h
  · rw [if_pos (by rw [decide_eq_false h]; rfl)]
    exact h1 h
theorem deq_int {i j : Int} : decide (V.int i = V.int j) = decide (i = j) := by
  by_cases h : i = j
  · rw [h, decide_eq_true rfl, decide_eq_true rfl]
  · rw [decide_eq_false h, decide_eq_false fun e => h (V.int.inj e)]
theorem deq_str {x y : Str} : decide (V.str x = V.str y) = decide (x = y) := by
  by_cases h : x = y
  · rw [h, decide_eq_true rfl, decide_eq_true rfl]
  · rw [decide_eq_false h, decide_eq_false fun e => h (V.str.inj e)]
theorem deq_bl {x y : Bool} : decide (V.bl x = V.bl y) = decide (x = y) := by
  by_cases h : x = y
  · rw [h, decide_eq_true rfl, decide_eq_true rfl]
  · rw [decide_eq_false h, decide_eq_false fun e => h (V.bl.inj e)]
theorem itEI {x y : Int} {A B : Prop} (h1 : x = y → A) (h2 : ¬ x = y → B) : if decide (V.int x = V.int y) = true then A else B := by
  rw [deq_int]
  exact itD h1 h2
theorem itES {x y : Str} {A B : Prop} (h1 : x = y → A) (h2 : ¬ x = y → B) : if decide (V.str x = V.str y) = true then A else B := by
  rw [deq_str]
  exact itD h1 h2
theorem itNI {x y : Int} {A B : Prop} (h1 : ¬ x = y → A) (h2 : x = y → B) : if (!decide (V.int x = V.int y)) = true then A else B := by
  rw [deq_int]
  exact itDn h1 h2
theorem itNS {x y : Str} {A B : Prop} (h1 : ¬ x = y → A) (h2 : x = y → B) : if (!decide (V.str x = V.str y)) = true then A else B := by
  rw [deq_str]
  exact itDn h1 h2
theorem str_nil {z : Str} (h : z.cps.toList = []) : z = ⟨#[]⟩ := by
  obtain ⟨c⟩ := z
  have e : c = #[] := by simpa using h
  rw [e]
/-! ### items -/
theorem at_in {xs : List V} {i : Int} (h0 : 0 ≤ i) (h1 : i < (xs.length : Int)) : ∃ v, v ∈ xs ∧ atI xs i = some v := by
  obtain ⟨j, rfl⟩ := Int.eq_ofNat_of_zero_le h0
  have h2 : j < xs.length := by omega
  exact ⟨xs[j], List.getElem_mem h2, atI_nat (List.getElem?_eq_getElem h2)⟩
theorem at_str {ws : List Str} {i : Int} (h0 : 0 ≤ i) (h1 : i < (ws.length : Int)) : ∃ w, w ∈ ws ∧ atI (ws.map V.str) i = some (.str w) := by
  obtain ⟨v, hv, e⟩ := at_in (xs := ws.map V.str) h0 (by rw [List.length_map]; exact h1)
  obtain ⟨w, hw, rfl⟩ := List.mem_map.mp hv
  exact ⟨w, hw, e⟩
theorem at_int {ns : List Int} {i : Int} (h0 : 0 ≤ i) (h1 : i < (ns.length : Int)) : ∃ n, n ∈ ns ∧ atI (ns.map V.int) i = some (.int n) := by
  obtain ⟨v, hv, e⟩ := at_in (xs := ns.map V.int) h0 (by rw [List.length_map]; exact h1)
  obtain ⟨n, hn, rfl⟩ := List.mem_map.mp hv
  exact ⟨n, hn, e⟩
/-! ### a Hook with one more test -/
abbrev AlX : Type := Bool × AlT
def obsX (fa : List Fa) (fn : List DefD) (ts : List Tab) (ok : PySem.W.Frag → Bool) (K : PySem.W.Frag) : AlX := (ok K, obsT fa fn ts K)
def obsXG (n : Nat) (fa : List Fa) (fn : List DefD) (ts : List Tab) (ok : PySem.W.Frag → Bool) (g : Addr → Option Obj) : AlX := obsX fa fn ts ok (frG g (asD g n))
def hookX (n : Nat) (fa : List Fa) (fn : List DefD) (ts : List Tab) (ok : PySem.W.Frag → Bool) : PySem.W.Hook where
  α := AlX
  obs := fun s => obsXG n fa fn ts ok s.heap.get?
  val := fun w => (true, valT fn ts w)
  says := fun w h => ∃ K : PySem.W.Frag, K.In h ∧ ok K = true ∧ SaysT fa fn ts w K
  of := fun w s e => ⟨frG s.heap.get? (asD s.heap.get? n), frG_in, congrArg (fun z : AlX => z.1) e, congrArg (fun z : AlX => z.2) e⟩
  keeps := fun _ _ _ ⟨K, hK, o, c⟩ k => ⟨K, PySem.W.Frag.In.keeps hK k, o, c⟩
theorem obsXG_eq {n : Nat} {fa : List Fa} {fn : List DefD} {ts : List Tab} {ok : PySem.W.Frag → Bool} {g : Addr → Option Obj} {s : Shared} (h : ∀ a, g a = s.heap.get? a) : obsXG n fa fn ts ok g = (hookX n fa fn ts ok).obs s := by
  have e : g = s.heap.get? := funext h
  rw [e] <;> rfl
end Cm

set_option Elab.async false
set_option linter.all false
set_option maxRecDepth 100000
set_option maxHeartbeats 4000000
/-! Program trees: expressions, statements, what they are as data, their code. No word of any one statement here. -/
namespace Pt
open PySem PySem.Spec PyProof.Rows L2

/-! ### data that never changes: numbers, texts, truth values, tuples of such -/
mutual
inductive Rp (K : PySem.W.Frag) (H : Hp) : V → PyData → Prop
  | non : Rp K H .non .none
  | bl (b : Bool) : Rp K H (.bl b) (.bool b)
  | int (i : Int) : Rp K H (.int i) (.int i)
  | str (x : Str) : Rp K H (.str x) (.str x)
  | tup {a : Addr} {xs : List V} {ds : List PyData} : SqT K H a xs → Rps K H xs ds → Rp K H (.ref a) (.tuple ds)
inductive Rps (K : PySem.W.Frag) (H : Hp) : List V → List PyData → Prop
  | nil : Rps K H [] []
  | cons {v : V} {vs : List V} {d : PyData} {ds : List PyData} : Rp K H v d → Rps K H vs ds → Rps K H (v :: vs) (d :: ds)
end
/-- all that was tracked stays, but what stands at c -/
def Keep (c : Addr) (H H' : Hp) : Prop := ∀ b o, H b = some o → b ≠ c → H' b = some o
theorem Keep.refl (c : Addr) (H : Hp) : Keep c H H := fun _ _ h _ => h
theorem Keep.trans {c : Addr} {H H1 H2 : Hp} (a : Keep c H H1) (b : Keep c H1 H2) : Keep c H H2 := fun x o h n => b x o (a x o h n) n
theorem Keep.of {c : Addr} {H H' : Hp} (s : Same H H') : Keep c H H' := fun b o h _ => s b o h
/-- what was tracked and is no list stays -/
def Tups (H H' : Hp) : Prop := ∀ b o, H b = some o → (∀ xs, o ≠ .lst xs) → H' b = some o
theorem Same.tups {H H' : Hp} (s : Same H H') : Tups H H' := fun b o h _ => s b o h
theorem Keep.tups {c : Addr} {H H' : Hp} {xs : List V} (k : Keep c H H') (h : H c = some (.lst xs)) : Tups H H' := fun b o hb no => k b o hb fun e => by
  subst e
  rw [h] at hb
  exact no xs (Option.some.inj hb).symm
section
variable {K : PySem.W.Frag} {H H' : Hp}
theorem Tups.sqt (k : Tups H H') {a : Addr} {xs : List V} (h : SqT K H a xs) : SqT K H' a xs := by
  rcases h with (h | ⟨o, h⟩) | h
  · exact .inl (.inl (k _ _ h fun _ e => by cases e))
  · exact .inl (.inr ⟨o, k _ _ h fun _ e => by cases e⟩)
  · exact .inr h
mutual
theorem Rp.keep (k : Tups H H') : ∀ {v : V} {d : PyData}, Rp K H v d → Rp K H' v d
  | _, _, .non => .non
  | _, _, .bl b => .bl b
  | _, _, .int i => .int i
  | _, _, .str x => .str x
  | _, _, .tup h r => .tup (k.sqt h) (Rps.keep k r)
theorem Rps.keep (k : Tups H H') : ∀ {vs : List V} {ds : List PyData}, Rps K H vs ds → Rps K H' vs ds
  | _, _, .nil => .nil
  | _, _, .cons h r => .cons (Rp.keep k h) (Rps.keep k r)
end
mutual
theorem Rp.dp : ∀ {v : V} {d : PyData}, Rp K H v d → Dp K H v d
  | _, _, .non => .non
  | _, _, .bl b => .bl b
  | _, _, .int i => .int i
  | _, _, .str x => .str x
  | _, _, .tup h r => .tup h (Rps.dp r)
theorem Rps.dp : ∀ {vs : List V} {ds : List PyData}, Rps K H vs ds → DpAll K H vs ds
  | _, _, .nil => .nil
  | _, _, .cons h r => .cons (Rp.dp h) (Rps.dp r)
end
theorem Rps.len : ∀ {vs : List V} {ds : List PyData}, Rps K H vs ds → vs.length = ds.length
  | _, _, .nil => rfl
  | _, _, .cons _ r => congrArg (· + 1) (Rps.len r)
theorem Rps.app : ∀ {vs us : List V} {ds es : List PyData}, Rps K H vs ds → Rps K H us es → Rps K H (vs ++ us) (ds ++ es)
  | _, _, _, _, .nil, r => r
  | _, _, _, _, .cons h r, s => .cons h (Rps.app r s)
theorem Rps.at_ : ∀ {vs : List V} {ds : List PyData} {i : Nat} {d : PyData}, Rps K H vs ds → ds[i]? = some d → ∃ v, vs[i]? = some v ∧ Rp K H v d
  | _, _, 0, _, .cons h _, e => ⟨_, rfl, by cases e; exact h⟩
  | _, _, i + 1, _, .cons _ r, e => Rps.at_ (i := i) r e
theorem Rps.drop : ∀ {vs : List V} {ds : List PyData} (n : Nat), Rps K H vs ds → Rps K H (vs.drop n) (ds.drop n)
  | _, _, 0, r => r
  | _, _, _ + 1, .nil => .nil
  | _, _, n + 1, .cons _ r => Rps.drop n r
theorem Rps.take : ∀ {vs : List V} {ds : List PyData} (n : Nat), Rps K H vs ds → Rps K H (vs.take n) (ds.take n)
  | _, _, 0, _ => .nil
  | _, _, _ + 1, .nil => .nil
  | _, _, n + 1, .cons h r => .cons h (Rps.take n r)
theorem Rps.one {v : V} {d : PyData} (h : Rp K H v d) : Rps K H [v] [d] := .cons h .nil
theorem Rp.tup_inv {v : V} {ds : List PyData} (h : Rp K H v (.tuple ds)) : ∃ a vs, v = .ref a ∧ SqT K H a vs ∧ Rps K H vs ds := by
  cases h with
  | tup h r => exact ⟨_, _, rfl, h, r⟩
theorem Rp.str_inv {v : V} {x : Str} (h : Rp K H v (.str x)) : v = .str x := by
  cases h
  rfl
theorem Rp.int_inv {v : V} {i : Int} (h : Rp K H v (.int i)) : v = .int i := by
  cases h
  rfl
theorem Rp.bl_inv {v : V} {b : Bool} (h : Rp K H v (.bool b)) : v = .bl b := by
  cases h
  rfl
theorem Rps.cons_inv {vs : List V} {d : PyData} {ds : List PyData} (h : Rps K H vs (d :: ds)) : ∃ v r, vs = v :: r ∧ Rp K H v d ∧ Rps K H r ds := by
  cases h with
  | cons a b => exact ⟨_, _, rfl, a, b⟩
theorem Rps.nil_inv {vs : List V} (h : Rps K H vs []) : vs = [] := by
  cases h
  rfl
theorem Rp.new {p : Addr} {vs : List V} {ds : List PyData} (h : H' p = some (.tup vs)) (r : Rps K H' vs ds) : Rp K H' (.ref p) (.tuple ds) := .tup (.inl (.inl h)) r
/-- a new tuple of what stood before -/
theorem Rp.made {p : Addr} {vs : List V} {ds : List PyData} (hp : H p = none) (r : Rps K H vs ds) : Rp K (upd H p (.tup vs)) (.ref p) (.tuple ds) := .tup (.inl (.inl upd_same)) (r.keep (Same.tups (Cm.same_new hp)))
/-- a list stays where its content is another than c's -/
theorem Keep.seq {c a : Addr} {xs ys : List V} (k : Keep c H H') (hc : H c = some (.lst ys)) (ne : xs ≠ ys) (h : SqL K H a xs) : SqL K H' a xs := by
  rcases h with (h | ⟨o, h⟩) | h
  · refine .inl (.inl (k _ _ h fun e => ?_))
    rw [e, hc] at h
    cases h
    exact ne rfl
  · refine .inl (.inr ⟨o, k _ _ h fun e => ?_⟩)
    rw [e, hc] at h
    cases h
  · exact .inr h
end

/-- tuple + tuple -/
theorem cat_rp {K : PySem.W.Frag} {H : Hp} {x y : V} {ds es : List PyData} {Q : VK} (hx : Rp K H x (.tuple ds)) (hy : Rp K H y (.tuple es)) (hl : ds.length + es.length ≤ 10000000) (h : ∀ (v : V) (H' : Hp), Same H H' → Rp K H' v (.tuple (ds ++ es)) → Q v H') : rCatA K x y H Q := by
  obtain ⟨a, xs, rfl, ha, hxs⟩ := hx.tup_inv
  obtain ⟨b, ys, rfl, hb, hys⟩ := hy.tup_inv
  refine ⟨a, b, xs, ys, rfl, rfl, ha, hb, ?_, fun e => ?_, fun _ e => ?_, fun _ _ p np => ?_⟩
  · rw [hxs.len, hys.len, sizeLine_eq]
    omega
  · subst e
    cases hxs
    exact h _ _ (Same.refl H) hy
  · subst e
    cases hys
    rw [List.append_nil] at h
    exact h _ _ (Same.refl H) hx
  · exact h _ _ (Cm.same_new np) (Rp.made np (hxs.app hys))
/-- a tuple from a place on -/
theorem from_rp {K : PySem.W.Frag} {H : Hp} {x : V} {ds : List PyData} {k : Nat} {Q : VK} (hx : Rp K H x (.tuple ds)) (hk : k ≤ ds.length) (h : ∀ (v : V) (H' : Hp), Same H H' → Rp K H' v (.tuple (ds.drop k)) → Q v H') : rSlA K x (some (k : Int)) none H Q := by
  obtain ⟨a, xs, rfl, ha, hxs⟩ := hx.tup_inv
  have hl := hxs.len
  have e0 : HT.sIx xs.length 0 (some (k : Int)) = k := by
    rw [show HT.sIx xs.length 0 (some (k : Int)) = min k xs.length from HT.sIx_nat _ 0 k]
    omega
  refine ⟨a, xs, rfl, ha, fun e => ?_, fun _ p np => ?_⟩
  · have z := e.1
    rw [e0] at z
    subst z
    exact h _ _ (Same.refl H) hx
  · have ec : cutV xs (some (k : Int)) none = xs.drop k := by
      unfold cutV
      rw [e0, HT.sIx_none]
      exact List.take_of_length_le (by rw [List.length_drop]; exact Nat.le_refl _)
    rw [ec]
    exact h _ _ (Cm.same_new np) (Rp.made np (hxs.drop k))
/-! ### equality of data is reflexive; its form -/
/-- numbers, texts, truth values, None -/
def leafD : PyData → Bool
  | .none => true
  | .bool _ => true
  | .int _ => true
  | .str _ => true
  | _ => false

/-! ### expressions and statements -/
mutual
inductive E where
  | int (n : Int)
  | name (x : Str)
  | choice (o : Bool) (l r : E)
  | call (r : E) (f : Str) (as : Es)
  | new (m : Str) (as : Es)
  | plain (w : Str) (as : Es)
inductive Es where
  | nil
  | cons (e : E) (es : Es)
end
mutual
inductive S where
  | letS (x k : Str) (e : E)
  | setS (x : Str) (e : E)
  | ifS (e : E) (b c : Ss)
  | whileS (e : E) (b : Ss)
  | doS (e : E)
  | fork (r : E) (f : Str) (as : Es)
  | plain (w : Str) (as : Es)
inductive Ss where
  | nil
  | cons (s : S) (ss : Ss)
end
def cw (o : Bool) : Str := if o then "or" else "and"
mutual
def E.d : E → PyData
  | .int n => .tuple [.str "int", .int n]
  | .name x => .tuple [.str "name", .str x]
  | .choice o l r => .tuple [.str (cw o), l.d, r.d]
  | .call r f as => .tuple [.str "call", r.d, .str f, .tuple as.ds]
  | .new m as => .tuple [.str "new", .str m, .tuple as.ds]
  | .plain w as => .tuple (.str w :: as.ds)
def Es.ds : Es → List PyData
  | .nil => []
  | .cons e es => e.d :: es.ds
end
mutual
def S.d : S → PyData
  | .letS x k e => .tuple [.str "let", .str x, .str k, e.d]
  | .setS x e => .tuple [.str "set", .str x, e.d]
  | .ifS e b c => .tuple [.str "if", e.d, .tuple b.ds, .tuple c.ds]
  | .whileS e b => .tuple [.str "while", e.d, .tuple b.ds]
  | .doS e => .tuple [.str "do", e.d]
  | .fork r f as => .tuple [.str "fork", r.d, .str f, .tuple as.ds]
  | .plain w as => .tuple (.str w :: as.ds)
def Ss.ds : Ss → List PyData
  | .nil => []
  | .cons s ss => s.d :: ss.ds
end
def Es.list : Es → List E
  | .nil => []
  | .cons e es => e :: es.list
def Ss.list : Ss → List S
  | .nil => []
  | .cons s ss => s :: ss.list
def Ss.of : List S → Ss
  | [] => .nil
  | s :: ss => .cons s (Ss.of ss)
def Ss.app : Ss → Ss → Ss
  | .nil, c => c
  | .cons s b, c => .cons s (b.app c)
def Es.len : Es → Nat
  | .nil => 0
  | .cons _ es => es.len + 1
theorem Es.ds_len : ∀ es : Es, es.ds.length = es.len
  | .nil => rfl
  | .cons _ es => congrArg (· + 1) (Es.ds_len es)
theorem Es.list_ds : ∀ es : Es, es.ds = es.list.map E.d
  | .nil => rfl
  | .cons _ es => congrArg (_ :: ·) (Es.list_ds es)
theorem Ss.list_ds : ∀ es : Ss, es.ds = es.list.map S.d
  | .nil => rfl
  | .cons _ es => congrArg (_ :: ·) (Ss.list_ds es)
theorem Ss.app_ds : ∀ b c : Ss, (b.app c).ds = b.ds ++ c.ds
  | .nil, _ => rfl
  | .cons _ b, c => congrArg (_ :: ·) (Ss.app_ds b c)
theorem Ss.app_list : ∀ b c : Ss, (b.app c).list = b.list ++ c.list
  | .nil, _ => rfl
  | .cons _ b, c => congrArg (_ :: ·) (Ss.app_list b c)
theorem Ss.of_list : ∀ l : List S, (Ss.of l).list = l
  | [] => rfl
  | _ :: l => congrArg (_ :: ·) (Ss.of_list l)
/-! ### the names that are used; the names of lets -/
mutual
def E.uses : E → List Str
  | .int _ => []
  | .name x => [x]
  | .choice _ l r => l.uses ++ r.uses
  | .call r _ as => r.uses ++ as.uses
  | .new _ as => as.uses
  | .plain _ as => as.uses
def Es.uses : Es → List Str
  | .nil => []
  | .cons e es => e.uses ++ es.uses
end
mutual
def S.uses : S → List Str
  | .letS x _ e => x :: e.uses
  | .setS x e => x :: e.uses
  | .ifS e b c => e.uses ++ (b.uses ++ c.uses)
  | .whileS e b => e.uses ++ b.uses
  | .doS e => e.uses
  | .fork r _ as => r.uses ++ as.uses
  | .plain _ as => as.uses
def Ss.uses : Ss → List Str
  | .nil => []
  | .cons s ss => s.uses ++ ss.uses
end
mutual
def S.lets : S → List Str
  | .letS x _ _ => [x]
  | .ifS _ b c => b.lets ++ c.lets
  | .whileS _ b => b.lets
  | _ => []
def Ss.lets : Ss → List Str
  | .nil => []
  | .cons s ss => s.lets ++ ss.lets
end
theorem Ss.app_lets : ∀ b c : Ss, (b.app c).lets = b.lets ++ c.lets
  | .nil, _ => rfl
  | .cons s b, c => by
    show s.lets ++ (b.app c).lets = (s.lets ++ b.lets) ++ c.lets
    rw [Ss.app_lets b c, List.append_assoc]
theorem Ss.app_uses : ∀ b c : Ss, (b.app c).uses = b.uses ++ c.uses
  | .nil, _ => rfl
  | .cons s b, c => by
    show s.uses ++ (b.app c).uses = (s.uses ++ b.uses) ++ c.uses
    rw [Ss.app_uses b c, List.append_assoc]
/-! ### words in their places -/
abbrev plainE : List Str := ["nil", "self", "add", "sub", "mul", "less", "most", "same", "not"]
abbrev leafE : List Str := ["nil", "self"]
def Es.isNil : Es → Bool
  | .nil => true
  | .cons _ _ => false
abbrev plainB : List Str := ["return", "print", "move"]
/-- how many parts stand behind a word -/
def arE (w : Str) : Nat := if w ∈ leafE then 0 else if w = "not" then 1 else 2
def arB (w : Str) : Nat := if w = "move" then 2 else 1
mutual
def E.wf : E → Bool
  | .int _ => true
  | .name _ => true
  | .choice _ l r => l.wf && r.wf
  | .call r _ as => r.wf && as.wf
  | .new _ as => as.wf
  | .plain w as => (decide (w ∈ plainE) && decide (as.len = arE w)) && as.wf
def Es.wf : Es → Bool
  | .nil => true
  | .cons e es => e.wf && es.wf
end
mutual
def S.wf : S → Bool
  | .letS _ _ e => e.wf
  | .setS _ e => e.wf
  | .ifS e b c => e.wf && (b.wf && c.wf)
  | .whileS e b => e.wf && b.wf
  | .doS e => e.wf
  | .fork r _ as => r.wf && as.wf
  | .plain w as => (decide (w ∈ plainB) && decide (as.len = arB w)) && as.wf
def Ss.wf : Ss → Bool
  | .nil => true
  | .cons s ss => s.wf && ss.wf
end
theorem Ss.app_wf : ∀ b c : Ss, (b.app c).wf = (b.wf && c.wf)
  | .nil, _ => rfl
  | .cons s b, c => by
    show (s.wf && (b.app c).wf) = ((s.wf && b.wf) && c.wf)
    rw [Ss.app_wf b c, Bool.and_assoc]
theorem and2 {a b : Bool} (h1 : a = true) (h2 : b = true) : (a && b) = true := by rw [h1, h2]; rfl
theorem wfP {w : Str} {e : E} {as : Es} (h1 : decide (w ∈ plainB) = true) (h3 : (Es.cons e as).len = arB w) (h2 : (Es.cons e as).wf = true) : (S.plain w (.cons e as)).wf = true := and2 (and2 h1 (decide_eq_true h3)) h2
theorem ar_nil {w : Str} (h : decide (0 = arE w) = true) : w ∈ leafE := by
  by_cases e : w ∈ leafE
  · exact e
  · have h' := of_decide_eq_true h
    unfold arE at h'
    rw [if_neg e] at h'
    split at h' <;> omega
theorem ar_some {w : Str} {n : Nat} (h : decide (n + 1 = arE w) = true) : ¬ w ∈ leafE := fun e => by
  have h' := of_decide_eq_true h
  unfold arE at h'
  rw [if_pos e] at h'
  omega
theorem wfW {e : E} {b : Ss} (h1 : e.wf = true) (h2 : b.wf = true) : (S.whileS e b).wf = true := and2 h1 h2
theorem wfC {e : E} {es : Es} (h1 : e.wf = true) (h2 : es.wf = true) : (Es.cons e es).wf = true := and2 h1 h2
theorem wfSs {e : S} {es : Ss} (h1 : e.wf = true) (h2 : es.wf = true) : (Ss.cons e es).wf = true := and2 h1 h2
/-! ### depth -/
mutual
def E.dep : E → Nat
  | .int _ => 0
  | .name _ => 0
  | .choice _ l r => max l.dep r.dep + 1
  | .call r _ as => max r.dep as.dep + 1
  | .new _ as => as.dep + 1
  | .plain _ as => as.dep + 1
def Es.dep : Es → Nat
  | .nil => 0
  | .cons e es => max e.dep es.dep
end
mutual
def S.dep : S → Nat
  | .letS _ _ e => e.dep + 1
  | .setS _ e => e.dep + 1
  | .ifS e b c => max e.dep (max b.dep c.dep) + 1
  | .whileS e b => max e.dep b.dep + 1
  | .doS e => e.dep + 1
  | .fork r _ as => max r.dep as.dep + 1
  | .plain _ as => as.dep + 1
def Ss.dep : Ss → Nat
  | .nil => 0
  | .cons s ss => max s.dep ss.dep
end
/-! ### the number of instructions -/
mutual
def E.sz : E → Nat
  | .int _ => 1
  | .name _ => 1
  | .choice o l r => l.sz + r.sz + (if o then 2 else 0) + 5
  | .call r _ as => r.sz + as.sz + 1
  | .new _ as => as.sz + 1
  | .plain _ as => as.sz + 1
def Es.sz : Es → Nat
  | .nil => 0
  | .cons e es => e.sz + es.sz
end
mutual
def S.sz : S → Nat
  | .letS _ _ e => e.sz + 1
  | .setS _ e => e.sz + 1
  | .ifS e b c => e.sz + 1 + b.sz + (match c with | .nil => 0 | .cons _ _ => 1) + c.sz
  | .whileS e b => e.sz + b.sz + 2
  | .doS e => e.sz + 1
  | .fork r _ as => r.sz + as.sz + 1
  | .plain _ as => as.sz + 1
def Ss.sz : Ss → Nat
  | .nil => 0
  | .cons s ss => s.sz + ss.sz
end
theorem Ss.app_dep : ∀ b c : Ss, (b.app c).dep = max b.dep c.dep
  | .nil, _ => (Nat.zero_max _).symm
  | .cons s b, c => by
    show max s.dep (b.app c).dep = max (max s.dep b.dep) c.dep
    rw [Ss.app_dep b c, Nat.max_assoc]
theorem Ss.app_sz : ∀ b c : Ss, (b.app c).sz = b.sz + c.sz
  | .nil, _ => (Nat.zero_add _).symm
  | .cons s b, c => by
    show s.sz + (b.app c).sz = (s.sz + b.sz) + c.sz
    rw [Ss.app_sz b c, Nat.add_assoc]
/-! ### code -/
def I1 (x : Str) : PyData := .tuple [.str x]
def I2 (x : Str) (n : Int) : PyData := .tuple [.str x, .int n]
def I3 (x y : Str) (n : Int) : PyData := .tuple [.str x, .str y, .int n]
/-- what turns the parts of an or -/
def tn (o : Bool) : List PyData := if o then [I1 "not"] else []
def kn (o : Bool) : Nat := if o then 1 else 0
def ends (o : Bool) (d : Nat) : List PyData := [I2 "push" (if o then 0 else 1), I2 "jump" ((d : Int) + 1), I2 "push" (if o then 1 else 0)]
abbrev Plc := Str → Str × Int
mutual
def E.code (pl : Plc) : E → Nat → List PyData
  | .int n, _ => [I2 "push" n]
  | .name x, _ => [I2 (pl x).1 (pl x).2]
  | .choice o l r, at_ => (l.code pl at_ ++ tn o) ++ [I2 "unless" ((at_ + l.sz + kn o + 1 + r.sz + kn o + 3 : Nat) : Int)] ++ (r.code pl (at_ + l.sz + kn o + 1) ++ tn o) ++ [I2 "unless" ((at_ + l.sz + kn o + 1 + r.sz + kn o + 3 : Nat) : Int)] ++ ends o (at_ + l.sz + kn o + 1 + r.sz + kn o + 3)
  | .call r f as, at_ => (r.code pl at_ ++ as.code pl (at_ + r.sz)) ++ [I3 "call" f as.len]
  | .new m as, at_ => as.code pl at_ ++ [I3 "new" m as.len]
  | .plain w as, at_ => as.code pl at_ ++ [I1 w]
def Es.code (pl : Plc) : Es → Nat → List PyData
  | .nil, _ => []
  | .cons e es, at_ => e.code pl at_ ++ es.code pl (at_ + e.sz)
end
mutual
def S.code (pl : Plc) : S → Nat → List PyData
  | .letS x _ e, at_ => e.code pl at_ ++ [I2 ("set" ++ (pl x).1) (pl x).2]
  | .setS x e, at_ => e.code pl at_ ++ [I2 ("set" ++ (pl x).1) (pl x).2]
  | .ifS e b .nil, at_ => e.code pl at_ ++ [I2 "unless" ((at_ + e.sz + 1 + b.sz : Nat) : Int)] ++ b.code pl (at_ + e.sz + 1)
  | .ifS e b (.cons s ss), at_ => e.code pl at_ ++ [I2 "unless" ((at_ + e.sz + 1 + b.sz + 1 : Nat) : Int)] ++ b.code pl (at_ + e.sz + 1) ++ [I2 "jump" ((at_ + e.sz + 1 + b.sz + 1 + (s.sz + ss.sz) : Nat) : Int)] ++
      (s.code pl (at_ + e.sz + 1 + b.sz + 1) ++ ss.code pl (at_ + e.sz + 1 + b.sz + 1 + s.sz))
  | .whileS e b, at_ => e.code pl at_ ++ [I2 "unless" ((at_ + e.sz + 1 + b.sz + 1 : Nat) : Int)] ++ b.code pl (at_ + e.sz + 1) ++ [I2 "jump" (at_ : Nat)]
  | .doS e, at_ => e.code pl at_ ++ [I1 "drop"]
  | .fork r f as, at_ => (r.code pl at_ ++ as.code pl (at_ + r.sz)) ++ [I3 "fork" f as.len]
  | .plain w as, at_ => as.code pl at_ ++ [I1 w]
def Ss.code (pl : Plc) : Ss → Nat → List PyData
  | .nil, _ => []
  | .cons s ss, at_ => s.code pl at_ ++ ss.code pl (at_ + s.sz)
end
theorem tn_len (o : Bool) : (tn o).length = kn o := by cases o <;> rfl
mutual
theorem E.code_len (pl : Plc) : ∀ (e : E) (a : Nat), (e.code pl a).length = e.sz
  | .int _, _ => rfl
  | .name _, _ => rfl
  | .choice o l r, a => by
    have h1 := E.code_len pl l a
    have h2 := E.code_len pl r (a + l.sz + kn o + 1)
    simp only [E.code, List.length_append, List.length_cons, List.length_nil, h1, h2, tn_len, ends, E.sz]
    cases o <;> simp [kn] <;> omega
  | .call r f as, a => by
    have h1 := E.code_len pl r a
    have h2 := Es.code_len pl as (a + r.sz)
    simp only [E.code, List.length_append, List.length_cons, List.length_nil, h1, h2, E.sz]
  | .new m as, a => by
    have h2 := Es.code_len pl as a
    simp only [E.code, List.length_append, List.length_cons, List.length_nil, h2, E.sz]
  | .plain w as, a => by
    have h2 := Es.code_len pl as a
    simp only [E.code, List.length_append, List.length_cons, List.length_nil, h2, E.sz]
theorem Es.code_len (pl : Plc) : ∀ (es : Es) (a : Nat), (es.code pl a).length = es.sz
  | .nil, _ => rfl
  | .cons e es, a => by
    have h1 := E.code_len pl e a
    have h2 := Es.code_len pl es (a + e.sz)
    simp only [Es.code, List.length_append, h1, h2, Es.sz]
end
mutual
theorem S.code_len (pl : Plc) : ∀ (s : S) (a : Nat), (s.code pl a).length = s.sz
  | .letS x k e, a => by simp only [S.code, List.length_append, List.length_cons, List.length_nil, E.code_len, S.sz]
  | .setS x e, a => by simp only [S.code, List.length_append, List.length_cons, List.length_nil, E.code_len, S.sz]
  | .ifS e b .nil, a => by
    have h := Ss.code_len pl b (a + e.sz + 1)
    simp only [S.code, List.length_append, List.length_cons, List.length_nil, E.code_len, h, S.sz, Ss.sz]
    omega
  | .ifS e b (.cons s ss), a => by
    have h := Ss.code_len pl b (a + e.sz + 1)
    have h1 := S.code_len pl s (a + e.sz + 1 + b.sz + 1)
    have h2 := Ss.code_len pl ss (a + e.sz + 1 + b.sz + 1 + s.sz)
    simp only [S.code, List.length_append, List.length_cons, List.length_nil, E.code_len, h, h1, h2, S.sz, Ss.sz]
  | .whileS e b, a => by
    have h := Ss.code_len pl b (a + e.sz + 1)
    simp only [S.code, List.length_append, List.length_cons, List.length_nil, E.code_len, h, S.sz]
    omega
  | .doS e, a => by simp only [S.code, List.length_append, List.length_cons, List.length_nil, E.code_len, S.sz]
  | .fork r f as, a => by simp only [S.code, List.length_append, List.length_cons, List.length_nil, E.code_len, Es.code_len, S.sz]
  | .plain w as, a => by simp only [S.code, List.length_append, List.length_cons, List.length_nil, Es.code_len, S.sz]
theorem Ss.code_len (pl : Plc) : ∀ (ss : Ss) (a : Nat), (ss.code pl a).length = ss.sz
  | .nil, _ => rfl
  | .cons s ss, a => by
    have h1 := S.code_len pl s a
    have h2 := Ss.code_len pl ss (a + s.sz)
    simp only [Ss.code, List.length_append, h1, h2, Ss.sz]
end
/-! ### rows of expressions, of statements, taken to a place -/
def Es.take : Es → Nat → Es
  | _, 0 => .nil
  | .nil, _ + 1 => .nil
  | .cons e es, n + 1 => .cons e (es.take n)
def Ss.take : Ss → Nat → Ss
  | _, 0 => .nil
  | .nil, _ + 1 => .nil
  | .cons e es, n + 1 => .cons e (es.take n)
theorem Es.take_next {pl : Plc} : ∀ {es : Es} {i : Nat} {e : E} (a : Nat), es.list[i]? = some e → (es.take (i + 1)).code pl a = (es.take i).code pl a ++ e.code pl (a + (es.take i).sz) ∧ (es.take (i + 1)).sz = (es.take i).sz + e.sz
  | .cons e es, 0, _, a, h => by
    cases h
    constructor
    · show e.code pl a ++ (es.take 0).code pl (a + e.sz) = [] ++ e.code pl (a + 0)
      cases es <;> simp [Es.take, Es.code]
    · show e.sz + (es.take 0).sz = 0 + e.sz
      cases es <;> simp [Es.take, Es.sz]
  | .cons e es, i + 1, f, a, h => by
    have ih := Es.take_next (pl := pl) (es := es) (i := i) (e := f) (a + e.sz) h
    constructor
    · show e.code pl a ++ (es.take (i + 1)).code pl (a + e.sz) = (e.code pl a ++ (es.take i).code pl (a + e.sz)) ++ f.code pl (a + (e.sz + (es.take i).sz))
      rw [ih.1, List.append_assoc, Nat.add_assoc a]
    · show e.sz + (es.take (i + 1)).sz = e.sz + (es.take i).sz + f.sz
      rw [ih.2]
      omega
  | .nil, i, _, _, h => by cases h
theorem Es.take_all : ∀ es : Es, es.take es.list.length = es
  | .nil => rfl
  | .cons e es => congrArg (Es.cons e) (Es.take_all es)
theorem Es.take_sz : ∀ (es : Es) (i : Nat), (es.take i).sz ≤ es.sz
  | es, 0 => by cases es <;> exact Nat.zero_le _
  | .nil, _ + 1 => Nat.le_refl _
  | .cons e es, i + 1 => Nat.add_le_add_left (Es.take_sz es i) _
theorem Ss.take_next {pl : Plc} : ∀ {es : Ss} {i : Nat} {e : S} (a : Nat), es.list[i]? = some e → (es.take (i + 1)).code pl a = (es.take i).code pl a ++ e.code pl (a + (es.take i).sz) ∧ (es.take (i + 1)).sz = (es.take i).sz + e.sz
  | .cons e es, 0, _, a, h => by
    cases h
    constructor
    · show e.code pl a ++ (es.take 0).code pl (a + e.sz) = [] ++ e.code pl (a + 0)
      cases es <;> simp [Ss.take, Ss.code]
    · show e.sz + (es.take 0).sz = 0 + e.sz
      cases es <;> simp [Ss.take, Ss.sz]
  | .cons e es, i + 1, f, a, h => by
    have ih := Ss.take_next (pl := pl) (es := es) (i := i) (e := f) (a + e.sz) h
    constructor
    · show e.code pl a ++ (es.take (i + 1)).code pl (a + e.sz) = (e.code pl a ++ (es.take i).code pl (a + e.sz)) ++ f.code pl (a + (e.sz + (es.take i).sz))
      rw [ih.1, List.append_assoc, Nat.add_assoc a]
    · show e.sz + (es.take (i + 1)).sz = e.sz + (es.take i).sz + f.sz
      rw [ih.2]
      omega
  | .nil, i, _, _, h => by cases h
theorem Ss.take_all : ∀ es : Ss, es.take es.list.length = es
  | .nil => rfl
  | .cons e es => congrArg (Ss.cons e) (Ss.take_all es)
theorem Ss.take_sz : ∀ (es : Ss) (i : Nat), (es.take i).sz ≤ es.sz
  | es, 0 => by cases es <;> exact Nat.zero_le _
  | .nil, _ + 1 => Nat.le_refl _
  | .cons e es, i + 1 => Nat.add_le_add_left (Ss.take_sz es i) _
/-- the parts of a row -/
theorem Es.part : ∀ {es : Es} {e : E}, e ∈ es.list → (es.wf = true → e.wf = true) ∧ (∀ x ∈ e.uses, x ∈ es.uses) ∧ e.dep ≤ es.dep ∧ e.sz ≤ es.sz
  | .cons f fs, e, h => by
    rcases List.mem_cons.mp (show e ∈ f :: fs.list from h) with rfl | h
    · exact ⟨fun w => (Bool.and_eq_true_iff.mp w).1, fun x hx => List.mem_append_left _ hx, Nat.le_max_left _ _, Nat.le_add_right _ _⟩
    · obtain ⟨h1, h2, h3, h4⟩ := Es.part h
      exact ⟨fun w => h1 (Bool.and_eq_true_iff.mp w).2, fun x hx => List.mem_append_right _ (h2 x hx), Nat.le_trans h3 (Nat.le_max_right _ _), Nat.le_trans h4 (Nat.le_add_left _ _)⟩
  | .nil, _, h => by cases h
theorem Ss.part : ∀ {es : Ss} {e : S}, e ∈ es.list → (es.wf = true → e.wf = true) ∧ (∀ x ∈ e.uses, x ∈ es.uses) ∧ e.dep ≤ es.dep ∧ e.sz ≤ es.sz
  | .cons f fs, e, h => by
    rcases List.mem_cons.mp (show e ∈ f :: fs.list from h) with rfl | h
    · exact ⟨fun w => (Bool.and_eq_true_iff.mp w).1, fun x hx => List.mem_append_left _ hx, Nat.le_max_left _ _, Nat.le_add_right _ _⟩
    · obtain ⟨h1, h2, h3, h4⟩ := Ss.part h
      exact ⟨fun w => h1 (Bool.and_eq_true_iff.mp w).2, fun x hx => List.mem_append_right _ (h2 x hx), Nat.le_trans h3 (Nat.le_max_right _ _), Nat.le_trans h4 (Nat.le_add_left _ _)⟩
  | .nil, _, h => by cases h
theorem Rps.at_E {K : PySem.W.Frag} {H : Hp} {vs : List V} {es : Es} {i : Nat} {v : V} (r : Rps K H vs es.ds) (h : vs[i]? = some v) : ∃ e, es.list[i]? = some e ∧ Rp K H v e.d := by
  rw [Es.list_ds] at r
  have hl := r.len
  rw [List.length_map] at hl
  have hi : i < es.list.length := by
    rw [← hl]
    exact (List.getElem?_eq_some_iff.mp h).1
  have e1 : es.list[i]? = some es.list[i] := List.getElem?_eq_getElem hi
  obtain ⟨u, hu, ru⟩ := r.at_ (i := i) (d := es.list[i].d) (by rw [List.getElem?_map, e1]; rfl)
  rw [h] at hu
  cases hu
  exact ⟨_, e1, ru⟩
theorem Rps.at_S {K : PySem.W.Frag} {H : Hp} {vs : List V} {es : Ss} {i : Nat} {v : V} (r : Rps K H vs es.ds) (h : vs[i]? = some v) : ∃ e, es.list[i]? = some e ∧ Rp K H v e.d := by
  rw [Ss.list_ds] at r
  have hl := r.len
  rw [List.length_map] at hl
  have hi : i < es.list.length := by
    rw [← hl]
    exact (List.getElem?_eq_some_iff.mp h).1
  have e1 : es.list[i]? = some es.list[i] := List.getElem?_eq_getElem hi
  obtain ⟨u, hu, ru⟩ := r.at_ (i := i) (d := es.list[i].d) (by rw [List.getElem?_map, e1]; rfl)
  rw [h] at hu
  cases hu
  exact ⟨_, e1, ru⟩
/-- an item of a tuple of data -/
theorem ix_rp {K : PySem.W.Frag} {H : Hp} {x : V} {ds : List PyData} {i : Nat} {d : PyData} {Q : VK} (hx : Rp K H x (.tuple ds)) (hi : ds[i]? = some d) (h : ∀ v, Rp K H v d → Q v H) : rIxT K x (.int (i : Nat)) H Q := by
  obtain ⟨a, xs, rfl, ha, hxs⟩ := hx.tup_inv
  obtain ⟨v, hv, rv⟩ := hxs.at_ hi
  exact ⟨a, xs, _, v, rfl, rfl, ha, atI_nat hv, h v rv⟩
theorem len_rp {K : PySem.W.Frag} {H : Hp} {x : V} {ds : List PyData} (hx : Rp K H x (.tuple ds)) : ∃ a xs, x = .ref a ∧ SqT K H a xs ∧ xs.length = ds.length := by
  obtain ⟨a, xs, rfl, ha, hxs⟩ := hx.tup_inv
  exact ⟨a, xs, rfl, ha, hxs.len⟩
/-- where the names are kept: a dict of places -/
def PlAt (K : PySem.W.Frag) (H : Hp) (nd : Addr) (pl : Plc) (N : List Str) : Prop := ∃ kvs, H nd = some (.dK kvs) ∧ ∀ x ∈ N, (pl x).1.length ≤ 1000 ∧ ∃ v, valV kvs (.inr x : Key) = some v ∧ Rp K H v (.tuple [.str (pl x).1, .int (pl x).2])
theorem PlAt.same {K : PySem.W.Frag} {H H' : Hp} {nd : Addr} {pl : Plc} {N : List Str} (p : PlAt K H nd pl N) (s : Same H H') : PlAt K H' nd pl N := by
  obtain ⟨kvs, h, q⟩ := p
  exact ⟨kvs, s _ _ h, fun x hx => ⟨(q x hx).1, by
    obtain ⟨v, h1, h2⟩ := (q x hx).2
    exact ⟨v, h1, h2.keep (Same.tups s)⟩⟩⟩
end Pt

set_option Elab.async false
set_option linter.all false
set_option maxRecDepth 100000
set_option maxHeartbeats 4000000
/-! Dicts whose keys are tuples of any depth (names of processes, of objects): {}, d[k], d[k] = v, del d[k], k in d, d.get. -/
namespace ND
open PySem PySem.W PySem.Spec PyProof.Rows L2 Pt

/-- tuples stay -/
abbrev TK (K : PySem.W.Frag) (H H' : Hp) : Prop := ∀ c xs, SqT K H c xs → SqT K H' c xs
theorem TK.refl {K : PySem.W.Frag} {H : Hp} : TK K H H := fun _ _ h => h
theorem TK.trans {K : PySem.W.Frag} {H H1 H2 : Hp} (a : TK K H H1) (b : TK K H1 H2) : TK K H H2 := fun c xs h => b c xs (a c xs h)
theorem TK.same {K : PySem.W.Frag} {H H' : Hp} (s : Same H H') : TK K H H' := fun _ _ h => Cm.sameT s h
theorem TK.of {K : PySem.W.Frag} {H H' : Hp} (t : Tups H H') : TK K H H' := fun _ _ h => t.sqt h
/-- what may be written is no tuple -/
theorem TK.upd {K : PySem.W.Frag} {H : Hp} {a : Addr} {o : HO} (m : Mut (H a)) : TK K H (upd H a o) := fun c xs h => by
  rcases h with (h | ⟨u, h⟩) | h
  · refine .inl (.inl ?_)
    rw [upd_ne fun z => by subst z; rw [h] at m; exact m]
    exact h
  · refine .inl (.inr ⟨u, ?_⟩)
    rw [upd_ne fun z => by subst z; rw [h] at m; exact m]
    exact h
  · exact .inr h
mutual
theorem rp_keep {K : PySem.W.Frag} {H H' : Hp} (k : TK K H H') : ∀ {v : V} {d : PyData}, Rp K H v d → Rp K H' v d
  | _, _, .non => .non
  | _, _, .bl b => .bl b
  | _, _, .int i => .int i
  | _, _, .str x => .str x
  | _, _, .tup h r => .tup (k _ _ h) (rps_keep k r)
theorem rps_keep {K : PySem.W.Frag} {H H' : Hp} (k : TK K H H') : ∀ {vs : List V} {ds : List PyData}, Rps K H vs ds → Rps K H' vs ds
  | _, _, .nil => .nil
  | _, _, .cons h r => .cons (rp_keep k h) (rps_keep k r)
end
/-- the value v is the key k -/
def KeyAt (K : PySem.W.Frag) (H : Hp) (v : V) (k : NestedKey) : Prop := Rp K H v k.data ∧ k.depth ≤ 8 ∧ ∃ ks, k = .tup ks
theorem KeyAt.keep {K : PySem.W.Frag} {H H' : Hp} {v : V} {k : NestedKey} (t : TK K H H') (h : KeyAt K H v k) : KeyAt K H' v k := ⟨rp_keep t h.1, h.2⟩
theorem KeyAt.ref {K : PySem.W.Frag} {H : Hp} {v : V} {k : NestedKey} (h : KeyAt K H v k) : ∃ b, v = .ref b := by
  obtain ⟨r, _, ks, rfl⟩ := h
  obtain ⟨a, xs, rfl, _⟩ := r.tup_inv
  exact ⟨a, rfl⟩
section
variable {X : Cx} {pins : List (Addr × Obj)} {σ : L2.St} {H : Hp} {s : Shared}
mutual
theorem is_of (I : Inv X pins σ H s) : ∀ (k : NestedKey) (v : V) (u : Value), Rp X.K H v k.data → RelV v u → NestedIs s.heap k u
  | .none, v, u, r, ru => by
    simp only [NestedKey.data] at r
    cases r
    cases ru
    exact .none
  | .num i, v, u, r, ru => by
    simp only [NestedKey.data] at r
    cases r
    obtain ⟨t, rfl⟩ := ru
    exact .int _ _
  | .text x, v, u, r, ru => by
    simp only [NestedKey.data] at r
    cases r
    obtain ⟨t, rfl⟩ := ru
    exact .text _ _
  | .tup ks, v, u, r, ru => by
    simp only [NestedKey.data] at r
    obtain ⟨a, vs, rfl, ha, hvs⟩ := r.tup_inv
    cases ru
    obtain ⟨its, rv, ⟨o, ho, hc, n, hd⟩, hz⟩ := I.tuple ha
    exact .tup ho hc hd (by simpa using all_of I ks vs its hvs rv)
theorem all_of (I : Inv X pins σ H s) : ∀ (ks : List NestedKey) (vs : List V) (us : List Value), Rps X.K H vs (NestedKey.datas ks) → Vals vs us → NestedAll s.heap ks us
  | [], vs, us, r, ru => by
    simp only [NestedKey.datas] at r
    cases r
    cases ru
    exact .nil
  | k :: ks, vs, us, r, ru => by
    simp only [NestedKey.datas] at r
    cases r with
    | cons h t =>
      cases ru with
      | cons h' t' => exact .cons (is_of I k _ _ h h') (all_of I ks _ _ t t')
end
theorem key_of (I : Inv X pins σ H s) {b : Addr} {k : NestedKey} (h : KeyAt X.K H (.ref b) k) : (nestedKind X.prog X.w).is s.heap k b := ⟨is_of I k _ _ h.1 rfl, h.2.1⟩
end

/-- the dict at a holds xs -/
def ndO (P : Program) (w : World) (xs : List (NestedKey × Addr × Value)) (a : Addr) : HO := .ext fun h => (a == sysModules) = false ∧ xs.length ≤ sizeLine ∧
  ∃ o es ep, h.get? a = some o ∧ o.ExactDict ∧ o.data = .dict es ep ∧ es.toList = xs.map (entryOfKey (nestedKind P w)) ∧ (xs.map (·.1)).Nodup
abbrev KN (K : PySem.W.Frag) (H : Hp) : List (NestedKey × V) → List (NestedKey × Addr × Value) → Prop := Paired fun p q => p.1 = q.1 ∧ KeyAt K H (.ref q.2.1) p.1 ∧ RelV p.2 q.2.2
/-- at a stands a dict with these entries -/
def NDct (P : Program) (w : World) (K : PySem.W.Frag) (H : Hp) (a : Addr) (kvs : List (NestedKey × V)) : Prop := ∃ xs, H a = some (ndO P w xs a) ∧ KN K H kvs xs
section
variable {P : Program} {w : World} {K : PySem.W.Frag} {H H' : Hp} {a : Addr} {kvs : List (NestedKey × V)}
theorem KN.keep (t : TK K H H') {xs : List (NestedKey × Addr × Value)} (h : KN K H kvs xs) : KN K H' kvs xs := Paired.mapP h fun _ _ z => ⟨z.1, z.2.1.keep t, z.2.2⟩
theorem NDct.keep (t : TK K H H') (e : H' a = H a) (h : NDct P w K H a kvs) : NDct P w K H' a kvs := by
  obtain ⟨xs, h1, h2⟩ := h
  exact ⟨xs, e.trans h1, KN.keep t h2⟩
theorem NDct.same (t : Same H H') (h : NDct P w K H a kvs) : NDct P w K H' a kvs := by
  obtain ⟨xs, h1, h2⟩ := h
  exact ⟨xs, t _ _ h1, KN.keep (TK.same t) h2⟩
theorem NDct.some (h : NDct P w K H a kvs) : ∃ o, H a = some o ∧ (∀ xs, o ≠ .lst xs) ∧ (∀ xs, o ≠ .tup xs) ∧ Mut (H a) := by
  obtain ⟨xs, h1, h2⟩ := h
  exact ⟨_, h1, (fun _ z => nomatch z), (fun _ z => nomatch z), by rw [h1]; exact True.intro⟩
theorem KN.val {xs : List (NestedKey × Addr × Value)} (r : KN K H kvs xs) (k : NestedKey) : RelO (valV kvs k) ((atKey xs k).map (·.2)) := by
  induction r with
  | nil => exact True.intro
  | @cons p q ps qs h t ih =>
    obtain ⟨h1, _, h2⟩ := h
    by_cases e : p.1 = k
    · have e' : q.1 = k := h1.symm.trans e
      have b : atKey (q :: qs) k = some q.2 := by simp [atKey, List.find?_cons, e']
      rw [valV_pos e, b]; exact h2
    · have e' : ¬ q.1 = k := fun z => e (h1.trans z)
      have b : atKey (q :: qs) k = atKey qs k := by simp [atKey, List.find?_cons, e']
      rw [valV_neg e, b]; exact ih
theorem KN.repl {xs : List (NestedKey × Addr × Value)} (r : KN K H kvs xs) (k : NestedKey) {y : V} {u : Value} (ry : RelV y u) :
    KN K H (kvs.map fun kv => if kv.1 = k then (kv.1, y) else kv) (xs.map (putAt k u)) := by
  induction r with
  | nil => exact .nil
  | @cons p q ps qs h t ih =>
    rw [List.map_cons, List.map_cons]
    refine .cons ?_ ih
    obtain ⟨h1, h2, h3⟩ := h
    unfold putAt
    by_cases e : p.1 = k
    · rw [if_pos e, if_pos (h1.symm.trans e)]; exact ⟨h1, h2, ry⟩
    · rw [if_neg e, if_neg (fun z => e (h1.trans z))]; exact ⟨h1, h2, h3⟩
theorem KN.put {xs : List (NestedKey × Addr × Value)} (r : KN K H kvs xs) (k : NestedKey) {b : Addr} {y : V} {u : Value} (hb : KeyAt K H (.ref b) k) (ry : RelV y u) :
    KN K H (putK kvs k y) (storedH xs k b u) := by
  have e : (kvs.any fun kv => decide (kv.1 = k)) = (atKey xs k).isSome := by
    rw [valV_any, (r.val k).isSome_eq, Option.isSome_map]
  unfold putK storedH
  rw [e]
  by_cases q : (atKey xs k).isSome = true
  · rw [if_pos q, if_pos q]; exact r.repl k ry
  · rw [if_neg q, if_neg q]; exact Paired.snoc r ⟨rfl, hb, ry⟩
theorem KN.drop {xs : List (NestedKey × Addr × Value)} (r : KN K H kvs xs) (k : NestedKey) : KN K H (dropK kvs k) (withoutH xs k) := by
  induction r with
  | nil => exact .nil
  | @cons p q ps qs h t ih =>
    obtain ⟨h1, h2, h3⟩ := h
    unfold dropK withoutH at ih ⊢
    rw [List.filter_cons, List.filter_cons]
    by_cases e : p.1 = k
    · have e' : q.1 = k := h1.symm.trans e
      simp only [e, e', decide_true, Bool.not_true, ne_eq, not_true_eq_false, decide_false, Bool.false_eq_true, if_false]
      exact ih
    · have e' : ¬ q.1 = k := fun z => e (h1.trans z)
      simp only [e, e', decide_false, Bool.not_false, ne_eq, not_false_eq_true, decide_true, if_true]
      exact .cons ⟨h1, h2, h3⟩ ih
end

section
variable {X : Cx} {pins : List (Addr × Obj)} {σ : L2.St} {H : Hp} {s : Shared} {a b : Addr} {v : V} {u r : Value} {k : NestedKey} {kvs : List (NestedKey × V)} {A : Around} {E : Value → Shared → Prop}
theorem nd_of (I : Inv X pins σ H s) (g : NDct X.prog X.w X.K H a kvs) : kvs.length ≤ sizeLine ∧ (a == sysModules) = false ∧ ∃ xs, H a = some (ndO X.prog X.w xs a) ∧ KN X.K H kvs xs ∧ s.heap.DictOfH (nestedKind X.prog X.w) a xs := by
  obtain ⟨xs, e, r⟩ := g
  obtain ⟨⟨hd, hz, o, es, ep, h1, h2, h3, h4, h5⟩, _⟩ := (show ObjOk X.prog X.w H s.heap a (ndO X.prog X.w xs a) from I.hok a _ e)
  refine ⟨by rw [Paired.length r]; exact hz, hd, xs, e, r, o, es, ep, h1, h2, h3, h4, fun x hx => ?_, h5⟩
  have all : ∀ {l : List (NestedKey × V)} {m : List (NestedKey × Addr × Value)}, KN X.K H l m → ∀ x ∈ m, (nestedKind X.prog X.w).is s.heap x.1 x.2.1 := by
    intro l m q
    induction q with
    | nil => intro x hx; exact nomatch hx
    | @cons p q ps qs hq t ih =>
      intro x hx
      rcases List.mem_cons.mp hx with e | hx
      · subst e
        exact key_of I (by rw [← hq.1]; exact hq.2.1)
      · exact ih x hx
  exact all r x hx
theorem nd_ok {P : Program} {w : World} {H' : Hp} {h' : Heap} {xs : List (NestedKey × Addr × Value)} (hd : (a == sysModules) = false) (hz : xs.length ≤ sizeLine) (dd : h'.DictOfH (nestedKind P w) a xs) :
    ObjOk P w H' h' a (ndO P w xs a) := by
  obtain ⟨o, es, ep, h1, h2, h3, h4, _, h5⟩ := dd
  exact ⟨⟨hd, hz, o, es, ep, h1, h2, h3, h4, h5⟩, ⟨o, h1⟩, fun g1 g2 ⟨q1, q2, o', es', ep', p1, p⟩ k => ⟨q1, q2, o', es', ep', k _ p1, p⟩⟩
theorem nd_type (I : Inv X pins σ H s) (g : NDct X.prog X.w X.K H a kvs) : s.TypeIs (.ref a) "dict" ∧ (∀ b, Value.ref a = .ref b → ∃ ob, s.heap.get? b = some ob ∧ ob.dict = none) := by
  obtain ⟨_, _, xs, _, _, dd⟩ := nd_of I g
  refine ⟨dd.typeIs, fun b q => ?_⟩
  cases q
  obtain ⟨ob, _, _, h1, h2, _⟩ := dd
  exact ⟨ob, h1, h2.2.1⟩
theorem nd_getItem {Q : Value → Shared → Prop} (hu : A.units + 9 < cLine) (I : Inv X pins σ H s) (g : NDct X.prog X.w X.K H a kvs) (ky : KeyAt X.K H (.ref b) k) (l : valV kvs k = some v) (h : ∀ w' s', Inv X pins σ H s' → RelV v w' → Q w' s') :
    wpAny (model X.prog X.w) A (getItem (.ref a) (.ref b)) Q E s := by
  obtain ⟨_, _, xs, _, rel, dd⟩ := nd_of I g
  obtain ⟨w', hw, rw'⟩ := RelO.some_of (v := v) (o := (atKey xs k).map (·.2)) (by rw [← l]; exact rel.val k)
  obtain ⟨p, hp, hp2⟩ := Option.map_eq_some_iff.mp hw
  refine wpAny_getItem_heap (show A.in1.units + 8 < cLine by rw [Around.in1_units]; omega) (key_of I ky) dd hp ?_
  rw [hp2]
  exact h w' _ (I.tok _) rw'
theorem nd_in {Q : Value → Shared → Prop} (hu : A.units + 9 < cLine) (I : Inv X pins σ H s) (g : NDct X.prog X.w X.K H a kvs) (ky : KeyAt X.K H (.ref b) k) (h : ∀ s', Inv X pins σ H s' → Q (.bool (valV kvs k).isSome) s') :
    wpAny (model X.prog X.w) A (compareOp .In (.ref b) (.ref a)) Q E s := by
  obtain ⟨_, hd, xs, _, rel, dd⟩ := nd_of I g
  refine wpAny_in_heap (show A.in1.units + 8 < cLine by rw [Around.in1_units]; omega) (key_of I ky) hd dd ?_
  have q := (rel.val k).isSome_eq
  rw [Option.isSome_map] at q
  rw [← q]
  exact h _ (I.tok _)
theorem nd_notIn {Q : Value → Shared → Prop} (hu : A.units + 9 < cLine) (I : Inv X pins σ H s) (g : NDct X.prog X.w X.K H a kvs) (ky : KeyAt X.K H (.ref b) k) (h : ∀ s', Inv X pins σ H s' → Q (.bool (!(valV kvs k).isSome)) s') :
    wpAny (model X.prog X.w) A (compareOp .NotIn (.ref b) (.ref a)) Q E s := by
  obtain ⟨_, hd, xs, _, rel, dd⟩ := nd_of I g
  refine wpAny_notIn_heap (show A.in1.units + 8 < cLine by rw [Around.in1_units]; omega) (key_of I ky) hd dd ?_
  have q := (rel.val k).isSome_eq
  rw [Option.isSome_map] at q
  rw [← q]
  exact h _ (I.tok _)
theorem nd_get1 {Q : Value → Shared → Prop} (hu : A.units + 9 < cLine) (I : Inv X pins σ H s) (g : NDct X.prog X.w X.K H a kvs) (ky : KeyAt X.K H (.ref b) k) (h : ∀ w' s', Inv X pins σ H s' → RelV ((valV kvs k).getD .non) w' → Q w' s') :
    wpAny (model X.prog X.w) A (call (.builtin "dict.get") [.ref a, .ref b]) Q E s := by
  obtain ⟨_, hd, xs, _, rel, dd⟩ := nd_of I g
  refine call_meetsIn PySem.F.slot_dict_get dd.typeIs PySem.F.entry_dict_get (PySem.F.args_dict_get_2 _ _) (meetsH_dict_get (nestedKind X.prog X.w) a b hd) ⟨show A.in1.units + 8 < cLine by rw [Around.in1_units]; omega, k, xs, key_of I ky, dd, h _ _ (I.tok _) ?_⟩
  exact (rel.val k).getD rfl
theorem nd_get2 {d : V} {Q : Value → Shared → Prop} (hu : A.units + 9 < cLine) (I : Inv X pins σ H s) (g : NDct X.prog X.w X.K H a kvs) (ky : KeyAt X.K H (.ref b) k) (rd : RelV d r) (h : ∀ w' s', Inv X pins σ H s' → RelV ((valV kvs k).getD d) w' → Q w' s') :
    wpAny (model X.prog X.w) A (call (.builtin "dict.get") [.ref a, .ref b, r]) Q E s := by
  obtain ⟨_, hd, xs, _, rel, dd⟩ := nd_of I g
  refine call_meetsIn PySem.F.slot_dict_get dd.typeIs PySem.F.entry_dict_get (PySem.F.args_dict_get_3 _ _ _) (meetsH_dict_get_default (nestedKind X.prog X.w) a b hd r) ⟨show A.in1.units + 8 < cLine by rw [Around.in1_units]; omega, k, xs, key_of I ky, dd, h _ _ (I.tok _) ?_⟩
  exact (rel.val k).getD rd
/-- d[k] = v -/
theorem nd_setItem {Q : Unit → Shared → Prop} (hu : A.units + 9 < cLine) (I : Inv X pins σ H s) (g : NDct X.prog X.w X.K H a kvs) (ky : KeyAt X.K H (.ref b) k) (hl : kvs.length < sizeLine) (rv : RelV v r)
    (h : ∀ o s', NDct X.prog X.w X.K (upd H a o) a (putK kvs k v) → Inv X pins σ (upd H a o) s' → Q () s') :
    wpAny (model X.prog X.w) A (setItem (.ref a) (.ref b) r) Q E s := by
  obtain ⟨_, hd, xs, e, rel, dd⟩ := nd_of I g
  have hz : xs.length ≤ sizeLine := by rw [← Paired.length rel]; omega
  refine wpAny_setItem_heap (hsz := hz) (show A.in1.units + 8 < cLine by rw [Around.in1_units]; omega) (key_of I ky) dd fun h' dd' hs => ?_
  have rel' := rel.put k ky rv
  have hz' : (storedH xs k b r).length ≤ sizeLine := by
    rw [← Paired.length rel']
    have := length_putK kvs k v
    omega
  have he : ∃ q, h'.get? a = some q := let ⟨q, _, _, hq, _⟩ := dd'; ⟨q, hq⟩
  exact h (ndO X.prog X.w (storedH xs k b r) a) _ ⟨_, upd_same, KN.keep (TK.upd (H := H) (a := a) (by rw [e]; exact True.intro)) rel'⟩ (d_write I (by rw [e]; exact True.intro) hs he (nd_ok hd hz' dd'))
/-- del d[k] -/
theorem nd_delItem {Q : Unit → Shared → Prop} (hu : A.units + 9 < cLine) (I : Inv X pins σ H s) (g : NDct X.prog X.w X.K H a kvs) (ky : KeyAt X.K H (.ref b) k) (l : (valV kvs k).isSome = true)
    (h : ∀ o s', NDct X.prog X.w X.K (upd H a o) a (dropK kvs k) → Inv X pins σ (upd H a o) s' → Q () s') :
    wpAny (model X.prog X.w) A (delItem (.ref a) (.ref b)) Q E s := by
  obtain ⟨hl, hd, xs, e, rel, dd⟩ := nd_of I g
  have hz : xs.length ≤ sizeLine := by rw [← Paired.length rel]; exact hl
  have q := (rel.val k).isSome_eq
  rw [Option.isSome_map, l] at q
  obtain ⟨p, hp⟩ := Option.isSome_iff_exists.mp q.symm
  refine wpAny_delItem_heap (hsz := hz) (show A.in1.units + 8 < cLine by rw [Around.in1_units]; omega) (key_of I ky) hd dd hp fun h' dd' hs => ?_
  have rel' := rel.drop k
  have hz' : (withoutH xs k).length ≤ sizeLine := Nat.le_trans (by unfold withoutH; exact List.length_filter_le _ _) hz
  have he : ∃ q, h'.get? a = some q := let ⟨q, _, _, hq, _⟩ := dd'; ⟨q, hq⟩
  exact h (ndO X.prog X.w (withoutH xs k) a) _ ⟨_, upd_same, KN.keep (TK.upd (H := H) (a := a) (by rw [e]; exact True.intro)) rel'⟩ (d_write I (by rw [e]; exact True.intro) hs he (nd_ok hd hz' dd'))
end

/-! ### readings and rules -/
section
variable (P : Program) (w : World) (K : PySem.W.Frag)
/-- {} -/
def tNNew : TE := fun _ H Q => ∀ p o, H p = none → NDct P w K (upd H p o) p [] → Q (.ref p) (upd H p o)
/-- d[y] -/
def tNGet (td ty : TE) : TE := fun σ H Q => td σ H fun x H1 => ty σ H1 fun y H2 => ∃ a kvs k v, x = .ref a ∧ NDct P w K H2 a kvs ∧ KeyAt K H2 y k ∧ valV kvs k = some v ∧ Q v H2
/-- y in d, y not in d -/
def tNIn (neg : Bool) (ty td : TE) : TE := fun σ H Q => ty σ H fun y H1 => td σ H1 fun x H2 => ∃ a kvs k, x = .ref a ∧ NDct P w K H2 a kvs ∧ KeyAt K H2 y k ∧ Q (.bl (if neg then !(valV kvs k).isSome else (valV kvs k).isSome)) H2
/-- d.get(y), d.get(y, z) -/
def tNGet1 (td ty : TE) : TE := fun σ H Q => td σ H fun x H1 => ∃ a kvs, x = .ref a ∧ NDct P w K H1 a kvs ∧ ty σ H1 fun y H2 => ∃ kvs k, NDct P w K H2 a kvs ∧ KeyAt K H2 y k ∧ Q ((valV kvs k).getD .non) H2
def tNGet2 (td ty tz : TE) : TE := fun σ H Q => td σ H fun x H1 => ∃ a kvs, x = .ref a ∧ NDct P w K H1 a kvs ∧ ty σ H1 fun y H2 => tz σ H2 fun z H3 => ∃ kvs k, NDct P w K H3 a kvs ∧ KeyAt K H3 y k ∧ Q ((valV kvs k).getD z) H3
/-- d[y] = v -/
def sNPut (td ty tv : TE) : TS := fun D σ H => tv σ H fun v H1 => td σ H1 fun x H2 => ty σ H2 fun y H3 => ∃ a kvs k, x = .ref a ∧ NDct P w K H3 a kvs ∧ KeyAt K H3 y k ∧ kvs.length < sizeLine ∧
  ∀ o, NDct P w K (upd H3 a o) a (putK kvs k v) → D.nx σ (upd H3 a o)
/-- del d[y] -/
def sNDel (td ty : TE) : TS := fun D σ H => td σ H fun x H1 => ty σ H1 fun y H2 => ∃ a kvs k, x = .ref a ∧ NDct P w K H2 a kvs ∧ KeyAt K H2 y k ∧ (valV kvs k).isSome = true ∧
  ∀ o, NDct P w K (upd H2 a o) a (dropK kvs k) → D.nx σ (upd H2 a o)
end
section
variable {X : Cx} {o i e f value : Expr} {pos pos' tpos apos cpos : Pos} {td ty tv tz : TE}
theorem pe_nnew : PE X (.Dict [] [] pos) (tNNew X.prog X.w X.K) := ⟨fun pins s σ H Q I h => by
  have hb := I.big
  have ok : ObjOk X.prog X.w (upd H s.heap.objs.size (ndO X.prog X.w [] s.heap.objs.size)) (s.heap.push { cls := .type "dict", data := .dict #[] }) s.heap.objs.size (ndO X.prog X.w [] s.heap.objs.size) :=
    nd_ok (beq_eq_false_iff_ne.mpr (Ne.symm (Nat.ne_of_lt hb))) (Nat.zero_le _) ⟨_, #[], 0, Heap.get?_push_size _ rfl, ⟨rfl, rfl, rfl⟩, rfl, rfl, (fun x hx => nomatch hx), List.nodup_nil⟩
  exact wpAny_Dict_empty ⟨.ref s.heap.objs.size, _, I.laid (a := s.heap.objs.size) (o := ndO X.prog X.w [] s.heap.objs.size) (t' := s.toks) (fun _ _ q => Heap.get?_push_of_some _ q) (Nat.le_refl _) ok, rfl, h _ _ (I.hok.fresh (Nat.le_refl _)) ⟨[], upd_same, .nil⟩⟩⟩
theorem pe_nget (hu : X.A.units + 9 < cLine) (ho : PE X o td) (hi : PE X i ty) (hs : NoSl i) : PE X (.Subscript o i pos) (tNGet X.prog X.w X.K td ty) := by
  refine ⟨fun pins s σ H Q I h => ?_⟩
  refine subD_of PySem.F.slot_dict_getitem.lookup hs (thn (ho.run pins s σ H _ I h) fun u s1 ⟨x, H1, I1, rx, q1⟩ => thn (hi.run pins s1 σ H1 _ I1 q1) fun iv s2 ⟨y, H2, I2, ry, a, kvs, k, v, ex, g, ky, l, q2⟩ => ?_)
  subst ex
  obtain rfl : u = Value.ref a := rx
  obtain ⟨b, rfl⟩ := ky.ref
  obtain rfl : iv = Value.ref b := ry
  exact ⟨(nd_type I2 g).1, nd_getItem hu I2 g ky l fun w' s3 I3 rw' => ⟨v, H2, I3, rw', q2⟩⟩
theorem pc_nin (hu : X.A.units + 9 < cLine) (hi : PE X i ty) (ho : PE X o td) : PC X .In i o (tNIn X.prog X.w X.K false ty td) := by
  refine ⟨fun pins s σ H Q I h => ?_⟩
  refine thn (hi.run pins s σ H _ I h) fun iv s1 ⟨y, H1, I1, ry, q1⟩ => thn (ho.run pins s1 σ H1 _ I1 q1) fun u s2 ⟨x, H2, I2, rx, a, kvs, k, ex, g, ky, q2⟩ => ?_
  subst ex
  obtain rfl : u = Value.ref a := rx
  obtain ⟨b, rfl⟩ := ky.ref
  obtain rfl : iv = Value.ref b := ry
  exact nd_in hu I2 g ky fun s3 I3 => ⟨.bl (valV kvs k).isSome, H2, I3, rfl, q2⟩
theorem pc_nnotin (hu : X.A.units + 9 < cLine) (hi : PE X i ty) (ho : PE X o td) : PC X .NotIn i o (tNIn X.prog X.w X.K true ty td) := by
  refine ⟨fun pins s σ H Q I h => ?_⟩
  refine thn (hi.run pins s σ H _ I h) fun iv s1 ⟨y, H1, I1, ry, q1⟩ => thn (ho.run pins s1 σ H1 _ I1 q1) fun u s2 ⟨x, H2, I2, rx, a, kvs, k, ex, g, ky, q2⟩ => ?_
  subst ex
  obtain rfl : u = Value.ref a := rx
  obtain ⟨b, rfl⟩ := ky.ref
  obtain rfl : iv = Value.ref b := ry
  exact nd_notIn hu I2 g ky fun s3 I3 => ⟨.bl (!(valV kvs k).isSome), H2, I3, rfl, q2⟩
theorem ps_nput (hu : X.A.units + 9 < cLine) (ho : PE X o td) (hi : PE X i ty) (hv : PE X value tv) (hs : swapsWith value (some (.Subscript o i pos')) pos.line X.env = pure false) :
    PS X (.Assign [.Subscript o i pos'] value pos) (sNPut X.prog X.w X.K td ty tv) := by
  refine ⟨fun pins s σ H D I h => ?_⟩
  refine wpAny_Assign_Subscript (thn (hv.run pins s σ H _ I h) fun r s1 ⟨v, H1, I1, rv, q1⟩ => thn (ho.run pins s1 σ H1 _ I1 q1) fun u s2 ⟨x, H2, I2, rx, q2⟩ => thn (hi.run pins s2 σ H2 _ I2 q2) fun iv s3 ⟨y, H3, I3, ry, a, kvs, k, ex, g, ky, hl, q3⟩ => ?_) hs
  subst ex
  obtain rfl : u = Value.ref a := rx
  obtain ⟨b, rfl⟩ := ky.ref
  obtain rfl : iv = Value.ref b := ry
  exact nd_setItem hu I3 g ky hl rv fun o s4 g4 I4 => ⟨σ, _, I4, q3 o g4⟩
theorem ps_ndel (hu : X.A.units + 9 < cLine) (ho : PE X o td) (hi : PE X i ty) : PS X (.Delete [.Subscript o i tpos] pos) (sNDel X.prog X.w X.K td ty) := by
  refine ⟨fun pins s σ H D I h => ?_⟩
  refine wpAny_Delete (wpAny_deleteEach_cons (wpAny_delete_Subscript (thn (ho.run pins s σ H _ I h) fun u s1 ⟨x, H1, I1, rx, q1⟩ => thn (hi.run pins s1 σ H1 _ I1 q1) fun iv s2 ⟨y, H2, I2, ry, a, kvs, k, ex, g, ky, l, q2⟩ => ?_)))
  subst ex
  obtain rfl : u = Value.ref a := rx
  obtain ⟨b, rfl⟩ := ky.ref
  obtain rfl : iv = Value.ref b := ry
  exact nd_delItem hu I2 g ky l fun o s3 g3 I3 => wpAny_deleteEach_nil ⟨σ, _, I3, q2 o g3⟩
theorem pe_nget1 (hu : X.A.units + 9 < cLine) (ho : PE X o td) (he : PE X e ty) (m : M1 X o "get" apos e cpos) : PE X (.Call (.Attribute o "get" apos) [e] [] cpos) (tNGet1 X.prog X.w X.K td ty) := by
  refine ⟨fun pins s σ H Q I h => ?_⟩
  refine wpAny_Call_method m.base m.few m.line PySem.F.plainAttrs_dict PySem.F.slot_dict_get PySem.F.type_dict_get (thn (ho.run pins s σ H _ I h) fun u s1 ⟨x, H1, I1, rx, a, kvs0, ex, d, q1⟩ => ?_)
  subst ex
  obtain rfl : u = Value.ref a := rx
  obtain ⟨t1, t2⟩ := nd_type I1 d
  refine ⟨t1, t2, ?_⟩
  rw [m.trees]
  refine Calls.callWith_builtin rfl (Calls.evalArgs_plain (Calls.spliced_cons (thn (he.run pins s1 σ H1 _ I1 q1) fun iv s2 ⟨y, H2, I2, ry, kvs, k, g, ky, q2⟩ => Calls.spliced_nil ?_)))
  obtain ⟨b, rfl⟩ := ky.ref
  obtain rfl : iv = Value.ref b := ry
  exact nd_get1 hu I2 g ky fun w' s3 I3 rw' => ⟨_, H2, I3, rw', q2⟩
theorem pe_nget2 (hu : X.A.units + 9 < cLine) (ho : PE X o td) (he : PE X e ty) (hf : PE X f tz) (m : M2 X o "get" apos e f cpos) : PE X (.Call (.Attribute o "get" apos) [e, f] [] cpos) (tNGet2 X.prog X.w X.K td ty tz) := by
  refine ⟨fun pins s σ H Q I h => ?_⟩
  refine wpAny_Call_method m.base m.few m.line PySem.F.plainAttrs_dict PySem.F.slot_dict_get PySem.F.type_dict_get (thn (ho.run pins s σ H _ I h) fun u s1 ⟨x, H1, I1, rx, a, kvs0, ex, d, q1⟩ => ?_)
  subst ex
  obtain rfl : u = Value.ref a := rx
  obtain ⟨t1, t2⟩ := nd_type I1 d
  refine ⟨t1, t2, ?_⟩
  rw [m.trees]
  refine Calls.callWith_builtin rfl (Calls.evalArgs_plain (Calls.spliced_cons (thn (he.run pins s1 σ H1 _ I1 q1) fun iv s2 ⟨y, H2, I2, ry, q2⟩ =>
    Calls.spliced_cons (thn (hf.run pins s2 σ H2 _ I2 q2) fun fv s3 ⟨z, H3, I3, rz, kvs, k, g, ky, q3⟩ => Calls.spliced_nil ?_))))
  obtain ⟨b, rfl⟩ := ky.ref
  obtain rfl : iv = Value.ref b := ry
  exact nd_get2 hu I3 g ky rz fun w' s4 I4 rw' => ⟨_, H3, I4, rw', q3⟩
end
theorem nu_of {A : Around} {k : Nat} (hr : Room k A) : A.units + 9 < cLine := Nat.lt_of_le_of_lt (Nat.add_le_add_left (by decide : 9 ≤ 64) _) hr.units
end ND

set_option Elab.async false
set_option linter.all false
set_option maxRecDepth 100000
set_option maxHeartbeats 4000000
/-! sum(t), t a tuple of ints -/
namespace SumT
open PySem PySem.W PySem.Calls PyProof.Rows PyProof.V PySem.Spec L2
section
variable {X : Cx}
def rSumT (K : PySem.W.Frag) : List V → Hp → VK → Prop := fun vs H Q => ∃ (a : Addr) (ns : List Int), vs = [V.ref a] ∧ SqT K H a (ns.map V.int) ∧ Q (.int ns.sum) H
theorem cr_sumT (hc : X.calm = true) : CallR X (.builtin "sum") (rSumT X.K) := by
  intro pins s σ H vs us Q I r h
  obtain ⟨a, ns, rfl, hs, q⟩ := h
  obtain ⟨its, rv, pl, hz⟩ := I.tuple hs
  rw [Vals.ref1 r]
  obtain ⟨xs, e⟩ := rv.ints.allInts.items
  have hn : numsOf (intItems xs).toList = ns := by rw [← e]; exact rv.ints.numsOf
  rw [nums_intItems] at hn
  rw [e] at pl
  refine ktm_sumG (I.ok.hd hc) pl fun h' tk t' hk => ⟨.int _, H, I.kept hk, ⟨_, by rw [preSum_eq, List.take_of_length_le (by simp), hn]⟩, q⟩
end
end SumT

set_option Elab.async false
set_option linter.all false
set_option maxRecDepth 100000
set_option maxHeartbeats 4000000
/-! Rules whose readings name K, for the inside of comprehensions. -/
namespace Nst
open PySem PySem.Spec PyProof.Rows L2
def rLen (K : PySem.W.Frag) : List V → Hp → VK → Prop := fun xs H Q => ∃ p ys, xs = [V.ref p] ∧ (SqL K H p ys ∨ SqT K H p ys) ∧ Q (.int ys.length) H
theorem len_seq {X : Cx} (K : PySem.W.Frag) (h : X.K = K) : CallR X (.builtin "len") (rLen K) := by
  subst h
  exact call_len_seq
def rTupOf (K : PySem.W.Frag) : List V → Hp → VK → Prop := fun xs H Q => ∃ p ys, xs = [.ref p] ∧ ((SqL K H p ys ∧ ∀ l, H l = none → Q (.ref l) (upd H l (.tup ys))) ∨ (SqT K H p ys ∧ Q (.ref p) H))
theorem tuple_of {X : Cx} (K : PySem.W.Frag) (h : X.K = K) : CallR X (.type "tuple") (rTupOf K) := by
  subst h
  exact call_tuple_of
theorem at_item {xs : List V} {i : Int} (h0 : 0 ≤ i) (h1 : i < (xs.length : Int)) : ∃ y, xs[i.toNat]? = some y ∧ atI xs i = some y := by
  obtain ⟨j, rfl⟩ := Int.eq_ofNat_of_zero_le h0
  have h2 : j < xs.length := by omega
  exact ⟨xs[j], by rw [Int.toNat_natCast]; exact List.getElem?_eq_getElem h2, atI_nat (List.getElem?_eq_getElem h2)⟩
/-- tuple + tuple, whatever they hold -/
theorem cat_sq {K : PySem.W.Frag} {H : Hp} {a b : Addr} {xs ys : List V} {Q : VK} (ha : SqT K H a xs) (hb : SqT K H b ys) (hl : xs.length + ys.length ≤ 100000) (h : ∀ (r : Addr) (H' : Hp), Same H H' → SqT K H' r (xs ++ ys) → Q (.ref r) H') : rCatA K (.ref a) (.ref b) H Q := by
  refine ⟨a, b, xs, ys, rfl, rfl, ha, hb, Cm.small hl, fun e => ?_, fun _ e => ?_, fun _ _ p np => ?_⟩
  · subst e
    exact h b H (Same.refl H) hb
  · subst e
    exact h a H (Same.refl H) (by rw [List.append_nil]; exact ha)
  · exact h p _ (Cm.same_new np) Cm.sqt_new
theorem shaped_of {d : PyData} (h1 : d.canLay0 = true) (h2 : d.depth ≤ 64) : SeqAt.shaped d = true := by
  show (d.canLay0 && decide (d.depth ≤ 64)) = true
  rw [Bool.and_eq_true]
  exact ⟨h1, decide_eq_true h2⟩
theorem eqv_self {d : PyData} (h : SeqAt.shaped d = true) : PyData.eqv d d = true := SeqAt.eqv_refl _ (SeqAt.canLay_of_shaped h)
/-- a tuple of a text and two numbers -/
theorem shaped_w2 {x : Str} (h : PyData.strOk x = true) (i j : Int) : SeqAt.shaped (.tuple [.str x, .int i, .int j]) = true :=
  shaped_of (by simp [PyData.canLay0, PyData.canLayAll0, h]) (by simp [PyData.depth, PyData.depthAll])
end Nst

set_option Elab.async false
set_option linter.all false
set_option maxRecDepth 100000
set_option maxHeartbeats 4000000
/-! Calls of methods that may raise: within a try (pe_methT), and where it is known that nothing is raised (passF). -/
namespace MethT
open PySem PySem.Spec PyProof.Rows L2
theorem passF {X : Cx} : Passes (L2.CX X.prog X.w) X E0 := fun _ _ _ _ _ _ _ h => by
  obtain ⟨_, _, _, _, _, _, _, _, _, _, _, _, e⟩ := h
  exact e.elim
section
variable {X : Cx} {CX : CXT} {k : Nat} {f C : Addr} {fd : FuncData} {ps : List Str} {sp : Sp} {E : L2.St → XK} {x m : Str} {p pos apos : Pos} {e o : Expr} {es : List Expr} {ta : TE} {t : TA}
def tMethT (C : Addr) (m : Str) (sp : Sp) (E : L2.St → XK) (ta : TE) (t : TA) : TE := fun σ H Q => ta σ H fun x H1 => ∃ a dx fs, x = .ref a ∧ H1 a = some (.ins C dx fs) ∧ fs.lookup m = none ∧ t σ H1 fun vs H2 => sp (x :: vs) H2 Q (E σ)
theorem pe_methT {pl : Sem Bool} (he : PE X o ta) (c : Cls X.K C) (hm : Meth X.K C m f) (F : FnOk X.prog X.w X.K X.mg X.base CX k f fd ps sp) (hr : Room k X.A) (hb : Binds X.K fd ps []) (hx : ∀ σ, PassesAt CX X σ (E σ)) (ha : PA X (e :: es) t)
    (hst : starEach (e :: es) X.env = (false, eval e X.env) :: starEach es X.env := by rfl) (hpl : (backTo pos (starEach es X.env)).any (·.1) = false := by rfl)
    (ht : eval (.Call (.Attribute o m apos) (e :: es) [] pos) X.env = (do
      let ov ← eval o X.env
      standAt apos.atName
      let (f, first) ← holding [ov] (getMethod ov m pl)
      callWith pos f first (backTo pos (starEach (e :: es) X.env)) (backToKw pos (keywordEach [] X.env))) := by rfl) :
    PE X (.Call (.Attribute o m apos) (e :: es) [] pos) (tMethT C m sp E ta t) := by
  refine ⟨fun pins s σ H Q I h => ?_⟩
  refine PySem.W.methodCall_KW (pl := pl) (thn (he.run pins s σ H _ I h) fun u s1 ⟨x, H1, I1, rx, a, dx, fs, ex, ea, l, q⟩ => ?_) ht
  subst ex
  obtain rfl : u = Value.ref a := rx
  refine getmeth_ok I1 ea c hm l ?_
  refine PySem.W.callWith_K (first := [.ref a]) (h₀ := X.base) I.ok.mod.kin hm.kp (thn (ha.run pos pins s1 σ H1 _ I1 q) fun us s2 ⟨vs, H2, I2, r, q2⟩ => ⟨I2.kIn, ?_⟩) hst hpl
  exact run_fnS (us := .ref a :: us) (vs := .ref a :: vs) F hr hb (hx σ) I2 (.cons rfl r) q2
theorem pe_methT0 {pl : Sem Bool} (he : PE X o ta) (c : Cls X.K C) (hm : Meth X.K C m f) (F : FnOk X.prog X.w X.K X.mg X.base CX k f fd ps sp) (hr : Room k X.A) (hb : Binds X.K fd ps []) (hx : ∀ σ, PassesAt CX X σ (E σ))
    (ht : eval (.Call (.Attribute o m apos) [] [] pos) X.env = (do
      let ov ← eval o X.env
      standAt apos.atName
      let (f, first) ← holding [ov] (getMethod ov m pl)
      callWith pos f first (backTo pos (starEach [] X.env)) (backToKw pos (keywordEach [] X.env))) := by rfl) :
    PE X (.Call (.Attribute o m apos) [] [] pos) (tMethT C m sp E ta tNil) := by
  refine ⟨fun pins s σ H Q I h => ?_⟩
  refine PySem.W.methodCall_KW (pl := pl) (thn (he.run pins s σ H _ I h) fun u s1 ⟨x, H1, I1, rx, a, dx, fs, ex, ea, l, q⟩ => ?_) ht
  subst ex
  obtain rfl : u = Value.ref a := rx
  refine getmeth_ok I1 ea c hm l ?_
  exact PySem.W.callWith_K0 (first := [.ref a]) I1.kIn hm.kp (run_fnS (us := [.ref a]) (vs := [.ref a]) F hr hb (hx σ) I1 (.cons rfl .nil) q)
end
end MethT

set_option Elab.async false
set_option linter.all false
set_option maxRecDepth 100000
set_option maxHeartbeats 4000000
/-! sorted(xs), sorted(d): items that are data, nested tuples; what comes out is the merge sort of the data. -/
namespace SortN
open PySem PySem.W PySem.Calls PyProof.Rows PyProof.V PySem.Spec L2 Pt ND

/-- the order of data -/
abbrev dle : PyData → PyData → Bool := dataLe false id
abbrev srt (ds : List PyData) : List PyData := ds.mergeSort dle
section
variable {X : Cx} {pins : List (Addr × Obj)} {σ : L2.St} {H : Hp} {s : Shared}
theorem each_reads (I : Inv X pins σ H s) : ∀ {xs : List V} {ds : List PyData} {us : List Value}, Rps X.K H xs ds → Vals xs us → EachIs (fun v d => ∃ as, Reads s.heap v d as) us ds
  | _, _, _, .nil, .nil => .nil
  | _, _, _, .cons h t, .cons h' t' => .cons (Dp.reads I _ _ _ h.dp h') (each_reads I t t')
theorem each_both {K : PySem.W.Frag} : ∀ {xs : List V} {ds : List PyData} {us : List Value}, Rps K H xs ds → Vals xs us → EachIs (fun v (b : V × PyData) => RelV b.1 v ∧ Rp K H b.1 b.2) us (xs.zip ds)
  | _, _, _, .nil, .nil => .nil
  | _, _, _, .cons h t, .cons h' t' => .cons ⟨h', h⟩ (each_both t t')
theorem each_snd {R : Value → PyData → Prop} : ∀ {xs : List V} {ds : List PyData} {us : List Value}, xs.length = ds.length → EachIs R us ds → EachIs (fun v (b : V × PyData) => R v b.2) us (xs.zip ds)
  | [], [], _, _, .nil => .nil
  | x :: xs, d :: ds, _, hl, .cons h t => .cons h (each_snd (Nat.succ.inj hl) t)
theorem out_of {K : PySem.W.Frag} : ∀ {bs : List (V × PyData)} {out : List Value}, EachIs (fun v (b : V × PyData) => RelV b.1 v ∧ Rp K H b.1 b.2) out bs → Vals (bs.map (·.1)) out ∧ Rps K H (bs.map (·.1)) (bs.map (·.2))
  | _, _, .nil => ⟨.nil, .nil⟩
  | _, _, .cons h t => ⟨.cons h.1 (out_of t).1, .cons h.2 (out_of t).2⟩
theorem zip_snd : ∀ {xs : List V} {ds : List PyData}, xs.length = ds.length → (xs.zip ds).map (·.2) = ds
  | [], [], _ => rfl
  | x :: xs, d :: ds, hl => congrArg (d :: ·) (zip_snd (Nat.succ.inj hl))
/-- what the sort gives -/
theorem sorted_out {K : PySem.W.Frag} {h : Heap} {xs : List V} {ds : List PyData} {us : List Value} (hal : AllAlike ds) (r : Rps K H xs ds) (rv : Vals xs us) (e : EachIs (fun v d => ∃ as, Reads h v d as) us ds) :
    ∃ ys, Vals ys (sortVals (dataKind h ds) false us us) ∧ Rps K H ys (srt ds) ∧ ys.length = xs.length := by
  have hl := r.len
  have e3 := sortVals_each (κ := dataKind h ds) (rev := false) (k := fun b : V × PyData => keyToks b.2) (each_both r rv) (each_snd hl (each_keys hal e))
  obtain ⟨v1, r1⟩ := out_of e3
  refine ⟨_, v1, ?_, ?_⟩
  · have em : ((xs.zip ds).mergeSort (sortLe (dataKind h ds).toKeyOrd false fun b : V × PyData => keyToks b.2)).map (·.2) = srt ds := by
      have q := sort_maps (r := sortLe (dataKind h ds).toKeyOrd false fun b : V × PyData => keyToks b.2) (s := dle) (fun b : V × PyData => b.2) (l := xs.zip ds) (fun a _ b _ => rfl)
      rw [q, zip_snd hl]
    rw [← em]
    exact r1
  · rw [List.length_map, List.length_mergeSort, List.length_zip, hl, Nat.min_self]
end
section
variable {X : Cx}
/-- sorted(xs) of a list -/
def rSortL (K : PySem.W.Frag) : List V → Hp → VK → Prop := fun vs H Q => ∃ (a : Addr) (xs : List V) (ds : List PyData), vs = [.ref a] ∧ SqL K H a xs ∧ Rps K H xs ds ∧ AllAlike ds ∧ Sortable ds ∧ (∀ d ∈ ds, d.depth ≤ 50) ∧
  ∀ (ys : List V) (p : Addr), Rps K H ys (srt ds) → H p = none → Q (.ref p) (upd H p (.lst ys))
theorem call_sortL (hc : X.calm = true) (hu : X.A.units + 64 < cLine) : CallR X (.builtin "sorted") (rSortL X.K) := by
  intro pins s σ H vs us Q I r q
  obtain ⟨a, xs, ds, rfl, hl, hr, hal, hk, hdp, q⟩ := q
  rw [Vals.ref1 r]
  obtain ⟨its, rv, pl, hz⟩ := I.list hl
  have hzi : its.length ≤ sizeLine := by rw [← rv.length]; exact hz
  have I1 : Inv X pins σ H { s with heap := sortingHeap (copyHeap s.heap its) (s.heap.objs.size + 1) its, toks := s.toks } := I.kept fun b o e => sorting_copy_old e
  have ea : EachIs (fun v d => ∃ as, Reads (sortingHeap (copyHeap s.heap its) (s.heap.objs.size + 1) its) v d as) its ds := each_reads I1 hr rv
  refine sorted_vals (κ := dataKind (sortingHeap (copyHeap s.heap its) (s.heap.objs.size + 1) its) ds) pl.isList (SortsAt.data (s := { s with heap := sortingHeap (copyHeap s.heap its) (s.heap.objs.size + 1) its }) ea hal hk fun d hd => ?_) hzi ?_
  · have := hdp d hd
    simp only [Around.in1_units]
    omega
  · obtain ⟨ys, v1, r1, l1⟩ := sorted_out (K := X.K) hal hr rv ea
    obtain ⟨e', he'⟩ := sortedAll_at s.heap its (sortVals (dataKind (sortingHeap (copyHeap s.heap its) (s.heap.objs.size + 1) its) ds) false its its).toArray
    refine ⟨.ref (s.heap.objs.size + 1), upd H (s.heap.objs.size + 1) (.lst ys), I.laid (t' := s.toks) (fun b u e => sortedAll_old e) (Nat.le_succ _) ?_, rfl, q ys _ r1 (I.hok.fresh (Nat.le_succ _))⟩
    exact ⟨by rw [l1]; exact hz, _, e', v1, he'⟩
/-- sorted(t) of a tuple -/
def rSortTup (K : PySem.W.Frag) : List V → Hp → VK → Prop := fun vs H Q => ∃ (a : Addr) (xs : List V) (ds : List PyData), vs = [.ref a] ∧ SqT K H a xs ∧ Rps K H xs ds ∧ AllAlike ds ∧ Sortable ds ∧ (∀ d ∈ ds, d.depth ≤ 50) ∧
  ∀ (ys : List V) (p : Addr), Rps K H ys (srt ds) → H p = none → Q (.ref p) (upd H p (.lst ys))
theorem call_sortTup (hc : X.calm = true) (hu : X.A.units + 64 < cLine) : CallR X (.builtin "sorted") (rSortTup X.K) := by
  intro pins s σ H vs us Q I r q
  obtain ⟨a, xs, ds, rfl, hl, hr, hal, hk, hdp, q⟩ := q
  rw [Vals.ref1 r]
  obtain ⟨its, rv, ⟨o, ho, hcl, n, hd⟩, hz⟩ := I.tuple hl
  have hzi : its.length ≤ sizeLine := by rw [← rv.length]; exact hz
  refine Calls.call_function_entry PyProof.Rows.kind_sorted PyProof.Rows.plain_sorted PyProof.Rows.entry_sorted (PyProof.Rows.args_sorted1 _) ?_
  unfold Builtin.«sorted»
  refine wpAny_bind (m := checkCount "sorted" 1 1 _) (wpAny_pure ?_)
  refine wpAny_bind (wpAny_collect_seq a (.inr rfl) ho hcl hd (fun h' hkp => ?_) (by rw [List.size_toArray]; exact hzi))
  have I1 : Inv X pins σ H { s with heap := h' } := I.kept (t' := s.toks) hkp
  rw [show its.toArray.toList = its from rfl]
  refine wpAny_bind (wpAny_newList ?_ hzi)
  have hoL : (h'.push (seqObj "list" its.toArray 0)).get? h'.objs.size = some (seqObj "list" its.toArray 0) := Heap.get?_push_size _ rfl
  show wpAny _ _ _ _ _ { s with heap := h'.push (seqObj "list" its.toArray 0) }
  have old : ∀ b u, h'.get? b = some u → (sortingHeap (h'.push (seqObj "list" its.toArray 0)) h'.objs.size its).get? b = some u := fun b u q1 =>
    sortingHeap_old (Nat.ne_of_lt (Heap.lt_size q1)) (Heap.get?_push_of_some _ q1)
  have I2 : Inv X pins σ H { s with heap := sortingHeap (h'.push (seqObj "list" its.toArray 0)) h'.objs.size its } := I1.kept (t' := s.toks) old
  have ea := each_reads I2 hr rv
  refine wpAny_bind (wpAny_holding (wpAny_call_entry PyProof.Rows.slot_list_sort ⟨_, hoL, rfl⟩ PyProof.Rows.entry_list_sort
    (list_sort_vals (κ := dataKind (sortingHeap (h'.push (seqObj "list" its.toArray 0)) h'.objs.size its) ds) (s := { s with heap := h'.push (seqObj "list" its.toArray 0) }) hoL
      (SortsAt.data (s := { s with heap := sortingHeap (h'.push (seqObj "list" its.toArray 0)) h'.objs.size its }) ea hal hk fun d hd => ?_) hzi ⟨_, rfl, ?_⟩) (PyProof.Rows.args_list_sort _)))
  · have := hdp d hd
    simp only [Around.in1_units]
    omega
  · obtain ⟨ys, v1, r1, l1⟩ := sorted_out (K := X.K) hal hr rv ea
    obtain ⟨e', he'⟩ := PyProof.Rows.sortedHeap_at (vs := its) (out := (sortVals (dataKind (sortingHeap (h'.push (seqObj "list" its.toArray 0)) h'.objs.size its) ds) false its its).toArray) hoL
    refine wpAny_pure ⟨_, rfl, .ref h'.objs.size, upd H h'.objs.size (.lst ys), I1.laid (t' := s.toks) (fun b u e => ?_) (Nat.le_refl _)
      (show ObjOk X.prog X.w _ _ _ (.lst ys) from ⟨by rw [l1]; exact hz, _, e', v1, he'⟩), rfl, q ys _ r1 (I1.hok.fresh (Nat.le_refl _))⟩
    have hb : b < h'.objs.size := Heap.lt_size e
    rw [PyProof.Rows.sortedHeap_old (Nat.ne_of_lt hb) (by rw [size_push']; exact Nat.lt_succ_of_lt hb)]
    exact Heap.get?_push_of_some _ e
theorem vals_keys {K : PySem.W.Frag} {H : Hp} {w : World} {P : Program} : ∀ {kvs : List (NestedKey × V)} {xs : List (NestedKey × Addr × Value)}, KN K H kvs xs → Rps K H (xs.map fun x => V.ref x.2.1) (kvs.map (·.1.data))
  | _, _, .nil => .nil
  | _, _, .cons h t => .cons h.2.1.1 (vals_keys (w := w) (P := P) t)
theorem vals_refs : ∀ xs : List (NestedKey × Addr × Value), Vals (xs.map fun x => V.ref x.2.1) (xs.map fun x => Value.ref x.2.1)
  | [] => .nil
  | _ :: xs => .cons rfl (vals_refs xs)
/-- sorted(d) of a dict with keys of any depth -/
def rSortD (P : Program) (w : World) (K : PySem.W.Frag) : List V → Hp → VK → Prop := fun vs H Q => ∃ (a : Addr) (kvs : List (NestedKey × V)), vs = [.ref a] ∧ NDct P w K H a kvs ∧ AllAlike (kvs.map (·.1.data)) ∧ Sortable (kvs.map (·.1.data)) ∧
  (∀ d ∈ kvs.map (·.1.data), d.depth ≤ 50) ∧ ∀ (ys : List V) (p : Addr), Rps K H ys (srt (kvs.map (·.1.data))) → H p = none → Q (.ref p) (upd H p (.lst ys))
theorem call_sortD (hc : X.calm = true) (hu : X.A.units + 64 < cLine) : CallR X (.builtin "sorted") (rSortD X.prog X.w X.K) := by
  intro pins s σ H vs us Q I r q
  obtain ⟨a, kvs, rfl, g, hal, hk, hdp, q⟩ := q
  rw [Vals.ref1 r]
  obtain ⟨z, lo, xs, e, rel, dd⟩ := nd_of I g
  obtain ⟨o, es, ep, h1, h2, h3, h4, h5, h6⟩ := dd
  have hl : es.size = kvs.length := by
    have q1 := congrArg List.length h4
    rw [List.length_map, Array.length_toList] at q1
    rw [q1, Paired.length rel]
  refine Calls.call_function_entry PyProof.Rows.kind_sorted PyProof.Rows.plain_sorted PyProof.Rows.entry_sorted (PyProof.Rows.args_sorted1 _) ?_
  unfold Builtin.«sorted»
  refine wpAny_bind (m := checkCount "sorted" 1 1 _) (wpAny_pure ?_)
  refine wpAny_bind (PySem.W.kdu_collect (A := X.A.in1) (KdlSrc.rawDict (d := a) (es := es) (ep := ep) lo) (I.ok.hd hc) ⟨o, h1, h2, h3⟩ (by rw [hl]; exact z) fun h' tk acc hkp hacc => ?_)
  have hav : acc.toList = xs.map fun x => Value.ref x.2.1 := by
    refine List.ext_getElem? fun j => ?_
    by_cases hj : j < es.size
    · have hja : j < acc.size := by rw [hacc.1]; exact hj
      obtain ⟨hi, ev⟩ := hacc.2 j acc[j] (Array.getElem?_eq_getElem hja)
      have ex : es.toList[j]? = (xs.map (entryOfKey (nestedKind X.prog X.w)))[j]? := by rw [h4]
      rw [Array.getElem?_toList, Array.getElem?_eq_getElem hj, List.getElem?_map] at ex
      rw [Array.getElem?_toList, Array.getElem?_eq_getElem hja, List.getElem?_map, ev]
      cases hx : xs[j]? with
      | none =>
        rw [hx] at ex
        cases ex
      | some x =>
        rw [hx] at ex
        have e2 : es[j] = entryOfKey (nestedKind X.prog X.w) x := Option.some.inj ex
        rw [e2]
        rfl
    · have hn : es.size = xs.length := by rw [hl, Paired.length rel]
      rw [List.getElem?_eq_none (by rw [Array.length_toList, hacc.1]; omega), List.getElem?_eq_none (by rw [List.length_map]; omega)]
  have I1 : Inv X pins σ H { s with heap := h', toks := tk } := I.kept hkp
  have hzi : acc.toList.length ≤ sizeLine := by
    rw [Array.length_toList, hacc.1, hl]
    exact z
  refine wpAny_bind (wpAny_newList ?_ hzi)
  have hoL : (h'.push (seqObj "list" acc.toList.toArray 0)).get? h'.objs.size = some (seqObj "list" acc.toList.toArray 0) := Heap.get?_push_size _ rfl
  show wpAny _ _ _ _ _ { s with heap := h'.push (seqObj "list" acc.toList.toArray 0), toks := tk }
  have rk := vals_keys (K := X.K) (w := X.w) (P := X.prog) rel
  have rv : Vals (xs.map fun x => V.ref x.2.1) acc.toList := by
    rw [hav]
    exact vals_refs xs
  have old : ∀ b u, h'.get? b = some u → (sortingHeap (h'.push (seqObj "list" acc.toList.toArray 0)) h'.objs.size acc.toList).get? b = some u := fun b u q1 =>
    sortingHeap_old (Nat.ne_of_lt (Heap.lt_size q1)) (Heap.get?_push_of_some _ q1)
  have I2 : Inv X pins σ H { s with heap := sortingHeap (h'.push (seqObj "list" acc.toList.toArray 0)) h'.objs.size acc.toList, toks := tk } := I1.kept old
  have ea := each_reads I2 rk rv
  refine wpAny_bind (wpAny_holding (wpAny_call_entry PyProof.Rows.slot_list_sort ⟨_, hoL, rfl⟩ PyProof.Rows.entry_list_sort
    (list_sort_vals (κ := dataKind (sortingHeap (h'.push (seqObj "list" acc.toList.toArray 0)) h'.objs.size acc.toList) (kvs.map (·.1.data))) (s := { s with heap := h'.push (seqObj "list" acc.toList.toArray 0), toks := tk }) hoL
      (SortsAt.data (s := { s with heap := sortingHeap (h'.push (seqObj "list" acc.toList.toArray 0)) h'.objs.size acc.toList, toks := tk }) ea hal hk fun d hd => ?_) hzi ⟨_, rfl, ?_⟩) (PyProof.Rows.args_list_sort _)))
  · have := hdp d hd
    simp only [Around.in1_units]
    omega
  · obtain ⟨ys, v1, r1, l1⟩ := sorted_out (K := X.K) hal rk rv ea
    obtain ⟨e', he'⟩ := PyProof.Rows.sortedHeap_at (vs := acc.toList) (out := (sortVals (dataKind (sortingHeap (h'.push (seqObj "list" acc.toList.toArray 0)) h'.objs.size acc.toList) (kvs.map (·.1.data))) false acc.toList acc.toList).toArray) hoL
    refine wpAny_pure ⟨_, rfl, .ref h'.objs.size, upd H h'.objs.size (.lst ys), I1.laid (t' := tk) (fun b u e => ?_) (Nat.le_refl _)
      (show ObjOk X.prog X.w _ _ _ (.lst ys) from ⟨by rw [l1, List.length_map, ← Paired.length rel]; exact z, _, e', v1, he'⟩), rfl, q ys _ r1 (I1.hok.fresh (Nat.le_refl _))⟩
    have hb : b < h'.objs.size := Heap.lt_size e
    rw [PyProof.Rows.sortedHeap_old (Nat.ne_of_lt hb) (by rw [size_push']; exact Nat.lt_succ_of_lt hb)]
    exact Heap.get?_push_of_some _ e
end
end SortN

set_option Elab.async false
set_option linter.all false
set_option maxRecDepth 100000
/-! x > y of data (tuples: the first difference decides), and a list comprehension over zip of two tuples of any lengths. -/
namespace GtD
open PySem PySem.Spec PyProof.Rows L2 RZ
section
variable {X : Cx}
def rGtD (K : PySem.W.Frag) : R2 := fun x y H Q => ∃ d e, Dp K H x d ∧ Dp K H y e ∧ PySem.W.alike d e = true ∧ d ≠ .none ∧ d.depth ≤ 40 ∧ Q (.bl (PySem.W.dataLt e d)) H
theorem op_gtD (hu : X.A.units + 64 < cLine) : OpR X (compareOp .Gt) (rGtD X.K) := by
  intro pins s σ H x y v u Q I rx ry h
  obtain ⟨d, e, hd, he, al, nn, dp, q⟩ := h
  obtain ⟨as, r1⟩ := Dp.reads I d x v hd rx
  obtain ⟨bs, r2⟩ := Dp.reads I e y u he ry
  exact PySem.W.gt_data r1 r2 al nn (by have := Nat.min_le_left d.depth e.depth; omega) ⟨.bl _, H, I, rfl, q⟩
end
theorem lc_zipT {K : PySem.W.Frag} {a b : Addr} {xs ys : List V} {g : TG} {tt : TT} {te : TE} {vs : List Nat} {σ : L2.St} {H1 : Hp} {D : Addr} {Qd : Hp → Prop} (Pv : Nat → Hp → Prop) (h0 : Pv 0 (upd H1 D (.lst []))) (hq : ∀ i H, Pv i H → SqT K H a xs ∧ SqT K H b ys)
    (hs : ∀ (i : Nat) (x y : V) (T : Addr) (H : Hp), xs[i]? = some x → ys[i]? = some y → Pv i H → H T = none → g (.ref T) (wipe σ vs) (upd H T (.tup [x, y])) fun σ2 H2 => wipe σ2 vs = wipe σ vs ∧ tt σ2 H2 fun b H3 =>
      if b = true then te σ2 H3 fun y H4 => ∃ acc, H4 D = some (.lst acc) ∧ acc.length < sizeLine ∧ Pv (i + 1) (upd H4 D (.lst (acc ++ [y]))) else Pv (i + 1) H3) (hd : ∀ H, Pv (min xs.length ys.length) H → Qd H) :
    ∃ W : Nat → Nat → Hp → Prop, (∃ m, W 0 m (upd H1 D (.lst []))) ∧ ∀ i m H, W i m H →
      ((ItzT K a b).stop i H ∧ Qd H) ∨ ((ItzT K a b).go i H ∧ ∃ Nx : Hp → Prop, (∀ H', Nx H' → ∃ m', m' < m ∧ W (i + 1) m' H') ∧ ∀ x H', (ItzT K a b).yld i H x H' → g x (wipe σ vs) H' fun σ2 H2 => wipe σ2 vs = wipe σ vs ∧ tt σ2 H2 fun b H3 =>
        if b = true then te σ2 H3 fun y H4 => ∃ acc, H4 D = some (.lst acc) ∧ acc.length < sizeLine ∧ Nx (upd H4 D (.lst (acc ++ [y]))) else Nx H3) := by
  refine ⟨fun i m H => m = min xs.length ys.length - i ∧ i ≤ min xs.length ys.length ∧ Pv i H, ⟨min xs.length ys.length, by simp, Nat.zero_le _, h0⟩, ?_⟩
  rintro i m H ⟨rfl, hi, p⟩
  obtain ⟨qx, qy⟩ := hq i H p
  by_cases hlt : i < min xs.length ys.length
  · have h1 : i < xs.length := by omega
    have h2 : i < ys.length := by omega
    have hx : xs[i]? = some xs[i] := List.getElem?_eq_getElem h1
    have hy : ys[i]? = some ys[i] := List.getElem?_eq_getElem h2
    refine .inr ⟨⟨xs, ys, _, _, qx, qy, hx, hy⟩, Pv (i + 1), fun H' p' => ⟨min xs.length ys.length - (i + 1), by omega, rfl, hlt, p'⟩, fun v H' y => ?_⟩
    obtain ⟨T, x', y', rfl, hT, rfl, f1, f2⟩ := y
    exact hs i x' y' T H (f1 xs qx) (f2 ys qy) p hT
  · have e : i = min xs.length ys.length := by omega
    subst e
    exact .inl ⟨⟨xs, ys, qx, qy, by omega⟩, hd H p⟩
end GtD

set_option Elab.async false
set_option linter.all false
set_option maxRecDepth 100000
set_option maxHeartbeats 4000000
--%OPEN Cm Pt ND
--%VAR variable {P : Program} {w : World} {K : PySem.W.Frag} {mg : Str → Option Value} {base : Heap} {a : Fds}
namespace K36
open PySem PySem.Spec PyProof.Rows L2 Cm Pt ND
open PySem PySem.Spec PyProof.Rows L2
def topS (i : Nat) : Stmt := PySem.Challenge.pw_portage_k36_bundles_checked.main.body.getD i (.Pass ⟨0, 0, 0, 0⟩)
abbrev s_is_name : Stmt := topS 4
abbrev N_is_name : List Str := ["text"]
theorem sc_is_name : FnScope N_is_name ["text"] (defScope s_is_name) := ⟨rfl, rfl, rfl, by decide +kernel, rfl, by decide +kernel, by decide +kernel⟩
abbrev s_is_integer : Stmt := topS 5
abbrev N_is_integer : List Str := ["value"]
theorem sc_is_integer : FnScope N_is_integer ["value"] (defScope s_is_integer) := ⟨rfl, rfl, rfl, by decide +kernel, rfl, by decide +kernel, by decide +kernel⟩
abbrev s_is_row : Stmt := topS 8
abbrev N_is_row : List Str := ["value", "many"]
theorem sc_is_row : FnScope N_is_row ["value", "many"] (defScope s_is_row) := ⟨rfl, rfl, rfl, by decide +kernel, rfl, by decide +kernel, by decide +kernel⟩
abbrev s_is_natural : Stmt := topS 9
abbrev N_is_natural : List Str := ["value"]
theorem sc_is_natural : FnScope N_is_natural ["value"] (defScope s_is_natural) := ⟨rfl, rfl, rfl, by decide +kernel, rfl, by decide +kernel, by decide +kernel⟩
abbrev s_is_process_name : Stmt := topS 10
abbrev N_is_process_name : List Str := ["value", "part"]
theorem sc_is_process_name : FnScope N_is_process_name ["value"] (defScope s_is_process_name) := ⟨rfl, rfl, rfl, by decide +kernel, rfl, by decide +kernel, by decide +kernel⟩
abbrev s_is_object_name : Stmt := topS 11
abbrev N_is_object_name : List Str := ["value"]
theorem sc_is_object_name : FnScope N_is_object_name ["value"] (defScope s_is_object_name) := ⟨rfl, rfl, rfl, by decide +kernel, rfl, by decide +kernel, by decide +kernel⟩
abbrev s_is_value : Stmt := topS 12
abbrev N_is_value : List Str := ["value"]
theorem sc_is_value : FnScope N_is_value ["value"] (defScope s_is_value) := ⟨rfl, rfl, rfl, by decide +kernel, rfl, by decide +kernel, by decide +kernel⟩
abbrev s_is_bundle : Stmt := topS 15
abbrev N_is_bundle : List Str := ["value", "name", "maker", "fields", "entries", "count", "before", "entry"]
theorem sc_is_bundle : FnScope N_is_bundle ["value"] (defScope s_is_bundle) := ⟨rfl, rfl, rfl, by decide +kernel, rfl, by decide +kernel, by decide +kernel⟩
abbrev s_is_code_name : Stmt := topS 16
abbrev N_is_code_name : List Str := ["value"]
theorem sc_is_code_name : FnScope N_is_code_name ["value"] (defScope s_is_code_name) := ⟨rfl, rfl, rfl, by decide +kernel, rfl, by decide +kernel, by decide +kernel⟩
abbrev s_are_values : Stmt := topS 17
abbrev N_are_values : List Str := ["value", "part"]
theorem sc_are_values : FnScope N_are_values ["value"] (defScope s_are_values) := ⟨rfl, rfl, rfl, by decide +kernel, rfl, by decide +kernel, by decide +kernel⟩
abbrev s_is_entry : Stmt := topS 18
abbrev N_is_entry : List Str := ["value", "process", "depth", "frame", "back", "token", "word"]
theorem sc_is_entry : FnScope N_is_entry ["value"] (defScope s_is_entry) := ⟨rfl, rfl, rfl, by decide +kernel, rfl, by decide +kernel, by decide +kernel⟩
abbrev s_is_frame : Stmt := topS 19
abbrev N_is_frame : List Str := ["value", "operation", "at", "held", "stack"]
theorem sc_is_frame : FnScope N_is_frame ["value"] (defScope s_is_frame) := ⟨rfl, rfl, rfl, by decide +kernel, rfl, by decide +kernel, by decide +kernel⟩
abbrev s_is_back : Stmt := topS 20
abbrev N_is_back : List Str := ["value", "depth"]
theorem sc_is_back : FnScope N_is_back ["value", "depth"] (defScope s_is_back) := ⟨rfl, rfl, rfl, by decide +kernel, rfl, by decide +kernel, by decide +kernel⟩
abbrev s_is_above : Stmt := topS 21
abbrev N_is_above : List Str := ["entry", "before"]
theorem sc_is_above : FnScope N_is_above ["entry", "before"] (defScope s_is_above) := ⟨rfl, rfl, rfl, by decide +kernel, rfl, by decide +kernel, by decide +kernel⟩
abbrev s_lw_numbers : Stmt := topS 23
abbrev N_lw_numbers : List Str := ["script", "many", "numbers", "k", "cell", "j", "mixed", "base", "last"]
theorem sc_lw_numbers : FnScope N_lw_numbers ["script", "many"] (defScope s_lw_numbers) := ⟨rfl, rfl, rfl, by decide +kernel, rfl, by decide +kernel, by decide +kernel⟩
abbrev s_lw_object : Stmt := topS 24
abbrev N_lw_object : List Str := ["number", "process"]
theorem sc_lw_object : FnScope N_lw_object ["number"] (defScope s_lw_object) := ⟨rfl, rfl, rfl, by decide +kernel, rfl, by decide +kernel, by decide +kernel⟩
abbrev s_lw_value : Stmt := topS 25
abbrev N_lw_value : List Str := ["number", "way"]
theorem sc_lw_value : FnScope N_lw_value ["number"] (defScope s_lw_value) := ⟨rfl, rfl, rfl, by decide +kernel, rfl, by decide +kernel, by decide +kernel⟩
abbrev s_lw_values : Stmt := topS 26
abbrev N_lw_values : List Str := ["numbers", "at", "most", "k"]
theorem sc_lw_values : FnScope N_lw_values ["numbers", "at", "most"] (defScope s_lw_values) := ⟨rfl, rfl, rfl, by decide +kernel, rfl, by decide +kernel, by decide +kernel⟩
abbrev s_lw_entry : Stmt := topS 27
abbrev N_lw_entry : List Str := ["numbers", "at", "number", "process", "k", "depth", "back", "word", "token", "operation", "frame"]
theorem sc_lw_entry : FnScope N_lw_entry ["numbers", "at"] (defScope s_lw_entry) := ⟨rfl, rfl, rfl, by decide +kernel, rfl, by decide +kernel, by decide +kernel⟩
abbrev s_lw_bundle : Stmt := topS 28
abbrev N_lw_bundle : List Str := ["numbers", "at", "entries", "k", "entry", "number", "maker", "order", "rows", "one"]
theorem sc_lw_bundle : FnScope N_lw_bundle ["numbers", "at"] (defScope s_lw_bundle) := ⟨rfl, rfl, rfl, by decide +kernel, rfl, by decide +kernel, by decide +kernel⟩
abbrev s_lw_bad_values : Stmt := topS 29
abbrev N_lw_bad_values : List Str := ["far"]
theorem sc_lw_bad_values : FnScope N_lw_bad_values [] (defScope s_lw_bad_values) := ⟨rfl, rfl, rfl, by decide +kernel, rfl, by decide +kernel, by decide +kernel⟩
abbrev s_lw_bad_entries : Stmt := topS 30
abbrev N_lw_bad_entries : List Str := ["entry", "process", "depth", "frame", "back", "token", "word", "found"]
theorem sc_lw_bad_entries : FnScope N_lw_bad_entries ["entry"] (defScope s_lw_bad_entries) := ⟨rfl, rfl, rfl, by decide +kernel, rfl, by decide +kernel, by decide +kernel⟩
abbrev s_law : Stmt := topS 31
abbrev N_law : List Str := ["script", "numbers", "bundle", "name", "maker", "fields", "entries", "count", "bad", "value", "one", "entry", "at", "other"]
theorem sc_law : FnScope N_law ["script"] (defScope s_law) := ⟨rfl, rfl, rfl, by decide +kernel, rfl, by decide +kernel, by decide +kernel⟩
abbrev v_WORDS : List He.Dv := [.str "interface", .str "maker", .str "attached", .str "field", .str "op", .str "let", .str "if", .str "else", .str "while", .str "return", .str "print", .str "move", .str "to", .str "fork", .str "nil", .str "self", .str "new", .str "and", .str "or", .str "not", .str "int", .str "start"]
abbrev v_NIL : List He.Dv := [.str "nil"]
abbrev v_FAULTS : List He.Dv := [.str "number", .str "large", .str "nil"]
/-- the function objects that the top has made -/
structure Fds where
  d_is_name : FuncData
  d_is_integer : FuncData
  d_is_row : FuncData
  d_is_natural : FuncData
  d_is_process_name : FuncData
  d_is_object_name : FuncData
  d_is_value : FuncData
  d_is_bundle : FuncData
  d_is_code_name : FuncData
  d_are_values : FuncData
  d_is_entry : FuncData
  d_is_frame : FuncData
  d_is_back : FuncData
  d_is_above : FuncData
  d_lw_numbers : FuncData
  d_lw_object : FuncData
  d_lw_value : FuncData
  d_lw_values : FuncData
  d_lw_entry : FuncData
  d_lw_bundle : FuncData
  d_lw_bad_values : FuncData
  d_lw_bad_entries : FuncData
  d_law : FuncData
/-- what the walks ask of the top -/
structure Txt (K : PySem.W.Frag) (mg : Str → Option Value) (w : World) (a : Fds) : Prop where
  F_is_name : Cm.FnP K "is_name" s_is_name (He.ga K "is_name") a.d_is_name
  b_is_name : Binds K a.d_is_name ["text"] []
  g_is_name : mg "is_name" = some (.ref (He.ga K "is_name"))
  F_is_integer : Cm.FnP K "is_integer" s_is_integer (He.ga K "is_integer") a.d_is_integer
  b_is_integer : Binds K a.d_is_integer ["value"] []
  g_is_integer : mg "is_integer" = some (.ref (He.ga K "is_integer"))
  F_is_row : Cm.FnP K "is_row" s_is_row (He.ga K "is_row") a.d_is_row
  b_is_row : Binds K a.d_is_row ["value", "many"] []
  g_is_row : mg "is_row" = some (.ref (He.ga K "is_row"))
  F_is_natural : Cm.FnP K "is_natural" s_is_natural (He.ga K "is_natural") a.d_is_natural
  b_is_natural : Binds K a.d_is_natural ["value"] []
  g_is_natural : mg "is_natural" = some (.ref (He.ga K "is_natural"))
  F_is_process_name : Cm.FnP K "is_process_name" s_is_process_name (He.ga K "is_process_name") a.d_is_process_name
  b_is_process_name : Binds K a.d_is_process_name ["value"] []
  g_is_process_name : mg "is_process_name" = some (.ref (He.ga K "is_process_name"))
  F_is_object_name : Cm.FnP K "is_object_name" s_is_object_name (He.ga K "is_object_name") a.d_is_object_name
  b_is_object_name : Binds K a.d_is_object_name ["value"] []
  g_is_object_name : mg "is_object_name" = some (.ref (He.ga K "is_object_name"))
  F_is_value : Cm.FnP K "is_value" s_is_value (He.ga K "is_value") a.d_is_value
  b_is_value : Binds K a.d_is_value ["value"] []
  g_is_value : mg "is_value" = some (.ref (He.ga K "is_value"))
  F_is_bundle : Cm.FnP K "is_bundle" s_is_bundle (He.ga K "is_bundle") a.d_is_bundle
  b_is_bundle : Binds K a.d_is_bundle ["value"] []
  g_is_bundle : mg "is_bundle" = some (.ref (He.ga K "is_bundle"))
  F_is_code_name : Cm.FnP K "_is_code_name" s_is_code_name (He.ga K "_is_code_name") a.d_is_code_name
  b_is_code_name : Binds K a.d_is_code_name ["value"] []
  g_is_code_name : mg "_is_code_name" = some (.ref (He.ga K "_is_code_name"))
  F_are_values : Cm.FnP K "_are_values" s_are_values (He.ga K "_are_values") a.d_are_values
  b_are_values : Binds K a.d_are_values ["value"] []
  g_are_values : mg "_are_values" = some (.ref (He.ga K "_are_values"))
  F_is_entry : Cm.FnP K "_is_entry" s_is_entry (He.ga K "_is_entry") a.d_is_entry
  b_is_entry : Binds K a.d_is_entry ["value"] []
  g_is_entry : mg "_is_entry" = some (.ref (He.ga K "_is_entry"))
  F_is_frame : Cm.FnP K "_is_frame" s_is_frame (He.ga K "_is_frame") a.d_is_frame
  b_is_frame : Binds K a.d_is_frame ["value"] []
  g_is_frame : mg "_is_frame" = some (.ref (He.ga K "_is_frame"))
  F_is_back : Cm.FnP K "_is_back" s_is_back (He.ga K "_is_back") a.d_is_back
  b_is_back : Binds K a.d_is_back ["value", "depth"] []
  g_is_back : mg "_is_back" = some (.ref (He.ga K "_is_back"))
  F_is_above : Cm.FnP K "_is_above" s_is_above (He.ga K "_is_above") a.d_is_above
  b_is_above : Binds K a.d_is_above ["entry", "before"] []
  g_is_above : mg "_is_above" = some (.ref (He.ga K "_is_above"))
  F_lw_numbers : Cm.FnP K "_law_numbers" s_lw_numbers (He.ga K "_law_numbers") a.d_lw_numbers
  b_lw_numbers : Binds K a.d_lw_numbers ["script", "many"] []
  g_lw_numbers : mg "_law_numbers" = some (.ref (He.ga K "_law_numbers"))
  F_lw_object : Cm.FnP K "_law_object" s_lw_object (He.ga K "_law_object") a.d_lw_object
  b_lw_object : Binds K a.d_lw_object ["number"] []
  g_lw_object : mg "_law_object" = some (.ref (He.ga K "_law_object"))
  F_lw_value : Cm.FnP K "_law_value" s_lw_value (He.ga K "_law_value") a.d_lw_value
  b_lw_value : Binds K a.d_lw_value ["number"] []
  g_lw_value : mg "_law_value" = some (.ref (He.ga K "_law_value"))
  F_lw_values : Cm.FnP K "_law_values" s_lw_values (He.ga K "_law_values") a.d_lw_values
  b_lw_values : Binds K a.d_lw_values ["numbers", "at", "most"] []
  g_lw_values : mg "_law_values" = some (.ref (He.ga K "_law_values"))
  F_lw_entry : Cm.FnP K "_law_entry" s_lw_entry (He.ga K "_law_entry") a.d_lw_entry
  b_lw_entry : Binds K a.d_lw_entry ["numbers", "at"] []
  g_lw_entry : mg "_law_entry" = some (.ref (He.ga K "_law_entry"))
  F_lw_bundle : Cm.FnP K "_law_bundle" s_lw_bundle (He.ga K "_law_bundle") a.d_lw_bundle
  b_lw_bundle : Binds K a.d_lw_bundle ["numbers", "at"] []
  g_lw_bundle : mg "_law_bundle" = some (.ref (He.ga K "_law_bundle"))
  F_lw_bad_values : Cm.FnP K "_law_bad_values" s_lw_bad_values (He.ga K "_law_bad_values") a.d_lw_bad_values
  b_lw_bad_values : Binds K a.d_lw_bad_values [] []
  g_lw_bad_values : mg "_law_bad_values" = some (.ref (He.ga K "_law_bad_values"))
  F_lw_bad_entries : Cm.FnP K "_law_bad_entries" s_lw_bad_entries (He.ga K "_law_bad_entries") a.d_lw_bad_entries
  b_lw_bad_entries : Binds K a.d_lw_bad_entries ["entry"] []
  g_lw_bad_entries : mg "_law_bad_entries" = some (.ref (He.ga K "_law_bad_entries"))
  F_law : Cm.FnP K "law" s_law (He.ga K "law") a.d_law
  b_law : Binds K a.d_law ["script"] []
  g_law : mg "law" = some (.ref (He.ga K "law"))
  g_MAX_NUMBER : ∃ t, mg "MAX_NUMBER" = some (.int 1000000000000 t)
  g_MAX_NAME : ∃ t, mg "MAX_NAME" = some (.int 12 t)
  g_WORDS : mg "WORDS" = some (.ref (He.ga K "WORDS"))
  k_WORDS : ∀ H, SqT K H (He.ga K "WORDS") (v_WORDS.map (He.Dv.v K))
  g_NIL : mg "NIL" = some (.ref (He.ga K "NIL"))
  k_NIL : ∀ H, SqT K H (He.ga K "NIL") (v_NIL.map (He.Dv.v K))
  g_FAULTS : mg "FAULTS" = some (.ref (He.ga K "FAULTS"))
  k_FAULTS : ∀ H, SqT K H (He.ga K "FAULTS") (v_FAULTS.map (He.Dv.v K))
  g_len : mg "len" = none
  g_isinstance : mg "isinstance" = none
  g_int : mg "int" = none
  g_bool : mg "bool" = none
  g_tuple : mg "tuple" = none
  g_all : mg "all" = none
  g_zip : mg "zip" = none
  g_str : mg "str" = none
  g_range : mg "range" = none
  g_abs : mg "abs" = none
  g_max : mg "max" = none
  g_sorted : mg "sorted" = none
variable {P : Program} {w : World} {K : PySem.W.Frag} {mg : Str → Option Value} {base : Heap} {a : Fds}
/-! ### names, values, entries, bundles: what the checks answer -/
abbrev V_WORDS : List V := [.str "interface", .str "maker", .str "attached", .str "field", .str "op", .str "let", .str "if", .str "else", .str "while", .str "return", .str "print", .str "move", .str "to", .str "fork", .str "nil", .str "self", .str "new", .str "and", .str "or", .str "not", .str "int", .str "start"]
def isName (z : Str) : Bool := !(decide (12 < (z.length : Int))) && (!(inV (.str z) V_WORDS) && (Txt.isascii z && (Txt.isalnum z && (match z.cps.toList with | c :: _ => Txt.isalpha ⟨#[c]⟩ | [] => false))))
mutual
def shortD : PyData → Bool
  | .str z => decide (z.length ≤ 1000)
  | .tuple ds => decide (ds.length ≤ 1000) && shortAll ds
  | _ => true
def shortAll : List PyData → Bool
  | [] => true
  | d :: r => shortD d && shortAll r
end
/-- data that may be looked at -/
structure Fit (d : PyData) : Prop where
  s : shortD d = true
  l : d.canLay0 = true
  p : d.depth ≤ 30
theorem fit_all : ∀ {ds : List PyData}, shortAll ds = true → PyData.canLayAll0 ds = true → PyData.depthAll ds ≤ 30 → ∀ x ∈ ds, Fit x
  | y :: r, h1, h2, h3, x, hx => by
    have a1 : shortD y = true ∧ shortAll r = true := Bool.and_eq_true_iff.mp h1
    have a2 : y.canLay0 = true ∧ PyData.canLayAll0 r = true := Bool.and_eq_true_iff.mp (by rw [PyData.canLayAll0] at h2; exact h2)
    have a3 : max y.depth (PyData.depthAll r) ≤ 30 := by rw [PyData.depthAll] at h3; exact h3
    rcases List.mem_cons.mp hx with e | e
    · rw [e]
      exact ⟨a1.1, a2.1, by omega⟩
    · exact fit_all a1.2 a2.2 (by omega) x e
theorem Fit.at_ {ds : List PyData} (f : Fit (.tuple ds)) : ∀ x ∈ ds, Fit x := by
  obtain ⟨h1, h2, h3⟩ := f
  have h1 := (Bool.and_eq_true_iff.mp (show (decide (ds.length ≤ 1000) && shortAll ds) = true from h1)).2
  rw [PyData.canLay0] at h2
  rw [PyData.depth] at h3
  exact fit_all h1 h2 (by omega)
theorem Fit.len {ds : List PyData} (f : Fit (.tuple ds)) : ds.length ≤ 1000 := of_decide_eq_true (Bool.and_eq_true_iff.mp (show (decide (ds.length ≤ 1000) && shortAll ds) = true from f.s)).1
theorem Fit.shaped {d : PyData} (f : Fit d) : SeqAt.shaped d = true := Nst.shaped_of f.l (Nat.le_trans f.p (by decide))
def spP (K : PySem.W.Frag) (f : PyData → Bool) : Sp := fun vs H Q _ => ∃ (v : V) (d : PyData), vs = [v] ∧ Rp K H v d ∧ Fit d ∧ ∀ H', Same H H' → Q (.bl (f d)) H'
def isTupD : PyData → Bool
  | .tuple _ => true
  | _ => false
def isStrD : PyData → Bool
  | .str _ => true
  | _ => false
def isIntD : PyData → Bool
  | .int _ => true
  | _ => false
def isBlD : PyData → Bool
  | .bool _ => true
  | _ => false
theorem tyT {H : Hp} {a : Addr} {xs : List V} (h : SqT K H a xs) : TyX K H (.ref a) (.type "tuple") := by
  rcases h with (h | ⟨o, h⟩) | ⟨o, its, n, e, c, _⟩
  · exact .base (.tup h)
  · exact .fTuple h
  · exact .kTuple e c
theorem isiT {H : Hp} {v : V} {d : PyData} (r : Rp K H v d) : ∃ t, TyX K H v t ∧ PySem.W.kitOne K t (.type "tuple") = some (isTupD d) := by
  cases r with
  | non => exact ⟨_, .base .non, kit_ty (show kitB "NoneType" "tuple" = some false by decide +kernel)⟩
  | bl b => exact ⟨_, .base (.bl b), kit_ty (show kitB "bool" "tuple" = some false by decide +kernel)⟩
  | int i => exact ⟨_, .base (.int i), kit_ty (show kitB "int" "tuple" = some false by decide +kernel)⟩
  | str x => exact ⟨_, .base (.str x), kit_ty (show kitB "str" "tuple" = some false by decide +kernel)⟩
  | tup h1 r => exact ⟨_, tyT h1, kit_ty (show kitB "tuple" "tuple" = some true by decide +kernel)⟩
theorem isiS {H : Hp} {v : V} {d : PyData} (r : Rp K H v d) : ∃ t, TyX K H v t ∧ PySem.W.kitOne K t (.type "str") = some (isStrD d) := by
  cases r with
  | non => exact ⟨_, .base .non, kit_ty (show kitB "NoneType" "str" = some false by decide +kernel)⟩
  | bl b => exact ⟨_, .base (.bl b), kit_ty (show kitB "bool" "str" = some false by decide +kernel)⟩
  | int i => exact ⟨_, .base (.int i), kit_ty (show kitB "int" "str" = some false by decide +kernel)⟩
  | str x => exact ⟨_, .base (.str x), kit_ty (show kitB "str" "str" = some true by decide +kernel)⟩
  | tup h1 r => exact ⟨_, tyT h1, kit_ty (show kitB "tuple" "str" = some false by decide +kernel)⟩
theorem isiI {H : Hp} {v : V} {d : PyData} (r : Rp K H v d) : ∃ t, TyX K H v t ∧ PySem.W.kitOne K t (.type "int") = some (isIntD d || isBlD d) := by
  cases r with
  | non => exact ⟨_, .base .non, kit_ty (show kitB "NoneType" "int" = some false by decide +kernel)⟩
  | bl b => exact ⟨_, .base (.bl b), kit_ty (show kitB "bool" "int" = some true by decide +kernel)⟩
  | int i => exact ⟨_, .base (.int i), kit_ty (show kitB "int" "int" = some true by decide +kernel)⟩
  | str x => exact ⟨_, .base (.str x), kit_ty (show kitB "str" "int" = some false by decide +kernel)⟩
  | tup h1 r => exact ⟨_, tyT h1, kit_ty (show kitB "tuple" "int" = some false by decide +kernel)⟩
theorem isiB {H : Hp} {v : V} {d : PyData} (r : Rp K H v d) : ∃ t, TyX K H v t ∧ PySem.W.kitOne K t (.type "bool") = some (isBlD d) := by
  cases r with
  | non => exact ⟨_, .base .non, kit_ty (show kitB "NoneType" "bool" = some false by decide +kernel)⟩
  | bl b => exact ⟨_, .base (.bl b), kit_ty (show kitB "bool" "bool" = some true by decide +kernel)⟩
  | int i => exact ⟨_, .base (.int i), kit_ty (show kitB "int" "bool" = some false by decide +kernel)⟩
  | str x => exact ⟨_, .base (.str x), kit_ty (show kitB "str" "bool" = some false by decide +kernel)⟩
  | tup h1 r => exact ⟨_, tyT h1, kit_ty (show kitB "tuple" "bool" = some false by decide +kernel)⟩
def spIsName : Sp := fun vs H Q _ => ∃ z : Str, vs = [.str z] ∧ z.length ≤ 1000 ∧ Q (.bl (isName z)) H
theorem ok_is_name (T : Txt K mg w a) : FnOk P w K mg base CX0 1 (He.ga K "is_name") a.d_is_name ["text"] spIsName := by
  refine T.F_is_name.ok sc_is_name (fun vs H Q E h => ?_) (fun cdv A outer s H vs Q E hr h => ?_)
  · obtain ⟨z, rfl, _⟩ := h
    rfl
  · obtain ⟨z, rfl, hz, q⟩ := h
    refine ⟨_, PSs.nox (pss_cons (ps_if (PW.pt (pw_or (pt_cmpR op_gt (pe_callB call_len_str (by rfl) T.g_len boot_len (pa_cons (pv 0) pa_nil)) (pe_glob (v := .int 12) (by rfl) T.g_MAX_NAME.choose_spec ⟨_, rfl⟩) (nomark _)) (pw_or1 (pt_cmpR op_in_seq (pv 0) (pe_glob (v := .ref (He.ga K "WORDS")) (by rfl) T.g_WORDS rfl) (by rfl))))) (pss_one (ps_ret pe_bl)) pss_nil)
      (pss_one (ps_ret (pe_and (pe_bm0 PySem.F.plainAttrs_str PySem.F.slot_str_isascii PySem.F.type_str_isascii mt_isascii (pv 0)) (pe_and (pe_bm0 PySem.F.plainAttrs_str PySem.F.slot_str_isalnum PySem.F.type_str_isalnum mt_isalnum (pv 0)) (pe_one (pe_bm0 PySem.F.plainAttrs_str PySem.F.slot_str_isalpha PySem.F.type_str_isalpha mt_isalpha (pe_ix ix_str (pv 0) pe_int (fun _ _ => rfl))))))))), ?_⟩
    refine ⟨.str z, rfl, z, rfl, Cm.small (by omega), _, _, rfl, rfl, _, rfl, Cm.itD (fun h1 => ?_) fun h1 => ?_⟩
    · have e : isName z = false := by
        unfold isName
        rw [decide_eq_true h1]
        rfl
      rw [e] at q
      exact q
    refine ⟨_, rfl, _, _, rfl, .inr (T.k_WORDS H), rfl, rfl, _, rfl, Cm.itV (fun h2 => ?_) fun h2 => ?_⟩
    · have e : isName z = false := by
        unfold isName
        rw [show inV (.str z) V_WORDS = true from h2]
        simp
      rw [e] at q
      exact q
    have e : isName z = (Txt.isascii z && (Txt.isalnum z && (match z.cps.toList with | c :: _ => Txt.isalpha ⟨#[c]⟩ | [] => false))) := by
      unfold isName
      rw [show inV (.str z) V_WORDS = false from h2, decide_eq_false h1]
      rfl
    rw [e] at q
    refine ⟨_, rfl, rfl, z, rfl, rfl, trivial, _, rfl, ?_⟩
    refine Cm.itB (fun h3 => ?_) fun h3 => ?_
    · rw [h3] at q
      refine ⟨_, rfl, rfl, z, rfl, rfl, trivial, _, rfl, ?_⟩
      refine Cm.itB (fun h4 => ?_) fun h4 => ?_
      · rw [h4] at q
        cases e2 : z.cps.toList with
        | nil =>
          have e3 : z = ⟨#[]⟩ := Cm.str_nil e2
          rw [e3] at h4
          cases h4
        | cons c r =>
          rw [e2] at q
          refine ⟨_, rfl, z, 0, c, rfl, rfl, Cm.small (by omega), ?_, rfl, _, rfl, rfl, trivial, q⟩
          rw [e2]
          exact atI_nat (j := 0) rfl
      · rw [h4] at q
        exact q
    · rw [h3] at q
      exact q
theorem ok_is_integer (T : Txt K mg w a) : FnOk P w K mg base CX0 1 (He.ga K "is_integer") a.d_is_integer ["value"] (spP K isIntD) := by
  refine T.F_is_integer.ok sc_is_integer (fun vs H Q E h => ?_) (fun cdv A outer s H vs Q E hr h => ?_)
  · obtain ⟨v, d, rfl, _⟩ := h
    rfl
  · obtain ⟨v, d, rfl, r, f, q⟩ := h
    refine ⟨_, PSs.nox (pss_one (ps_ret (pe_and (pe_callB call_isi (by rfl) T.g_isinstance boot_isinstance (pa_cons (pv 0) (pa_cons (pe_bltn (v := .ty "int") (by rfl) T.g_int boot_int rfl) pa_nil))) (pe_one (pe_not (pe_callB call_isi (by rfl) T.g_isinstance boot_isinstance (pa_cons (pv 0) (pa_cons (pe_bltn (v := .ty "bool") (by rfl) T.g_bool boot_bool rfl) pa_nil)))))))), ?_⟩
    obtain ⟨t1, h1, k1⟩ := isiI r
    obtain ⟨t2, h2, k2⟩ := isiB r
    have q0 := q H (Same.refl _)
    refine ⟨_, rfl, _, _, _, _, _, rfl, .ty "int", h1, k1, _, rfl, Cm.itB (fun e => ?_) fun e => ?_⟩
    · refine ⟨_, rfl, _, _, _, _, _, rfl, .ty "bool", h2, k2, ?_⟩
      cases d <;> first | exact ⟨_, rfl, q0⟩ | (cases e; done)
    · cases d <;> first | exact q0 | (cases e; done)
def rowD (n : Int) : PyData → Bool
  | .tuple ds => decide ((ds.length : Int) = n)
  | _ => false
def natD : PyData → Bool
  | .int n => decide (0 ≤ n) && decide (n ≤ 1000000000000)
  | _ => false
def procD : PyData → Bool
  | .tuple ds => ds.all natD
  | _ => false
def objD : PyData → Bool
  | .tuple [p, n] => procD p && natD n
  | _ => false
def intIn : PyData → Bool
  | .int n => decide (-1000000000000 ≤ n) && decide (n ≤ 1000000000000)
  | _ => false
def refV : PyData → Bool
  | .tuple [a, b] => PyData.eqv a (.str "ref") && objD b
  | _ => false
def valD (d : PyData) : Bool := if isIntD d = true then intIn d else PyData.eqv d (.tuple [.str "nil"]) || refV d
def codeD : PyData → Bool
  | .str z => decide (z = "start") || isName z
  | _ => false
def valsD : PyData → Bool
  | .tuple ds => ds.all valD
  | _ => false
def spRow (K : PySem.W.Frag) : Sp := fun vs H Q _ => ∃ (v : V) (d : PyData) (n : Int), vs = [v, .int n] ∧ Rp K H v d ∧ Q (.bl (rowD n d)) H
theorem ok_is_row (T : Txt K mg w a) : FnOk P w K mg base CX0 1 (He.ga K "is_row") a.d_is_row ["value", "many"] (spRow K) := by
  refine T.F_is_row.ok sc_is_row (fun vs H Q E h => ?_) (fun cdv A outer s H vs Q E hr h => ?_)
  · obtain ⟨v, d, n, rfl, _⟩ := h
    rfl
  · obtain ⟨v, d, n, rfl, r, q⟩ := h
    refine ⟨_, PSs.nox (pss_one (ps_ret (pe_and (pe_callB call_isi (by rfl) T.g_isinstance boot_isinstance (pa_cons (pv 0) (pa_cons (pe_bltn (v := .ty "tuple") (by rfl) T.g_tuple boot_tuple rfl) pa_nil))) (pe_one (pe_cmpR op_eq (pe_callB call_len_seq (by rfl) T.g_len boot_len (pa_cons (pv 0) pa_nil)) (pv 1) (nomark _)))))), ?_⟩
    obtain ⟨t1, h1, k1⟩ := isiT r
    refine ⟨_, rfl, _, _, _, _, _, rfl, .ty "tuple", h1, k1, _, rfl, Cm.itB (fun e => ?_) fun e => ?_⟩
    · cases r with
      | non => cases e
      | bl b => cases e
      | int i => cases e
      | str x => cases e
      | @tup p xs ds ht rs =>
        refine ⟨_, rfl, p, xs, rfl, .inr ht, _, rfl, rfl, ?_⟩
        rw [Cm.deq_int, rs.len]
        exact q
    · cases r with
      | non => exact q
      | bl b => exact q
      | int i => exact q
      | str x => exact q
      | tup ht rs => cases e
theorem ok_is_natural (T : Txt K mg w a) : FnOk P w K mg base CX0 2 (He.ga K "is_natural") a.d_is_natural ["value"] (spP K natD) := by
  refine T.F_is_natural.ok sc_is_natural (fun vs H Q E h => ?_) (fun cdv A outer s H vs Q E hr h => ?_)
  · obtain ⟨v, d, rfl, _⟩ := h
    rfl
  · obtain ⟨v, d, rfl, r, f, q⟩ := h
    refine ⟨_, PSs.nox (pss_one (ps_ret (pe_and (pe_call (ok_is_integer T) (hr.mono (by omega)) (by rfl) T.g_is_integer T.F_is_integer.kp T.b_is_integer .nil pass0 (pa_cons (pv 0) pa_nil)) (pe_one (pe_chain op_le op_le pe_int (pv 0) (pe_glob (v := .int 1000000000000) (by rfl) T.g_MAX_NUMBER.choose_spec ⟨_, rfl⟩)))))), ?_⟩
    refine ⟨_, rfl, v, d, rfl, r, f, fun H1 s1 => ⟨_, rfl, ?_⟩⟩
    have q1 := q H1 s1
    cases r with
    | non => exact iteF q1
    | bl b => exact iteF q1
    | str x => exact iteF q1
    | tup ht rs => exact iteF q1
    | int i =>
      refine iteT ⟨_, rfl, _, _, rfl, rfl, ?_⟩
      have q2 : Q (.bl (decide (0 ≤ i) && decide (i ≤ 1000000000000))) H1 := q1
      refine ⟨_, rfl, Cm.itD (fun e => ?_) fun e => ?_⟩
      · rw [decide_eq_true e, Bool.true_and] at q2
        exact ⟨_, _, rfl, rfl, q2⟩
      · rw [decide_eq_false e, Bool.false_and] at q2
        exact q2
theorem all_map {f : PyData → Bool} : ∀ {l : List PyData}, (l.map f).all id = l.all f
  | [] => rfl
  | x :: r => by
    show (f x && (r.map f).all id) = (f x && r.all f)
    rw [all_map]
theorem ok_is_process_name (T : Txt K mg w a) : FnOk P w K mg base CX0 3 (He.ga K "is_process_name") a.d_is_process_name ["value"] (spP K procD) := by
  refine T.F_is_process_name.ok sc_is_process_name (fun vs H Q E h => ?_) (fun cdv A outer s H vs Q E hr h => ?_)
  · obtain ⟨v, d, rfl, _⟩ := h
    rfl
  · obtain ⟨v, d, rfl, r, f, q⟩ := h
    refine ⟨_, PSs.nox (pss_one (ps_ret (pe_and (pe_callB call_isi (by rfl) T.g_isinstance boot_isinstance (pa_cons (pv 0) (pa_cons (pe_bltn (v := .ty "tuple") (by rfl) T.g_tuple boot_tuple rfl) pa_nil))) (pe_one (pe_callB (cr_all rfl) (by rfl) T.g_all boot_all (pa_cons (pe_lc (own := [("part", 1)]) (g := gName 1) (tt := tYes)  (by rfl) sc_is_process_name.nd (pi_tup (pv 0)) (blkOk_by (own := [("part", 1)]) (N := N_is_process_name) (sc := defScope s_is_process_name) (by decide +kernel)) (fun _ _ _ _ _ => pg_name (i := 1) sc_is_process_name.nd rfl (Or.inl rfl)) (fun _ _ _ _ _ => pts_nil) (fun _ _ _ _ _ => (pe_call (ok_is_natural T) (hr.mono (by omega)) (by rfl) T.g_is_natural T.F_is_natural.kp T.b_is_natural .nil pass0 (pa_cons (pv 1) pa_nil)))) pa_nil)))))), ?_⟩
    obtain ⟨t1, h1, k1⟩ := isiT r
    refine ⟨_, rfl, _, _, _, _, _, rfl, .ty "tuple", h1, k1, _, rfl, Cm.itB (fun e => ?_) fun e => ?_⟩
    · cases r with
      | non => cases e
      | bl b => cases e
      | int i => cases e
      | str x => cases e
      | @tup p xs ds ht rs =>
        have fa := f.at_
        have fl := f.len
        have hlen := rs.len
        refine ⟨_, rfl, p, rfl, ⟨_, ht⟩, fun D nD => ?_⟩
        refine lc_tup (K := K) (a := p) (xs := xs) (fun j Hj => Same H Hj ∧ ∃ bs : List Bool, Hj D = some (.lst (bs.map V.bl)) ∧ bs = (ds.take j).map natD ∧ bs.length ≤ j) ⟨Cm.same_new nD, [], upd_same, rfl, Nat.le_refl _⟩ (fun j Hj _ b => Cm.sameT b.1 ht) (fun j y Hj hy b => ?_) fun Hj b => ?_
        · obtain ⟨sJ, bs, hD, eb, lb⟩ := b
          refine ⟨rfl, ?_⟩
          have hn : j < ds.length := by
            rw [← hlen]
            exact (List.getElem?_eq_some_iff.mp hy).1
          obtain ⟨y', hy', ry⟩ := rs.at_ (i := j) (d := ds[j]) (List.getElem?_eq_getElem hn)
          rw [hy] at hy'
          cases hy'
          refine ⟨_, rfl, y, ds[j], rfl, ry.keep (Same.tups sJ), fa _ (List.getElem_mem hn), fun H2 s2 => ?_⟩
          refine ⟨_, s2 _ _ hD, Cm.smallL (by rw [List.length_map]; omega), Cm.same_mut (sJ.trans s2) nD, bs ++ [natD ds[j]], ?_, ?_, by rw [List.length_append]; simp only [List.length_cons, List.length_nil]; omega⟩
          · rw [upd_same, List.map_append]
            rfl
          · rw [List.take_succ, List.getElem?_eq_getElem hn, List.map_append, eb]
            rfl
        · obtain ⟨sJ, bs, hD, eb, lb⟩ := b
          rw [hlen, List.take_length] at eb
          refine ⟨D, bs, rfl, SqL.of hD, ?_⟩
          have := q Hj sJ
          rw [eb, all_map]
          exact this
    · cases r with
      | non => exact q H (Same.refl _)
      | bl b => exact q H (Same.refl _)
      | int i => exact q H (Same.refl _)
      | str x => exact q H (Same.refl _)
      | tup ht rs => cases e
theorem rowD_two {d : PyData} (h : rowD 2 d = true) : ∃ x y, d = .tuple [x, y] := by
  cases d with
  | tuple ds =>
    have h' : ((ds.length : Nat) : Int) = 2 := of_decide_eq_true h
    match ds, h' with
    | [x, y], _ => exact ⟨x, y, rfl⟩
    | [], h => cases h
    | [_], h => cases h
    | _ :: _ :: _ :: r, h =>
      simp only [List.length_cons] at h
      omega
  | _ => cases h
theorem objD_no {d : PyData} (h : rowD 2 d = false) : objD d = false := by
  unfold objD
  split
  · cases h
  · rfl
theorem two_inv {H : Hp} {v : V} {x y : PyData} (r : Rp K H v (.tuple [x, y])) : ∃ p v1 v2, v = .ref p ∧ SqT K H p [v1, v2] ∧ Rp K H v1 x ∧ Rp K H v2 y := by
  obtain ⟨p, vs, rfl, ht, rs⟩ := r.tup_inv
  obtain ⟨v1, r1, rfl, w1, rs⟩ := rs.cons_inv
  obtain ⟨v2, r2, rfl, w2, rs⟩ := rs.cons_inv
  obtain rfl := rs.nil_inv
  exact ⟨p, v1, v2, rfl, ht, w1, w2⟩
theorem ok_is_object_name (T : Txt K mg w a) : FnOk P w K mg base CX0 4 (He.ga K "is_object_name") a.d_is_object_name ["value"] (spP K objD) := by
  refine T.F_is_object_name.ok sc_is_object_name (fun vs H Q E h => ?_) (fun cdv A outer s H vs Q E hr h => ?_)
  · obtain ⟨v, d, rfl, _⟩ := h
    rfl
  · obtain ⟨v, d, rfl, r, f, q⟩ := h
    refine ⟨_, PSs.nox (pss_one (ps_ret (pe_and (pe_call (ok_is_row T) (hr.mono (by omega)) (by rfl) T.g_is_row T.F_is_row.kp T.b_is_row .nil pass0 (pa_cons (pv 0) (pa_cons pe_int pa_nil))) (pe_and (pe_call (ok_is_process_name T) (hr.mono (by omega)) (by rfl) T.g_is_process_name T.F_is_process_name.kp T.b_is_process_name .nil pass0 (pa_cons (pe_ix ix_tup (pv 0) pe_int (fun _ _ => rfl)) pa_nil)) (pe_one (pe_call (ok_is_natural T) (hr.mono (by omega)) (by rfl) T.g_is_natural T.F_is_natural.kp T.b_is_natural .nil pass0 (pa_cons (pe_ix ix_tup (pv 0) pe_int (fun _ _ => rfl)) pa_nil))))))), ?_⟩
    refine ⟨_, rfl, v, d, 2, rfl, r, _, rfl, Cm.itB (fun e => ?_) fun e => ?_⟩
    · obtain ⟨x, y, rfl⟩ := rowD_two e
      obtain ⟨p, v1, v2, rfl, ht, r1, r2⟩ := two_inv r
      have fa := f.at_
      refine ⟨_, rfl, p, _, 0, _, rfl, rfl, ht, atI_nat (j := 0) rfl, v1, x, rfl, r1, fa x (by simp), fun H1 s1 => ⟨_, rfl, Cm.itB (fun e2 => ?_) fun e2 => ?_⟩⟩
      · refine ⟨_, rfl, p, _, 1, _, rfl, rfl, Cm.sameT s1 ht, atI_nat (j := 1) rfl, v2, y, rfl, r2.keep (Same.tups s1), fa y (by simp), fun H2 s2 => ?_⟩
        have := q H2 (s1.trans s2)
        rw [show objD (.tuple [x, y]) = natD y from by show (procD x && natD y) = natD y; rw [e2, Bool.true_and]] at this
        exact this
      · have := q H1 s1
        rw [show objD (.tuple [x, y]) = false from by show (procD x && natD y) = false; rw [e2, Bool.false_and]] at this
        exact this
    · have := q H (Same.refl _)
      rw [objD_no e] at this
      exact this
theorem ok_is_code_name (T : Txt K mg w a) : FnOk P w K mg base CX0 2 (He.ga K "_is_code_name") a.d_is_code_name ["value"] (spP K codeD) := by
  refine T.F_is_code_name.ok sc_is_code_name (fun vs H Q E h => ?_) (fun cdv A outer s H vs Q E hr h => ?_)
  · obtain ⟨v, d, rfl, _⟩ := h
    rfl
  · obtain ⟨v, d, rfl, r, f, q⟩ := h
    refine ⟨_, PSs.nox (pss_one (ps_ret (pe_and (pe_callB call_isi (by rfl) T.g_isinstance boot_isinstance (pa_cons (pv 0) (pa_cons (pe_bltn (v := .ty "str") (by rfl) T.g_str boot_str rfl) pa_nil))) (pe_one (pe_or (pe_cmpR op_eq (pv 0) pe_str (nomark _)) (pe_one (pe_call (ok_is_name T) (hr.mono (by omega)) (by rfl) T.g_is_name T.F_is_name.kp T.b_is_name .nil pass0 (pa_cons (pv 0) pa_nil)))))))), ?_⟩
    obtain ⟨t1, h1, k1⟩ := isiS r
    have q0 := q H (Same.refl _)
    refine ⟨_, rfl, _, _, _, _, _, rfl, .ty "str", h1, k1, _, rfl, Cm.itB (fun e => ?_) fun e => ?_⟩
    · cases r with
      | non => cases e
      | bl b => cases e
      | int i => cases e
      | tup ht rs => cases e
      | str z =>
        have q1 : Q (.bl (decide (z = "start") || isName z)) H := q0
        refine ⟨_, rfl, rfl, ?_⟩
        refine ⟨_, rfl, Cm.itES (fun e2 => ?_) fun e2 => ?_⟩
        · rw [decide_eq_true e2, Bool.true_or] at q1
          exact q1
        · rw [decide_eq_false e2, Bool.false_or] at q1
          exact ⟨_, rfl, z, rfl, of_decide_eq_true f.s, q1⟩
    · cases r with
      | non => exact q0
      | bl b => exact q0
      | int i => exact q0
      | str x => cases e
      | tup ht rs => exact q0
theorem ok_is_value (T : Txt K mg w a) : FnOk P w K mg base CX0 5 (He.ga K "is_value") a.d_is_value ["value"] (spP K valD) := by
  refine T.F_is_value.ok sc_is_value (fun vs H Q E h => ?_) (fun cdv A outer s H vs Q E hr h => ?_)
  · obtain ⟨v, d, rfl, _⟩ := h
    rfl
  · obtain ⟨v, d, rfl, r, f, q⟩ := h
    refine ⟨_, PSs.nox (pss_cons (ps_if (pt_val (pe_call (ok_is_integer T) (hr.mono (by omega)) (by rfl) T.g_is_integer T.F_is_integer.kp T.b_is_integer .nil pass0 (pa_cons (pv 0) pa_nil))) (pss_one (ps_ret (pe_chain op_le op_le (pe_un un_neg (pe_glob (v := .int 1000000000000) (by rfl) T.g_MAX_NUMBER.choose_spec ⟨_, rfl⟩)) (pv 0) (pe_glob (v := .int 1000000000000) (by rfl) T.g_MAX_NUMBER.choose_spec ⟨_, rfl⟩)))) pss_nil)
      (pss_one (ps_ret (pe_or (pe_cmpR (op_eqD hr.units) (pv 0) (pe_glob (v := .ref (He.ga K "NIL")) (by rfl) T.g_NIL rfl) (nomark _)) (pe_one (pe_and (pe_call (ok_is_row T) (hr.mono (by omega)) (by rfl) T.g_is_row T.F_is_row.kp T.b_is_row .nil pass0 (pa_cons (pv 0) (pa_cons pe_int pa_nil))) (pe_and (pe_cmpR (op_eqD hr.units) (pe_ix ix_tup (pv 0) pe_int (fun _ _ => rfl)) pe_str (nomark _)) (pe_one (pe_call (ok_is_object_name T) (hr.mono (by omega)) (by rfl) T.g_is_object_name T.F_is_object_name.kp T.b_is_object_name .nil pass0 (pa_cons (pe_ix ix_tup (pv 0) pe_int (fun _ _ => rfl)) pa_nil)))))))))), ?_⟩
    refine ⟨_, rfl, v, d, rfl, r, f, fun H1 s1 => ⟨_, rfl, Cm.itB (fun e => ?_) fun e => ?_⟩⟩
    · cases r with
      | non => cases e
      | bl b => cases e
      | str x => cases e
      | tup ht rs => cases e
      | int i =>
        have q2 : Q (.bl (decide (-1000000000000 ≤ i) && decide (i ≤ 1000000000000))) H1 := q H1 s1
        refine ⟨_, rfl, _, rfl, _, _, rfl, rfl, _, rfl, Cm.itD (fun e3 => ?_) fun e3 => ?_⟩
        · rw [show decide (-1000000000000 ≤ i) = true from decide_eq_true e3, Bool.true_and] at q2
          exact ⟨_, _, rfl, rfl, q2⟩
        · rw [show decide (-1000000000000 ≤ i) = false from decide_eq_false e3, Bool.false_and] at q2
          exact q2
    · have ev : valD d = (PyData.eqv d (.tuple [.str "nil"]) || refV d) := by
        unfold valD
        rw [if_neg (by rw [e]; decide)]
      have rn : Rp K H1 (.ref (He.ga K "NIL")) (.tuple [.str "nil"]) := .tup (T.k_NIL H1) (.cons (.str _) .nil)
      have shn : SeqAt.shaped (.tuple [.str "nil"]) = true := by decide +kernel
      have shr : SeqAt.shaped (.str "ref") = true := by decide +kernel
      have r1 := r.keep (Same.tups s1)
      rw [ev] at q
      refine ⟨_, rfl, _, _, r1.dp, rn.dp, f.shaped, shn, _, rfl, Cm.itB (fun e2 => ?_) fun e2 => ?_⟩
      · have := q H1 s1
        rw [e2, Bool.true_or] at this
        exact this
      · rw [e2, Bool.false_or] at q
        refine ⟨_, rfl, v, d, 2, rfl, r1, _, rfl, Cm.itB (fun e4 => ?_) fun e4 => ?_⟩
        · obtain ⟨x, y, rfl⟩ := rowD_two e4
          obtain ⟨p, v1, v2, rfl, ht, w1, w2⟩ := two_inv r1
          have fa := f.at_
          refine ⟨_, rfl, p, _, 0, _, rfl, rfl, ht, atI_nat (j := 0) rfl, x, .str "ref", w1.dp, .str _, (fa x (by simp)).shaped, shr, _, rfl, Cm.itB (fun e5 => ?_) fun e5 => ?_⟩
          · refine ⟨_, rfl, p, _, 1, _, rfl, rfl, ht, atI_nat (j := 1) rfl, v2, y, rfl, w2, fa y (by simp), fun H2 s2 => ?_⟩
            have := q H2 (s1.trans s2)
            rw [show refV (.tuple [x, y]) = objD y from by show (PyData.eqv x (.str "ref") && objD y) = objD y; rw [e5, Bool.true_and]] at this
            exact this
          · have := q H1 s1
            rw [show refV (.tuple [x, y]) = false from by show (PyData.eqv x (.str "ref") && objD y) = false; rw [e5, Bool.false_and]] at this
            exact this
        · have := q H1 s1
          rw [show refV d = false from by unfold refV; split <;> first | rfl | cases e4] at this
          exact this
theorem ok_are_values (T : Txt K mg w a) : FnOk P w K mg base CX0 6 (He.ga K "_are_values") a.d_are_values ["value"] (spP K valsD) := by
  refine T.F_are_values.ok sc_are_values (fun vs H Q E h => ?_) (fun cdv A outer s H vs Q E hr h => ?_)
  · obtain ⟨v, d, rfl, _⟩ := h
    rfl
  · obtain ⟨v, d, rfl, r, f, q⟩ := h
    refine ⟨_, PSs.nox (pss_one (ps_ret (pe_and (pe_callB call_isi (by rfl) T.g_isinstance boot_isinstance (pa_cons (pv 0) (pa_cons (pe_bltn (v := .ty "tuple") (by rfl) T.g_tuple boot_tuple rfl) pa_nil))) (pe_one (pe_callB (cr_all rfl) (by rfl) T.g_all boot_all (pa_cons (pe_lc (own := [("part", 1)]) (g := gName 1) (tt := tYes)  (by rfl) sc_are_values.nd (pi_tup (pv 0)) (blkOk_by (own := [("part", 1)]) (N := N_are_values) (sc := defScope s_are_values) (by decide +kernel)) (fun _ _ _ _ _ => pg_name (i := 1) sc_are_values.nd rfl (Or.inl rfl)) (fun _ _ _ _ _ => pts_nil) (fun _ _ _ _ _ => (pe_call (ok_is_value T) (hr.mono (by omega)) (by rfl) T.g_is_value T.F_is_value.kp T.b_is_value .nil pass0 (pa_cons (pv 1) pa_nil)))) pa_nil)))))), ?_⟩
    obtain ⟨t1, h1, k1⟩ := isiT r
    refine ⟨_, rfl, _, _, _, _, _, rfl, .ty "tuple", h1, k1, _, rfl, Cm.itB (fun e => ?_) fun e => ?_⟩
    · cases r with
      | non => cases e
      | bl b => cases e
      | int i => cases e
      | str x => cases e
      | @tup p xs ds ht rs =>
        have fa := f.at_
        have fl := f.len
        have hlen := rs.len
        refine ⟨_, rfl, p, rfl, ⟨_, ht⟩, fun D nD => ?_⟩
        refine lc_tup (K := K) (a := p) (xs := xs) (fun j Hj => Same H Hj ∧ ∃ bs : List Bool, Hj D = some (.lst (bs.map V.bl)) ∧ bs = (ds.take j).map valD ∧ bs.length ≤ j) ⟨Cm.same_new nD, [], upd_same, rfl, Nat.le_refl _⟩ (fun j Hj _ b => Cm.sameT b.1 ht) (fun j y Hj hy b => ?_) fun Hj b => ?_
        · obtain ⟨sJ, bs, hD, eb, lb⟩ := b
          refine ⟨rfl, ?_⟩
          have hn : j < ds.length := by
            rw [← hlen]
            exact (List.getElem?_eq_some_iff.mp hy).1
          obtain ⟨y', hy', ry⟩ := rs.at_ (i := j) (d := ds[j]) (List.getElem?_eq_getElem hn)
          rw [hy] at hy'
          cases hy'
          refine ⟨_, rfl, y, ds[j], rfl, ry.keep (Same.tups sJ), fa _ (List.getElem_mem hn), fun H2 s2 => ?_⟩
          refine ⟨_, s2 _ _ hD, Cm.smallL (by rw [List.length_map]; omega), Cm.same_mut (sJ.trans s2) nD, bs ++ [valD ds[j]], ?_, ?_, by rw [List.length_append]; simp only [List.length_cons, List.length_nil]; omega⟩
          · rw [upd_same, List.map_append]
            rfl
          · rw [List.take_succ, List.getElem?_eq_getElem hn, List.map_append, eb]
            rfl
        · obtain ⟨sJ, bs, hD, eb, lb⟩ := b
          rw [hlen, List.take_length] at eb
          refine ⟨D, bs, rfl, SqL.of hD, ?_⟩
          have := q Hj sJ
          rw [eb, all_map]
          exact this
    · cases r with
      | non => exact q H (Same.refl _)
      | bl b => exact q H (Same.refl _)
      | int i => exact q H (Same.refl _)
      | str x => exact q H (Same.refl _)
      | tup ht rs => cases e
def frD : PyData → Bool
  | .tuple [o, n, h, s] => codeD o && (natD n && (valsD h && valsD s))
  | _ => false
def backD (d : PyData) (n : Int) : Bool := if n = 0 then PyData.eqv d (.tuple []) else objD d
def backX (b : PyData) : PyData → Bool
  | .int n => backD b n
  | _ => false
def wOk : PyData → Bool
  | .str z => decide (z = "") || decide (z ∈ (["number", "large", "nil"] : List Str))
  | _ => false
def wEmp : PyData → Bool
  | .str z => decide (z = "")
  | _ => false
theorem inV_strs (w : Str) : ∀ l : List Str, inV (.str w) (l.map V.str) = decide (w ∈ l)
  | [] => rfl
  | x :: l => by
    have h := inV_strs w l
    show (eqV (.str x) (.str w) || inV (.str w) (l.map V.str)) = _
    rw [h]
    by_cases e : x = w
    · subst e
      simp [eqV]
    · have e2 : ¬ w = x := fun z => e z.symm
      simp [eqV, e, e2]
def tokW (t w : PyData) : Bool := match t with
  | .none => wEmp w
  | t => rowD 2 t && (procD t && wOk w)
def entD : PyData → Bool
  | .tuple [p, dp, f, b, t, w] => (procD p && (natD dp && (frD f && backX b dp))) && tokW t w
  | _ => false
theorem rowD_len {d : PyData} {n : Nat} (h : rowD (n : Int) d = true) : ∃ ds, d = .tuple ds ∧ ds.length = n := by
  cases d with
  | tuple ds =>
    have h' : ((ds.length : Nat) : Int) = n := of_decide_eq_true h
    exact ⟨ds, rfl, by omega⟩
  | _ => cases h
theorem frD_no {d : PyData} (h : rowD 4 d = false) : frD d = false := by
  unfold frD
  split
  · cases h
  · rfl
theorem entD_no {d : PyData} (h : rowD 6 d = false) : entD d = false := by
  unfold entD
  split
  · cases h
  · rfl
theorem ok_is_frame (T : Txt K mg w a) : FnOk P w K mg base CX0 7 (He.ga K "_is_frame") a.d_is_frame ["value"] (spP K frD) := by
  refine T.F_is_frame.ok sc_is_frame (fun vs H Q E h => ?_) (fun cdv A outer s H vs Q E hr h => ?_)
  · obtain ⟨v, d, rfl, _⟩ := h
    rfl
  · obtain ⟨v, d, rfl, r, f, q⟩ := h
    refine ⟨_, PSs.nox (pss_cons (ps_if (pt_not (pt_val (pe_call (ok_is_row T) (hr.mono (by omega)) (by rfl) T.g_is_row T.F_is_row.kp T.b_is_row .nil pass0 (pa_cons (pv 0) (pa_cons pe_int pa_nil))))) (pss_one (ps_ret pe_bl)) pss_nil)
      (pss_cons (ps_asg (pv 0) (pg_tup (by rfl) (pgs_cons (pg_name (i := 1) sc_is_frame.nd rfl (Or.inl rfl)) (pgs_cons (pg_name (i := 2) sc_is_frame.nd rfl (Or.inl rfl)) (pgs_cons (pg_name (i := 3) sc_is_frame.nd rfl (Or.inl rfl)) (pgs_cons (pg_name (i := 4) sc_is_frame.nd rfl (Or.inl rfl)) pgs_nil))))))
      (pss_one (ps_ret (pe_and (pe_call (ok_is_code_name T) (hr.mono (by omega)) (by rfl) T.g_is_code_name T.F_is_code_name.kp T.b_is_code_name .nil pass0 (pa_cons (pv 1) pa_nil)) (pe_and (pe_call (ok_is_natural T) (hr.mono (by omega)) (by rfl) T.g_is_natural T.F_is_natural.kp T.b_is_natural .nil pass0 (pa_cons (pv 2) pa_nil)) (pe_and (pe_call (ok_are_values T) (hr.mono (by omega)) (by rfl) T.g_are_values T.F_are_values.kp T.b_are_values .nil pass0 (pa_cons (pv 3) pa_nil)) (pe_one (pe_call (ok_are_values T) (hr.mono (by omega)) (by rfl) T.g_are_values T.F_are_values.kp T.b_are_values .nil pass0 (pa_cons (pv 4) pa_nil)))))))))), ?_⟩
    rw [show L2.start N_is_frame [v] = [some v, none, none, none, none] from rfl]
    refine ⟨_, rfl, v, d, 4, rfl, r, _, rfl, Cm.itBn (fun e => ?_) fun e => ?_⟩
    · have := q H (Same.refl _)
      rw [frD_no e] at this
      exact this
    · obtain ⟨ds, rfl, hl⟩ := rowD_len (n := 4) e
      match ds, hl with
      | [o, n, h, st], _ =>
      obtain ⟨p, vs, rfl, ht, rs⟩ := r.tup_inv
      obtain ⟨v1, r1, rfl, w1, rs⟩ := rs.cons_inv
      obtain ⟨v2, r2, rfl, w2, rs⟩ := rs.cons_inv
      obtain ⟨v3, r3, rfl, w3, rs⟩ := rs.cons_inv
      obtain ⟨v4, r4, rfl, w4, rs⟩ := rs.cons_inv
      obtain rfl := rs.nil_inv
      have fa := f.at_
      have q : ∀ H', Same H H' → Q (.bl (codeD o && (natD n && (valsD h && valsD st)))) H' := q
      refine ⟨_, rfl, p, _, rfl, ht, rfl, _, _, rfl, _, _, rfl, _, _, rfl, _, _, rfl, rfl, ?_⟩
      refine ⟨_, rfl, v1, o, rfl, w1, fa o (by simp), fun H1 s1 => ⟨_, rfl, Cm.itB (fun e1 => ?_) fun e1 => ?_⟩⟩
      · rw [e1, Bool.true_and] at q
        refine ⟨_, rfl, v2, n, rfl, w2.keep (Same.tups s1), fa n (by simp), fun H2 s2 => ⟨_, rfl, Cm.itB (fun e2 => ?_) fun e2 => ?_⟩⟩
        · rw [e2, Bool.true_and] at q
          have s12 := s1.trans s2
          refine ⟨_, rfl, v3, h, rfl, w3.keep (Same.tups s12), fa h (by simp), fun H3 s3 => ⟨_, rfl, Cm.itB (fun e3 => ?_) fun e3 => ?_⟩⟩
          · rw [e3, Bool.true_and] at q
            have s13 := s12.trans s3
            refine ⟨_, rfl, v4, st, rfl, w4.keep (Same.tups s13), fa st (by simp), fun H4 s4 => q H4 (s13.trans s4)⟩
          · rw [e3, Bool.false_and] at q
            exact q H3 (s12.trans s3)
        · rw [e2, Bool.false_and] at q
          exact q H2 (s1.trans s2)
      · rw [e1, Bool.false_and] at q
        exact q H1 s1
def spBack (K : PySem.W.Frag) : Sp := fun vs H Q _ => ∃ (v : V) (d : PyData) (n : Int), vs = [v, .int n] ∧ Rp K H v d ∧ Fit d ∧ ∀ H', Same H H' → Q (.bl (backD d n)) H'
theorem ok_is_back (T : Txt K mg w a) : FnOk P w K mg base CX0 5 (He.ga K "_is_back") a.d_is_back ["value", "depth"] (spBack K) := by
  refine T.F_is_back.ok sc_is_back (fun vs H Q E h => ?_) (fun cdv A outer s H vs Q E hr h => ?_)
  · obtain ⟨v, d, n, rfl, _⟩ := h
    rfl
  · obtain ⟨v, d, n, rfl, r, f, q⟩ := h
    refine ⟨_, PSs.nox (pss_cons (ps_if (pt_cmpR op_eq (pv 1) pe_int (nomark _)) (pss_one (ps_ret (pe_cmpR (op_eqD hr.units) (pv 0) (pe_tup pa_nil) (nomark _)))) pss_nil)
      (pss_one (ps_ret (pe_call (ok_is_object_name T) (hr.mono (by omega)) (by rfl) T.g_is_object_name T.F_is_object_name.kp T.b_is_object_name .nil pass0 (pa_cons (pv 0) pa_nil))))), ?_⟩
    refine ⟨_, rfl, rfl, _, rfl, Cm.itEI (fun e => ?_) fun e => ?_⟩
    · have sh0 : SeqAt.shaped (.tuple []) = true := by decide +kernel
      refine ⟨_, rfl, Nat.zero_le _, fun t0 u0 => ?_⟩
      have s1 := Cm.same_new (o := .tup []) u0
      refine ⟨_, _, (r.keep (Same.tups s1)).dp, (Rp.made u0 .nil).dp, f.shaped, sh0, ?_⟩
      have := q _ s1
      rw [show backD d n = PyData.eqv d (.tuple []) from if_pos e] at this
      exact this
    · rw [show backD d n = objD d from if_neg e] at q
      exact ⟨_, rfl, v, d, rfl, r, f, q⟩
def spEnt (K : PySem.W.Frag) : Sp := fun vs H Q _ => ∃ (v : V) (d : PyData), vs = [v] ∧ Rp K H v d ∧ Fit d ∧ (∀ p dp f b t w, d = .tuple [p, dp, f, b, t, w] → ∃ z, w = .str z) ∧ ∀ H', Same H H' → Q (.bl (entD d)) H'
theorem ok_is_entry (T : Txt K mg w a) : FnOk P w K mg base CX0 8 (He.ga K "_is_entry") a.d_is_entry ["value"] (spEnt K) := by
  refine T.F_is_entry.ok sc_is_entry (fun vs H Q E h => ?_) (fun cdv A outer s H vs Q E hr h => ?_)
  · obtain ⟨v, d, rfl, _⟩ := h
    rfl
  · obtain ⟨v, d, rfl, r, f, ws, q⟩ := h
    refine ⟨_, PSs.nox (pss_cons (ps_if (pt_not (pt_val (pe_call (ok_is_row T) (hr.mono (by omega)) (by rfl) T.g_is_row T.F_is_row.kp T.b_is_row .nil pass0 (pa_cons (pv 0) (pa_cons pe_int pa_nil))))) (pss_one (ps_ret pe_bl)) pss_nil)
      (pss_cons (ps_asg (pv 0) (pg_tup (by rfl) (pgs_cons (pg_name (i := 1) sc_is_entry.nd rfl (Or.inl rfl)) (pgs_cons (pg_name (i := 2) sc_is_entry.nd rfl (Or.inl rfl)) (pgs_cons (pg_name (i := 3) sc_is_entry.nd rfl (Or.inl rfl)) (pgs_cons (pg_name (i := 4) sc_is_entry.nd rfl (Or.inl rfl)) (pgs_cons (pg_name (i := 5) sc_is_entry.nd rfl (Or.inl rfl)) (pgs_cons (pg_name (i := 6) sc_is_entry.nd rfl (Or.inl rfl)) pgs_nil))))))))
      (pss_cons (ps_if (pt_not (PW.pt (pw_and (pt_val (pe_call (ok_is_process_name T) (hr.mono (by omega)) (by rfl) T.g_is_process_name T.F_is_process_name.kp T.b_is_process_name .nil pass0 (pa_cons (pv 1) pa_nil))) (pw_and (pt_val (pe_call (ok_is_natural T) (hr.mono (by omega)) (by rfl) T.g_is_natural T.F_is_natural.kp T.b_is_natural .nil pass0 (pa_cons (pv 2) pa_nil))) (pw_and (pt_val (pe_call (ok_is_frame T) (hr.mono (by omega)) (by rfl) T.g_is_frame T.F_is_frame.kp T.b_is_frame .nil pass0 (pa_cons (pv 3) pa_nil))) (pw_and1 (pt_val (pe_call (ok_is_back T) (hr.mono (by omega)) (by rfl) T.g_is_back T.F_is_back.kp T.b_is_back .nil pass0 (pa_cons (pv 4) (pa_cons (pv 2) pa_nil)))))))))) (pss_one (ps_ret pe_bl)) pss_nil)
      (pss_cons (ps_if (pt_cmpR op_isN (pv 5) pe_non (nomark _)) (pss_one (ps_ret (pe_cmpR op_eq (pv 6) pe_str (nomark _)))) pss_nil)
      (pss_one (ps_ret (pe_and (pe_call (ok_is_row T) (hr.mono (by omega)) (by rfl) T.g_is_row T.F_is_row.kp T.b_is_row .nil pass0 (pa_cons (pv 5) (pa_cons pe_int pa_nil))) (pe_and (pe_call (ok_is_process_name T) (hr.mono (by omega)) (by rfl) T.g_is_process_name T.F_is_process_name.kp T.b_is_process_name .nil pass0 (pa_cons (pv 5) pa_nil)) (pe_one (pe_or (pe_cmpR op_eq (pv 6) pe_str (nomark _)) (pe_one (pe_cmpR op_in_seq (pv 6) (pe_glob (v := .ref (He.ga K "FAULTS")) (by rfl) T.g_FAULTS rfl) (by rfl))))))))))))), ?_⟩
    rw [show L2.start N_is_entry [v] = [some v, none, none, none, none, none, none] from rfl]
    refine ⟨_, rfl, v, d, 6, rfl, r, _, rfl, Cm.itBn (fun e => ?_) fun e => ?_⟩
    · have := q H (Same.refl _)
      rw [entD_no e] at this
      exact this
    · obtain ⟨ds, rfl, hl⟩ := rowD_len (n := 6) e
      match ds, hl with
      | [pr, dp, fr, bk, tk, wd], _ =>
      obtain ⟨z, rfl⟩ := ws _ _ _ _ _ _ rfl
      obtain ⟨p, vs, rfl, ht, rs⟩ := r.tup_inv
      obtain ⟨v1, r1, rfl, w1, rs⟩ := rs.cons_inv
      obtain ⟨v2, r2, rfl, w2, rs⟩ := rs.cons_inv
      obtain ⟨v3, r3, rfl, w3, rs⟩ := rs.cons_inv
      obtain ⟨v4, r4, rfl, w4, rs⟩ := rs.cons_inv
      obtain ⟨v5, r5, rfl, w5, rs⟩ := rs.cons_inv
      obtain ⟨v6, r6, rfl, w6, rs⟩ := rs.cons_inv
      obtain rfl := rs.nil_inv
      obtain rfl := w6.str_inv
      have fa := f.at_
      have q : ∀ H', Same H H' → Q (.bl ((procD pr && (natD dp && (frD fr && backX bk dp))) && tokW tk (.str z))) H' := q
      refine ⟨_, rfl, p, _, rfl, ht, rfl, _, _, rfl, _, _, rfl, _, _, rfl, _, _, rfl, _, _, rfl, _, _, rfl, rfl, ?_⟩
      refine ⟨_, rfl, v1, pr, rfl, w1, fa pr (by simp), fun H1 s1 => ⟨_, rfl, Cm.itB (fun e1 => ?_) fun e1 => ?_⟩⟩
      · rw [e1, Bool.true_and] at q
        refine ⟨_, rfl, v2, dp, rfl, w2.keep (Same.tups s1), fa dp (by simp), fun H2 s2 => ⟨_, rfl, Cm.itB (fun e2 => ?_) fun e2 => ?_⟩⟩
        · rw [e2, Bool.true_and] at q
          have s12 := s1.trans s2
          refine ⟨_, rfl, v3, fr, rfl, w3.keep (Same.tups s12), fa fr (by simp), fun H3 s3 => ⟨_, rfl, Cm.itB (fun e3 => ?_) fun e3 => ?_⟩⟩
          · rw [e3, Bool.true_and] at q
            have s13 := s12.trans s3
            cases dp with
            | int dn =>
              obtain rfl := w2.int_inv
              refine ⟨_, rfl, _, rfl, v4, bk, dn, rfl, w4.keep (Same.tups s13), fa bk (by simp), fun H4 s4 => ⟨_, rfl, ?_⟩⟩
              have s14 := s13.trans s4
              refine Cm.itBn (fun e4 => ?_) fun e4 => ?_
              · rw [show backX bk (.int dn) = backD bk dn from rfl, e4, Bool.false_and] at q
                exact q H4 s14
              · rw [show backX bk (.int dn) = backD bk dn from rfl, e4, Bool.true_and] at q
                have w5' := w5.keep (Same.tups s14)
                have ft := fa tk (by simp)
                by_cases en : tk = .none
                · subst en
                  cases w5
                  refine ⟨_, rfl, rfl, _, rfl, Cm.itD (fun _ => ?_) fun h => absurd rfl h⟩
                  refine ⟨_, rfl, rfl, ?_⟩
                  rw [Cm.deq_str]
                  exact q H4 s14
                · have nv : ¬ v5 = V.non := fun h => by
                    subst h
                    cases w5
                    exact en rfl
                  have et : tokW tk (.str z) = (rowD 2 tk && (procD tk && wOk (.str z))) := by
                    unfold tokW
                    split
                    · exact absurd rfl en
                    · rfl
                  rw [et] at q
                  refine ⟨_, rfl, rfl, _, rfl, Cm.itD (fun h => absurd h nv) fun _ => ?_⟩
                  refine ⟨_, rfl, v5, tk, 2, rfl, w5', _, rfl, Cm.itB (fun e5 => ?_) fun e5 => ?_⟩
                  · rw [e5, Bool.true_and] at q
                    refine ⟨_, rfl, v5, tk, rfl, w5', ft, fun H5 s5 => ⟨_, rfl, Cm.itB (fun e6 => ?_) fun e6 => ?_⟩⟩
                    · rw [e6, Bool.true_and] at q
                      have q5 : Q (.bl (decide (z = "") || decide (z ∈ (["number", "large", "nil"] : List Str)))) H5 := q H5 (s14.trans s5)
                      refine ⟨_, rfl, rfl, _, rfl, Cm.itES (fun e7 => ?_) fun e7 => ?_⟩
                      · rw [decide_eq_true e7, Bool.true_or] at q5
                        exact q5
                      · rw [decide_eq_false e7, Bool.false_or, ← inV_strs] at q5
                        exact ⟨_, rfl, _, _, rfl, .inr (T.k_FAULTS H5), rfl, rfl, q5⟩
                    · rw [e6, Bool.false_and] at q
                      exact q H5 (s14.trans s5)
                  · rw [e5, Bool.false_and] at q
                    exact q H4 s14
            | _ => cases e2
          · rw [e3, Bool.false_and, Bool.false_and] at q
            exact iteT (q H3 (s12.trans s3))
        · rw [e2, Bool.false_and, Bool.false_and] at q
          exact iteT (q H2 (s1.trans s2))
      · rw [e1, Bool.false_and, Bool.false_and] at q
        exact iteT (q H1 s1)
/-! ### the numbers of a script (the family with % 10007) -/
abbrev NumOk (ns : List Int) : Prop := ∀ n ∈ ns, 0 ≤ n ∧ n < 2147483647
def spNum2 (K : PySem.W.Frag) : Sp := fun vs H Q _ => ∃ (l : Addr) (ns : List Int) (many : Nat), vs = [.ref l, .int many] ∧ SqL K H l (ns.map V.int) ∧ ns.length ≤ 63 ∧ many ≤ 1000 ∧
  ∀ (H' : Hp) (p : Addr) (ms : List Int), Same H H' → H p = none → H' p = some (.lst (ms.map V.int)) → ms.length = many → NumOk ms → Q (.ref p) H'
theorem num_snoc {ns : List Int} {n : Int} (h : NumOk ns) (h0 : 0 ≤ n) (h1 : n < 2147483647) : NumOk (ns ++ [n]) := fun m hm => by
  rcases List.mem_append.mp hm with hm | hm
  · exact h m hm
  · rw [List.mem_singleton.mp hm]
    exact ⟨h0, h1⟩
theorem map_snoc {ns : List Int} {n : Int} : ns.map V.int ++ [V.int n] = (ns ++ [n]).map V.int := by
  rw [List.map_append]
  rfl
theorem len_map {ns : List Int} : (ns.map V.int).length = ns.length := List.length_map ..
theorem pMod : (0 : Int) < 10007 := by decide
theorem pMersenne : (0 : Int) < 2147483647 := by decide
theorem mersenne (z : Int) : 0 ≤ z % 2147483647 ∧ z % 2147483647 < 2147483647 := by omega
theorem cut_all {xs : List V} {n : Nat} (h : xs.length = n) : cutV xs none (some (n : Int)) = xs := by
  unfold cutV
  rw [HT.sIx_nat, show HT.sIx xs.length 0 none = 0 from rfl]
  rw [← h, Nat.min_self]
  simp
theorem ok_lw_numbers (T : Txt K mg w a) : FnOk P w K mg base CX0 1 (He.ga K "_law_numbers") a.d_lw_numbers ["script", "many"] (spNum2 K) := by
  refine T.F_lw_numbers.ok sc_lw_numbers (fun vs H Q E h => ?_) (fun cdv A outer s H vs Q E hr h => ?_)
  · obtain ⟨l, ns, many, rfl, _⟩ := h
    rfl
  · obtain ⟨l, sc, many, rfl, hl, hsc, hm, q⟩ := h
    refine ⟨_, PSs.nox (pss_cons (ps_set (i := 2) sc_lw_numbers.nd rfl (Or.inl rfl) (pe_lst pa_nil))
      (pss_cons (ps_for PassesOwn.never rfl (pi_range1 (by rfl) T.g_range (pa_cons (pe_callB call_len_seq (by rfl) T.g_len boot_len (pa_cons (pv 0) pa_nil)) pa_nil)) (pg_name (i := 3) sc_lw_numbers.nd rfl (Or.inl rfl))
      (pss_cons (ps_set (i := 4) sc_lw_numbers.nd rfl (Or.inl rfl) (pe_callB call_abs (by rfl) T.g_abs boot_abs (pa_cons (pe_callTy call_int1 (by rfl) T.g_int boot_int (pa_cons (pe_ix ix_list (pv 0) (pv 3) (fun _ _ => rfl)) pa_nil)) pa_nil)))
      (pss_one (ps_if (pt_cmpR op_ge (pv 4) (pe_op op_pow pe_int pe_int) (nomark _)) (pss_one (ps_for PassesOwn.never rfl (pi_range1 (by rfl) T.g_range (pa_cons pe_int pa_nil)) (pg_name (i := 5) sc_lw_numbers.nd rfl (Or.inl rfl))
      (pss_one (ps_if (PW.pt (pw_and (pt_cmpR op_gt (pv 4) pe_int (nomark _)) (pw_and1 (pt_cmpR op_lt (pe_callB call_len_seq (by rfl) T.g_len boot_len (pa_cons (pv 2) pa_nil)) (pv 1) (nomark _))))) (pss_cons (ps_expr (pe_bm PySem.F.plainAttrs_list PySem.F.slot_list_append PySem.F.type_list_append mt_append (pv 2) (pa_cons (pe_op op_mod (pv 4) pe_int) pa_nil)))
      (pss_one (ps_set (i := 4) sc_lw_numbers.nd rfl (Or.inl rfl) (pe_op op_fdiv (pv 4) pe_int)))) pss_nil)))) (pss_one (ps_if (pt_cmpR op_lt (pe_callB call_len_seq (by rfl) T.g_len boot_len (pa_cons (pv 2) pa_nil)) (pv 1) (nomark _)) (pss_cons (ps_set (i := 6) sc_lw_numbers.nd rfl (Or.inl rfl) (pe_op op_mod (pe_callTy call_int1 (by rfl) T.g_int boot_int (pa_cons (pe_op op_add (pe_op op_add (pe_op op_mul (pv 4) pe_int) (pe_op op_mul (pv 3) pe_int)) pe_int) pa_nil)) pe_int))
      (pss_one (ps_expr (pe_bm PySem.F.plainAttrs_list PySem.F.slot_list_append PySem.F.type_list_append mt_append (pv 2) (pa_cons (pe_op op_fdiv (pe_op op_mod (pe_callTy call_int1 (by rfl) T.g_int boot_int (pa_cons (pe_op op_add (pe_op op_add (pe_op op_mul (pv 6) pe_int) (pe_op op_mul pe_int (pv 3))) pe_int) pa_nil)) pe_int) pe_int) pa_nil))))) pss_nil))))))
      (pss_cons (ps_set (i := 7) sc_lw_numbers.nd rfl (Or.inl rfl) (pe_callB call_len_seq (by rfl) T.g_len boot_len (pa_cons (pv 2) pa_nil)))
      (pss_cons (ps_set (i := 8) sc_lw_numbers.nd rfl (Or.inl rfl) (pe_op op_add pe_int (pe_callB call_len_seq (by rfl) T.g_len boot_len (pa_cons (pv 0) pa_nil))))
      (pss_cons (ps_for PassesOwn.never rfl (pi_range1 (by rfl) T.g_range (pa_cons (pe_callB (call_max2 rfl) (by rfl) T.g_max boot_max (pa_cons pe_int (pa_cons (pe_op op_sub (pv 1) (pv 7)) pa_nil))) pa_nil)) (pg_name (i := 3) sc_lw_numbers.nd rfl (Or.inl rfl))
      (pss_cons (ps_if (pt_cmpR op_gt (pv 7) pe_int (nomark _)) (pss_one (ps_set (i := 8) sc_lw_numbers.nd rfl (Or.inl rfl) (pe_op op_add (pv 8) (pe_ix ix_list (pv 2) (pe_op op_mod (pv 3) (pv 7)) (fun _ _ => rfl))))) pss_nil)
      (pss_cons (ps_set (i := 8) sc_lw_numbers.nd rfl (Or.inl rfl) (pe_op op_mod (pe_callTy call_int1 (by rfl) T.g_int boot_int (pa_cons (pe_op op_add (pe_op op_mul (pv 8) pe_int) (pv 3)) pa_nil)) pe_int))
      (pss_one (ps_expr (pe_bm PySem.F.plainAttrs_list PySem.F.slot_list_append PySem.F.type_list_append mt_append (pv 2) (pa_cons (pe_op op_fdiv (pv 8) pe_int) pa_nil)))))))
      (pss_one (ps_ret (pe_slice sl_list (pv 2) po_none (po_some (pv 1)))))))))), ?_⟩
    -- numbers = []
    refine ⟨Nat.zero_le _, fun p np => ?_⟩
    have s0 : Same H (upd H p (.lst [])) := Cm.same_new np
    -- for k in range(len(script))
    refine ⟨_, rfl, l, _, rfl, .inl (s0.seq hl), ((sc.map V.int).length : Int), rfl, by omega, by rw [len_map]; omega, ?_⟩
    rw [Int.toNat_natCast]
    refine for_range (fun i σ H2 => ∃ (ms : List Int) (x3 x4 x5 x6 : Option V), σ = [some (.ref l), some (.int many), some (.ref p), x3, x4, x5, x6, none, none] ∧ Same H H2 ∧ H2 p = some (.lst (ms.map V.int)) ∧ ms.length ≤ many ∧ NumOk ms)
      ⟨[], none, none, none, none, rfl, s0, upd_same, Nat.zero_le _, fun n h => nomatch h⟩ (fun i σ H2 hi ⟨ms, x3, x4, x5, x6, e, s2, hp, hn, ha⟩ => ?_) fun σ H2 ⟨ms, x3, x4, x5, x6, e, s2, hp, hn, ha⟩ => ?_
    · subst e
      rw [len_map] at hi
      obtain ⟨c, _, ec⟩ := Cm.at_int (ns := sc) (i := (0 + (i : Int))) (by omega) (by omega)
      refine ⟨_, rfl, _, rfl, l, _, _, _, rfl, rfl, s2.seq hl, ec, .inl ⟨_, rfl, _, rfl, ?_⟩⟩
      generalize (if c < 0 then -c else c) = c0
      refine ⟨_, rfl, _, _, rfl, rfl, ⟨by decide, by decide, by decide⟩, _, _, rfl, rfl, _, rfl, Cm.itD (fun _ => ?_) fun _ => ?_⟩
      · refine ⟨60, rfl, by decide, by decide, for_range (n := 60) (fun j σ H2 => ∃ (ms : List Int) (c : Int) (x5 : Option V), σ = [some (.ref l), some (.int many), some (.ref p), some (.int (0 + (i : Int))), some (.int c), x5, x6, none, none] ∧ Same H H2 ∧ H2 p = some (.lst (ms.map V.int)) ∧ ms.length ≤ many ∧ NumOk ms)
          ⟨ms, c0, x5, rfl, s2, hp, hn, ha⟩ (fun j σ H2 hj ⟨ms, c, x5, e, s2, hp, hn, ha⟩ => ?_) fun σ H2 ⟨ms, c, x5, e, s2, hp, hn, ha⟩ => ?_⟩
        · subst e
          refine ⟨_, rfl, _, _, rfl, rfl, _, rfl, Cm.itD (fun h1 => ?_) fun h1 => ?_⟩
          · refine ⟨_, rfl, p, _, rfl, .inl (SqL.of hp), _, rfl, _, _, rfl, rfl, _, rfl, Cm.itD (fun h2 => ?_) fun h2 => ?_⟩
            · rw [len_map] at h2
              refine ⟨_, rfl, .inl ⟨rfl, _, SqL.of hp⟩, _, rfl, _, _, rfl, rfl, pMod, p, _, _, rfl, rfl, hp, Cm.smallL (by rw [len_map]; omega), ?_⟩
              refine ⟨_, rfl, _, _, rfl, rfl, ⟨by decide, by decide⟩, ?_⟩
              exact ⟨ms ++ [c % 10007], _, _, rfl, Cm.same_mut s2 np, by rw [upd_same, map_snoc], by rw [List.length_append]; simp only [List.length_cons, List.length_nil]; omega, num_snoc ha (by omega) (by omega)⟩
            · exact ⟨ms, c, _, rfl, s2, hp, hn, ha⟩
          · exact ⟨ms, c, _, rfl, s2, hp, hn, ha⟩
        · subst e
          exact ⟨ms, _, _, _, _, rfl, s2, hp, hn, ha⟩
      · refine ⟨_, rfl, p, _, rfl, .inl (SqL.of hp), _, rfl, _, _, rfl, rfl, _, rfl, Cm.itD (fun h2 => ?_) fun h2 => ?_⟩
        · rw [len_map] at h2
          refine ⟨_, rfl, _, _, rfl, rfl, .inr ⟨by decide, by decide⟩, _, rfl, _, _, rfl, rfl, .inr ⟨by decide, by decide⟩, _, _, rfl, rfl, _, _, rfl, rfl, .inl ⟨_, rfl, _, _, rfl, rfl, pMersenne, ?_⟩⟩
          refine ⟨_, rfl, .inl ⟨rfl, _, SqL.of hp⟩, _, rfl, _, _, rfl, rfl, .inr ⟨by decide, by decide⟩, _, rfl, _, _, rfl, rfl, .inl ⟨by decide, by decide⟩, _, _, rfl, rfl, _, _, rfl, rfl, .inl ⟨_, rfl, _, _, rfl, rfl, pMersenne, _, _, rfl, rfl, ⟨by decide, by decide⟩, p, _, _, rfl, rfl, hp, Cm.smallL (by rw [len_map]; omega), ?_⟩⟩
          have hy := mersenne ((c0 * 48271 + (0 + (i : Int)) * 69621 + 11) % 2147483647 * 16807 + 7 * (0 + (i : Int)) + 3)
          exact ⟨ms ++ [((c0 * 48271 + (0 + (i : Int)) * 69621 + 11) % 2147483647 * 16807 + 7 * (0 + (i : Int)) + 3) % 2147483647 / 3], _, _, _, _, rfl, Cm.same_mut s2 np, by rw [upd_same, map_snoc], by rw [List.length_append]; simp only [List.length_cons, List.length_nil]; omega, num_snoc ha (by omega) (by omega)⟩
        · exact ⟨ms, _, _, _, _, rfl, s2, hp, hn, ha⟩
    · subst e
      -- base = len(numbers)
      refine ⟨_, rfl, p, _, rfl, .inl (SqL.of hp), ?_⟩
      rw [len_map]
      refine ⟨_, rfl, l, _, rfl, .inl (s2.seq hl), _, _, rfl, rfl, ?_⟩
      rw [len_map]
      -- for k in range(max(0, many - base))
      refine ⟨_, rfl, _, rfl, _, _, rfl, rfl, _, _, rfl, _, rfl, by split <;> omega, by split <;> omega, ?_⟩
      rw [show (if (many : Int) - (ms.length : Int) > 0 then (many : Int) - (ms.length : Int) else 0).toNat = many - ms.length by split <;> omega]
      have nb : NumOk ms := ha
      refine for_range (n := many - ms.length) (fun i σ H2 => ∃ (m2 : List Int) (L : Int) (x3 : Option V), σ = [some (.ref l), some (.int many), some (.ref p), x3, x4, x5, x6, some (.int ms.length), some (.int L)] ∧ (0 ≤ L ∧ L < 2147483647) ∧ Same H H2 ∧ H2 p = some (.lst (m2.map V.int)) ∧ m2.length = ms.length + i ∧ NumOk m2)
        ⟨ms, _, _, rfl, ⟨by omega, by omega⟩, s2, hp, rfl, ha⟩ (fun i σ H2 hi ⟨m2, L, x3, e, hL, s2, hp, hn2, ha⟩ => ?_) fun σ H2 ⟨m2, L, x3, e, hL, s2, hp, hn2, ha⟩ => ?_
      · subst e
        refine ⟨_, rfl, _, _, rfl, rfl, _, rfl, Cm.itD (fun hb => ?_) fun hb => ?_⟩
        · have hb0 : (0 : Int) < (ms.length : Int) := hb
          have g0 := Int.emod_nonneg (0 + (i : Int)) (show (ms.length : Int) ≠ 0 by omega)
          have g1 := Int.emod_lt_of_pos (0 + (i : Int)) hb0
          obtain ⟨v, hv, ev⟩ := Cm.at_int (ns := m2) (i := (0 + (i : Int)) % (ms.length : Int)) g0 (by omega)
          obtain ⟨hv0, hv1⟩ := ha v hv
          refine ⟨_, rfl, _, rfl, _, rfl, _, rfl, _, _, rfl, rfl, hb0, p, _, _, _, rfl, rfl, SqL.of hp, ev, _, _, rfl, rfl, ?_⟩
          refine ⟨_, rfl, _, _, rfl, rfl, .inr ⟨by decide, by decide⟩, _, rfl, _, _, rfl, rfl, .inl ⟨_, rfl, _, _, rfl, rfl, pMersenne, ?_⟩⟩
          have hy := mersenne ((L + v) * 48271 + (0 + (i : Int)))
          refine ⟨_, rfl, .inl ⟨rfl, _, SqL.of hp⟩, _, rfl, _, _, rfl, rfl, ⟨by decide, by decide⟩, p, _, _, rfl, rfl, hp, Cm.smallL (by rw [len_map]; omega), ?_⟩
          exact ⟨m2 ++ [((L + v) * 48271 + (0 + (i : Int))) % 2147483647 / 7], _, _, rfl, hy, Cm.same_mut s2 np, by rw [upd_same, map_snoc], by rw [List.length_append]; simp only [List.length_cons, List.length_nil]; omega, num_snoc ha (by omega) (by omega)⟩
        · refine ⟨_, rfl, _, _, rfl, rfl, .inr ⟨by decide, by decide⟩, _, rfl, _, _, rfl, rfl, .inl ⟨_, rfl, _, _, rfl, rfl, pMersenne, ?_⟩⟩
          have hy := mersenne (L * 48271 + (0 + (i : Int)))
          refine ⟨_, rfl, .inl ⟨rfl, _, SqL.of hp⟩, _, rfl, _, _, rfl, rfl, ⟨by decide, by decide⟩, p, _, _, rfl, rfl, hp, Cm.smallL (by rw [len_map]; omega), ?_⟩
          exact ⟨m2 ++ [(L * 48271 + (0 + (i : Int))) % 2147483647 / 7], _, _, rfl, hy, Cm.same_mut s2 np, by rw [upd_same, map_snoc], by rw [List.length_append]; simp only [List.length_cons, List.length_nil]; omega, num_snoc ha (by omega) (by omega)⟩
      · subst e
        have hl2 : m2.length = many := by omega
        refine ⟨_, rfl, _, rfl, _, rfl, p, _, rfl, SqL.of hp, fun p2 np2 => ?_⟩
        rw [cut_all (by rw [len_map]; exact hl2)]
        exact q _ p2 m2 (s2.trans (Cm.same_new np2)) (s2.free np2) upd_same hl2 ha
/-- numbers[x % len(numbers)] -/
theorem at_mod {ns : List Int} (x : Int) (h : 0 < ns.length) : (0 : Int) < ((ns.map V.int).length : Int) ∧ ∃ v, v ∈ ns ∧ atI (ns.map V.int) (x % ((ns.map V.int).length : Int)) = some (.int v) := by
  have hp : (0 : Int) < ((ns.map V.int).length : Int) := by
    rw [len_map]
    omega
  have h0 := Int.emod_nonneg x (show ((ns.map V.int).length : Int) ≠ 0 by omega)
  have h1 := Int.emod_lt_of_pos x hp
  obtain ⟨v, hv, ev⟩ := Cm.at_int (ns := ns) h0 (by rw [len_map] at h1 ⊢; exact h1)
  exact ⟨hp, v, hv, ev⟩
open ND
/-! ### drawn objects, values, entries, bundles -/
def ProcD (d : PyData) : Prop := ∃ ns : List Int, d = .tuple (ns.map PyData.int) ∧ ns.length ≤ 3 ∧ ∀ n ∈ ns, 0 ≤ n ∧ n ≤ 12
def ObjD (d : PyData) : Prop := ∃ (pd : PyData) (j : Int), d = .tuple [pd, .int j] ∧ ProcD pd ∧ 0 ≤ j ∧ j ≤ 13
def ValD (d : PyData) : Prop := d = .tuple [.str "nil"] ∨ (∃ o, ObjD o ∧ d = .tuple [.str "ref", o]) ∨ ∃ i : Int, d = .int i ∧ -1000000000000 ≤ i ∧ i ≤ 1000000000000
def ValsD (m : Nat) (d : PyData) : Prop := ∃ ds, d = .tuple ds ∧ ds.length ≤ m ∧ ∀ x ∈ ds, ValD x
/-- numbers of a script in a list -/
def NumAt (K : PySem.W.Frag) (H : Hp) (nu : Addr) (ns : List Int) : Prop := H nu = some (.lst (ns.map V.int)) ∧ NumOk ns ∧ 70 ≤ ns.length
theorem NumAt.same {H H' : Hp} {nu : Addr} {ns : List Int} (s : Same H H') (h : NumAt K H nu ns) : NumAt K H' nu ns := ⟨s _ _ h.1, h.2⟩
def spObjN (K : PySem.W.Frag) : Sp := fun vs H Q _ => ∃ n : Int, vs = [.int n] ∧ 0 ≤ n ∧ ∀ H' v pd j pv, Same H H' → Rp K H' v (.tuple [pd, .int j]) → ProcD pd → 0 ≤ j → j ≤ 13 → (v = .ref pv → True) → Q v H'
theorem ok_lw_object (T : Txt K mg w a) : FnOk P w K mg base CX0 1 (He.ga K "_law_object") a.d_lw_object ["number"] (spObjN K) := by
  refine T.F_lw_object.ok sc_lw_object (fun vs H Q E h => ?_) (fun cdv A outer s H vs Q E hr h => ?_)
  · obtain ⟨n, rfl, _⟩ := h
    rfl
  · obtain ⟨n, rfl, hn, q⟩ := h
    refine ⟨_, PSs.nox (pss_cons (ps_set (i := 1) sc_lw_object.nd rfl (Or.inl rfl) (pe_ix ix_list (pe_lst (pa_cons (pe_tup pa_nil) (pa_cons (pe_tup (pa_cons pe_int pa_nil)) (pa_cons (pe_tup (pa_cons pe_int pa_nil)) (pa_cons (pe_tup (pa_cons pe_int (pa_cons pe_int pa_nil))) (pa_cons (pe_tup (pa_cons pe_int pa_nil)) (pa_cons (pe_tup (pa_cons pe_int (pa_cons pe_int (pa_cons pe_int pa_nil)))) pa_nil))))))) (pe_op op_mod (pv 0) pe_int) (fun _ _ => rfl)))
      (pss_one (ps_ret (pe_tup (pa_cons (pv 1) (pa_cons (pe_op op_mod (pe_op op_fdiv (pv 0) pe_int) pe_int) pa_nil)))))), ?_⟩
    rw [show L2.start N_lw_object [.int n] = [some (.int n), none] from rfl]
    refine ⟨Nat.zero_le _, fun a0 h0 => ⟨Cm.small (by show 1 ≤ 100000; decide), fun a1 h1 => ⟨Cm.small (by show 1 ≤ 100000; decide), fun a2 h2 => ⟨Cm.small (by show 2 ≤ 100000; decide), fun a3 h3 => ⟨Cm.small (by show 1 ≤ 100000; decide), fun a4 h4 => ⟨Cm.small (by show 3 ≤ 100000; decide), fun a5 h5 => ⟨Cm.small (by show 6 ≤ 100000; decide), fun al hal => ?_⟩⟩⟩⟩⟩⟩⟩
    have s6 := Cm.same_new (o := .lst [.ref a0, .ref a1, .ref a2, .ref a3, .ref a4, .ref a5]) hal
    have s5 := (Cm.same_new (o := .tup [.int 0, .int 0, .int 1]) h5).trans s6
    have s4 := (Cm.same_new (o := .tup [.int 12]) h4).trans s5
    have s3 := (Cm.same_new (o := .tup [.int 0, .int 2]) h3).trans s4
    have s2 := (Cm.same_new (o := .tup [.int 1]) h2).trans s3
    have s1 := (Cm.same_new (o := .tup [.int 0]) h1).trans s2
    have s0 := (Cm.same_new (o := .tup []) h0).trans s1
    have r0 := (Rp.made (K := K) h0 .nil).keep (Same.tups s1)
    have r1 := (Rp.made (K := K) h1 (.cons (.int 0) .nil)).keep (Same.tups s2)
    have r2 := (Rp.made (K := K) h2 (.cons (.int 1) .nil)).keep (Same.tups s3)
    have r3 := (Rp.made (K := K) h3 (.cons (.int 0) (.cons (.int 2) .nil))).keep (Same.tups s4)
    have r4 := (Rp.made (K := K) h4 (.cons (.int 12) .nil)).keep (Same.tups s5)
    have r5 := (Rp.made (K := K) h5 (.cons (.int 0) (.cons (.int 0) (.cons (.int 1) .nil)))).keep (Same.tups s6)
    have hl : (upd (upd (upd (upd (upd (upd (upd H a0 (.tup [])) a1 (.tup [.int 0])) a2 (.tup [.int 1])) a3 (.tup [.int 0, .int 2])) a4 (.tup [.int 12])) a5 (.tup [.int 0, .int 0, .int 1])) al (.lst [.ref a0, .ref a1, .ref a2, .ref a3, .ref a4, .ref a5])) al = some (.lst [.ref a0, .ref a1, .ref a2, .ref a3, .ref a4, .ref a5]) := upd_same
    generalize upd (upd (upd (upd (upd (upd (upd H a0 (.tup [])) a1 (.tup [.int 0])) a2 (.tup [.int 1])) a3 (.tup [.int 0, .int 2])) a4 (.tup [.int 12])) a5 (.tup [.int 0, .int 0, .int 1])) al (.lst [.ref a0, .ref a1, .ref a2, .ref a3, .ref a4, .ref a5]) = HL at *
    obtain ⟨v, hv, ev⟩ := Cm.at_in (xs := [V.ref a0, V.ref a1, V.ref a2, V.ref a3, V.ref a4, V.ref a5]) (i := n % 6) (by omega) (by show n % 6 < 6; omega)
    obtain ⟨pd, rp, hpd⟩ : ∃ pd, Rp K HL v pd ∧ ProcD pd := by
      simp only [List.mem_cons, List.not_mem_nil, or_false] at hv
      rcases hv with rfl | rfl | rfl | rfl | rfl | rfl
      · exact ⟨_, r0, [], rfl, by decide, by decide⟩
      · exact ⟨_, r1, [0], rfl, by decide, by decide⟩
      · exact ⟨_, r2, [1], rfl, by decide, by decide⟩
      · exact ⟨_, r3, [0, 2], rfl, by decide, by decide⟩
      · exact ⟨_, r4, [12], rfl, by decide, by decide⟩
      · exact ⟨_, r5, [0, 0, 1], rfl, by decide, by decide⟩
    refine ⟨_, rfl, _, _, rfl, rfl, (by show (0 : Int) < 6; decide), al, _, _, _, rfl, rfl, SqL.of hl, ev, ?_⟩
    refine ⟨_, rfl, _, rfl, _, _, rfl, rfl, ⟨by decide, by decide⟩, _, _, rfl, rfl, (by show (0 : Int) < 14; decide), Cm.small (by show 2 ≤ 100000; decide), fun t nt => ?_⟩
    exact q _ _ pd (n / 6 % 14) 0 (s0.trans (Cm.same_new nt)) (Rp.made nt (.cons rp (.cons (.int _) .nil))) hpd (by omega) (by omega) fun _ => trivial
def spValN (K : PySem.W.Frag) : Sp := fun vs H Q _ => ∃ n : Int, vs = [.int n] ∧ 0 ≤ n ∧ ∀ H' v d, Same H H' → Rp K H' v d → ValD d → Q v H'
theorem ok_lw_value (T : Txt K mg w a) : FnOk P w K mg base CX0 2 (He.ga K "_law_value") a.d_lw_value ["number"] (spValN K) := by
  refine T.F_lw_value.ok sc_lw_value (fun vs H Q E h => ?_) (fun cdv A outer s H vs Q E hr h => ?_)
  · obtain ⟨n, rfl, _⟩ := h
    rfl
  · obtain ⟨n, rfl, hn, q⟩ := h
    refine ⟨_, PSs.nox (pss_cons (ps_set (i := 1) sc_lw_value.nd rfl (Or.inl rfl) (pe_op op_mod (pv 0) pe_int))
      (pss_cons (ps_if (pt_cmpR op_eq (pv 1) pe_int (nomark _)) (pss_one (ps_ret (pe_tup (pa_cons pe_str pa_nil)))) pss_nil)
      (pss_cons (ps_if (pt_cmpR op_eq (pv 1) pe_int (nomark _)) (pss_one (ps_ret (pe_tup (pa_cons pe_str (pa_cons (pe_call (ok_lw_object T) (hr.mono (by omega)) (by rfl) T.g_lw_object T.F_lw_object.kp T.b_lw_object .nil pass0 (pa_cons (pe_op op_fdiv (pv 0) pe_int) pa_nil)) pa_nil))))) pss_nil)
      (pss_cons (ps_if (pt_cmpR op_eq (pv 1) pe_int (nomark _)) (pss_one (ps_ret (pe_ix ix_list (pe_lst (pa_cons (pe_op op_pow pe_int pe_int) (pa_cons (pe_op op_sub pe_int (pe_op op_pow pe_int pe_int)) (pa_cons pe_int pa_nil)))) (pe_op op_mod (pe_op op_fdiv (pv 0) pe_int) pe_int) (fun _ _ => rfl)))) pss_nil)
      (pss_one (ps_ret (pe_op op_sub (pe_op op_mod (pe_op op_fdiv (pv 0) pe_int) pe_int) pe_int))))))), ?_⟩
    rw [show L2.start N_lw_value [.int n] = [some (.int n), none] from rfl]
    refine ⟨_, rfl, _, _, rfl, rfl, (by show (0 : Int) < 5; decide), ?_⟩
    refine ⟨_, rfl, rfl, _, rfl, Cm.itEI (fun e1 => ?_) fun e1 => ?_⟩
    · refine ⟨Cm.small (by show 1 ≤ 100000; decide), fun t nt => ?_⟩
      exact q _ _ _ (Cm.same_new nt) (Rp.made nt (.cons (.str "nil") .nil)) (.inl rfl)
    refine ⟨_, rfl, rfl, _, rfl, Cm.itEI (fun e2 => ?_) fun e2 => ?_⟩
    · refine ⟨_, rfl, _, _, rfl, rfl, ⟨by decide, by decide⟩, n / 5, rfl, by omega, fun H' v pd j _ s1 rv hpd hj0 hj1 _ => ?_⟩
      refine ⟨Cm.small (by show 2 ≤ 100000; decide), fun t nt => ?_⟩
      exact q _ _ _ (s1.trans (Cm.same_new nt)) (Rp.made nt (.cons (.str "ref") (.cons rv .nil))) (.inr (.inl ⟨_, ⟨pd, j, rfl, hpd, hj0, hj1⟩, rfl⟩))
    refine ⟨_, rfl, rfl, _, rfl, Cm.itEI (fun e3 => ?_) fun e3 => ?_⟩
    · refine ⟨_, _, rfl, rfl, ⟨by decide, by decide, by decide⟩, _, _, rfl, rfl, ⟨by decide, by decide, by decide⟩, _, _, rfl, rfl, Cm.small (by show 3 ≤ 100000; decide), fun t nt => ?_⟩
      obtain ⟨i, hi, ei⟩ := Cm.at_int (ns := [10 ^ (12 : Int).toNat, 0 - 10 ^ (12 : Int).toNat, 0]) (i := n / 5 % 3) (by omega) (by show n / 5 % 3 < 3; omega)
      refine ⟨_, rfl, _, _, rfl, rfl, ⟨by decide, by decide⟩, _, _, rfl, rfl, (by show (0 : Int) < 3; decide), t, _, _, _, rfl, rfl, Cm.sql_new, ei, ?_⟩
      refine q _ _ _ (Cm.same_new nt) (.int i) (.inr (.inr ⟨i, rfl, ?_⟩))
      simp only [List.mem_cons, List.not_mem_nil, or_false] at hi
      rcases hi with rfl | rfl | rfl <;> decide +kernel
    refine ⟨_, rfl, _, _, rfl, rfl, ⟨by decide, by decide⟩, _, _, rfl, rfl, (by show (0 : Int) < 61; decide), _, _, rfl, rfl, ?_⟩
    exact q _ _ _ (Same.refl H) (.int _) (.inr (.inr ⟨_, rfl, by omega, by omega⟩))
def spValsN (K : PySem.W.Frag) : Sp := fun vs H Q _ => ∃ (nu : Addr) (ns : List Int) (at_ : Int) (most : Nat), vs = [.ref nu, .int at_, .int most] ∧ NumAt K H nu ns ∧ most ≤ 10 ∧ ∀ H' v ds, Same H H' → Rp K H' v (.tuple ds) → ds.length ≤ most → (∀ x ∈ ds, ValD x) → Q v H'
theorem ok_lw_values (T : Txt K mg w a) : FnOk P w K mg base CX0 3 (He.ga K "_law_values") a.d_lw_values ["numbers", "at", "most"] (spValsN K) := by
  refine T.F_lw_values.ok sc_lw_values (fun vs H Q E h => ?_) (fun cdv A outer s H vs Q E hr h => ?_)
  · obtain ⟨nu, ns, at_, most, rfl, _⟩ := h
    rfl
  · obtain ⟨nu, ns, at_, most, rfl, ⟨hnu, hok, hlen⟩, hm, q⟩ := h
    refine ⟨_, PSs.nox (pss_one (ps_ret (pe_callTy call_tuple_of (by rfl) T.g_tuple boot_tuple (pa_cons (pe_lc (own := [("k", 3)]) (g := gName 3) (tt := tYes)  (by rfl) sc_lw_values.nd (pi_range1 (by rfl) T.g_range (pa_cons (pe_op op_mod (pe_op op_fdiv (pe_ix ix_list (pv 0) (pe_op op_mod (pe_callTy call_int1 (by rfl) T.g_int boot_int (pa_cons (pv 1) pa_nil)) (pe_callB call_len_seq (by rfl) T.g_len boot_len (pa_cons (pv 0) pa_nil))) (fun _ _ => rfl)) pe_int) (pe_op op_add (pv 2) pe_int)) pa_nil)) (blkOk_by (own := [("k", 3)]) (N := N_lw_values) (sc := defScope s_lw_values) (by decide +kernel)) (fun _ _ _ _ _ => pg_name (i := 3) sc_lw_values.nd rfl (Or.inl rfl)) (fun _ _ _ _ _ => pts_nil) (fun _ _ _ _ _ => (pe_call (ok_lw_value T) (hr.mono (by omega)) (by rfl) T.g_lw_value T.F_lw_value.kp T.b_lw_value .nil pass0 (pa_cons (pe_ix (r := rIxL K) ix_list (pv 0) (pe_op op_mod (pe_callTy call_int1 (by rfl) T.g_int boot_int (pa_cons (pe_op op_add (pv 1) (pv 3)) pa_nil)) (pe_callB (Nst.len_seq K rfl) (by rfl) T.g_len boot_len (pa_cons (pv 0) pa_nil))) (fun _ _ => rfl)) pa_nil)))) pa_nil)))), ?_⟩
    rw [show L2.start N_lw_values [.ref nu, .int at_, .int most] = [some (.ref nu), some (.int at_), some (.int most), none] from rfl]
    obtain ⟨p0, n0, hn0, e0⟩ := at_mod (ns := ns) at_ (by omega)
    obtain ⟨g0, _⟩ := hok n0 hn0
    refine ⟨_, rfl, _, rfl, .inl ⟨_, rfl, _, rfl, nu, _, rfl, .inl (SqL.of hnu), _, _, rfl, rfl, p0, nu, _, _, _, rfl, rfl, SqL.of hnu, e0, _, _, rfl, rfl, ⟨by decide, by decide⟩, ?_⟩⟩
    have hm1 : (0 : Int) < (most : Int) + 1 := by omega
    have b0 := Int.emod_nonneg (n0 / 7) (show (most : Int) + 1 ≠ 0 by omega)
    have b1 := Int.emod_lt_of_pos (n0 / 7) hm1
    refine ⟨_, rfl, _, _, rfl, rfl, _, _, rfl, rfl, hm1, _, rfl, by omega, by omega, fun D nD => ?_⟩
    refine lc_range (n := (n0 / 7 % ((most : Int) + 1)).toNat) (fun k Hi => Same H Hi ∧ ∃ acc ds, Hi D = some (.lst acc) ∧ Rps K Hi acc ds ∧ ds.length = k ∧ ∀ x ∈ ds, ValD x) ⟨Cm.same_new nD, [], [], upd_same, .nil, rfl, fun _ h => nomatch h⟩ (fun k Hi hk ⟨sH, acc, ds, hD, rD, lD, vD⟩ => ?_) fun Hi ⟨sH, acc, ds, hD, rD, lD, vD⟩ => ?_
    · refine ⟨rfl, ?_⟩
      simp only [List.map_cons, List.map_nil, List.set_cons_succ, List.set_cons_zero, wipe]
      obtain ⟨p1, n1, hn1, e1⟩ := at_mod (ns := ns) (at_ + (0 + (k : Int))) (by omega)
      obtain ⟨g1, _⟩ := hok n1 hn1
      have hni := sH _ _ hnu
      refine ⟨_, rfl, _, rfl, _, rfl, _, _, rfl, rfl, .inl ⟨_, rfl, _, rfl, nu, _, rfl, .inl (SqL.of hni), _, _, rfl, rfl, p1, nu, _, _, _, rfl, rfl, SqL.of hni, e1, ?_⟩⟩
      refine ⟨n1, rfl, g1, fun H' v d s' rv hv => ?_⟩
      have hD' := s' _ _ hD
      have la := rD.len
      have tk : TK K H' (upd H' D (.lst (acc ++ [v]))) := TK.upd (by rw [hD']; exact True.intro)
      refine ⟨acc, hD', Cm.smallL (by omega), Cm.same_mut (sH.trans s') nD, acc ++ [v], ds ++ [d], upd_same, rps_keep tk ((rD.keep (Same.tups s')).app (.cons rv .nil)), by rw [List.length_append, lD]; rfl, fun x hx => ?_⟩
      rcases List.mem_append.mp hx with hx | hx
      · exact vD x hx
      · rw [List.mem_singleton.mp hx]
        exact hv
    · refine ⟨D, acc, rfl, .inl ⟨SqL.of hD, fun l nl => ?_⟩⟩
      exact q _ _ ds (sH.trans (Cm.same_new nl)) (Rp.made nl rD) (by omega) vD
def FrD (d : PyData) : Prop := ∃ (op : Str) (i : Int) (ls st : List PyData), d = .tuple [.str op, .int i, .tuple ls, .tuple st] ∧ op ∈ (["start", "get", "f2", "Put"] : List Str) ∧ 0 ≤ i ∧ i ≤ 11 ∧ ls.length ≤ 3 ∧ st.length ≤ 3 ∧ (∀ x ∈ ls, ValD x) ∧ ∀ x ∈ st, ValD x
def TokD (tok : PyData) (wd : Str) : Prop := (∃ x y : Int, tok = .tuple [.int x, .int y] ∧ 0 ≤ x ∧ x ≤ 4 ∧ 0 ≤ y ∧ y ≤ 3) ∨ (tok = .none ∧ wd = "")
abbrev wordsF : List Str := ["", "", "", "number", "large", "nil"]
def EntD (d : PyData) : Prop := ∃ (pd : PyData) (dep : Int) (fr back tok : PyData) (wd : Str), d = .tuple [pd, .int dep, fr, back, tok, .str wd] ∧ ProcD pd ∧ 0 ≤ dep ∧ dep ≤ 3 ∧ FrD fr ∧ (dep = 0 → back = .tuple []) ∧ (dep ≠ 0 → ObjD back) ∧ TokD tok wd ∧ wd ∈ wordsF
def spEntN (K : PySem.W.Frag) : Sp := fun vs H Q _ => ∃ (nu : Addr) (ns : List Int) (at_ : Int), vs = [.ref nu, .int at_] ∧ NumAt K H nu ns ∧ ∀ H' v d, Same H H' → Rp K H' v d → EntD d → Q v H'
theorem ok_lw_entry (T : Txt K mg w a) : FnOk P w K mg base CX0 4 (He.ga K "_law_entry") a.d_lw_entry ["numbers", "at"] (spEntN K) := by
  refine T.F_lw_entry.ok sc_lw_entry (fun vs H Q E h => ?_) (fun cdv A outer s H vs Q E hr h => ?_)
  · obtain ⟨nu, ns, at_, rfl, _⟩ := h
    rfl
  · obtain ⟨nu, ns, at_, rfl, N, q⟩ := h
    obtain ⟨hnu, hok, hlen⟩ := id N
    refine ⟨_, PSs.nox (pss_cons (ps_set (i := 2) sc_lw_entry.nd rfl (Or.inl rfl) (pe_ix ix_list (pv 0) (pe_op op_mod (pe_callTy call_int1 (by rfl) T.g_int boot_int (pa_cons (pv 1) pa_nil)) (pe_callB call_len_seq (by rfl) T.g_len boot_len (pa_cons (pv 0) pa_nil))) (fun _ _ => rfl)))
      (pss_cons (ps_asg (pe_call (ok_lw_object T) (hr.mono (by omega)) (by rfl) T.g_lw_object T.F_lw_object.kp T.b_lw_object .nil pass0 (pa_cons (pv 2) pa_nil)) (pg_tup (by rfl) (pgs_cons (pg_name (i := 3) sc_lw_entry.nd rfl (Or.inl rfl)) (pgs_cons (pg_name (i := 4) sc_lw_entry.nd rfl (Or.inl rfl)) pgs_nil))))
      (pss_cons (ps_set (i := 5) sc_lw_entry.nd rfl (Or.inl rfl) (pe_op op_mod (pe_op op_fdiv (pv 2) pe_int) pe_int))
      (pss_cons (ps_set (i := 6) sc_lw_entry.nd rfl (Or.inl rfl) (pe_tup pa_nil))
      (C8.pss_cut (ps_if (pt_cmpR op_gt (pv 5) pe_int (nomark _)) (pss_one (ps_set (i := 6) sc_lw_entry.nd rfl (Or.inl rfl) (pe_call (ok_lw_object T) (hr.mono (by omega)) (by rfl) T.g_lw_object T.F_lw_object.kp T.b_lw_object .nil pass0 (pa_cons (pe_ix ix_list (pv 0) (pe_op op_mod (pe_callTy call_int1 (by rfl) T.g_int boot_int (pa_cons (pe_op op_add (pv 1) pe_int) pa_nil)) (pe_callB call_len_seq (by rfl) T.g_len boot_len (pa_cons (pv 0) pa_nil))) (fun _ _ => rfl)) pa_nil)))) pss_nil)
      (pss_cons (ps_set (i := 7) sc_lw_entry.nd rfl (Or.inl rfl) (pe_ix ix_list (pe_lst (pa_cons pe_str (pa_cons pe_str (pa_cons pe_str (pa_cons pe_str (pa_cons pe_str (pa_cons pe_str pa_nil))))))) (pe_op op_mod (pe_ix ix_list (pv 0) (pe_op op_mod (pe_callTy call_int1 (by rfl) T.g_int boot_int (pa_cons (pe_op op_add (pv 1) pe_int) pa_nil)) (pe_callB call_len_seq (by rfl) T.g_len boot_len (pa_cons (pv 0) pa_nil))) (fun _ _ => rfl)) pe_int) (fun _ _ => rfl)))
      (pss_cons (ps_set (i := 8) sc_lw_entry.nd rfl (Or.inl rfl) (pe_tup (pa_cons (pe_op op_mod (pe_op op_fdiv (pv 2) pe_int) pe_int) (pa_cons (pe_op op_mod (pe_op op_fdiv (pv 2) pe_int) pe_int) pa_nil))))
      (C8.pss_cut (ps_if (PW.pt (pw_and (pt_cmpR op_eq (pv 7) pe_str (nomark _)) (pw_and1 (pt_cmpR op_eq (pe_op op_mod (pe_op op_fdiv (pe_ix ix_list (pv 0) (pe_op op_mod (pe_callTy call_int1 (by rfl) T.g_int boot_int (pa_cons (pe_op op_add (pv 1) pe_int) pa_nil)) (pe_callB call_len_seq (by rfl) T.g_len boot_len (pa_cons (pv 0) pa_nil))) (fun _ _ => rfl)) pe_int) pe_int) pe_int (nomark _))))) (pss_one (ps_set (i := 8) sc_lw_entry.nd rfl (Or.inl rfl) pe_non)) pss_nil)
      (pss_cons (ps_set (i := 9) sc_lw_entry.nd rfl (Or.inl rfl) (pe_ix ix_list (pe_lst (pa_cons pe_str (pa_cons pe_str (pa_cons pe_str (pa_cons pe_str pa_nil))))) (pe_op op_mod (pe_ix ix_list (pv 0) (pe_op op_mod (pe_callTy call_int1 (by rfl) T.g_int boot_int (pa_cons (pe_op op_add (pv 1) pe_int) pa_nil)) (pe_callB call_len_seq (by rfl) T.g_len boot_len (pa_cons (pv 0) pa_nil))) (fun _ _ => rfl)) pe_int) (fun _ _ => rfl)))
      (pss_cons (ps_set (i := 10) sc_lw_entry.nd rfl (Or.inl rfl) (pe_tup (pa_cons (pv 9) (pa_cons (pe_op op_mod (pe_op op_fdiv (pv 2) pe_int) pe_int) (pa_cons (pe_call (ok_lw_values T) (hr.mono (by omega)) (by rfl) T.g_lw_values T.F_lw_values.kp T.b_lw_values .nil pass0 (pa_cons (pv 0) (pa_cons (pe_op op_add (pv 1) pe_int) (pa_cons pe_int pa_nil)))) (pa_cons (pe_call (ok_lw_values T) (hr.mono (by omega)) (by rfl) T.g_lw_values T.F_lw_values.kp T.b_lw_values .nil pass0 (pa_cons (pv 0) (pa_cons (pe_op op_add (pv 1) pe_int) (pa_cons pe_int pa_nil)))) pa_nil))))))
      (pss_one (ps_ret (pe_tup (pa_cons (pv 3) (pa_cons (pv 5) (pa_cons (pv 10) (pa_cons (pv 6) (pa_cons (pv 8) (pa_cons (pv 7) pa_nil))))))))))))))))))), ?_⟩
    rw [show L2.start N_lw_entry [.ref nu, .int at_] = [some (.ref nu), some (.int at_), none, none, none, none, none, none, none, none, none] from rfl]
    -- number
    obtain ⟨p0, n0, hn0, e0⟩ := at_mod (ns := ns) at_ (by omega)
    obtain ⟨g0, _⟩ := hok n0 hn0
    refine ⟨_, rfl, _, rfl, .inl ⟨_, rfl, _, rfl, nu, _, rfl, .inl (SqL.of hnu), _, _, rfl, rfl, p0, nu, _, _, _, rfl, rfl, SqL.of hnu, e0, ?_⟩⟩
    -- process, k
    refine ⟨_, rfl, n0, rfl, g0, fun H1 v pd j _ s1 rv hpd hj0 hj1 _ => ?_⟩
    obtain ⟨a1, vs1, rfl, ha1, hvs1⟩ := rv.tup_inv
    obtain ⟨v1, r1, rfl, rpd, hr1⟩ := hvs1.cons_inv
    obtain ⟨v2, r2, rfl, rj, hr2⟩ := hr1.cons_inv
    obtain rfl := hr2.nil_inv
    obtain rfl := rj.int_inv
    refine ⟨a1, _, rfl, ha1, rfl, _, _, rfl, _, _, rfl, rfl, ?_⟩
    -- depth, back
    refine ⟨_, rfl, _, _, rfl, rfl, ⟨by decide, by decide⟩, _, _, rfl, rfl, (by show (0 : Int) < 4; decide), ?_⟩
    refine ⟨Nat.zero_le _, fun t0 nt0 => ?_⟩
    have s2 := Cm.same_new (o := .tup []) nt0
    have rb0 := Rp.made (K := K) nt0 (.nil : Rps K H1 [] [])
    have rpd := rpd.keep (Same.tups s2)
    have N2 := (N.same s1).same s2
    have s12 := s1.trans s2
    generalize upd H1 t0 (.tup []) = H2 at *
    simp only [gName, List.set_cons_succ, List.set_cons_zero]
    refine ⟨fun σ' H3 => ∃ (bv : V) (bd : PyData), σ' = [some (.ref nu), some (.int at_), some (.int n0), some v1, some (.int j), some (.int (n0 / 90 % 4)), some bv, none, none, none, none] ∧ Same H2 H3 ∧ Rp K H3 bv bd ∧ (n0 / 90 % 4 = 0 → bd = .tuple []) ∧ (n0 / 90 % 4 ≠ 0 → ObjD bd), ?_, fun σ' H3 ⟨bv, bd, e, s3, rb, hb0, hb1⟩ => ?_⟩
    · refine ⟨_, rfl, _, _, rfl, rfl, _, rfl, Cm.itD (fun e1 => ?_) fun e1 => ?_⟩
      · obtain ⟨p1, m1, hm1, em1⟩ := at_mod (ns := ns) (at_ + 1) (by omega)
        obtain ⟨gm1, _⟩ := hok m1 hm1
        refine ⟨_, rfl, _, rfl, _, _, rfl, rfl, .inl ⟨_, rfl, _, rfl, nu, _, rfl, .inl (SqL.of N2.1), _, _, rfl, rfl, p1, nu, _, _, _, rfl, rfl, SqL.of N2.1, em1, m1, rfl, gm1, fun H3 v3 pd3 j3 _ s3 rv3 hpd3 h30 h31 _ => ?_⟩⟩
        exact ⟨_, _, rfl, s3, rv3, (fun z => absurd e1 (by omega)), fun _ => ⟨pd3, j3, rfl, hpd3, h30, h31⟩⟩
      · exact ⟨_, _, rfl, Same.refl _, rb0, (fun _ => rfl), fun z => absurd e1 (by omega)⟩
    · subst e
      have N3 := N2.same s3
      have rpd := rpd.keep (Same.tups s3)
      have s13 := s12.trans s3
      -- word
      refine ⟨Cm.small (by show 6 ≤ 100000; decide), fun tw ntw => ?_⟩
      have s4 := Cm.same_new (o := .lst [.str "", .str "", .str "", .str "number", .str "large", .str "nil"]) ntw
      obtain ⟨p2, m2, hm2, em2⟩ := at_mod (ns := ns) (at_ + 2) (by omega)
      obtain ⟨gm2, _⟩ := hok m2 hm2
      obtain ⟨wd, hwd, ewd⟩ := Cm.at_str (ws := wordsF) (i := m2 % 6) (by omega) (by show m2 % 6 < 6; omega)
      have N4 := N3.same s4
      have rb := rb.keep (Same.tups s4)
      have rpd := rpd.keep (Same.tups s4)
      have s14 := s13.trans s4
      have htw : (upd H3 tw (.lst [.str "", .str "", .str "", .str "number", .str "large", .str "nil"])) tw = some (.lst (wordsF.map V.str)) := upd_same
      generalize upd H3 tw (.lst [.str "", .str "", .str "", .str "number", .str "large", .str "nil"]) = H4 at *
      refine ⟨_, rfl, _, rfl, _, _, rfl, rfl, .inl ⟨_, rfl, _, rfl, nu, _, rfl, .inl (SqL.of N4.1), _, _, rfl, rfl, p2, nu, _, _, _, rfl, rfl, SqL.of N4.1, em2, _, _, rfl, rfl, (by show (0 : Int) < 6; decide), tw, _, _, _, rfl, rfl, SqL.of htw, ewd, ?_⟩⟩
      -- token
      refine ⟨_, rfl, _, _, rfl, rfl, ⟨by decide, by decide⟩, _, _, rfl, rfl, (by show (0 : Int) < 5; decide), _, rfl, _, _, rfl, rfl, ⟨by decide, by decide⟩, _, _, rfl, rfl, (by show (0 : Int) < 4; decide), Cm.small (by show 2 ≤ 100000; decide), fun tt ntt => ?_⟩
      have s5 := Cm.same_new (o := .tup [.int (n0 / 3 % 5), .int (n0 / 11 % 4)]) ntt
      have rt := Rp.made (K := K) ntt (.cons (.int (n0 / 3 % 5)) (.cons (.int (n0 / 11 % 4)) .nil))
      have N5 := N4.same s5
      have rb := rb.keep (Same.tups s5)
      have rpd := rpd.keep (Same.tups s5)
      have s15 := s14.trans s5
      generalize upd H4 tt (.tup [.int (n0 / 3 % 5), .int (n0 / 11 % 4)]) = H5 at *
      simp only [gName, List.set_cons_succ, List.set_cons_zero]
      refine ⟨fun σ' H6 => H6 = H5 ∧ ∃ (tv : V) (td : PyData), σ' = [some (.ref nu), some (.int at_), some (.int n0), some v1, some (.int j), some (.int (n0 / 90 % 4)), some bv, some (.str wd), some tv, none, none] ∧ Rp K H5 tv td ∧ TokD td wd, ?_, fun σ' H6 ⟨eH, tv, td, e, rtv, htd⟩ => ?_⟩
      · have tk0 : TokD (.tuple [.int (n0 / 3 % 5), .int (n0 / 11 % 4)]) wd := .inl ⟨_, _, rfl, by omega, by omega, by omega, by omega⟩
        refine ⟨_, rfl, rfl, _, rfl, Cm.itES (fun e1 => ?_) fun e1 => ?_⟩
        · refine ⟨_, rfl, _, rfl, _, _, rfl, rfl, .inl ⟨_, rfl, _, rfl, nu, _, rfl, .inl (SqL.of N5.1), _, _, rfl, rfl, p2, nu, _, _, _, rfl, rfl, SqL.of N5.1, em2, _, _, rfl, rfl, ⟨by decide, by decide⟩, _, _, rfl, rfl, (by show (0 : Int) < 2; decide), rfl, _, rfl, Cm.itEI (fun e2 => ?_) fun e2 => ?_⟩⟩
          · exact ⟨rfl, _, _, rfl, .non, .inr ⟨rfl, e1⟩⟩
          · exact ⟨rfl, _, _, rfl, rt, tk0⟩
        · exact ⟨rfl, _, _, rfl, rt, tk0⟩
      · subst eH e
        -- operation
        refine ⟨Cm.small (by show 4 ≤ 100000; decide), fun to nto => ?_⟩
        have s7 := Cm.same_new (o := .lst [.str "start", .str "get", .str "f2", .str "Put"]) nto
        obtain ⟨p3, m3, hm3, em3⟩ := at_mod (ns := ns) (at_ + 3) (by omega)
        obtain ⟨gm3, _⟩ := hok m3 hm3
        obtain ⟨op, hop, eop⟩ := Cm.at_str (ws := ["start", "get", "f2", "Put"]) (i := m3 % 4) (by omega) (by show m3 % 4 < 4; omega)
        have N7 := N5.same s7
        have rb := rb.keep (Same.tups s7)
        have rpd := rpd.keep (Same.tups s7)
        have rtv := rtv.keep (Same.tups s7)
        have s17 := s15.trans s7
        have hto : (upd H6 to (.lst [.str "start", .str "get", .str "f2", .str "Put"])) to = some (.lst ((["start", "get", "f2", "Put"] : List Str).map V.str)) := upd_same
        generalize upd H6 to (.lst [.str "start", .str "get", .str "f2", .str "Put"]) = H7 at *
        refine ⟨_, rfl, _, rfl, _, _, rfl, rfl, .inl ⟨_, rfl, _, rfl, nu, _, rfl, .inl (SqL.of N7.1), _, _, rfl, rfl, p3, nu, _, _, _, rfl, rfl, SqL.of N7.1, em3, _, _, rfl, rfl, (by show (0 : Int) < 4; decide), to, _, _, _, rfl, rfl, SqL.of hto, eop, ?_⟩⟩
        -- frame
        refine ⟨_, rfl, _, rfl, _, _, rfl, rfl, ⟨by decide, by decide⟩, _, _, rfl, rfl, (by show (0 : Int) < 12; decide), ?_⟩
        refine ⟨_, rfl, _, rfl, _, _, rfl, rfl, nu, ns, _, 3, rfl, N7, by decide, fun H8 lv ls s8 rls lls vls => ?_⟩
        refine ⟨_, rfl, _, rfl, _, _, rfl, rfl, nu, ns, _, 3, rfl, N7.same s8, by decide, fun H9 sv st s9 rst lst vst => ?_⟩
        refine ⟨Cm.small (by show 4 ≤ 100000; decide), fun tf ntf => ?_⟩
        have s10 := Cm.same_new (o := .tup [.str op, .int (n0 / 5 % 12), lv, sv]) ntf
        have rf := Rp.made ntf (.cons (.str op) (.cons (.int (n0 / 5 % 12)) (.cons (rls.keep (Same.tups s9)) (.cons rst .nil))))
        have s89 := (s8.trans s9).trans s10
        refine ⟨_, rfl, _, rfl, _, rfl, _, rfl, _, rfl, _, rfl, Cm.small (by show 6 ≤ 100000; decide), fun te nte => ?_⟩
        have s11 := Cm.same_new (o := .tup [v1, .int (n0 / 90 % 4), .ref tf, bv, tv, .str wd]) nte
        refine q _ _ _ ((s17.trans s89).trans s11) (Rp.made nte (.cons (rpd.keep (Same.tups s89)) (.cons (.int _) (.cons rf (.cons (rb.keep (Same.tups s89)) (.cons (rtv.keep (Same.tups s89)) (.cons (.str wd) .nil))))))) ?_
        exact ⟨pd, _, _, bd, td, wd, rfl, hpd, by omega, by omega, ⟨op, _, ls, st, rfl, hop, by omega, by omega, lls, lst, vls, vst⟩, hb0, hb1, htd, hwd⟩
/-! ### bundles -/
theorem lay_intsB : ∀ ns : List Int, PyData.canLayAll0 (ns.map PyData.int) = true
  | [] => by simp [PyData.canLayAll0]
  | n :: ns => by simp [PyData.canLayAll0, PyData.canLay0, lay_intsB ns]
theorem depth_intsB : ∀ ns : List Int, PyData.depthAll (ns.map PyData.int) = 0
  | [] => rfl
  | n :: ns => by simp [PyData.depthAll, PyData.depth, depth_intsB ns]
/-- it can be compared; so deep at most -/
def Lo (n : Nat) (d : PyData) : Prop := d.canLay0 = true ∧ d.depth ≤ n
theorem Lo.mono {m n : Nat} {d : PyData} (h : Lo m d) (e : m ≤ n) : Lo n d := ⟨h.1, Nat.le_trans h.2 e⟩
theorem lo_all {n : Nat} : ∀ {ds : List PyData}, (∀ d ∈ ds, Lo n d) → PyData.canLayAll0 ds = true ∧ PyData.depthAll ds ≤ n
  | [], _ => by simp [PyData.canLayAll0, PyData.depthAll]
  | d :: ds, h => by
    have h1 := h d List.mem_cons_self
    have h2 := lo_all fun x hx => h x (List.mem_cons_of_mem _ hx)
    simp only [PyData.canLayAll0, PyData.depthAll, h1.1, h2.1, Bool.and_self, true_and]
    have := h1.2
    omega
theorem lo_tup {n : Nat} {ds : List PyData} (h : ∀ d ∈ ds, Lo n d) : Lo (n + 1) (.tuple ds) := by
  obtain ⟨h1, h2⟩ := lo_all h
  exact ⟨by simp [PyData.canLay0, h1], by simp only [PyData.depth]; omega⟩
theorem lo_int {n : Nat} {i : Int} : Lo n (.int i) := ⟨by simp [PyData.canLay0], by simp [PyData.depth]⟩
theorem lo_non {n : Nat} : Lo n .none := ⟨by simp [PyData.canLay0], by simp [PyData.depth]⟩
theorem lo_str {n : Nat} {x : Str} (h : PyData.strOk x = true) : Lo n (.str x) := ⟨by simp [PyData.canLay0, h], by simp [PyData.depth]⟩
theorem lo_proc {d : PyData} (h : ProcD d) : Lo 1 d := by
  obtain ⟨ns, rfl, _⟩ := h
  exact ⟨by simp [PyData.canLay0, lay_intsB], by simp [PyData.depth, depth_intsB]⟩
theorem lo_two {n : Nat} {x y : PyData} (h1 : Lo n x) (h2 : Lo n y) : Lo (n + 1) (.tuple [x, y]) := lo_tup fun d hd => by
  simp only [List.mem_cons, List.not_mem_nil, or_false] at hd
  rcases hd with rfl | rfl
  · exact h1
  · exact h2
theorem lo_obj {d : PyData} (h : ObjD d) : Lo 2 d := by
  obtain ⟨pd, j, rfl, hp, _⟩ := h
  exact lo_two (lo_proc hp) lo_int
theorem lo_val {d : PyData} (h : ValD d) : Lo 3 d := by
  rcases h with rfl | ⟨o, ho, rfl⟩ | ⟨i, rfl, _⟩
  · exact Lo.mono (show Lo 1 (.tuple [.str "nil"]) from ⟨by decide +kernel, by decide +kernel⟩) (by decide)
  · exact lo_two (lo_str (by decide +kernel)) (lo_obj ho)
  · exact lo_int
theorem lo_vals {ds : List PyData} (h : ∀ x ∈ ds, ValD x) : Lo 4 (.tuple ds) := lo_tup fun d hd => lo_val (h d hd)
theorem so_ops : ∀ x ∈ (["start", "get", "f2", "Put", "", "number", "large", "nil", "Box", "a1", "Z"] : List Str), PyData.strOk x = true := by decide +kernel
theorem lo_fr {d : PyData} (h : FrD d) : Lo 5 d := by
  obtain ⟨op, i, ls, st, rfl, hop, _, _, _, _, h1, h2⟩ := h
  refine lo_tup fun d hd => ?_
  simp only [List.mem_cons, List.not_mem_nil, or_false] at hd
  rcases hd with rfl | rfl | rfl | rfl
  · refine lo_str (so_ops _ ?_)
    simp only [List.mem_cons, List.not_mem_nil, or_false] at hop ⊢
    rcases hop with rfl | rfl | rfl | rfl <;> simp
  · exact lo_int
  · exact lo_vals h1
  · exact lo_vals h2
theorem lo_ent {d : PyData} (h : EntD d) : Lo 6 d := by
  obtain ⟨pd, dep, fr, back, tok, wd, rfl, hp, _, _, hf, h0, h1, ht, hw⟩ := h
  refine lo_tup fun d hd => ?_
  simp only [List.mem_cons, List.not_mem_nil, or_false] at hd
  rcases hd with rfl | rfl | rfl | rfl | rfl | rfl
  · exact (lo_proc hp).mono (by decide)
  · exact lo_int
  · exact lo_fr hf
  · by_cases e : dep = 0
    · rw [h0 e]
      exact Lo.mono (show Lo 1 (.tuple []) from ⟨by decide +kernel, by decide +kernel⟩) (by decide)
    · exact (lo_obj (h1 e)).mono (by decide)
  · rcases ht with ⟨x, y, rfl, _⟩ | ⟨rfl, _⟩
    · exact (lo_two (n := 0) lo_int lo_int).mono (by decide)
    · exact lo_non
  · refine lo_str (so_ops _ ?_)
    simp only [List.mem_cons, List.not_mem_nil, or_false] at hw ⊢
    rcases hw with rfl | rfl | rfl | rfl | rfl | rfl <;> simp
theorem lo_shaped {n : Nat} {d : PyData} (h : Lo n d) (hn : n ≤ 64) : SeqAt.shaped d = true := Nst.shaped_of h.1 (Nat.le_trans h.2 hn)
/-- t[:k] -/
theorem upto_rp {H : Hp} {x : V} {ds : List PyData} {k : Nat} {Q : VK} (hx : Rp K H x (.tuple ds)) (hk : k ≤ ds.length) (h : ∀ (v : V) (H' : Hp), Same H H' → Rp K H' v (.tuple (ds.take k)) → Q v H') : rSlA K x none (some (k : Int)) H Q := by
  obtain ⟨c, xs, rfl, hc, hxs⟩ := hx.tup_inv
  have hl := hxs.len
  have e0 : HT.sIx xs.length xs.length (some (k : Int)) = k := by
    rw [show HT.sIx xs.length xs.length (some (k : Int)) = min k xs.length from HT.sIx_nat _ _ k]
    omega
  have e1 : HT.sIx xs.length 0 none = 0 := rfl
  have ec : cutV xs none (some (k : Int)) = xs.take k := by
    unfold cutV
    rw [e0, e1]
    simp
  refine ⟨c, xs, rfl, hc, fun e => ?_, fun _ p np => ?_⟩
  · have z := e.2
    rw [e0] at z
    refine h _ _ (Same.refl H) ?_
    rw [List.take_of_length_le (by omega)]
    exact hx
  · rw [ec]
    exact h _ _ (Cm.same_new np) (Rp.made np (hxs.take k))
def key2 : PyData → PyData
  | .tuple (x :: y :: _) => .tuple [x, y]
  | _ => .none
def BundD (d : PyData) : Prop := ∃ (o : PyData) (mk : Str) (vs es : List PyData) (c : Int), d = .tuple [o, .str mk, .tuple vs, .tuple es, .int c] ∧ ObjD o ∧ mk ∈ (["start", "Box", "a1", "Z"] : List Str) ∧ vs.length ≤ 4 ∧ (∀ x ∈ vs, ValD x) ∧ es.length ≤ 4 ∧ (∀ x ∈ es, EntD x) ∧ 0 ≤ c ∧ c ≤ 1000000000000
theorem lo_bund {d : PyData} (h : BundD d) : Lo 8 d := by
  obtain ⟨o, mk, vs, es, c, rfl, ho, hm, _, hv, _, he, _⟩ := h
  refine (lo_tup (n := 7) fun d hd => ?_)
  simp only [List.mem_cons, List.not_mem_nil, or_false] at hd
  rcases hd with rfl | rfl | rfl | rfl | rfl
  · exact (lo_obj ho).mono (by decide)
  · refine lo_str (so_ops _ ?_)
    simp only [List.mem_cons, List.not_mem_nil, or_false] at hm ⊢
    rcases hm with rfl | rfl | rfl | rfl <;> simp
  · exact (lo_vals hv).mono (by decide)
  · exact lo_tup fun d hd => lo_ent (he d hd)
  · exact lo_int
theorem alike_intsB : ∀ ns zs : List Int, PySem.W.alikeAll (ns.map PyData.int) (zs.map PyData.int) = true
  | [], _ => by simp [PySem.W.alikeAll]
  | _ :: _, [] => by simp [PySem.W.alikeAll]
  | n :: ns, z :: zs => by simp [PySem.W.alikeAll, PySem.W.alike, alike_intsB ns zs]
def TriD (m : Nat) (d : PyData) : Prop := ∃ (pd : PyData) (dep : Int) (k : Nat), d = .tuple [pd, .int dep, .int (k : Int)] ∧ ProcD pd ∧ k < m
theorem tri_alike {m : Nat} {ts : List PyData} (h : ∀ t ∈ ts, TriD m t) : PySem.W.AllAlike ts := fun d hd d' hd' => by
  obtain ⟨pd, dep, k, rfl, ⟨ns, rfl, _⟩, _⟩ := h d hd
  obtain ⟨pd', dep', k', rfl, ⟨ns', rfl, _⟩, _⟩ := h d' hd'
  simp [PySem.W.alike, PySem.W.alikeAll, alike_intsB]
theorem tri_sortable {m : Nat} {ts : List PyData} (h : ∀ t ∈ ts, TriD m t) : PySem.W.Sortable ts := .inl fun d hd => by
  obtain ⟨pd, dep, k, rfl, _⟩ := h d hd
  exact ⟨_, _, rfl⟩
theorem tri_depth {m : Nat} {ts : List PyData} (h : ∀ t ∈ ts, TriD m t) : ∀ d ∈ ts, d.depth ≤ 50 := fun d hd => by
  obtain ⟨pd, dep, k, rfl, hp, _⟩ := h d hd
  have h2 : Lo 2 (.tuple [pd, .int dep, .int (k : Int)]) := lo_tup fun x hx => by
    simp only [List.mem_cons, List.not_mem_nil, or_false] at hx
    rcases hx with rfl | rfl | rfl
    · exact lo_proc hp
    · exact lo_int
    · exact lo_int
  exact Nat.le_trans h2.2 (by decide)
def spBundN (K : PySem.W.Frag) : Sp := fun vs H Q _ => ∃ (nu : Addr) (ns : List Int) (at_ : Int), vs = [.ref nu, .int at_] ∧ NumAt K H nu ns ∧ ∀ H' v d, Same H H' → Rp K H' v d → BundD d → Q v H'
theorem ok_lw_bundle (T : Txt K mg w a) : FnOk P w K mg base CX0 5 (He.ga K "_law_bundle") a.d_lw_bundle ["numbers", "at"] (spBundN K) := by
  refine T.F_lw_bundle.ok sc_lw_bundle (fun vs H Q E h => ?_) (fun cdv A outer s H vs Q E hr h => ?_)
  · obtain ⟨nu, ns, at_, rfl, _⟩ := h
    rfl
  · obtain ⟨nu, ns, at_, rfl, N, q⟩ := h
    obtain ⟨hnu, hok, hlen⟩ := id N
    refine ⟨_, PSs.nox (pss_cons (ps_set (i := 2) sc_lw_bundle.nd rfl (Or.inr rfl) (pe_lst pa_nil))
      (pss_cons (ps_for PassesOwn.never rfl (pi_range1 (by rfl) T.g_range (pa_cons (pe_op op_mod (pe_ix ix_list (pv 0) (pe_op op_mod (pe_callTy call_int1 (by rfl) T.g_int boot_int (pa_cons (pv 1) pa_nil)) (pe_callB call_len_seq (by rfl) T.g_len boot_len (pa_cons (pv 0) pa_nil))) (fun _ _ => rfl)) pe_int) pa_nil)) (pg_name (i := 3) sc_lw_bundle.nd rfl (Or.inl rfl))
      (pss_cons (ps_set (i := 4) sc_lw_bundle.nd rfl (Or.inr rfl) (pe_call (ok_lw_entry T) (hr.mono (by omega)) (by rfl) T.g_lw_entry T.F_lw_entry.kp T.b_lw_entry .nil pass0 (pa_cons (pv 0) (pa_cons (pe_callTy call_int1 (by rfl) T.g_int boot_int (pa_cons (pe_op op_add (pe_op op_add (pv 1) pe_int) (pe_op op_mul pe_int (pv 3))) pa_nil)) pa_nil))))
      (pss_one (ps_if (pt_cmpR op_eq (pe_callB call_len_seq (by rfl) T.g_len boot_len (pa_cons (pe_lc (own := [("one", 9)]) (g := gName 9) (tt := (tTest (tOp (rEqD K) (tSl (rSlA K) (tVar 9) tNoPart (tPart (tC (.int 2)))) (tSl (rSlA K) (tVar 4) tNoPart (tPart (tC (.int 2)))))))  (by rfl) sc_lw_bundle.nd (pi_list (pv 2)) (blkOk_by (own := [("one", 9)]) (N := N_lw_bundle) (sc := defScope s_lw_bundle) (by decide +kernel)) (fun _ _ _ _ _ => pg_name (i := 9) sc_lw_bundle.nd rfl (Or.inl rfl)) (fun _ _ _ _ _ => pts_one (pt_cmpR (op_eqD hr.units) (pe_slice sl_tupA (pv 9) po_none (po_some pe_int)) (pe_slice sl_tupA (pv 4) po_none (po_some pe_int)) (nomark _))) (fun _ _ _ _ _ => (pv 9))) pa_nil)) pe_int (nomark _)) (pss_one (ps_expr (pe_bm PySem.F.plainAttrs_list PySem.F.slot_list_append PySem.F.type_list_append mt_append (pv 2) (pa_cons (pv 4) pa_nil)))) pss_nil))))
      (pss_cons (ps_set (i := 5) sc_lw_bundle.nd rfl (Or.inl rfl) (pe_ix ix_list (pv 0) (pe_op op_mod (pe_callTy call_int1 (by rfl) T.g_int boot_int (pa_cons (pe_op op_add (pv 1) pe_int) pa_nil)) (pe_callB call_len_seq (by rfl) T.g_len boot_len (pa_cons (pv 0) pa_nil))) (fun _ _ => rfl)))
      (pss_cons (ps_set (i := 6) sc_lw_bundle.nd rfl (Or.inl rfl) (pe_ix ix_list (pe_lst (pa_cons pe_str (pa_cons pe_str (pa_cons pe_str (pa_cons pe_str pa_nil))))) (pe_op op_mod (pv 5) pe_int) (fun _ _ => rfl)))
      (pss_cons (ps_set (i := 7) sc_lw_bundle.nd rfl (Or.inl rfl) (pe_callB (SortN.call_sortL rfl hr.units) (by rfl) T.g_sorted boot_sorted (pa_cons (pe_lc (own := [("k", 3)]) (g := gName 3) (tt := tYes) (te := (tTup (tCons (tOp (rIxT K) (tOp (rIxL K) (tVar 2) (tVar 3)) (tC (.int 0))) (tCons (tOp (rIxT K) (tOp (rIxL K) (tVar 2) (tVar 3)) (tC (.int 1))) (tCons (tVar 3) tNil))))) (by rfl) sc_lw_bundle.nd (pi_range1 (by rfl) T.g_range (pa_cons (pe_callB call_len_seq (by rfl) T.g_len boot_len (pa_cons (pv 2) pa_nil)) pa_nil)) (blkOk_by (own := [("k", 3)]) (N := N_lw_bundle) (sc := defScope s_lw_bundle) (by decide +kernel)) (fun _ _ _ _ _ => pg_name (i := 3) sc_lw_bundle.nd rfl (Or.inl rfl)) (fun _ _ _ _ _ => pts_nil) (fun _ _ _ _ _ => (pe_tup (pa_cons (pe_ix (r := rIxT K) ix_tup (pe_ix (r := rIxL K) ix_list (pv 2) (pv 3) (fun _ _ => rfl)) pe_int (fun _ _ => rfl)) (pa_cons (pe_ix (r := rIxT K) ix_tup (pe_ix (r := rIxL K) ix_list (pv 2) (pv 3) (fun _ _ => rfl)) pe_int (fun _ _ => rfl)) (pa_cons (pv 3) pa_nil)))))) pa_nil)))
      (pss_cons (ps_set (i := 8) sc_lw_bundle.nd rfl (Or.inl rfl) (pe_callTy call_tuple_of (by rfl) T.g_tuple boot_tuple (pa_cons (pe_lc (own := [("one", 9)]) (g := gName 9) (tt := tYes) (te := (tOp (rIxL K) (tVar 2) (tOp (rIxT K) (tVar 9) (tC (.int 2))))) (by rfl) sc_lw_bundle.nd (pi_list (pv 7)) (blkOk_by (own := [("one", 9)]) (N := N_lw_bundle) (sc := defScope s_lw_bundle) (by decide +kernel)) (fun _ _ _ _ _ => pg_name (i := 9) sc_lw_bundle.nd rfl (Or.inl rfl)) (fun _ _ _ _ _ => pts_nil) (fun _ _ _ _ _ => (pe_ix (r := rIxL K) ix_list (pv 2) (pe_ix (r := rIxT K) ix_tup (pv 9) pe_int (fun _ _ => rfl)) (fun _ _ => rfl)))) pa_nil)))
      (pss_one (ps_ret (pe_tup (pa_cons (pe_call (ok_lw_object T) (hr.mono (by omega)) (by rfl) T.g_lw_object T.F_lw_object.kp T.b_lw_object .nil pass0 (pa_cons (pe_op op_fdiv (pv 5) pe_int) pa_nil)) (pa_cons (pv 6) (pa_cons (pe_call (ok_lw_values T) (hr.mono (by omega)) (by rfl) T.g_lw_values T.F_lw_values.kp T.b_lw_values .nil pass0 (pa_cons (pv 0) (pa_cons (pe_op op_add (pv 1) pe_int) (pa_cons pe_int pa_nil)))) (pa_cons (pv 8) (pa_cons (pe_ix ix_list (pe_lst (pa_cons pe_int (pa_cons pe_int (pa_cons pe_int (pa_cons (pe_op op_pow pe_int pe_int) pa_nil))))) (pe_op op_mod (pe_op op_fdiv (pv 5) pe_int) pe_int) (fun _ _ => rfl)) pa_nil)))))))))))))), ?_⟩
    rw [show L2.start N_lw_bundle [.ref nu, .int at_] = [some (.ref nu), some (.int at_), none, none, none, none, none, none, none, none] from rfl]
    refine ⟨Nat.zero_le _, fun en nen => ?_⟩
    have s0 := Cm.same_new (o := .lst []) nen
    obtain ⟨p0, n0, hn0, e0⟩ := at_mod (ns := ns) at_ (by omega)
    obtain ⟨g0, _⟩ := hok n0 hn0
    have N0 := N.same s0
    refine ⟨_, rfl, _, rfl, .inl ⟨_, rfl, _, rfl, nu, _, rfl, .inl (SqL.of N0.1), _, _, rfl, rfl, p0, nu, _, _, _, rfl, rfl, SqL.of N0.1, e0, _, _, rfl, rfl, (by show (0 : Int) < 5; decide), _, rfl, by omega, by omega, ?_⟩⟩
    refine for_range (n := (n0 % 5).toNat) (fun i σ H2 => ∃ (x3 x4 : Option V) (acc : List V) (ds : List PyData), σ = [some (.ref nu), some (.int at_), some (.ref en), x3, x4, none, none, none, none, none] ∧ Same H H2 ∧ H2 en = some (.lst acc) ∧ Rps K H2 acc ds ∧ (∀ d ∈ ds, EntD d) ∧ ds.length ≤ i)
      ⟨_, _, [], [], rfl, s0, upd_same, .nil, (fun _ h => nomatch h), Nat.le_refl _⟩ (fun i σ H2 hi ⟨x3, x4, acc, ds, e, s2, hen, rD, hE, lD⟩ => ?_) fun σ H2 ⟨x3, x4, acc, ds, e, s2, hen, rD, hE, lD⟩ => ?_
    · subst e
      refine ⟨_, rfl, _, rfl, _, _, rfl, rfl, _, rfl, _, _, rfl, rfl, .inl ⟨by decide, by decide⟩, _, _, rfl, rfl, .inl ⟨_, rfl, nu, ns, _, rfl, N.same s2, fun H3 v d s3 rv hd => ?_⟩⟩
      have hen3 := s3 _ _ hen
      have la := rD.len
      simp only [gName, List.set_cons_succ, List.set_cons_zero]
      refine ⟨_, rfl, en, rfl, ⟨_, SqL.of hen3⟩, fun D nD => ?_⟩
      simp only [List.map_cons, List.map_nil]
      refine lc_list (K := K) (a := en) (xs := acc) (fun n Hi => Same H3 Hi ∧ ∃ l, Hi D = some (.lst l) ∧ l.length ≤ n) ⟨Cm.same_new nD, [], upd_same, Nat.le_refl _⟩ (fun n Hi _ b => SqL.of (b.1 _ _ hen3)) (fun n y Hi hy b => ?_) fun Hi b => ?_
      · obtain ⟨sH, l, hDD, lD'⟩ := b
        refine ⟨rfl, ?_⟩
        simp only [List.map_cons, List.map_nil, List.set_cons_succ, List.set_cons_zero, wipe]
        have hn : n < ds.length := by
          rw [← la]
          exact (List.getElem?_eq_some_iff.mp hy).1
        obtain ⟨y', hy', ry⟩ := rD.at_ (List.getElem?_eq_getElem hn)
        rw [hy] at hy'
        cases hy'
        have h1 := hE _ (List.getElem_mem hn)
        generalize ds[n] = bd at ry h1
        have sh : ∀ {x : PyData}, EntD x → ∃ r, x = .tuple r ∧ 2 ≤ r.length ∧ SeqAt.shaped (.tuple (r.take 2)) = true := fun {x} hx => by
          obtain ⟨pd, dep, fr, back, tok, wd, rfl, hp, _⟩ := hx
          exact ⟨_, rfl, by show 2 ≤ 6; decide, lo_shaped (lo_two (lo_proc hp) lo_int) (by decide)⟩
        obtain ⟨r1, e1, l1, sh1⟩ := sh h1
        obtain ⟨r2, e2, l2, sh2⟩ := sh hd
        subst e1 e2
        refine ⟨_, rfl, _, rfl, upto_rp (k := 2) (ry.keep (Same.tups (s3.trans sH))) l1 fun v1 H5 s5 rv1 => ?_⟩
        refine ⟨_, rfl, _, rfl, upto_rp (k := 2) (rv.keep (Same.tups (sH.trans s5))) l2 fun v2 H6 s6 rv2 => ?_⟩
        have hD6 := s6 _ _ (s5 _ _ hDD)
        refine ⟨_, _, (rv1.keep (Same.tups s6)).dp, rv2.dp, sh1, sh2, _, rfl, Cm.itB (fun _ => ?_) fun _ => ?_⟩
        · exact ⟨_, rfl, l, hD6, Cm.smallL (by omega), Cm.same_mut (sH.trans (s5.trans s6)) nD, _, upd_same, by rw [List.length_append]; simp only [List.length_cons, List.length_nil]; omega⟩
        · exact ⟨sH.trans (s5.trans s6), l, hD6, by omega⟩
      · obtain ⟨sH, l, hDD, _⟩ := b
        have hen4 := sH _ _ hen3
        have s24 := s2.trans (s3.trans sH)
        refine ⟨D, _, rfl, .inl (SqL.of hDD), rfl, _, rfl, Cm.itEI (fun _ => ?_) fun _ => ?_⟩
        · refine ⟨_, rfl, .inl ⟨rfl, _, SqL.of hen4⟩, _, rfl, en, acc, _, rfl, rfl, hen4, Cm.smallL (by omega), ?_⟩
          have tk : TK K Hi (upd Hi en (.lst (acc ++ [v]))) := TK.upd (by rw [hen4]; exact True.intro)
          refine ⟨_, _, acc ++ [v], ds ++ [d], rfl, Cm.same_mut s24 nen, upd_same, rps_keep tk ((rD.keep (Same.tups (s3.trans sH))).app (.cons (rv.keep (Same.tups sH)) .nil)), fun x hx => ?_, by rw [List.length_append]; simp only [List.length_cons, List.length_nil]; omega⟩
          rcases List.mem_append.mp hx with hx | hx
          · exact hE x hx
          · rw [List.mem_singleton.mp hx]
            exact hd
        · exact ⟨_, _, acc, ds, rfl, s24, hen4, rD.keep (Same.tups (s3.trans sH)), hE, by omega⟩
    · subst e
      have N2 := N.same s2
      obtain ⟨p1, n1, hn1, e1⟩ := at_mod (ns := ns) (at_ + 1) (by omega)
      obtain ⟨g1, _⟩ := hok n1 hn1
      refine ⟨_, rfl, _, rfl, _, _, rfl, rfl, .inl ⟨_, rfl, _, rfl, nu, _, rfl, .inl (SqL.of N2.1), _, _, rfl, rfl, p1, nu, _, _, _, rfl, rfl, SqL.of N2.1, e1, ?_⟩⟩
      refine ⟨Cm.small (by show 4 ≤ 100000; decide), fun tm ntm => ?_⟩
      have s3 := Cm.same_new (o := .lst [.str "start", .str "Box", .str "a1", .str "Z"]) ntm
      obtain ⟨mk, hmk, emk⟩ := Cm.at_str (ws := ["start", "Box", "a1", "Z"]) (i := n1 % 4) (by omega) (by show n1 % 4 < 4; omega)
      have htm : (upd H2 tm (.lst [.str "start", .str "Box", .str "a1", .str "Z"])) tm = some (.lst ((["start", "Box", "a1", "Z"] : List Str).map V.str)) := upd_same
      have hen3 := s3 _ _ hen
      have rD3 := rD.keep (Same.tups s3)
      have s23 := s2.trans s3
      generalize upd H2 tm (.lst [.str "start", .str "Box", .str "a1", .str "Z"]) = H3 at *
      refine ⟨_, rfl, _, _, rfl, rfl, (by show (0 : Int) < 4; decide), tm, _, _, _, rfl, rfl, SqL.of htm, emk, ?_⟩
      have la := rD3.len
      simp only [gName, List.set_cons_succ, List.set_cons_zero]
      refine ⟨_, rfl, en, _, rfl, .inl (SqL.of hen3), _, rfl, by omega, by omega, fun D nD => ?_⟩
      simp only [List.map_cons, List.map_nil]
      refine lc_range (n := acc.length) (fun k Hi => Same H3 Hi ∧ ∃ l ts, Hi D = some (.lst l) ∧ Rps K Hi l ts ∧ (∀ t ∈ ts, TriD ds.length t) ∧ ts.length = k) ⟨Cm.same_new nD, [], [], upd_same, .nil, (fun _ h => nomatch h), rfl⟩ (fun k Hi hk ⟨sH, l, ts, hDD, rT, hT, lT⟩ => ?_) fun Hi ⟨sH, l, ts, hDD, rT, hT, lT⟩ => ?_
      · refine ⟨rfl, ?_⟩
        simp only [List.map_cons, List.map_nil, List.set_cons_succ, List.set_cons_zero, wipe]
        have hn : k < ds.length := by omega
        obtain ⟨y, hy, ry⟩ := rD3.at_ (List.getElem?_eq_getElem hn)
        have h1 := hE _ (List.getElem_mem hn)
        generalize ds[k] = bd at ry h1
        obtain ⟨pd, dep, fr, back, tok, wd, rfl, hp, _⟩ := h1
        obtain ⟨ca, vv, vr, rfl, hca, rp1, hvr⟩ := (show ∃ a' v' vs', y = .ref a' ∧ SqT K Hi a' (v' :: vs') ∧ Rp K Hi v' pd ∧ Rps K Hi vs' [.int dep, fr, back, tok, .str wd] from by
          obtain ⟨a', vs', e', h', r'⟩ := (ry.keep (Same.tups sH)).tup_inv
          obtain ⟨v', vs'', e'', h'', r''⟩ := r'.cons_inv
          subst e''
          exact ⟨a', v', vs'', e', h', h'', r''⟩)
        obtain ⟨v2, vr2, rfl, hv2, _⟩ := hvr.cons_inv
        obtain rfl := hv2.int_inv
        have heni := sH _ _ hen3
        have ek : atI acc (0 + (k : Int)) = some (.ref ca) := by
          rw [Int.zero_add]
          exact atI_nat hy
        refine ⟨_, rfl, _, rfl, en, _, _, _, rfl, rfl, SqL.of heni, ek, ca, _, 0, _, rfl, rfl, hca, atI_nat (j := 0) rfl, ?_⟩
        refine ⟨_, rfl, _, rfl, en, _, _, _, rfl, rfl, SqL.of heni, ek, ca, _, 1, _, rfl, rfl, hca, atI_nat (j := 1) rfl, _, rfl, Cm.small (by show 3 ≤ 100000; decide), fun t nt => ?_⟩
        have st := Cm.same_new (o := .tup [vv, .int dep, .int (0 + (k : Int))]) nt
        have hDt := st _ _ hDD
        have rt := Rp.made nt (.cons rp1 (.cons (.int dep) (.cons (.int (0 + (k : Int))) .nil)))
        have tk : TK K (upd Hi t (.tup [vv, .int dep, .int (0 + (k : Int))])) (upd (upd Hi t (.tup [vv, .int dep, .int (0 + (k : Int))])) D (.lst (l ++ [.ref t]))) := TK.upd (by rw [hDt]; exact True.intro)
        have ll := rT.len
        refine ⟨l, hDt, Cm.smallL (by omega), Cm.same_mut (sH.trans st) nD, l ++ [.ref t], _, upd_same, rps_keep tk ((rT.keep (Same.tups st)).app (.cons rt .nil)), fun x hx => ?_, by rw [List.length_append, lT]; rfl⟩
        rcases List.mem_append.mp hx with hx | hx
        · exact hT x hx
        · rw [List.mem_singleton.mp hx, Int.zero_add]
          exact ⟨pd, dep, k, rfl, hp, hn⟩
      · refine ⟨D, l, ts, rfl, SqL.of hDD, rT, tri_alike hT, tri_sortable hT, tri_depth hT, fun ys po rys npo => ?_⟩
        have s4 := Cm.same_new (o := .lst ys) npo
        have hpo : (upd Hi po (.lst ys)) po = some (.lst ys) := upd_same
        have rys := rys.keep (Same.tups s4)
        have s34 := sH.trans s4
        have hen4 := s34 _ _ hen3
        have rD4 := rD3.keep (Same.tups s34)
        generalize upd Hi po (.lst ys) = H4 at *
        have lys : ys.length = ts.length := by rw [rys.len, List.length_mergeSort]
        refine ⟨_, rfl, po, rfl, ⟨_, SqL.of hpo⟩, fun D2 nD2 => ?_⟩
        simp only [List.map_cons, List.map_nil]
        refine lc_list (K := K) (a := po) (xs := ys) (fun n Hj => Same H4 Hj ∧ ∃ l es, Hj D2 = some (.lst l) ∧ Rps K Hj l es ∧ (∀ x ∈ es, EntD x) ∧ es.length = n) ⟨Cm.same_new nD2, [], [], upd_same, .nil, (fun _ h => nomatch h), rfl⟩ (fun n Hj _ b => SqL.of (b.1 _ _ hpo)) (fun n y Hj hy b => ?_) fun Hj b => ?_
        · obtain ⟨sJ, l2, es, hD2, rE, hE2, lE⟩ := b
          refine ⟨rfl, ?_⟩
          simp only [List.map_cons, List.map_nil, List.set_cons_succ, List.set_cons_zero, wipe]
          have hn : n < (SortN.srt ts).length := by
            rw [← rys.len]
            exact (List.getElem?_eq_some_iff.mp hy).1
          have lsr : (SortN.srt ts).length = ts.length := List.length_mergeSort ..
          obtain ⟨y', hy', ry⟩ := rys.at_ (List.getElem?_eq_getElem hn)
          rw [hy] at hy'
          cases hy'
          have hmem := (List.mergeSort_perm ts SortN.dle).mem_iff.mp (List.getElem_mem hn)
          have h1 := hT _ hmem
          generalize (SortN.srt ts)[n] = bd at ry h1
          obtain ⟨pd, dep, kk, rfl, hp, hkk⟩ := h1
          obtain ⟨ct, cs, rfl, hct, hcs⟩ := (ry.keep (Same.tups sJ)).tup_inv
          obtain ⟨c1, r1, rfl, _, hr1⟩ := hcs.cons_inv
          obtain ⟨c2, r2, rfl, _, hr2⟩ := hr1.cons_inv
          obtain ⟨c3, r3, rfl, hc3, hr3⟩ := hr2.cons_inv
          obtain rfl := hc3.int_inv
          obtain ⟨z, hz, rz⟩ := rD4.at_ (List.getElem?_eq_getElem hkk)
          have hZ := hE _ (List.getElem_mem hkk)
          have henj := sJ _ _ hen4
          have ll := rE.len
          refine ⟨_, rfl, _, rfl, ct, _, 2, _, rfl, rfl, hct, atI_nat (j := 2) rfl, en, _, _, z, rfl, rfl, SqL.of henj, atI_nat hz, ?_⟩
          have tk : TK K Hj (upd Hj D2 (.lst (l2 ++ [z]))) := TK.upd (by rw [hD2]; exact True.intro)
          refine ⟨l2, hD2, Cm.smallL (by omega), Cm.same_mut sJ nD2, l2 ++ [z], _, upd_same, rps_keep tk (rE.app (.cons (rz.keep (Same.tups sJ)) .nil)), fun x hx => ?_, by rw [List.length_append, lE]; rfl⟩
          rcases List.mem_append.mp hx with hx | hx
          · exact hE2 x hx
          · rw [List.mem_singleton.mp hx]
            exact hZ
        · obtain ⟨sJ, l2, es, hD2, rE, hE2, lE⟩ := b
          have s3J := s34.trans sJ
          refine ⟨D2, l2, rfl, .inl ⟨SqL.of hD2, fun tr ntr => ?_⟩⟩
          have s5 := Cm.same_new (o := .tup l2) ntr
          have rr := Rp.made ntr rE
          have sA := (s23.trans s3J).trans s5
          have N5 := N.same sA
          generalize upd Hj tr (.tup l2) = H5 at *
          refine ⟨_, rfl, _, _, rfl, rfl, ⟨by decide, by decide⟩, n1 / 4, rfl, by omega, fun H6 v pd j _ s6 rv hpd hj0 hj1 _ => ?_⟩
          refine ⟨_, rfl, _, rfl, _, rfl, _, _, rfl, rfl, nu, ns, _, 4, rfl, N5.same s6, by decide, fun H7 lv ls s7 rls lls vls => ?_⟩
          refine ⟨_, rfl, _, _, rfl, rfl, ⟨by decide, by decide, by decide⟩, Cm.small (by show 4 ≤ 100000; decide), fun tc ntc => ?_⟩
          have s8 := Cm.same_new (o := .lst [.int 0, .int 1, .int 7, .int (10 ^ (12 : Int).toNat)]) ntc
          obtain ⟨c, hc, ec⟩ := Cm.at_int (ns := [0, 1, 7, 10 ^ (12 : Int).toNat]) (i := n1 / 16 % 4) (by omega) (by show n1 / 16 % 4 < 4; omega)
          refine ⟨_, rfl, _, _, rfl, rfl, ⟨by decide, by decide⟩, _, _, rfl, rfl, (by show (0 : Int) < 4; decide), tc, _, _, _, rfl, rfl, Cm.sql_new, ec, Cm.small (by show 5 ≤ 100000; decide), fun tb ntb => ?_⟩
          have hcb : 0 ≤ c ∧ c ≤ 1000000000000 := by
            simp only [List.mem_cons, List.not_mem_nil, or_false] at hc
            rcases hc with rfl | rfl | rfl | rfl <;> decide +kernel
          have s78 := s7.trans s8
          refine q _ _ _ ((sA.trans s6).trans (s78.trans (Cm.same_new ntb))) (Rp.made ntb (.cons (rv.keep (Same.tups s78)) (.cons (.str mk) (.cons (rls.keep (Same.tups s8)) (.cons (rr.keep (Same.tups (s6.trans s78))) (.cons (.int c) .nil)))))) ?_
          exact ⟨_, mk, ls, es, c, rfl, ⟨pd, j, rfl, hpd, hj0, hj1⟩, hmk, lls, vls, by omega, hE2, hcb.1, hcb.2⟩
def abvD (e b : PyData) : Bool := PySem.W.dataLt (key2 b) (key2 e)
def HeadOk (d : PyData) : Prop := ∃ (ns : List Int) (n : Int) (r : List PyData), d = .tuple (.tuple (ns.map PyData.int) :: .int n :: r) ∧ r.length = 4
def spAbove (K : PySem.W.Frag) : Sp := fun vs H Q _ => ∃ (v1 v2 : V) (e b : PyData), vs = [v1, v2] ∧ Rp K H v1 e ∧ Rp K H v2 b ∧ HeadOk e ∧ HeadOk b ∧ ∀ H', Same H H' → Q (.bl (abvD e b)) H'
theorem key2_depth {d : PyData} (h : HeadOk d) : (key2 d).depth ≤ 40 := by
  obtain ⟨ns, n, r, rfl, _⟩ := h
  have := depth_intsB ns
  simp only [key2, PyData.depth, PyData.depthAll]
  omega
theorem key2_alike {d e : PyData} (h : HeadOk d) (h' : HeadOk e) : PySem.W.alike (key2 d) (key2 e) = true := by
  obtain ⟨ns, n, r, rfl, _⟩ := h
  obtain ⟨ns', n', r', rfl, _⟩ := h'
  simp [key2, PySem.W.alike, PySem.W.alikeAll, alike_intsB]
theorem key2_no {d : PyData} (h : HeadOk d) : key2 d ≠ .none := by
  obtain ⟨ns, n, r, rfl, _⟩ := h
  exact fun z => nomatch z
theorem ok_is_above (T : Txt K mg w a) : FnOk P w K mg base CX0 1 (He.ga K "_is_above") a.d_is_above ["entry", "before"] (spAbove K) := by
  refine T.F_is_above.ok sc_is_above (fun vs H Q E h => ?_) (fun cdv A outer s H vs Q E hr h => ?_)
  · obtain ⟨v1, v2, e, b, rfl, _⟩ := h
    rfl
  · obtain ⟨v1, v2, e, b, rfl, r1, r2, h1, h2, q⟩ := h
    refine ⟨_, PSs.nox (pss_one (ps_ret (pe_cmpR (GtD.op_gtD hr.units) (pe_slice sl_tupA (pv 0) po_none (po_some pe_int)) (pe_slice sl_tupA (pv 1) po_none (po_some pe_int)) (nomark _)))), ?_⟩
    have k1 : ∃ ds, e = .tuple ds ∧ 2 ≤ ds.length ∧ .tuple (ds.take 2) = key2 e := by
      obtain ⟨ns, n, r, rfl, _⟩ := h1
      exact ⟨_, rfl, by simp, rfl⟩
    have k2 : ∃ ds, b = .tuple ds ∧ 2 ≤ ds.length ∧ .tuple (ds.take 2) = key2 b := by
      obtain ⟨ns, n, r, rfl, _⟩ := h2
      exact ⟨_, rfl, by simp, rfl⟩
    obtain ⟨ds1, rfl, l1, t1⟩ := k1
    obtain ⟨ds2, rfl, l2, t2⟩ := k2
    refine ⟨_, rfl, _, rfl, upto_rp (k := 2) r1 l1 fun w1 H1 s1 x1 => ?_⟩
    refine ⟨_, rfl, _, rfl, upto_rp (k := 2) (r2.keep (Same.tups s1)) l2 fun w2 H2 s2 x2 => ?_⟩
    rw [t1] at x1
    rw [t2] at x2
    exact ⟨_, _, (x1.keep (Same.tups s2)).dp, x2.dp, key2_alike h1 h2, key2_no h1, key2_depth h1, q H2 (s1.trans s2)⟩
theorem entD_head {d : PyData} (h : entD d = true) : HeadOk d := by
  unfold entD at h
  split at h
  · rename_i p dp f b t w
    have h1 := (Bool.and_eq_true_iff.mp h).1
    have h2 := Bool.and_eq_true_iff.mp h1
    have h3 := (Bool.and_eq_true_iff.mp h2.2).1
    cases p with
    | tuple ds =>
      cases dp with
      | int n =>
        have hds : ∀ x ∈ ds, natD x = true := List.all_eq_true.mp h2.1
        obtain ⟨ns, rfl⟩ : ∃ ns : List Int, ds = ns.map PyData.int := by
          clear h h1 h2 h3
          induction ds with
          | nil => exact ⟨[], rfl⟩
          | cons x r ih =>
            obtain ⟨ns, e⟩ := ih fun y hy => hds y (List.mem_cons_of_mem _ hy)
            have hx := hds x List.mem_cons_self
            cases x with
            | int m => exact ⟨m :: ns, by rw [e]; rfl⟩
            | _ => cases hx
        exact ⟨ns, n, [f, b, t, w], rfl, rfl⟩
      | _ => cases h3
    | _ => cases h2.1
  · cases h
def chainD : List PyData → Bool
  | x :: y :: r => abvD y x && chainD (y :: r)
  | _ => true
def entsD : PyData → Bool
  | .tuple ds => ds.all entD && (List.zipWith (fun b e => abvD e b) ds ds.tail).all id
  | _ => false
def bunD : PyData → Bool
  | .tuple [n, m, f, es, c] => (objD n && (codeD m && (valsD f && natD c))) && entsD es
  | _ => false
theorem bunD_no {d : PyData} (h : rowD 5 d = false) : bunD d = false := by
  unfold bunD
  split
  · cases h
  · rfl
def EntOk (d : PyData) : Prop := ∀ p dp f b t w, d = .tuple [p, dp, f, b, t, w] → ∃ z, w = .str z
def spBun (K : PySem.W.Frag) : Sp := fun vs H Q _ => ∃ (v : V) (d : PyData), vs = [v] ∧ Rp K H v d ∧ Fit d ∧ (∀ n m f ds c, d = .tuple [n, m, f, .tuple ds, c] → ∀ x ∈ ds, EntOk x) ∧ ∀ H', Same H H' → Q (.bl (bunD d)) H'
theorem from_sq {H : Hp} {c : Addr} {xs : List V} {Q : VK} (hc : SqT K H c xs) (h : ∀ (q : Addr) (H' : Hp), Same H H' → SqT K H' q (xs.drop 1) → Q (.ref q) H') : rSlA K (.ref c) (some 1) none H Q := by
  have e0 : HT.sIx xs.length 0 (some (1 : Int)) = min 1 xs.length := HT.sIx_nat _ _ 1
  have e1 : HT.sIx xs.length xs.length none = xs.length := rfl
  refine ⟨c, xs, rfl, hc, fun e => ?_, fun _ p np => ?_⟩
  · have z := e.1
    rw [e0] at z
    refine h _ _ (Same.refl H) ?_
    have : xs = [] := by
      cases xs with
      | nil => rfl
      | cons x r => simp at z
    subst this
    exact hc
  · have ec : cutV xs (some 1) none = xs.drop 1 := by
      unfold cutV
      rw [e0, e1]
      cases xs with
      | nil => rfl
      | cons x r =>
        have : min 1 (x :: r).length = 1 := by simp
        rw [this]
        simp
    rw [ec]
    exact h _ _ (Cm.same_new np) Cm.sqt_new
theorem ok_is_bundle (T : Txt K mg w a) : FnOk P w K mg base CX0 9 (He.ga K "is_bundle") a.d_is_bundle ["value"] (spBun K) := by
  refine T.F_is_bundle.ok sc_is_bundle (fun vs H Q E h => ?_) (fun cdv A outer s H vs Q E hr h => ?_)
  · obtain ⟨v, d, rfl, _⟩ := h
    rfl
  · obtain ⟨v, d, rfl, r, f, ws, q⟩ := h
    refine ⟨_, PSs.nox (pss_cons (ps_if (pt_not (pt_val (pe_call (ok_is_row T) (hr.mono (by omega)) (by rfl) T.g_is_row T.F_is_row.kp T.b_is_row .nil pass0 (pa_cons (pv 0) (pa_cons pe_int pa_nil))))) (pss_one (ps_ret pe_bl)) pss_nil)
      (pss_cons (ps_asg (pv 0) (pg_tup (by rfl) (pgs_cons (pg_name (i := 1) sc_is_bundle.nd rfl (Or.inl rfl)) (pgs_cons (pg_name (i := 2) sc_is_bundle.nd rfl (Or.inl rfl)) (pgs_cons (pg_name (i := 3) sc_is_bundle.nd rfl (Or.inl rfl)) (pgs_cons (pg_name (i := 4) sc_is_bundle.nd rfl (Or.inl rfl)) (pgs_cons (pg_name (i := 5) sc_is_bundle.nd rfl (Or.inl rfl)) pgs_nil)))))))
      (pss_cons (ps_if (pt_not (PW.pt (pw_and (pt_val (pe_call (ok_is_object_name T) (hr.mono (by omega)) (by rfl) T.g_is_object_name T.F_is_object_name.kp T.b_is_object_name .nil pass0 (pa_cons (pv 1) pa_nil))) (pw_and (pt_val (pe_call (ok_is_code_name T) (hr.mono (by omega)) (by rfl) T.g_is_code_name T.F_is_code_name.kp T.b_is_code_name .nil pass0 (pa_cons (pv 2) pa_nil))) (pw_and (pt_val (pe_call (ok_are_values T) (hr.mono (by omega)) (by rfl) T.g_are_values T.F_are_values.kp T.b_are_values .nil pass0 (pa_cons (pv 3) pa_nil))) (pw_and1 (pt_val (pe_call (ok_is_natural T) (hr.mono (by omega)) (by rfl) T.g_is_natural T.F_is_natural.kp T.b_is_natural .nil pass0 (pa_cons (pv 5) pa_nil))))))))) (pss_one (ps_ret pe_bl)) pss_nil)
      (pss_cons (ps_if (PW.pt (pw_or (pt_not (pt_val (pe_callB call_isi (by rfl) T.g_isinstance boot_isinstance (pa_cons (pv 4) (pa_cons (pe_bltn (v := .ty "tuple") (by rfl) T.g_tuple boot_tuple rfl) pa_nil))))) (pw_or1 (pt_not (pt_val (pe_callB (cr_all rfl) (by rfl) T.g_all boot_all (pa_cons (pe_lc (own := [("entry", 7)]) (g := gName 7) (tt := tYes)  (by rfl) sc_is_bundle.nd (pi_tup (pv 4)) (blkOk_by (own := [("entry", 7)]) (N := N_is_bundle) (sc := defScope s_is_bundle) (by decide +kernel)) (fun _ _ _ _ _ => pg_name (i := 7) sc_is_bundle.nd rfl (Or.inl rfl)) (fun _ _ _ _ _ => pts_nil) (fun _ _ _ _ _ => (pe_call (ok_is_entry T) (hr.mono (by omega)) (by rfl) T.g_is_entry T.F_is_entry.kp T.b_is_entry .nil pass0 (pa_cons (pv 7) pa_nil)))) pa_nil))))))) (pss_one (ps_ret pe_bl)) pss_nil)
      (pss_one (ps_ret (pe_callB (cr_all rfl) (by rfl) T.g_all boot_all (pa_cons (pe_lc (own := [("before", 6), ("entry", 7)]) (g := gTup K 2 (gCons (gName 6) (gCons (gName 7) gNil))) (tt := tYes)  (by rfl) sc_is_bundle.nd (RZ.pi_zipA (by rfl) T.g_zip (pa_cons (pv 4) (pa_cons (pe_slice sl_tupA (pv 4) (po_some pe_int) po_none) pa_nil))) (blkOk_by (own := [("before", 6), ("entry", 7)]) (N := N_is_bundle) (sc := defScope s_is_bundle) (by decide +kernel)) (fun _ _ _ _ _ => (pg_tup (by rfl) (pgs_cons (pg_name (i := 6) sc_is_bundle.nd rfl (Or.inl rfl)) (pgs_cons (pg_name (i := 7) sc_is_bundle.nd rfl (Or.inl rfl)) pgs_nil)))) (fun _ _ _ _ _ => pts_nil) (fun _ _ _ _ _ => (pe_call (ok_is_above T) (hr.mono (by omega)) (by rfl) T.g_is_above T.F_is_above.kp T.b_is_above .nil pass0 (pa_cons (pv 7) (pa_cons (pv 6) pa_nil))))) pa_nil)))))))), ?_⟩
    rw [show L2.start N_is_bundle [v] = [some v, none, none, none, none, none, none, none] from rfl]
    refine ⟨_, rfl, v, d, 5, rfl, r, _, rfl, Cm.itBn (fun e => ?_) fun e => ?_⟩
    · have := q H (Same.refl _)
      rw [bunD_no e] at this
      exact this
    · obtain ⟨ds0, rfl, hl⟩ := rowD_len (n := 5) e
      match ds0, hl with
      | [nm, mk, fs, es, ct], _ =>
      obtain ⟨p, vs, rfl, ht, rs⟩ := r.tup_inv
      obtain ⟨v1, r1, rfl, w1, rs⟩ := rs.cons_inv
      obtain ⟨v2, r2, rfl, w2, rs⟩ := rs.cons_inv
      obtain ⟨v3, r3, rfl, w3, rs⟩ := rs.cons_inv
      obtain ⟨v4, r4, rfl, w4, rs⟩ := rs.cons_inv
      obtain ⟨v5, r5, rfl, w5, rs⟩ := rs.cons_inv
      obtain rfl := rs.nil_inv
      have fa := f.at_
      have q : ∀ H', Same H H' → Q (.bl ((objD nm && (codeD mk && (valsD fs && natD ct))) && entsD es)) H' := q
      refine ⟨_, rfl, p, _, rfl, ht, rfl, _, _, rfl, _, _, rfl, _, _, rfl, _, _, rfl, _, _, rfl, rfl, ?_⟩
      refine ⟨_, rfl, v1, nm, rfl, w1, fa nm (by simp), fun H1 s1 => ⟨_, rfl, Cm.itB (fun e1 => ?_) fun e1 => ?_⟩⟩
      · rw [e1, Bool.true_and] at q
        refine ⟨_, rfl, v2, mk, rfl, w2.keep (Same.tups s1), fa mk (by simp), fun H2 s2 => ⟨_, rfl, Cm.itB (fun e2 => ?_) fun e2 => ?_⟩⟩
        · rw [e2, Bool.true_and] at q
          have s12 := s1.trans s2
          refine ⟨_, rfl, v3, fs, rfl, w3.keep (Same.tups s12), fa fs (by simp), fun H3 s3 => ⟨_, rfl, Cm.itB (fun e3 => ?_) fun e3 => ?_⟩⟩
          · rw [e3, Bool.true_and] at q
            have s13 := s12.trans s3
            refine ⟨_, rfl, v5, ct, rfl, w5.keep (Same.tups s13), fa ct (by simp), fun H4 s4 => ⟨_, rfl, ?_⟩⟩
            have s14 := s13.trans s4
            refine Cm.itBn (fun e4 => ?_) fun e4 => ?_
            · rw [e4, Bool.false_and] at q
              exact q H4 s14
            · rw [e4, Bool.true_and] at q
              have w4' := w4.keep (Same.tups s14)
              obtain ⟨t1, h1, k1⟩ := isiT w4'
              refine ⟨_, rfl, _, _, _, _, _, rfl, .ty "tuple", h1, k1, _, rfl, ?_⟩
              refine Cm.itBn (fun e5 => ?_) fun e5 => ?_
              · rw [show entsD es = false from by unfold entsD; split <;> first | rfl | cases e5] at q
                exact iteT (q H4 s14)
              · cases w4' with
                | non => cases e5
                | bl b => cases e5
                | int i => cases e5
                | str x => cases e5
                | @tup pe xs ds hte rse =>
                have fe := fa (.tuple ds) (by simp)
                have fea := fe.at_
                have fel := fe.len
                have hlen := rse.len
                have wse := ws _ _ _ _ _ rfl
                have q : ∀ H', Same H H' → Q (.bl (ds.all entD && (List.zipWith (fun b e => abvD e b) ds ds.tail).all id)) H' := q
                refine ⟨_, rfl, pe, rfl, ⟨_, hte⟩, fun D nD => ?_⟩
                refine lc_tup (K := K) (a := pe) (xs := xs) (fun j Hj => Same H4 Hj ∧ ∃ bs : List Bool, Hj D = some (.lst (bs.map V.bl)) ∧ bs = (ds.take j).map entD ∧ bs.length ≤ j) ⟨Cm.same_new nD, [], upd_same, rfl, Nat.le_refl _⟩ (fun j Hj _ b => Cm.sameT b.1 hte) (fun j y Hj hy b => ?_) fun Hj b => ?_
                · obtain ⟨sJ, bs, hD, eb, lb⟩ := b
                  refine ⟨rfl, ?_⟩
                  have hn : j < ds.length := by
                    rw [← hlen]
                    exact (List.getElem?_eq_some_iff.mp hy).1
                  obtain ⟨y', hy', ry⟩ := rse.at_ (i := j) (d := ds[j]) (List.getElem?_eq_getElem hn)
                  rw [hy] at hy'
                  cases hy'
                  refine ⟨_, rfl, y, ds[j], rfl, ry.keep (Same.tups sJ), fea _ (List.getElem_mem hn), wse _ (List.getElem_mem hn), fun H2 s2 => ?_⟩
                  refine ⟨_, s2 _ _ hD, Cm.smallL (by rw [List.length_map]; omega), Cm.same_mut (sJ.trans s2) nD, bs ++ [entD ds[j]], ?_, ?_, by rw [List.length_append]; simp only [List.length_cons, List.length_nil]; omega⟩
                  · rw [upd_same, List.map_append]
                    rfl
                  · rw [List.take_succ, List.getElem?_eq_getElem hn, List.map_append, eb]
                    rfl
                · obtain ⟨sJ, bs, hD, eb, lb⟩ := b
                  rw [hlen, List.take_length] at eb
                  refine ⟨D, bs, rfl, SqL.of hD, _, rfl, ?_⟩
                  rw [eb, all_map]
                  have sHj := s14.trans sJ
                  refine Cm.itBn (fun e6 => ?_) fun e6 => ?_
                  · rw [e6, Bool.false_and] at q
                    exact q Hj sHj
                  · rw [e6, Bool.true_and] at q
                    have heads : ∀ x ∈ ds, HeadOk x := fun x hx => entD_head (List.all_eq_true.mp e6 x hx)
                    refine ⟨_, rfl, _, rfl, _, rfl, ?_⟩
                    unfold tNoPart
                    refine from_sq (Cm.sameT sJ hte) fun pq H5 s5 hpq => ?_
                    have sJ5 := sJ.trans s5
                    have hte5 := Cm.sameT sJ5 hte
                    have rse5 := rse.keep (Same.tups sJ5)
                    refine ⟨pe, pq, xs, xs.drop 1, rfl, .inr ⟨hte5, hpq, fun D2 nD2 => ?_⟩⟩
                    refine GtD.lc_zipT (K := K) (a := pe) (b := pq) (xs := xs) (ys := xs.drop 1) (fun j Hk => Same H5 Hk ∧ ∃ bs : List Bool, Hk D2 = some (.lst (bs.map V.bl)) ∧ bs = (List.zipWith (fun b e => abvD e b) ds ds.tail).take j ∧ bs.length ≤ j) ⟨Cm.same_new nD2, [], upd_same, rfl, Nat.le_refl _⟩ (fun j Hk b => ⟨Cm.sameT b.1 hte5, Cm.sameT b.1 hpq⟩) (fun j x y Tq Hk hx hy b nT => ?_) fun Hk b => ?_
                    · obtain ⟨sK, bs, hD, eb, lb⟩ := b
                      rw [List.getElem?_drop] at hy
                      have h1 : j < ds.length := by
                        rw [← hlen]
                        exact (List.getElem?_eq_some_iff.mp hx).1
                      have h2 : 1 + j < ds.length := by
                        rw [← hlen]
                        exact (List.getElem?_eq_some_iff.mp hy).1
                      obtain ⟨x', hx', rx⟩ := rse5.at_ (i := j) (d := ds[j]) (List.getElem?_eq_getElem h1)
                      rw [hx] at hx'
                      cases hx'
                      obtain ⟨y', hy', ry⟩ := rse5.at_ (i := 1 + j) (d := ds[1 + j]) (List.getElem?_eq_getElem h2)
                      rw [hy] at hy'
                      cases hy'
                      have sT := Cm.same_new (o := .tup [x, y]) nT
                      have sKT := sK.trans sT
                      refine ⟨Tq, _, rfl, Cm.sqt_new, rfl, _, _, rfl, _, _, rfl, rfl, ?_⟩
                      refine ⟨rfl, ?_⟩
                      refine ⟨_, rfl, _, rfl, y, x, ds[1 + j], ds[j], rfl, ry.keep (Same.tups sKT), rx.keep (Same.tups sKT), heads _ (List.getElem_mem h2), heads _ (List.getElem_mem h1), fun H7 s7 => ?_⟩
                      refine ⟨_, s7 _ _ (sT _ _ hD), Cm.smallL (by rw [List.length_map]; omega), Cm.same_mut (sKT.trans s7) nD2, bs ++ [abvD ds[1 + j] ds[j]], ?_, ?_, by rw [List.length_append]; simp only [List.length_cons, List.length_nil]; omega⟩
                      · rw [upd_same, List.map_append]
                        rfl
                      · have ez : (List.zipWith (fun b e => abvD e b) ds ds.tail)[j]? = some (abvD ds[1 + j] ds[j]) := by
                          rw [List.getElem?_zipWith, List.getElem?_tail, List.getElem?_eq_getElem h1, show j + 1 = 1 + j from Nat.add_comm _ _, List.getElem?_eq_getElem h2]
                        rw [List.take_succ, ez, eb]
                        rfl
                    · obtain ⟨sK, bs, hD, eb, lb⟩ := b
                      rw [List.take_of_length_le (by rw [List.length_zipWith, List.length_tail, List.length_drop, hlen]; exact Nat.le_refl _)] at eb
                      refine ⟨D2, bs, rfl, SqL.of hD, ?_⟩
                      rw [eb]
                      exact q Hk (sHj.trans (s5.trans sK))
          · rw [e3, Bool.false_and, Bool.false_and] at q
            exact iteT (q H3 (s12.trans s3))
        · rw [e2, Bool.false_and, Bool.false_and] at q
          exact iteT (q H2 (s1.trans s2))
      · rw [e1, Bool.false_and, Bool.false_and] at q
        exact iteT (q H1 s1)
/-! ### what is drawn is right -/
theorem natD_of {n : Int} (h0 : 0 ≤ n) (h1 : n ≤ 1000000000000) : natD (.int n) = true := by
  show (decide (0 ≤ n) && decide (n ≤ 1000000000000)) = true
  rw [decide_eq_true h0, decide_eq_true h1]
  rfl
theorem procD_of {d : PyData} (h : ProcD d) : procD d = true := by
  obtain ⟨ns, rfl, _, hn⟩ := h
  refine List.all_eq_true.mpr fun x hx => ?_
  obtain ⟨n, hn', rfl⟩ := List.mem_map.mp hx
  obtain ⟨a, b⟩ := hn n hn'
  exact natD_of a (by omega)
theorem objD_of {d : PyData} (h : ObjD d) : objD d = true := by
  obtain ⟨pd, j, rfl, hp, h0, h1⟩ := h
  show (procD pd && natD (.int j)) = true
  rw [procD_of hp, natD_of h0 (by omega)]
  rfl
theorem valD_of {d : PyData} (h : ValD d) : valD d = true := by
  rcases h with rfl | ⟨o, ho, rfl⟩ | ⟨i, rfl, h0, h1⟩
  · decide +kernel
  · show (PyData.eqv (.tuple [.str "ref", o]) (.tuple [.str "nil"]) || (PyData.eqv (.str "ref") (.str "ref") && objD o)) = true
    rw [objD_of ho, show PyData.eqv (.str "ref") (.str "ref") = true from by decide +kernel]
    simp
  · show (decide (-1000000000000 ≤ i) && decide (i ≤ 1000000000000)) = true
    rw [decide_eq_true h0, decide_eq_true h1]
    rfl
theorem valsD_of {ds : List PyData} (h : ∀ x ∈ ds, ValD x) : valsD (.tuple ds) = true := List.all_eq_true.mpr fun x hx => valD_of (h x hx)
theorem codes_op : ∀ x ∈ (["start", "get", "f2", "Put"] : List Str), codeD (.str x) = true := by decide +kernel
theorem codes_mk : ∀ x ∈ (["start", "Box", "a1", "Z"] : List Str), codeD (.str x) = true := by decide +kernel
theorem words_ok : ∀ x ∈ wordsF, wOk (.str x) = true := by decide +kernel
theorem frD_of {d : PyData} (h : FrD d) : frD d = true := by
  obtain ⟨op, i, ls, st, rfl, ho, h0, h1, _, _, hl, hs⟩ := h
  show (codeD (.str op) && (natD (.int i) && (valsD (.tuple ls) && valsD (.tuple st)))) = true
  rw [codes_op op ho, natD_of h0 (by omega), valsD_of hl, valsD_of hs]
  rfl
theorem tokD_of {t : PyData} {w : Str} (h : TokD t w) (hw : w ∈ wordsF) : tokW t (.str w) = true := by
  rcases h with ⟨x, y, rfl, h0, h1, h2, h3⟩ | ⟨rfl, rfl⟩
  · show (rowD 2 (.tuple [.int x, .int y]) && (([PyData.int x, .int y]).all natD && wOk (.str w))) = true
    rw [words_ok w hw]
    show (true && ((natD (.int x) && (natD (.int y) && true)) && true)) = true
    rw [natD_of h0 (by omega), natD_of h2 (by omega)]
    rfl
  · decide +kernel
theorem entD_of {d : PyData} (h : EntD d) : entD d = true := by
  obtain ⟨pd, dep, fr, back, tok, wd, rfl, hp, h0, h1, hf, hb0, hb1, ht, hw⟩ := h
  show ((procD pd && (natD (.int dep) && (frD fr && backD back dep))) && tokW tok (.str wd)) = true
  have hb : backD back dep = true := by
    unfold backD
    by_cases e : dep = 0
    · rw [if_pos e, hb0 e]
      decide +kernel
    · rw [if_neg e]
      exact objD_of (hb1 e)
  rw [procD_of hp, natD_of h0 (by omega), frD_of hf, hb, tokD_of ht hw]
  rfl
/-! ### entries in the order of sorted -/
theorem lst_tri : ∀ xs ys : List Int, ¬ ys < xs → xs ≠ ys → xs < ys := fun xs ys h n => by
  rcases List.le_iff_lt_or_eq.mp (show xs ≤ ys from h) with z | z
  · exact z
  · exact absurd z n
theorem eqvAll_ints : ∀ xs ys : List Int, PyData.eqvAll (xs.map PyData.int) (ys.map PyData.int) = decide (xs = ys)
  | [], [] => by simp [PyData.eqvAll]
  | [], _ :: _ => by simp [PyData.eqvAll]
  | _ :: _, [] => by simp [PyData.eqvAll]
  | x :: xs, y :: ys => by
    simp only [List.map_cons, PyData.eqvAll, PyData.eqv, eqvAll_ints xs ys, List.cons.injEq]
    by_cases e : x = y
    · simp [e]
    · simp [e]
theorem eqv_ints (xs ys : List Int) : PyData.eqv (.tuple (xs.map PyData.int)) (.tuple (ys.map PyData.int)) = decide (xs = ys) := by
  simp only [PyData.eqv, eqvAll_ints]
theorem lt_ints (xs ys : List Int) : PySem.W.dataLt (.tuple (xs.map PyData.int)) (.tuple (ys.map PyData.int)) = decide (xs < ys) := by
  rw [PySem.W.dataLt_tuple]
  exact PySem.W.dataLt_ints xs ys
/-- (process, depth): the first difference decides -/
def keyLt (a b : List Int × Int) : Prop := if a.1 = b.1 then a.2 < b.2 else a.1 < b.1
def keyD (a : List Int × Int) : PyData := .tuple [.tuple (a.1.map PyData.int), .int a.2]
instance (a b : List Int × Int) : Decidable (keyLt a b) := by unfold keyLt; infer_instance
theorem lt_keys (a b : List Int × Int) : PySem.W.dataLt (keyD a) (keyD b) = decide (keyLt a b) := by
  unfold keyD keyLt
  rw [PySem.W.dataLt_pair (by simp [PySem.W.alike, alike_intsB]) (by simp [PySem.W.alike]), eqv_ints]
  by_cases e : a.1 = b.1
  · rw [if_pos (decide_eq_true e)]
    simp only [e, if_true]
    by_cases z : a.2 = b.2
    · rw [if_pos (by simp [PyData.eqv, z])]
      simp [z]
    · rw [if_neg (by simp [PyData.eqv, z]), PySem.W.dataLt_int]
  · rw [if_neg (by rw [decide_eq_false e]; decide), lt_ints]
    simp only [e, if_false]
theorem key_tri {a b : List Int × Int} (h : ¬ keyLt b a) (n : a ≠ b) : keyLt a b := by
  unfold keyLt at h ⊢
  by_cases e : a.1 = b.1
  · rw [if_pos e]
    rw [if_pos e.symm] at h
    have : a.2 ≠ b.2 := fun z => n (Prod.ext e z)
    omega
  · rw [if_neg e]
    rw [if_neg fun z => e z.symm] at h
    exact lst_tri _ _ h e
def triD (a : List Int × Int) (k : Int) : PyData := .tuple [.tuple (a.1.map PyData.int), .int a.2, .int k]
/-- what stands in the order of the triples, with different first two parts, stands in the order of these -/
theorem tri_key {a b : List Int × Int} {k l : Int} (h : SortN.dle (triD a k) (triD b l) = true) (n : a ≠ b) : keyLt a b := by
  refine key_tri (fun z => ?_) n
  have h' : PySem.W.dataLt (triD b l) (triD a k) = false := by
    have : (!PySem.W.dataLt (triD b l) (triD a k)) = true := h
    simpa using this
  have e : PySem.W.dataLt (triD b l) (triD a k) = decide (keyLt b a) := by
    unfold triD keyLt
    rw [PySem.W.dataLt_tuple, PySem.W.dataLt_cons (by simp [PySem.W.alike, alike_intsB]), eqv_ints]
    by_cases e1 : b.1 = a.1
    · have e2 : b.2 ≠ a.2 := fun z => n (Prod.ext e1.symm z.symm)
      rw [if_pos (decide_eq_true e1), PySem.W.dataLt_cons (by simp [PySem.W.alike]), if_neg (by simp [PyData.eqv, e2]), PySem.W.dataLt_int]
      simp only [e1, if_true]
    · rw [if_neg (by rw [decide_eq_false e1]; decide), lt_ints]
      simp only [e1, if_false]
  rw [e, decide_eq_true z] at h'
  cases h'
/-! ### drawn bundles, with their order -/
def OrdD (d : PyData) : Prop := ∀ o m v es c, d = .tuple [o, m, v, .tuple es, c] → (List.zipWith (fun b e => abvD e b) es es.tail).all id = true
def triX (ds : List PyData) (j : Nat) : PyData := match ds[j]? with
  | some (.tuple (p :: .int dep :: _)) => .tuple [p, .int dep, .int j]
  | _ => .none
def thirdX : PyData → Int
  | .tuple [_, _, .int k] => k
  | _ => 0
theorem dle_tot : PySem.W.TotalLe SortN.dle := PySem.W.sortLe_total _ _ _
theorem ent_key {d : PyData} (h : EntD d) : ∃ a : List Int × Int, key2 d = keyD a := by
  obtain ⟨pd, dep, fr, back, tok, wd, rfl, ⟨ns, rfl, _⟩, _⟩ := h
  exact ⟨(ns, dep), rfl⟩
theorem triX_at {ds : List PyData} {j : Nat} {x : PyData} (hx : ds[j]? = some x) (h : EntD x) {a : List Int × Int} (e : key2 x = keyD a) : triX ds j = triD a j := by
  obtain ⟨pd, dep, fr, back, tok, wd, rfl, ⟨ns, rfl, _⟩, _⟩ := h
  unfold triX
  rw [hx]
  have e' : PyData.tuple [.tuple (ns.map PyData.int), .int dep] = .tuple [.tuple (a.1.map PyData.int), .int a.2] := e
  injection e' with e'
  injection e' with e1 e'
  injection e' with e2 _
  show PyData.tuple [.tuple (ns.map PyData.int), .int dep, .int j] = .tuple [.tuple (a.1.map PyData.int), .int a.2, .int j]
  rw [e1, e2]
theorem srt_pw (ts : List PyData) : (SortN.srt ts).Pairwise fun a b => SortN.dle a b = true :=
  List.pairwise_mergeSort (fun a b c => dle_tot.trans a b c) (fun a b => by rw [Bool.or_eq_true]; exact dle_tot.total a b) ts
theorem third_at {ds : List PyData} {n j : Nat} (hE : ∀ d ∈ ds, EntD d) (la : n = ds.length) (hj : j < n) : ∃ (x : PyData) (a : List Int × Int), ds[j]? = some x ∧ key2 x = keyD a ∧ triX ds j = triD a j := by
  have hj' : j < ds.length := by omega
  have h := hE _ (List.getElem_mem hj')
  obtain ⟨a, e⟩ := ent_key h
  exact ⟨ds[j], a, List.getElem?_eq_getElem hj', e, triX_at (List.getElem?_eq_getElem hj') h e⟩
theorem ord_of {ds es ts : List PyData} {n m : Nat} (hP : ds.Pairwise fun x y => key2 x ≠ key2 y) (hE : ∀ d ∈ ds, EntD d) (eT : ts = (List.range n).map (triX ds)) (la : n = ds.length) (ly : m = ts.length) (l2 : m = (SortN.srt ts).length) (lE : es.length = m)
    (hX : ∀ m' t, m' < m → (SortN.srt ts)[m']? = some t → ∃ (kk : Nat) (x : PyData), thirdX t = (kk : Int) ∧ ds[kk]? = some x ∧ es[m']? = some x) : (List.zipWith (fun b e => abvD e b) es es.tail).all id = true := by
  refine List.all_eq_true.mpr fun b hb => ?_
  obtain ⟨i, hi, rfl⟩ := List.getElem_of_mem hb
  have hi' : i + 1 < es.length := by
    rw [List.length_zipWith, List.length_tail] at hi
    omega
  rw [List.getElem_zipWith, List.getElem_tail]
  have hs1 : i < (SortN.srt ts).length := by omega
  have hs2 : i + 1 < (SortN.srt ts).length := by omega
  have perm := List.mergeSort_perm ts SortN.dle
  have nd : ts.Nodup := by
    rw [eT]
    refine List.pairwise_map.mpr ((List.pairwise_lt_range (n := n)).imp_of_mem fun {p q} hp hq hlt => ?_)
    obtain ⟨_, a, _, _, e1⟩ := third_at hE la (List.mem_range.mp hp)
    obtain ⟨_, b, _, _, e2⟩ := third_at hE la (List.mem_range.mp hq)
    intro e
    have : thirdX (triD a p) = thirdX (triD b q) := by rw [← e1, ← e2, e]
    have : (p : Int) = (q : Int) := this
    omega
  have ndS : (SortN.srt ts).Nodup := perm.nodup_iff.mpr nd
  have known : ∀ t ∈ SortN.srt ts, ∃ (k : Nat) (x : PyData) (a : List Int × Int), t = triX ds k ∧ ds[k]? = some x ∧ key2 x = keyD a ∧ t = triD a k := fun t ht => by
    have h := perm.mem_iff.mp ht
    rw [eT] at h
    obtain ⟨k, hk, rfl⟩ := List.mem_map.mp h
    obtain ⟨x, a, h1, h2, h3⟩ := third_at hE la (List.mem_range.mp hk)
    exact ⟨k, x, a, rfl, h1, h2, h3⟩
  obtain ⟨k, x, a, f1, f2, f3, f4⟩ := known _ (List.getElem_mem hs1)
  obtain ⟨k', x', a', g1, g2, g3, g4⟩ := known _ (List.getElem_mem hs2)
  obtain ⟨q, y, u1, u2, u3⟩ := hX i _ (by omega) (List.getElem?_eq_getElem hs1)
  obtain ⟨q', y', v1, v2, v3⟩ := hX (i + 1) _ (by omega) (List.getElem?_eq_getElem hs2)
  have eq1 : q = k := by
    rw [f4] at u1
    have : (k : Int) = (q : Int) := u1
    omega
  have eq2 : q' = k' := by
    rw [g4] at v1
    have : (k' : Int) = (q' : Int) := v1
    omega
  subst eq1 eq2
  rw [f2] at u2
  rw [g2] at v2
  cases u2
  cases v2
  rw [List.getElem?_eq_getElem (by omega)] at u3
  rw [List.getElem?_eq_getElem hi'] at v3
  have e1 := Option.some.inj u3
  have e2 := Option.some.inj v3
  have kk : q ≠ q' := fun e => by
    subst e
    exact List.pairwise_iff_getElem.mp ndS i (i + 1) hs1 hs2 (Nat.lt_succ_self i) (f1.trans g1.symm)
  have ne : a ≠ a' := fun e => by
    subst e
    have kxy : key2 x = key2 x' := f3.trans g3.symm
    obtain ⟨hq, rfl⟩ := List.getElem?_eq_some_iff.mp f2
    obtain ⟨hq', rfl⟩ := List.getElem?_eq_some_iff.mp g2
    rcases Nat.lt_or_ge q q' with h | h
    · exact List.pairwise_iff_getElem.mp hP q q' hq hq' h kxy
    · exact List.pairwise_iff_getElem.mp hP q' q hq' hq (by omega) kxy.symm
  have dl := List.pairwise_iff_getElem.mp (srt_pw ts) i (i + 1) hs1 hs2 (Nat.lt_succ_self i)
  rw [f4, g4] at dl
  have := tri_key dl ne
  show abvD es[i + 1] es[i] = true
  unfold abvD
  rw [e1, e2, f3, g3, lt_keys]
  exact decide_eq_true this
def spBundO (K : PySem.W.Frag) : Sp := fun vs H Q _ => ∃ (nu : Addr) (ns : List Int) (at_ : Int), vs = [.ref nu, .int at_] ∧ NumAt K H nu ns ∧ ∀ H' v d, Same H H' → Rp K H' v d → BundD d → OrdD d → Q v H'
theorem ok_lw_bundleO (T : Txt K mg w a) : FnOk P w K mg base CX0 5 (He.ga K "_law_bundle") a.d_lw_bundle ["numbers", "at"] (spBundO K) := by
  refine T.F_lw_bundle.ok sc_lw_bundle (fun vs H Q E h => ?_) (fun cdv A outer s H vs Q E hr h => ?_)
  · obtain ⟨nu, ns, at_, rfl, _⟩ := h
    rfl
  · obtain ⟨nu, ns, at_, rfl, N, q⟩ := h
    obtain ⟨hnu, hok, hlen⟩ := id N
    refine ⟨_, PSs.nox (pss_cons (ps_set (i := 2) sc_lw_bundle.nd rfl (Or.inr rfl) (pe_lst pa_nil))
      (pss_cons (ps_for PassesOwn.never rfl (pi_range1 (by rfl) T.g_range (pa_cons (pe_op op_mod (pe_ix ix_list (pv 0) (pe_op op_mod (pe_callTy call_int1 (by rfl) T.g_int boot_int (pa_cons (pv 1) pa_nil)) (pe_callB call_len_seq (by rfl) T.g_len boot_len (pa_cons (pv 0) pa_nil))) (fun _ _ => rfl)) pe_int) pa_nil)) (pg_name (i := 3) sc_lw_bundle.nd rfl (Or.inl rfl))
      (pss_cons (ps_set (i := 4) sc_lw_bundle.nd rfl (Or.inr rfl) (pe_call (ok_lw_entry T) (hr.mono (by omega)) (by rfl) T.g_lw_entry T.F_lw_entry.kp T.b_lw_entry .nil pass0 (pa_cons (pv 0) (pa_cons (pe_callTy call_int1 (by rfl) T.g_int boot_int (pa_cons (pe_op op_add (pe_op op_add (pv 1) pe_int) (pe_op op_mul pe_int (pv 3))) pa_nil)) pa_nil))))
      (pss_one (ps_if (pt_cmpR op_eq (pe_callB call_len_seq (by rfl) T.g_len boot_len (pa_cons (pe_lc (own := [("one", 9)]) (g := gName 9) (tt := (tTest (tOp (rEqD K) (tSl (rSlA K) (tVar 9) tNoPart (tPart (tC (.int 2)))) (tSl (rSlA K) (tVar 4) tNoPart (tPart (tC (.int 2)))))))  (by rfl) sc_lw_bundle.nd (pi_list (pv 2)) (blkOk_by (own := [("one", 9)]) (N := N_lw_bundle) (sc := defScope s_lw_bundle) (by decide +kernel)) (fun _ _ _ _ _ => pg_name (i := 9) sc_lw_bundle.nd rfl (Or.inl rfl)) (fun _ _ _ _ _ => pts_one (pt_cmpR (op_eqD hr.units) (pe_slice sl_tupA (pv 9) po_none (po_some pe_int)) (pe_slice sl_tupA (pv 4) po_none (po_some pe_int)) (nomark _))) (fun _ _ _ _ _ => (pv 9))) pa_nil)) pe_int (nomark _)) (pss_one (ps_expr (pe_bm PySem.F.plainAttrs_list PySem.F.slot_list_append PySem.F.type_list_append mt_append (pv 2) (pa_cons (pv 4) pa_nil)))) pss_nil))))
      (pss_cons (ps_set (i := 5) sc_lw_bundle.nd rfl (Or.inl rfl) (pe_ix ix_list (pv 0) (pe_op op_mod (pe_callTy call_int1 (by rfl) T.g_int boot_int (pa_cons (pe_op op_add (pv 1) pe_int) pa_nil)) (pe_callB call_len_seq (by rfl) T.g_len boot_len (pa_cons (pv 0) pa_nil))) (fun _ _ => rfl)))
      (pss_cons (ps_set (i := 6) sc_lw_bundle.nd rfl (Or.inl rfl) (pe_ix ix_list (pe_lst (pa_cons pe_str (pa_cons pe_str (pa_cons pe_str (pa_cons pe_str pa_nil))))) (pe_op op_mod (pv 5) pe_int) (fun _ _ => rfl)))
      (pss_cons (ps_set (i := 7) sc_lw_bundle.nd rfl (Or.inl rfl) (pe_callB (SortN.call_sortL rfl hr.units) (by rfl) T.g_sorted boot_sorted (pa_cons (pe_lc (own := [("k", 3)]) (g := gName 3) (tt := tYes) (te := (tTup (tCons (tOp (rIxT K) (tOp (rIxL K) (tVar 2) (tVar 3)) (tC (.int 0))) (tCons (tOp (rIxT K) (tOp (rIxL K) (tVar 2) (tVar 3)) (tC (.int 1))) (tCons (tVar 3) tNil))))) (by rfl) sc_lw_bundle.nd (pi_range1 (by rfl) T.g_range (pa_cons (pe_callB call_len_seq (by rfl) T.g_len boot_len (pa_cons (pv 2) pa_nil)) pa_nil)) (blkOk_by (own := [("k", 3)]) (N := N_lw_bundle) (sc := defScope s_lw_bundle) (by decide +kernel)) (fun _ _ _ _ _ => pg_name (i := 3) sc_lw_bundle.nd rfl (Or.inl rfl)) (fun _ _ _ _ _ => pts_nil) (fun _ _ _ _ _ => (pe_tup (pa_cons (pe_ix (r := rIxT K) ix_tup (pe_ix (r := rIxL K) ix_list (pv 2) (pv 3) (fun _ _ => rfl)) pe_int (fun _ _ => rfl)) (pa_cons (pe_ix (r := rIxT K) ix_tup (pe_ix (r := rIxL K) ix_list (pv 2) (pv 3) (fun _ _ => rfl)) pe_int (fun _ _ => rfl)) (pa_cons (pv 3) pa_nil)))))) pa_nil)))
      (pss_cons (ps_set (i := 8) sc_lw_bundle.nd rfl (Or.inl rfl) (pe_callTy call_tuple_of (by rfl) T.g_tuple boot_tuple (pa_cons (pe_lc (own := [("one", 9)]) (g := gName 9) (tt := tYes) (te := (tOp (rIxL K) (tVar 2) (tOp (rIxT K) (tVar 9) (tC (.int 2))))) (by rfl) sc_lw_bundle.nd (pi_list (pv 7)) (blkOk_by (own := [("one", 9)]) (N := N_lw_bundle) (sc := defScope s_lw_bundle) (by decide +kernel)) (fun _ _ _ _ _ => pg_name (i := 9) sc_lw_bundle.nd rfl (Or.inl rfl)) (fun _ _ _ _ _ => pts_nil) (fun _ _ _ _ _ => (pe_ix (r := rIxL K) ix_list (pv 2) (pe_ix (r := rIxT K) ix_tup (pv 9) pe_int (fun _ _ => rfl)) (fun _ _ => rfl)))) pa_nil)))
      (pss_one (ps_ret (pe_tup (pa_cons (pe_call (ok_lw_object T) (hr.mono (by omega)) (by rfl) T.g_lw_object T.F_lw_object.kp T.b_lw_object .nil pass0 (pa_cons (pe_op op_fdiv (pv 5) pe_int) pa_nil)) (pa_cons (pv 6) (pa_cons (pe_call (ok_lw_values T) (hr.mono (by omega)) (by rfl) T.g_lw_values T.F_lw_values.kp T.b_lw_values .nil pass0 (pa_cons (pv 0) (pa_cons (pe_op op_add (pv 1) pe_int) (pa_cons pe_int pa_nil)))) (pa_cons (pv 8) (pa_cons (pe_ix ix_list (pe_lst (pa_cons pe_int (pa_cons pe_int (pa_cons pe_int (pa_cons (pe_op op_pow pe_int pe_int) pa_nil))))) (pe_op op_mod (pe_op op_fdiv (pv 5) pe_int) pe_int) (fun _ _ => rfl)) pa_nil)))))))))))))), ?_⟩
    rw [show L2.start N_lw_bundle [.ref nu, .int at_] = [some (.ref nu), some (.int at_), none, none, none, none, none, none, none, none] from rfl]
    refine ⟨Nat.zero_le _, fun en nen => ?_⟩
    have s0 := Cm.same_new (o := .lst []) nen
    obtain ⟨p0, n0, hn0, e0⟩ := at_mod (ns := ns) at_ (by omega)
    obtain ⟨g0, _⟩ := hok n0 hn0
    have N0 := N.same s0
    refine ⟨_, rfl, _, rfl, .inl ⟨_, rfl, _, rfl, nu, _, rfl, .inl (SqL.of N0.1), _, _, rfl, rfl, p0, nu, _, _, _, rfl, rfl, SqL.of N0.1, e0, _, _, rfl, rfl, (by show (0 : Int) < 5; decide), _, rfl, by omega, by omega, ?_⟩⟩
    refine for_range (n := (n0 % 5).toNat) (fun i σ H2 => ∃ (x3 x4 : Option V) (acc : List V) (ds : List PyData), σ = [some (.ref nu), some (.int at_), some (.ref en), x3, x4, none, none, none, none, none] ∧ Same H H2 ∧ H2 en = some (.lst acc) ∧ Rps K H2 acc ds ∧ (∀ d ∈ ds, EntD d) ∧ ds.length ≤ i ∧ ds.Pairwise fun x y => key2 x ≠ key2 y)
      ⟨_, _, [], [], rfl, s0, upd_same, .nil, (fun _ h => nomatch h), Nat.le_refl _, .nil⟩ (fun i σ H2 hi ⟨x3, x4, acc, ds, e, s2, hen, rD, hE, lD, hP⟩ => ?_) fun σ H2 ⟨x3, x4, acc, ds, e, s2, hen, rD, hE, lD, hP⟩ => ?_
    · subst e
      refine ⟨_, rfl, _, rfl, _, _, rfl, rfl, _, rfl, _, _, rfl, rfl, .inl ⟨by decide, by decide⟩, _, _, rfl, rfl, .inl ⟨_, rfl, nu, ns, _, rfl, N.same s2, fun H3 v d s3 rv hd => ?_⟩⟩
      have hen3 := s3 _ _ hen
      have la := rD.len
      simp only [gName, List.set_cons_succ, List.set_cons_zero]
      refine ⟨_, rfl, en, rfl, ⟨_, SqL.of hen3⟩, fun D nD => ?_⟩
      simp only [List.map_cons, List.map_nil]
      refine lc_list (K := K) (a := en) (xs := acc) (fun n Hi => Same H3 Hi ∧ ∃ l, Hi D = some (.lst l) ∧ l.length ≤ n ∧ (l = [] → ∀ x ∈ ds.take n, key2 x ≠ key2 d)) ⟨Cm.same_new nD, [], upd_same, Nat.le_refl _, fun _ x hx => nomatch hx⟩ (fun n Hi _ b => SqL.of (b.1 _ _ hen3)) (fun n y Hi hy b => ?_) fun Hi b => ?_
      · obtain ⟨sH, l, hDD, lD', hN⟩ := b
        refine ⟨rfl, ?_⟩
        simp only [List.map_cons, List.map_nil, List.set_cons_succ, List.set_cons_zero, wipe]
        have hn : n < ds.length := by
          rw [← la]
          exact (List.getElem?_eq_some_iff.mp hy).1
        obtain ⟨y', hy', ry⟩ := rD.at_ (List.getElem?_eq_getElem hn)
        rw [hy] at hy'
        cases hy'
        have h1 := hE _ (List.getElem_mem hn)
        have hbd : ds[n]? = some ds[n] := List.getElem?_eq_getElem hn
        generalize ds[n] = bd at ry h1 hbd
        have k1 : ∀ {r : List PyData}, EntD (.tuple r) → key2 (.tuple r) = .tuple (r.take 2) := fun {r} hx => by
          obtain ⟨pd, dep, fr, back, tok, wd, e, _⟩ := hx
          injection e with e
          subst e
          rfl
        have sh : ∀ {x : PyData}, EntD x → ∃ r, x = .tuple r ∧ 2 ≤ r.length ∧ SeqAt.shaped (.tuple (r.take 2)) = true := fun {x} hx => by
          obtain ⟨pd, dep, fr, back, tok, wd, rfl, hp, _⟩ := hx
          exact ⟨_, rfl, by show 2 ≤ 6; decide, lo_shaped (lo_two (lo_proc hp) lo_int) (by decide)⟩
        obtain ⟨r1, e1, l1, sh1⟩ := sh h1
        obtain ⟨r2, e2, l2, sh2⟩ := sh hd
        subst e1 e2
        refine ⟨_, rfl, _, rfl, upto_rp (k := 2) (ry.keep (Same.tups (s3.trans sH))) l1 fun v1 H5 s5 rv1 => ?_⟩
        refine ⟨_, rfl, _, rfl, upto_rp (k := 2) (rv.keep (Same.tups (sH.trans s5))) l2 fun v2 H6 s6 rv2 => ?_⟩
        have hD6 := s6 _ _ (s5 _ _ hDD)
        refine ⟨_, _, (rv1.keep (Same.tups s6)).dp, rv2.dp, sh1, sh2, _, rfl, Cm.itB (fun _ => ?_) fun ef => ?_⟩
        · exact ⟨_, rfl, l, hD6, Cm.smallL (by omega), Cm.same_mut (sH.trans (s5.trans s6)) nD, _, upd_same, by rw [List.length_append]; simp only [List.length_cons, List.length_nil]; omega, fun z => absurd z (by simp)⟩
        · refine ⟨sH.trans (s5.trans s6), l, hD6, by omega, fun z x hx => ?_⟩
          rw [List.take_succ, hbd] at hx
          rcases List.mem_append.mp hx with h | h
          · exact hN z x h
          · rw [List.mem_singleton.mp h, k1 h1, k1 hd]
            intro z2
            rw [z2, Nst.eqv_self sh2] at ef
            cases ef
      · obtain ⟨sH, l, hDD, _, hN⟩ := b
        have hen4 := sH _ _ hen3
        have s24 := s2.trans (s3.trans sH)
        refine ⟨D, _, rfl, .inl (SqL.of hDD), rfl, _, rfl, Cm.itEI (fun e0 => ?_) fun _ => ?_⟩
        · have l0 : l = [] := List.length_eq_zero_iff.mp (by omega)
          have dif := hN l0
          rw [la, List.take_length] at dif
          refine ⟨_, rfl, .inl ⟨rfl, _, SqL.of hen4⟩, _, rfl, en, acc, _, rfl, rfl, hen4, Cm.smallL (by omega), ?_⟩
          have tk : TK K Hi (upd Hi en (.lst (acc ++ [v]))) := TK.upd (by rw [hen4]; exact True.intro)
          refine ⟨_, _, acc ++ [v], ds ++ [d], rfl, Cm.same_mut s24 nen, upd_same, rps_keep tk ((rD.keep (Same.tups (s3.trans sH))).app (.cons (rv.keep (Same.tups sH)) .nil)), fun x hx => ?_, by rw [List.length_append]; simp only [List.length_cons, List.length_nil]; omega, ?_⟩
          · rcases List.mem_append.mp hx with hx | hx
            · exact hE x hx
            · rw [List.mem_singleton.mp hx]
              exact hd
          · refine List.pairwise_append.mpr ⟨hP, List.pairwise_singleton _ _, fun x hx y hy => ?_⟩
            rw [List.mem_singleton.mp hy]
            exact dif x hx
        · exact ⟨_, _, acc, ds, rfl, s24, hen4, rD.keep (Same.tups (s3.trans sH)), hE, by omega, hP⟩
    · subst e
      have N2 := N.same s2
      obtain ⟨p1, n1, hn1, e1⟩ := at_mod (ns := ns) (at_ + 1) (by omega)
      obtain ⟨g1, _⟩ := hok n1 hn1
      refine ⟨_, rfl, _, rfl, _, _, rfl, rfl, .inl ⟨_, rfl, _, rfl, nu, _, rfl, .inl (SqL.of N2.1), _, _, rfl, rfl, p1, nu, _, _, _, rfl, rfl, SqL.of N2.1, e1, ?_⟩⟩
      refine ⟨Cm.small (by show 4 ≤ 100000; decide), fun tm ntm => ?_⟩
      have s3 := Cm.same_new (o := .lst [.str "start", .str "Box", .str "a1", .str "Z"]) ntm
      obtain ⟨mk, hmk, emk⟩ := Cm.at_str (ws := ["start", "Box", "a1", "Z"]) (i := n1 % 4) (by omega) (by show n1 % 4 < 4; omega)
      have htm : (upd H2 tm (.lst [.str "start", .str "Box", .str "a1", .str "Z"])) tm = some (.lst ((["start", "Box", "a1", "Z"] : List Str).map V.str)) := upd_same
      have hen3 := s3 _ _ hen
      have rD3 := rD.keep (Same.tups s3)
      have s23 := s2.trans s3
      generalize upd H2 tm (.lst [.str "start", .str "Box", .str "a1", .str "Z"]) = H3 at *
      refine ⟨_, rfl, _, _, rfl, rfl, (by show (0 : Int) < 4; decide), tm, _, _, _, rfl, rfl, SqL.of htm, emk, ?_⟩
      have la := rD3.len
      simp only [gName, List.set_cons_succ, List.set_cons_zero]
      refine ⟨_, rfl, en, _, rfl, .inl (SqL.of hen3), _, rfl, by omega, by omega, fun D nD => ?_⟩
      simp only [List.map_cons, List.map_nil]
      refine lc_range (n := acc.length) (fun k Hi => Same H3 Hi ∧ ∃ l ts, Hi D = some (.lst l) ∧ Rps K Hi l ts ∧ (∀ t ∈ ts, TriD ds.length t) ∧ ts.length = k ∧ ts = (List.range k).map (triX ds)) ⟨Cm.same_new nD, [], [], upd_same, .nil, (fun _ h => nomatch h), rfl, rfl⟩ (fun k Hi hk ⟨sH, l, ts, hDD, rT, hT, lT, eT⟩ => ?_) fun Hi ⟨sH, l, ts, hDD, rT, hT, lT, eT⟩ => ?_
      · refine ⟨rfl, ?_⟩
        simp only [List.map_cons, List.map_nil, List.set_cons_succ, List.set_cons_zero, wipe]
        have hn : k < ds.length := by omega
        obtain ⟨y, hy, ry⟩ := rD3.at_ (List.getElem?_eq_getElem hn)
        have h1 := hE _ (List.getElem_mem hn)
        have hbd : ds[k]? = some ds[k] := List.getElem?_eq_getElem hn
        generalize ds[k] = bd at ry h1 hbd
        obtain ⟨pd, dep, fr, back, tok, wd, rfl, hp, _⟩ := h1
        obtain ⟨ca, vv, vr, rfl, hca, rp1, hvr⟩ := (show ∃ a' v' vs', y = .ref a' ∧ SqT K Hi a' (v' :: vs') ∧ Rp K Hi v' pd ∧ Rps K Hi vs' [.int dep, fr, back, tok, .str wd] from by
          obtain ⟨a', vs', e', h', r'⟩ := (ry.keep (Same.tups sH)).tup_inv
          obtain ⟨v', vs'', e'', h'', r''⟩ := r'.cons_inv
          subst e''
          exact ⟨a', v', vs'', e', h', h'', r''⟩)
        obtain ⟨v2, vr2, rfl, hv2, _⟩ := hvr.cons_inv
        obtain rfl := hv2.int_inv
        have heni := sH _ _ hen3
        have ek : atI acc (0 + (k : Int)) = some (.ref ca) := by
          rw [Int.zero_add]
          exact atI_nat hy
        refine ⟨_, rfl, _, rfl, en, _, _, _, rfl, rfl, SqL.of heni, ek, ca, _, 0, _, rfl, rfl, hca, atI_nat (j := 0) rfl, ?_⟩
        refine ⟨_, rfl, _, rfl, en, _, _, _, rfl, rfl, SqL.of heni, ek, ca, _, 1, _, rfl, rfl, hca, atI_nat (j := 1) rfl, _, rfl, Cm.small (by show 3 ≤ 100000; decide), fun t nt => ?_⟩
        have st := Cm.same_new (o := .tup [vv, .int dep, .int (0 + (k : Int))]) nt
        have hDt := st _ _ hDD
        have rt := Rp.made nt (.cons rp1 (.cons (.int dep) (.cons (.int (0 + (k : Int))) .nil)))
        have tk : TK K (upd Hi t (.tup [vv, .int dep, .int (0 + (k : Int))])) (upd (upd Hi t (.tup [vv, .int dep, .int (0 + (k : Int))])) D (.lst (l ++ [.ref t]))) := TK.upd (by rw [hDt]; exact True.intro)
        have ll := rT.len
        refine ⟨l, hDt, Cm.smallL (by omega), Cm.same_mut (sH.trans st) nD, l ++ [.ref t], _, upd_same, rps_keep tk ((rT.keep (Same.tups st)).app (.cons rt .nil)), fun x hx => ?_, by rw [List.length_append, lT]; rfl, ?_⟩
        · rcases List.mem_append.mp hx with hx | hx
          · exact hT x hx
          · rw [List.mem_singleton.mp hx, Int.zero_add]
            exact ⟨pd, dep, k, rfl, hp, hn⟩
        · rw [List.range_succ, List.map_append, eT, Int.zero_add]
          show _ = _ ++ [triX ds k]
          rw [show triX ds k = .tuple [pd, .int dep, .int k] from by unfold triX; rw [hbd]]
      · refine ⟨D, l, ts, rfl, SqL.of hDD, rT, tri_alike hT, tri_sortable hT, tri_depth hT, fun ys po rys npo => ?_⟩
        have s4 := Cm.same_new (o := .lst ys) npo
        have hpo : (upd Hi po (.lst ys)) po = some (.lst ys) := upd_same
        have rys := rys.keep (Same.tups s4)
        have s34 := sH.trans s4
        have hen4 := s34 _ _ hen3
        have rD4 := rD3.keep (Same.tups s34)
        generalize upd Hi po (.lst ys) = H4 at *
        have lys : ys.length = ts.length := by rw [rys.len, List.length_mergeSort]
        refine ⟨_, rfl, po, rfl, ⟨_, SqL.of hpo⟩, fun D2 nD2 => ?_⟩
        simp only [List.map_cons, List.map_nil]
        refine lc_list (K := K) (a := po) (xs := ys) (fun n Hj => Same H4 Hj ∧ ∃ l es, Hj D2 = some (.lst l) ∧ Rps K Hj l es ∧ (∀ x ∈ es, EntD x) ∧ es.length = n ∧ ∀ m t, m < n → (SortN.srt ts)[m]? = some t → ∃ (kk : Nat) (x : PyData), thirdX t = (kk : Int) ∧ ds[kk]? = some x ∧ es[m]? = some x) ⟨Cm.same_new nD2, [], [], upd_same, .nil, (fun _ h => nomatch h), rfl, fun m t h => absurd h (Nat.not_lt_zero m)⟩ (fun n Hj _ b => SqL.of (b.1 _ _ hpo)) (fun n y Hj hy b => ?_) fun Hj b => ?_
        · obtain ⟨sJ, l2, es, hD2, rE, hE2, lE, hX⟩ := b
          refine ⟨rfl, ?_⟩
          simp only [List.map_cons, List.map_nil, List.set_cons_succ, List.set_cons_zero, wipe]
          have hn : n < (SortN.srt ts).length := by
            rw [← rys.len]
            exact (List.getElem?_eq_some_iff.mp hy).1
          have lsr : (SortN.srt ts).length = ts.length := List.length_mergeSort ..
          obtain ⟨y', hy', ry⟩ := rys.at_ (List.getElem?_eq_getElem hn)
          rw [hy] at hy'
          cases hy'
          have hmem := (List.mergeSort_perm ts SortN.dle).mem_iff.mp (List.getElem_mem hn)
          have h1 := hT _ hmem
          have hbn : (SortN.srt ts)[n]? = some (SortN.srt ts)[n] := List.getElem?_eq_getElem hn
          generalize (SortN.srt ts)[n] = bd at ry h1 hbn
          obtain ⟨pd, dep, kk, rfl, hp, hkk⟩ := h1
          obtain ⟨ct, cs, rfl, hct, hcs⟩ := (ry.keep (Same.tups sJ)).tup_inv
          obtain ⟨c1, r1, rfl, _, hr1⟩ := hcs.cons_inv
          obtain ⟨c2, r2, rfl, _, hr2⟩ := hr1.cons_inv
          obtain ⟨c3, r3, rfl, hc3, hr3⟩ := hr2.cons_inv
          obtain rfl := hc3.int_inv
          obtain ⟨z, hz, rz⟩ := rD4.at_ (List.getElem?_eq_getElem hkk)
          have hZ := hE _ (List.getElem_mem hkk)
          have henj := sJ _ _ hen4
          have ll := rE.len
          refine ⟨_, rfl, _, rfl, ct, _, 2, _, rfl, rfl, hct, atI_nat (j := 2) rfl, en, _, _, z, rfl, rfl, SqL.of henj, atI_nat hz, ?_⟩
          have tk : TK K Hj (upd Hj D2 (.lst (l2 ++ [z]))) := TK.upd (by rw [hD2]; exact True.intro)
          refine ⟨l2, hD2, Cm.smallL (by omega), Cm.same_mut sJ nD2, l2 ++ [z], _, upd_same, rps_keep tk (rE.app (.cons (rz.keep (Same.tups sJ)) .nil)), fun x hx => ?_, by rw [List.length_append, lE]; rfl, fun m t hm ht => ?_⟩
          · rcases List.mem_append.mp hx with hx | hx
            · exact hE2 x hx
            · rw [List.mem_singleton.mp hx]
              exact hZ
          · by_cases e : m < n
            · obtain ⟨k2, x2, a1, a2, a3⟩ := hX m t e ht
              exact ⟨k2, x2, a1, a2, by rw [List.getElem?_append_left (by omega)]; exact a3⟩
            · have em : m = n := by omega
              rw [em, hbn] at ht
              cases ht
              refine ⟨kk, ds[kk], rfl, List.getElem?_eq_getElem hkk, ?_⟩
              rw [em, ← lE, List.getElem?_append_right (Nat.le_refl _), Nat.sub_self]
              rfl
        · obtain ⟨sJ, l2, es, hD2, rE, hE2, lE, hX⟩ := b
          have ord := ord_of hP hE eT la lys rys.len lE hX
          have s3J := s34.trans sJ
          refine ⟨D2, l2, rfl, .inl ⟨SqL.of hD2, fun tr ntr => ?_⟩⟩
          have s5 := Cm.same_new (o := .tup l2) ntr
          have rr := Rp.made ntr rE
          have sA := (s23.trans s3J).trans s5
          have N5 := N.same sA
          generalize upd Hj tr (.tup l2) = H5 at *
          refine ⟨_, rfl, _, _, rfl, rfl, ⟨by decide, by decide⟩, n1 / 4, rfl, by omega, fun H6 v pd j _ s6 rv hpd hj0 hj1 _ => ?_⟩
          refine ⟨_, rfl, _, rfl, _, rfl, _, _, rfl, rfl, nu, ns, _, 4, rfl, N5.same s6, by decide, fun H7 lv ls s7 rls lls vls => ?_⟩
          refine ⟨_, rfl, _, _, rfl, rfl, ⟨by decide, by decide, by decide⟩, Cm.small (by show 4 ≤ 100000; decide), fun tc ntc => ?_⟩
          have s8 := Cm.same_new (o := .lst [.int 0, .int 1, .int 7, .int (10 ^ (12 : Int).toNat)]) ntc
          obtain ⟨c, hc, ec⟩ := Cm.at_int (ns := [0, 1, 7, 10 ^ (12 : Int).toNat]) (i := n1 / 16 % 4) (by omega) (by show n1 / 16 % 4 < 4; omega)
          refine ⟨_, rfl, _, _, rfl, rfl, ⟨by decide, by decide⟩, _, _, rfl, rfl, (by show (0 : Int) < 4; decide), tc, _, _, _, rfl, rfl, Cm.sql_new, ec, Cm.small (by show 5 ≤ 100000; decide), fun tb ntb => ?_⟩
          have hcb : 0 ≤ c ∧ c ≤ 1000000000000 := by
            simp only [List.mem_cons, List.not_mem_nil, or_false] at hc
            rcases hc with rfl | rfl | rfl | rfl <;> decide +kernel
          have s78 := s7.trans s8
          refine q _ _ _ ((sA.trans s6).trans (s78.trans (Cm.same_new ntb))) (Rp.made ntb (.cons (rv.keep (Same.tups s78)) (.cons (.str mk) (.cons (rls.keep (Same.tups s8)) (.cons (rr.keep (Same.tups (s6.trans s78))) (.cons (.int c) .nil)))))) ?_ ?_
          · exact ⟨_, mk, ls, es, c, rfl, ⟨pd, j, rfl, hpd, hj0, hj1⟩, hmk, lls, vls, by omega, hE2, hcb.1, hcb.2⟩
          · intro o m v es' c' e
            injection e with e
            injection e with _ e
            injection e with _ e
            injection e with _ e
            injection e with e _
            injection e with e
            subst e
            exact ord
theorem bunD_of {d : PyData} (h : BundD d) (o : OrdD d) : bunD d = true := by
  obtain ⟨nm, mk, vs, es, c, rfl, ho, hm, _, hv, _, he, c0, c1⟩ := h
  show ((objD nm && (codeD (.str mk) && (valsD (.tuple vs) && natD (.int c)))) && (es.all entD && (List.zipWith (fun b e => abvD e b) es es.tail).all id)) = true
  rw [objD_of ho, codes_mk mk hm, valsD_of hv, natD_of c0 c1, o _ _ _ _ _ rfl, show es.all entD = true from List.all_eq_true.mpr fun x hx => entD_of (he x hx)]
  rfl
def badVals : List PyData := [.int 1000000000001, .int (-1000000000001), .tuple [.str "nil", .int 0], .tuple [.str "ref"], .tuple [.str "ref", .tuple [.int 1, .int 2]], .tuple [.str "ref", .tuple [.tuple [.int 0], .int (-1)]], .tuple [.str "ref", .tuple [.tuple [.int (-1)], .int 0]],
  .tuple [.str "int", .int 3], .str "5", .tuple [], .none, .tuple [.str "ref", .tuple [.tuple [.int 0], .int 1, .int 2]], .tuple [.str "ref", .tuple [.tuple [.int 1000000000001], .int 0]]]
theorem badVals_no : ∀ d ∈ badVals, valD d = false := by decide +kernel
theorem badVals_fit : ∀ d ∈ badVals, shortD d = true ∧ d.canLay0 = true ∧ d.depth ≤ 5 := by decide +kernel
def spBadV (K : PySem.W.Frag) : Sp := fun vs H Q _ => vs = [] ∧ ∀ (H' : Hp) (p : Addr) (us : List V), Same H H' → H' p = some (.lst us) → Rps K H' us badVals → Q (.ref p) H'
theorem ok_lw_bad_values (T : Txt K mg w a) : FnOk P w K mg base CX0 1 (He.ga K "_law_bad_values") a.d_lw_bad_values [] (spBadV K) := by
  refine T.F_lw_bad_values.ok sc_lw_bad_values (fun vs H Q E h => ?_) (fun cdv A outer s H vs Q E hr h => ?_)
  · obtain ⟨rfl, _⟩ := h
    rfl
  · obtain ⟨rfl, q⟩ := h
    refine ⟨_, PSs.nox (pss_cons (ps_set (i := 0) sc_lw_bad_values.nd rfl (Or.inl rfl) (pe_op op_add (pe_op op_pow pe_int pe_int) pe_int))
      (pss_one (ps_ret (pe_lst (pa_cons (pv 0) (pa_cons (pe_op op_sub pe_int (pv 0)) (pa_cons (pe_tup (pa_cons pe_str (pa_cons pe_int pa_nil))) (pa_cons (pe_tup (pa_cons pe_str pa_nil)) (pa_cons (pe_tup (pa_cons pe_str (pa_cons (pe_tup (pa_cons pe_int (pa_cons pe_int pa_nil))) pa_nil))) (pa_cons (pe_tup (pa_cons pe_str (pa_cons (pe_tup (pa_cons (pe_tup (pa_cons pe_int pa_nil)) (pa_cons (pe_un un_neg pe_int) pa_nil))) pa_nil))) (pa_cons (pe_tup (pa_cons pe_str (pa_cons (pe_tup (pa_cons (pe_tup (pa_cons (pe_un un_neg pe_int) pa_nil)) (pa_cons pe_int pa_nil))) pa_nil))) (pa_cons (pe_tup (pa_cons pe_str (pa_cons pe_int pa_nil))) (pa_cons pe_str (pa_cons (pe_tup pa_nil) (pa_cons pe_non (pa_cons (pe_tup (pa_cons pe_str (pa_cons (pe_tup (pa_cons (pe_tup (pa_cons pe_int pa_nil)) (pa_cons pe_int (pa_cons pe_int pa_nil)))) pa_nil))) (pa_cons (pe_tup (pa_cons pe_str (pa_cons (pe_tup (pa_cons (pe_tup (pa_cons (pv 0) pa_nil)) (pa_cons pe_int pa_nil))) pa_nil))) pa_nil))))))))))))))))), ?_⟩
    rw [show L2.start N_lw_bad_values [] = [none] from rfl]
    refine ⟨_, _, rfl, rfl, ⟨by decide, by decide, by decide⟩, _, _, rfl, rfl, ?_⟩
    simp only [List.set_cons_succ, List.set_cons_zero]
    rw [show (10 : Int) ^ (12 : Int).toNat + 1 = 1000000000001 from by decide +kernel]
    have sA : Same H H := Same.refl H
    refine ⟨_, rfl, _, rfl, _, _, rfl, rfl, Cm.small (by show 2 ≤ 100000; decide), fun a1 na1 => ?_⟩
    have sa1 := Cm.same_new (o := .tup [.str "nil", .int 0]) na1
    have ra1 := Rp.made (K := K) na1 ((.cons (.str _) (.cons (.int _) .nil)) : Rps K H [.str "nil", .int 0] _)
    generalize L2.upd H a1 (.tup [.str "nil", .int 0]) = H1 at *
    have sA := sA.trans sa1
    refine ⟨Cm.small (by show 1 ≤ 100000; decide), fun a2 na2 => ?_⟩
    have sa2 := Cm.same_new (o := .tup [.str "ref"]) na2
    have ra2 := Rp.made (K := K) na2 ((.cons (.str _) .nil) : Rps K H1 [.str "ref"] _)
    generalize L2.upd H1 a2 (.tup [.str "ref"]) = H2 at *
    have ra1 := ra1.keep (Same.tups sa2)
    have sA := sA.trans sa2
    refine ⟨Cm.small (by show 2 ≤ 100000; decide), fun b3 nb3 => ?_⟩
    have sb3 := Cm.same_new (o := .tup [.int 1, .int 2]) nb3
    have rb3 := Rp.made (K := K) nb3 ((.cons (.int _) (.cons (.int _) .nil)) : Rps K H2 [.int 1, .int 2] _)
    generalize L2.upd H2 b3 (.tup [.int 1, .int 2]) = H3 at *
    have ra1 := ra1.keep (Same.tups sb3)
    have ra2 := ra2.keep (Same.tups sb3)
    have sA := sA.trans sb3
    refine ⟨Cm.small (by show 2 ≤ 100000; decide), fun a3 na3 => ?_⟩
    have sa3 := Cm.same_new (o := .tup [.str "ref", .ref b3]) na3
    have ra3 := Rp.made (K := K) na3 ((.cons (.str _) (.cons rb3 .nil)) : Rps K H3 [.str "ref", .ref b3] _)
    generalize L2.upd H3 a3 (.tup [.str "ref", .ref b3]) = H4 at *
    have ra1 := ra1.keep (Same.tups sa3)
    have ra2 := ra2.keep (Same.tups sa3)
    have rb3 := rb3.keep (Same.tups sa3)
    have sA := sA.trans sa3
    refine ⟨Cm.small (by show 1 ≤ 100000; decide), fun c4 nc4 => ?_⟩
    have sc4 := Cm.same_new (o := .tup [.int 0]) nc4
    have rc4 := Rp.made (K := K) nc4 ((.cons (.int _) .nil) : Rps K H4 [.int 0] _)
    generalize L2.upd H4 c4 (.tup [.int 0]) = H5 at *
    have ra1 := ra1.keep (Same.tups sc4)
    have ra2 := ra2.keep (Same.tups sc4)
    have rb3 := rb3.keep (Same.tups sc4)
    have ra3 := ra3.keep (Same.tups sc4)
    have sA := sA.trans sc4
    refine ⟨_, rfl, Cm.small (by show 2 ≤ 100000; decide), fun b4 nb4 => ?_⟩
    have sb4 := Cm.same_new (o := .tup [.ref c4, .int (-1)]) nb4
    have rb4 := Rp.made (K := K) nb4 ((.cons rc4 (.cons (.int _) .nil)) : Rps K H5 [.ref c4, .int (-1)] _)
    generalize L2.upd H5 b4 (.tup [.ref c4, .int (-1)]) = H6 at *
    have ra1 := ra1.keep (Same.tups sb4)
    have ra2 := ra2.keep (Same.tups sb4)
    have rb3 := rb3.keep (Same.tups sb4)
    have ra3 := ra3.keep (Same.tups sb4)
    have rc4 := rc4.keep (Same.tups sb4)
    have sA := sA.trans sb4
    refine ⟨Cm.small (by show 2 ≤ 100000; decide), fun a4 na4 => ?_⟩
    have sa4 := Cm.same_new (o := .tup [.str "ref", .ref b4]) na4
    have ra4 := Rp.made (K := K) na4 ((.cons (.str _) (.cons rb4 .nil)) : Rps K H6 [.str "ref", .ref b4] _)
    generalize L2.upd H6 a4 (.tup [.str "ref", .ref b4]) = H7 at *
    have ra1 := ra1.keep (Same.tups sa4)
    have ra2 := ra2.keep (Same.tups sa4)
    have rb3 := rb3.keep (Same.tups sa4)
    have ra3 := ra3.keep (Same.tups sa4)
    have rc4 := rc4.keep (Same.tups sa4)
    have rb4 := rb4.keep (Same.tups sa4)
    have sA := sA.trans sa4
    refine ⟨_, rfl, Cm.small (by show 1 ≤ 100000; decide), fun c5 nc5 => ?_⟩
    have sc5 := Cm.same_new (o := .tup [.int (-1)]) nc5
    have rc5 := Rp.made (K := K) nc5 ((.cons (.int _) .nil) : Rps K H7 [.int (-1)] _)
    generalize L2.upd H7 c5 (.tup [.int (-1)]) = H8 at *
    have ra1 := ra1.keep (Same.tups sc5)
    have ra2 := ra2.keep (Same.tups sc5)
    have rb3 := rb3.keep (Same.tups sc5)
    have ra3 := ra3.keep (Same.tups sc5)
    have rc4 := rc4.keep (Same.tups sc5)
    have rb4 := rb4.keep (Same.tups sc5)
    have ra4 := ra4.keep (Same.tups sc5)
    have sA := sA.trans sc5
    refine ⟨Cm.small (by show 2 ≤ 100000; decide), fun b5 nb5 => ?_⟩
    have sb5 := Cm.same_new (o := .tup [.ref c5, .int 0]) nb5
    have rb5 := Rp.made (K := K) nb5 ((.cons rc5 (.cons (.int _) .nil)) : Rps K H8 [.ref c5, .int 0] _)
    generalize L2.upd H8 b5 (.tup [.ref c5, .int 0]) = H9 at *
    have ra1 := ra1.keep (Same.tups sb5)
    have ra2 := ra2.keep (Same.tups sb5)
    have rb3 := rb3.keep (Same.tups sb5)
    have ra3 := ra3.keep (Same.tups sb5)
    have rc4 := rc4.keep (Same.tups sb5)
    have rb4 := rb4.keep (Same.tups sb5)
    have ra4 := ra4.keep (Same.tups sb5)
    have rc5 := rc5.keep (Same.tups sb5)
    have sA := sA.trans sb5
    refine ⟨Cm.small (by show 2 ≤ 100000; decide), fun a5 na5 => ?_⟩
    have sa5 := Cm.same_new (o := .tup [.str "ref", .ref b5]) na5
    have ra5 := Rp.made (K := K) na5 ((.cons (.str _) (.cons rb5 .nil)) : Rps K H9 [.str "ref", .ref b5] _)
    generalize L2.upd H9 a5 (.tup [.str "ref", .ref b5]) = H10 at *
    have ra1 := ra1.keep (Same.tups sa5)
    have ra2 := ra2.keep (Same.tups sa5)
    have rb3 := rb3.keep (Same.tups sa5)
    have ra3 := ra3.keep (Same.tups sa5)
    have rc4 := rc4.keep (Same.tups sa5)
    have rb4 := rb4.keep (Same.tups sa5)
    have ra4 := ra4.keep (Same.tups sa5)
    have rc5 := rc5.keep (Same.tups sa5)
    have rb5 := rb5.keep (Same.tups sa5)
    have sA := sA.trans sa5
    refine ⟨Cm.small (by show 2 ≤ 100000; decide), fun a6 na6 => ?_⟩
    have sa6 := Cm.same_new (o := .tup [.str "int", .int 3]) na6
    have ra6 := Rp.made (K := K) na6 ((.cons (.str _) (.cons (.int _) .nil)) : Rps K H10 [.str "int", .int 3] _)
    generalize L2.upd H10 a6 (.tup [.str "int", .int 3]) = H11 at *
    have ra1 := ra1.keep (Same.tups sa6)
    have ra2 := ra2.keep (Same.tups sa6)
    have rb3 := rb3.keep (Same.tups sa6)
    have ra3 := ra3.keep (Same.tups sa6)
    have rc4 := rc4.keep (Same.tups sa6)
    have rb4 := rb4.keep (Same.tups sa6)
    have ra4 := ra4.keep (Same.tups sa6)
    have rc5 := rc5.keep (Same.tups sa6)
    have rb5 := rb5.keep (Same.tups sa6)
    have ra5 := ra5.keep (Same.tups sa6)
    have sA := sA.trans sa6
    refine ⟨Nat.zero_le _, fun a7 na7 => ?_⟩
    have sa7 := Cm.same_new (o := .tup []) na7
    have ra7 := Rp.made (K := K) na7 (.nil : Rps K H11 [] _)
    generalize L2.upd H11 a7 (.tup []) = H12 at *
    have ra1 := ra1.keep (Same.tups sa7)
    have ra2 := ra2.keep (Same.tups sa7)
    have rb3 := rb3.keep (Same.tups sa7)
    have ra3 := ra3.keep (Same.tups sa7)
    have rc4 := rc4.keep (Same.tups sa7)
    have rb4 := rb4.keep (Same.tups sa7)
    have ra4 := ra4.keep (Same.tups sa7)
    have rc5 := rc5.keep (Same.tups sa7)
    have rb5 := rb5.keep (Same.tups sa7)
    have ra5 := ra5.keep (Same.tups sa7)
    have ra6 := ra6.keep (Same.tups sa7)
    have sA := sA.trans sa7
    refine ⟨Cm.small (by show 1 ≤ 100000; decide), fun c8 nc8 => ?_⟩
    have sc8 := Cm.same_new (o := .tup [.int 0]) nc8
    have rc8 := Rp.made (K := K) nc8 ((.cons (.int _) .nil) : Rps K H12 [.int 0] _)
    generalize L2.upd H12 c8 (.tup [.int 0]) = H13 at *
    have ra1 := ra1.keep (Same.tups sc8)
    have ra2 := ra2.keep (Same.tups sc8)
    have rb3 := rb3.keep (Same.tups sc8)
    have ra3 := ra3.keep (Same.tups sc8)
    have rc4 := rc4.keep (Same.tups sc8)
    have rb4 := rb4.keep (Same.tups sc8)
    have ra4 := ra4.keep (Same.tups sc8)
    have rc5 := rc5.keep (Same.tups sc8)
    have rb5 := rb5.keep (Same.tups sc8)
    have ra5 := ra5.keep (Same.tups sc8)
    have ra6 := ra6.keep (Same.tups sc8)
    have ra7 := ra7.keep (Same.tups sc8)
    have sA := sA.trans sc8
    refine ⟨Cm.small (by show 3 ≤ 100000; decide), fun b8 nb8 => ?_⟩
    have sb8 := Cm.same_new (o := .tup [.ref c8, .int 1, .int 2]) nb8
    have rb8 := Rp.made (K := K) nb8 ((.cons rc8 (.cons (.int _) (.cons (.int _) .nil))) : Rps K H13 [.ref c8, .int 1, .int 2] _)
    generalize L2.upd H13 b8 (.tup [.ref c8, .int 1, .int 2]) = H14 at *
    have ra1 := ra1.keep (Same.tups sb8)
    have ra2 := ra2.keep (Same.tups sb8)
    have rb3 := rb3.keep (Same.tups sb8)
    have ra3 := ra3.keep (Same.tups sb8)
    have rc4 := rc4.keep (Same.tups sb8)
    have rb4 := rb4.keep (Same.tups sb8)
    have ra4 := ra4.keep (Same.tups sb8)
    have rc5 := rc5.keep (Same.tups sb8)
    have rb5 := rb5.keep (Same.tups sb8)
    have ra5 := ra5.keep (Same.tups sb8)
    have ra6 := ra6.keep (Same.tups sb8)
    have ra7 := ra7.keep (Same.tups sb8)
    have rc8 := rc8.keep (Same.tups sb8)
    have sA := sA.trans sb8
    refine ⟨Cm.small (by show 2 ≤ 100000; decide), fun a8 na8 => ?_⟩
    have sa8 := Cm.same_new (o := .tup [.str "ref", .ref b8]) na8
    have ra8 := Rp.made (K := K) na8 ((.cons (.str _) (.cons rb8 .nil)) : Rps K H14 [.str "ref", .ref b8] _)
    generalize L2.upd H14 a8 (.tup [.str "ref", .ref b8]) = H15 at *
    have ra1 := ra1.keep (Same.tups sa8)
    have ra2 := ra2.keep (Same.tups sa8)
    have rb3 := rb3.keep (Same.tups sa8)
    have ra3 := ra3.keep (Same.tups sa8)
    have rc4 := rc4.keep (Same.tups sa8)
    have rb4 := rb4.keep (Same.tups sa8)
    have ra4 := ra4.keep (Same.tups sa8)
    have rc5 := rc5.keep (Same.tups sa8)
    have rb5 := rb5.keep (Same.tups sa8)
    have ra5 := ra5.keep (Same.tups sa8)
    have ra6 := ra6.keep (Same.tups sa8)
    have ra7 := ra7.keep (Same.tups sa8)
    have rc8 := rc8.keep (Same.tups sa8)
    have rb8 := rb8.keep (Same.tups sa8)
    have sA := sA.trans sa8
    refine ⟨_, rfl, Cm.small (by show 1 ≤ 100000; decide), fun c9 nc9 => ?_⟩
    have sc9 := Cm.same_new (o := .tup [.int 1000000000001]) nc9
    have rc9 := Rp.made (K := K) nc9 ((.cons (.int _) .nil) : Rps K H15 [.int 1000000000001] _)
    generalize L2.upd H15 c9 (.tup [.int 1000000000001]) = H16 at *
    have ra1 := ra1.keep (Same.tups sc9)
    have ra2 := ra2.keep (Same.tups sc9)
    have rb3 := rb3.keep (Same.tups sc9)
    have ra3 := ra3.keep (Same.tups sc9)
    have rc4 := rc4.keep (Same.tups sc9)
    have rb4 := rb4.keep (Same.tups sc9)
    have ra4 := ra4.keep (Same.tups sc9)
    have rc5 := rc5.keep (Same.tups sc9)
    have rb5 := rb5.keep (Same.tups sc9)
    have ra5 := ra5.keep (Same.tups sc9)
    have ra6 := ra6.keep (Same.tups sc9)
    have ra7 := ra7.keep (Same.tups sc9)
    have rc8 := rc8.keep (Same.tups sc9)
    have rb8 := rb8.keep (Same.tups sc9)
    have ra8 := ra8.keep (Same.tups sc9)
    have sA := sA.trans sc9
    refine ⟨Cm.small (by show 2 ≤ 100000; decide), fun b9 nb9 => ?_⟩
    have sb9 := Cm.same_new (o := .tup [.ref c9, .int 0]) nb9
    have rb9 := Rp.made (K := K) nb9 ((.cons rc9 (.cons (.int _) .nil)) : Rps K H16 [.ref c9, .int 0] _)
    generalize L2.upd H16 b9 (.tup [.ref c9, .int 0]) = H17 at *
    have ra1 := ra1.keep (Same.tups sb9)
    have ra2 := ra2.keep (Same.tups sb9)
    have rb3 := rb3.keep (Same.tups sb9)
    have ra3 := ra3.keep (Same.tups sb9)
    have rc4 := rc4.keep (Same.tups sb9)
    have rb4 := rb4.keep (Same.tups sb9)
    have ra4 := ra4.keep (Same.tups sb9)
    have rc5 := rc5.keep (Same.tups sb9)
    have rb5 := rb5.keep (Same.tups sb9)
    have ra5 := ra5.keep (Same.tups sb9)
    have ra6 := ra6.keep (Same.tups sb9)
    have ra7 := ra7.keep (Same.tups sb9)
    have rc8 := rc8.keep (Same.tups sb9)
    have rb8 := rb8.keep (Same.tups sb9)
    have ra8 := ra8.keep (Same.tups sb9)
    have rc9 := rc9.keep (Same.tups sb9)
    have sA := sA.trans sb9
    refine ⟨Cm.small (by show 2 ≤ 100000; decide), fun a9 na9 => ?_⟩
    have sa9 := Cm.same_new (o := .tup [.str "ref", .ref b9]) na9
    have ra9 := Rp.made (K := K) na9 ((.cons (.str _) (.cons rb9 .nil)) : Rps K H17 [.str "ref", .ref b9] _)
    generalize L2.upd H17 a9 (.tup [.str "ref", .ref b9]) = H18 at *
    have ra1 := ra1.keep (Same.tups sa9)
    have ra2 := ra2.keep (Same.tups sa9)
    have rb3 := rb3.keep (Same.tups sa9)
    have ra3 := ra3.keep (Same.tups sa9)
    have rc4 := rc4.keep (Same.tups sa9)
    have rb4 := rb4.keep (Same.tups sa9)
    have ra4 := ra4.keep (Same.tups sa9)
    have rc5 := rc5.keep (Same.tups sa9)
    have rb5 := rb5.keep (Same.tups sa9)
    have ra5 := ra5.keep (Same.tups sa9)
    have ra6 := ra6.keep (Same.tups sa9)
    have ra7 := ra7.keep (Same.tups sa9)
    have rc8 := rc8.keep (Same.tups sa9)
    have rb8 := rb8.keep (Same.tups sa9)
    have ra8 := ra8.keep (Same.tups sa9)
    have rc9 := rc9.keep (Same.tups sa9)
    have rb9 := rb9.keep (Same.tups sa9)
    have sA := sA.trans sa9
    refine ⟨Cm.small (by show 13 ≤ 100000; decide), fun p np => ?_⟩
    have sp := Cm.same_new (o := .lst [.int 1000000000001, .int (0 - 1000000000001), .ref a1, .ref a2, .ref a3, .ref a4, .ref a5, .ref a6, .str "5", .ref a7, .non, .ref a8, .ref a9]) np
    refine q _ p [.int 1000000000001, .int (0 - 1000000000001), .ref a1, .ref a2, .ref a3, .ref a4, .ref a5, .ref a6, .str "5", .ref a7, .non, .ref a8, .ref a9] (sA.trans sp) upd_same ?_
    have rr : Rps K H18 [.int 1000000000001, .int (0 - 1000000000001), .ref a1, .ref a2, .ref a3, .ref a4, .ref a5, .ref a6, .str "5", .ref a7, .non, .ref a8, .ref a9] badVals := (.cons (.int _) (.cons (.int _) (.cons ra1 (.cons ra2 (.cons ra3 (.cons ra4 (.cons ra5 (.cons ra6 (.cons (.str _) (.cons ra7 (.cons .non (.cons ra8 (.cons ra9 .nil)))))))))))))
    exact rr.keep (Same.tups sp)
theorem slice_sq {H : Hp} {c : Addr} {xs : List V} {lo hi : Option Int} {Q : VK} (hc : SqT K H c xs) (h : ∀ (q : Addr) (H' : Hp), Same H H' → SqT K H' q (cutV xs lo hi) → Q (.ref q) H') : rSlA K (.ref c) lo hi H Q := by
  refine ⟨c, xs, rfl, hc, fun e => ?_, fun _ p np => ?_⟩
  · refine h _ _ (Same.refl H) ?_
    have : cutV xs lo hi = xs := by
      unfold cutV
      rw [e.1, e.2]
      simp
    rw [this]
    exact hc
  · exact h _ _ (Cm.same_new np) Cm.sqt_new
structure EntP where
  pd : PyData
  dep : Int
  op : Str
  i : Int
  ls : PyData
  st : PyData
  back : PyData
  tok : PyData
  wd : Str
def EntP.fr (e : EntP) : PyData := .tuple [.str e.op, .int e.i, e.ls, e.st]
def EntP.d (e : EntP) : PyData := .tuple [e.pd, .int e.dep, e.fr, e.back, e.tok, .str e.wd]
def badEnts (e : EntP) : List PyData := [.tuple [e.pd, .int e.dep, e.fr, e.back, e.tok], .tuple [e.pd, .int (0 - 1), e.fr, e.back, e.tok, .str e.wd], .tuple [.tuple [.str "a"], .int e.dep, e.fr, e.back, e.tok, .str e.wd], .tuple [e.pd, .int 0, e.fr, .tuple [.tuple [], .int 0], e.tok, .str e.wd], .tuple [e.pd, .int 1, e.fr, .tuple [], e.tok, .str e.wd], .tuple [e.pd, .int 1, e.fr, .tuple [.int 0, .tuple []], e.tok, .str e.wd], .tuple [e.pd, .int e.dep, e.fr, e.back, .none, .str "nil"], .tuple [e.pd, .int e.dep, e.fr, e.back, .tuple [.int 1, .int 0], .str "zero"], .tuple [e.pd, .int e.dep, e.fr, e.back, .tuple [.int 1], .str e.wd], .tuple [e.pd, .int e.dep, e.fr, e.back, .tuple [.int 1, .int (-1)], .str e.wd], .tuple [e.pd, .int e.dep, .tuple [.str e.op, .int e.i, e.ls], e.back, e.tok, .str e.wd], .tuple [e.pd, .int e.dep, .tuple [.str "9a", .int e.i, e.ls, e.st], e.back, e.tok, .str e.wd], .tuple [e.pd, .int e.dep, .tuple [.str e.op, .int (-1), e.ls, e.st], e.back, e.tok, .str e.wd], .tuple [e.pd, .int e.dep, .tuple [.str e.op, .int e.i, .int 5, .tuple []], e.back, e.tok, .str e.wd], .tuple [e.pd, .int e.dep, .tuple [.str e.op, .int e.i, e.ls, .tuple [.tuple [.str "int", .int 1]]], e.back, e.tok, .str e.wd], .tuple [e.pd, .int (10 ^ (12 : Int).toNat + 1), e.fr, .tuple [.tuple [], .int 0], e.tok, .str e.wd], .int 7]
def spBadE (K : PySem.W.Frag) : Sp := fun vs H Q _ => ∃ (v : V) (e : EntP), vs = [v] ∧ Rp K H v e.d ∧ ∀ (H' : Hp) (p : Addr) (us : List V), Same H H' → H' p = some (.lst us) → Rps K H' us (badEnts e) → Q (.ref p) H'
theorem ok_lw_bad_entries (T : Txt K mg w a) : FnOk P w K mg base CX0 1 (He.ga K "_law_bad_entries") a.d_lw_bad_entries ["entry"] (spBadE K) := by
  refine T.F_lw_bad_entries.ok sc_lw_bad_entries (fun vs H Q E h => ?_) (fun cdv A outer s H vs Q E hr h => ?_)
  · obtain ⟨v, e, rfl, _⟩ := h
    rfl
  · obtain ⟨v, e, rfl, r, q⟩ := h
    refine ⟨_, PSs.nox (pss_cons (ps_asg (pv 0) (pg_tup (by rfl) (pgs_cons (pg_name (i := 1) sc_lw_bad_entries.nd rfl (Or.inl rfl)) (pgs_cons (pg_name (i := 2) sc_lw_bad_entries.nd rfl (Or.inl rfl)) (pgs_cons (pg_name (i := 3) sc_lw_bad_entries.nd rfl (Or.inl rfl)) (pgs_cons (pg_name (i := 4) sc_lw_bad_entries.nd rfl (Or.inl rfl)) (pgs_cons (pg_name (i := 5) sc_lw_bad_entries.nd rfl (Or.inl rfl)) (pgs_cons (pg_name (i := 6) sc_lw_bad_entries.nd rfl (Or.inl rfl)) pgs_nil))))))))
      (pss_cons (ps_set (i := 7) sc_lw_bad_entries.nd rfl (Or.inl rfl) (pe_lst (pa_cons (pe_tup (pa_cons (pv 1) (pa_cons (pv 2) (pa_cons (pv 3) (pa_cons (pv 4) (pa_cons (pv 5) pa_nil)))))) (pa_cons (pe_tup (pa_cons (pv 1) (pa_cons (pe_op op_sub pe_int pe_int) (pa_cons (pv 3) (pa_cons (pv 4) (pa_cons (pv 5) (pa_cons (pv 6) pa_nil))))))) (pa_cons (pe_tup (pa_cons (pe_tup (pa_cons pe_str pa_nil)) (pa_cons (pv 2) (pa_cons (pv 3) (pa_cons (pv 4) (pa_cons (pv 5) (pa_cons (pv 6) pa_nil))))))) pa_nil)))))
      (pss_cons (ps_set (i := 7) sc_lw_bad_entries.nd rfl (Or.inl rfl) (pe_op op_cat (pv 7) (pe_lst (pa_cons (pe_tup (pa_cons (pv 1) (pa_cons pe_int (pa_cons (pv 3) (pa_cons (pe_tup (pa_cons (pe_tup pa_nil) (pa_cons pe_int pa_nil))) (pa_cons (pv 5) (pa_cons (pv 6) pa_nil))))))) (pa_cons (pe_tup (pa_cons (pv 1) (pa_cons pe_int (pa_cons (pv 3) (pa_cons (pe_tup pa_nil) (pa_cons (pv 5) (pa_cons (pv 6) pa_nil))))))) (pa_cons (pe_tup (pa_cons (pv 1) (pa_cons pe_int (pa_cons (pv 3) (pa_cons (pe_tup (pa_cons pe_int (pa_cons (pe_tup pa_nil) pa_nil))) (pa_cons (pv 5) (pa_cons (pv 6) pa_nil))))))) pa_nil))))))
      (pss_cons (ps_set (i := 7) sc_lw_bad_entries.nd rfl (Or.inl rfl) (pe_op op_cat (pv 7) (pe_lst (pa_cons (pe_tup (pa_cons (pv 1) (pa_cons (pv 2) (pa_cons (pv 3) (pa_cons (pv 4) (pa_cons pe_non (pa_cons pe_str pa_nil))))))) (pa_cons (pe_tup (pa_cons (pv 1) (pa_cons (pv 2) (pa_cons (pv 3) (pa_cons (pv 4) (pa_cons (pe_tup (pa_cons pe_int (pa_cons pe_int pa_nil))) (pa_cons pe_str pa_nil))))))) (pa_cons (pe_tup (pa_cons (pv 1) (pa_cons (pv 2) (pa_cons (pv 3) (pa_cons (pv 4) (pa_cons (pe_tup (pa_cons pe_int pa_nil)) (pa_cons (pv 6) pa_nil))))))) pa_nil))))))
      (pss_cons (ps_set (i := 7) sc_lw_bad_entries.nd rfl (Or.inl rfl) (pe_op op_cat (pv 7) (pe_lst (pa_cons (pe_tup (pa_cons (pv 1) (pa_cons (pv 2) (pa_cons (pv 3) (pa_cons (pv 4) (pa_cons (pe_tup (pa_cons pe_int (pa_cons (pe_un un_neg pe_int) pa_nil))) (pa_cons (pv 6) pa_nil))))))) (pa_cons (pe_tup (pa_cons (pv 1) (pa_cons (pv 2) (pa_cons (pe_slice sl_tupA (pv 3) po_none (po_some pe_int)) (pa_cons (pv 4) (pa_cons (pv 5) (pa_cons (pv 6) pa_nil))))))) (pa_cons (pe_tup (pa_cons (pv 1) (pa_cons (pv 2) (pa_cons (pe_op op_catA (pe_tup (pa_cons pe_str pa_nil)) (pe_slice sl_tupA (pv 3) (po_some pe_int) po_none)) (pa_cons (pv 4) (pa_cons (pv 5) (pa_cons (pv 6) pa_nil))))))) pa_nil))))))
      (pss_cons (ps_set (i := 7) sc_lw_bad_entries.nd rfl (Or.inl rfl) (pe_op op_cat (pv 7) (pe_lst (pa_cons (pe_tup (pa_cons (pv 1) (pa_cons (pv 2) (pa_cons (pe_op op_catA (pe_tup (pa_cons (pe_ix ix_tup (pv 3) pe_int (fun _ _ => rfl)) (pa_cons (pe_un un_neg pe_int) pa_nil))) (pe_slice sl_tupA (pv 3) (po_some pe_int) po_none)) (pa_cons (pv 4) (pa_cons (pv 5) (pa_cons (pv 6) pa_nil))))))) (pa_cons (pe_tup (pa_cons (pv 1) (pa_cons (pv 2) (pa_cons (pe_op op_catA (pe_slice sl_tupA (pv 3) po_none (po_some pe_int)) (pe_tup (pa_cons pe_int (pa_cons (pe_tup pa_nil) pa_nil)))) (pa_cons (pv 4) (pa_cons (pv 5) (pa_cons (pv 6) pa_nil))))))) pa_nil)))))
      (pss_one (ps_ret (pe_op op_cat (pv 7) (pe_lst (pa_cons (pe_tup (pa_cons (pv 1) (pa_cons (pv 2) (pa_cons (pe_op op_catA (pe_slice sl_tupA (pv 3) po_none (po_some pe_int)) (pe_tup (pa_cons (pe_tup (pa_cons (pe_tup (pa_cons pe_str (pa_cons pe_int pa_nil))) pa_nil)) pa_nil))) (pa_cons (pv 4) (pa_cons (pv 5) (pa_cons (pv 6) pa_nil))))))) (pa_cons (pe_tup (pa_cons (pv 1) (pa_cons (pe_op op_add (pe_op op_pow pe_int pe_int) pe_int) (pa_cons (pv 3) (pa_cons (pe_tup (pa_cons (pe_tup pa_nil) (pa_cons pe_int pa_nil))) (pa_cons (pv 5) (pa_cons (pv 6) pa_nil))))))) (pa_cons pe_int pa_nil))))))))))))), ?_⟩
    rw [show L2.start N_lw_bad_entries [v] = [some v, none, none, none, none, none, none, none] from rfl]
    obtain ⟨pa, vs, rfl, hpa, rs⟩ := r.tup_inv
    obtain ⟨w1, r1, rfl, rpd, rs⟩ := rs.cons_inv
    obtain ⟨w2, r2, rfl, rdp, rs⟩ := rs.cons_inv
    obtain ⟨w3, r3, rfl, rfr, rs⟩ := rs.cons_inv
    obtain ⟨w4, r4, rfl, rbk, rs⟩ := rs.cons_inv
    obtain ⟨w5, r5, rfl, rtk, rs⟩ := rs.cons_inv
    obtain ⟨w6, r6, rfl, rwd, rs⟩ := rs.cons_inv
    obtain rfl := rs.nil_inv
    obtain rfl := rdp.int_inv
    obtain rfl := rwd.str_inv
    obtain ⟨fa, fs, rfl, hfr, rs⟩ := rfr.tup_inv
    obtain ⟨f1, r1, rfl, rop, rs⟩ := rs.cons_inv
    obtain ⟨f2, r2, rfl, ri, rs⟩ := rs.cons_inv
    obtain ⟨f3, r3, rfl, rls, rs⟩ := rs.cons_inv
    obtain ⟨f4, r4, rfl, rst, rs⟩ := rs.cons_inv
    obtain rfl := rs.nil_inv
    obtain rfl := rop.str_inv
    obtain rfl := ri.int_inv
    have sA : Same H H := Same.refl H
    refine ⟨_, rfl, pa, _, rfl, hpa, rfl, _, _, rfl, _, _, rfl, _, _, rfl, _, _, rfl, _, _, rfl, _, _, rfl, rfl, ?_⟩
    refine ⟨_, rfl, _, rfl, _, rfl, _, rfl, _, rfl, Cm.small (by show 5 ≤ 100000; decide), fun t1 nt1 => ?_⟩
    have st1 := Cm.same_new (o := .tup [w1, .int e.dep, .ref fa, w4, w5]) nt1
    have rt1 : Rp K _ (.ref t1) (.tuple [e.pd, .int e.dep, e.fr, e.back, e.tok]) := Rp.made (K := K) nt1 ((.cons rpd (.cons (.int _) (.cons rfr (.cons rbk (.cons rtk .nil))))) : Rps K H [w1, .int e.dep, .ref fa, w4, w5] _)
    have ht1 := Cm.sqt_new (K := K) (H := H) (p := t1) (xs := [w1, .int e.dep, .ref fa, w4, w5])
    generalize L2.upd H t1 (.tup [w1, .int e.dep, .ref fa, w4, w5]) = H1 at *
    have rpd := rpd.keep (Same.tups st1)
    have rls := rls.keep (Same.tups st1)
    have rst := rst.keep (Same.tups st1)
    have rfr := rfr.keep (Same.tups st1)
    have rbk := rbk.keep (Same.tups st1)
    have rtk := rtk.keep (Same.tups st1)
    have hfr := Cm.sameT st1 hfr
    have sA := sA.trans st1
    refine ⟨_, rfl, _, _, rfl, rfl, _, rfl, _, rfl, _, rfl, _, rfl, Cm.small (by show 6 ≤ 100000; decide), fun t2 nt2 => ?_⟩
    have st2 := Cm.same_new (o := .tup [w1, .int (0 - 1), .ref fa, w4, w5, .str e.wd]) nt2
    have rt2 : Rp K _ (.ref t2) (.tuple [e.pd, .int (0 - 1), e.fr, e.back, e.tok, .str e.wd]) := Rp.made (K := K) nt2 ((.cons rpd (.cons (.int _) (.cons rfr (.cons rbk (.cons rtk (.cons (.str _) .nil)))))) : Rps K H1 [w1, .int (0 - 1), .ref fa, w4, w5, .str e.wd] _)
    have ht2 := Cm.sqt_new (K := K) (H := H1) (p := t2) (xs := [w1, .int (0 - 1), .ref fa, w4, w5, .str e.wd])
    generalize L2.upd H1 t2 (.tup [w1, .int (0 - 1), .ref fa, w4, w5, .str e.wd]) = H2 at *
    have rpd := rpd.keep (Same.tups st2)
    have rls := rls.keep (Same.tups st2)
    have rst := rst.keep (Same.tups st2)
    have rfr := rfr.keep (Same.tups st2)
    have rbk := rbk.keep (Same.tups st2)
    have rtk := rtk.keep (Same.tups st2)
    have rt1 := rt1.keep (Same.tups st2)
    have hfr := Cm.sameT st2 hfr
    have ht1 := Cm.sameT st2 ht1
    have sA := sA.trans st2
    refine ⟨Cm.small (by show 1 ≤ 100000; decide), fun t3 nt3 => ?_⟩
    have st3 := Cm.same_new (o := .tup [.str "a"]) nt3
    have rt3 : Rp K _ (.ref t3) (.tuple [.str "a"]) := Rp.made (K := K) nt3 ((.cons (.str _) .nil) : Rps K H2 [.str "a"] _)
    have ht3 := Cm.sqt_new (K := K) (H := H2) (p := t3) (xs := [.str "a"])
    generalize L2.upd H2 t3 (.tup [.str "a"]) = H3 at *
    have rpd := rpd.keep (Same.tups st3)
    have rls := rls.keep (Same.tups st3)
    have rst := rst.keep (Same.tups st3)
    have rfr := rfr.keep (Same.tups st3)
    have rbk := rbk.keep (Same.tups st3)
    have rtk := rtk.keep (Same.tups st3)
    have rt1 := rt1.keep (Same.tups st3)
    have rt2 := rt2.keep (Same.tups st3)
    have hfr := Cm.sameT st3 hfr
    have ht1 := Cm.sameT st3 ht1
    have ht2 := Cm.sameT st3 ht2
    have sA := sA.trans st3
    refine ⟨_, rfl, _, rfl, _, rfl, _, rfl, _, rfl, Cm.small (by show 6 ≤ 100000; decide), fun t4 nt4 => ?_⟩
    have st4 := Cm.same_new (o := .tup [.ref t3, .int e.dep, .ref fa, w4, w5, .str e.wd]) nt4
    have rt4 : Rp K _ (.ref t4) (.tuple [.tuple [.str "a"], .int e.dep, e.fr, e.back, e.tok, .str e.wd]) := Rp.made (K := K) nt4 ((.cons rt3 (.cons (.int _) (.cons rfr (.cons rbk (.cons rtk (.cons (.str _) .nil)))))) : Rps K H3 [.ref t3, .int e.dep, .ref fa, w4, w5, .str e.wd] _)
    have ht4 := Cm.sqt_new (K := K) (H := H3) (p := t4) (xs := [.ref t3, .int e.dep, .ref fa, w4, w5, .str e.wd])
    generalize L2.upd H3 t4 (.tup [.ref t3, .int e.dep, .ref fa, w4, w5, .str e.wd]) = H4 at *
    have rpd := rpd.keep (Same.tups st4)
    have rls := rls.keep (Same.tups st4)
    have rst := rst.keep (Same.tups st4)
    have rfr := rfr.keep (Same.tups st4)
    have rbk := rbk.keep (Same.tups st4)
    have rtk := rtk.keep (Same.tups st4)
    have rt1 := rt1.keep (Same.tups st4)
    have rt2 := rt2.keep (Same.tups st4)
    have rt3 := rt3.keep (Same.tups st4)
    have hfr := Cm.sameT st4 hfr
    have ht1 := Cm.sameT st4 ht1
    have ht2 := Cm.sameT st4 ht2
    have ht3 := Cm.sameT st4 ht3
    have sA := sA.trans st4
    refine ⟨Cm.small (by show 3 ≤ 100000; decide), fun l5 nl5 => ?_⟩
    have sl5 := Cm.same_new (o := .lst [.ref t1, .ref t2, .ref t4]) nl5
    have hl5 : (L2.upd H4 l5 (.lst [.ref t1, .ref t2, .ref t4])) l5 = some (.lst [.ref t1, .ref t2, .ref t4]) := upd_same
    generalize L2.upd H4 l5 (.lst [.ref t1, .ref t2, .ref t4]) = H5 at *
    have rpd := rpd.keep (Same.tups sl5)
    have rls := rls.keep (Same.tups sl5)
    have rst := rst.keep (Same.tups sl5)
    have rfr := rfr.keep (Same.tups sl5)
    have rbk := rbk.keep (Same.tups sl5)
    have rtk := rtk.keep (Same.tups sl5)
    have rt1 := rt1.keep (Same.tups sl5)
    have rt2 := rt2.keep (Same.tups sl5)
    have rt3 := rt3.keep (Same.tups sl5)
    have rt4 := rt4.keep (Same.tups sl5)
    have hfr := Cm.sameT sl5 hfr
    have ht1 := Cm.sameT sl5 ht1
    have ht2 := Cm.sameT sl5 ht2
    have ht3 := Cm.sameT sl5 ht3
    have ht4 := Cm.sameT sl5 ht4
    have sA := sA.trans sl5
    simp only [gName, List.set_cons_succ, List.set_cons_zero]
    refine ⟨_, rfl, _, rfl, _, rfl, Nat.zero_le _, fun t6 nt6 => ?_⟩
    have st6 := Cm.same_new (o := .tup []) nt6
    have rt6 : Rp K _ (.ref t6) (.tuple []) := Rp.made (K := K) nt6 (.nil : Rps K H5 [] _)
    have ht6 := Cm.sqt_new (K := K) (H := H5) (p := t6) (xs := [])
    generalize L2.upd H5 t6 (.tup []) = H6 at *
    have rpd := rpd.keep (Same.tups st6)
    have rls := rls.keep (Same.tups st6)
    have rst := rst.keep (Same.tups st6)
    have rfr := rfr.keep (Same.tups st6)
    have rbk := rbk.keep (Same.tups st6)
    have rtk := rtk.keep (Same.tups st6)
    have rt1 := rt1.keep (Same.tups st6)
    have rt2 := rt2.keep (Same.tups st6)
    have rt3 := rt3.keep (Same.tups st6)
    have rt4 := rt4.keep (Same.tups st6)
    have hfr := Cm.sameT st6 hfr
    have ht1 := Cm.sameT st6 ht1
    have ht2 := Cm.sameT st6 ht2
    have ht3 := Cm.sameT st6 ht3
    have ht4 := Cm.sameT st6 ht4
    have hl5 := st6 _ _ hl5
    have sA := sA.trans st6
    refine ⟨Cm.small (by show 2 ≤ 100000; decide), fun t7 nt7 => ?_⟩
    have st7 := Cm.same_new (o := .tup [.ref t6, .int 0]) nt7
    have rt7 : Rp K _ (.ref t7) (.tuple [.tuple [], .int 0]) := Rp.made (K := K) nt7 ((.cons rt6 (.cons (.int _) .nil)) : Rps K H6 [.ref t6, .int 0] _)
    have ht7 := Cm.sqt_new (K := K) (H := H6) (p := t7) (xs := [.ref t6, .int 0])
    generalize L2.upd H6 t7 (.tup [.ref t6, .int 0]) = H7 at *
    have rpd := rpd.keep (Same.tups st7)
    have rls := rls.keep (Same.tups st7)
    have rst := rst.keep (Same.tups st7)
    have rfr := rfr.keep (Same.tups st7)
    have rbk := rbk.keep (Same.tups st7)
    have rtk := rtk.keep (Same.tups st7)
    have rt1 := rt1.keep (Same.tups st7)
    have rt2 := rt2.keep (Same.tups st7)
    have rt3 := rt3.keep (Same.tups st7)
    have rt4 := rt4.keep (Same.tups st7)
    have rt6 := rt6.keep (Same.tups st7)
    have hfr := Cm.sameT st7 hfr
    have ht1 := Cm.sameT st7 ht1
    have ht2 := Cm.sameT st7 ht2
    have ht3 := Cm.sameT st7 ht3
    have ht4 := Cm.sameT st7 ht4
    have ht6 := Cm.sameT st7 ht6
    have hl5 := st7 _ _ hl5
    have sA := sA.trans st7
    refine ⟨_, rfl, _, rfl, Cm.small (by show 6 ≤ 100000; decide), fun t8 nt8 => ?_⟩
    have st8 := Cm.same_new (o := .tup [w1, .int 0, .ref fa, .ref t7, w5, .str e.wd]) nt8
    have rt8 : Rp K _ (.ref t8) (.tuple [e.pd, .int 0, e.fr, .tuple [.tuple [], .int 0], e.tok, .str e.wd]) := Rp.made (K := K) nt8 ((.cons rpd (.cons (.int _) (.cons rfr (.cons rt7 (.cons rtk (.cons (.str _) .nil)))))) : Rps K H7 [w1, .int 0, .ref fa, .ref t7, w5, .str e.wd] _)
    have ht8 := Cm.sqt_new (K := K) (H := H7) (p := t8) (xs := [w1, .int 0, .ref fa, .ref t7, w5, .str e.wd])
    generalize L2.upd H7 t8 (.tup [w1, .int 0, .ref fa, .ref t7, w5, .str e.wd]) = H8 at *
    have rpd := rpd.keep (Same.tups st8)
    have rls := rls.keep (Same.tups st8)
    have rst := rst.keep (Same.tups st8)
    have rfr := rfr.keep (Same.tups st8)
    have rbk := rbk.keep (Same.tups st8)
    have rtk := rtk.keep (Same.tups st8)
    have rt1 := rt1.keep (Same.tups st8)
    have rt2 := rt2.keep (Same.tups st8)
    have rt3 := rt3.keep (Same.tups st8)
    have rt4 := rt4.keep (Same.tups st8)
    have rt6 := rt6.keep (Same.tups st8)
    have rt7 := rt7.keep (Same.tups st8)
    have hfr := Cm.sameT st8 hfr
    have ht1 := Cm.sameT st8 ht1
    have ht2 := Cm.sameT st8 ht2
    have ht3 := Cm.sameT st8 ht3
    have ht4 := Cm.sameT st8 ht4
    have ht6 := Cm.sameT st8 ht6
    have ht7 := Cm.sameT st8 ht7
    have hl5 := st8 _ _ hl5
    have sA := sA.trans st8
    refine ⟨_, rfl, _, rfl, Nat.zero_le _, fun t9 nt9 => ?_⟩
    have st9 := Cm.same_new (o := .tup []) nt9
    have rt9 : Rp K _ (.ref t9) (.tuple []) := Rp.made (K := K) nt9 (.nil : Rps K H8 [] _)
    have ht9 := Cm.sqt_new (K := K) (H := H8) (p := t9) (xs := [])
    generalize L2.upd H8 t9 (.tup []) = H9 at *
    have rpd := rpd.keep (Same.tups st9)
    have rls := rls.keep (Same.tups st9)
    have rst := rst.keep (Same.tups st9)
    have rfr := rfr.keep (Same.tups st9)
    have rbk := rbk.keep (Same.tups st9)
    have rtk := rtk.keep (Same.tups st9)
    have rt1 := rt1.keep (Same.tups st9)
    have rt2 := rt2.keep (Same.tups st9)
    have rt3 := rt3.keep (Same.tups st9)
    have rt4 := rt4.keep (Same.tups st9)
    have rt6 := rt6.keep (Same.tups st9)
    have rt7 := rt7.keep (Same.tups st9)
    have rt8 := rt8.keep (Same.tups st9)
    have hfr := Cm.sameT st9 hfr
    have ht1 := Cm.sameT st9 ht1
    have ht2 := Cm.sameT st9 ht2
    have ht3 := Cm.sameT st9 ht3
    have ht4 := Cm.sameT st9 ht4
    have ht6 := Cm.sameT st9 ht6
    have ht7 := Cm.sameT st9 ht7
    have ht8 := Cm.sameT st9 ht8
    have hl5 := st9 _ _ hl5
    have sA := sA.trans st9
    refine ⟨_, rfl, _, rfl, Cm.small (by show 6 ≤ 100000; decide), fun t10 nt10 => ?_⟩
    have st10 := Cm.same_new (o := .tup [w1, .int 1, .ref fa, .ref t9, w5, .str e.wd]) nt10
    have rt10 : Rp K _ (.ref t10) (.tuple [e.pd, .int 1, e.fr, .tuple [], e.tok, .str e.wd]) := Rp.made (K := K) nt10 ((.cons rpd (.cons (.int _) (.cons rfr (.cons rt9 (.cons rtk (.cons (.str _) .nil)))))) : Rps K H9 [w1, .int 1, .ref fa, .ref t9, w5, .str e.wd] _)
    have ht10 := Cm.sqt_new (K := K) (H := H9) (p := t10) (xs := [w1, .int 1, .ref fa, .ref t9, w5, .str e.wd])
    generalize L2.upd H9 t10 (.tup [w1, .int 1, .ref fa, .ref t9, w5, .str e.wd]) = H10 at *
    have rpd := rpd.keep (Same.tups st10)
    have rls := rls.keep (Same.tups st10)
    have rst := rst.keep (Same.tups st10)
    have rfr := rfr.keep (Same.tups st10)
    have rbk := rbk.keep (Same.tups st10)
    have rtk := rtk.keep (Same.tups st10)
    have rt1 := rt1.keep (Same.tups st10)
    have rt2 := rt2.keep (Same.tups st10)
    have rt3 := rt3.keep (Same.tups st10)
    have rt4 := rt4.keep (Same.tups st10)
    have rt6 := rt6.keep (Same.tups st10)
    have rt7 := rt7.keep (Same.tups st10)
    have rt8 := rt8.keep (Same.tups st10)
    have rt9 := rt9.keep (Same.tups st10)
    have hfr := Cm.sameT st10 hfr
    have ht1 := Cm.sameT st10 ht1
    have ht2 := Cm.sameT st10 ht2
    have ht3 := Cm.sameT st10 ht3
    have ht4 := Cm.sameT st10 ht4
    have ht6 := Cm.sameT st10 ht6
    have ht7 := Cm.sameT st10 ht7
    have ht8 := Cm.sameT st10 ht8
    have ht9 := Cm.sameT st10 ht9
    have hl5 := st10 _ _ hl5
    have sA := sA.trans st10
    refine ⟨_, rfl, _, rfl, Nat.zero_le _, fun t11 nt11 => ?_⟩
    have st11 := Cm.same_new (o := .tup []) nt11
    have rt11 : Rp K _ (.ref t11) (.tuple []) := Rp.made (K := K) nt11 (.nil : Rps K H10 [] _)
    have ht11 := Cm.sqt_new (K := K) (H := H10) (p := t11) (xs := [])
    generalize L2.upd H10 t11 (.tup []) = H11 at *
    have rpd := rpd.keep (Same.tups st11)
    have rls := rls.keep (Same.tups st11)
    have rst := rst.keep (Same.tups st11)
    have rfr := rfr.keep (Same.tups st11)
    have rbk := rbk.keep (Same.tups st11)
    have rtk := rtk.keep (Same.tups st11)
    have rt1 := rt1.keep (Same.tups st11)
    have rt2 := rt2.keep (Same.tups st11)
    have rt3 := rt3.keep (Same.tups st11)
    have rt4 := rt4.keep (Same.tups st11)
    have rt6 := rt6.keep (Same.tups st11)
    have rt7 := rt7.keep (Same.tups st11)
    have rt8 := rt8.keep (Same.tups st11)
    have rt9 := rt9.keep (Same.tups st11)
    have rt10 := rt10.keep (Same.tups st11)
    have hfr := Cm.sameT st11 hfr
    have ht1 := Cm.sameT st11 ht1
    have ht2 := Cm.sameT st11 ht2
    have ht3 := Cm.sameT st11 ht3
    have ht4 := Cm.sameT st11 ht4
    have ht6 := Cm.sameT st11 ht6
    have ht7 := Cm.sameT st11 ht7
    have ht8 := Cm.sameT st11 ht8
    have ht9 := Cm.sameT st11 ht9
    have ht10 := Cm.sameT st11 ht10
    have hl5 := st11 _ _ hl5
    have sA := sA.trans st11
    refine ⟨Cm.small (by show 2 ≤ 100000; decide), fun t12 nt12 => ?_⟩
    have st12 := Cm.same_new (o := .tup [.int 0, .ref t11]) nt12
    have rt12 : Rp K _ (.ref t12) (.tuple [.int 0, .tuple []]) := Rp.made (K := K) nt12 ((.cons (.int _) (.cons rt11 .nil)) : Rps K H11 [.int 0, .ref t11] _)
    have ht12 := Cm.sqt_new (K := K) (H := H11) (p := t12) (xs := [.int 0, .ref t11])
    generalize L2.upd H11 t12 (.tup [.int 0, .ref t11]) = H12 at *
    have rpd := rpd.keep (Same.tups st12)
    have rls := rls.keep (Same.tups st12)
    have rst := rst.keep (Same.tups st12)
    have rfr := rfr.keep (Same.tups st12)
    have rbk := rbk.keep (Same.tups st12)
    have rtk := rtk.keep (Same.tups st12)
    have rt1 := rt1.keep (Same.tups st12)
    have rt2 := rt2.keep (Same.tups st12)
    have rt3 := rt3.keep (Same.tups st12)
    have rt4 := rt4.keep (Same.tups st12)
    have rt6 := rt6.keep (Same.tups st12)
    have rt7 := rt7.keep (Same.tups st12)
    have rt8 := rt8.keep (Same.tups st12)
    have rt9 := rt9.keep (Same.tups st12)
    have rt10 := rt10.keep (Same.tups st12)
    have rt11 := rt11.keep (Same.tups st12)
    have hfr := Cm.sameT st12 hfr
    have ht1 := Cm.sameT st12 ht1
    have ht2 := Cm.sameT st12 ht2
    have ht3 := Cm.sameT st12 ht3
    have ht4 := Cm.sameT st12 ht4
    have ht6 := Cm.sameT st12 ht6
    have ht7 := Cm.sameT st12 ht7
    have ht8 := Cm.sameT st12 ht8
    have ht9 := Cm.sameT st12 ht9
    have ht10 := Cm.sameT st12 ht10
    have ht11 := Cm.sameT st12 ht11
    have hl5 := st12 _ _ hl5
    have sA := sA.trans st12
    refine ⟨_, rfl, _, rfl, Cm.small (by show 6 ≤ 100000; decide), fun t13 nt13 => ?_⟩
    have st13 := Cm.same_new (o := .tup [w1, .int 1, .ref fa, .ref t12, w5, .str e.wd]) nt13
    have rt13 : Rp K _ (.ref t13) (.tuple [e.pd, .int 1, e.fr, .tuple [.int 0, .tuple []], e.tok, .str e.wd]) := Rp.made (K := K) nt13 ((.cons rpd (.cons (.int _) (.cons rfr (.cons rt12 (.cons rtk (.cons (.str _) .nil)))))) : Rps K H12 [w1, .int 1, .ref fa, .ref t12, w5, .str e.wd] _)
    have ht13 := Cm.sqt_new (K := K) (H := H12) (p := t13) (xs := [w1, .int 1, .ref fa, .ref t12, w5, .str e.wd])
    generalize L2.upd H12 t13 (.tup [w1, .int 1, .ref fa, .ref t12, w5, .str e.wd]) = H13 at *
    have rpd := rpd.keep (Same.tups st13)
    have rls := rls.keep (Same.tups st13)
    have rst := rst.keep (Same.tups st13)
    have rfr := rfr.keep (Same.tups st13)
    have rbk := rbk.keep (Same.tups st13)
    have rtk := rtk.keep (Same.tups st13)
    have rt1 := rt1.keep (Same.tups st13)
    have rt2 := rt2.keep (Same.tups st13)
    have rt3 := rt3.keep (Same.tups st13)
    have rt4 := rt4.keep (Same.tups st13)
    have rt6 := rt6.keep (Same.tups st13)
    have rt7 := rt7.keep (Same.tups st13)
    have rt8 := rt8.keep (Same.tups st13)
    have rt9 := rt9.keep (Same.tups st13)
    have rt10 := rt10.keep (Same.tups st13)
    have rt11 := rt11.keep (Same.tups st13)
    have rt12 := rt12.keep (Same.tups st13)
    have hfr := Cm.sameT st13 hfr
    have ht1 := Cm.sameT st13 ht1
    have ht2 := Cm.sameT st13 ht2
    have ht3 := Cm.sameT st13 ht3
    have ht4 := Cm.sameT st13 ht4
    have ht6 := Cm.sameT st13 ht6
    have ht7 := Cm.sameT st13 ht7
    have ht8 := Cm.sameT st13 ht8
    have ht9 := Cm.sameT st13 ht9
    have ht10 := Cm.sameT st13 ht10
    have ht11 := Cm.sameT st13 ht11
    have ht12 := Cm.sameT st13 ht12
    have hl5 := st13 _ _ hl5
    have sA := sA.trans st13
    refine ⟨Cm.small (by show 3 ≤ 100000; decide), fun l14 nl14 => ?_⟩
    have sl14 := Cm.same_new (o := .lst [.ref t8, .ref t10, .ref t13]) nl14
    have hl14 : (L2.upd H13 l14 (.lst [.ref t8, .ref t10, .ref t13])) l14 = some (.lst [.ref t8, .ref t10, .ref t13]) := upd_same
    generalize L2.upd H13 l14 (.lst [.ref t8, .ref t10, .ref t13]) = H14 at *
    have rpd := rpd.keep (Same.tups sl14)
    have rls := rls.keep (Same.tups sl14)
    have rst := rst.keep (Same.tups sl14)
    have rfr := rfr.keep (Same.tups sl14)
    have rbk := rbk.keep (Same.tups sl14)
    have rtk := rtk.keep (Same.tups sl14)
    have rt1 := rt1.keep (Same.tups sl14)
    have rt2 := rt2.keep (Same.tups sl14)
    have rt3 := rt3.keep (Same.tups sl14)
    have rt4 := rt4.keep (Same.tups sl14)
    have rt6 := rt6.keep (Same.tups sl14)
    have rt7 := rt7.keep (Same.tups sl14)
    have rt8 := rt8.keep (Same.tups sl14)
    have rt9 := rt9.keep (Same.tups sl14)
    have rt10 := rt10.keep (Same.tups sl14)
    have rt11 := rt11.keep (Same.tups sl14)
    have rt12 := rt12.keep (Same.tups sl14)
    have rt13 := rt13.keep (Same.tups sl14)
    have hfr := Cm.sameT sl14 hfr
    have ht1 := Cm.sameT sl14 ht1
    have ht2 := Cm.sameT sl14 ht2
    have ht3 := Cm.sameT sl14 ht3
    have ht4 := Cm.sameT sl14 ht4
    have ht6 := Cm.sameT sl14 ht6
    have ht7 := Cm.sameT sl14 ht7
    have ht8 := Cm.sameT sl14 ht8
    have ht9 := Cm.sameT sl14 ht9
    have ht10 := Cm.sameT sl14 ht10
    have ht11 := Cm.sameT sl14 ht11
    have ht12 := Cm.sameT sl14 ht12
    have ht13 := Cm.sameT sl14 ht13
    have hl5 := sl14 _ _ hl5
    have sA := sA.trans sl14
    refine ⟨l5, l14, _, _, rfl, rfl, hl5, hl14, Cm.small (by show 6 ≤ 100000; decide), fun l15 nl15 => ?_⟩
    have sl15 := Cm.same_new (o := .lst ([.ref t1, .ref t2, .ref t4] ++ [.ref t8, .ref t10, .ref t13])) nl15
    have hl15 : (L2.upd H14 l15 (.lst ([.ref t1, .ref t2, .ref t4] ++ [.ref t8, .ref t10, .ref t13]))) l15 = some (.lst [.ref t1, .ref t2, .ref t4, .ref t8, .ref t10, .ref t13]) := upd_same
    generalize L2.upd H14 l15 (.lst ([.ref t1, .ref t2, .ref t4] ++ [.ref t8, .ref t10, .ref t13])) = H15 at *
    have rpd := rpd.keep (Same.tups sl15)
    have rls := rls.keep (Same.tups sl15)
    have rst := rst.keep (Same.tups sl15)
    have rfr := rfr.keep (Same.tups sl15)
    have rbk := rbk.keep (Same.tups sl15)
    have rtk := rtk.keep (Same.tups sl15)
    have rt1 := rt1.keep (Same.tups sl15)
    have rt2 := rt2.keep (Same.tups sl15)
    have rt3 := rt3.keep (Same.tups sl15)
    have rt4 := rt4.keep (Same.tups sl15)
    have rt6 := rt6.keep (Same.tups sl15)
    have rt7 := rt7.keep (Same.tups sl15)
    have rt8 := rt8.keep (Same.tups sl15)
    have rt9 := rt9.keep (Same.tups sl15)
    have rt10 := rt10.keep (Same.tups sl15)
    have rt11 := rt11.keep (Same.tups sl15)
    have rt12 := rt12.keep (Same.tups sl15)
    have rt13 := rt13.keep (Same.tups sl15)
    have hfr := Cm.sameT sl15 hfr
    have ht1 := Cm.sameT sl15 ht1
    have ht2 := Cm.sameT sl15 ht2
    have ht3 := Cm.sameT sl15 ht3
    have ht4 := Cm.sameT sl15 ht4
    have ht6 := Cm.sameT sl15 ht6
    have ht7 := Cm.sameT sl15 ht7
    have ht8 := Cm.sameT sl15 ht8
    have ht9 := Cm.sameT sl15 ht9
    have ht10 := Cm.sameT sl15 ht10
    have ht11 := Cm.sameT sl15 ht11
    have ht12 := Cm.sameT sl15 ht12
    have ht13 := Cm.sameT sl15 ht13
    have hl5 := sl15 _ _ hl5
    have hl14 := sl15 _ _ hl14
    have sA := sA.trans sl15
    simp only [gName, List.set_cons_succ, List.set_cons_zero]
    refine ⟨_, rfl, _, rfl, _, rfl, _, rfl, _, rfl, Cm.small (by show 6 ≤ 100000; decide), fun t16 nt16 => ?_⟩
    have st16 := Cm.same_new (o := .tup [w1, .int e.dep, .ref fa, w4, .non, .str "nil"]) nt16
    have rt16 : Rp K _ (.ref t16) (.tuple [e.pd, .int e.dep, e.fr, e.back, .none, .str "nil"]) := Rp.made (K := K) nt16 ((.cons rpd (.cons (.int _) (.cons rfr (.cons rbk (.cons .non (.cons (.str _) .nil)))))) : Rps K H15 [w1, .int e.dep, .ref fa, w4, .non, .str "nil"] _)
    have ht16 := Cm.sqt_new (K := K) (H := H15) (p := t16) (xs := [w1, .int e.dep, .ref fa, w4, .non, .str "nil"])
    generalize L2.upd H15 t16 (.tup [w1, .int e.dep, .ref fa, w4, .non, .str "nil"]) = H16 at *
    have rpd := rpd.keep (Same.tups st16)
    have rls := rls.keep (Same.tups st16)
    have rst := rst.keep (Same.tups st16)
    have rfr := rfr.keep (Same.tups st16)
    have rbk := rbk.keep (Same.tups st16)
    have rtk := rtk.keep (Same.tups st16)
    have rt1 := rt1.keep (Same.tups st16)
    have rt2 := rt2.keep (Same.tups st16)
    have rt3 := rt3.keep (Same.tups st16)
    have rt4 := rt4.keep (Same.tups st16)
    have rt6 := rt6.keep (Same.tups st16)
    have rt7 := rt7.keep (Same.tups st16)
    have rt8 := rt8.keep (Same.tups st16)
    have rt9 := rt9.keep (Same.tups st16)
    have rt10 := rt10.keep (Same.tups st16)
    have rt11 := rt11.keep (Same.tups st16)
    have rt12 := rt12.keep (Same.tups st16)
    have rt13 := rt13.keep (Same.tups st16)
    have hfr := Cm.sameT st16 hfr
    have ht1 := Cm.sameT st16 ht1
    have ht2 := Cm.sameT st16 ht2
    have ht3 := Cm.sameT st16 ht3
    have ht4 := Cm.sameT st16 ht4
    have ht6 := Cm.sameT st16 ht6
    have ht7 := Cm.sameT st16 ht7
    have ht8 := Cm.sameT st16 ht8
    have ht9 := Cm.sameT st16 ht9
    have ht10 := Cm.sameT st16 ht10
    have ht11 := Cm.sameT st16 ht11
    have ht12 := Cm.sameT st16 ht12
    have ht13 := Cm.sameT st16 ht13
    have hl5 := st16 _ _ hl5
    have hl14 := st16 _ _ hl14
    have hl15 := st16 _ _ hl15
    have sA := sA.trans st16
    refine ⟨_, rfl, _, rfl, _, rfl, _, rfl, Cm.small (by show 2 ≤ 100000; decide), fun t17 nt17 => ?_⟩
    have st17 := Cm.same_new (o := .tup [.int 1, .int 0]) nt17
    have rt17 : Rp K _ (.ref t17) (.tuple [.int 1, .int 0]) := Rp.made (K := K) nt17 ((.cons (.int _) (.cons (.int _) .nil)) : Rps K H16 [.int 1, .int 0] _)
    have ht17 := Cm.sqt_new (K := K) (H := H16) (p := t17) (xs := [.int 1, .int 0])
    generalize L2.upd H16 t17 (.tup [.int 1, .int 0]) = H17 at *
    have rpd := rpd.keep (Same.tups st17)
    have rls := rls.keep (Same.tups st17)
    have rst := rst.keep (Same.tups st17)
    have rfr := rfr.keep (Same.tups st17)
    have rbk := rbk.keep (Same.tups st17)
    have rtk := rtk.keep (Same.tups st17)
    have rt1 := rt1.keep (Same.tups st17)
    have rt2 := rt2.keep (Same.tups st17)
    have rt3 := rt3.keep (Same.tups st17)
    have rt4 := rt4.keep (Same.tups st17)
    have rt6 := rt6.keep (Same.tups st17)
    have rt7 := rt7.keep (Same.tups st17)
    have rt8 := rt8.keep (Same.tups st17)
    have rt9 := rt9.keep (Same.tups st17)
    have rt10 := rt10.keep (Same.tups st17)
    have rt11 := rt11.keep (Same.tups st17)
    have rt12 := rt12.keep (Same.tups st17)
    have rt13 := rt13.keep (Same.tups st17)
    have rt16 := rt16.keep (Same.tups st17)
    have hfr := Cm.sameT st17 hfr
    have ht1 := Cm.sameT st17 ht1
    have ht2 := Cm.sameT st17 ht2
    have ht3 := Cm.sameT st17 ht3
    have ht4 := Cm.sameT st17 ht4
    have ht6 := Cm.sameT st17 ht6
    have ht7 := Cm.sameT st17 ht7
    have ht8 := Cm.sameT st17 ht8
    have ht9 := Cm.sameT st17 ht9
    have ht10 := Cm.sameT st17 ht10
    have ht11 := Cm.sameT st17 ht11
    have ht12 := Cm.sameT st17 ht12
    have ht13 := Cm.sameT st17 ht13
    have ht16 := Cm.sameT st17 ht16
    have hl5 := st17 _ _ hl5
    have hl14 := st17 _ _ hl14
    have hl15 := st17 _ _ hl15
    have sA := sA.trans st17
    refine ⟨Cm.small (by show 6 ≤ 100000; decide), fun t18 nt18 => ?_⟩
    have st18 := Cm.same_new (o := .tup [w1, .int e.dep, .ref fa, w4, .ref t17, .str "zero"]) nt18
    have rt18 : Rp K _ (.ref t18) (.tuple [e.pd, .int e.dep, e.fr, e.back, .tuple [.int 1, .int 0], .str "zero"]) := Rp.made (K := K) nt18 ((.cons rpd (.cons (.int _) (.cons rfr (.cons rbk (.cons rt17 (.cons (.str _) .nil)))))) : Rps K H17 [w1, .int e.dep, .ref fa, w4, .ref t17, .str "zero"] _)
    have ht18 := Cm.sqt_new (K := K) (H := H17) (p := t18) (xs := [w1, .int e.dep, .ref fa, w4, .ref t17, .str "zero"])
    generalize L2.upd H17 t18 (.tup [w1, .int e.dep, .ref fa, w4, .ref t17, .str "zero"]) = H18 at *
    have rpd := rpd.keep (Same.tups st18)
    have rls := rls.keep (Same.tups st18)
    have rst := rst.keep (Same.tups st18)
    have rfr := rfr.keep (Same.tups st18)
    have rbk := rbk.keep (Same.tups st18)
    have rtk := rtk.keep (Same.tups st18)
    have rt1 := rt1.keep (Same.tups st18)
    have rt2 := rt2.keep (Same.tups st18)
    have rt3 := rt3.keep (Same.tups st18)
    have rt4 := rt4.keep (Same.tups st18)
    have rt6 := rt6.keep (Same.tups st18)
    have rt7 := rt7.keep (Same.tups st18)
    have rt8 := rt8.keep (Same.tups st18)
    have rt9 := rt9.keep (Same.tups st18)
    have rt10 := rt10.keep (Same.tups st18)
    have rt11 := rt11.keep (Same.tups st18)
    have rt12 := rt12.keep (Same.tups st18)
    have rt13 := rt13.keep (Same.tups st18)
    have rt16 := rt16.keep (Same.tups st18)
    have rt17 := rt17.keep (Same.tups st18)
    have hfr := Cm.sameT st18 hfr
    have ht1 := Cm.sameT st18 ht1
    have ht2 := Cm.sameT st18 ht2
    have ht3 := Cm.sameT st18 ht3
    have ht4 := Cm.sameT st18 ht4
    have ht6 := Cm.sameT st18 ht6
    have ht7 := Cm.sameT st18 ht7
    have ht8 := Cm.sameT st18 ht8
    have ht9 := Cm.sameT st18 ht9
    have ht10 := Cm.sameT st18 ht10
    have ht11 := Cm.sameT st18 ht11
    have ht12 := Cm.sameT st18 ht12
    have ht13 := Cm.sameT st18 ht13
    have ht16 := Cm.sameT st18 ht16
    have ht17 := Cm.sameT st18 ht17
    have hl5 := st18 _ _ hl5
    have hl14 := st18 _ _ hl14
    have hl15 := st18 _ _ hl15
    have sA := sA.trans st18
    refine ⟨_, rfl, _, rfl, _, rfl, _, rfl, Cm.small (by show 1 ≤ 100000; decide), fun t19 nt19 => ?_⟩
    have st19 := Cm.same_new (o := .tup [.int 1]) nt19
    have rt19 : Rp K _ (.ref t19) (.tuple [.int 1]) := Rp.made (K := K) nt19 ((.cons (.int _) .nil) : Rps K H18 [.int 1] _)
    have ht19 := Cm.sqt_new (K := K) (H := H18) (p := t19) (xs := [.int 1])
    generalize L2.upd H18 t19 (.tup [.int 1]) = H19 at *
    have rpd := rpd.keep (Same.tups st19)
    have rls := rls.keep (Same.tups st19)
    have rst := rst.keep (Same.tups st19)
    have rfr := rfr.keep (Same.tups st19)
    have rbk := rbk.keep (Same.tups st19)
    have rtk := rtk.keep (Same.tups st19)
    have rt1 := rt1.keep (Same.tups st19)
    have rt2 := rt2.keep (Same.tups st19)
    have rt3 := rt3.keep (Same.tups st19)
    have rt4 := rt4.keep (Same.tups st19)
    have rt6 := rt6.keep (Same.tups st19)
    have rt7 := rt7.keep (Same.tups st19)
    have rt8 := rt8.keep (Same.tups st19)
    have rt9 := rt9.keep (Same.tups st19)
    have rt10 := rt10.keep (Same.tups st19)
    have rt11 := rt11.keep (Same.tups st19)
    have rt12 := rt12.keep (Same.tups st19)
    have rt13 := rt13.keep (Same.tups st19)
    have rt16 := rt16.keep (Same.tups st19)
    have rt17 := rt17.keep (Same.tups st19)
    have rt18 := rt18.keep (Same.tups st19)
    have hfr := Cm.sameT st19 hfr
    have ht1 := Cm.sameT st19 ht1
    have ht2 := Cm.sameT st19 ht2
    have ht3 := Cm.sameT st19 ht3
    have ht4 := Cm.sameT st19 ht4
    have ht6 := Cm.sameT st19 ht6
    have ht7 := Cm.sameT st19 ht7
    have ht8 := Cm.sameT st19 ht8
    have ht9 := Cm.sameT st19 ht9
    have ht10 := Cm.sameT st19 ht10
    have ht11 := Cm.sameT st19 ht11
    have ht12 := Cm.sameT st19 ht12
    have ht13 := Cm.sameT st19 ht13
    have ht16 := Cm.sameT st19 ht16
    have ht17 := Cm.sameT st19 ht17
    have ht18 := Cm.sameT st19 ht18
    have hl5 := st19 _ _ hl5
    have hl14 := st19 _ _ hl14
    have hl15 := st19 _ _ hl15
    have sA := sA.trans st19
    refine ⟨_, rfl, Cm.small (by show 6 ≤ 100000; decide), fun t20 nt20 => ?_⟩
    have st20 := Cm.same_new (o := .tup [w1, .int e.dep, .ref fa, w4, .ref t19, .str e.wd]) nt20
    have rt20 : Rp K _ (.ref t20) (.tuple [e.pd, .int e.dep, e.fr, e.back, .tuple [.int 1], .str e.wd]) := Rp.made (K := K) nt20 ((.cons rpd (.cons (.int _) (.cons rfr (.cons rbk (.cons rt19 (.cons (.str _) .nil)))))) : Rps K H19 [w1, .int e.dep, .ref fa, w4, .ref t19, .str e.wd] _)
    have ht20 := Cm.sqt_new (K := K) (H := H19) (p := t20) (xs := [w1, .int e.dep, .ref fa, w4, .ref t19, .str e.wd])
    generalize L2.upd H19 t20 (.tup [w1, .int e.dep, .ref fa, w4, .ref t19, .str e.wd]) = H20 at *
    have rpd := rpd.keep (Same.tups st20)
    have rls := rls.keep (Same.tups st20)
    have rst := rst.keep (Same.tups st20)
    have rfr := rfr.keep (Same.tups st20)
    have rbk := rbk.keep (Same.tups st20)
    have rtk := rtk.keep (Same.tups st20)
    have rt1 := rt1.keep (Same.tups st20)
    have rt2 := rt2.keep (Same.tups st20)
    have rt3 := rt3.keep (Same.tups st20)
    have rt4 := rt4.keep (Same.tups st20)
    have rt6 := rt6.keep (Same.tups st20)
    have rt7 := rt7.keep (Same.tups st20)
    have rt8 := rt8.keep (Same.tups st20)
    have rt9 := rt9.keep (Same.tups st20)
    have rt10 := rt10.keep (Same.tups st20)
    have rt11 := rt11.keep (Same.tups st20)
    have rt12 := rt12.keep (Same.tups st20)
    have rt13 := rt13.keep (Same.tups st20)
    have rt16 := rt16.keep (Same.tups st20)
    have rt17 := rt17.keep (Same.tups st20)
    have rt18 := rt18.keep (Same.tups st20)
    have rt19 := rt19.keep (Same.tups st20)
    have hfr := Cm.sameT st20 hfr
    have ht1 := Cm.sameT st20 ht1
    have ht2 := Cm.sameT st20 ht2
    have ht3 := Cm.sameT st20 ht3
    have ht4 := Cm.sameT st20 ht4
    have ht6 := Cm.sameT st20 ht6
    have ht7 := Cm.sameT st20 ht7
    have ht8 := Cm.sameT st20 ht8
    have ht9 := Cm.sameT st20 ht9
    have ht10 := Cm.sameT st20 ht10
    have ht11 := Cm.sameT st20 ht11
    have ht12 := Cm.sameT st20 ht12
    have ht13 := Cm.sameT st20 ht13
    have ht16 := Cm.sameT st20 ht16
    have ht17 := Cm.sameT st20 ht17
    have ht18 := Cm.sameT st20 ht18
    have ht19 := Cm.sameT st20 ht19
    have hl5 := st20 _ _ hl5
    have hl14 := st20 _ _ hl14
    have hl15 := st20 _ _ hl15
    have sA := sA.trans st20
    refine ⟨Cm.small (by show 3 ≤ 100000; decide), fun l21 nl21 => ?_⟩
    have sl21 := Cm.same_new (o := .lst [.ref t16, .ref t18, .ref t20]) nl21
    have hl21 : (L2.upd H20 l21 (.lst [.ref t16, .ref t18, .ref t20])) l21 = some (.lst [.ref t16, .ref t18, .ref t20]) := upd_same
    generalize L2.upd H20 l21 (.lst [.ref t16, .ref t18, .ref t20]) = H21 at *
    have rpd := rpd.keep (Same.tups sl21)
    have rls := rls.keep (Same.tups sl21)
    have rst := rst.keep (Same.tups sl21)
    have rfr := rfr.keep (Same.tups sl21)
    have rbk := rbk.keep (Same.tups sl21)
    have rtk := rtk.keep (Same.tups sl21)
    have rt1 := rt1.keep (Same.tups sl21)
    have rt2 := rt2.keep (Same.tups sl21)
    have rt3 := rt3.keep (Same.tups sl21)
    have rt4 := rt4.keep (Same.tups sl21)
    have rt6 := rt6.keep (Same.tups sl21)
    have rt7 := rt7.keep (Same.tups sl21)
    have rt8 := rt8.keep (Same.tups sl21)
    have rt9 := rt9.keep (Same.tups sl21)
    have rt10 := rt10.keep (Same.tups sl21)
    have rt11 := rt11.keep (Same.tups sl21)
    have rt12 := rt12.keep (Same.tups sl21)
    have rt13 := rt13.keep (Same.tups sl21)
    have rt16 := rt16.keep (Same.tups sl21)
    have rt17 := rt17.keep (Same.tups sl21)
    have rt18 := rt18.keep (Same.tups sl21)
    have rt19 := rt19.keep (Same.tups sl21)
    have rt20 := rt20.keep (Same.tups sl21)
    have hfr := Cm.sameT sl21 hfr
    have ht1 := Cm.sameT sl21 ht1
    have ht2 := Cm.sameT sl21 ht2
    have ht3 := Cm.sameT sl21 ht3
    have ht4 := Cm.sameT sl21 ht4
    have ht6 := Cm.sameT sl21 ht6
    have ht7 := Cm.sameT sl21 ht7
    have ht8 := Cm.sameT sl21 ht8
    have ht9 := Cm.sameT sl21 ht9
    have ht10 := Cm.sameT sl21 ht10
    have ht11 := Cm.sameT sl21 ht11
    have ht12 := Cm.sameT sl21 ht12
    have ht13 := Cm.sameT sl21 ht13
    have ht16 := Cm.sameT sl21 ht16
    have ht17 := Cm.sameT sl21 ht17
    have ht18 := Cm.sameT sl21 ht18
    have ht19 := Cm.sameT sl21 ht19
    have ht20 := Cm.sameT sl21 ht20
    have hl5 := sl21 _ _ hl5
    have hl14 := sl21 _ _ hl14
    have hl15 := sl21 _ _ hl15
    have sA := sA.trans sl21
    refine ⟨l15, l21, _, _, rfl, rfl, hl15, hl21, Cm.small (by show 9 ≤ 100000; decide), fun l22 nl22 => ?_⟩
    have sl22 := Cm.same_new (o := .lst ([.ref t1, .ref t2, .ref t4, .ref t8, .ref t10, .ref t13] ++ [.ref t16, .ref t18, .ref t20])) nl22
    have hl22 : (L2.upd H21 l22 (.lst ([.ref t1, .ref t2, .ref t4, .ref t8, .ref t10, .ref t13] ++ [.ref t16, .ref t18, .ref t20]))) l22 = some (.lst [.ref t1, .ref t2, .ref t4, .ref t8, .ref t10, .ref t13, .ref t16, .ref t18, .ref t20]) := upd_same
    generalize L2.upd H21 l22 (.lst ([.ref t1, .ref t2, .ref t4, .ref t8, .ref t10, .ref t13] ++ [.ref t16, .ref t18, .ref t20])) = H22 at *
    have rpd := rpd.keep (Same.tups sl22)
    have rls := rls.keep (Same.tups sl22)
    have rst := rst.keep (Same.tups sl22)
    have rfr := rfr.keep (Same.tups sl22)
    have rbk := rbk.keep (Same.tups sl22)
    have rtk := rtk.keep (Same.tups sl22)
    have rt1 := rt1.keep (Same.tups sl22)
    have rt2 := rt2.keep (Same.tups sl22)
    have rt3 := rt3.keep (Same.tups sl22)
    have rt4 := rt4.keep (Same.tups sl22)
    have rt6 := rt6.keep (Same.tups sl22)
    have rt7 := rt7.keep (Same.tups sl22)
    have rt8 := rt8.keep (Same.tups sl22)
    have rt9 := rt9.keep (Same.tups sl22)
    have rt10 := rt10.keep (Same.tups sl22)
    have rt11 := rt11.keep (Same.tups sl22)
    have rt12 := rt12.keep (Same.tups sl22)
    have rt13 := rt13.keep (Same.tups sl22)
    have rt16 := rt16.keep (Same.tups sl22)
    have rt17 := rt17.keep (Same.tups sl22)
    have rt18 := rt18.keep (Same.tups sl22)
    have rt19 := rt19.keep (Same.tups sl22)
    have rt20 := rt20.keep (Same.tups sl22)
    have hfr := Cm.sameT sl22 hfr
    have ht1 := Cm.sameT sl22 ht1
    have ht2 := Cm.sameT sl22 ht2
    have ht3 := Cm.sameT sl22 ht3
    have ht4 := Cm.sameT sl22 ht4
    have ht6 := Cm.sameT sl22 ht6
    have ht7 := Cm.sameT sl22 ht7
    have ht8 := Cm.sameT sl22 ht8
    have ht9 := Cm.sameT sl22 ht9
    have ht10 := Cm.sameT sl22 ht10
    have ht11 := Cm.sameT sl22 ht11
    have ht12 := Cm.sameT sl22 ht12
    have ht13 := Cm.sameT sl22 ht13
    have ht16 := Cm.sameT sl22 ht16
    have ht17 := Cm.sameT sl22 ht17
    have ht18 := Cm.sameT sl22 ht18
    have ht19 := Cm.sameT sl22 ht19
    have ht20 := Cm.sameT sl22 ht20
    have hl5 := sl22 _ _ hl5
    have hl14 := sl22 _ _ hl14
    have hl15 := sl22 _ _ hl15
    have hl21 := sl22 _ _ hl21
    have sA := sA.trans sl22
    simp only [gName, List.set_cons_succ, List.set_cons_zero]
    refine ⟨_, rfl, _, rfl, _, rfl, _, rfl, _, rfl, _, rfl, Cm.small (by show 2 ≤ 100000; decide), fun t23 nt23 => ?_⟩
    have st23 := Cm.same_new (o := .tup [.int 1, .int (-1)]) nt23
    have rt23 : Rp K _ (.ref t23) (.tuple [.int 1, .int (-1)]) := Rp.made (K := K) nt23 ((.cons (.int _) (.cons (.int _) .nil)) : Rps K H22 [.int 1, .int (-1)] _)
    have ht23 := Cm.sqt_new (K := K) (H := H22) (p := t23) (xs := [.int 1, .int (-1)])
    generalize L2.upd H22 t23 (.tup [.int 1, .int (-1)]) = H23 at *
    have rpd := rpd.keep (Same.tups st23)
    have rls := rls.keep (Same.tups st23)
    have rst := rst.keep (Same.tups st23)
    have rfr := rfr.keep (Same.tups st23)
    have rbk := rbk.keep (Same.tups st23)
    have rtk := rtk.keep (Same.tups st23)
    have rt1 := rt1.keep (Same.tups st23)
    have rt2 := rt2.keep (Same.tups st23)
    have rt3 := rt3.keep (Same.tups st23)
    have rt4 := rt4.keep (Same.tups st23)
    have rt6 := rt6.keep (Same.tups st23)
    have rt7 := rt7.keep (Same.tups st23)
    have rt8 := rt8.keep (Same.tups st23)
    have rt9 := rt9.keep (Same.tups st23)
    have rt10 := rt10.keep (Same.tups st23)
    have rt11 := rt11.keep (Same.tups st23)
    have rt12 := rt12.keep (Same.tups st23)
    have rt13 := rt13.keep (Same.tups st23)
    have rt16 := rt16.keep (Same.tups st23)
    have rt17 := rt17.keep (Same.tups st23)
    have rt18 := rt18.keep (Same.tups st23)
    have rt19 := rt19.keep (Same.tups st23)
    have rt20 := rt20.keep (Same.tups st23)
    have hfr := Cm.sameT st23 hfr
    have ht1 := Cm.sameT st23 ht1
    have ht2 := Cm.sameT st23 ht2
    have ht3 := Cm.sameT st23 ht3
    have ht4 := Cm.sameT st23 ht4
    have ht6 := Cm.sameT st23 ht6
    have ht7 := Cm.sameT st23 ht7
    have ht8 := Cm.sameT st23 ht8
    have ht9 := Cm.sameT st23 ht9
    have ht10 := Cm.sameT st23 ht10
    have ht11 := Cm.sameT st23 ht11
    have ht12 := Cm.sameT st23 ht12
    have ht13 := Cm.sameT st23 ht13
    have ht16 := Cm.sameT st23 ht16
    have ht17 := Cm.sameT st23 ht17
    have ht18 := Cm.sameT st23 ht18
    have ht19 := Cm.sameT st23 ht19
    have ht20 := Cm.sameT st23 ht20
    have hl5 := st23 _ _ hl5
    have hl14 := st23 _ _ hl14
    have hl15 := st23 _ _ hl15
    have hl21 := st23 _ _ hl21
    have hl22 := st23 _ _ hl22
    have sA := sA.trans st23
    refine ⟨_, rfl, Cm.small (by show 6 ≤ 100000; decide), fun t24 nt24 => ?_⟩
    have st24 := Cm.same_new (o := .tup [w1, .int e.dep, .ref fa, w4, .ref t23, .str e.wd]) nt24
    have rt24 : Rp K _ (.ref t24) (.tuple [e.pd, .int e.dep, e.fr, e.back, .tuple [.int 1, .int (-1)], .str e.wd]) := Rp.made (K := K) nt24 ((.cons rpd (.cons (.int _) (.cons rfr (.cons rbk (.cons rt23 (.cons (.str _) .nil)))))) : Rps K H23 [w1, .int e.dep, .ref fa, w4, .ref t23, .str e.wd] _)
    have ht24 := Cm.sqt_new (K := K) (H := H23) (p := t24) (xs := [w1, .int e.dep, .ref fa, w4, .ref t23, .str e.wd])
    generalize L2.upd H23 t24 (.tup [w1, .int e.dep, .ref fa, w4, .ref t23, .str e.wd]) = H24 at *
    have rpd := rpd.keep (Same.tups st24)
    have rls := rls.keep (Same.tups st24)
    have rst := rst.keep (Same.tups st24)
    have rfr := rfr.keep (Same.tups st24)
    have rbk := rbk.keep (Same.tups st24)
    have rtk := rtk.keep (Same.tups st24)
    have rt1 := rt1.keep (Same.tups st24)
    have rt2 := rt2.keep (Same.tups st24)
    have rt3 := rt3.keep (Same.tups st24)
    have rt4 := rt4.keep (Same.tups st24)
    have rt6 := rt6.keep (Same.tups st24)
    have rt7 := rt7.keep (Same.tups st24)
    have rt8 := rt8.keep (Same.tups st24)
    have rt9 := rt9.keep (Same.tups st24)
    have rt10 := rt10.keep (Same.tups st24)
    have rt11 := rt11.keep (Same.tups st24)
    have rt12 := rt12.keep (Same.tups st24)
    have rt13 := rt13.keep (Same.tups st24)
    have rt16 := rt16.keep (Same.tups st24)
    have rt17 := rt17.keep (Same.tups st24)
    have rt18 := rt18.keep (Same.tups st24)
    have rt19 := rt19.keep (Same.tups st24)
    have rt20 := rt20.keep (Same.tups st24)
    have rt23 := rt23.keep (Same.tups st24)
    have hfr := Cm.sameT st24 hfr
    have ht1 := Cm.sameT st24 ht1
    have ht2 := Cm.sameT st24 ht2
    have ht3 := Cm.sameT st24 ht3
    have ht4 := Cm.sameT st24 ht4
    have ht6 := Cm.sameT st24 ht6
    have ht7 := Cm.sameT st24 ht7
    have ht8 := Cm.sameT st24 ht8
    have ht9 := Cm.sameT st24 ht9
    have ht10 := Cm.sameT st24 ht10
    have ht11 := Cm.sameT st24 ht11
    have ht12 := Cm.sameT st24 ht12
    have ht13 := Cm.sameT st24 ht13
    have ht16 := Cm.sameT st24 ht16
    have ht17 := Cm.sameT st24 ht17
    have ht18 := Cm.sameT st24 ht18
    have ht19 := Cm.sameT st24 ht19
    have ht20 := Cm.sameT st24 ht20
    have ht23 := Cm.sameT st24 ht23
    have hl5 := st24 _ _ hl5
    have hl14 := st24 _ _ hl14
    have hl15 := st24 _ _ hl15
    have hl21 := st24 _ _ hl21
    have hl22 := st24 _ _ hl22
    have sA := sA.trans st24
    refine ⟨_, rfl, _, rfl, _, rfl, _, rfl, slice_sq hfr fun q25 H25 sq25 hq25 => ?_⟩
    have hq25 : SqT K H25 q25 [.str e.op, .int e.i, f3] := hq25
    have rpd := rpd.keep (Same.tups sq25)
    have rls := rls.keep (Same.tups sq25)
    have rst := rst.keep (Same.tups sq25)
    have rfr := rfr.keep (Same.tups sq25)
    have rbk := rbk.keep (Same.tups sq25)
    have rtk := rtk.keep (Same.tups sq25)
    have rt1 := rt1.keep (Same.tups sq25)
    have rt2 := rt2.keep (Same.tups sq25)
    have rt3 := rt3.keep (Same.tups sq25)
    have rt4 := rt4.keep (Same.tups sq25)
    have rt6 := rt6.keep (Same.tups sq25)
    have rt7 := rt7.keep (Same.tups sq25)
    have rt8 := rt8.keep (Same.tups sq25)
    have rt9 := rt9.keep (Same.tups sq25)
    have rt10 := rt10.keep (Same.tups sq25)
    have rt11 := rt11.keep (Same.tups sq25)
    have rt12 := rt12.keep (Same.tups sq25)
    have rt13 := rt13.keep (Same.tups sq25)
    have rt16 := rt16.keep (Same.tups sq25)
    have rt17 := rt17.keep (Same.tups sq25)
    have rt18 := rt18.keep (Same.tups sq25)
    have rt19 := rt19.keep (Same.tups sq25)
    have rt20 := rt20.keep (Same.tups sq25)
    have rt23 := rt23.keep (Same.tups sq25)
    have rt24 := rt24.keep (Same.tups sq25)
    have hfr := Cm.sameT sq25 hfr
    have ht1 := Cm.sameT sq25 ht1
    have ht2 := Cm.sameT sq25 ht2
    have ht3 := Cm.sameT sq25 ht3
    have ht4 := Cm.sameT sq25 ht4
    have ht6 := Cm.sameT sq25 ht6
    have ht7 := Cm.sameT sq25 ht7
    have ht8 := Cm.sameT sq25 ht8
    have ht9 := Cm.sameT sq25 ht9
    have ht10 := Cm.sameT sq25 ht10
    have ht11 := Cm.sameT sq25 ht11
    have ht12 := Cm.sameT sq25 ht12
    have ht13 := Cm.sameT sq25 ht13
    have ht16 := Cm.sameT sq25 ht16
    have ht17 := Cm.sameT sq25 ht17
    have ht18 := Cm.sameT sq25 ht18
    have ht19 := Cm.sameT sq25 ht19
    have ht20 := Cm.sameT sq25 ht20
    have ht23 := Cm.sameT sq25 ht23
    have ht24 := Cm.sameT sq25 ht24
    have hl5 := sq25 _ _ hl5
    have hl14 := sq25 _ _ hl14
    have hl15 := sq25 _ _ hl15
    have hl21 := sq25 _ _ hl21
    have hl22 := sq25 _ _ hl22
    have sA := sA.trans sq25
    have rq25 : Rp K H25 (.ref q25) (.tuple [.str e.op, .int e.i, e.ls]) := .tup hq25 (.cons (.str _) (.cons (.int _) (.cons rls .nil)))
    refine ⟨_, rfl, _, rfl, _, rfl, Cm.small (by show 6 ≤ 100000; decide), fun t26 nt26 => ?_⟩
    have st26 := Cm.same_new (o := .tup [w1, .int e.dep, .ref q25, w4, w5, .str e.wd]) nt26
    have rt26 : Rp K _ (.ref t26) (.tuple [e.pd, .int e.dep, .tuple [.str e.op, .int e.i, e.ls], e.back, e.tok, .str e.wd]) := Rp.made (K := K) nt26 ((.cons rpd (.cons (.int _) (.cons rq25 (.cons rbk (.cons rtk (.cons (.str _) .nil)))))) : Rps K H25 [w1, .int e.dep, .ref q25, w4, w5, .str e.wd] _)
    have ht26 := Cm.sqt_new (K := K) (H := H25) (p := t26) (xs := [w1, .int e.dep, .ref q25, w4, w5, .str e.wd])
    generalize L2.upd H25 t26 (.tup [w1, .int e.dep, .ref q25, w4, w5, .str e.wd]) = H26 at *
    have rpd := rpd.keep (Same.tups st26)
    have rls := rls.keep (Same.tups st26)
    have rst := rst.keep (Same.tups st26)
    have rfr := rfr.keep (Same.tups st26)
    have rbk := rbk.keep (Same.tups st26)
    have rtk := rtk.keep (Same.tups st26)
    have rt1 := rt1.keep (Same.tups st26)
    have rt2 := rt2.keep (Same.tups st26)
    have rt3 := rt3.keep (Same.tups st26)
    have rt4 := rt4.keep (Same.tups st26)
    have rt6 := rt6.keep (Same.tups st26)
    have rt7 := rt7.keep (Same.tups st26)
    have rt8 := rt8.keep (Same.tups st26)
    have rt9 := rt9.keep (Same.tups st26)
    have rt10 := rt10.keep (Same.tups st26)
    have rt11 := rt11.keep (Same.tups st26)
    have rt12 := rt12.keep (Same.tups st26)
    have rt13 := rt13.keep (Same.tups st26)
    have rt16 := rt16.keep (Same.tups st26)
    have rt17 := rt17.keep (Same.tups st26)
    have rt18 := rt18.keep (Same.tups st26)
    have rt19 := rt19.keep (Same.tups st26)
    have rt20 := rt20.keep (Same.tups st26)
    have rt23 := rt23.keep (Same.tups st26)
    have rt24 := rt24.keep (Same.tups st26)
    have rq25 := rq25.keep (Same.tups st26)
    have hfr := Cm.sameT st26 hfr
    have ht1 := Cm.sameT st26 ht1
    have ht2 := Cm.sameT st26 ht2
    have ht3 := Cm.sameT st26 ht3
    have ht4 := Cm.sameT st26 ht4
    have ht6 := Cm.sameT st26 ht6
    have ht7 := Cm.sameT st26 ht7
    have ht8 := Cm.sameT st26 ht8
    have ht9 := Cm.sameT st26 ht9
    have ht10 := Cm.sameT st26 ht10
    have ht11 := Cm.sameT st26 ht11
    have ht12 := Cm.sameT st26 ht12
    have ht13 := Cm.sameT st26 ht13
    have ht16 := Cm.sameT st26 ht16
    have ht17 := Cm.sameT st26 ht17
    have ht18 := Cm.sameT st26 ht18
    have ht19 := Cm.sameT st26 ht19
    have ht20 := Cm.sameT st26 ht20
    have ht23 := Cm.sameT st26 ht23
    have ht24 := Cm.sameT st26 ht24
    have hq25 := Cm.sameT st26 hq25
    have hl5 := st26 _ _ hl5
    have hl14 := st26 _ _ hl14
    have hl15 := st26 _ _ hl15
    have hl21 := st26 _ _ hl21
    have hl22 := st26 _ _ hl22
    have sA := sA.trans st26
    refine ⟨_, rfl, _, rfl, Cm.small (by show 1 ≤ 100000; decide), fun t27 nt27 => ?_⟩
    have st27 := Cm.same_new (o := .tup [.str "9a"]) nt27
    have rt27 : Rp K _ (.ref t27) (.tuple [.str "9a"]) := Rp.made (K := K) nt27 ((.cons (.str _) .nil) : Rps K H26 [.str "9a"] _)
    have ht27 := Cm.sqt_new (K := K) (H := H26) (p := t27) (xs := [.str "9a"])
    generalize L2.upd H26 t27 (.tup [.str "9a"]) = H27 at *
    have rpd := rpd.keep (Same.tups st27)
    have rls := rls.keep (Same.tups st27)
    have rst := rst.keep (Same.tups st27)
    have rfr := rfr.keep (Same.tups st27)
    have rbk := rbk.keep (Same.tups st27)
    have rtk := rtk.keep (Same.tups st27)
    have rt1 := rt1.keep (Same.tups st27)
    have rt2 := rt2.keep (Same.tups st27)
    have rt3 := rt3.keep (Same.tups st27)
    have rt4 := rt4.keep (Same.tups st27)
    have rt6 := rt6.keep (Same.tups st27)
    have rt7 := rt7.keep (Same.tups st27)
    have rt8 := rt8.keep (Same.tups st27)
    have rt9 := rt9.keep (Same.tups st27)
    have rt10 := rt10.keep (Same.tups st27)
    have rt11 := rt11.keep (Same.tups st27)
    have rt12 := rt12.keep (Same.tups st27)
    have rt13 := rt13.keep (Same.tups st27)
    have rt16 := rt16.keep (Same.tups st27)
    have rt17 := rt17.keep (Same.tups st27)
    have rt18 := rt18.keep (Same.tups st27)
    have rt19 := rt19.keep (Same.tups st27)
    have rt20 := rt20.keep (Same.tups st27)
    have rt23 := rt23.keep (Same.tups st27)
    have rt24 := rt24.keep (Same.tups st27)
    have rq25 := rq25.keep (Same.tups st27)
    have rt26 := rt26.keep (Same.tups st27)
    have hfr := Cm.sameT st27 hfr
    have ht1 := Cm.sameT st27 ht1
    have ht2 := Cm.sameT st27 ht2
    have ht3 := Cm.sameT st27 ht3
    have ht4 := Cm.sameT st27 ht4
    have ht6 := Cm.sameT st27 ht6
    have ht7 := Cm.sameT st27 ht7
    have ht8 := Cm.sameT st27 ht8
    have ht9 := Cm.sameT st27 ht9
    have ht10 := Cm.sameT st27 ht10
    have ht11 := Cm.sameT st27 ht11
    have ht12 := Cm.sameT st27 ht12
    have ht13 := Cm.sameT st27 ht13
    have ht16 := Cm.sameT st27 ht16
    have ht17 := Cm.sameT st27 ht17
    have ht18 := Cm.sameT st27 ht18
    have ht19 := Cm.sameT st27 ht19
    have ht20 := Cm.sameT st27 ht20
    have ht23 := Cm.sameT st27 ht23
    have ht24 := Cm.sameT st27 ht24
    have hq25 := Cm.sameT st27 hq25
    have ht26 := Cm.sameT st27 ht26
    have hl5 := st27 _ _ hl5
    have hl14 := st27 _ _ hl14
    have hl15 := st27 _ _ hl15
    have hl21 := st27 _ _ hl21
    have hl22 := st27 _ _ hl22
    have sA := sA.trans st27
    refine ⟨_, rfl, _, rfl, ?_⟩
    try unfold tNoPart
    refine slice_sq hfr fun q28 H28 sq28 hq28 => ?_
    have hq28 : SqT K H28 q28 [.int e.i, f3, f4] := hq28
    have rpd := rpd.keep (Same.tups sq28)
    have rls := rls.keep (Same.tups sq28)
    have rst := rst.keep (Same.tups sq28)
    have rfr := rfr.keep (Same.tups sq28)
    have rbk := rbk.keep (Same.tups sq28)
    have rtk := rtk.keep (Same.tups sq28)
    have rt1 := rt1.keep (Same.tups sq28)
    have rt2 := rt2.keep (Same.tups sq28)
    have rt3 := rt3.keep (Same.tups sq28)
    have rt4 := rt4.keep (Same.tups sq28)
    have rt6 := rt6.keep (Same.tups sq28)
    have rt7 := rt7.keep (Same.tups sq28)
    have rt8 := rt8.keep (Same.tups sq28)
    have rt9 := rt9.keep (Same.tups sq28)
    have rt10 := rt10.keep (Same.tups sq28)
    have rt11 := rt11.keep (Same.tups sq28)
    have rt12 := rt12.keep (Same.tups sq28)
    have rt13 := rt13.keep (Same.tups sq28)
    have rt16 := rt16.keep (Same.tups sq28)
    have rt17 := rt17.keep (Same.tups sq28)
    have rt18 := rt18.keep (Same.tups sq28)
    have rt19 := rt19.keep (Same.tups sq28)
    have rt20 := rt20.keep (Same.tups sq28)
    have rt23 := rt23.keep (Same.tups sq28)
    have rt24 := rt24.keep (Same.tups sq28)
    have rq25 := rq25.keep (Same.tups sq28)
    have rt26 := rt26.keep (Same.tups sq28)
    have rt27 := rt27.keep (Same.tups sq28)
    have hfr := Cm.sameT sq28 hfr
    have ht1 := Cm.sameT sq28 ht1
    have ht2 := Cm.sameT sq28 ht2
    have ht3 := Cm.sameT sq28 ht3
    have ht4 := Cm.sameT sq28 ht4
    have ht6 := Cm.sameT sq28 ht6
    have ht7 := Cm.sameT sq28 ht7
    have ht8 := Cm.sameT sq28 ht8
    have ht9 := Cm.sameT sq28 ht9
    have ht10 := Cm.sameT sq28 ht10
    have ht11 := Cm.sameT sq28 ht11
    have ht12 := Cm.sameT sq28 ht12
    have ht13 := Cm.sameT sq28 ht13
    have ht16 := Cm.sameT sq28 ht16
    have ht17 := Cm.sameT sq28 ht17
    have ht18 := Cm.sameT sq28 ht18
    have ht19 := Cm.sameT sq28 ht19
    have ht20 := Cm.sameT sq28 ht20
    have ht23 := Cm.sameT sq28 ht23
    have ht24 := Cm.sameT sq28 ht24
    have hq25 := Cm.sameT sq28 hq25
    have ht26 := Cm.sameT sq28 ht26
    have ht27 := Cm.sameT sq28 ht27
    have hl5 := sq28 _ _ hl5
    have hl14 := sq28 _ _ hl14
    have hl15 := sq28 _ _ hl15
    have hl21 := sq28 _ _ hl21
    have hl22 := sq28 _ _ hl22
    have sA := sA.trans sq28
    have rq28 : Rp K H28 (.ref q28) (.tuple [.int e.i, e.ls, e.st]) := .tup hq28 (.cons (.int _) (.cons rls (.cons rst .nil)))
    refine Nst.cat_sq ht27 hq28 (by show 4 ≤ 100000; decide) fun c29 H29 sc29 hc29 => ?_
    have hc29 : SqT K H29 c29 [.str "9a", .int e.i, f3, f4] := hc29
    have rpd := rpd.keep (Same.tups sc29)
    have rls := rls.keep (Same.tups sc29)
    have rst := rst.keep (Same.tups sc29)
    have rfr := rfr.keep (Same.tups sc29)
    have rbk := rbk.keep (Same.tups sc29)
    have rtk := rtk.keep (Same.tups sc29)
    have rt1 := rt1.keep (Same.tups sc29)
    have rt2 := rt2.keep (Same.tups sc29)
    have rt3 := rt3.keep (Same.tups sc29)
    have rt4 := rt4.keep (Same.tups sc29)
    have rt6 := rt6.keep (Same.tups sc29)
    have rt7 := rt7.keep (Same.tups sc29)
    have rt8 := rt8.keep (Same.tups sc29)
    have rt9 := rt9.keep (Same.tups sc29)
    have rt10 := rt10.keep (Same.tups sc29)
    have rt11 := rt11.keep (Same.tups sc29)
    have rt12 := rt12.keep (Same.tups sc29)
    have rt13 := rt13.keep (Same.tups sc29)
    have rt16 := rt16.keep (Same.tups sc29)
    have rt17 := rt17.keep (Same.tups sc29)
    have rt18 := rt18.keep (Same.tups sc29)
    have rt19 := rt19.keep (Same.tups sc29)
    have rt20 := rt20.keep (Same.tups sc29)
    have rt23 := rt23.keep (Same.tups sc29)
    have rt24 := rt24.keep (Same.tups sc29)
    have rq25 := rq25.keep (Same.tups sc29)
    have rt26 := rt26.keep (Same.tups sc29)
    have rt27 := rt27.keep (Same.tups sc29)
    have rq28 := rq28.keep (Same.tups sc29)
    have hfr := Cm.sameT sc29 hfr
    have ht1 := Cm.sameT sc29 ht1
    have ht2 := Cm.sameT sc29 ht2
    have ht3 := Cm.sameT sc29 ht3
    have ht4 := Cm.sameT sc29 ht4
    have ht6 := Cm.sameT sc29 ht6
    have ht7 := Cm.sameT sc29 ht7
    have ht8 := Cm.sameT sc29 ht8
    have ht9 := Cm.sameT sc29 ht9
    have ht10 := Cm.sameT sc29 ht10
    have ht11 := Cm.sameT sc29 ht11
    have ht12 := Cm.sameT sc29 ht12
    have ht13 := Cm.sameT sc29 ht13
    have ht16 := Cm.sameT sc29 ht16
    have ht17 := Cm.sameT sc29 ht17
    have ht18 := Cm.sameT sc29 ht18
    have ht19 := Cm.sameT sc29 ht19
    have ht20 := Cm.sameT sc29 ht20
    have ht23 := Cm.sameT sc29 ht23
    have ht24 := Cm.sameT sc29 ht24
    have hq25 := Cm.sameT sc29 hq25
    have ht26 := Cm.sameT sc29 ht26
    have ht27 := Cm.sameT sc29 ht27
    have hq28 := Cm.sameT sc29 hq28
    have hl5 := sc29 _ _ hl5
    have hl14 := sc29 _ _ hl14
    have hl15 := sc29 _ _ hl15
    have hl21 := sc29 _ _ hl21
    have hl22 := sc29 _ _ hl22
    have sA := sA.trans sc29
    have rc29 : Rp K H29 (.ref c29) (.tuple [.str "9a", .int e.i, e.ls, e.st]) := .tup hc29 (.cons (.str _) (.cons (.int _) (.cons rls (.cons rst .nil))))
    refine ⟨_, rfl, _, rfl, _, rfl, Cm.small (by show 6 ≤ 100000; decide), fun t30 nt30 => ?_⟩
    have st30 := Cm.same_new (o := .tup [w1, .int e.dep, .ref c29, w4, w5, .str e.wd]) nt30
    have rt30 : Rp K _ (.ref t30) (.tuple [e.pd, .int e.dep, .tuple [.str "9a", .int e.i, e.ls, e.st], e.back, e.tok, .str e.wd]) := Rp.made (K := K) nt30 ((.cons rpd (.cons (.int _) (.cons rc29 (.cons rbk (.cons rtk (.cons (.str _) .nil)))))) : Rps K H29 [w1, .int e.dep, .ref c29, w4, w5, .str e.wd] _)
    have ht30 := Cm.sqt_new (K := K) (H := H29) (p := t30) (xs := [w1, .int e.dep, .ref c29, w4, w5, .str e.wd])
    generalize L2.upd H29 t30 (.tup [w1, .int e.dep, .ref c29, w4, w5, .str e.wd]) = H30 at *
    have rpd := rpd.keep (Same.tups st30)
    have rls := rls.keep (Same.tups st30)
    have rst := rst.keep (Same.tups st30)
    have rfr := rfr.keep (Same.tups st30)
    have rbk := rbk.keep (Same.tups st30)
    have rtk := rtk.keep (Same.tups st30)
    have rt1 := rt1.keep (Same.tups st30)
    have rt2 := rt2.keep (Same.tups st30)
    have rt3 := rt3.keep (Same.tups st30)
    have rt4 := rt4.keep (Same.tups st30)
    have rt6 := rt6.keep (Same.tups st30)
    have rt7 := rt7.keep (Same.tups st30)
    have rt8 := rt8.keep (Same.tups st30)
    have rt9 := rt9.keep (Same.tups st30)
    have rt10 := rt10.keep (Same.tups st30)
    have rt11 := rt11.keep (Same.tups st30)
    have rt12 := rt12.keep (Same.tups st30)
    have rt13 := rt13.keep (Same.tups st30)
    have rt16 := rt16.keep (Same.tups st30)
    have rt17 := rt17.keep (Same.tups st30)
    have rt18 := rt18.keep (Same.tups st30)
    have rt19 := rt19.keep (Same.tups st30)
    have rt20 := rt20.keep (Same.tups st30)
    have rt23 := rt23.keep (Same.tups st30)
    have rt24 := rt24.keep (Same.tups st30)
    have rq25 := rq25.keep (Same.tups st30)
    have rt26 := rt26.keep (Same.tups st30)
    have rt27 := rt27.keep (Same.tups st30)
    have rq28 := rq28.keep (Same.tups st30)
    have rc29 := rc29.keep (Same.tups st30)
    have hfr := Cm.sameT st30 hfr
    have ht1 := Cm.sameT st30 ht1
    have ht2 := Cm.sameT st30 ht2
    have ht3 := Cm.sameT st30 ht3
    have ht4 := Cm.sameT st30 ht4
    have ht6 := Cm.sameT st30 ht6
    have ht7 := Cm.sameT st30 ht7
    have ht8 := Cm.sameT st30 ht8
    have ht9 := Cm.sameT st30 ht9
    have ht10 := Cm.sameT st30 ht10
    have ht11 := Cm.sameT st30 ht11
    have ht12 := Cm.sameT st30 ht12
    have ht13 := Cm.sameT st30 ht13
    have ht16 := Cm.sameT st30 ht16
    have ht17 := Cm.sameT st30 ht17
    have ht18 := Cm.sameT st30 ht18
    have ht19 := Cm.sameT st30 ht19
    have ht20 := Cm.sameT st30 ht20
    have ht23 := Cm.sameT st30 ht23
    have ht24 := Cm.sameT st30 ht24
    have hq25 := Cm.sameT st30 hq25
    have ht26 := Cm.sameT st30 ht26
    have ht27 := Cm.sameT st30 ht27
    have hq28 := Cm.sameT st30 hq28
    have hc29 := Cm.sameT st30 hc29
    have hl5 := st30 _ _ hl5
    have hl14 := st30 _ _ hl14
    have hl15 := st30 _ _ hl15
    have hl21 := st30 _ _ hl21
    have hl22 := st30 _ _ hl22
    have sA := sA.trans st30
    refine ⟨Cm.small (by show 3 ≤ 100000; decide), fun l31 nl31 => ?_⟩
    have sl31 := Cm.same_new (o := .lst [.ref t24, .ref t26, .ref t30]) nl31
    have hl31 : (L2.upd H30 l31 (.lst [.ref t24, .ref t26, .ref t30])) l31 = some (.lst [.ref t24, .ref t26, .ref t30]) := upd_same
    generalize L2.upd H30 l31 (.lst [.ref t24, .ref t26, .ref t30]) = H31 at *
    have rpd := rpd.keep (Same.tups sl31)
    have rls := rls.keep (Same.tups sl31)
    have rst := rst.keep (Same.tups sl31)
    have rfr := rfr.keep (Same.tups sl31)
    have rbk := rbk.keep (Same.tups sl31)
    have rtk := rtk.keep (Same.tups sl31)
    have rt1 := rt1.keep (Same.tups sl31)
    have rt2 := rt2.keep (Same.tups sl31)
    have rt3 := rt3.keep (Same.tups sl31)
    have rt4 := rt4.keep (Same.tups sl31)
    have rt6 := rt6.keep (Same.tups sl31)
    have rt7 := rt7.keep (Same.tups sl31)
    have rt8 := rt8.keep (Same.tups sl31)
    have rt9 := rt9.keep (Same.tups sl31)
    have rt10 := rt10.keep (Same.tups sl31)
    have rt11 := rt11.keep (Same.tups sl31)
    have rt12 := rt12.keep (Same.tups sl31)
    have rt13 := rt13.keep (Same.tups sl31)
    have rt16 := rt16.keep (Same.tups sl31)
    have rt17 := rt17.keep (Same.tups sl31)
    have rt18 := rt18.keep (Same.tups sl31)
    have rt19 := rt19.keep (Same.tups sl31)
    have rt20 := rt20.keep (Same.tups sl31)
    have rt23 := rt23.keep (Same.tups sl31)
    have rt24 := rt24.keep (Same.tups sl31)
    have rq25 := rq25.keep (Same.tups sl31)
    have rt26 := rt26.keep (Same.tups sl31)
    have rt27 := rt27.keep (Same.tups sl31)
    have rq28 := rq28.keep (Same.tups sl31)
    have rc29 := rc29.keep (Same.tups sl31)
    have rt30 := rt30.keep (Same.tups sl31)
    have hfr := Cm.sameT sl31 hfr
    have ht1 := Cm.sameT sl31 ht1
    have ht2 := Cm.sameT sl31 ht2
    have ht3 := Cm.sameT sl31 ht3
    have ht4 := Cm.sameT sl31 ht4
    have ht6 := Cm.sameT sl31 ht6
    have ht7 := Cm.sameT sl31 ht7
    have ht8 := Cm.sameT sl31 ht8
    have ht9 := Cm.sameT sl31 ht9
    have ht10 := Cm.sameT sl31 ht10
    have ht11 := Cm.sameT sl31 ht11
    have ht12 := Cm.sameT sl31 ht12
    have ht13 := Cm.sameT sl31 ht13
    have ht16 := Cm.sameT sl31 ht16
    have ht17 := Cm.sameT sl31 ht17
    have ht18 := Cm.sameT sl31 ht18
    have ht19 := Cm.sameT sl31 ht19
    have ht20 := Cm.sameT sl31 ht20
    have ht23 := Cm.sameT sl31 ht23
    have ht24 := Cm.sameT sl31 ht24
    have hq25 := Cm.sameT sl31 hq25
    have ht26 := Cm.sameT sl31 ht26
    have ht27 := Cm.sameT sl31 ht27
    have hq28 := Cm.sameT sl31 hq28
    have hc29 := Cm.sameT sl31 hc29
    have ht30 := Cm.sameT sl31 ht30
    have hl5 := sl31 _ _ hl5
    have hl14 := sl31 _ _ hl14
    have hl15 := sl31 _ _ hl15
    have hl21 := sl31 _ _ hl21
    have hl22 := sl31 _ _ hl22
    have sA := sA.trans sl31
    refine ⟨l22, l31, _, _, rfl, rfl, hl22, hl31, Cm.small (by show 12 ≤ 100000; decide), fun l32 nl32 => ?_⟩
    have sl32 := Cm.same_new (o := .lst ([.ref t1, .ref t2, .ref t4, .ref t8, .ref t10, .ref t13, .ref t16, .ref t18, .ref t20] ++ [.ref t24, .ref t26, .ref t30])) nl32
    have hl32 : (L2.upd H31 l32 (.lst ([.ref t1, .ref t2, .ref t4, .ref t8, .ref t10, .ref t13, .ref t16, .ref t18, .ref t20] ++ [.ref t24, .ref t26, .ref t30]))) l32 = some (.lst [.ref t1, .ref t2, .ref t4, .ref t8, .ref t10, .ref t13, .ref t16, .ref t18, .ref t20, .ref t24, .ref t26, .ref t30]) := upd_same
    generalize L2.upd H31 l32 (.lst ([.ref t1, .ref t2, .ref t4, .ref t8, .ref t10, .ref t13, .ref t16, .ref t18, .ref t20] ++ [.ref t24, .ref t26, .ref t30])) = H32 at *
    have rpd := rpd.keep (Same.tups sl32)
    have rls := rls.keep (Same.tups sl32)
    have rst := rst.keep (Same.tups sl32)
    have rfr := rfr.keep (Same.tups sl32)
    have rbk := rbk.keep (Same.tups sl32)
    have rtk := rtk.keep (Same.tups sl32)
    have rt1 := rt1.keep (Same.tups sl32)
    have rt2 := rt2.keep (Same.tups sl32)
    have rt3 := rt3.keep (Same.tups sl32)
    have rt4 := rt4.keep (Same.tups sl32)
    have rt6 := rt6.keep (Same.tups sl32)
    have rt7 := rt7.keep (Same.tups sl32)
    have rt8 := rt8.keep (Same.tups sl32)
    have rt9 := rt9.keep (Same.tups sl32)
    have rt10 := rt10.keep (Same.tups sl32)
    have rt11 := rt11.keep (Same.tups sl32)
    have rt12 := rt12.keep (Same.tups sl32)
    have rt13 := rt13.keep (Same.tups sl32)
    have rt16 := rt16.keep (Same.tups sl32)
    have rt17 := rt17.keep (Same.tups sl32)
    have rt18 := rt18.keep (Same.tups sl32)
    have rt19 := rt19.keep (Same.tups sl32)
    have rt20 := rt20.keep (Same.tups sl32)
    have rt23 := rt23.keep (Same.tups sl32)
    have rt24 := rt24.keep (Same.tups sl32)
    have rq25 := rq25.keep (Same.tups sl32)
    have rt26 := rt26.keep (Same.tups sl32)
    have rt27 := rt27.keep (Same.tups sl32)
    have rq28 := rq28.keep (Same.tups sl32)
    have rc29 := rc29.keep (Same.tups sl32)
    have rt30 := rt30.keep (Same.tups sl32)
    have hfr := Cm.sameT sl32 hfr
    have ht1 := Cm.sameT sl32 ht1
    have ht2 := Cm.sameT sl32 ht2
    have ht3 := Cm.sameT sl32 ht3
    have ht4 := Cm.sameT sl32 ht4
    have ht6 := Cm.sameT sl32 ht6
    have ht7 := Cm.sameT sl32 ht7
    have ht8 := Cm.sameT sl32 ht8
    have ht9 := Cm.sameT sl32 ht9
    have ht10 := Cm.sameT sl32 ht10
    have ht11 := Cm.sameT sl32 ht11
    have ht12 := Cm.sameT sl32 ht12
    have ht13 := Cm.sameT sl32 ht13
    have ht16 := Cm.sameT sl32 ht16
    have ht17 := Cm.sameT sl32 ht17
    have ht18 := Cm.sameT sl32 ht18
    have ht19 := Cm.sameT sl32 ht19
    have ht20 := Cm.sameT sl32 ht20
    have ht23 := Cm.sameT sl32 ht23
    have ht24 := Cm.sameT sl32 ht24
    have hq25 := Cm.sameT sl32 hq25
    have ht26 := Cm.sameT sl32 ht26
    have ht27 := Cm.sameT sl32 ht27
    have hq28 := Cm.sameT sl32 hq28
    have hc29 := Cm.sameT sl32 hc29
    have ht30 := Cm.sameT sl32 ht30
    have hl5 := sl32 _ _ hl5
    have hl14 := sl32 _ _ hl14
    have hl15 := sl32 _ _ hl15
    have hl21 := sl32 _ _ hl21
    have hl22 := sl32 _ _ hl22
    have hl31 := sl32 _ _ hl31
    have sA := sA.trans sl32
    simp only [gName, List.set_cons_succ, List.set_cons_zero]
    refine ⟨_, rfl, _, rfl, _, rfl, _, rfl, fa, _, 0, _, rfl, rfl, hfr, atI_nat (j := 0) rfl, _, rfl, Cm.small (by show 2 ≤ 100000; decide), fun t33 nt33 => ?_⟩
    have st33 := Cm.same_new (o := .tup [.str e.op, .int (-1)]) nt33
    have rt33 : Rp K _ (.ref t33) (.tuple [.str e.op, .int (-1)]) := Rp.made (K := K) nt33 ((.cons (.str _) (.cons (.int _) .nil)) : Rps K H32 [.str e.op, .int (-1)] _)
    have ht33 := Cm.sqt_new (K := K) (H := H32) (p := t33) (xs := [.str e.op, .int (-1)])
    generalize L2.upd H32 t33 (.tup [.str e.op, .int (-1)]) = H33 at *
    have rpd := rpd.keep (Same.tups st33)
    have rls := rls.keep (Same.tups st33)
    have rst := rst.keep (Same.tups st33)
    have rfr := rfr.keep (Same.tups st33)
    have rbk := rbk.keep (Same.tups st33)
    have rtk := rtk.keep (Same.tups st33)
    have rt1 := rt1.keep (Same.tups st33)
    have rt2 := rt2.keep (Same.tups st33)
    have rt3 := rt3.keep (Same.tups st33)
    have rt4 := rt4.keep (Same.tups st33)
    have rt6 := rt6.keep (Same.tups st33)
    have rt7 := rt7.keep (Same.tups st33)
    have rt8 := rt8.keep (Same.tups st33)
    have rt9 := rt9.keep (Same.tups st33)
    have rt10 := rt10.keep (Same.tups st33)
    have rt11 := rt11.keep (Same.tups st33)
    have rt12 := rt12.keep (Same.tups st33)
    have rt13 := rt13.keep (Same.tups st33)
    have rt16 := rt16.keep (Same.tups st33)
    have rt17 := rt17.keep (Same.tups st33)
    have rt18 := rt18.keep (Same.tups st33)
    have rt19 := rt19.keep (Same.tups st33)
    have rt20 := rt20.keep (Same.tups st33)
    have rt23 := rt23.keep (Same.tups st33)
    have rt24 := rt24.keep (Same.tups st33)
    have rq25 := rq25.keep (Same.tups st33)
    have rt26 := rt26.keep (Same.tups st33)
    have rt27 := rt27.keep (Same.tups st33)
    have rq28 := rq28.keep (Same.tups st33)
    have rc29 := rc29.keep (Same.tups st33)
    have rt30 := rt30.keep (Same.tups st33)
    have hfr := Cm.sameT st33 hfr
    have ht1 := Cm.sameT st33 ht1
    have ht2 := Cm.sameT st33 ht2
    have ht3 := Cm.sameT st33 ht3
    have ht4 := Cm.sameT st33 ht4
    have ht6 := Cm.sameT st33 ht6
    have ht7 := Cm.sameT st33 ht7
    have ht8 := Cm.sameT st33 ht8
    have ht9 := Cm.sameT st33 ht9
    have ht10 := Cm.sameT st33 ht10
    have ht11 := Cm.sameT st33 ht11
    have ht12 := Cm.sameT st33 ht12
    have ht13 := Cm.sameT st33 ht13
    have ht16 := Cm.sameT st33 ht16
    have ht17 := Cm.sameT st33 ht17
    have ht18 := Cm.sameT st33 ht18
    have ht19 := Cm.sameT st33 ht19
    have ht20 := Cm.sameT st33 ht20
    have ht23 := Cm.sameT st33 ht23
    have ht24 := Cm.sameT st33 ht24
    have hq25 := Cm.sameT st33 hq25
    have ht26 := Cm.sameT st33 ht26
    have ht27 := Cm.sameT st33 ht27
    have hq28 := Cm.sameT st33 hq28
    have hc29 := Cm.sameT st33 hc29
    have ht30 := Cm.sameT st33 ht30
    have hl5 := st33 _ _ hl5
    have hl14 := st33 _ _ hl14
    have hl15 := st33 _ _ hl15
    have hl21 := st33 _ _ hl21
    have hl22 := st33 _ _ hl22
    have hl31 := st33 _ _ hl31
    have hl32 := st33 _ _ hl32
    have sA := sA.trans st33
    refine ⟨_, rfl, _, rfl, ?_⟩
    try unfold tNoPart
    refine slice_sq hfr fun q34 H34 sq34 hq34 => ?_
    have hq34 : SqT K H34 q34 [f3, f4] := hq34
    have rpd := rpd.keep (Same.tups sq34)
    have rls := rls.keep (Same.tups sq34)
    have rst := rst.keep (Same.tups sq34)
    have rfr := rfr.keep (Same.tups sq34)
    have rbk := rbk.keep (Same.tups sq34)
    have rtk := rtk.keep (Same.tups sq34)
    have rt1 := rt1.keep (Same.tups sq34)
    have rt2 := rt2.keep (Same.tups sq34)
    have rt3 := rt3.keep (Same.tups sq34)
    have rt4 := rt4.keep (Same.tups sq34)
    have rt6 := rt6.keep (Same.tups sq34)
    have rt7 := rt7.keep (Same.tups sq34)
    have rt8 := rt8.keep (Same.tups sq34)
    have rt9 := rt9.keep (Same.tups sq34)
    have rt10 := rt10.keep (Same.tups sq34)
    have rt11 := rt11.keep (Same.tups sq34)
    have rt12 := rt12.keep (Same.tups sq34)
    have rt13 := rt13.keep (Same.tups sq34)
    have rt16 := rt16.keep (Same.tups sq34)
    have rt17 := rt17.keep (Same.tups sq34)
    have rt18 := rt18.keep (Same.tups sq34)
    have rt19 := rt19.keep (Same.tups sq34)
    have rt20 := rt20.keep (Same.tups sq34)
    have rt23 := rt23.keep (Same.tups sq34)
    have rt24 := rt24.keep (Same.tups sq34)
    have rq25 := rq25.keep (Same.tups sq34)
    have rt26 := rt26.keep (Same.tups sq34)
    have rt27 := rt27.keep (Same.tups sq34)
    have rq28 := rq28.keep (Same.tups sq34)
    have rc29 := rc29.keep (Same.tups sq34)
    have rt30 := rt30.keep (Same.tups sq34)
    have rt33 := rt33.keep (Same.tups sq34)
    have hfr := Cm.sameT sq34 hfr
    have ht1 := Cm.sameT sq34 ht1
    have ht2 := Cm.sameT sq34 ht2
    have ht3 := Cm.sameT sq34 ht3
    have ht4 := Cm.sameT sq34 ht4
    have ht6 := Cm.sameT sq34 ht6
    have ht7 := Cm.sameT sq34 ht7
    have ht8 := Cm.sameT sq34 ht8
    have ht9 := Cm.sameT sq34 ht9
    have ht10 := Cm.sameT sq34 ht10
    have ht11 := Cm.sameT sq34 ht11
    have ht12 := Cm.sameT sq34 ht12
    have ht13 := Cm.sameT sq34 ht13
    have ht16 := Cm.sameT sq34 ht16
    have ht17 := Cm.sameT sq34 ht17
    have ht18 := Cm.sameT sq34 ht18
    have ht19 := Cm.sameT sq34 ht19
    have ht20 := Cm.sameT sq34 ht20
    have ht23 := Cm.sameT sq34 ht23
    have ht24 := Cm.sameT sq34 ht24
    have hq25 := Cm.sameT sq34 hq25
    have ht26 := Cm.sameT sq34 ht26
    have ht27 := Cm.sameT sq34 ht27
    have hq28 := Cm.sameT sq34 hq28
    have hc29 := Cm.sameT sq34 hc29
    have ht30 := Cm.sameT sq34 ht30
    have ht33 := Cm.sameT sq34 ht33
    have hl5 := sq34 _ _ hl5
    have hl14 := sq34 _ _ hl14
    have hl15 := sq34 _ _ hl15
    have hl21 := sq34 _ _ hl21
    have hl22 := sq34 _ _ hl22
    have hl31 := sq34 _ _ hl31
    have hl32 := sq34 _ _ hl32
    have sA := sA.trans sq34
    have rq34 : Rp K H34 (.ref q34) (.tuple [e.ls, e.st]) := .tup hq34 (.cons rls (.cons rst .nil))
    refine Nst.cat_sq ht33 hq34 (by show 4 ≤ 100000; decide) fun c35 H35 sc35 hc35 => ?_
    have hc35 : SqT K H35 c35 [.str e.op, .int (-1), f3, f4] := hc35
    have rpd := rpd.keep (Same.tups sc35)
    have rls := rls.keep (Same.tups sc35)
    have rst := rst.keep (Same.tups sc35)
    have rfr := rfr.keep (Same.tups sc35)
    have rbk := rbk.keep (Same.tups sc35)
    have rtk := rtk.keep (Same.tups sc35)
    have rt1 := rt1.keep (Same.tups sc35)
    have rt2 := rt2.keep (Same.tups sc35)
    have rt3 := rt3.keep (Same.tups sc35)
    have rt4 := rt4.keep (Same.tups sc35)
    have rt6 := rt6.keep (Same.tups sc35)
    have rt7 := rt7.keep (Same.tups sc35)
    have rt8 := rt8.keep (Same.tups sc35)
    have rt9 := rt9.keep (Same.tups sc35)
    have rt10 := rt10.keep (Same.tups sc35)
    have rt11 := rt11.keep (Same.tups sc35)
    have rt12 := rt12.keep (Same.tups sc35)
    have rt13 := rt13.keep (Same.tups sc35)
    have rt16 := rt16.keep (Same.tups sc35)
    have rt17 := rt17.keep (Same.tups sc35)
    have rt18 := rt18.keep (Same.tups sc35)
    have rt19 := rt19.keep (Same.tups sc35)
    have rt20 := rt20.keep (Same.tups sc35)
    have rt23 := rt23.keep (Same.tups sc35)
    have rt24 := rt24.keep (Same.tups sc35)
    have rq25 := rq25.keep (Same.tups sc35)
    have rt26 := rt26.keep (Same.tups sc35)
    have rt27 := rt27.keep (Same.tups sc35)
    have rq28 := rq28.keep (Same.tups sc35)
    have rc29 := rc29.keep (Same.tups sc35)
    have rt30 := rt30.keep (Same.tups sc35)
    have rt33 := rt33.keep (Same.tups sc35)
    have rq34 := rq34.keep (Same.tups sc35)
    have hfr := Cm.sameT sc35 hfr
    have ht1 := Cm.sameT sc35 ht1
    have ht2 := Cm.sameT sc35 ht2
    have ht3 := Cm.sameT sc35 ht3
    have ht4 := Cm.sameT sc35 ht4
    have ht6 := Cm.sameT sc35 ht6
    have ht7 := Cm.sameT sc35 ht7
    have ht8 := Cm.sameT sc35 ht8
    have ht9 := Cm.sameT sc35 ht9
    have ht10 := Cm.sameT sc35 ht10
    have ht11 := Cm.sameT sc35 ht11
    have ht12 := Cm.sameT sc35 ht12
    have ht13 := Cm.sameT sc35 ht13
    have ht16 := Cm.sameT sc35 ht16
    have ht17 := Cm.sameT sc35 ht17
    have ht18 := Cm.sameT sc35 ht18
    have ht19 := Cm.sameT sc35 ht19
    have ht20 := Cm.sameT sc35 ht20
    have ht23 := Cm.sameT sc35 ht23
    have ht24 := Cm.sameT sc35 ht24
    have hq25 := Cm.sameT sc35 hq25
    have ht26 := Cm.sameT sc35 ht26
    have ht27 := Cm.sameT sc35 ht27
    have hq28 := Cm.sameT sc35 hq28
    have hc29 := Cm.sameT sc35 hc29
    have ht30 := Cm.sameT sc35 ht30
    have ht33 := Cm.sameT sc35 ht33
    have hq34 := Cm.sameT sc35 hq34
    have hl5 := sc35 _ _ hl5
    have hl14 := sc35 _ _ hl14
    have hl15 := sc35 _ _ hl15
    have hl21 := sc35 _ _ hl21
    have hl22 := sc35 _ _ hl22
    have hl31 := sc35 _ _ hl31
    have hl32 := sc35 _ _ hl32
    have sA := sA.trans sc35
    have rc35 : Rp K H35 (.ref c35) (.tuple [.str e.op, .int (-1), e.ls, e.st]) := .tup hc35 (.cons (.str _) (.cons (.int _) (.cons rls (.cons rst .nil))))
    refine ⟨_, rfl, _, rfl, _, rfl, Cm.small (by show 6 ≤ 100000; decide), fun t36 nt36 => ?_⟩
    have st36 := Cm.same_new (o := .tup [w1, .int e.dep, .ref c35, w4, w5, .str e.wd]) nt36
    have rt36 : Rp K _ (.ref t36) (.tuple [e.pd, .int e.dep, .tuple [.str e.op, .int (-1), e.ls, e.st], e.back, e.tok, .str e.wd]) := Rp.made (K := K) nt36 ((.cons rpd (.cons (.int _) (.cons rc35 (.cons rbk (.cons rtk (.cons (.str _) .nil)))))) : Rps K H35 [w1, .int e.dep, .ref c35, w4, w5, .str e.wd] _)
    have ht36 := Cm.sqt_new (K := K) (H := H35) (p := t36) (xs := [w1, .int e.dep, .ref c35, w4, w5, .str e.wd])
    generalize L2.upd H35 t36 (.tup [w1, .int e.dep, .ref c35, w4, w5, .str e.wd]) = H36 at *
    have rpd := rpd.keep (Same.tups st36)
    have rls := rls.keep (Same.tups st36)
    have rst := rst.keep (Same.tups st36)
    have rfr := rfr.keep (Same.tups st36)
    have rbk := rbk.keep (Same.tups st36)
    have rtk := rtk.keep (Same.tups st36)
    have rt1 := rt1.keep (Same.tups st36)
    have rt2 := rt2.keep (Same.tups st36)
    have rt3 := rt3.keep (Same.tups st36)
    have rt4 := rt4.keep (Same.tups st36)
    have rt6 := rt6.keep (Same.tups st36)
    have rt7 := rt7.keep (Same.tups st36)
    have rt8 := rt8.keep (Same.tups st36)
    have rt9 := rt9.keep (Same.tups st36)
    have rt10 := rt10.keep (Same.tups st36)
    have rt11 := rt11.keep (Same.tups st36)
    have rt12 := rt12.keep (Same.tups st36)
    have rt13 := rt13.keep (Same.tups st36)
    have rt16 := rt16.keep (Same.tups st36)
    have rt17 := rt17.keep (Same.tups st36)
    have rt18 := rt18.keep (Same.tups st36)
    have rt19 := rt19.keep (Same.tups st36)
    have rt20 := rt20.keep (Same.tups st36)
    have rt23 := rt23.keep (Same.tups st36)
    have rt24 := rt24.keep (Same.tups st36)
    have rq25 := rq25.keep (Same.tups st36)
    have rt26 := rt26.keep (Same.tups st36)
    have rt27 := rt27.keep (Same.tups st36)
    have rq28 := rq28.keep (Same.tups st36)
    have rc29 := rc29.keep (Same.tups st36)
    have rt30 := rt30.keep (Same.tups st36)
    have rt33 := rt33.keep (Same.tups st36)
    have rq34 := rq34.keep (Same.tups st36)
    have rc35 := rc35.keep (Same.tups st36)
    have hfr := Cm.sameT st36 hfr
    have ht1 := Cm.sameT st36 ht1
    have ht2 := Cm.sameT st36 ht2
    have ht3 := Cm.sameT st36 ht3
    have ht4 := Cm.sameT st36 ht4
    have ht6 := Cm.sameT st36 ht6
    have ht7 := Cm.sameT st36 ht7
    have ht8 := Cm.sameT st36 ht8
    have ht9 := Cm.sameT st36 ht9
    have ht10 := Cm.sameT st36 ht10
    have ht11 := Cm.sameT st36 ht11
    have ht12 := Cm.sameT st36 ht12
    have ht13 := Cm.sameT st36 ht13
    have ht16 := Cm.sameT st36 ht16
    have ht17 := Cm.sameT st36 ht17
    have ht18 := Cm.sameT st36 ht18
    have ht19 := Cm.sameT st36 ht19
    have ht20 := Cm.sameT st36 ht20
    have ht23 := Cm.sameT st36 ht23
    have ht24 := Cm.sameT st36 ht24
    have hq25 := Cm.sameT st36 hq25
    have ht26 := Cm.sameT st36 ht26
    have ht27 := Cm.sameT st36 ht27
    have hq28 := Cm.sameT st36 hq28
    have hc29 := Cm.sameT st36 hc29
    have ht30 := Cm.sameT st36 ht30
    have ht33 := Cm.sameT st36 ht33
    have hq34 := Cm.sameT st36 hq34
    have hc35 := Cm.sameT st36 hc35
    have hl5 := st36 _ _ hl5
    have hl14 := st36 _ _ hl14
    have hl15 := st36 _ _ hl15
    have hl21 := st36 _ _ hl21
    have hl22 := st36 _ _ hl22
    have hl31 := st36 _ _ hl31
    have hl32 := st36 _ _ hl32
    have sA := sA.trans st36
    refine ⟨_, rfl, _, rfl, _, rfl, _, rfl, slice_sq hfr fun q37 H37 sq37 hq37 => ?_⟩
    have hq37 : SqT K H37 q37 [.str e.op, .int e.i] := hq37
    have rpd := rpd.keep (Same.tups sq37)
    have rls := rls.keep (Same.tups sq37)
    have rst := rst.keep (Same.tups sq37)
    have rfr := rfr.keep (Same.tups sq37)
    have rbk := rbk.keep (Same.tups sq37)
    have rtk := rtk.keep (Same.tups sq37)
    have rt1 := rt1.keep (Same.tups sq37)
    have rt2 := rt2.keep (Same.tups sq37)
    have rt3 := rt3.keep (Same.tups sq37)
    have rt4 := rt4.keep (Same.tups sq37)
    have rt6 := rt6.keep (Same.tups sq37)
    have rt7 := rt7.keep (Same.tups sq37)
    have rt8 := rt8.keep (Same.tups sq37)
    have rt9 := rt9.keep (Same.tups sq37)
    have rt10 := rt10.keep (Same.tups sq37)
    have rt11 := rt11.keep (Same.tups sq37)
    have rt12 := rt12.keep (Same.tups sq37)
    have rt13 := rt13.keep (Same.tups sq37)
    have rt16 := rt16.keep (Same.tups sq37)
    have rt17 := rt17.keep (Same.tups sq37)
    have rt18 := rt18.keep (Same.tups sq37)
    have rt19 := rt19.keep (Same.tups sq37)
    have rt20 := rt20.keep (Same.tups sq37)
    have rt23 := rt23.keep (Same.tups sq37)
    have rt24 := rt24.keep (Same.tups sq37)
    have rq25 := rq25.keep (Same.tups sq37)
    have rt26 := rt26.keep (Same.tups sq37)
    have rt27 := rt27.keep (Same.tups sq37)
    have rq28 := rq28.keep (Same.tups sq37)
    have rc29 := rc29.keep (Same.tups sq37)
    have rt30 := rt30.keep (Same.tups sq37)
    have rt33 := rt33.keep (Same.tups sq37)
    have rq34 := rq34.keep (Same.tups sq37)
    have rc35 := rc35.keep (Same.tups sq37)
    have rt36 := rt36.keep (Same.tups sq37)
    have hfr := Cm.sameT sq37 hfr
    have ht1 := Cm.sameT sq37 ht1
    have ht2 := Cm.sameT sq37 ht2
    have ht3 := Cm.sameT sq37 ht3
    have ht4 := Cm.sameT sq37 ht4
    have ht6 := Cm.sameT sq37 ht6
    have ht7 := Cm.sameT sq37 ht7
    have ht8 := Cm.sameT sq37 ht8
    have ht9 := Cm.sameT sq37 ht9
    have ht10 := Cm.sameT sq37 ht10
    have ht11 := Cm.sameT sq37 ht11
    have ht12 := Cm.sameT sq37 ht12
    have ht13 := Cm.sameT sq37 ht13
    have ht16 := Cm.sameT sq37 ht16
    have ht17 := Cm.sameT sq37 ht17
    have ht18 := Cm.sameT sq37 ht18
    have ht19 := Cm.sameT sq37 ht19
    have ht20 := Cm.sameT sq37 ht20
    have ht23 := Cm.sameT sq37 ht23
    have ht24 := Cm.sameT sq37 ht24
    have hq25 := Cm.sameT sq37 hq25
    have ht26 := Cm.sameT sq37 ht26
    have ht27 := Cm.sameT sq37 ht27
    have hq28 := Cm.sameT sq37 hq28
    have hc29 := Cm.sameT sq37 hc29
    have ht30 := Cm.sameT sq37 ht30
    have ht33 := Cm.sameT sq37 ht33
    have hq34 := Cm.sameT sq37 hq34
    have hc35 := Cm.sameT sq37 hc35
    have ht36 := Cm.sameT sq37 ht36
    have hl5 := sq37 _ _ hl5
    have hl14 := sq37 _ _ hl14
    have hl15 := sq37 _ _ hl15
    have hl21 := sq37 _ _ hl21
    have hl22 := sq37 _ _ hl22
    have hl31 := sq37 _ _ hl31
    have hl32 := sq37 _ _ hl32
    have sA := sA.trans sq37
    have rq37 : Rp K H37 (.ref q37) (.tuple [.str e.op, .int e.i]) := .tup hq37 (.cons (.str _) (.cons (.int _) .nil))
    refine ⟨Nat.zero_le _, fun t38 nt38 => ?_⟩
    have st38 := Cm.same_new (o := .tup []) nt38
    have rt38 : Rp K _ (.ref t38) (.tuple []) := Rp.made (K := K) nt38 (.nil : Rps K H37 [] _)
    have ht38 := Cm.sqt_new (K := K) (H := H37) (p := t38) (xs := [])
    generalize L2.upd H37 t38 (.tup []) = H38 at *
    have rpd := rpd.keep (Same.tups st38)
    have rls := rls.keep (Same.tups st38)
    have rst := rst.keep (Same.tups st38)
    have rfr := rfr.keep (Same.tups st38)
    have rbk := rbk.keep (Same.tups st38)
    have rtk := rtk.keep (Same.tups st38)
    have rt1 := rt1.keep (Same.tups st38)
    have rt2 := rt2.keep (Same.tups st38)
    have rt3 := rt3.keep (Same.tups st38)
    have rt4 := rt4.keep (Same.tups st38)
    have rt6 := rt6.keep (Same.tups st38)
    have rt7 := rt7.keep (Same.tups st38)
    have rt8 := rt8.keep (Same.tups st38)
    have rt9 := rt9.keep (Same.tups st38)
    have rt10 := rt10.keep (Same.tups st38)
    have rt11 := rt11.keep (Same.tups st38)
    have rt12 := rt12.keep (Same.tups st38)
    have rt13 := rt13.keep (Same.tups st38)
    have rt16 := rt16.keep (Same.tups st38)
    have rt17 := rt17.keep (Same.tups st38)
    have rt18 := rt18.keep (Same.tups st38)
    have rt19 := rt19.keep (Same.tups st38)
    have rt20 := rt20.keep (Same.tups st38)
    have rt23 := rt23.keep (Same.tups st38)
    have rt24 := rt24.keep (Same.tups st38)
    have rq25 := rq25.keep (Same.tups st38)
    have rt26 := rt26.keep (Same.tups st38)
    have rt27 := rt27.keep (Same.tups st38)
    have rq28 := rq28.keep (Same.tups st38)
    have rc29 := rc29.keep (Same.tups st38)
    have rt30 := rt30.keep (Same.tups st38)
    have rt33 := rt33.keep (Same.tups st38)
    have rq34 := rq34.keep (Same.tups st38)
    have rc35 := rc35.keep (Same.tups st38)
    have rt36 := rt36.keep (Same.tups st38)
    have rq37 := rq37.keep (Same.tups st38)
    have hfr := Cm.sameT st38 hfr
    have ht1 := Cm.sameT st38 ht1
    have ht2 := Cm.sameT st38 ht2
    have ht3 := Cm.sameT st38 ht3
    have ht4 := Cm.sameT st38 ht4
    have ht6 := Cm.sameT st38 ht6
    have ht7 := Cm.sameT st38 ht7
    have ht8 := Cm.sameT st38 ht8
    have ht9 := Cm.sameT st38 ht9
    have ht10 := Cm.sameT st38 ht10
    have ht11 := Cm.sameT st38 ht11
    have ht12 := Cm.sameT st38 ht12
    have ht13 := Cm.sameT st38 ht13
    have ht16 := Cm.sameT st38 ht16
    have ht17 := Cm.sameT st38 ht17
    have ht18 := Cm.sameT st38 ht18
    have ht19 := Cm.sameT st38 ht19
    have ht20 := Cm.sameT st38 ht20
    have ht23 := Cm.sameT st38 ht23
    have ht24 := Cm.sameT st38 ht24
    have hq25 := Cm.sameT st38 hq25
    have ht26 := Cm.sameT st38 ht26
    have ht27 := Cm.sameT st38 ht27
    have hq28 := Cm.sameT st38 hq28
    have hc29 := Cm.sameT st38 hc29
    have ht30 := Cm.sameT st38 ht30
    have ht33 := Cm.sameT st38 ht33
    have hq34 := Cm.sameT st38 hq34
    have hc35 := Cm.sameT st38 hc35
    have ht36 := Cm.sameT st38 ht36
    have hq37 := Cm.sameT st38 hq37
    have hl5 := st38 _ _ hl5
    have hl14 := st38 _ _ hl14
    have hl15 := st38 _ _ hl15
    have hl21 := st38 _ _ hl21
    have hl22 := st38 _ _ hl22
    have hl31 := st38 _ _ hl31
    have hl32 := st38 _ _ hl32
    have sA := sA.trans st38
    refine ⟨Cm.small (by show 2 ≤ 100000; decide), fun t39 nt39 => ?_⟩
    have st39 := Cm.same_new (o := .tup [.int 5, .ref t38]) nt39
    have rt39 : Rp K _ (.ref t39) (.tuple [.int 5, .tuple []]) := Rp.made (K := K) nt39 ((.cons (.int _) (.cons rt38 .nil)) : Rps K H38 [.int 5, .ref t38] _)
    have ht39 := Cm.sqt_new (K := K) (H := H38) (p := t39) (xs := [.int 5, .ref t38])
    generalize L2.upd H38 t39 (.tup [.int 5, .ref t38]) = H39 at *
    have rpd := rpd.keep (Same.tups st39)
    have rls := rls.keep (Same.tups st39)
    have rst := rst.keep (Same.tups st39)
    have rfr := rfr.keep (Same.tups st39)
    have rbk := rbk.keep (Same.tups st39)
    have rtk := rtk.keep (Same.tups st39)
    have rt1 := rt1.keep (Same.tups st39)
    have rt2 := rt2.keep (Same.tups st39)
    have rt3 := rt3.keep (Same.tups st39)
    have rt4 := rt4.keep (Same.tups st39)
    have rt6 := rt6.keep (Same.tups st39)
    have rt7 := rt7.keep (Same.tups st39)
    have rt8 := rt8.keep (Same.tups st39)
    have rt9 := rt9.keep (Same.tups st39)
    have rt10 := rt10.keep (Same.tups st39)
    have rt11 := rt11.keep (Same.tups st39)
    have rt12 := rt12.keep (Same.tups st39)
    have rt13 := rt13.keep (Same.tups st39)
    have rt16 := rt16.keep (Same.tups st39)
    have rt17 := rt17.keep (Same.tups st39)
    have rt18 := rt18.keep (Same.tups st39)
    have rt19 := rt19.keep (Same.tups st39)
    have rt20 := rt20.keep (Same.tups st39)
    have rt23 := rt23.keep (Same.tups st39)
    have rt24 := rt24.keep (Same.tups st39)
    have rq25 := rq25.keep (Same.tups st39)
    have rt26 := rt26.keep (Same.tups st39)
    have rt27 := rt27.keep (Same.tups st39)
    have rq28 := rq28.keep (Same.tups st39)
    have rc29 := rc29.keep (Same.tups st39)
    have rt30 := rt30.keep (Same.tups st39)
    have rt33 := rt33.keep (Same.tups st39)
    have rq34 := rq34.keep (Same.tups st39)
    have rc35 := rc35.keep (Same.tups st39)
    have rt36 := rt36.keep (Same.tups st39)
    have rq37 := rq37.keep (Same.tups st39)
    have rt38 := rt38.keep (Same.tups st39)
    have hfr := Cm.sameT st39 hfr
    have ht1 := Cm.sameT st39 ht1
    have ht2 := Cm.sameT st39 ht2
    have ht3 := Cm.sameT st39 ht3
    have ht4 := Cm.sameT st39 ht4
    have ht6 := Cm.sameT st39 ht6
    have ht7 := Cm.sameT st39 ht7
    have ht8 := Cm.sameT st39 ht8
    have ht9 := Cm.sameT st39 ht9
    have ht10 := Cm.sameT st39 ht10
    have ht11 := Cm.sameT st39 ht11
    have ht12 := Cm.sameT st39 ht12
    have ht13 := Cm.sameT st39 ht13
    have ht16 := Cm.sameT st39 ht16
    have ht17 := Cm.sameT st39 ht17
    have ht18 := Cm.sameT st39 ht18
    have ht19 := Cm.sameT st39 ht19
    have ht20 := Cm.sameT st39 ht20
    have ht23 := Cm.sameT st39 ht23
    have ht24 := Cm.sameT st39 ht24
    have hq25 := Cm.sameT st39 hq25
    have ht26 := Cm.sameT st39 ht26
    have ht27 := Cm.sameT st39 ht27
    have hq28 := Cm.sameT st39 hq28
    have hc29 := Cm.sameT st39 hc29
    have ht30 := Cm.sameT st39 ht30
    have ht33 := Cm.sameT st39 ht33
    have hq34 := Cm.sameT st39 hq34
    have hc35 := Cm.sameT st39 hc35
    have ht36 := Cm.sameT st39 ht36
    have hq37 := Cm.sameT st39 hq37
    have ht38 := Cm.sameT st39 ht38
    have hl5 := st39 _ _ hl5
    have hl14 := st39 _ _ hl14
    have hl15 := st39 _ _ hl15
    have hl21 := st39 _ _ hl21
    have hl22 := st39 _ _ hl22
    have hl31 := st39 _ _ hl31
    have hl32 := st39 _ _ hl32
    have sA := sA.trans st39
    refine Nst.cat_sq hq37 ht39 (by show 4 ≤ 100000; decide) fun c40 H40 sc40 hc40 => ?_
    have hc40 : SqT K H40 c40 [.str e.op, .int e.i, .int 5, .ref t38] := hc40
    have rpd := rpd.keep (Same.tups sc40)
    have rls := rls.keep (Same.tups sc40)
    have rst := rst.keep (Same.tups sc40)
    have rfr := rfr.keep (Same.tups sc40)
    have rbk := rbk.keep (Same.tups sc40)
    have rtk := rtk.keep (Same.tups sc40)
    have rt1 := rt1.keep (Same.tups sc40)
    have rt2 := rt2.keep (Same.tups sc40)
    have rt3 := rt3.keep (Same.tups sc40)
    have rt4 := rt4.keep (Same.tups sc40)
    have rt6 := rt6.keep (Same.tups sc40)
    have rt7 := rt7.keep (Same.tups sc40)
    have rt8 := rt8.keep (Same.tups sc40)
    have rt9 := rt9.keep (Same.tups sc40)
    have rt10 := rt10.keep (Same.tups sc40)
    have rt11 := rt11.keep (Same.tups sc40)
    have rt12 := rt12.keep (Same.tups sc40)
    have rt13 := rt13.keep (Same.tups sc40)
    have rt16 := rt16.keep (Same.tups sc40)
    have rt17 := rt17.keep (Same.tups sc40)
    have rt18 := rt18.keep (Same.tups sc40)
    have rt19 := rt19.keep (Same.tups sc40)
    have rt20 := rt20.keep (Same.tups sc40)
    have rt23 := rt23.keep (Same.tups sc40)
    have rt24 := rt24.keep (Same.tups sc40)
    have rq25 := rq25.keep (Same.tups sc40)
    have rt26 := rt26.keep (Same.tups sc40)
    have rt27 := rt27.keep (Same.tups sc40)
    have rq28 := rq28.keep (Same.tups sc40)
    have rc29 := rc29.keep (Same.tups sc40)
    have rt30 := rt30.keep (Same.tups sc40)
    have rt33 := rt33.keep (Same.tups sc40)
    have rq34 := rq34.keep (Same.tups sc40)
    have rc35 := rc35.keep (Same.tups sc40)
    have rt36 := rt36.keep (Same.tups sc40)
    have rq37 := rq37.keep (Same.tups sc40)
    have rt38 := rt38.keep (Same.tups sc40)
    have rt39 := rt39.keep (Same.tups sc40)
    have hfr := Cm.sameT sc40 hfr
    have ht1 := Cm.sameT sc40 ht1
    have ht2 := Cm.sameT sc40 ht2
    have ht3 := Cm.sameT sc40 ht3
    have ht4 := Cm.sameT sc40 ht4
    have ht6 := Cm.sameT sc40 ht6
    have ht7 := Cm.sameT sc40 ht7
    have ht8 := Cm.sameT sc40 ht8
    have ht9 := Cm.sameT sc40 ht9
    have ht10 := Cm.sameT sc40 ht10
    have ht11 := Cm.sameT sc40 ht11
    have ht12 := Cm.sameT sc40 ht12
    have ht13 := Cm.sameT sc40 ht13
    have ht16 := Cm.sameT sc40 ht16
    have ht17 := Cm.sameT sc40 ht17
    have ht18 := Cm.sameT sc40 ht18
    have ht19 := Cm.sameT sc40 ht19
    have ht20 := Cm.sameT sc40 ht20
    have ht23 := Cm.sameT sc40 ht23
    have ht24 := Cm.sameT sc40 ht24
    have hq25 := Cm.sameT sc40 hq25
    have ht26 := Cm.sameT sc40 ht26
    have ht27 := Cm.sameT sc40 ht27
    have hq28 := Cm.sameT sc40 hq28
    have hc29 := Cm.sameT sc40 hc29
    have ht30 := Cm.sameT sc40 ht30
    have ht33 := Cm.sameT sc40 ht33
    have hq34 := Cm.sameT sc40 hq34
    have hc35 := Cm.sameT sc40 hc35
    have ht36 := Cm.sameT sc40 ht36
    have hq37 := Cm.sameT sc40 hq37
    have ht38 := Cm.sameT sc40 ht38
    have ht39 := Cm.sameT sc40 ht39
    have hl5 := sc40 _ _ hl5
    have hl14 := sc40 _ _ hl14
    have hl15 := sc40 _ _ hl15
    have hl21 := sc40 _ _ hl21
    have hl22 := sc40 _ _ hl22
    have hl31 := sc40 _ _ hl31
    have hl32 := sc40 _ _ hl32
    have sA := sA.trans sc40
    have rc40 : Rp K H40 (.ref c40) (.tuple [.str e.op, .int e.i, .int 5, .tuple []]) := .tup hc40 (.cons (.str _) (.cons (.int _) (.cons (.int _) (.cons rt38 .nil))))
    refine ⟨_, rfl, _, rfl, _, rfl, Cm.small (by show 6 ≤ 100000; decide), fun t41 nt41 => ?_⟩
    have st41 := Cm.same_new (o := .tup [w1, .int e.dep, .ref c40, w4, w5, .str e.wd]) nt41
    have rt41 : Rp K _ (.ref t41) (.tuple [e.pd, .int e.dep, .tuple [.str e.op, .int e.i, .int 5, .tuple []], e.back, e.tok, .str e.wd]) := Rp.made (K := K) nt41 ((.cons rpd (.cons (.int _) (.cons rc40 (.cons rbk (.cons rtk (.cons (.str _) .nil)))))) : Rps K H40 [w1, .int e.dep, .ref c40, w4, w5, .str e.wd] _)
    have ht41 := Cm.sqt_new (K := K) (H := H40) (p := t41) (xs := [w1, .int e.dep, .ref c40, w4, w5, .str e.wd])
    generalize L2.upd H40 t41 (.tup [w1, .int e.dep, .ref c40, w4, w5, .str e.wd]) = H41 at *
    have rpd := rpd.keep (Same.tups st41)
    have rls := rls.keep (Same.tups st41)
    have rst := rst.keep (Same.tups st41)
    have rfr := rfr.keep (Same.tups st41)
    have rbk := rbk.keep (Same.tups st41)
    have rtk := rtk.keep (Same.tups st41)
    have rt1 := rt1.keep (Same.tups st41)
    have rt2 := rt2.keep (Same.tups st41)
    have rt3 := rt3.keep (Same.tups st41)
    have rt4 := rt4.keep (Same.tups st41)
    have rt6 := rt6.keep (Same.tups st41)
    have rt7 := rt7.keep (Same.tups st41)
    have rt8 := rt8.keep (Same.tups st41)
    have rt9 := rt9.keep (Same.tups st41)
    have rt10 := rt10.keep (Same.tups st41)
    have rt11 := rt11.keep (Same.tups st41)
    have rt12 := rt12.keep (Same.tups st41)
    have rt13 := rt13.keep (Same.tups st41)
    have rt16 := rt16.keep (Same.tups st41)
    have rt17 := rt17.keep (Same.tups st41)
    have rt18 := rt18.keep (Same.tups st41)
    have rt19 := rt19.keep (Same.tups st41)
    have rt20 := rt20.keep (Same.tups st41)
    have rt23 := rt23.keep (Same.tups st41)
    have rt24 := rt24.keep (Same.tups st41)
    have rq25 := rq25.keep (Same.tups st41)
    have rt26 := rt26.keep (Same.tups st41)
    have rt27 := rt27.keep (Same.tups st41)
    have rq28 := rq28.keep (Same.tups st41)
    have rc29 := rc29.keep (Same.tups st41)
    have rt30 := rt30.keep (Same.tups st41)
    have rt33 := rt33.keep (Same.tups st41)
    have rq34 := rq34.keep (Same.tups st41)
    have rc35 := rc35.keep (Same.tups st41)
    have rt36 := rt36.keep (Same.tups st41)
    have rq37 := rq37.keep (Same.tups st41)
    have rt38 := rt38.keep (Same.tups st41)
    have rt39 := rt39.keep (Same.tups st41)
    have rc40 := rc40.keep (Same.tups st41)
    have hfr := Cm.sameT st41 hfr
    have ht1 := Cm.sameT st41 ht1
    have ht2 := Cm.sameT st41 ht2
    have ht3 := Cm.sameT st41 ht3
    have ht4 := Cm.sameT st41 ht4
    have ht6 := Cm.sameT st41 ht6
    have ht7 := Cm.sameT st41 ht7
    have ht8 := Cm.sameT st41 ht8
    have ht9 := Cm.sameT st41 ht9
    have ht10 := Cm.sameT st41 ht10
    have ht11 := Cm.sameT st41 ht11
    have ht12 := Cm.sameT st41 ht12
    have ht13 := Cm.sameT st41 ht13
    have ht16 := Cm.sameT st41 ht16
    have ht17 := Cm.sameT st41 ht17
    have ht18 := Cm.sameT st41 ht18
    have ht19 := Cm.sameT st41 ht19
    have ht20 := Cm.sameT st41 ht20
    have ht23 := Cm.sameT st41 ht23
    have ht24 := Cm.sameT st41 ht24
    have hq25 := Cm.sameT st41 hq25
    have ht26 := Cm.sameT st41 ht26
    have ht27 := Cm.sameT st41 ht27
    have hq28 := Cm.sameT st41 hq28
    have hc29 := Cm.sameT st41 hc29
    have ht30 := Cm.sameT st41 ht30
    have ht33 := Cm.sameT st41 ht33
    have hq34 := Cm.sameT st41 hq34
    have hc35 := Cm.sameT st41 hc35
    have ht36 := Cm.sameT st41 ht36
    have hq37 := Cm.sameT st41 hq37
    have ht38 := Cm.sameT st41 ht38
    have ht39 := Cm.sameT st41 ht39
    have hc40 := Cm.sameT st41 hc40
    have hl5 := st41 _ _ hl5
    have hl14 := st41 _ _ hl14
    have hl15 := st41 _ _ hl15
    have hl21 := st41 _ _ hl21
    have hl22 := st41 _ _ hl22
    have hl31 := st41 _ _ hl31
    have hl32 := st41 _ _ hl32
    have sA := sA.trans st41
    refine ⟨Cm.small (by show 2 ≤ 100000; decide), fun l42 nl42 => ?_⟩
    have sl42 := Cm.same_new (o := .lst [.ref t36, .ref t41]) nl42
    have hl42 : (L2.upd H41 l42 (.lst [.ref t36, .ref t41])) l42 = some (.lst [.ref t36, .ref t41]) := upd_same
    generalize L2.upd H41 l42 (.lst [.ref t36, .ref t41]) = H42 at *
    have rpd := rpd.keep (Same.tups sl42)
    have rls := rls.keep (Same.tups sl42)
    have rst := rst.keep (Same.tups sl42)
    have rfr := rfr.keep (Same.tups sl42)
    have rbk := rbk.keep (Same.tups sl42)
    have rtk := rtk.keep (Same.tups sl42)
    have rt1 := rt1.keep (Same.tups sl42)
    have rt2 := rt2.keep (Same.tups sl42)
    have rt3 := rt3.keep (Same.tups sl42)
    have rt4 := rt4.keep (Same.tups sl42)
    have rt6 := rt6.keep (Same.tups sl42)
    have rt7 := rt7.keep (Same.tups sl42)
    have rt8 := rt8.keep (Same.tups sl42)
    have rt9 := rt9.keep (Same.tups sl42)
    have rt10 := rt10.keep (Same.tups sl42)
    have rt11 := rt11.keep (Same.tups sl42)
    have rt12 := rt12.keep (Same.tups sl42)
    have rt13 := rt13.keep (Same.tups sl42)
    have rt16 := rt16.keep (Same.tups sl42)
    have rt17 := rt17.keep (Same.tups sl42)
    have rt18 := rt18.keep (Same.tups sl42)
    have rt19 := rt19.keep (Same.tups sl42)
    have rt20 := rt20.keep (Same.tups sl42)
    have rt23 := rt23.keep (Same.tups sl42)
    have rt24 := rt24.keep (Same.tups sl42)
    have rq25 := rq25.keep (Same.tups sl42)
    have rt26 := rt26.keep (Same.tups sl42)
    have rt27 := rt27.keep (Same.tups sl42)
    have rq28 := rq28.keep (Same.tups sl42)
    have rc29 := rc29.keep (Same.tups sl42)
    have rt30 := rt30.keep (Same.tups sl42)
    have rt33 := rt33.keep (Same.tups sl42)
    have rq34 := rq34.keep (Same.tups sl42)
    have rc35 := rc35.keep (Same.tups sl42)
    have rt36 := rt36.keep (Same.tups sl42)
    have rq37 := rq37.keep (Same.tups sl42)
    have rt38 := rt38.keep (Same.tups sl42)
    have rt39 := rt39.keep (Same.tups sl42)
    have rc40 := rc40.keep (Same.tups sl42)
    have rt41 := rt41.keep (Same.tups sl42)
    have hfr := Cm.sameT sl42 hfr
    have ht1 := Cm.sameT sl42 ht1
    have ht2 := Cm.sameT sl42 ht2
    have ht3 := Cm.sameT sl42 ht3
    have ht4 := Cm.sameT sl42 ht4
    have ht6 := Cm.sameT sl42 ht6
    have ht7 := Cm.sameT sl42 ht7
    have ht8 := Cm.sameT sl42 ht8
    have ht9 := Cm.sameT sl42 ht9
    have ht10 := Cm.sameT sl42 ht10
    have ht11 := Cm.sameT sl42 ht11
    have ht12 := Cm.sameT sl42 ht12
    have ht13 := Cm.sameT sl42 ht13
    have ht16 := Cm.sameT sl42 ht16
    have ht17 := Cm.sameT sl42 ht17
    have ht18 := Cm.sameT sl42 ht18
    have ht19 := Cm.sameT sl42 ht19
    have ht20 := Cm.sameT sl42 ht20
    have ht23 := Cm.sameT sl42 ht23
    have ht24 := Cm.sameT sl42 ht24
    have hq25 := Cm.sameT sl42 hq25
    have ht26 := Cm.sameT sl42 ht26
    have ht27 := Cm.sameT sl42 ht27
    have hq28 := Cm.sameT sl42 hq28
    have hc29 := Cm.sameT sl42 hc29
    have ht30 := Cm.sameT sl42 ht30
    have ht33 := Cm.sameT sl42 ht33
    have hq34 := Cm.sameT sl42 hq34
    have hc35 := Cm.sameT sl42 hc35
    have ht36 := Cm.sameT sl42 ht36
    have hq37 := Cm.sameT sl42 hq37
    have ht38 := Cm.sameT sl42 ht38
    have ht39 := Cm.sameT sl42 ht39
    have hc40 := Cm.sameT sl42 hc40
    have ht41 := Cm.sameT sl42 ht41
    have hl5 := sl42 _ _ hl5
    have hl14 := sl42 _ _ hl14
    have hl15 := sl42 _ _ hl15
    have hl21 := sl42 _ _ hl21
    have hl22 := sl42 _ _ hl22
    have hl31 := sl42 _ _ hl31
    have hl32 := sl42 _ _ hl32
    have sA := sA.trans sl42
    refine ⟨l32, l42, _, _, rfl, rfl, hl32, hl42, Cm.small (by show 14 ≤ 100000; decide), fun l43 nl43 => ?_⟩
    have sl43 := Cm.same_new (o := .lst ([.ref t1, .ref t2, .ref t4, .ref t8, .ref t10, .ref t13, .ref t16, .ref t18, .ref t20, .ref t24, .ref t26, .ref t30] ++ [.ref t36, .ref t41])) nl43
    have hl43 : (L2.upd H42 l43 (.lst ([.ref t1, .ref t2, .ref t4, .ref t8, .ref t10, .ref t13, .ref t16, .ref t18, .ref t20, .ref t24, .ref t26, .ref t30] ++ [.ref t36, .ref t41]))) l43 = some (.lst [.ref t1, .ref t2, .ref t4, .ref t8, .ref t10, .ref t13, .ref t16, .ref t18, .ref t20, .ref t24, .ref t26, .ref t30, .ref t36, .ref t41]) := upd_same
    generalize L2.upd H42 l43 (.lst ([.ref t1, .ref t2, .ref t4, .ref t8, .ref t10, .ref t13, .ref t16, .ref t18, .ref t20, .ref t24, .ref t26, .ref t30] ++ [.ref t36, .ref t41])) = H43 at *
    have rpd := rpd.keep (Same.tups sl43)
    have rls := rls.keep (Same.tups sl43)
    have rst := rst.keep (Same.tups sl43)
    have rfr := rfr.keep (Same.tups sl43)
    have rbk := rbk.keep (Same.tups sl43)
    have rtk := rtk.keep (Same.tups sl43)
    have rt1 := rt1.keep (Same.tups sl43)
    have rt2 := rt2.keep (Same.tups sl43)
    have rt3 := rt3.keep (Same.tups sl43)
    have rt4 := rt4.keep (Same.tups sl43)
    have rt6 := rt6.keep (Same.tups sl43)
    have rt7 := rt7.keep (Same.tups sl43)
    have rt8 := rt8.keep (Same.tups sl43)
    have rt9 := rt9.keep (Same.tups sl43)
    have rt10 := rt10.keep (Same.tups sl43)
    have rt11 := rt11.keep (Same.tups sl43)
    have rt12 := rt12.keep (Same.tups sl43)
    have rt13 := rt13.keep (Same.tups sl43)
    have rt16 := rt16.keep (Same.tups sl43)
    have rt17 := rt17.keep (Same.tups sl43)
    have rt18 := rt18.keep (Same.tups sl43)
    have rt19 := rt19.keep (Same.tups sl43)
    have rt20 := rt20.keep (Same.tups sl43)
    have rt23 := rt23.keep (Same.tups sl43)
    have rt24 := rt24.keep (Same.tups sl43)
    have rq25 := rq25.keep (Same.tups sl43)
    have rt26 := rt26.keep (Same.tups sl43)
    have rt27 := rt27.keep (Same.tups sl43)
    have rq28 := rq28.keep (Same.tups sl43)
    have rc29 := rc29.keep (Same.tups sl43)
    have rt30 := rt30.keep (Same.tups sl43)
    have rt33 := rt33.keep (Same.tups sl43)
    have rq34 := rq34.keep (Same.tups sl43)
    have rc35 := rc35.keep (Same.tups sl43)
    have rt36 := rt36.keep (Same.tups sl43)
    have rq37 := rq37.keep (Same.tups sl43)
    have rt38 := rt38.keep (Same.tups sl43)
    have rt39 := rt39.keep (Same.tups sl43)
    have rc40 := rc40.keep (Same.tups sl43)
    have rt41 := rt41.keep (Same.tups sl43)
    have hfr := Cm.sameT sl43 hfr
    have ht1 := Cm.sameT sl43 ht1
    have ht2 := Cm.sameT sl43 ht2
    have ht3 := Cm.sameT sl43 ht3
    have ht4 := Cm.sameT sl43 ht4
    have ht6 := Cm.sameT sl43 ht6
    have ht7 := Cm.sameT sl43 ht7
    have ht8 := Cm.sameT sl43 ht8
    have ht9 := Cm.sameT sl43 ht9
    have ht10 := Cm.sameT sl43 ht10
    have ht11 := Cm.sameT sl43 ht11
    have ht12 := Cm.sameT sl43 ht12
    have ht13 := Cm.sameT sl43 ht13
    have ht16 := Cm.sameT sl43 ht16
    have ht17 := Cm.sameT sl43 ht17
    have ht18 := Cm.sameT sl43 ht18
    have ht19 := Cm.sameT sl43 ht19
    have ht20 := Cm.sameT sl43 ht20
    have ht23 := Cm.sameT sl43 ht23
    have ht24 := Cm.sameT sl43 ht24
    have hq25 := Cm.sameT sl43 hq25
    have ht26 := Cm.sameT sl43 ht26
    have ht27 := Cm.sameT sl43 ht27
    have hq28 := Cm.sameT sl43 hq28
    have hc29 := Cm.sameT sl43 hc29
    have ht30 := Cm.sameT sl43 ht30
    have ht33 := Cm.sameT sl43 ht33
    have hq34 := Cm.sameT sl43 hq34
    have hc35 := Cm.sameT sl43 hc35
    have ht36 := Cm.sameT sl43 ht36
    have hq37 := Cm.sameT sl43 hq37
    have ht38 := Cm.sameT sl43 ht38
    have ht39 := Cm.sameT sl43 ht39
    have hc40 := Cm.sameT sl43 hc40
    have ht41 := Cm.sameT sl43 ht41
    have hl5 := sl43 _ _ hl5
    have hl14 := sl43 _ _ hl14
    have hl15 := sl43 _ _ hl15
    have hl21 := sl43 _ _ hl21
    have hl22 := sl43 _ _ hl22
    have hl31 := sl43 _ _ hl31
    have hl32 := sl43 _ _ hl32
    have hl42 := sl43 _ _ hl42
    have sA := sA.trans sl43
    simp only [gName, List.set_cons_succ, List.set_cons_zero]
    refine ⟨_, rfl, _, rfl, _, rfl, _, rfl, _, rfl, slice_sq hfr fun q44 H44 sq44 hq44 => ?_⟩
    have hq44 : SqT K H44 q44 [.str e.op, .int e.i, f3] := hq44
    have rpd := rpd.keep (Same.tups sq44)
    have rls := rls.keep (Same.tups sq44)
    have rst := rst.keep (Same.tups sq44)
    have rfr := rfr.keep (Same.tups sq44)
    have rbk := rbk.keep (Same.tups sq44)
    have rtk := rtk.keep (Same.tups sq44)
    have rt1 := rt1.keep (Same.tups sq44)
    have rt2 := rt2.keep (Same.tups sq44)
    have rt3 := rt3.keep (Same.tups sq44)
    have rt4 := rt4.keep (Same.tups sq44)
    have rt6 := rt6.keep (Same.tups sq44)
    have rt7 := rt7.keep (Same.tups sq44)
    have rt8 := rt8.keep (Same.tups sq44)
    have rt9 := rt9.keep (Same.tups sq44)
    have rt10 := rt10.keep (Same.tups sq44)
    have rt11 := rt11.keep (Same.tups sq44)
    have rt12 := rt12.keep (Same.tups sq44)
    have rt13 := rt13.keep (Same.tups sq44)
    have rt16 := rt16.keep (Same.tups sq44)
    have rt17 := rt17.keep (Same.tups sq44)
    have rt18 := rt18.keep (Same.tups sq44)
    have rt19 := rt19.keep (Same.tups sq44)
    have rt20 := rt20.keep (Same.tups sq44)
    have rt23 := rt23.keep (Same.tups sq44)
    have rt24 := rt24.keep (Same.tups sq44)
    have rq25 := rq25.keep (Same.tups sq44)
    have rt26 := rt26.keep (Same.tups sq44)
    have rt27 := rt27.keep (Same.tups sq44)
    have rq28 := rq28.keep (Same.tups sq44)
    have rc29 := rc29.keep (Same.tups sq44)
    have rt30 := rt30.keep (Same.tups sq44)
    have rt33 := rt33.keep (Same.tups sq44)
    have rq34 := rq34.keep (Same.tups sq44)
    have rc35 := rc35.keep (Same.tups sq44)
    have rt36 := rt36.keep (Same.tups sq44)
    have rq37 := rq37.keep (Same.tups sq44)
    have rt38 := rt38.keep (Same.tups sq44)
    have rt39 := rt39.keep (Same.tups sq44)
    have rc40 := rc40.keep (Same.tups sq44)
    have rt41 := rt41.keep (Same.tups sq44)
    have hfr := Cm.sameT sq44 hfr
    have ht1 := Cm.sameT sq44 ht1
    have ht2 := Cm.sameT sq44 ht2
    have ht3 := Cm.sameT sq44 ht3
    have ht4 := Cm.sameT sq44 ht4
    have ht6 := Cm.sameT sq44 ht6
    have ht7 := Cm.sameT sq44 ht7
    have ht8 := Cm.sameT sq44 ht8
    have ht9 := Cm.sameT sq44 ht9
    have ht10 := Cm.sameT sq44 ht10
    have ht11 := Cm.sameT sq44 ht11
    have ht12 := Cm.sameT sq44 ht12
    have ht13 := Cm.sameT sq44 ht13
    have ht16 := Cm.sameT sq44 ht16
    have ht17 := Cm.sameT sq44 ht17
    have ht18 := Cm.sameT sq44 ht18
    have ht19 := Cm.sameT sq44 ht19
    have ht20 := Cm.sameT sq44 ht20
    have ht23 := Cm.sameT sq44 ht23
    have ht24 := Cm.sameT sq44 ht24
    have hq25 := Cm.sameT sq44 hq25
    have ht26 := Cm.sameT sq44 ht26
    have ht27 := Cm.sameT sq44 ht27
    have hq28 := Cm.sameT sq44 hq28
    have hc29 := Cm.sameT sq44 hc29
    have ht30 := Cm.sameT sq44 ht30
    have ht33 := Cm.sameT sq44 ht33
    have hq34 := Cm.sameT sq44 hq34
    have hc35 := Cm.sameT sq44 hc35
    have ht36 := Cm.sameT sq44 ht36
    have hq37 := Cm.sameT sq44 hq37
    have ht38 := Cm.sameT sq44 ht38
    have ht39 := Cm.sameT sq44 ht39
    have hc40 := Cm.sameT sq44 hc40
    have ht41 := Cm.sameT sq44 ht41
    have hl5 := sq44 _ _ hl5
    have hl14 := sq44 _ _ hl14
    have hl15 := sq44 _ _ hl15
    have hl21 := sq44 _ _ hl21
    have hl22 := sq44 _ _ hl22
    have hl31 := sq44 _ _ hl31
    have hl32 := sq44 _ _ hl32
    have hl42 := sq44 _ _ hl42
    have hl43 := sq44 _ _ hl43
    have sA := sA.trans sq44
    have rq44 : Rp K H44 (.ref q44) (.tuple [.str e.op, .int e.i, e.ls]) := .tup hq44 (.cons (.str _) (.cons (.int _) (.cons rls .nil)))
    refine ⟨Cm.small (by show 2 ≤ 100000; decide), fun t45 nt45 => ?_⟩
    have st45 := Cm.same_new (o := .tup [.str "int", .int 1]) nt45
    have rt45 : Rp K _ (.ref t45) (.tuple [.str "int", .int 1]) := Rp.made (K := K) nt45 ((.cons (.str _) (.cons (.int _) .nil)) : Rps K H44 [.str "int", .int 1] _)
    have ht45 := Cm.sqt_new (K := K) (H := H44) (p := t45) (xs := [.str "int", .int 1])
    generalize L2.upd H44 t45 (.tup [.str "int", .int 1]) = H45 at *
    have rpd := rpd.keep (Same.tups st45)
    have rls := rls.keep (Same.tups st45)
    have rst := rst.keep (Same.tups st45)
    have rfr := rfr.keep (Same.tups st45)
    have rbk := rbk.keep (Same.tups st45)
    have rtk := rtk.keep (Same.tups st45)
    have rt1 := rt1.keep (Same.tups st45)
    have rt2 := rt2.keep (Same.tups st45)
    have rt3 := rt3.keep (Same.tups st45)
    have rt4 := rt4.keep (Same.tups st45)
    have rt6 := rt6.keep (Same.tups st45)
    have rt7 := rt7.keep (Same.tups st45)
    have rt8 := rt8.keep (Same.tups st45)
    have rt9 := rt9.keep (Same.tups st45)
    have rt10 := rt10.keep (Same.tups st45)
    have rt11 := rt11.keep (Same.tups st45)
    have rt12 := rt12.keep (Same.tups st45)
    have rt13 := rt13.keep (Same.tups st45)
    have rt16 := rt16.keep (Same.tups st45)
    have rt17 := rt17.keep (Same.tups st45)
    have rt18 := rt18.keep (Same.tups st45)
    have rt19 := rt19.keep (Same.tups st45)
    have rt20 := rt20.keep (Same.tups st45)
    have rt23 := rt23.keep (Same.tups st45)
    have rt24 := rt24.keep (Same.tups st45)
    have rq25 := rq25.keep (Same.tups st45)
    have rt26 := rt26.keep (Same.tups st45)
    have rt27 := rt27.keep (Same.tups st45)
    have rq28 := rq28.keep (Same.tups st45)
    have rc29 := rc29.keep (Same.tups st45)
    have rt30 := rt30.keep (Same.tups st45)
    have rt33 := rt33.keep (Same.tups st45)
    have rq34 := rq34.keep (Same.tups st45)
    have rc35 := rc35.keep (Same.tups st45)
    have rt36 := rt36.keep (Same.tups st45)
    have rq37 := rq37.keep (Same.tups st45)
    have rt38 := rt38.keep (Same.tups st45)
    have rt39 := rt39.keep (Same.tups st45)
    have rc40 := rc40.keep (Same.tups st45)
    have rt41 := rt41.keep (Same.tups st45)
    have rq44 := rq44.keep (Same.tups st45)
    have hfr := Cm.sameT st45 hfr
    have ht1 := Cm.sameT st45 ht1
    have ht2 := Cm.sameT st45 ht2
    have ht3 := Cm.sameT st45 ht3
    have ht4 := Cm.sameT st45 ht4
    have ht6 := Cm.sameT st45 ht6
    have ht7 := Cm.sameT st45 ht7
    have ht8 := Cm.sameT st45 ht8
    have ht9 := Cm.sameT st45 ht9
    have ht10 := Cm.sameT st45 ht10
    have ht11 := Cm.sameT st45 ht11
    have ht12 := Cm.sameT st45 ht12
    have ht13 := Cm.sameT st45 ht13
    have ht16 := Cm.sameT st45 ht16
    have ht17 := Cm.sameT st45 ht17
    have ht18 := Cm.sameT st45 ht18
    have ht19 := Cm.sameT st45 ht19
    have ht20 := Cm.sameT st45 ht20
    have ht23 := Cm.sameT st45 ht23
    have ht24 := Cm.sameT st45 ht24
    have hq25 := Cm.sameT st45 hq25
    have ht26 := Cm.sameT st45 ht26
    have ht27 := Cm.sameT st45 ht27
    have hq28 := Cm.sameT st45 hq28
    have hc29 := Cm.sameT st45 hc29
    have ht30 := Cm.sameT st45 ht30
    have ht33 := Cm.sameT st45 ht33
    have hq34 := Cm.sameT st45 hq34
    have hc35 := Cm.sameT st45 hc35
    have ht36 := Cm.sameT st45 ht36
    have hq37 := Cm.sameT st45 hq37
    have ht38 := Cm.sameT st45 ht38
    have ht39 := Cm.sameT st45 ht39
    have hc40 := Cm.sameT st45 hc40
    have ht41 := Cm.sameT st45 ht41
    have hq44 := Cm.sameT st45 hq44
    have hl5 := st45 _ _ hl5
    have hl14 := st45 _ _ hl14
    have hl15 := st45 _ _ hl15
    have hl21 := st45 _ _ hl21
    have hl22 := st45 _ _ hl22
    have hl31 := st45 _ _ hl31
    have hl32 := st45 _ _ hl32
    have hl42 := st45 _ _ hl42
    have hl43 := st45 _ _ hl43
    have sA := sA.trans st45
    refine ⟨Cm.small (by show 1 ≤ 100000; decide), fun t46 nt46 => ?_⟩
    have st46 := Cm.same_new (o := .tup [.ref t45]) nt46
    have rt46 : Rp K _ (.ref t46) (.tuple [.tuple [.str "int", .int 1]]) := Rp.made (K := K) nt46 ((.cons rt45 .nil) : Rps K H45 [.ref t45] _)
    have ht46 := Cm.sqt_new (K := K) (H := H45) (p := t46) (xs := [.ref t45])
    generalize L2.upd H45 t46 (.tup [.ref t45]) = H46 at *
    have rpd := rpd.keep (Same.tups st46)
    have rls := rls.keep (Same.tups st46)
    have rst := rst.keep (Same.tups st46)
    have rfr := rfr.keep (Same.tups st46)
    have rbk := rbk.keep (Same.tups st46)
    have rtk := rtk.keep (Same.tups st46)
    have rt1 := rt1.keep (Same.tups st46)
    have rt2 := rt2.keep (Same.tups st46)
    have rt3 := rt3.keep (Same.tups st46)
    have rt4 := rt4.keep (Same.tups st46)
    have rt6 := rt6.keep (Same.tups st46)
    have rt7 := rt7.keep (Same.tups st46)
    have rt8 := rt8.keep (Same.tups st46)
    have rt9 := rt9.keep (Same.tups st46)
    have rt10 := rt10.keep (Same.tups st46)
    have rt11 := rt11.keep (Same.tups st46)
    have rt12 := rt12.keep (Same.tups st46)
    have rt13 := rt13.keep (Same.tups st46)
    have rt16 := rt16.keep (Same.tups st46)
    have rt17 := rt17.keep (Same.tups st46)
    have rt18 := rt18.keep (Same.tups st46)
    have rt19 := rt19.keep (Same.tups st46)
    have rt20 := rt20.keep (Same.tups st46)
    have rt23 := rt23.keep (Same.tups st46)
    have rt24 := rt24.keep (Same.tups st46)
    have rq25 := rq25.keep (Same.tups st46)
    have rt26 := rt26.keep (Same.tups st46)
    have rt27 := rt27.keep (Same.tups st46)
    have rq28 := rq28.keep (Same.tups st46)
    have rc29 := rc29.keep (Same.tups st46)
    have rt30 := rt30.keep (Same.tups st46)
    have rt33 := rt33.keep (Same.tups st46)
    have rq34 := rq34.keep (Same.tups st46)
    have rc35 := rc35.keep (Same.tups st46)
    have rt36 := rt36.keep (Same.tups st46)
    have rq37 := rq37.keep (Same.tups st46)
    have rt38 := rt38.keep (Same.tups st46)
    have rt39 := rt39.keep (Same.tups st46)
    have rc40 := rc40.keep (Same.tups st46)
    have rt41 := rt41.keep (Same.tups st46)
    have rq44 := rq44.keep (Same.tups st46)
    have rt45 := rt45.keep (Same.tups st46)
    have hfr := Cm.sameT st46 hfr
    have ht1 := Cm.sameT st46 ht1
    have ht2 := Cm.sameT st46 ht2
    have ht3 := Cm.sameT st46 ht3
    have ht4 := Cm.sameT st46 ht4
    have ht6 := Cm.sameT st46 ht6
    have ht7 := Cm.sameT st46 ht7
    have ht8 := Cm.sameT st46 ht8
    have ht9 := Cm.sameT st46 ht9
    have ht10 := Cm.sameT st46 ht10
    have ht11 := Cm.sameT st46 ht11
    have ht12 := Cm.sameT st46 ht12
    have ht13 := Cm.sameT st46 ht13
    have ht16 := Cm.sameT st46 ht16
    have ht17 := Cm.sameT st46 ht17
    have ht18 := Cm.sameT st46 ht18
    have ht19 := Cm.sameT st46 ht19
    have ht20 := Cm.sameT st46 ht20
    have ht23 := Cm.sameT st46 ht23
    have ht24 := Cm.sameT st46 ht24
    have hq25 := Cm.sameT st46 hq25
    have ht26 := Cm.sameT st46 ht26
    have ht27 := Cm.sameT st46 ht27
    have hq28 := Cm.sameT st46 hq28
    have hc29 := Cm.sameT st46 hc29
    have ht30 := Cm.sameT st46 ht30
    have ht33 := Cm.sameT st46 ht33
    have hq34 := Cm.sameT st46 hq34
    have hc35 := Cm.sameT st46 hc35
    have ht36 := Cm.sameT st46 ht36
    have hq37 := Cm.sameT st46 hq37
    have ht38 := Cm.sameT st46 ht38
    have ht39 := Cm.sameT st46 ht39
    have hc40 := Cm.sameT st46 hc40
    have ht41 := Cm.sameT st46 ht41
    have hq44 := Cm.sameT st46 hq44
    have ht45 := Cm.sameT st46 ht45
    have hl5 := st46 _ _ hl5
    have hl14 := st46 _ _ hl14
    have hl15 := st46 _ _ hl15
    have hl21 := st46 _ _ hl21
    have hl22 := st46 _ _ hl22
    have hl31 := st46 _ _ hl31
    have hl32 := st46 _ _ hl32
    have hl42 := st46 _ _ hl42
    have hl43 := st46 _ _ hl43
    have sA := sA.trans st46
    refine ⟨Cm.small (by show 1 ≤ 100000; decide), fun t47 nt47 => ?_⟩
    have st47 := Cm.same_new (o := .tup [.ref t46]) nt47
    have rt47 : Rp K _ (.ref t47) (.tuple [.tuple [.tuple [.str "int", .int 1]]]) := Rp.made (K := K) nt47 ((.cons rt46 .nil) : Rps K H46 [.ref t46] _)
    have ht47 := Cm.sqt_new (K := K) (H := H46) (p := t47) (xs := [.ref t46])
    generalize L2.upd H46 t47 (.tup [.ref t46]) = H47 at *
    have rpd := rpd.keep (Same.tups st47)
    have rls := rls.keep (Same.tups st47)
    have rst := rst.keep (Same.tups st47)
    have rfr := rfr.keep (Same.tups st47)
    have rbk := rbk.keep (Same.tups st47)
    have rtk := rtk.keep (Same.tups st47)
    have rt1 := rt1.keep (Same.tups st47)
    have rt2 := rt2.keep (Same.tups st47)
    have rt3 := rt3.keep (Same.tups st47)
    have rt4 := rt4.keep (Same.tups st47)
    have rt6 := rt6.keep (Same.tups st47)
    have rt7 := rt7.keep (Same.tups st47)
    have rt8 := rt8.keep (Same.tups st47)
    have rt9 := rt9.keep (Same.tups st47)
    have rt10 := rt10.keep (Same.tups st47)
    have rt11 := rt11.keep (Same.tups st47)
    have rt12 := rt12.keep (Same.tups st47)
    have rt13 := rt13.keep (Same.tups st47)
    have rt16 := rt16.keep (Same.tups st47)
    have rt17 := rt17.keep (Same.tups st47)
    have rt18 := rt18.keep (Same.tups st47)
    have rt19 := rt19.keep (Same.tups st47)
    have rt20 := rt20.keep (Same.tups st47)
    have rt23 := rt23.keep (Same.tups st47)
    have rt24 := rt24.keep (Same.tups st47)
    have rq25 := rq25.keep (Same.tups st47)
    have rt26 := rt26.keep (Same.tups st47)
    have rt27 := rt27.keep (Same.tups st47)
    have rq28 := rq28.keep (Same.tups st47)
    have rc29 := rc29.keep (Same.tups st47)
    have rt30 := rt30.keep (Same.tups st47)
    have rt33 := rt33.keep (Same.tups st47)
    have rq34 := rq34.keep (Same.tups st47)
    have rc35 := rc35.keep (Same.tups st47)
    have rt36 := rt36.keep (Same.tups st47)
    have rq37 := rq37.keep (Same.tups st47)
    have rt38 := rt38.keep (Same.tups st47)
    have rt39 := rt39.keep (Same.tups st47)
    have rc40 := rc40.keep (Same.tups st47)
    have rt41 := rt41.keep (Same.tups st47)
    have rq44 := rq44.keep (Same.tups st47)
    have rt45 := rt45.keep (Same.tups st47)
    have rt46 := rt46.keep (Same.tups st47)
    have hfr := Cm.sameT st47 hfr
    have ht1 := Cm.sameT st47 ht1
    have ht2 := Cm.sameT st47 ht2
    have ht3 := Cm.sameT st47 ht3
    have ht4 := Cm.sameT st47 ht4
    have ht6 := Cm.sameT st47 ht6
    have ht7 := Cm.sameT st47 ht7
    have ht8 := Cm.sameT st47 ht8
    have ht9 := Cm.sameT st47 ht9
    have ht10 := Cm.sameT st47 ht10
    have ht11 := Cm.sameT st47 ht11
    have ht12 := Cm.sameT st47 ht12
    have ht13 := Cm.sameT st47 ht13
    have ht16 := Cm.sameT st47 ht16
    have ht17 := Cm.sameT st47 ht17
    have ht18 := Cm.sameT st47 ht18
    have ht19 := Cm.sameT st47 ht19
    have ht20 := Cm.sameT st47 ht20
    have ht23 := Cm.sameT st47 ht23
    have ht24 := Cm.sameT st47 ht24
    have hq25 := Cm.sameT st47 hq25
    have ht26 := Cm.sameT st47 ht26
    have ht27 := Cm.sameT st47 ht27
    have hq28 := Cm.sameT st47 hq28
    have hc29 := Cm.sameT st47 hc29
    have ht30 := Cm.sameT st47 ht30
    have ht33 := Cm.sameT st47 ht33
    have hq34 := Cm.sameT st47 hq34
    have hc35 := Cm.sameT st47 hc35
    have ht36 := Cm.sameT st47 ht36
    have hq37 := Cm.sameT st47 hq37
    have ht38 := Cm.sameT st47 ht38
    have ht39 := Cm.sameT st47 ht39
    have hc40 := Cm.sameT st47 hc40
    have ht41 := Cm.sameT st47 ht41
    have hq44 := Cm.sameT st47 hq44
    have ht45 := Cm.sameT st47 ht45
    have ht46 := Cm.sameT st47 ht46
    have hl5 := st47 _ _ hl5
    have hl14 := st47 _ _ hl14
    have hl15 := st47 _ _ hl15
    have hl21 := st47 _ _ hl21
    have hl22 := st47 _ _ hl22
    have hl31 := st47 _ _ hl31
    have hl32 := st47 _ _ hl32
    have hl42 := st47 _ _ hl42
    have hl43 := st47 _ _ hl43
    have sA := sA.trans st47
    refine Nst.cat_sq hq44 ht47 (by show 4 ≤ 100000; decide) fun c48 H48 sc48 hc48 => ?_
    have hc48 : SqT K H48 c48 [.str e.op, .int e.i, f3, .ref t46] := hc48
    have rpd := rpd.keep (Same.tups sc48)
    have rls := rls.keep (Same.tups sc48)
    have rst := rst.keep (Same.tups sc48)
    have rfr := rfr.keep (Same.tups sc48)
    have rbk := rbk.keep (Same.tups sc48)
    have rtk := rtk.keep (Same.tups sc48)
    have rt1 := rt1.keep (Same.tups sc48)
    have rt2 := rt2.keep (Same.tups sc48)
    have rt3 := rt3.keep (Same.tups sc48)
    have rt4 := rt4.keep (Same.tups sc48)
    have rt6 := rt6.keep (Same.tups sc48)
    have rt7 := rt7.keep (Same.tups sc48)
    have rt8 := rt8.keep (Same.tups sc48)
    have rt9 := rt9.keep (Same.tups sc48)
    have rt10 := rt10.keep (Same.tups sc48)
    have rt11 := rt11.keep (Same.tups sc48)
    have rt12 := rt12.keep (Same.tups sc48)
    have rt13 := rt13.keep (Same.tups sc48)
    have rt16 := rt16.keep (Same.tups sc48)
    have rt17 := rt17.keep (Same.tups sc48)
    have rt18 := rt18.keep (Same.tups sc48)
    have rt19 := rt19.keep (Same.tups sc48)
    have rt20 := rt20.keep (Same.tups sc48)
    have rt23 := rt23.keep (Same.tups sc48)
    have rt24 := rt24.keep (Same.tups sc48)
    have rq25 := rq25.keep (Same.tups sc48)
    have rt26 := rt26.keep (Same.tups sc48)
    have rt27 := rt27.keep (Same.tups sc48)
    have rq28 := rq28.keep (Same.tups sc48)
    have rc29 := rc29.keep (Same.tups sc48)
    have rt30 := rt30.keep (Same.tups sc48)
    have rt33 := rt33.keep (Same.tups sc48)
    have rq34 := rq34.keep (Same.tups sc48)
    have rc35 := rc35.keep (Same.tups sc48)
    have rt36 := rt36.keep (Same.tups sc48)
    have rq37 := rq37.keep (Same.tups sc48)
    have rt38 := rt38.keep (Same.tups sc48)
    have rt39 := rt39.keep (Same.tups sc48)
    have rc40 := rc40.keep (Same.tups sc48)
    have rt41 := rt41.keep (Same.tups sc48)
    have rq44 := rq44.keep (Same.tups sc48)
    have rt45 := rt45.keep (Same.tups sc48)
    have rt46 := rt46.keep (Same.tups sc48)
    have rt47 := rt47.keep (Same.tups sc48)
    have hfr := Cm.sameT sc48 hfr
    have ht1 := Cm.sameT sc48 ht1
    have ht2 := Cm.sameT sc48 ht2
    have ht3 := Cm.sameT sc48 ht3
    have ht4 := Cm.sameT sc48 ht4
    have ht6 := Cm.sameT sc48 ht6
    have ht7 := Cm.sameT sc48 ht7
    have ht8 := Cm.sameT sc48 ht8
    have ht9 := Cm.sameT sc48 ht9
    have ht10 := Cm.sameT sc48 ht10
    have ht11 := Cm.sameT sc48 ht11
    have ht12 := Cm.sameT sc48 ht12
    have ht13 := Cm.sameT sc48 ht13
    have ht16 := Cm.sameT sc48 ht16
    have ht17 := Cm.sameT sc48 ht17
    have ht18 := Cm.sameT sc48 ht18
    have ht19 := Cm.sameT sc48 ht19
    have ht20 := Cm.sameT sc48 ht20
    have ht23 := Cm.sameT sc48 ht23
    have ht24 := Cm.sameT sc48 ht24
    have hq25 := Cm.sameT sc48 hq25
    have ht26 := Cm.sameT sc48 ht26
    have ht27 := Cm.sameT sc48 ht27
    have hq28 := Cm.sameT sc48 hq28
    have hc29 := Cm.sameT sc48 hc29
    have ht30 := Cm.sameT sc48 ht30
    have ht33 := Cm.sameT sc48 ht33
    have hq34 := Cm.sameT sc48 hq34
    have hc35 := Cm.sameT sc48 hc35
    have ht36 := Cm.sameT sc48 ht36
    have hq37 := Cm.sameT sc48 hq37
    have ht38 := Cm.sameT sc48 ht38
    have ht39 := Cm.sameT sc48 ht39
    have hc40 := Cm.sameT sc48 hc40
    have ht41 := Cm.sameT sc48 ht41
    have hq44 := Cm.sameT sc48 hq44
    have ht45 := Cm.sameT sc48 ht45
    have ht46 := Cm.sameT sc48 ht46
    have ht47 := Cm.sameT sc48 ht47
    have hl5 := sc48 _ _ hl5
    have hl14 := sc48 _ _ hl14
    have hl15 := sc48 _ _ hl15
    have hl21 := sc48 _ _ hl21
    have hl22 := sc48 _ _ hl22
    have hl31 := sc48 _ _ hl31
    have hl32 := sc48 _ _ hl32
    have hl42 := sc48 _ _ hl42
    have hl43 := sc48 _ _ hl43
    have sA := sA.trans sc48
    have rc48 : Rp K H48 (.ref c48) (.tuple [.str e.op, .int e.i, e.ls, .tuple [.tuple [.str "int", .int 1]]]) := .tup hc48 (.cons (.str _) (.cons (.int _) (.cons rls (.cons rt46 .nil))))
    refine ⟨_, rfl, _, rfl, _, rfl, Cm.small (by show 6 ≤ 100000; decide), fun t49 nt49 => ?_⟩
    have st49 := Cm.same_new (o := .tup [w1, .int e.dep, .ref c48, w4, w5, .str e.wd]) nt49
    have rt49 : Rp K _ (.ref t49) (.tuple [e.pd, .int e.dep, .tuple [.str e.op, .int e.i, e.ls, .tuple [.tuple [.str "int", .int 1]]], e.back, e.tok, .str e.wd]) := Rp.made (K := K) nt49 ((.cons rpd (.cons (.int _) (.cons rc48 (.cons rbk (.cons rtk (.cons (.str _) .nil)))))) : Rps K H48 [w1, .int e.dep, .ref c48, w4, w5, .str e.wd] _)
    have ht49 := Cm.sqt_new (K := K) (H := H48) (p := t49) (xs := [w1, .int e.dep, .ref c48, w4, w5, .str e.wd])
    generalize L2.upd H48 t49 (.tup [w1, .int e.dep, .ref c48, w4, w5, .str e.wd]) = H49 at *
    have rpd := rpd.keep (Same.tups st49)
    have rls := rls.keep (Same.tups st49)
    have rst := rst.keep (Same.tups st49)
    have rfr := rfr.keep (Same.tups st49)
    have rbk := rbk.keep (Same.tups st49)
    have rtk := rtk.keep (Same.tups st49)
    have rt1 := rt1.keep (Same.tups st49)
    have rt2 := rt2.keep (Same.tups st49)
    have rt3 := rt3.keep (Same.tups st49)
    have rt4 := rt4.keep (Same.tups st49)
    have rt6 := rt6.keep (Same.tups st49)
    have rt7 := rt7.keep (Same.tups st49)
    have rt8 := rt8.keep (Same.tups st49)
    have rt9 := rt9.keep (Same.tups st49)
    have rt10 := rt10.keep (Same.tups st49)
    have rt11 := rt11.keep (Same.tups st49)
    have rt12 := rt12.keep (Same.tups st49)
    have rt13 := rt13.keep (Same.tups st49)
    have rt16 := rt16.keep (Same.tups st49)
    have rt17 := rt17.keep (Same.tups st49)
    have rt18 := rt18.keep (Same.tups st49)
    have rt19 := rt19.keep (Same.tups st49)
    have rt20 := rt20.keep (Same.tups st49)
    have rt23 := rt23.keep (Same.tups st49)
    have rt24 := rt24.keep (Same.tups st49)
    have rq25 := rq25.keep (Same.tups st49)
    have rt26 := rt26.keep (Same.tups st49)
    have rt27 := rt27.keep (Same.tups st49)
    have rq28 := rq28.keep (Same.tups st49)
    have rc29 := rc29.keep (Same.tups st49)
    have rt30 := rt30.keep (Same.tups st49)
    have rt33 := rt33.keep (Same.tups st49)
    have rq34 := rq34.keep (Same.tups st49)
    have rc35 := rc35.keep (Same.tups st49)
    have rt36 := rt36.keep (Same.tups st49)
    have rq37 := rq37.keep (Same.tups st49)
    have rt38 := rt38.keep (Same.tups st49)
    have rt39 := rt39.keep (Same.tups st49)
    have rc40 := rc40.keep (Same.tups st49)
    have rt41 := rt41.keep (Same.tups st49)
    have rq44 := rq44.keep (Same.tups st49)
    have rt45 := rt45.keep (Same.tups st49)
    have rt46 := rt46.keep (Same.tups st49)
    have rt47 := rt47.keep (Same.tups st49)
    have rc48 := rc48.keep (Same.tups st49)
    have hfr := Cm.sameT st49 hfr
    have ht1 := Cm.sameT st49 ht1
    have ht2 := Cm.sameT st49 ht2
    have ht3 := Cm.sameT st49 ht3
    have ht4 := Cm.sameT st49 ht4
    have ht6 := Cm.sameT st49 ht6
    have ht7 := Cm.sameT st49 ht7
    have ht8 := Cm.sameT st49 ht8
    have ht9 := Cm.sameT st49 ht9
    have ht10 := Cm.sameT st49 ht10
    have ht11 := Cm.sameT st49 ht11
    have ht12 := Cm.sameT st49 ht12
    have ht13 := Cm.sameT st49 ht13
    have ht16 := Cm.sameT st49 ht16
    have ht17 := Cm.sameT st49 ht17
    have ht18 := Cm.sameT st49 ht18
    have ht19 := Cm.sameT st49 ht19
    have ht20 := Cm.sameT st49 ht20
    have ht23 := Cm.sameT st49 ht23
    have ht24 := Cm.sameT st49 ht24
    have hq25 := Cm.sameT st49 hq25
    have ht26 := Cm.sameT st49 ht26
    have ht27 := Cm.sameT st49 ht27
    have hq28 := Cm.sameT st49 hq28
    have hc29 := Cm.sameT st49 hc29
    have ht30 := Cm.sameT st49 ht30
    have ht33 := Cm.sameT st49 ht33
    have hq34 := Cm.sameT st49 hq34
    have hc35 := Cm.sameT st49 hc35
    have ht36 := Cm.sameT st49 ht36
    have hq37 := Cm.sameT st49 hq37
    have ht38 := Cm.sameT st49 ht38
    have ht39 := Cm.sameT st49 ht39
    have hc40 := Cm.sameT st49 hc40
    have ht41 := Cm.sameT st49 ht41
    have hq44 := Cm.sameT st49 hq44
    have ht45 := Cm.sameT st49 ht45
    have ht46 := Cm.sameT st49 ht46
    have ht47 := Cm.sameT st49 ht47
    have hc48 := Cm.sameT st49 hc48
    have hl5 := st49 _ _ hl5
    have hl14 := st49 _ _ hl14
    have hl15 := st49 _ _ hl15
    have hl21 := st49 _ _ hl21
    have hl22 := st49 _ _ hl22
    have hl31 := st49 _ _ hl31
    have hl32 := st49 _ _ hl32
    have hl42 := st49 _ _ hl42
    have hl43 := st49 _ _ hl43
    have sA := sA.trans st49
    refine ⟨_, rfl, _, _, rfl, rfl, ⟨by decide, by decide, by decide⟩, _, _, rfl, rfl, _, rfl, Nat.zero_le _, fun t50 nt50 => ?_⟩
    have st50 := Cm.same_new (o := .tup []) nt50
    have rt50 : Rp K _ (.ref t50) (.tuple []) := Rp.made (K := K) nt50 (.nil : Rps K H49 [] _)
    have ht50 := Cm.sqt_new (K := K) (H := H49) (p := t50) (xs := [])
    generalize L2.upd H49 t50 (.tup []) = H50 at *
    have rpd := rpd.keep (Same.tups st50)
    have rls := rls.keep (Same.tups st50)
    have rst := rst.keep (Same.tups st50)
    have rfr := rfr.keep (Same.tups st50)
    have rbk := rbk.keep (Same.tups st50)
    have rtk := rtk.keep (Same.tups st50)
    have rt1 := rt1.keep (Same.tups st50)
    have rt2 := rt2.keep (Same.tups st50)
    have rt3 := rt3.keep (Same.tups st50)
    have rt4 := rt4.keep (Same.tups st50)
    have rt6 := rt6.keep (Same.tups st50)
    have rt7 := rt7.keep (Same.tups st50)
    have rt8 := rt8.keep (Same.tups st50)
    have rt9 := rt9.keep (Same.tups st50)
    have rt10 := rt10.keep (Same.tups st50)
    have rt11 := rt11.keep (Same.tups st50)
    have rt12 := rt12.keep (Same.tups st50)
    have rt13 := rt13.keep (Same.tups st50)
    have rt16 := rt16.keep (Same.tups st50)
    have rt17 := rt17.keep (Same.tups st50)
    have rt18 := rt18.keep (Same.tups st50)
    have rt19 := rt19.keep (Same.tups st50)
    have rt20 := rt20.keep (Same.tups st50)
    have rt23 := rt23.keep (Same.tups st50)
    have rt24 := rt24.keep (Same.tups st50)
    have rq25 := rq25.keep (Same.tups st50)
    have rt26 := rt26.keep (Same.tups st50)
    have rt27 := rt27.keep (Same.tups st50)
    have rq28 := rq28.keep (Same.tups st50)
    have rc29 := rc29.keep (Same.tups st50)
    have rt30 := rt30.keep (Same.tups st50)
    have rt33 := rt33.keep (Same.tups st50)
    have rq34 := rq34.keep (Same.tups st50)
    have rc35 := rc35.keep (Same.tups st50)
    have rt36 := rt36.keep (Same.tups st50)
    have rq37 := rq37.keep (Same.tups st50)
    have rt38 := rt38.keep (Same.tups st50)
    have rt39 := rt39.keep (Same.tups st50)
    have rc40 := rc40.keep (Same.tups st50)
    have rt41 := rt41.keep (Same.tups st50)
    have rq44 := rq44.keep (Same.tups st50)
    have rt45 := rt45.keep (Same.tups st50)
    have rt46 := rt46.keep (Same.tups st50)
    have rt47 := rt47.keep (Same.tups st50)
    have rc48 := rc48.keep (Same.tups st50)
    have rt49 := rt49.keep (Same.tups st50)
    have hfr := Cm.sameT st50 hfr
    have ht1 := Cm.sameT st50 ht1
    have ht2 := Cm.sameT st50 ht2
    have ht3 := Cm.sameT st50 ht3
    have ht4 := Cm.sameT st50 ht4
    have ht6 := Cm.sameT st50 ht6
    have ht7 := Cm.sameT st50 ht7
    have ht8 := Cm.sameT st50 ht8
    have ht9 := Cm.sameT st50 ht9
    have ht10 := Cm.sameT st50 ht10
    have ht11 := Cm.sameT st50 ht11
    have ht12 := Cm.sameT st50 ht12
    have ht13 := Cm.sameT st50 ht13
    have ht16 := Cm.sameT st50 ht16
    have ht17 := Cm.sameT st50 ht17
    have ht18 := Cm.sameT st50 ht18
    have ht19 := Cm.sameT st50 ht19
    have ht20 := Cm.sameT st50 ht20
    have ht23 := Cm.sameT st50 ht23
    have ht24 := Cm.sameT st50 ht24
    have hq25 := Cm.sameT st50 hq25
    have ht26 := Cm.sameT st50 ht26
    have ht27 := Cm.sameT st50 ht27
    have hq28 := Cm.sameT st50 hq28
    have hc29 := Cm.sameT st50 hc29
    have ht30 := Cm.sameT st50 ht30
    have ht33 := Cm.sameT st50 ht33
    have hq34 := Cm.sameT st50 hq34
    have hc35 := Cm.sameT st50 hc35
    have ht36 := Cm.sameT st50 ht36
    have hq37 := Cm.sameT st50 hq37
    have ht38 := Cm.sameT st50 ht38
    have ht39 := Cm.sameT st50 ht39
    have hc40 := Cm.sameT st50 hc40
    have ht41 := Cm.sameT st50 ht41
    have hq44 := Cm.sameT st50 hq44
    have ht45 := Cm.sameT st50 ht45
    have ht46 := Cm.sameT st50 ht46
    have ht47 := Cm.sameT st50 ht47
    have hc48 := Cm.sameT st50 hc48
    have ht49 := Cm.sameT st50 ht49
    have hl5 := st50 _ _ hl5
    have hl14 := st50 _ _ hl14
    have hl15 := st50 _ _ hl15
    have hl21 := st50 _ _ hl21
    have hl22 := st50 _ _ hl22
    have hl31 := st50 _ _ hl31
    have hl32 := st50 _ _ hl32
    have hl42 := st50 _ _ hl42
    have hl43 := st50 _ _ hl43
    have sA := sA.trans st50
    refine ⟨Cm.small (by show 2 ≤ 100000; decide), fun t51 nt51 => ?_⟩
    have st51 := Cm.same_new (o := .tup [.ref t50, .int 0]) nt51
    have rt51 : Rp K _ (.ref t51) (.tuple [.tuple [], .int 0]) := Rp.made (K := K) nt51 ((.cons rt50 (.cons (.int _) .nil)) : Rps K H50 [.ref t50, .int 0] _)
    have ht51 := Cm.sqt_new (K := K) (H := H50) (p := t51) (xs := [.ref t50, .int 0])
    generalize L2.upd H50 t51 (.tup [.ref t50, .int 0]) = H51 at *
    have rpd := rpd.keep (Same.tups st51)
    have rls := rls.keep (Same.tups st51)
    have rst := rst.keep (Same.tups st51)
    have rfr := rfr.keep (Same.tups st51)
    have rbk := rbk.keep (Same.tups st51)
    have rtk := rtk.keep (Same.tups st51)
    have rt1 := rt1.keep (Same.tups st51)
    have rt2 := rt2.keep (Same.tups st51)
    have rt3 := rt3.keep (Same.tups st51)
    have rt4 := rt4.keep (Same.tups st51)
    have rt6 := rt6.keep (Same.tups st51)
    have rt7 := rt7.keep (Same.tups st51)
    have rt8 := rt8.keep (Same.tups st51)
    have rt9 := rt9.keep (Same.tups st51)
    have rt10 := rt10.keep (Same.tups st51)
    have rt11 := rt11.keep (Same.tups st51)
    have rt12 := rt12.keep (Same.tups st51)
    have rt13 := rt13.keep (Same.tups st51)
    have rt16 := rt16.keep (Same.tups st51)
    have rt17 := rt17.keep (Same.tups st51)
    have rt18 := rt18.keep (Same.tups st51)
    have rt19 := rt19.keep (Same.tups st51)
    have rt20 := rt20.keep (Same.tups st51)
    have rt23 := rt23.keep (Same.tups st51)
    have rt24 := rt24.keep (Same.tups st51)
    have rq25 := rq25.keep (Same.tups st51)
    have rt26 := rt26.keep (Same.tups st51)
    have rt27 := rt27.keep (Same.tups st51)
    have rq28 := rq28.keep (Same.tups st51)
    have rc29 := rc29.keep (Same.tups st51)
    have rt30 := rt30.keep (Same.tups st51)
    have rt33 := rt33.keep (Same.tups st51)
    have rq34 := rq34.keep (Same.tups st51)
    have rc35 := rc35.keep (Same.tups st51)
    have rt36 := rt36.keep (Same.tups st51)
    have rq37 := rq37.keep (Same.tups st51)
    have rt38 := rt38.keep (Same.tups st51)
    have rt39 := rt39.keep (Same.tups st51)
    have rc40 := rc40.keep (Same.tups st51)
    have rt41 := rt41.keep (Same.tups st51)
    have rq44 := rq44.keep (Same.tups st51)
    have rt45 := rt45.keep (Same.tups st51)
    have rt46 := rt46.keep (Same.tups st51)
    have rt47 := rt47.keep (Same.tups st51)
    have rc48 := rc48.keep (Same.tups st51)
    have rt49 := rt49.keep (Same.tups st51)
    have rt50 := rt50.keep (Same.tups st51)
    have hfr := Cm.sameT st51 hfr
    have ht1 := Cm.sameT st51 ht1
    have ht2 := Cm.sameT st51 ht2
    have ht3 := Cm.sameT st51 ht3
    have ht4 := Cm.sameT st51 ht4
    have ht6 := Cm.sameT st51 ht6
    have ht7 := Cm.sameT st51 ht7
    have ht8 := Cm.sameT st51 ht8
    have ht9 := Cm.sameT st51 ht9
    have ht10 := Cm.sameT st51 ht10
    have ht11 := Cm.sameT st51 ht11
    have ht12 := Cm.sameT st51 ht12
    have ht13 := Cm.sameT st51 ht13
    have ht16 := Cm.sameT st51 ht16
    have ht17 := Cm.sameT st51 ht17
    have ht18 := Cm.sameT st51 ht18
    have ht19 := Cm.sameT st51 ht19
    have ht20 := Cm.sameT st51 ht20
    have ht23 := Cm.sameT st51 ht23
    have ht24 := Cm.sameT st51 ht24
    have hq25 := Cm.sameT st51 hq25
    have ht26 := Cm.sameT st51 ht26
    have ht27 := Cm.sameT st51 ht27
    have hq28 := Cm.sameT st51 hq28
    have hc29 := Cm.sameT st51 hc29
    have ht30 := Cm.sameT st51 ht30
    have ht33 := Cm.sameT st51 ht33
    have hq34 := Cm.sameT st51 hq34
    have hc35 := Cm.sameT st51 hc35
    have ht36 := Cm.sameT st51 ht36
    have hq37 := Cm.sameT st51 hq37
    have ht38 := Cm.sameT st51 ht38
    have ht39 := Cm.sameT st51 ht39
    have hc40 := Cm.sameT st51 hc40
    have ht41 := Cm.sameT st51 ht41
    have hq44 := Cm.sameT st51 hq44
    have ht45 := Cm.sameT st51 ht45
    have ht46 := Cm.sameT st51 ht46
    have ht47 := Cm.sameT st51 ht47
    have hc48 := Cm.sameT st51 hc48
    have ht49 := Cm.sameT st51 ht49
    have ht50 := Cm.sameT st51 ht50
    have hl5 := st51 _ _ hl5
    have hl14 := st51 _ _ hl14
    have hl15 := st51 _ _ hl15
    have hl21 := st51 _ _ hl21
    have hl22 := st51 _ _ hl22
    have hl31 := st51 _ _ hl31
    have hl32 := st51 _ _ hl32
    have hl42 := st51 _ _ hl42
    have hl43 := st51 _ _ hl43
    have sA := sA.trans st51
    refine ⟨_, rfl, _, rfl, Cm.small (by show 6 ≤ 100000; decide), fun t52 nt52 => ?_⟩
    have st52 := Cm.same_new (o := .tup [w1, .int (10 ^ (12 : Int).toNat + 1), .ref fa, .ref t51, w5, .str e.wd]) nt52
    have rt52 : Rp K _ (.ref t52) (.tuple [e.pd, .int (10 ^ (12 : Int).toNat + 1), e.fr, .tuple [.tuple [], .int 0], e.tok, .str e.wd]) := Rp.made (K := K) nt52 ((.cons rpd (.cons (.int _) (.cons rfr (.cons rt51 (.cons rtk (.cons (.str _) .nil)))))) : Rps K H51 [w1, .int (10 ^ (12 : Int).toNat + 1), .ref fa, .ref t51, w5, .str e.wd] _)
    have ht52 := Cm.sqt_new (K := K) (H := H51) (p := t52) (xs := [w1, .int (10 ^ (12 : Int).toNat + 1), .ref fa, .ref t51, w5, .str e.wd])
    generalize L2.upd H51 t52 (.tup [w1, .int (10 ^ (12 : Int).toNat + 1), .ref fa, .ref t51, w5, .str e.wd]) = H52 at *
    have rpd := rpd.keep (Same.tups st52)
    have rls := rls.keep (Same.tups st52)
    have rst := rst.keep (Same.tups st52)
    have rfr := rfr.keep (Same.tups st52)
    have rbk := rbk.keep (Same.tups st52)
    have rtk := rtk.keep (Same.tups st52)
    have rt1 := rt1.keep (Same.tups st52)
    have rt2 := rt2.keep (Same.tups st52)
    have rt3 := rt3.keep (Same.tups st52)
    have rt4 := rt4.keep (Same.tups st52)
    have rt6 := rt6.keep (Same.tups st52)
    have rt7 := rt7.keep (Same.tups st52)
    have rt8 := rt8.keep (Same.tups st52)
    have rt9 := rt9.keep (Same.tups st52)
    have rt10 := rt10.keep (Same.tups st52)
    have rt11 := rt11.keep (Same.tups st52)
    have rt12 := rt12.keep (Same.tups st52)
    have rt13 := rt13.keep (Same.tups st52)
    have rt16 := rt16.keep (Same.tups st52)
    have rt17 := rt17.keep (Same.tups st52)
    have rt18 := rt18.keep (Same.tups st52)
    have rt19 := rt19.keep (Same.tups st52)
    have rt20 := rt20.keep (Same.tups st52)
    have rt23 := rt23.keep (Same.tups st52)
    have rt24 := rt24.keep (Same.tups st52)
    have rq25 := rq25.keep (Same.tups st52)
    have rt26 := rt26.keep (Same.tups st52)
    have rt27 := rt27.keep (Same.tups st52)
    have rq28 := rq28.keep (Same.tups st52)
    have rc29 := rc29.keep (Same.tups st52)
    have rt30 := rt30.keep (Same.tups st52)
    have rt33 := rt33.keep (Same.tups st52)
    have rq34 := rq34.keep (Same.tups st52)
    have rc35 := rc35.keep (Same.tups st52)
    have rt36 := rt36.keep (Same.tups st52)
    have rq37 := rq37.keep (Same.tups st52)
    have rt38 := rt38.keep (Same.tups st52)
    have rt39 := rt39.keep (Same.tups st52)
    have rc40 := rc40.keep (Same.tups st52)
    have rt41 := rt41.keep (Same.tups st52)
    have rq44 := rq44.keep (Same.tups st52)
    have rt45 := rt45.keep (Same.tups st52)
    have rt46 := rt46.keep (Same.tups st52)
    have rt47 := rt47.keep (Same.tups st52)
    have rc48 := rc48.keep (Same.tups st52)
    have rt49 := rt49.keep (Same.tups st52)
    have rt50 := rt50.keep (Same.tups st52)
    have rt51 := rt51.keep (Same.tups st52)
    have hfr := Cm.sameT st52 hfr
    have ht1 := Cm.sameT st52 ht1
    have ht2 := Cm.sameT st52 ht2
    have ht3 := Cm.sameT st52 ht3
    have ht4 := Cm.sameT st52 ht4
    have ht6 := Cm.sameT st52 ht6
    have ht7 := Cm.sameT st52 ht7
    have ht8 := Cm.sameT st52 ht8
    have ht9 := Cm.sameT st52 ht9
    have ht10 := Cm.sameT st52 ht10
    have ht11 := Cm.sameT st52 ht11
    have ht12 := Cm.sameT st52 ht12
    have ht13 := Cm.sameT st52 ht13
    have ht16 := Cm.sameT st52 ht16
    have ht17 := Cm.sameT st52 ht17
    have ht18 := Cm.sameT st52 ht18
    have ht19 := Cm.sameT st52 ht19
    have ht20 := Cm.sameT st52 ht20
    have ht23 := Cm.sameT st52 ht23
    have ht24 := Cm.sameT st52 ht24
    have hq25 := Cm.sameT st52 hq25
    have ht26 := Cm.sameT st52 ht26
    have ht27 := Cm.sameT st52 ht27
    have hq28 := Cm.sameT st52 hq28
    have hc29 := Cm.sameT st52 hc29
    have ht30 := Cm.sameT st52 ht30
    have ht33 := Cm.sameT st52 ht33
    have hq34 := Cm.sameT st52 hq34
    have hc35 := Cm.sameT st52 hc35
    have ht36 := Cm.sameT st52 ht36
    have hq37 := Cm.sameT st52 hq37
    have ht38 := Cm.sameT st52 ht38
    have ht39 := Cm.sameT st52 ht39
    have hc40 := Cm.sameT st52 hc40
    have ht41 := Cm.sameT st52 ht41
    have hq44 := Cm.sameT st52 hq44
    have ht45 := Cm.sameT st52 ht45
    have ht46 := Cm.sameT st52 ht46
    have ht47 := Cm.sameT st52 ht47
    have hc48 := Cm.sameT st52 hc48
    have ht49 := Cm.sameT st52 ht49
    have ht50 := Cm.sameT st52 ht50
    have ht51 := Cm.sameT st52 ht51
    have hl5 := st52 _ _ hl5
    have hl14 := st52 _ _ hl14
    have hl15 := st52 _ _ hl15
    have hl21 := st52 _ _ hl21
    have hl22 := st52 _ _ hl22
    have hl31 := st52 _ _ hl31
    have hl32 := st52 _ _ hl32
    have hl42 := st52 _ _ hl42
    have hl43 := st52 _ _ hl43
    have sA := sA.trans st52
    refine ⟨Cm.small (by show 3 ≤ 100000; decide), fun l53 nl53 => ?_⟩
    have sl53 := Cm.same_new (o := .lst [.ref t49, .ref t52, .int 7]) nl53
    have hl53 : (L2.upd H52 l53 (.lst [.ref t49, .ref t52, .int 7])) l53 = some (.lst [.ref t49, .ref t52, .int 7]) := upd_same
    generalize L2.upd H52 l53 (.lst [.ref t49, .ref t52, .int 7]) = H53 at *
    have rpd := rpd.keep (Same.tups sl53)
    have rls := rls.keep (Same.tups sl53)
    have rst := rst.keep (Same.tups sl53)
    have rfr := rfr.keep (Same.tups sl53)
    have rbk := rbk.keep (Same.tups sl53)
    have rtk := rtk.keep (Same.tups sl53)
    have rt1 := rt1.keep (Same.tups sl53)
    have rt2 := rt2.keep (Same.tups sl53)
    have rt3 := rt3.keep (Same.tups sl53)
    have rt4 := rt4.keep (Same.tups sl53)
    have rt6 := rt6.keep (Same.tups sl53)
    have rt7 := rt7.keep (Same.tups sl53)
    have rt8 := rt8.keep (Same.tups sl53)
    have rt9 := rt9.keep (Same.tups sl53)
    have rt10 := rt10.keep (Same.tups sl53)
    have rt11 := rt11.keep (Same.tups sl53)
    have rt12 := rt12.keep (Same.tups sl53)
    have rt13 := rt13.keep (Same.tups sl53)
    have rt16 := rt16.keep (Same.tups sl53)
    have rt17 := rt17.keep (Same.tups sl53)
    have rt18 := rt18.keep (Same.tups sl53)
    have rt19 := rt19.keep (Same.tups sl53)
    have rt20 := rt20.keep (Same.tups sl53)
    have rt23 := rt23.keep (Same.tups sl53)
    have rt24 := rt24.keep (Same.tups sl53)
    have rq25 := rq25.keep (Same.tups sl53)
    have rt26 := rt26.keep (Same.tups sl53)
    have rt27 := rt27.keep (Same.tups sl53)
    have rq28 := rq28.keep (Same.tups sl53)
    have rc29 := rc29.keep (Same.tups sl53)
    have rt30 := rt30.keep (Same.tups sl53)
    have rt33 := rt33.keep (Same.tups sl53)
    have rq34 := rq34.keep (Same.tups sl53)
    have rc35 := rc35.keep (Same.tups sl53)
    have rt36 := rt36.keep (Same.tups sl53)
    have rq37 := rq37.keep (Same.tups sl53)
    have rt38 := rt38.keep (Same.tups sl53)
    have rt39 := rt39.keep (Same.tups sl53)
    have rc40 := rc40.keep (Same.tups sl53)
    have rt41 := rt41.keep (Same.tups sl53)
    have rq44 := rq44.keep (Same.tups sl53)
    have rt45 := rt45.keep (Same.tups sl53)
    have rt46 := rt46.keep (Same.tups sl53)
    have rt47 := rt47.keep (Same.tups sl53)
    have rc48 := rc48.keep (Same.tups sl53)
    have rt49 := rt49.keep (Same.tups sl53)
    have rt50 := rt50.keep (Same.tups sl53)
    have rt51 := rt51.keep (Same.tups sl53)
    have rt52 := rt52.keep (Same.tups sl53)
    have hfr := Cm.sameT sl53 hfr
    have ht1 := Cm.sameT sl53 ht1
    have ht2 := Cm.sameT sl53 ht2
    have ht3 := Cm.sameT sl53 ht3
    have ht4 := Cm.sameT sl53 ht4
    have ht6 := Cm.sameT sl53 ht6
    have ht7 := Cm.sameT sl53 ht7
    have ht8 := Cm.sameT sl53 ht8
    have ht9 := Cm.sameT sl53 ht9
    have ht10 := Cm.sameT sl53 ht10
    have ht11 := Cm.sameT sl53 ht11
    have ht12 := Cm.sameT sl53 ht12
    have ht13 := Cm.sameT sl53 ht13
    have ht16 := Cm.sameT sl53 ht16
    have ht17 := Cm.sameT sl53 ht17
    have ht18 := Cm.sameT sl53 ht18
    have ht19 := Cm.sameT sl53 ht19
    have ht20 := Cm.sameT sl53 ht20
    have ht23 := Cm.sameT sl53 ht23
    have ht24 := Cm.sameT sl53 ht24
    have hq25 := Cm.sameT sl53 hq25
    have ht26 := Cm.sameT sl53 ht26
    have ht27 := Cm.sameT sl53 ht27
    have hq28 := Cm.sameT sl53 hq28
    have hc29 := Cm.sameT sl53 hc29
    have ht30 := Cm.sameT sl53 ht30
    have ht33 := Cm.sameT sl53 ht33
    have hq34 := Cm.sameT sl53 hq34
    have hc35 := Cm.sameT sl53 hc35
    have ht36 := Cm.sameT sl53 ht36
    have hq37 := Cm.sameT sl53 hq37
    have ht38 := Cm.sameT sl53 ht38
    have ht39 := Cm.sameT sl53 ht39
    have hc40 := Cm.sameT sl53 hc40
    have ht41 := Cm.sameT sl53 ht41
    have hq44 := Cm.sameT sl53 hq44
    have ht45 := Cm.sameT sl53 ht45
    have ht46 := Cm.sameT sl53 ht46
    have ht47 := Cm.sameT sl53 ht47
    have hc48 := Cm.sameT sl53 hc48
    have ht49 := Cm.sameT sl53 ht49
    have ht50 := Cm.sameT sl53 ht50
    have ht51 := Cm.sameT sl53 ht51
    have ht52 := Cm.sameT sl53 ht52
    have hl5 := sl53 _ _ hl5
    have hl14 := sl53 _ _ hl14
    have hl15 := sl53 _ _ hl15
    have hl21 := sl53 _ _ hl21
    have hl22 := sl53 _ _ hl22
    have hl31 := sl53 _ _ hl31
    have hl32 := sl53 _ _ hl32
    have hl42 := sl53 _ _ hl42
    have hl43 := sl53 _ _ hl43
    have sA := sA.trans sl53
    refine ⟨l43, l53, _, _, rfl, rfl, hl43, hl53, Cm.small (by show 17 ≤ 100000; decide), fun l54 nl54 => ?_⟩
    have sl54 := Cm.same_new (o := .lst ([.ref t1, .ref t2, .ref t4, .ref t8, .ref t10, .ref t13, .ref t16, .ref t18, .ref t20, .ref t24, .ref t26, .ref t30, .ref t36, .ref t41] ++ [.ref t49, .ref t52, .int 7])) nl54
    have hl54 : (L2.upd H53 l54 (.lst ([.ref t1, .ref t2, .ref t4, .ref t8, .ref t10, .ref t13, .ref t16, .ref t18, .ref t20, .ref t24, .ref t26, .ref t30, .ref t36, .ref t41] ++ [.ref t49, .ref t52, .int 7]))) l54 = some (.lst [.ref t1, .ref t2, .ref t4, .ref t8, .ref t10, .ref t13, .ref t16, .ref t18, .ref t20, .ref t24, .ref t26, .ref t30, .ref t36, .ref t41, .ref t49, .ref t52, .int 7]) := upd_same
    generalize L2.upd H53 l54 (.lst ([.ref t1, .ref t2, .ref t4, .ref t8, .ref t10, .ref t13, .ref t16, .ref t18, .ref t20, .ref t24, .ref t26, .ref t30, .ref t36, .ref t41] ++ [.ref t49, .ref t52, .int 7])) = H54 at *
    have rpd := rpd.keep (Same.tups sl54)
    have rls := rls.keep (Same.tups sl54)
    have rst := rst.keep (Same.tups sl54)
    have rfr := rfr.keep (Same.tups sl54)
    have rbk := rbk.keep (Same.tups sl54)
    have rtk := rtk.keep (Same.tups sl54)
    have rt1 := rt1.keep (Same.tups sl54)
    have rt2 := rt2.keep (Same.tups sl54)
    have rt3 := rt3.keep (Same.tups sl54)
    have rt4 := rt4.keep (Same.tups sl54)
    have rt6 := rt6.keep (Same.tups sl54)
    have rt7 := rt7.keep (Same.tups sl54)
    have rt8 := rt8.keep (Same.tups sl54)
    have rt9 := rt9.keep (Same.tups sl54)
    have rt10 := rt10.keep (Same.tups sl54)
    have rt11 := rt11.keep (Same.tups sl54)
    have rt12 := rt12.keep (Same.tups sl54)
    have rt13 := rt13.keep (Same.tups sl54)
    have rt16 := rt16.keep (Same.tups sl54)
    have rt17 := rt17.keep (Same.tups sl54)
    have rt18 := rt18.keep (Same.tups sl54)
    have rt19 := rt19.keep (Same.tups sl54)
    have rt20 := rt20.keep (Same.tups sl54)
    have rt23 := rt23.keep (Same.tups sl54)
    have rt24 := rt24.keep (Same.tups sl54)
    have rq25 := rq25.keep (Same.tups sl54)
    have rt26 := rt26.keep (Same.tups sl54)
    have rt27 := rt27.keep (Same.tups sl54)
    have rq28 := rq28.keep (Same.tups sl54)
    have rc29 := rc29.keep (Same.tups sl54)
    have rt30 := rt30.keep (Same.tups sl54)
    have rt33 := rt33.keep (Same.tups sl54)
    have rq34 := rq34.keep (Same.tups sl54)
    have rc35 := rc35.keep (Same.tups sl54)
    have rt36 := rt36.keep (Same.tups sl54)
    have rq37 := rq37.keep (Same.tups sl54)
    have rt38 := rt38.keep (Same.tups sl54)
    have rt39 := rt39.keep (Same.tups sl54)
    have rc40 := rc40.keep (Same.tups sl54)
    have rt41 := rt41.keep (Same.tups sl54)
    have rq44 := rq44.keep (Same.tups sl54)
    have rt45 := rt45.keep (Same.tups sl54)
    have rt46 := rt46.keep (Same.tups sl54)
    have rt47 := rt47.keep (Same.tups sl54)
    have rc48 := rc48.keep (Same.tups sl54)
    have rt49 := rt49.keep (Same.tups sl54)
    have rt50 := rt50.keep (Same.tups sl54)
    have rt51 := rt51.keep (Same.tups sl54)
    have rt52 := rt52.keep (Same.tups sl54)
    have hfr := Cm.sameT sl54 hfr
    have ht1 := Cm.sameT sl54 ht1
    have ht2 := Cm.sameT sl54 ht2
    have ht3 := Cm.sameT sl54 ht3
    have ht4 := Cm.sameT sl54 ht4
    have ht6 := Cm.sameT sl54 ht6
    have ht7 := Cm.sameT sl54 ht7
    have ht8 := Cm.sameT sl54 ht8
    have ht9 := Cm.sameT sl54 ht9
    have ht10 := Cm.sameT sl54 ht10
    have ht11 := Cm.sameT sl54 ht11
    have ht12 := Cm.sameT sl54 ht12
    have ht13 := Cm.sameT sl54 ht13
    have ht16 := Cm.sameT sl54 ht16
    have ht17 := Cm.sameT sl54 ht17
    have ht18 := Cm.sameT sl54 ht18
    have ht19 := Cm.sameT sl54 ht19
    have ht20 := Cm.sameT sl54 ht20
    have ht23 := Cm.sameT sl54 ht23
    have ht24 := Cm.sameT sl54 ht24
    have hq25 := Cm.sameT sl54 hq25
    have ht26 := Cm.sameT sl54 ht26
    have ht27 := Cm.sameT sl54 ht27
    have hq28 := Cm.sameT sl54 hq28
    have hc29 := Cm.sameT sl54 hc29
    have ht30 := Cm.sameT sl54 ht30
    have ht33 := Cm.sameT sl54 ht33
    have hq34 := Cm.sameT sl54 hq34
    have hc35 := Cm.sameT sl54 hc35
    have ht36 := Cm.sameT sl54 ht36
    have hq37 := Cm.sameT sl54 hq37
    have ht38 := Cm.sameT sl54 ht38
    have ht39 := Cm.sameT sl54 ht39
    have hc40 := Cm.sameT sl54 hc40
    have ht41 := Cm.sameT sl54 ht41
    have hq44 := Cm.sameT sl54 hq44
    have ht45 := Cm.sameT sl54 ht45
    have ht46 := Cm.sameT sl54 ht46
    have ht47 := Cm.sameT sl54 ht47
    have hc48 := Cm.sameT sl54 hc48
    have ht49 := Cm.sameT sl54 ht49
    have ht50 := Cm.sameT sl54 ht50
    have ht51 := Cm.sameT sl54 ht51
    have ht52 := Cm.sameT sl54 ht52
    have hl5 := sl54 _ _ hl5
    have hl14 := sl54 _ _ hl14
    have hl15 := sl54 _ _ hl15
    have hl21 := sl54 _ _ hl21
    have hl22 := sl54 _ _ hl22
    have hl31 := sl54 _ _ hl31
    have hl32 := sl54 _ _ hl32
    have hl42 := sl54 _ _ hl42
    have hl43 := sl54 _ _ hl43
    have hl53 := sl54 _ _ hl53
    have sA := sA.trans sl54
    exact q _ _ _ sA hl54 (.cons rt1 (.cons rt2 (.cons rt4 (.cons rt8 (.cons rt10 (.cons rt13 (.cons rt16 (.cons rt18 (.cons rt20 (.cons rt24 (.cons rt26 (.cons rt30 (.cons rt36 (.cons rt41 (.cons rt49 (.cons rt52 (.cons (.int _) .nil)))))))))))))))))
theorem badEnts_no (e : EntP) : ∀ x ∈ badEnts e, entD x = false := by
  have n1 : natD (.int (-1)) = false := by decide +kernel
  have n2 : natD (.int (0 - 1)) = false := by decide +kernel
  have n3 : natD (.int (10 ^ (12 : Int).toNat + 1)) = false := by decide +kernel
  have p1 : procD (.tuple [.str "a"]) = false := by decide +kernel
  have b1 : backX (.tuple [.tuple [], .int 0]) (.int 0) = false := by decide +kernel
  have b2 : backX (.tuple []) (.int 1) = false := by decide +kernel
  have b3 : backX (.tuple [.int 0, .tuple []]) (.int 1) = false := by decide +kernel
  have t1 : tokW .none (.str "nil") = false := by decide +kernel
  have t2 : tokW (.tuple [.int 1, .int 0]) (.str "zero") = false := by decide +kernel
  have t3 : ∀ w, tokW (.tuple [.int 1]) w = false := fun w => by
    show (rowD 2 (.tuple [.int 1]) && (procD (.tuple [.int 1]) && wOk w)) = false
    rw [show rowD 2 (.tuple [.int 1]) = false from by decide +kernel]
    rfl
  have t4 : ∀ w, tokW (.tuple [.int 1, .int (-1)]) w = false := fun w => by
    show (rowD 2 (.tuple [.int 1, .int (-1)]) && (procD (.tuple [.int 1, .int (-1)]) && wOk w)) = false
    rw [show procD (.tuple [.int 1, .int (-1)]) = false from by decide +kernel]
    simp
  have f1 : ∀ a b c, frD (.tuple [a, b, c]) = false := fun _ _ _ => rfl
  have f2 : ∀ b c d, frD (.tuple [.str "9a", b, c, d]) = false := fun b c d => by
    show (codeD (.str "9a") && _) = false
    rw [show codeD (.str "9a") = false from by decide +kernel]
    rfl
  have f3 : ∀ a c d, frD (.tuple [a, .int (-1), c, d]) = false := fun a c d => by
    show (codeD a && (natD (.int (-1)) && _)) = false
    rw [n1]
    simp
  have f4 : ∀ a b d, frD (.tuple [a, b, .int 5, d]) = false := fun a b d => by
    show (codeD a && (natD b && (valsD (.int 5) && _))) = false
    rw [show valsD (.int 5) = false from rfl]
    simp
  have f5 : ∀ a b c, frD (.tuple [a, b, c, .tuple [.tuple [.str "int", .int 1]]]) = false := fun a b c => by
    show (codeD a && (natD b && (valsD c && valsD (.tuple [.tuple [.str "int", .int 1]])))) = false
    rw [show valsD (.tuple [.tuple [.str "int", .int 1]]) = false from by decide +kernel]
    simp
  have k : ∀ p dp f b t w, entD (.tuple [p, dp, f, b, t, w]) = ((procD p && (natD dp && (frD f && backX b dp))) && tokW t w) := fun _ _ _ _ _ _ => rfl
  intro x hx
  simp only [badEnts, List.mem_cons, List.not_mem_nil, or_false] at hx
  rcases hx with rfl | rfl | rfl | rfl | rfl | rfl | rfl | rfl | rfl | rfl | rfl | rfl | rfl | rfl | rfl | rfl | rfl
  · rfl
  · rw [k, n2]; simp
  · rw [k, p1]; simp
  · rw [k, b1]; simp
  · rw [k, b2]; simp
  · rw [k, b3]; simp
  · rw [k, t1]; simp
  · rw [k, t2]; simp
  · rw [k, t3]; simp
  · rw [k, t4]; simp
  · rw [k, f1]; simp
  · rw [k, f2]; simp
  · rw [k, f3]; simp
  · rw [k, f4]; simp
  · rw [k, f5]; simp
  · rw [k, n3]; simp
  · rfl
/-! ### what is fit -/
theorem short_all {ds : List PyData} (h : ∀ x ∈ ds, shortD x = true) : shortAll ds = true := by
  induction ds with
  | nil => rfl
  | cons x r ih =>
    show (shortD x && shortAll r) = true
    rw [h x List.mem_cons_self, ih fun y hy => h y (List.mem_cons_of_mem _ hy)]
    rfl
structure Fn (n : Nat) (d : PyData) : Prop where
  s : shortD d = true
  l : Lo n d
theorem Fn.fit {n : Nat} {d : PyData} (h : Fn n d) (hn : n ≤ 30) : Fit d := ⟨h.s, h.l.1, Nat.le_trans h.l.2 hn⟩
theorem fn_tup {n : Nat} {ds : List PyData} (h : ∀ x ∈ ds, Fn n x) (l : ds.length ≤ 1000) : Fn (n + 1) (.tuple ds) :=
  ⟨by show (decide (ds.length ≤ 1000) && shortAll ds) = true; rw [decide_eq_true l, short_all fun x hx => (h x hx).s]; rfl, lo_tup fun x hx => (h x hx).l⟩
theorem fn_int {n : Nat} {i : Int} : Fn n (.int i) := ⟨rfl, lo_int⟩
theorem fn_non {n : Nat} : Fn n .none := ⟨rfl, lo_non⟩
theorem Fn.mono {m n : Nat} {d : PyData} (h : Fn m d) (e : m ≤ n) : Fn n d := ⟨h.s, h.l.mono e⟩
/-! ### spoilt bundles -/
theorem bunD_eq (n m f es c : PyData) : bunD (.tuple [n, m, f, es, c]) = ((objD n && (codeD m && (valsD f && natD c))) && entsD es) := rfl
theorem valsD_app {ds : List PyData} {v : PyData} (h : valD v = false) : valsD (.tuple (ds ++ [v])) = false := by
  show (ds ++ [v]).all valD = false
  rw [List.all_append]
  show (ds.all valD && (valD v && true)) = false
  rw [h]
  simp
theorem entsD_one {x : PyData} (h : entD x = false) : entsD (.tuple [x]) = false := by
  show ((entD x && true) && _) = false
  rw [h]
  rfl
theorem abvD_self (x : PyData) : abvD x x = false := by
  have h := dle_tot.refl (key2 x)
  have h' : (!PySem.W.dataLt (key2 x) (key2 x)) = true := h
  unfold abvD
  simpa using h'
theorem entsD_two (x : PyData) : entsD (.tuple [x, x]) = false := by
  show (_ && (abvD x x && true)) = false
  rw [abvD_self]
  simp
theorem keyLt_asym {a b : List Int × Int} (h : keyLt a b) : ¬ keyLt b a := fun z => by
  unfold keyLt at h z
  by_cases e : a.1 = b.1
  · rw [if_pos e] at h
    rw [if_pos e.symm] at z
    omega
  · rw [if_neg e] at h
    rw [if_neg fun y => e y.symm] at z
    exact List.lt_asymm h z
theorem abvD_asym {x y : PyData} (hx : EntD x) (hy : EntD y) (h : abvD y x = true) : abvD x y = false := by
  obtain ⟨a, ea⟩ := ent_key hx
  obtain ⟨b, eb⟩ := ent_key hy
  unfold abvD at h ⊢
  rw [ea, eb, lt_keys] at h
  rw [ea, eb, lt_keys]
  exact decide_eq_false (keyLt_asym (of_decide_eq_true h))
theorem zip_mid {f : PyData → PyData → Bool} : ∀ (l : List PyData) (x y : PyData) (r : List PyData), (List.zipWith f (l ++ y :: x :: r) (l ++ y :: x :: r).tail).all id = true → f y x = true
  | [], x, y, r, h => (Bool.and_eq_true_iff.mp (show (f y x && _) = true from h)).1
  | [z], x, y, r, h => (Bool.and_eq_true_iff.mp (show (f y x && _) = true from (Bool.and_eq_true_iff.mp (show (f z y && (f y x && _)) = true from h)).2)).1
  | z :: w :: l, x, y, r, h => zip_mid (w :: l) x y r (Bool.and_eq_true_iff.mp (show (f z w && _) = true from h)).2
/-- two neighbours exchanged -/
theorem entsD_swap {l r : List PyData} {x y : PyData} (hx : EntD x) (hy : EntD y) (h : (List.zipWith (fun b e => abvD e b) (l ++ x :: y :: r) (l ++ x :: y :: r).tail).all id = true) : entsD (.tuple (l ++ y :: x :: r)) = false := by
  have h1 : abvD y x = true := zip_mid (f := fun b e => abvD e b) l y x r h
  have h2 := abvD_asym hx hy h1
  cases e : entsD (.tuple (l ++ y :: x :: r)) with
  | false => rfl
  | true =>
    have z := (Bool.and_eq_true_iff.mp (show ((l ++ y :: x :: r).all entD && (List.zipWith (fun b e => abvD e b) (l ++ y :: x :: r) (l ++ y :: x :: r).tail).all id) = true from e)).2
    have h3 : abvD x y = true := zip_mid (f := fun b e => abvD e b) l x y r z
    rw [h2] at h3
    cases h3
theorem spoilt_small (n m f es c : PyData) : bunD (.tuple [n, m, f, es]) = false ∧ bunD (.tuple [n, m, f, es, c, .int 0]) = false ∧ bunD (.tuple [.tuple [.int 0, .int 0], m, f, es, c]) = false ∧ bunD (.tuple [.tuple [.tuple [], .int (-1)], m, f, es, c]) = false ∧ bunD (.tuple [n, .str "", f, es, c]) = false ∧ bunD (.tuple [n, .str "new", f, es, c]) = false ∧
    bunD (.tuple [n, m, .int 5, es, c]) = false ∧ bunD (.tuple [n, m, f, .tuple [.int 3], c]) = false ∧ bunD (.tuple [n, m, f, es, .int (-1)]) = false ∧ bunD (.tuple [n, m, f, es, .int (10 ^ (12 : Int).toNat + 1)]) = false ∧ bunD (.tuple [n, m, f, es, .str "1"]) = false ∧ bunD (.tuple []) = false ∧ ∀ p, bunD (.tuple [.tuple [p], m, f, es, c]) = false := by
  have n1 : natD (.int (-1)) = false := by decide +kernel
  have n3 : natD (.int (10 ^ (12 : Int).toNat + 1)) = false := by decide +kernel
  have c1 : codeD (.str "") = false := by decide +kernel
  have c2 : codeD (.str "new") = false := by decide +kernel
  have o1 : objD (.tuple [.int 0, .int 0]) = false := by decide +kernel
  have o2 : objD (.tuple [.tuple [], .int (-1)]) = false := by decide +kernel
  refine ⟨rfl, rfl, ?_, ?_, ?_, ?_, ?_, ?_, ?_, ?_, ?_, rfl, fun p => ?_⟩
  · rw [bunD_eq, o1]; rfl
  · rw [bunD_eq, o2]; rfl
  · rw [bunD_eq, c1]; simp
  · rw [bunD_eq, c2]; simp
  · rw [bunD_eq, show valsD (.int 5) = false from rfl]; simp
  · rw [bunD_eq, entsD_one (show entD (.int 3) = false from rfl)]; simp
  · rw [bunD_eq, n1]; simp
  · rw [bunD_eq, n3]; simp
  · rw [bunD_eq, show natD (.str "1") = false from rfl]; simp
  · rw [bunD_eq, show objD (.tuple [p]) = false from rfl]; rfl
/-! ### what is drawn is fit -/
theorem fn_str {n : Nat} {x : Str} (h : PyData.strOk x = true) (l : x.length ≤ 1000) : Fn n (.str x) := ⟨decide_eq_true l, lo_str h⟩
theorem fn_proc {d : PyData} (h : ProcD d) : Fn 1 d := by
  obtain ⟨ns, rfl, l, _⟩ := h
  refine fn_tup (n := 0) (fun x hx => ?_) (by rw [List.length_map]; omega)
  obtain ⟨i, _, rfl⟩ := List.mem_map.mp hx
  exact fn_int
theorem fn_two {n : Nat} {x y : PyData} (h1 : Fn n x) (h2 : Fn n y) : Fn (n + 1) (.tuple [x, y]) := fn_tup (fun d hd => by
  simp only [List.mem_cons, List.not_mem_nil, or_false] at hd
  rcases hd with rfl | rfl
  · exact h1
  · exact h2) (by show 2 ≤ 1000; decide)
theorem fn_obj {d : PyData} (h : ObjD d) : Fn 2 d := by
  obtain ⟨pd, j, rfl, hp, _⟩ := h
  exact fn_two (fn_proc hp) fn_int
theorem short_ops : ∀ x ∈ (["start", "get", "f2", "Put", "", "number", "large", "nil", "Box", "a1", "Z", "ref"] : List Str), PyData.strOk x = true ∧ x.length ≤ 1000 := by decide +kernel
theorem fn_word {n : Nat} {x : Str} (h : x ∈ (["start", "get", "f2", "Put", "", "number", "large", "nil", "Box", "a1", "Z", "ref"] : List Str)) : Fn n (.str x) := fn_str (short_ops x h).1 (short_ops x h).2
theorem fn_val {d : PyData} (h : ValD d) : Fn 3 d := by
  rcases h with rfl | ⟨o, ho, rfl⟩ | ⟨i, rfl, _⟩
  · exact fn_tup (n := 2) (fun x hx => by rw [List.mem_singleton.mp hx]; exact fn_word (by simp)) (by show 1 ≤ 1000; decide)
  · exact fn_two (fn_word (by simp)) (fn_obj ho)
  · exact fn_int
theorem fn_vals {ds : List PyData} (h : ∀ x ∈ ds, ValD x) (l : ds.length ≤ 1000) : Fn 4 (.tuple ds) := fn_tup (fun x hx => fn_val (h x hx)) l
theorem fn_fr {d : PyData} (h : FrD d) : Fn 5 d := by
  obtain ⟨op, i, ls, st, rfl, ho, _, _, l1, l2, hl, hs⟩ := h
  refine fn_tup (n := 4) (fun x hx => ?_) (by show 4 ≤ 1000; decide)
  simp only [List.mem_cons, List.not_mem_nil, or_false] at hx
  rcases hx with rfl | rfl | rfl | rfl
  · exact fn_word (List.mem_of_mem_take (i := 4) ho)
  · exact fn_int
  · exact fn_vals hl (by omega)
  · exact fn_vals hs (by omega)
theorem words_in : ∀ x ∈ wordsF, x ∈ (["start", "get", "f2", "Put", "", "number", "large", "nil", "Box", "a1", "Z", "ref"] : List Str) := by decide +kernel
theorem fn_tok {t : PyData} {w : Str} (h : TokD t w) : Fn 1 t := by
  rcases h with ⟨x, y, rfl, _⟩ | ⟨rfl, _⟩
  · exact fn_two fn_int fn_int
  · exact fn_non
theorem fn_ent {d : PyData} (h : EntD d) : Fn 6 d := by
  obtain ⟨pd, dep, fr, back, tok, wd, rfl, hp, _, _, hf, hb0, hb1, ht, hw⟩ := h
  refine fn_tup (n := 5) (fun x hx => ?_) (by show 6 ≤ 1000; decide)
  simp only [List.mem_cons, List.not_mem_nil, or_false] at hx
  rcases hx with rfl | rfl | rfl | rfl | rfl | rfl
  · exact (fn_proc hp).mono (by decide)
  · exact fn_int
  · exact fn_fr hf
  · by_cases e : dep = 0
    · rw [hb0 e]
      exact (fn_tup (n := 0) (ds := []) (fun x hx => nomatch hx) (by show 0 ≤ 1000; decide)).mono (by decide)
    · exact (fn_obj (hb1 e)).mono (by decide)
  · exact (fn_tok ht).mono (by decide)
  · exact fn_word (words_in wd hw)
theorem makers_in : ∀ x ∈ (["start", "Box", "a1", "Z"] : List Str), x ∈ (["start", "get", "f2", "Put", "", "number", "large", "nil", "Box", "a1", "Z", "ref"] : List Str) := by decide +kernel
theorem fn_bund {d : PyData} (h : BundD d) : Fn 8 d := by
  obtain ⟨nm, mk, vs, es, c, rfl, ho, hm, lv, hv, le, he, _, _⟩ := h
  refine fn_tup (n := 7) (fun x hx => ?_) (by show 5 ≤ 1000; decide)
  simp only [List.mem_cons, List.not_mem_nil, or_false] at hx
  rcases hx with rfl | rfl | rfl | rfl | rfl
  · exact (fn_obj ho).mono (by decide)
  · exact fn_word (makers_in mk hm)
  · exact (fn_vals hv (by omega)).mono (by decide)
  · exact fn_tup (fun x hx => fn_ent (he x hx)) (by omega)
  · exact fn_int
/-! ### what is spoilt -/
structure Bad (d : PyData) : Prop where
  no : bunD d = false
  fit : Fit d
  ent : ∀ n m f ds c, d = .tuple [n, m, f, .tuple ds, c] → ∀ x ∈ ds, EntOk x
theorem al_nil {p : PyData → Prop} : ∀ x ∈ ([] : List PyData), p x := fun _ h => nomatch h
theorem al_cons {p : PyData → Prop} {x : PyData} {r : List PyData} (h : p x) (hr : ∀ y ∈ r, p y) : ∀ y ∈ x :: r, p y := fun y hy => by
  rcases List.mem_cons.mp hy with rfl | hy
  · exact h
  · exact hr y hy
theorem fns_nil {n : Nat} : ∀ x ∈ ([] : List PyData), Fn n x := al_nil
theorem fns_cons {n : Nat} {x : PyData} {r : List PyData} (h : Fn n x) (hr : ∀ y ∈ r, Fn n y) : ∀ y ∈ x :: r, Fn n y := al_cons h hr
theorem fn_tup0 {n : Nat} {ds : List PyData} (l : ds.length.ble 1000 = true) (h : ∀ x ∈ ds, Fn n x) : Fn (n + 1) (.tuple ds) := fn_tup h (Nat.le_of_ble_eq_true l)
theorem fn_sx {n : Nat} {x : Str} (h : (PyData.strOk x && decide (x.length ≤ 1000)) = true) : Fn n (.str x) :=
  fn_str (Bool.and_eq_true_iff.mp h).1 (of_decide_eq_true (Bool.and_eq_true_iff.mp h).2)
theorem badEnts_fn (e : EntP) (h1 : Fn 5 e.pd) (h2 : Fn 5 e.fr) (h3 : Fn 4 e.ls) (h4 : Fn 4 e.st) (h5 : Fn 5 e.back) (h6 : Fn 5 e.tok) (h7 : Fn 5 (.str e.wd)) (h8 : Fn 4 (.str e.op)) : ∀ x ∈ badEnts e, Fn 6 x := by
  unfold badEnts
  repeat' (first | assumption | exact fn_int | exact fn_non | exact fn_sx (by decide +kernel) | exact fns_nil | refine fns_cons ?_ ?_ | refine fn_tup0 rfl ?_)
theorem badEnts_word (e : EntP) : ∀ x ∈ badEnts e, EntOk x := by
  have five : ∀ a b c d e : PyData, EntOk (.tuple [a, b, c, d, e]) := fun a b c d e p dp f b' t w h => nomatch h
  have six : ∀ (a b c d e : PyData) (z : Str), EntOk (.tuple [a, b, c, d, e, .str z]) := fun a b c d e z p dp f b' t w h => by
    injection h with h
    injection h with _ h
    injection h with _ h
    injection h with _ h
    injection h with _ h
    injection h with _ h
    injection h with h _
    exact ⟨_, h.symm⟩
  have seven : EntOk (.int 7) := fun p dp f b' t w h => nomatch h
  exact al_cons (five _ _ _ _ _) (al_cons (six _ _ _ _ _ _) (al_cons (six _ _ _ _ _ _) (al_cons (six _ _ _ _ _ _) (al_cons (six _ _ _ _ _ _) (al_cons (six _ _ _ _ _ _) (al_cons (six _ _ _ _ _ _) (al_cons (six _ _ _ _ _ _) (al_cons (six _ _ _ _ _ _) (al_cons (six _ _ _ _ _ _) (al_cons (six _ _ _ _ _ _) (al_cons (six _ _ _ _ _ _) (al_cons (six _ _ _ _ _ _) (al_cons (six _ _ _ _ _ _) (al_cons (six _ _ _ _ _ _) (al_cons (six _ _ _ _ _ _) (al_cons seven al_nil))))))))))))))))
theorem ent_word {d : PyData} (h : EntD d) : EntOk d := by
  obtain ⟨pd, dep, fr, back, tok, wd, rfl, _⟩ := h
  intro p dp f b t w h
  injection h with h
  injection h with _ h
  injection h with _ h
  injection h with _ h
  injection h with _ h
  injection h with _ h
  injection h with h _
  exact ⟨_, h.symm⟩
/-- an entry that was drawn, as its nine things -/
theorem ent_parts {d : PyData} (h : EntD d) : ∃ e : EntP, d = e.d ∧ Fn 5 e.pd ∧ Fn 5 e.fr ∧ Fn 4 e.ls ∧ Fn 4 e.st ∧ Fn 5 e.back ∧ Fn 5 e.tok ∧ Fn 5 (.str e.wd) ∧ Fn 4 (.str e.op) := by
  obtain ⟨pd, dep, fr, back, tok, wd, rfl, hp, _, _, hf, hb0, hb1, ht, hw⟩ := h
  have hf' := fn_fr hf
  obtain ⟨op, i, ls, st, rfl, ho, _, _, l1, l2, hl, hs⟩ := hf
  refine ⟨⟨pd, dep, op, i, .tuple ls, .tuple st, back, tok, wd⟩, rfl, (fn_proc hp).mono (by decide), hf', fn_vals hl (by omega), fn_vals hs (by omega), ?_, (fn_tok ht).mono (by decide), fn_word (words_in wd hw), fn_word (List.mem_of_mem_take (i := 4) ho)⟩
  by_cases e : dep = 0
  · rw [hb0 e]
    exact (fn_tup (n := 0) (ds := []) (fun x hx => nomatch hx) (by show 0 ≤ 1000; decide)).mono (by decide)
  · exact (fn_obj (hb1 e)).mono (by decide)
def smallBad (n m f es : PyData) (c : Int) (p : PyData) : List PyData := [.tuple [n, m, f, es], .tuple [n, m, f, es, .int c, .int 0], .tuple [.tuple [.int 0, .int 0], m, f, es, .int c], .tuple [.tuple [.tuple [], .int (-1)], m, f, es, .int c], .tuple [n, .str "", f, es, .int c], .tuple [n, .str "new", f, es, .int c],
  .tuple [n, m, .int 5, es, .int c], .tuple [n, m, f, .tuple [.int 3], .int c], .tuple [n, m, f, es, .int (-1)], .tuple [n, m, f, es, .int (10 ^ (12 : Int).toNat + 1)], .tuple [n, m, f, es, .str "1"], .tuple [], .tuple [.tuple [p], m, f, es, .int c]]
theorem small_fn {n m f es p : PyData} {c : Int} (h1 : Fn 7 n) (h2 : Fn 7 m) (h3 : Fn 7 f) (h4 : Fn 7 es) (h5 : Fn 6 p) : ∀ d ∈ smallBad n m f es c p, Fn 8 d := by
  unfold smallBad
  repeat' (first | assumption | exact fn_int | exact fn_non | exact fn_sx (by decide +kernel) | exact fns_nil | refine fns_cons ?_ ?_ | refine fn_tup0 rfl ?_)
theorem small_no {n m f es p : PyData} {c : Int} : ∀ d ∈ smallBad n m f es c p, bunD d = false := by
  obtain ⟨a1, a2, a3, a4, a5, a6, a7, a8, a9, a10, a11, a12, a13⟩ := spoilt_small n m f es (.int c)
  exact al_cons a1 (al_cons a2 (al_cons a3 (al_cons a4 (al_cons a5 (al_cons a6 (al_cons a7 (al_cons a8 (al_cons a9 (al_cons a10 (al_cons a11 (al_cons a12 (al_cons (a13 p) al_nil))))))))))))
theorem ent_of_tup {n m f es c : PyData} (h : ∀ ds, es = .tuple ds → ∀ x ∈ ds, EntOk x) : ∀ n' m' f' ds c', PyData.tuple [n, m, f, es, c] = .tuple [n', m', f', .tuple ds, c'] → ∀ x ∈ ds, EntOk x := by
  intro n' m' f' ds c' h'
  injection h' with h'
  injection h' with _ h'
  injection h' with _ h'
  injection h' with _ h'
  injection h' with h' _
  exact h _ h'
def BEnt (d : PyData) : Prop := ∀ n m f ds c, d = .tuple [n, m, f, .tuple ds, c] → ∀ x ∈ ds, EntOk x
theorem small_ent {n m f es p : PyData} {c : Int} (h : ∀ ds, es = .tuple ds → ∀ x ∈ ds, EntOk x) : ∀ d ∈ smallBad n m f es c p, BEnt d := by
  have four : ∀ a b c d : PyData, BEnt (.tuple [a, b, c, d]) := fun a b c d p dp f b' t h => nomatch h
  have six : ∀ (a b c d e z : PyData), BEnt (.tuple [a, b, c, d, e, z]) := fun a b c d e z p dp f b' t h => nomatch h
  have none : BEnt (.tuple []) := fun p dp f b' t h => nomatch h
  have es5 : ∀ a b c d : PyData, BEnt (.tuple [a, b, c, es, d]) := fun a b c d => ent_of_tup h
  have one5 : ∀ a b c d : PyData, BEnt (.tuple [a, b, c, .tuple [.int 3], d]) := fun a b c d => ent_of_tup fun ds e => by
    injection e with e
    subst e
    exact al_cons (fun _ _ _ _ _ _ z => nomatch z) al_nil
  exact al_cons (four _ _ _ _) (al_cons (six _ _ _ _ _ _) (al_cons (es5 _ _ _ _) (al_cons (es5 _ _ _ _) (al_cons (es5 _ _ _ _) (al_cons (es5 _ _ _ _) (al_cons (es5 _ _ _ _) (al_cons (one5 _ _ _ _) (al_cons (es5 _ _ _ _) (al_cons (es5 _ _ _ _) (al_cons (es5 _ _ _ _) (al_cons none (al_cons (es5 _ _ _ _) al_nil))))))))))))
theorem small_bad {n m f es p : PyData} {c : Int} (h1 : Fn 7 n) (h2 : Fn 7 m) (h3 : Fn 7 f) (h4 : Fn 7 es) (h5 : Fn 6 p) (h : ∀ ds, es = .tuple ds → ∀ x ∈ ds, EntOk x) : ∀ d ∈ smallBad n m f es c p, Bad d :=
  fun d hd => ⟨small_no d hd, (small_fn h1 h2 h3 h4 h5 d hd).fit (by decide), small_ent h d hd⟩
theorem bad_val {n m es v : PyData} {fs : List PyData} {c : Int} (h1 : Fn 7 n) (h2 : Fn 7 m) (h3 : ∀ x ∈ fs, Fn 6 x) (l : fs.length ≤ 4) (h4 : Fn 7 es) (h : ∀ ds, es = .tuple ds → ∀ x ∈ ds, EntOk x) (hv : v ∈ badVals) : Bad (.tuple [n, m, .tuple (fs ++ [v]), es, .int c]) := by
  refine ⟨by rw [bunD_eq, valsD_app (badVals_no v hv)]; simp, Fn.fit (n := 8) ?_ (by decide), ent_of_tup h⟩
  have fv : Fn 6 v := by
    obtain ⟨a, b, d⟩ := badVals_fit v hv
    exact ⟨a, b, by omega⟩
  have : Fn 7 (.tuple (fs ++ [v])) := fn_tup (fun x hx => by
    rcases List.mem_append.mp hx with hx | hx
    · exact h3 x hx
    · rw [List.mem_singleton.mp hx]; exact fv) (by rw [List.length_append]; simp only [List.length_cons, List.length_nil]; omega)
  repeat' (first | assumption | exact fn_int | exact fn_non | exact fn_sx (by decide +kernel) | exact fns_nil | refine fns_cons ?_ ?_ | refine fn_tup0 rfl ?_)
theorem bad_ent {n m f x : PyData} {c : Int} (h1 : Fn 7 n) (h2 : Fn 7 m) (h3 : Fn 7 f) (no : entD x = false) (fx : Fn 6 x) (w : EntOk x) : Bad (.tuple [n, m, f, .tuple [x], .int c]) := by
  refine ⟨by rw [bunD_eq, entsD_one no]; simp, Fn.fit (n := 8) ?_ (by decide), ent_of_tup fun ds e => ?_⟩
  · repeat' (first | assumption | exact fn_int | exact fn_non | exact fn_sx (by decide +kernel) | exact fns_nil | refine fns_cons ?_ ?_ | refine fn_tup0 rfl ?_)
  · injection e with e
    subst e
    exact al_cons w al_nil
theorem bad_two {n m f x : PyData} {c : Int} (h1 : Fn 7 n) (h2 : Fn 7 m) (h3 : Fn 7 f) (fx : Fn 6 x) (w : EntOk x) : Bad (.tuple [n, m, f, .tuple [x, x], .int c]) := by
  refine ⟨by rw [bunD_eq, entsD_two]; simp, Fn.fit (n := 8) ?_ (by decide), ent_of_tup fun ds e => ?_⟩
  · repeat' (first | assumption | exact fn_int | exact fn_non | exact fn_sx (by decide +kernel) | exact fns_nil | refine fns_cons ?_ ?_ | refine fn_tup0 rfl ?_)
  · injection e with e
    subst e
    exact al_cons w (al_cons w al_nil)
theorem bad_swap {n m f x y : PyData} {l r : List PyData} {c : Int} (h1 : Fn 7 n) (h2 : Fn 7 m) (h3 : Fn 7 f) (hE : ∀ z ∈ l ++ x :: y :: r, EntD z) (len : (l ++ x :: y :: r).length ≤ 4) (ho : (List.zipWith (fun b e => abvD e b) (l ++ x :: y :: r) (l ++ x :: y :: r).tail).all id = true) : Bad (.tuple [n, m, f, .tuple (l ++ y :: x :: r), .int c]) := by
  have hE' : ∀ z ∈ l ++ y :: x :: r, EntD z := fun z hz => hE z (by
    simp only [List.mem_append, List.mem_cons] at hz ⊢
    rcases hz with h | h | h | h
    · exact .inl h
    · exact .inr (.inr (.inl h))
    · exact .inr (.inl h)
    · exact .inr (.inr (.inr h)))
  refine ⟨by rw [bunD_eq, entsD_swap (hE x (by simp)) (hE y (by simp)) ho]; simp, Fn.fit (n := 8) ?_ (by decide), ent_of_tup fun ds e => ?_⟩
  · have : Fn 7 (.tuple (l ++ y :: x :: r)) := fn_tup (fun z hz => fn_ent (hE' z hz)) (by
      simp only [List.length_append, List.length_cons] at len ⊢
      omega)
    repeat' (first | assumption | exact fn_int | exact fn_non | exact fn_sx (by decide +kernel) | exact fns_nil | refine fns_cons ?_ ?_ | refine fn_tup0 rfl ?_)
  · injection e with e
    subst e
    exact fun z hz => ent_word (hE' z hz)
def BadAt (K : PySem.W.Frag) (H0 : Hp) (bl : Addr) (n : Nat) (H : Hp) : Prop := ∃ (us : List V) (ds : List PyData), Keep bl H0 H ∧ H bl = some (.lst us) ∧ Rps K H us ds ∧ (∀ d ∈ ds, Bad d) ∧ ds.length = n
theorem bad_app {H0 H H' : Hp} {bl : Addr} {n : Nat} {us : List V} {ds : List PyData} {v : V} {d : PyData} (kp : Keep bl H0 H) (hb : H bl = some (.lst us)) (rs : Rps K H us ds) (hB : ∀ d ∈ ds, Bad d) (l : ds.length = n) (s : Same H H') (rv : Rp K H' v d) (hd : Bad d) : BadAt K H0 bl (n + 1) (upd H' bl (.lst (us ++ [v]))) := by
  have kn : Keep bl H' (upd H' bl (.lst (us ++ [v]))) := fun b o hb n => by rw [upd_ne n]; exact hb
  have tp := Keep.tups kn (s _ _ hb)
  refine ⟨us ++ [v], ds ++ [d], (kp.trans (Keep.of s)).trans kn, upd_same, ((rs.keep (Same.tups s)).keep tp).app (.cons (rv.keep tp) .nil), fun x hx => ?_, ?_⟩
  · rcases List.mem_append.mp hx with hx | hx
    · exact hB x hx
    · rw [List.mem_singleton.mp hx]
      exact hd
  · rw [List.length_append]
    simp only [List.length_cons, List.length_nil]
    omega
theorem bund_ents {d : PyData} (h : BundD d) : BEnt d := by
  obtain ⟨nm, mk, vs, es, c, rfl, _, _, _, _, _, he, _⟩ := h
  exact ent_of_tup fun ds e => by
    injection e with e
    subst e
    exact fun x hx => ent_word (he x hx)
theorem BadAt.same {H0 H H' : Hp} {bl : Addr} {n : Nat} (s : Same H H') (b : BadAt K H0 bl n H) : BadAt K H0 bl n H' := by
  obtain ⟨us, ds, kp, hb, rs, hB, l⟩ := b
  exact ⟨us, ds, kp.trans (Keep.of s), s _ _ hb, rs.keep (Same.tups s), hB, l⟩
theorem al_fs {fs : List PyData} (h : ∀ x ∈ fs, ValD x) : ∀ x ∈ fs, Fn 6 x := fun x hx => (fn_val (h x hx)).mono (by decide)
def spLaw (K : PySem.W.Frag) : Sp := fun vs H Q _ => ∃ (a : Addr) (ns : List Int), vs = [.ref a] ∧ SqL K H a (ns.map V.int) ∧ ns.length ≤ 63 ∧ ∀ H', Q (.bl true) H'
theorem ok_law (T : Txt K mg w a) : FnOk P w K mg base CX0 10 (He.ga K "law") a.d_law ["script"] (spLaw K) := by
  have gbo := ok_lw_bundleO (P := P) (w := w) (base := base) T
  refine T.F_law.ok sc_law (fun vs H Q E h => ?_) (fun cdv A outer s H vs Q E hr h => ?_)
  · obtain ⟨l, ns, rfl, _⟩ := h
    rfl
  · obtain ⟨l, sc, rfl, hl, hsc, q⟩ := h
    refine ⟨_, PSs.nox (pss_cons (ps_set (i := 1) sc_law.nd rfl (Or.inl rfl) (pe_call (ok_lw_numbers T) (hr.mono (by omega)) (by rfl) T.g_lw_numbers T.F_lw_numbers.kp T.b_lw_numbers .nil pass0 (pa_cons (pv 0) (pa_cons pe_int pa_nil))))
      (pss_cons (ps_set (i := 2) sc_law.nd rfl (Or.inl rfl) (pe_call gbo (hr.mono (by omega)) (by rfl) T.g_lw_bundle T.F_lw_bundle.kp T.b_lw_bundle .nil pass0 (pa_cons (pv 1) (pa_cons pe_int pa_nil))))
      (pss_cons (ps_if (pt_cmpR op_notBl (pe_call (ok_is_bundle T) (hr.mono (by omega)) (by rfl) T.g_is_bundle T.F_is_bundle.kp T.b_is_bundle .nil pass0 (pa_cons (pv 2) pa_nil)) pe_bl (nomark _)) (pss_one (ps_ret pe_bl)) pss_nil)
      (pss_cons (ps_asg (pv 2) (pg_tup (by rfl) (pgs_cons (pg_name (i := 3) sc_law.nd rfl (Or.inl rfl)) (pgs_cons (pg_name (i := 4) sc_law.nd rfl (Or.inl rfl)) (pgs_cons (pg_name (i := 5) sc_law.nd rfl (Or.inl rfl)) (pgs_cons (pg_name (i := 6) sc_law.nd rfl (Or.inl rfl)) (pgs_cons (pg_name (i := 7) sc_law.nd rfl (Or.inl rfl)) pgs_nil)))))))
      (pss_cons (ps_set (i := 8) sc_law.nd rfl (Or.inl rfl) (pe_lst (pa_cons (pe_slice sl_tupA (pv 2) po_none (po_some pe_int)) (pa_cons (pe_op op_catA (pv 2) (pe_tup (pa_cons pe_int pa_nil))) (pa_cons (pe_tup (pa_cons (pe_tup (pa_cons pe_int (pa_cons pe_int pa_nil))) (pa_cons (pv 4) (pa_cons (pv 5) (pa_cons (pv 6) (pa_cons (pv 7) pa_nil)))))) (pa_cons (pe_tup (pa_cons (pe_tup (pa_cons (pe_tup pa_nil) (pa_cons (pe_un un_neg pe_int) pa_nil))) (pa_cons (pv 4) (pa_cons (pv 5) (pa_cons (pv 6) (pa_cons (pv 7) pa_nil)))))) (pa_cons (pe_tup (pa_cons (pv 3) (pa_cons pe_str (pa_cons (pv 5) (pa_cons (pv 6) (pa_cons (pv 7) pa_nil)))))) pa_nil)))))))
      (pss_cons (ps_set (i := 8) sc_law.nd rfl (Or.inl rfl) (pe_op op_cat (pv 8) (pe_lst (pa_cons (pe_tup (pa_cons (pv 3) (pa_cons pe_str (pa_cons (pv 5) (pa_cons (pv 6) (pa_cons (pv 7) pa_nil)))))) (pa_cons (pe_tup (pa_cons (pv 3) (pa_cons (pv 4) (pa_cons pe_int (pa_cons (pv 6) (pa_cons (pv 7) pa_nil)))))) (pa_cons (pe_tup (pa_cons (pv 3) (pa_cons (pv 4) (pa_cons (pv 5) (pa_cons (pe_tup (pa_cons pe_int pa_nil)) (pa_cons (pv 7) pa_nil)))))) (pa_cons (pe_tup (pa_cons (pv 3) (pa_cons (pv 4) (pa_cons (pv 5) (pa_cons (pv 6) (pa_cons (pe_un un_neg pe_int) pa_nil)))))) pa_nil)))))))
      (pss_cons (ps_set (i := 8) sc_law.nd rfl (Or.inl rfl) (pe_op op_cat (pv 8) (pe_lst (pa_cons (pe_tup (pa_cons (pv 3) (pa_cons (pv 4) (pa_cons (pv 5) (pa_cons (pv 6) (pa_cons (pe_op op_add (pe_op op_pow pe_int pe_int) pe_int) pa_nil)))))) (pa_cons (pe_tup (pa_cons (pv 3) (pa_cons (pv 4) (pa_cons (pv 5) (pa_cons (pv 6) (pa_cons pe_str pa_nil)))))) (pa_cons (pe_tup pa_nil) (pa_cons (pe_tup (pa_cons (pe_slice sl_tupA (pv 3) po_none (po_some pe_int)) (pa_cons (pv 4) (pa_cons (pv 5) (pa_cons (pv 6) (pa_cons (pv 7) pa_nil)))))) pa_nil)))))))
      (pss_cons (ps_for PassesOwn.never rfl (pi_list (pe_call0 (ok_lw_bad_values T) (hr.mono (by omega)) (by rfl) T.g_lw_bad_values T.F_lw_bad_values.kp T.b_lw_bad_values .nil pass0)) (pg_name (i := 9) sc_law.nd rfl (Or.inl rfl))
      (pss_one (ps_expr (pe_bm PySem.F.plainAttrs_list PySem.F.slot_list_append PySem.F.type_list_append mt_append (pv 8) (pa_cons (pe_tup (pa_cons (pv 3) (pa_cons (pv 4) (pa_cons (pe_op op_catA (pv 5) (pe_tup (pa_cons (pv 9) pa_nil))) (pa_cons (pv 6) (pa_cons (pv 7) pa_nil)))))) pa_nil)))))
      (pss_cons (ps_set (i := 10) sc_law.nd rfl (Or.inl rfl) (pe_call (ok_lw_entry T) (hr.mono (by omega)) (by rfl) T.g_lw_entry T.F_lw_entry.kp T.b_lw_entry .nil pass0 (pa_cons (pv 1) (pa_cons pe_int pa_nil))))
      (pss_cons (ps_for PassesOwn.never rfl (pi_list (pe_call (ok_lw_bad_entries T) (hr.mono (by omega)) (by rfl) T.g_lw_bad_entries T.F_lw_bad_entries.kp T.b_lw_bad_entries .nil pass0 (pa_cons (pv 10) pa_nil))) (pg_name (i := 11) sc_law.nd rfl (Or.inl rfl))
      (pss_one (ps_expr (pe_bm PySem.F.plainAttrs_list PySem.F.slot_list_append PySem.F.type_list_append mt_append (pv 8) (pa_cons (pe_tup (pa_cons (pv 3) (pa_cons (pv 4) (pa_cons (pv 5) (pa_cons (pe_tup (pa_cons (pv 11) pa_nil)) (pa_cons (pv 7) pa_nil)))))) pa_nil)))))
      (pss_cons (ps_expr (pe_bm PySem.F.plainAttrs_list PySem.F.slot_list_append PySem.F.type_list_append mt_append (pv 8) (pa_cons (pe_tup (pa_cons (pv 3) (pa_cons (pv 4) (pa_cons (pv 5) (pa_cons (pe_tup (pa_cons (pv 10) (pa_cons (pv 10) pa_nil))) (pa_cons (pv 7) pa_nil)))))) pa_nil)))
      (C8.pss_cut (ps_if (pt_cmpR op_gt (pe_callB call_len_seq (by rfl) T.g_len boot_len (pa_cons (pv 6) pa_nil)) pe_int (nomark _)) (pss_cons (ps_set (i := 12) sc_law.nd rfl (Or.inl rfl) (pe_op op_mod (pe_ix ix_list (pv 1) pe_int (fun _ _ => rfl)) (pe_op op_sub (pe_callB call_len_seq (by rfl) T.g_len boot_len (pa_cons (pv 6) pa_nil)) pe_int)))
      (pss_one (ps_expr (pe_bm PySem.F.plainAttrs_list PySem.F.slot_list_append PySem.F.type_list_append mt_append (pv 8) (pa_cons (pe_tup (pa_cons (pv 3) (pa_cons (pv 4) (pa_cons (pv 5) (pa_cons (pe_op op_catA (pe_op op_catA (pe_slice sl_tupA (pv 6) po_none (po_some (pv 12))) (pe_tup (pa_cons (pe_ix ix_tup (pv 6) (pe_op op_add (pv 12) pe_int) (fun _ _ => rfl)) (pa_cons (pe_ix ix_tup (pv 6) (pv 12) (fun _ _ => rfl)) pa_nil)))) (pe_slice sl_tupA (pv 6) (po_some (pe_op op_add (pv 12) pe_int)) po_none)) (pa_cons (pv 7) pa_nil)))))) pa_nil))))) pss_nil)
      (pss_cons (ps_for PassesOwn.never rfl (pi_list (pv 8)) (pg_name (i := 13) sc_law.nd rfl (Or.inl rfl))
      (pss_one (ps_if (pt_cmpR op_notBl (pe_call (ok_is_bundle T) (hr.mono (by omega)) (by rfl) T.g_is_bundle T.F_is_bundle.kp T.b_is_bundle .nil pass0 (pa_cons (pv 13) pa_nil)) pe_bl (nomark _)) (pss_one (ps_ret pe_bl)) pss_nil)))
      (pss_one (ps_ret (pe_cmpR op_isBl (pe_call (ok_is_bundle T) (hr.mono (by omega)) (by rfl) T.g_is_bundle T.F_is_bundle.kp T.b_is_bundle .nil pass0 (pa_cons (pe_tup (pa_cons (pv 3) (pa_cons (pv 4) (pa_cons (pv 5) (pa_cons (pe_tup (pa_cons (pv 10) pa_nil)) (pa_cons (pv 7) pa_nil)))))) pa_nil)) pe_bl (nomark _))))))))))))))))), ?_⟩
    rw [show L2.start N_law [.ref l] = [some (.ref l), none, none, none, none, none, none, none, none, none, none, none, none, none] from rfl]
    refine ⟨_, rfl, l, sc, 90, rfl, hl, hsc, by decide, fun H1 pn nums s1 np hp hlen hok => ?_⟩
    simp only [gName, List.set_cons_succ, List.set_cons_zero]
    have N1 : NumAt K H1 pn nums := ⟨hp, hok, by omega⟩
    refine ⟨_, rfl, pn, nums, 0, rfl, N1, fun H2 bv bd s2 rb hB hO => ?_⟩
    simp only [gName, List.set_cons_succ, List.set_cons_zero]
    have hb := bunD_of hB hO
    have fb := (fn_bund hB).fit (by decide)
    refine ⟨_, rfl, bv, bd, rfl, rb, fb, bund_ents hB, fun H3 s3 => ⟨_, _, rfl, rfl, _, rfl, Cm.itB (fun e => absurd e (by rw [hb]; decide)) fun _ => ?_⟩⟩
    have sA := s2.trans s3
    have rbd := rb.keep (Same.tups s3)
    clear fb hb rb
    obtain ⟨nm, mk, fs, es, c, rfl, ho, hm, lf, hf, le, he, c0, c1⟩ := id hB
    obtain ⟨pd, nj, rfl, hpd, j0, j1⟩ := id ho
    obtain ⟨pb, vs, rfl, hbu, rs⟩ := rbd.tup_inv
    obtain ⟨w1, r1, rfl, rnm, rs⟩ := rs.cons_inv
    obtain ⟨w2, r2, rfl, rmk, rs⟩ := rs.cons_inv
    obtain ⟨w3, r3, rfl, rfs, rs⟩ := rs.cons_inv
    obtain ⟨w4, r4, rfl, res, rs⟩ := rs.cons_inv
    obtain ⟨w5, r5, rfl, rct, rs⟩ := rs.cons_inv
    obtain rfl := rs.nil_inv
    obtain rfl := rmk.str_inv
    obtain rfl := rct.int_inv
    obtain ⟨na, ns, rfl, hna, rs⟩ := rnm.tup_inv
    obtain ⟨pv, r1, rfl, rpv, rs⟩ := rs.cons_inv
    obtain ⟨jv, r2, rfl, rjv, rs⟩ := rs.cons_inv
    obtain rfl := rs.nil_inv
    obtain rfl := rjv.int_inv
    clear rmk rct rjv
    refine ⟨_, rfl, pb, _, rfl, hbu, rfl, _, _, rfl, _, _, rfl, _, _, rfl, _, _, rfl, _, _, rfl, rfl, ?_⟩
    simp only [gName, List.set_cons_succ, List.set_cons_zero]
    have fnm : Fn 7 (.tuple [pd, .int nj]) := (fn_obj ho).mono (by decide)
    have fpd : Fn 6 pd := (fn_proc hpd).mono (by decide)
    have fmk : Fn 7 (.str mk) := fn_word (makers_in mk hm)
    have ffs : Fn 7 (.tuple fs) := (fn_vals hf (by omega)).mono (by decide)
    have fes : Fn 7 (.tuple es) := fn_tup (fun x hx => fn_ent (he x hx)) (by omega)
    have ees : ∀ ds, PyData.tuple es = .tuple ds → ∀ x ∈ ds, EntOk x := fun ds e => by
      injection e with e
      subst e
      exact fun x hx => ent_word (he x hx)
    refine ⟨_, rfl, _, rfl, slice_sq hbu fun q1 H4 sq1 hq1 => ?_⟩
    have hq1 : SqT K H4 q1 [.ref na, .str mk, w3, w4] := hq1
    have tk := Same.tups sq1
    have rnm := rnm.keep tk
    have rpv := rpv.keep tk
    have rfs := rfs.keep tk
    have res := res.keep tk
    have hbu := Cm.sameT sq1 hbu
    have hna := Cm.sameT sq1 hna
    clear tk
    have sA := sA.trans sq1
    clear sq1
    have rq1 : Rp K H4 (.ref q1) (.tuple [.tuple [pd, .int nj], .str mk, .tuple fs, .tuple es]) := .tup hq1 (.cons rnm (.cons (.str _) (.cons rfs (.cons res .nil))))
    refine ⟨_, rfl, Cm.small (by show 1 ≤ 100000; decide), fun t2 nt2 => ?_⟩
    have st2 := Cm.same_new (o := .tup [.int 0]) nt2
    have rt2 : Rp K _ (.ref t2) (.tuple [.int 0]) := Rp.made (K := K) nt2 ((.cons (.int _) .nil) : Rps K H4 [.int 0] _)
    have ht2 := Cm.sqt_new (K := K) (H := H4) (p := t2) (xs := [.int 0])
    generalize L2.upd H4 t2 (.tup [.int 0]) = H5 at *
    clear nt2
    have tk := Same.tups st2
    have rnm := rnm.keep tk
    have rpv := rpv.keep tk
    have rfs := rfs.keep tk
    have res := res.keep tk
    have rq1 := rq1.keep tk
    have hbu := Cm.sameT st2 hbu
    have hna := Cm.sameT st2 hna
    clear tk
    have sA := sA.trans st2
    clear st2
    refine Nst.cat_sq hbu ht2 (by show 6 ≤ 100000; decide) fun c3 H6 sc3 hc3 => ?_
    have hc3 : SqT K H6 c3 [.ref na, .str mk, w3, w4, .int c, .int 0] := hc3
    have tk := Same.tups sc3
    have rnm := rnm.keep tk
    have rpv := rpv.keep tk
    have rfs := rfs.keep tk
    have res := res.keep tk
    have rq1 := rq1.keep tk
    have rt2 := rt2.keep tk
    have hbu := Cm.sameT sc3 hbu
    have hna := Cm.sameT sc3 hna
    have ht2 := Cm.sameT sc3 ht2
    clear tk
    have sA := sA.trans sc3
    clear sc3
    have rc3 : Rp K H6 (.ref c3) (.tuple [.tuple [pd, .int nj], .str mk, .tuple fs, .tuple es, .int c, .int 0]) := .tup hc3 (.cons rnm (.cons (.str _) (.cons rfs (.cons res (.cons (.int _) (.cons (.int _) .nil))))))
    refine ⟨Cm.small (by show 2 ≤ 100000; decide), fun t4 nt4 => ?_⟩
    have st4 := Cm.same_new (o := .tup [.int 0, .int 0]) nt4
    have rt4 : Rp K _ (.ref t4) (.tuple [.int 0, .int 0]) := Rp.made (K := K) nt4 ((.cons (.int _) (.cons (.int _) .nil)) : Rps K H6 [.int 0, .int 0] _)
    generalize L2.upd H6 t4 (.tup [.int 0, .int 0]) = H7 at *
    clear nt4
    have tk := Same.tups st4
    have rnm := rnm.keep tk
    have rpv := rpv.keep tk
    have rfs := rfs.keep tk
    have res := res.keep tk
    have rq1 := rq1.keep tk
    have rt2 := rt2.keep tk
    have rc3 := rc3.keep tk
    have hbu := Cm.sameT st4 hbu
    have hna := Cm.sameT st4 hna
    have ht2 := Cm.sameT st4 ht2
    clear tk
    have sA := sA.trans st4
    clear st4
    refine ⟨_, rfl, _, rfl, _, rfl, _, rfl, Cm.small (by show 5 ≤ 100000; decide), fun t5 nt5 => ?_⟩
    have st5 := Cm.same_new (o := .tup [.ref t4, .str mk, w3, w4, .int c]) nt5
    have rt5 : Rp K _ (.ref t5) (.tuple [.tuple [.int 0, .int 0], .str mk, .tuple fs, .tuple es, .int c]) := Rp.made (K := K) nt5 ((.cons rt4 (.cons (.str _) (.cons rfs (.cons res (.cons (.int _) .nil))))) : Rps K H7 [.ref t4, .str mk, w3, w4, .int c] _)
    generalize L2.upd H7 t5 (.tup [.ref t4, .str mk, w3, w4, .int c]) = H8 at *
    clear nt5
    clear rt4
    have tk := Same.tups st5
    have rnm := rnm.keep tk
    have rpv := rpv.keep tk
    have rfs := rfs.keep tk
    have res := res.keep tk
    have rq1 := rq1.keep tk
    have rt2 := rt2.keep tk
    have rc3 := rc3.keep tk
    have hbu := Cm.sameT st5 hbu
    have hna := Cm.sameT st5 hna
    have ht2 := Cm.sameT st5 ht2
    clear tk
    have sA := sA.trans st5
    clear st5
    refine ⟨Nat.zero_le _, fun t6 nt6 => ?_⟩
    have st6 := Cm.same_new (o := .tup []) nt6
    have rt6 : Rp K _ (.ref t6) (.tuple []) := Rp.made (K := K) nt6 (.nil : Rps K H8 [] _)
    generalize L2.upd H8 t6 (.tup []) = H9 at *
    clear nt6
    have tk := Same.tups st6
    have rnm := rnm.keep tk
    have rpv := rpv.keep tk
    have rfs := rfs.keep tk
    have res := res.keep tk
    have rq1 := rq1.keep tk
    have rt2 := rt2.keep tk
    have rc3 := rc3.keep tk
    have rt5 := rt5.keep tk
    have hbu := Cm.sameT st6 hbu
    have hna := Cm.sameT st6 hna
    have ht2 := Cm.sameT st6 ht2
    clear tk
    have sA := sA.trans st6
    clear st6
    refine ⟨_, rfl, Cm.small (by show 2 ≤ 100000; decide), fun t7 nt7 => ?_⟩
    have st7 := Cm.same_new (o := .tup [.ref t6, .int (-1)]) nt7
    have rt7 : Rp K _ (.ref t7) (.tuple [.tuple [], .int (-1)]) := Rp.made (K := K) nt7 ((.cons rt6 (.cons (.int _) .nil)) : Rps K H9 [.ref t6, .int (-1)] _)
    generalize L2.upd H9 t7 (.tup [.ref t6, .int (-1)]) = H10 at *
    clear nt7
    clear rt6
    have tk := Same.tups st7
    have rnm := rnm.keep tk
    have rpv := rpv.keep tk
    have rfs := rfs.keep tk
    have res := res.keep tk
    have rq1 := rq1.keep tk
    have rt2 := rt2.keep tk
    have rc3 := rc3.keep tk
    have rt5 := rt5.keep tk
    have hbu := Cm.sameT st7 hbu
    have hna := Cm.sameT st7 hna
    have ht2 := Cm.sameT st7 ht2
    clear tk
    have sA := sA.trans st7
    clear st7
    refine ⟨_, rfl, _, rfl, _, rfl, _, rfl, Cm.small (by show 5 ≤ 100000; decide), fun t8 nt8 => ?_⟩
    have st8 := Cm.same_new (o := .tup [.ref t7, .str mk, w3, w4, .int c]) nt8
    have rt8 : Rp K _ (.ref t8) (.tuple [.tuple [.tuple [], .int (-1)], .str mk, .tuple fs, .tuple es, .int c]) := Rp.made (K := K) nt8 ((.cons rt7 (.cons (.str _) (.cons rfs (.cons res (.cons (.int _) .nil))))) : Rps K H10 [.ref t7, .str mk, w3, w4, .int c] _)
    generalize L2.upd H10 t8 (.tup [.ref t7, .str mk, w3, w4, .int c]) = H11 at *
    clear nt8
    clear rt7
    have tk := Same.tups st8
    have rnm := rnm.keep tk
    have rpv := rpv.keep tk
    have rfs := rfs.keep tk
    have res := res.keep tk
    have rq1 := rq1.keep tk
    have rt2 := rt2.keep tk
    have rc3 := rc3.keep tk
    have rt5 := rt5.keep tk
    have hbu := Cm.sameT st8 hbu
    have hna := Cm.sameT st8 hna
    have ht2 := Cm.sameT st8 ht2
    clear tk
    have sA := sA.trans st8
    clear st8
    refine ⟨_, rfl, _, rfl, _, rfl, _, rfl, Cm.small (by show 5 ≤ 100000; decide), fun t9 nt9 => ?_⟩
    have st9 := Cm.same_new (o := .tup [.ref na, .str "", w3, w4, .int c]) nt9
    have rt9 : Rp K _ (.ref t9) (.tuple [.tuple [pd, .int nj], .str "", .tuple fs, .tuple es, .int c]) := Rp.made (K := K) nt9 ((.cons rnm (.cons (.str _) (.cons rfs (.cons res (.cons (.int _) .nil))))) : Rps K H11 [.ref na, .str "", w3, w4, .int c] _)
    generalize L2.upd H11 t9 (.tup [.ref na, .str "", w3, w4, .int c]) = H12 at *
    clear nt9
    have tk := Same.tups st9
    have rnm := rnm.keep tk
    have rpv := rpv.keep tk
    have rfs := rfs.keep tk
    have res := res.keep tk
    have rq1 := rq1.keep tk
    have rt2 := rt2.keep tk
    have rc3 := rc3.keep tk
    have rt5 := rt5.keep tk
    have rt8 := rt8.keep tk
    have hbu := Cm.sameT st9 hbu
    have hna := Cm.sameT st9 hna
    have ht2 := Cm.sameT st9 ht2
    clear tk
    have sA := sA.trans st9
    clear st9
    refine ⟨Cm.small (by show 5 ≤ 100000; decide), fun l10 nl10 => ?_⟩
    have sl10 := Cm.same_new (o := .lst [.ref q1, .ref c3, .ref t5, .ref t8, .ref t9]) nl10
    have hl10 : (L2.upd H12 l10 (.lst [.ref q1, .ref c3, .ref t5, .ref t8, .ref t9])) l10 = some (.lst [.ref q1, .ref c3, .ref t5, .ref t8, .ref t9]) := upd_same
    generalize L2.upd H12 l10 (.lst [.ref q1, .ref c3, .ref t5, .ref t8, .ref t9]) = H13 at *
    clear nl10
    have rl10 : Rps K H12 [.ref q1, .ref c3, .ref t5, .ref t8, .ref t9] [.tuple [.tuple [pd, .int nj], .str mk, .tuple fs, .tuple es], .tuple [.tuple [pd, .int nj], .str mk, .tuple fs, .tuple es, .int c, .int 0], .tuple [.tuple [.int 0, .int 0], .str mk, .tuple fs, .tuple es, .int c], .tuple [.tuple [.tuple [], .int (-1)], .str mk, .tuple fs, .tuple es, .int c], .tuple [.tuple [pd, .int nj], .str "", .tuple fs, .tuple es, .int c]] := (.cons rq1 (.cons rc3 (.cons rt5 (.cons rt8 (.cons rt9 .nil)))))
    clear rq1
    clear rc3
    clear rt5
    clear rt8
    clear rt9
    have tk := Same.tups sl10
    have rnm := rnm.keep tk
    have rpv := rpv.keep tk
    have rfs := rfs.keep tk
    have res := res.keep tk
    have rt2 := rt2.keep tk
    have rl10 := rl10.keep tk
    have hbu := Cm.sameT sl10 hbu
    have hna := Cm.sameT sl10 hna
    have ht2 := Cm.sameT sl10 ht2
    clear tk
    have sA := sA.trans sl10
    clear sl10
    simp only [gName, List.set_cons_succ, List.set_cons_zero]
    refine ⟨_, rfl, _, rfl, _, rfl, _, rfl, _, rfl, Cm.small (by show 5 ≤ 100000; decide), fun t11 nt11 => ?_⟩
    have st11 := Cm.same_new (o := .tup [.ref na, .str "new", w3, w4, .int c]) nt11
    have rt11 : Rp K _ (.ref t11) (.tuple [.tuple [pd, .int nj], .str "new", .tuple fs, .tuple es, .int c]) := Rp.made (K := K) nt11 ((.cons rnm (.cons (.str _) (.cons rfs (.cons res (.cons (.int _) .nil))))) : Rps K H13 [.ref na, .str "new", w3, w4, .int c] _)
    generalize L2.upd H13 t11 (.tup [.ref na, .str "new", w3, w4, .int c]) = H14 at *
    clear nt11
    have tk := Same.tups st11
    have rnm := rnm.keep tk
    have rpv := rpv.keep tk
    have rfs := rfs.keep tk
    have res := res.keep tk
    have rt2 := rt2.keep tk
    have rl10 := rl10.keep tk
    have hbu := Cm.sameT st11 hbu
    have hna := Cm.sameT st11 hna
    have ht2 := Cm.sameT st11 ht2
    have hl10 := st11 _ _ hl10
    clear tk
    have sA := sA.trans st11
    clear st11
    refine ⟨_, rfl, _, rfl, _, rfl, _, rfl, Cm.small (by show 5 ≤ 100000; decide), fun t12 nt12 => ?_⟩
    have st12 := Cm.same_new (o := .tup [.ref na, .str mk, .int 5, w4, .int c]) nt12
    have rt12 : Rp K _ (.ref t12) (.tuple [.tuple [pd, .int nj], .str mk, .int 5, .tuple es, .int c]) := Rp.made (K := K) nt12 ((.cons rnm (.cons (.str _) (.cons (.int _) (.cons res (.cons (.int _) .nil))))) : Rps K H14 [.ref na, .str mk, .int 5, w4, .int c] _)
    generalize L2.upd H14 t12 (.tup [.ref na, .str mk, .int 5, w4, .int c]) = H15 at *
    clear nt12
    have tk := Same.tups st12
    have rnm := rnm.keep tk
    have rpv := rpv.keep tk
    have rfs := rfs.keep tk
    have res := res.keep tk
    have rt2 := rt2.keep tk
    have rl10 := rl10.keep tk
    have rt11 := rt11.keep tk
    have hbu := Cm.sameT st12 hbu
    have hna := Cm.sameT st12 hna
    have ht2 := Cm.sameT st12 ht2
    have hl10 := st12 _ _ hl10
    clear tk
    have sA := sA.trans st12
    clear st12
    refine ⟨_, rfl, _, rfl, _, rfl, Cm.small (by show 1 ≤ 100000; decide), fun t13 nt13 => ?_⟩
    have st13 := Cm.same_new (o := .tup [.int 3]) nt13
    have rt13 : Rp K _ (.ref t13) (.tuple [.int 3]) := Rp.made (K := K) nt13 ((.cons (.int _) .nil) : Rps K H15 [.int 3] _)
    generalize L2.upd H15 t13 (.tup [.int 3]) = H16 at *
    clear nt13
    have tk := Same.tups st13
    have rnm := rnm.keep tk
    have rpv := rpv.keep tk
    have rfs := rfs.keep tk
    have res := res.keep tk
    have rt2 := rt2.keep tk
    have rl10 := rl10.keep tk
    have rt11 := rt11.keep tk
    have rt12 := rt12.keep tk
    have hbu := Cm.sameT st13 hbu
    have hna := Cm.sameT st13 hna
    have ht2 := Cm.sameT st13 ht2
    have hl10 := st13 _ _ hl10
    clear tk
    have sA := sA.trans st13
    clear st13
    refine ⟨_, rfl, Cm.small (by show 5 ≤ 100000; decide), fun t14 nt14 => ?_⟩
    have st14 := Cm.same_new (o := .tup [.ref na, .str mk, w3, .ref t13, .int c]) nt14
    have rt14 : Rp K _ (.ref t14) (.tuple [.tuple [pd, .int nj], .str mk, .tuple fs, .tuple [.int 3], .int c]) := Rp.made (K := K) nt14 ((.cons rnm (.cons (.str _) (.cons rfs (.cons rt13 (.cons (.int _) .nil))))) : Rps K H16 [.ref na, .str mk, w3, .ref t13, .int c] _)
    generalize L2.upd H16 t14 (.tup [.ref na, .str mk, w3, .ref t13, .int c]) = H17 at *
    clear nt14
    clear rt13
    have tk := Same.tups st14
    have rnm := rnm.keep tk
    have rpv := rpv.keep tk
    have rfs := rfs.keep tk
    have res := res.keep tk
    have rt2 := rt2.keep tk
    have rl10 := rl10.keep tk
    have rt11 := rt11.keep tk
    have rt12 := rt12.keep tk
    have hbu := Cm.sameT st14 hbu
    have hna := Cm.sameT st14 hna
    have ht2 := Cm.sameT st14 ht2
    have hl10 := st14 _ _ hl10
    clear tk
    have sA := sA.trans st14
    clear st14
    refine ⟨_, rfl, _, rfl, _, rfl, _, rfl, _, rfl, Cm.small (by show 5 ≤ 100000; decide), fun t15 nt15 => ?_⟩
    have st15 := Cm.same_new (o := .tup [.ref na, .str mk, w3, w4, .int (-1)]) nt15
    have rt15 : Rp K _ (.ref t15) (.tuple [.tuple [pd, .int nj], .str mk, .tuple fs, .tuple es, .int (-1)]) := Rp.made (K := K) nt15 ((.cons rnm (.cons (.str _) (.cons rfs (.cons res (.cons (.int _) .nil))))) : Rps K H17 [.ref na, .str mk, w3, w4, .int (-1)] _)
    generalize L2.upd H17 t15 (.tup [.ref na, .str mk, w3, w4, .int (-1)]) = H18 at *
    clear nt15
    have tk := Same.tups st15
    have rnm := rnm.keep tk
    have rpv := rpv.keep tk
    have rfs := rfs.keep tk
    have res := res.keep tk
    have rt2 := rt2.keep tk
    have rl10 := rl10.keep tk
    have rt11 := rt11.keep tk
    have rt12 := rt12.keep tk
    have rt14 := rt14.keep tk
    have hbu := Cm.sameT st15 hbu
    have hna := Cm.sameT st15 hna
    have ht2 := Cm.sameT st15 ht2
    have hl10 := st15 _ _ hl10
    clear tk
    have sA := sA.trans st15
    clear st15
    refine ⟨Cm.small (by show 4 ≤ 100000; decide), fun l16 nl16 => ?_⟩
    have sl16 := Cm.same_new (o := .lst [.ref t11, .ref t12, .ref t14, .ref t15]) nl16
    have hl16 : (L2.upd H18 l16 (.lst [.ref t11, .ref t12, .ref t14, .ref t15])) l16 = some (.lst [.ref t11, .ref t12, .ref t14, .ref t15]) := upd_same
    generalize L2.upd H18 l16 (.lst [.ref t11, .ref t12, .ref t14, .ref t15]) = H19 at *
    clear nl16
    have rl16 : Rps K H18 [.ref t11, .ref t12, .ref t14, .ref t15] [.tuple [.tuple [pd, .int nj], .str "new", .tuple fs, .tuple es, .int c], .tuple [.tuple [pd, .int nj], .str mk, .int 5, .tuple es, .int c], .tuple [.tuple [pd, .int nj], .str mk, .tuple fs, .tuple [.int 3], .int c], .tuple [.tuple [pd, .int nj], .str mk, .tuple fs, .tuple es, .int (-1)]] := (.cons rt11 (.cons rt12 (.cons rt14 (.cons rt15 .nil))))
    clear rt11
    clear rt12
    clear rt14
    clear rt15
    have tk := Same.tups sl16
    have rnm := rnm.keep tk
    have rpv := rpv.keep tk
    have rfs := rfs.keep tk
    have res := res.keep tk
    have rt2 := rt2.keep tk
    have rl10 := rl10.keep tk
    have rl16 := rl16.keep tk
    have hbu := Cm.sameT sl16 hbu
    have hna := Cm.sameT sl16 hna
    have ht2 := Cm.sameT sl16 ht2
    have hl10 := sl16 _ _ hl10
    clear tk
    have sA := sA.trans sl16
    clear sl16
    refine ⟨l10, l16, _, _, rfl, rfl, hl10, hl16, Cm.small (by show 9 ≤ 100000; decide), fun l17 nl17 => ?_⟩
    have sl17 := Cm.same_new (o := .lst ([.ref q1, .ref c3, .ref t5, .ref t8, .ref t9] ++ [.ref t11, .ref t12, .ref t14, .ref t15])) nl17
    have hl17 : (L2.upd H19 l17 (.lst ([.ref q1, .ref c3, .ref t5, .ref t8, .ref t9] ++ [.ref t11, .ref t12, .ref t14, .ref t15]))) l17 = some (.lst [.ref q1, .ref c3, .ref t5, .ref t8, .ref t9, .ref t11, .ref t12, .ref t14, .ref t15]) := upd_same
    generalize L2.upd H19 l17 (.lst ([.ref q1, .ref c3, .ref t5, .ref t8, .ref t9] ++ [.ref t11, .ref t12, .ref t14, .ref t15])) = H20 at *
    clear nl17
    have rl17 : Rps K H19 [.ref q1, .ref c3, .ref t5, .ref t8, .ref t9, .ref t11, .ref t12, .ref t14, .ref t15] [.tuple [.tuple [pd, .int nj], .str mk, .tuple fs, .tuple es], .tuple [.tuple [pd, .int nj], .str mk, .tuple fs, .tuple es, .int c, .int 0], .tuple [.tuple [.int 0, .int 0], .str mk, .tuple fs, .tuple es, .int c], .tuple [.tuple [.tuple [], .int (-1)], .str mk, .tuple fs, .tuple es, .int c], .tuple [.tuple [pd, .int nj], .str "", .tuple fs, .tuple es, .int c], .tuple [.tuple [pd, .int nj], .str "new", .tuple fs, .tuple es, .int c], .tuple [.tuple [pd, .int nj], .str mk, .int 5, .tuple es, .int c], .tuple [.tuple [pd, .int nj], .str mk, .tuple fs, .tuple [.int 3], .int c], .tuple [.tuple [pd, .int nj], .str mk, .tuple fs, .tuple es, .int (-1)]] := rl10.app rl16
    clear rl10 rl16 hl10 hl16
    have tk := Same.tups sl17
    have rnm := rnm.keep tk
    have rpv := rpv.keep tk
    have rfs := rfs.keep tk
    have res := res.keep tk
    have rt2 := rt2.keep tk
    have rl17 := rl17.keep tk
    have hbu := Cm.sameT sl17 hbu
    have hna := Cm.sameT sl17 hna
    have ht2 := Cm.sameT sl17 ht2
    clear tk
    have sA := sA.trans sl17
    clear sl17
    simp only [gName, List.set_cons_succ, List.set_cons_zero]
    refine ⟨_, rfl, _, rfl, _, rfl, _, rfl, _, rfl, _, _, rfl, rfl, ⟨by decide, by decide, by decide⟩, _, _, rfl, rfl, Cm.small (by show 5 ≤ 100000; decide), fun t18 nt18 => ?_⟩
    have st18 := Cm.same_new (o := .tup [.ref na, .str mk, w3, w4, .int (10 ^ (12 : Int).toNat + 1)]) nt18
    have rt18 : Rp K _ (.ref t18) (.tuple [.tuple [pd, .int nj], .str mk, .tuple fs, .tuple es, .int (10 ^ (12 : Int).toNat + 1)]) := Rp.made (K := K) nt18 ((.cons rnm (.cons (.str _) (.cons rfs (.cons res (.cons (.int _) .nil))))) : Rps K H20 [.ref na, .str mk, w3, w4, .int (10 ^ (12 : Int).toNat + 1)] _)
    generalize L2.upd H20 t18 (.tup [.ref na, .str mk, w3, w4, .int (10 ^ (12 : Int).toNat + 1)]) = H21 at *
    clear nt18
    have tk := Same.tups st18
    have rnm := rnm.keep tk
    have rpv := rpv.keep tk
    have rfs := rfs.keep tk
    have res := res.keep tk
    have rt2 := rt2.keep tk
    have rl17 := rl17.keep tk
    have hbu := Cm.sameT st18 hbu
    have hna := Cm.sameT st18 hna
    have ht2 := Cm.sameT st18 ht2
    have hl17 := st18 _ _ hl17
    clear tk
    have sA := sA.trans st18
    clear st18
    refine ⟨_, rfl, _, rfl, _, rfl, _, rfl, Cm.small (by show 5 ≤ 100000; decide), fun t19 nt19 => ?_⟩
    have st19 := Cm.same_new (o := .tup [.ref na, .str mk, w3, w4, .str "1"]) nt19
    have rt19 : Rp K _ (.ref t19) (.tuple [.tuple [pd, .int nj], .str mk, .tuple fs, .tuple es, .str "1"]) := Rp.made (K := K) nt19 ((.cons rnm (.cons (.str _) (.cons rfs (.cons res (.cons (.str _) .nil))))) : Rps K H21 [.ref na, .str mk, w3, w4, .str "1"] _)
    generalize L2.upd H21 t19 (.tup [.ref na, .str mk, w3, w4, .str "1"]) = H22 at *
    clear nt19
    have tk := Same.tups st19
    have rnm := rnm.keep tk
    have rpv := rpv.keep tk
    have rfs := rfs.keep tk
    have res := res.keep tk
    have rt2 := rt2.keep tk
    have rl17 := rl17.keep tk
    have rt18 := rt18.keep tk
    have hbu := Cm.sameT st19 hbu
    have hna := Cm.sameT st19 hna
    have ht2 := Cm.sameT st19 ht2
    have hl17 := st19 _ _ hl17
    clear tk
    have sA := sA.trans st19
    clear st19
    refine ⟨Nat.zero_le _, fun t20 nt20 => ?_⟩
    have st20 := Cm.same_new (o := .tup []) nt20
    have rt20 : Rp K _ (.ref t20) (.tuple []) := Rp.made (K := K) nt20 (.nil : Rps K H22 [] _)
    generalize L2.upd H22 t20 (.tup []) = H23 at *
    clear nt20
    have tk := Same.tups st20
    have rnm := rnm.keep tk
    have rpv := rpv.keep tk
    have rfs := rfs.keep tk
    have res := res.keep tk
    have rt2 := rt2.keep tk
    have rl17 := rl17.keep tk
    have rt18 := rt18.keep tk
    have rt19 := rt19.keep tk
    have hbu := Cm.sameT st20 hbu
    have hna := Cm.sameT st20 hna
    have ht2 := Cm.sameT st20 ht2
    have hl17 := st20 _ _ hl17
    clear tk
    have sA := sA.trans st20
    clear st20
    refine ⟨_, rfl, _, rfl, slice_sq hna fun q21 H24 sq21 hq21 => ?_⟩
    have hq21 : SqT K H24 q21 [pv] := hq21
    have tk := Same.tups sq21
    have rnm := rnm.keep tk
    have rpv := rpv.keep tk
    have rfs := rfs.keep tk
    have res := res.keep tk
    have rt2 := rt2.keep tk
    have rl17 := rl17.keep tk
    have rt18 := rt18.keep tk
    have rt19 := rt19.keep tk
    have rt20 := rt20.keep tk
    have hbu := Cm.sameT sq21 hbu
    have hna := Cm.sameT sq21 hna
    have ht2 := Cm.sameT sq21 ht2
    have hl17 := sq21 _ _ hl17
    clear tk
    have sA := sA.trans sq21
    clear sq21
    have rq21 : Rp K H24 (.ref q21) (.tuple [pd]) := .tup hq21 (.cons rpv .nil)
    refine ⟨_, rfl, _, rfl, _, rfl, _, rfl, Cm.small (by show 5 ≤ 100000; decide), fun t22 nt22 => ?_⟩
    have st22 := Cm.same_new (o := .tup [.ref q21, .str mk, w3, w4, .int c]) nt22
    have rt22 : Rp K _ (.ref t22) (.tuple [.tuple [pd], .str mk, .tuple fs, .tuple es, .int c]) := Rp.made (K := K) nt22 ((.cons rq21 (.cons (.str _) (.cons rfs (.cons res (.cons (.int _) .nil))))) : Rps K H24 [.ref q21, .str mk, w3, w4, .int c] _)
    generalize L2.upd H24 t22 (.tup [.ref q21, .str mk, w3, w4, .int c]) = H25 at *
    clear nt22
    clear rq21
    have tk := Same.tups st22
    have rnm := rnm.keep tk
    have rpv := rpv.keep tk
    have rfs := rfs.keep tk
    have res := res.keep tk
    have rt2 := rt2.keep tk
    have rl17 := rl17.keep tk
    have rt18 := rt18.keep tk
    have rt19 := rt19.keep tk
    have rt20 := rt20.keep tk
    have hbu := Cm.sameT st22 hbu
    have hna := Cm.sameT st22 hna
    have ht2 := Cm.sameT st22 ht2
    have hl17 := st22 _ _ hl17
    clear tk
    have sA := sA.trans st22
    clear st22
    refine ⟨Cm.small (by show 4 ≤ 100000; decide), fun l23 nl23 => ?_⟩
    have sl23 := Cm.same_new (o := .lst [.ref t18, .ref t19, .ref t20, .ref t22]) nl23
    have hl23 : (L2.upd H25 l23 (.lst [.ref t18, .ref t19, .ref t20, .ref t22])) l23 = some (.lst [.ref t18, .ref t19, .ref t20, .ref t22]) := upd_same
    generalize L2.upd H25 l23 (.lst [.ref t18, .ref t19, .ref t20, .ref t22]) = H26 at *
    clear nl23
    have rl23 : Rps K H25 [.ref t18, .ref t19, .ref t20, .ref t22] [.tuple [.tuple [pd, .int nj], .str mk, .tuple fs, .tuple es, .int (10 ^ (12 : Int).toNat + 1)], .tuple [.tuple [pd, .int nj], .str mk, .tuple fs, .tuple es, .str "1"], .tuple [], .tuple [.tuple [pd], .str mk, .tuple fs, .tuple es, .int c]] := (.cons rt18 (.cons rt19 (.cons rt20 (.cons rt22 .nil))))
    clear rt18
    clear rt19
    clear rt20
    clear rt22
    have tk := Same.tups sl23
    have rnm := rnm.keep tk
    have rpv := rpv.keep tk
    have rfs := rfs.keep tk
    have res := res.keep tk
    have rt2 := rt2.keep tk
    have rl17 := rl17.keep tk
    have rl23 := rl23.keep tk
    have hbu := Cm.sameT sl23 hbu
    have hna := Cm.sameT sl23 hna
    have ht2 := Cm.sameT sl23 ht2
    have hl17 := sl23 _ _ hl17
    clear tk
    have sA := sA.trans sl23
    clear sl23
    refine ⟨l17, l23, _, _, rfl, rfl, hl17, hl23, Cm.small (by show 13 ≤ 100000; decide), fun bl nbl => ?_⟩
    have nbl0 : ∀ {b : Addr} {o : HO}, H26 b = some o → b ≠ bl := fun h => ne_of_none h nbl
    have hp0 := sA _ _ hp
    have npbl : pn ≠ bl := nbl0 hp0
    clear nbl0 hp0
    have sbl := Cm.same_new (o := .lst ([.ref q1, .ref c3, .ref t5, .ref t8, .ref t9, .ref t11, .ref t12, .ref t14, .ref t15] ++ [.ref t18, .ref t19, .ref t20, .ref t22])) nbl
    have hbl : (L2.upd H26 bl (.lst ([.ref q1, .ref c3, .ref t5, .ref t8, .ref t9, .ref t11, .ref t12, .ref t14, .ref t15] ++ [.ref t18, .ref t19, .ref t20, .ref t22]))) bl = some (.lst [.ref q1, .ref c3, .ref t5, .ref t8, .ref t9, .ref t11, .ref t12, .ref t14, .ref t15, .ref t18, .ref t19, .ref t20, .ref t22]) := upd_same
    generalize L2.upd H26 bl (.lst ([.ref q1, .ref c3, .ref t5, .ref t8, .ref t9, .ref t11, .ref t12, .ref t14, .ref t15] ++ [.ref t18, .ref t19, .ref t20, .ref t22])) = H27 at *
    clear nbl
    have rbl : Rps K H26 [.ref q1, .ref c3, .ref t5, .ref t8, .ref t9, .ref t11, .ref t12, .ref t14, .ref t15, .ref t18, .ref t19, .ref t20, .ref t22] [.tuple [.tuple [pd, .int nj], .str mk, .tuple fs, .tuple es], .tuple [.tuple [pd, .int nj], .str mk, .tuple fs, .tuple es, .int c, .int 0], .tuple [.tuple [.int 0, .int 0], .str mk, .tuple fs, .tuple es, .int c], .tuple [.tuple [.tuple [], .int (-1)], .str mk, .tuple fs, .tuple es, .int c], .tuple [.tuple [pd, .int nj], .str "", .tuple fs, .tuple es, .int c], .tuple [.tuple [pd, .int nj], .str "new", .tuple fs, .tuple es, .int c], .tuple [.tuple [pd, .int nj], .str mk, .int 5, .tuple es, .int c], .tuple [.tuple [pd, .int nj], .str mk, .tuple fs, .tuple [.int 3], .int c], .tuple [.tuple [pd, .int nj], .str mk, .tuple fs, .tuple es, .int (-1)], .tuple [.tuple [pd, .int nj], .str mk, .tuple fs, .tuple es, .int (10 ^ (12 : Int).toNat + 1)], .tuple [.tuple [pd, .int nj], .str mk, .tuple fs, .tuple es, .str "1"], .tuple [], .tuple [.tuple [pd], .str mk, .tuple fs, .tuple es, .int c]] := rl17.app rl23
    clear rl17 rl23 hl17 hl23
    have tk := Same.tups sbl
    have rnm := rnm.keep tk
    have rpv := rpv.keep tk
    have rfs := rfs.keep tk
    have res := res.keep tk
    have rt2 := rt2.keep tk
    have rbl := rbl.keep tk
    have hbu := Cm.sameT sbl hbu
    have hna := Cm.sameT sbl hna
    have ht2 := Cm.sameT sbl ht2
    clear tk
    have sA := sA.trans sbl
    clear sbl
    simp only [gName, List.set_cons_succ, List.set_cons_zero]
    have B0 : BadAt K H27 bl 13 H27 := ⟨_, smallBad (.tuple [pd, .int nj]) (.str mk) (.tuple fs) (.tuple es) c pd, Keep.refl _ _, hbl, rbl, small_bad fnm fmk ffs fes fpd ees, rfl⟩
--REST
    clear rpv rt2 rbl
    have hpL : H27 pn = some (.lst (nums.map V.int)) := sA _ _ hp
    -- the first loop
    refine ⟨rfl, fun G pv us sG hus rus => ?_⟩
    have npv : pv ≠ bl := fun e => by
      subst e
      rw [sG _ _ hbl] at hus
      injection hus with hus
      injection hus with hus
      subst hus
      cases rus with
      | cons r _ => cases r
    have lus : us.length = 13 := rus.len
    refine ⟨pv, rfl, ⟨_, SqL.of hus⟩, for_list (K := K) (a := pv) (xs := us) (fun j σ G' => ∃ x9 : Option V, σ = [some (.ref l), some (.ref pn), some (.ref pb), some (.ref na), some (.str mk), some w3, some w4, some (.int c), some (.ref bl), x9, none, none, none, none] ∧ BadAt K H27 bl (13 + j) G' ∧ G' pv = some (.lst us) ∧ Rps K G' us badVals)
      ⟨_, rfl, B0.same sG, hus, rus⟩ (fun j σ G' _ h => by obtain ⟨_, _, _, h, _⟩ := h; exact SqL.of h) (fun j y σ G' hy ⟨x9, e, B, hus', rus'⟩ => ?_) fun σ G' ⟨x9, e, B, _, _⟩ => ?_⟩
    · subst e
      have hj : j < badVals.length := by
        have := (List.getElem?_eq_some_iff.mp hy).1
        have := rus'.len
        omega
      have hj' : j < 13 := hj
      obtain ⟨xs, ds, kp, hb, rs, hB, hl⟩ := B
      obtain ⟨y', hy', ry⟩ := rus'.at_ (i := j) (d := badVals[j]) (List.getElem?_eq_getElem hj)
      rw [hy] at hy'
      cases hy'
      have tp := Keep.tups kp hbl
      have rnm := rnm.keep tp
      have rfs := rfs.keep tp
      have res := res.keep tp
      have lx : xs.length = 13 + j := by rw [rs.len]; exact hl
      refine ⟨_, rfl, .inl ⟨rfl, _, SqL.of hb⟩, _, rfl, _, rfl, _, rfl, _, rfl, Cm.small (by show 1 ≤ 100000; decide), fun t nt => ?_⟩
      have st := Cm.same_new (o := .tup [y]) nt
      refine cat_rp (rfs.keep (Same.tups st)) (Rp.made (K := K) nt (.cons ry .nil)) (by show fs.length + 1 ≤ 10000000; omega) fun v2 G2 s2 r2 => ?_
      refine ⟨_, rfl, _, rfl, Cm.small (by show 5 ≤ 100000; decide), fun t2 nt2 => ?_⟩
      have st2 := Cm.same_new (o := .tup [.ref na, .str mk, v2, w4, .int c]) nt2
      have s12 := st.trans s2
      have sx := s12.trans st2
      refine ⟨bl, xs, _, rfl, rfl, sx _ _ hb, Cm.smallL (by omega), ?_⟩
      have rr : Rp K _ (.ref t2) (.tuple [.tuple [pd, .int nj], .str mk, .tuple (fs ++ [badVals[j]]), .tuple es, .int c]) := Rp.made (K := K) nt2 (.cons (rnm.keep (Same.tups s12)) (.cons (.str _) (.cons r2 (.cons (res.keep (Same.tups s12)) (.cons (.int _) .nil)))))
      have bb := bad_app kp hb rs hB hl sx rr (bad_val fnm fmk (al_fs hf) lf fes ees (List.getElem_mem hj))
      have kn : ∀ {G3 : Hp} {o}, Keep bl G3 (upd G3 bl o) := fun b o hb n => by rw [upd_ne n]; exact hb
      exact ⟨_, rfl, bb, kn _ _ (sx _ _ hus') npv, (rus'.keep (Same.tups sx)).keep (Keep.tups kn (sx _ _ hb))⟩
    · subst e
      rw [lus] at B
      clear B0
      obtain ⟨xs, ds, kp, hb, rs, hB, hl⟩ := id B
      refine ⟨_, rfl, pn, nums, 60, rfl, ⟨kp _ _ hpL npbl, hok, by omega⟩, fun H5 ov oe s5 ro hoe => ?_⟩
      simp only [gName, List.set_cons_succ, List.set_cons_zero]
      have B := B.same s5
      obtain ⟨e, rfl, fe1, fe2, fe3, fe4, fe5, fe6, fe7, fe8⟩ := ent_parts hoe
      have few : EntOk e.d := ent_word hoe
      have fed : Fn 6 e.d := fn_ent hoe
      -- the second loop
      refine ⟨_, rfl, ov, e, rfl, ro, fun G pv us sG hus rus => ?_⟩
      have lus : us.length = 17 := rus.len
      have B := B.same sG
      have npv : pv ≠ bl := fun z => by
        subst z
        obtain ⟨xs, ds, _, hb, rs, _, hl⟩ := id B
        rw [hus] at hb
        injection hb with hb
        injection hb with hb
        subst hb
        have := rs.len
        omega
      clear rs hB hl hb kp
      refine ⟨pv, rfl, ⟨_, SqL.of hus⟩, for_list (K := K) (a := pv) (xs := us) (fun j σ G' => ∃ x11 : Option V, σ = [some (.ref l), some (.ref pn), some (.ref pb), some (.ref na), some (.str mk), some w3, some w4, some (.int c), some (.ref bl), x9, some ov, x11, none, none] ∧ BadAt K H27 bl (26 + j) G' ∧ G' pv = some (.lst us) ∧ Rps K G' us (badEnts e) ∧ Rp K G' ov e.d)
        ⟨_, rfl, B, hus, rus, ro.keep (Same.tups sG)⟩ (fun j σ G' _ h => by obtain ⟨_, _, _, h, _⟩ := h; exact SqL.of h) (fun j y σ G' hy ⟨x11, e', B, hus', rus', ro'⟩ => ?_) fun σ G' ⟨x11, e', B, _, _, ro'⟩ => ?_⟩
      · subst e'
        have hj : j < (badEnts e).length := by
          have := (List.getElem?_eq_some_iff.mp hy).1
          have := rus'.len
          omega
        have hj' : j < 17 := hj
        obtain ⟨xs, ds, kp, hb, rs, hB, hl⟩ := B
        obtain ⟨y', hy', ry⟩ := rus'.at_ (i := j) (d := (badEnts e)[j]) (List.getElem?_eq_getElem hj)
        rw [hy] at hy'
        cases hy'
        have tp := Keep.tups kp hbl
        have rnm := rnm.keep tp
        have rfs := rfs.keep tp
        have lx : xs.length = 26 + j := by rw [rs.len]; exact hl
        refine ⟨_, rfl, .inl ⟨rfl, _, SqL.of hb⟩, _, rfl, _, rfl, _, rfl, _, rfl, Cm.small (by show 1 ≤ 100000; decide), fun t nt => ?_⟩
        have st := Cm.same_new (o := .tup [y]) nt
        refine ⟨_, rfl, Cm.small (by show 5 ≤ 100000; decide), fun t2 nt2 => ?_⟩
        have st2 := Cm.same_new (o := .tup [.ref na, .str mk, w3, .ref t, .int c]) nt2
        have sx := st.trans st2
        refine ⟨bl, xs, _, rfl, rfl, sx _ _ hb, Cm.smallL (by omega), ?_⟩
        have rr : Rp K _ (.ref t2) (.tuple [.tuple [pd, .int nj], .str mk, .tuple fs, .tuple [(badEnts e)[j]], .int c]) := Rp.made (K := K) nt2 (.cons (rnm.keep (Same.tups st)) (.cons (.str _) (.cons (rfs.keep (Same.tups st)) (.cons (Rp.made (K := K) nt (.cons ry .nil)) (.cons (.int _) .nil)))))
        have hin := List.getElem_mem hj
        have bb := bad_app kp hb rs hB hl sx rr (bad_ent fnm fmk ffs (badEnts_no e _ hin) (badEnts_fn e fe1 fe2 fe3 fe4 fe5 fe6 fe7 fe8 _ hin) (badEnts_word e _ hin))
        have kn : ∀ {G3 : Hp} {o}, Keep bl G3 (upd G3 bl o) := fun b o hb n => by rw [upd_ne n]; exact hb
        have tk := Keep.tups (kn (o := .lst (xs ++ [.ref t2]))) (sx _ _ hb)
        exact ⟨_, rfl, bb, kn _ _ (sx _ _ hus') npv, (rus'.keep (Same.tups sx)).keep tk, (ro'.keep (Same.tups sx)).keep tk⟩
      · subst e'
        rw [lus] at B
        -- (one, one)
        obtain ⟨xs, ds, kp, hb, rs, hB, hl⟩ := id B
        have tp := Keep.tups kp hbl
        have lx : xs.length = 43 := by rw [rs.len]; exact hl
        refine ⟨_, rfl, .inl ⟨rfl, _, SqL.of hb⟩, _, rfl, _, rfl, _, rfl, _, rfl, _, rfl, Cm.small (by show 2 ≤ 100000; decide), fun t nt => ?_⟩
        have st := Cm.same_new (o := .tup [ov, ov]) nt
        refine ⟨_, rfl, Cm.small (by show 5 ≤ 100000; decide), fun t2 nt2 => ?_⟩
        have st2 := Cm.same_new (o := .tup [.ref na, .str mk, w3, .ref t, .int c]) nt2
        have sx := st.trans st2
        refine ⟨bl, xs, _, rfl, rfl, sx _ _ hb, Cm.smallL (by omega), ?_⟩
        have rr : Rp K _ (.ref t2) (.tuple [.tuple [pd, .int nj], .str mk, .tuple fs, .tuple [e.d, e.d], .int c]) := Rp.made (K := K) nt2 (.cons ((rnm.keep tp).keep (Same.tups st)) (.cons (.str _) (.cons ((rfs.keep tp).keep (Same.tups st)) (.cons (Rp.made (K := K) nt (.cons ro' (.cons ro' .nil))) (.cons (.int _) .nil)))))
        have bb := bad_app kp hb rs hB hl sx rr (bad_two fnm fmk ffs fed few)
        have kn : ∀ {G3 : Hp} {o}, Keep bl G3 (upd G3 bl o) := fun b o hb n => by rw [upd_ne n]; exact hb
        have tk := Keep.tups (kn (o := .lst (xs ++ [.ref t2]))) (sx _ _ hb)
        have ro7 := (ro'.keep (Same.tups sx)).keep tk
        clear ro' rr rs hB hl hb kp tk kn
        generalize upd (upd (upd _ t _) t2 _) bl _ = H7 at *
        obtain ⟨xs7, ds7, kp7, hb7, rs7, hB7, hl7⟩ := id bb
        have tp7 := Keep.tups kp7 hbl
        have rnm7 := rnm.keep tp7
        have rfs7 := rfs.keep tp7
        obtain ⟨ea, evs, rfl, hea, rse⟩ := (res.keep tp7).tup_inv
        have le' := rse.len
        obtain ⟨n80, hn80, e80⟩ := Cm.at_int (ns := nums) (i := 80) (by omega) (by omega)
        obtain ⟨g80, _⟩ := hok n80 hn80
        refine ⟨fun σ' G' => ∃ (x12 : Option V) (m : Nat), m ≤ 45 ∧ σ' = [some (.ref l), some (.ref pn), some (.ref pb), some (.ref na), some (.str mk), some w3, some (.ref ea), some (.int c), some (.ref bl), x9, some ov, x11, x12, none] ∧ BadAt K H27 bl m G' ∧ Rp K G' ov e.d, ?_, fun σ' G' ⟨x12, m, hm45, e', B, ro'⟩ => ?_⟩
        · refine ⟨_, rfl, ea, _, rfl, .inr hea, ?_⟩
          refine ⟨_, _, rfl, rfl, _, rfl, Cm.itD (fun h => ?_) fun h => ?_⟩
          · refine ⟨_, rfl, pn, _, _, _, rfl, rfl, SqL.of (kp7 _ _ hpL npbl), e80, _, rfl, ea, _, rfl, .inr hea, _, _, rfl, rfl, _, _, rfl, rfl, (by omega), ?_⟩
            have hk : ∃ k : Nat, n80 % ((evs.length : Int) - 1) = (k : Int) ∧ k + 1 < evs.length := by
              have h1 := Int.emod_nonneg n80 (b := (evs.length : Int) - 1) (by omega)
              have h2 := Int.emod_lt_of_pos n80 (b := (evs.length : Int) - 1) (by omega)
              exact ⟨(n80 % ((evs.length : Int) - 1)).toNat, by omega, by omega⟩
            obtain ⟨k, hk, hk1⟩ := hk
            simp only [gName, List.set_cons_succ, List.set_cons_zero]
            rw [hk]
            clear hk
            refine ⟨_, rfl, .inl ⟨rfl, _, SqL.of hb7⟩, _, rfl, _, rfl, _, rfl, _, rfl, _, rfl, ?_⟩
            refine ⟨_, rfl, upto_rp (k := k) (Rp.tup hea rse) (by omega) fun v1 G1 s1 r1 => ?_⟩
            have hlk : k + 1 < es.length := by omega
            obtain ⟨vx, hvx, rvx⟩ := rse.at_ (i := k) (d := es[k]) (List.getElem?_eq_getElem (by omega))
            obtain ⟨vy, hvy, rvy⟩ := rse.at_ (i := k + 1) (d := es[k + 1]) (List.getElem?_eq_getElem hlk)
            have hea1 := Cm.sameT s1 hea
            refine ⟨_, rfl, _, rfl, _, _, rfl, rfl, ea, _, _, _, rfl, rfl, hea1, atI_nat (j := k + 1) hvy, ?_⟩
            refine ⟨_, rfl, _, rfl, ea, _, _, _, rfl, rfl, hea1, atI_nat (j := k) hvx, Cm.small (by show 2 ≤ 100000; decide), fun t nt => ?_⟩
            have st := Cm.same_new (o := .tup [vy, vx]) nt
            refine cat_rp (r1.keep (Same.tups st)) (Rp.made (K := K) nt (.cons (rvy.keep (Same.tups s1)) (.cons (rvx.keep (Same.tups s1)) .nil))) (by show (es.take k).length + 2 ≤ 10000000; rw [List.length_take]; omega) fun v2 G2 s2 r2 => ?_
            have s12 := (s1.trans st).trans s2
            have hea2 := Cm.sameT s12 hea
            have rse2 := rse.keep (Same.tups s12)
            refine ⟨_, rfl, _, rfl, _, _, rfl, rfl, _, rfl, ?_⟩
            try unfold tNoPart
            refine from_rp (k := k + 2) (Rp.tup hea2 rse2) (by omega) fun v3 G3 s3 r3 => ?_
            refine cat_rp (r2.keep (Same.tups s3)) r3 (by rw [List.length_append, List.length_take, List.length_drop]; show _ + 2 + _ ≤ 10000000; omega) fun v4 G4 s4 r4 => ?_
            have s14 := (s12.trans s3).trans s4
            refine ⟨_, rfl, Cm.small (by show 5 ≤ 100000; decide), fun t2 nt2 => ?_⟩
            have st2 := Cm.same_new (o := .tup [.ref na, .str mk, w3, v4, .int c]) nt2
            have sx := s14.trans st2
            refine ⟨bl, xs7, _, rfl, rfl, sx _ _ hb7, Cm.smallL (by rw [rs7.len]; omega), ?_⟩
            rw [List.append_assoc] at r4
            have hs : es.take k ++ es[k] :: es[k + 1] :: es.drop (k + 2) = es := by rw [← List.drop_eq_getElem_cons, ← List.drop_eq_getElem_cons, List.take_append_drop]
            have rr : Rp K _ (.ref t2) (.tuple [.tuple [pd, .int nj], .str mk, .tuple fs, .tuple (es.take k ++ es[k + 1] :: es[k] :: es.drop (k + 2)), .int c]) := Rp.made (K := K) nt2 (.cons (rnm7.keep (Same.tups s14)) (.cons (.str _) (.cons (rfs7.keep (Same.tups s14)) (.cons r4 (.cons (.int _) .nil)))))
            have bs := bad_app kp7 hb7 rs7 hB7 hl7 sx rr (bad_swap fnm fmk ffs (by rw [hs]; exact he) (by rw [hs]; exact le) (by rw [hs]; exact hO _ _ _ _ _ rfl))
            have kn : ∀ {G3 : Hp} {o}, Keep bl G3 (upd G3 bl o) := fun b o hb n => by rw [upd_ne n]; exact hb
            exact ⟨_, 45, by decide, rfl, bs, (ro7.keep (Same.tups sx)).keep (Keep.tups (kn (o := .lst (xs7 ++ [.ref t2]))) (sx _ _ hb7))⟩
          · exact ⟨none, 44, by decide, rfl, bb, ro7⟩
        · subst e'
          obtain ⟨us, ds, kp, hb, rs, hB, hl⟩ := B
          have tpF := Keep.tups kp hbl
          have rnmF := rnm.keep tpF
          have rfsF := rfs.keep tpF
          clear rnm7 rfs7 tp7 rnm rfs res
          refine ⟨_, rfl, bl, rfl, ⟨_, SqL.of hb⟩, for_list (K := K) (a := bl) (xs := us) (fun j σ G2 => ∃ x13 : Option V, σ = [some (.ref l), some (.ref pn), some (.ref pb), some (.ref na), some (.str mk), some w3, some (.ref ea), some (.int c), some (.ref bl), x9, some ov, x11, x12, x13] ∧ Same G' G2)
            ⟨_, rfl, Same.refl _⟩ (fun j σ G2 _ h => by obtain ⟨_, _, h⟩ := h; exact SqL.of (h _ _ hb)) (fun j y σ G2 hy ⟨x13, e', sB⟩ => ?_) fun σ G2 ⟨x13, e', sB⟩ => ?_⟩
          · subst e'
            have hj : j < ds.length := by
              rw [← rs.len]
              exact (List.getElem?_eq_some_iff.mp hy).1
            obtain ⟨y', hy', ry⟩ := rs.at_ (i := j) (d := ds[j]) (List.getElem?_eq_getElem hj)
            rw [hy] at hy'
            cases hy'
            have hbad := hB _ (List.getElem_mem hj)
            refine ⟨_, rfl, y, ds[j], rfl, ry.keep (Same.tups sB), hbad.fit, hbad.ent, fun G3 s3 => ⟨_, _, rfl, rfl, _, rfl, Cm.itB (fun e => absurd e (by rw [hbad.no]; decide)) fun _ => ?_⟩⟩
            exact ⟨_, rfl, sB.trans s3⟩
          · subst e'
            refine ⟨_, rfl, _, rfl, _, rfl, _, rfl, Cm.small (by show 1 ≤ 100000; decide), fun t nt => ?_⟩
            have st := Cm.same_new (o := .tup [ov]) nt
            refine ⟨_, rfl, Cm.small (by show 5 ≤ 100000; decide), fun t2 nt2 => ?_⟩
            have sf := sB.trans st
            have rr : Rp K _ (.ref t2) (.tuple [.tuple [pd, .int nj], .str mk, .tuple fs, .tuple [e.d], .int c]) := Rp.made (K := K) nt2 (.cons (rnmF.keep (Same.tups sf)) (.cons (.str _) (.cons (rfsF.keep (Same.tups sf)) (.cons (Rp.made (K := K) nt (.cons (ro'.keep (Same.tups sB)) .nil)) (.cons (.int _) .nil)))))
            have hb1 : BundD (.tuple [.tuple [pd, .int nj], .str mk, .tuple fs, .tuple [e.d], .int c]) := ⟨_, mk, fs, [e.d], c, rfl, ho, hm, lf, hf, (by show 1 ≤ 4; decide), fun x hx => by rw [List.mem_singleton.mp hx]; exact hoe, c0, c1⟩
            have ho1 : OrdD (.tuple [.tuple [pd, .int nj], .str mk, .tuple fs, .tuple [e.d], .int c]) := fun o m v es c h => by
              injection h with h
              injection h with _ h
              injection h with _ h
              injection h with _ h
              injection h with h _
              injection h with h
              subst h
              rfl
            refine ⟨_, _, rfl, rr, (fn_bund hb1).fit (by decide), bund_ents hb1, fun G4 s4 => ⟨_, _, rfl, rfl, ?_⟩⟩
            rw [bunD_of hb1 ho1]
            exact q _
def fn : List He.DefD := [⟨("is_name", none), "is_name", "is_name", defArgs s_is_name, defBody s_is_name, defScope s_is_name, [], []⟩,
  ⟨("is_integer", none), "is_integer", "is_integer", defArgs s_is_integer, defBody s_is_integer, defScope s_is_integer, [], []⟩,
  ⟨("is_row", none), "is_row", "is_row", defArgs s_is_row, defBody s_is_row, defScope s_is_row, [], []⟩,
  ⟨("is_natural", none), "is_natural", "is_natural", defArgs s_is_natural, defBody s_is_natural, defScope s_is_natural, [], []⟩,
  ⟨("is_process_name", none), "is_process_name", "is_process_name", defArgs s_is_process_name, defBody s_is_process_name, defScope s_is_process_name, [], []⟩,
  ⟨("is_object_name", none), "is_object_name", "is_object_name", defArgs s_is_object_name, defBody s_is_object_name, defScope s_is_object_name, [], []⟩,
  ⟨("is_value", none), "is_value", "is_value", defArgs s_is_value, defBody s_is_value, defScope s_is_value, [], []⟩,
  ⟨("is_bundle", none), "is_bundle", "is_bundle", defArgs s_is_bundle, defBody s_is_bundle, defScope s_is_bundle, [], []⟩,
  ⟨("_is_code_name", none), "_is_code_name", "_is_code_name", defArgs s_is_code_name, defBody s_is_code_name, defScope s_is_code_name, [], []⟩,
  ⟨("_are_values", none), "_are_values", "_are_values", defArgs s_are_values, defBody s_are_values, defScope s_are_values, [], []⟩,
  ⟨("_is_entry", none), "_is_entry", "_is_entry", defArgs s_is_entry, defBody s_is_entry, defScope s_is_entry, [], []⟩,
  ⟨("_is_frame", none), "_is_frame", "_is_frame", defArgs s_is_frame, defBody s_is_frame, defScope s_is_frame, [], []⟩,
  ⟨("_is_back", none), "_is_back", "_is_back", defArgs s_is_back, defBody s_is_back, defScope s_is_back, [], []⟩,
  ⟨("_is_above", none), "_is_above", "_is_above", defArgs s_is_above, defBody s_is_above, defScope s_is_above, [], []⟩,
  ⟨("_law_numbers", none), "_law_numbers", "_law_numbers", defArgs s_lw_numbers, defBody s_lw_numbers, defScope s_lw_numbers, [], []⟩,
  ⟨("_law_object", none), "_law_object", "_law_object", defArgs s_lw_object, defBody s_lw_object, defScope s_lw_object, [], []⟩,
  ⟨("_law_value", none), "_law_value", "_law_value", defArgs s_lw_value, defBody s_lw_value, defScope s_lw_value, [], []⟩,
  ⟨("_law_values", none), "_law_values", "_law_values", defArgs s_lw_values, defBody s_lw_values, defScope s_lw_values, [], []⟩,
  ⟨("_law_entry", none), "_law_entry", "_law_entry", defArgs s_lw_entry, defBody s_lw_entry, defScope s_lw_entry, [], []⟩,
  ⟨("_law_bundle", none), "_law_bundle", "_law_bundle", defArgs s_lw_bundle, defBody s_lw_bundle, defScope s_lw_bundle, [], []⟩,
  ⟨("_law_bad_values", none), "_law_bad_values", "_law_bad_values", defArgs s_lw_bad_values, defBody s_lw_bad_values, defScope s_lw_bad_values, [], []⟩,
  ⟨("_law_bad_entries", none), "_law_bad_entries", "_law_bad_entries", defArgs s_lw_bad_entries, defBody s_lw_bad_entries, defScope s_lw_bad_entries, [], []⟩,
  ⟨("law", none), "law", "law", defArgs s_law, defBody s_law, defScope s_law, [], []⟩]
def fas : List He.Fa := [.glo "is_name", .glo "is_integer", .glo "is_row", .glo "is_natural", .glo "is_process_name", .glo "is_object_name", .glo "is_value", .glo "is_bundle", .glo "_is_code_name", .glo "_are_values", .glo "_is_entry", .glo "_is_frame", .glo "_is_back", .glo "_is_above", .glo "_law_numbers", .glo "_law_object", .glo "_law_value", .glo "_law_values", .glo "_law_entry", .glo "_law_bundle", .glo "_law_bad_values", .glo "_law_bad_entries", .glo "law", .int "MAX_NUMBER" 1000000000000, .int "MAX_NAME" 12, .glo "WORDS", .glo "NIL", .glo "FAULTS", .free "len", .free "isinstance", .free "int", .free "bool", .free "tuple", .free "all", .free "zip", .free "str", .free "range", .free "abs", .free "max", .free "sorted"]
def tabs : List He.Tab := []
def okX (K : PySem.W.Frag) : Bool := He.tupB K "WORDS" v_WORDS && (He.tupB K "NIL" v_NIL && (He.tupB K "FAULTS" v_FAULTS))
abbrev R : PySem.W.OpenRow := PySem.W.OpenLaw.row PySem.Challenge.rw_portage_k36_bundles_checked
abbrev hk : PySem.W.Hook := Cm.hookX 4 fas fn tabs okX
def ob (s : PySem.W.SharedT) : Cm.AlX := Cm.obsXG 4 fas fn tabs okX (HandSHeadRun.getT s)
theorem ob_eq (s : PySem.W.SharedT) : ob s = hk.obs s.abs := Cm.obsXG_eq (HandSHeadRun.getT_eq s)
abbrev loose : List Str := (["MAX_NUMBER", "MAX_NAME", "WORDS", "is_name", "is_integer", "NIL", "is_row", "is_natural", "is_process_name", "is_object_name", "is_value", "FAULTS", "is_bundle", "_is_code_name", "_are_values", "_is_entry", "_is_frame", "_is_back", "_is_above", "_law_numbers", "_law_object", "_law_value", "_law_values", "_law_entry", "_law_bundle", "_law_bad_values", "_law_bad_entries"] : List Str)
theorem run (w : World) : HandSHeadRun.RunEq R (PySem.W.view R.prog [31]) hk ob 4000 loose w := by
  intro os
  kernel_rfl
theorem facts {P : Program} {w : World} {K : PySem.W.Frag} {h : Heap} {mg : Str → Option Value} {f : Addr} (X : K.In h) (G : h.Ns mainGlobals mg) (hfa : mg ("law" : Str) = some (.ref f)) (ok : okX K = true) (c : He.SaysT fas fn tabs w K) :
    ∃ fd : FuncData, (∀ (s : Shared) (v : Value), BindsTo s fd ⟨[v], []⟩ [("script", v)]) ∧ ∀ base : Heap, K.In base → base.Ns mainGlobals mg → FnOk P w K mg base CX0 10 f fd ["script"] (spLaw K) := by
  obtain ⟨d_is_name, F_is_name⟩ := c.d.def_ 0 rfl
  obtain ⟨d_is_integer, F_is_integer⟩ := c.d.def_ 1 rfl
  obtain ⟨d_is_row, F_is_row⟩ := c.d.def_ 2 rfl
  obtain ⟨d_is_natural, F_is_natural⟩ := c.d.def_ 3 rfl
  obtain ⟨d_is_process_name, F_is_process_name⟩ := c.d.def_ 4 rfl
  obtain ⟨d_is_object_name, F_is_object_name⟩ := c.d.def_ 5 rfl
  obtain ⟨d_is_value, F_is_value⟩ := c.d.def_ 6 rfl
  obtain ⟨d_is_bundle, F_is_bundle⟩ := c.d.def_ 7 rfl
  obtain ⟨d_is_code_name, F_is_code_name⟩ := c.d.def_ 8 rfl
  obtain ⟨d_are_values, F_are_values⟩ := c.d.def_ 9 rfl
  obtain ⟨d_is_entry, F_is_entry⟩ := c.d.def_ 10 rfl
  obtain ⟨d_is_frame, F_is_frame⟩ := c.d.def_ 11 rfl
  obtain ⟨d_is_back, F_is_back⟩ := c.d.def_ 12 rfl
  obtain ⟨d_is_above, F_is_above⟩ := c.d.def_ 13 rfl
  obtain ⟨d_lw_numbers, F_lw_numbers⟩ := c.d.def_ 14 rfl
  obtain ⟨d_lw_object, F_lw_object⟩ := c.d.def_ 15 rfl
  obtain ⟨d_lw_value, F_lw_value⟩ := c.d.def_ 16 rfl
  obtain ⟨d_lw_values, F_lw_values⟩ := c.d.def_ 17 rfl
  obtain ⟨d_lw_entry, F_lw_entry⟩ := c.d.def_ 18 rfl
  obtain ⟨d_lw_bundle, F_lw_bundle⟩ := c.d.def_ 19 rfl
  obtain ⟨d_lw_bad_values, F_lw_bad_values⟩ := c.d.def_ 20 rfl
  obtain ⟨d_lw_bad_entries, F_lw_bad_entries⟩ := c.d.def_ 21 rfl
  obtain ⟨d_law, F_law⟩ := c.d.def_ 22 rfl
  have e := hfa.symm.trans (He.glo_ok X G (c.d.fact 22 (f := .glo "law") rfl))
  cases e
  unfold okX at ok
  simp only [Bool.and_eq_true] at ok
  obtain ⟨o0, o1, o2⟩ := ok
  have T : Txt K mg w ⟨d_is_name, d_is_integer, d_is_row, d_is_natural, d_is_process_name, d_is_object_name, d_is_value, d_is_bundle, d_is_code_name, d_are_values, d_is_entry, d_is_frame, d_is_back, d_is_above, d_lw_numbers, d_lw_object, d_lw_value, d_lw_values, d_lw_entry, d_lw_bundle, d_lw_bad_values, d_lw_bad_entries, d_law⟩ := {
    F_is_name := F_is_name
    b_is_name := F_is_name.bindsN (ps := ["text"]) fun _ _ _ _ _ _ us hl => match us, hl with | [_], _ => rfl
    g_is_name := He.glo_ok X G (c.d.fact 0 (f := .glo "is_name") rfl)
    F_is_integer := F_is_integer
    b_is_integer := F_is_integer.bindsN (ps := ["value"]) fun _ _ _ _ _ _ us hl => match us, hl with | [_], _ => rfl
    g_is_integer := He.glo_ok X G (c.d.fact 1 (f := .glo "is_integer") rfl)
    F_is_row := F_is_row
    b_is_row := F_is_row.bindsN (ps := ["value", "many"]) fun _ _ _ _ _ _ us hl => match us, hl with | [_, _], _ => rfl
    g_is_row := He.glo_ok X G (c.d.fact 2 (f := .glo "is_row") rfl)
    F_is_natural := F_is_natural
    b_is_natural := F_is_natural.bindsN (ps := ["value"]) fun _ _ _ _ _ _ us hl => match us, hl with | [_], _ => rfl
    g_is_natural := He.glo_ok X G (c.d.fact 3 (f := .glo "is_natural") rfl)
    F_is_process_name := F_is_process_name
    b_is_process_name := F_is_process_name.bindsN (ps := ["value"]) fun _ _ _ _ _ _ us hl => match us, hl with | [_], _ => rfl
    g_is_process_name := He.glo_ok X G (c.d.fact 4 (f := .glo "is_process_name") rfl)
    F_is_object_name := F_is_object_name
    b_is_object_name := F_is_object_name.bindsN (ps := ["value"]) fun _ _ _ _ _ _ us hl => match us, hl with | [_], _ => rfl
    g_is_object_name := He.glo_ok X G (c.d.fact 5 (f := .glo "is_object_name") rfl)
    F_is_value := F_is_value
    b_is_value := F_is_value.bindsN (ps := ["value"]) fun _ _ _ _ _ _ us hl => match us, hl with | [_], _ => rfl
    g_is_value := He.glo_ok X G (c.d.fact 6 (f := .glo "is_value") rfl)
    F_is_bundle := F_is_bundle
    b_is_bundle := F_is_bundle.bindsN (ps := ["value"]) fun _ _ _ _ _ _ us hl => match us, hl with | [_], _ => rfl
    g_is_bundle := He.glo_ok X G (c.d.fact 7 (f := .glo "is_bundle") rfl)
    F_is_code_name := F_is_code_name
    b_is_code_name := F_is_code_name.bindsN (ps := ["value"]) fun _ _ _ _ _ _ us hl => match us, hl with | [_], _ => rfl
    g_is_code_name := He.glo_ok X G (c.d.fact 8 (f := .glo "_is_code_name") rfl)
    F_are_values := F_are_values
    b_are_values := F_are_values.bindsN (ps := ["value"]) fun _ _ _ _ _ _ us hl => match us, hl with | [_], _ => rfl
    g_are_values := He.glo_ok X G (c.d.fact 9 (f := .glo "_are_values") rfl)
    F_is_entry := F_is_entry
    b_is_entry := F_is_entry.bindsN (ps := ["value"]) fun _ _ _ _ _ _ us hl => match us, hl with | [_], _ => rfl
    g_is_entry := He.glo_ok X G (c.d.fact 10 (f := .glo "_is_entry") rfl)
    F_is_frame := F_is_frame
    b_is_frame := F_is_frame.bindsN (ps := ["value"]) fun _ _ _ _ _ _ us hl => match us, hl with | [_], _ => rfl
    g_is_frame := He.glo_ok X G (c.d.fact 11 (f := .glo "_is_frame") rfl)
    F_is_back := F_is_back
    b_is_back := F_is_back.bindsN (ps := ["value", "depth"]) fun _ _ _ _ _ _ us hl => match us, hl with | [_, _], _ => rfl
    g_is_back := He.glo_ok X G (c.d.fact 12 (f := .glo "_is_back") rfl)
    F_is_above := F_is_above
    b_is_above := F_is_above.bindsN (ps := ["entry", "before"]) fun _ _ _ _ _ _ us hl => match us, hl with | [_, _], _ => rfl
    g_is_above := He.glo_ok X G (c.d.fact 13 (f := .glo "_is_above") rfl)
    F_lw_numbers := F_lw_numbers
    b_lw_numbers := F_lw_numbers.bindsN (ps := ["script", "many"]) fun _ _ _ _ _ _ us hl => match us, hl with | [_, _], _ => rfl
    g_lw_numbers := He.glo_ok X G (c.d.fact 14 (f := .glo "_law_numbers") rfl)
    F_lw_object := F_lw_object
    b_lw_object := F_lw_object.bindsN (ps := ["number"]) fun _ _ _ _ _ _ us hl => match us, hl with | [_], _ => rfl
    g_lw_object := He.glo_ok X G (c.d.fact 15 (f := .glo "_law_object") rfl)
    F_lw_value := F_lw_value
    b_lw_value := F_lw_value.bindsN (ps := ["number"]) fun _ _ _ _ _ _ us hl => match us, hl with | [_], _ => rfl
    g_lw_value := He.glo_ok X G (c.d.fact 16 (f := .glo "_law_value") rfl)
    F_lw_values := F_lw_values
    b_lw_values := F_lw_values.bindsN (ps := ["numbers", "at", "most"]) fun _ _ _ _ _ _ us hl => match us, hl with | [_, _, _], _ => rfl
    g_lw_values := He.glo_ok X G (c.d.fact 17 (f := .glo "_law_values") rfl)
    F_lw_entry := F_lw_entry
    b_lw_entry := F_lw_entry.bindsN (ps := ["numbers", "at"]) fun _ _ _ _ _ _ us hl => match us, hl with | [_, _], _ => rfl
    g_lw_entry := He.glo_ok X G (c.d.fact 18 (f := .glo "_law_entry") rfl)
    F_lw_bundle := F_lw_bundle
    b_lw_bundle := F_lw_bundle.bindsN (ps := ["numbers", "at"]) fun _ _ _ _ _ _ us hl => match us, hl with | [_, _], _ => rfl
    g_lw_bundle := He.glo_ok X G (c.d.fact 19 (f := .glo "_law_bundle") rfl)
    F_lw_bad_values := F_lw_bad_values
    b_lw_bad_values := F_lw_bad_values.bindsN (ps := []) fun _ _ _ _ _ _ us hl => match us, hl with | [], _ => rfl
    g_lw_bad_values := He.glo_ok X G (c.d.fact 20 (f := .glo "_law_bad_values") rfl)
    F_lw_bad_entries := F_lw_bad_entries
    b_lw_bad_entries := F_lw_bad_entries.bindsN (ps := ["entry"]) fun _ _ _ _ _ _ us hl => match us, hl with | [_], _ => rfl
    g_lw_bad_entries := He.glo_ok X G (c.d.fact 21 (f := .glo "_law_bad_entries") rfl)
    F_law := F_law
    b_law := F_law.bindsN (ps := ["script"]) fun _ _ _ _ _ _ us hl => match us, hl with | [_], _ => rfl
    g_law := He.glo_ok X G (c.d.fact 22 (f := .glo "law") rfl)
    g_MAX_NUMBER := He.int_ok X G (c.d.fact 23 (f := .int "MAX_NUMBER" 1000000000000) rfl)
    g_MAX_NAME := He.int_ok X G (c.d.fact 24 (f := .int "MAX_NAME" 12) rfl)
    g_WORDS := He.glo_ok X G (c.d.fact 25 (f := .glo "WORDS") rfl)
    k_WORDS := fun H => He.tupB_ok o0 H
    g_NIL := He.glo_ok X G (c.d.fact 26 (f := .glo "NIL") rfl)
    k_NIL := fun H => He.tupB_ok o1 H
    g_FAULTS := He.glo_ok X G (c.d.fact 27 (f := .glo "FAULTS") rfl)
    k_FAULTS := fun H => He.tupB_ok o2 H
    g_len := He.free_ok X G (c.d.fact 28 (f := .free "len") rfl)
    g_isinstance := He.free_ok X G (c.d.fact 29 (f := .free "isinstance") rfl)
    g_int := He.free_ok X G (c.d.fact 30 (f := .free "int") rfl)
    g_bool := He.free_ok X G (c.d.fact 31 (f := .free "bool") rfl)
    g_tuple := He.free_ok X G (c.d.fact 32 (f := .free "tuple") rfl)
    g_all := He.free_ok X G (c.d.fact 33 (f := .free "all") rfl)
    g_zip := He.free_ok X G (c.d.fact 34 (f := .free "zip") rfl)
    g_str := He.free_ok X G (c.d.fact 35 (f := .free "str") rfl)
    g_range := He.free_ok X G (c.d.fact 36 (f := .free "range") rfl)
    g_abs := He.free_ok X G (c.d.fact 37 (f := .free "abs") rfl)
    g_max := He.free_ok X G (c.d.fact 38 (f := .free "max") rfl)
    g_sorted := He.free_ok X G (c.d.fact 39 (f := .free "sorted") rfl)
  }
  have b := Cm.bindsA_of (x := "law") (st := s_law) (ps := ["script"]) F_law fun _ _ _ _ _ _ us hl => match us, hl with | [_], _ => rfl
  exact ⟨d_law, fun s v => b s [v] rfl, fun base _ _ => ok_law T⟩
end K36
open PySem PySem.W PySem.Calls PyProof.Rows
set_option maxHeartbeats 0 in
theorem PySem.Challenge.cw_portage_k36_bundles_checked_holds : PySem.Challenge.rw_portage_k36_bundles_checked.Holds := by
  w_on; o_law
  refine HandSHeadRun.head_any (r := OpenLaw.row PySem.Challenge.rw_portage_k36_bundles_checked) (q := view (OpenLaw.row PySem.Challenge.rw_portage_k36_bundles_checked).prog [31]) (H := K36.hk) (ob := K36.ob) (M := 4000) (loose := K36.loose) (d := HandSHeadRun.topDef (OpenLaw.row PySem.Challenge.rw_portage_k36_bundles_checked).prog 31) (kwd := []) K36.ob_eq
    (by kernel_rfl) (fun s => by kernel_rfl) K36.run (by kernel_rfl) (by kernel_rfl) (by kernel_rfl) (by rfl) (by first | assumption | decide +kernel) (by decide +kernel) ⟨rfl, rfl, rfl, rfl, rfl, by decide +kernel⟩ ?hw ?hc
  case hw => w_witness2
  case hc =>
    refine L2.walk_ofE (l := PySem.Challenge.rw_portage_k36_bundles_checked) (n := 63) (k := 10) (x := "script") (CX := L2.CX0) rfl (by decide) (by kernel_rfl) ⟨rfl, by decide, by decide⟩ ?F (fun _ _ _ _ z => z)
    intro w mg fa h Y G hmg0
    obtain ⟨K, KX, ok, c⟩ := Y
    have hmg : mg ("law" : PySem.Str) = some (.ref fa) := by
      have e : (HandSHeadRun.topDef (OpenLaw.row PySem.Challenge.rw_portage_k36_bundles_checked).prog 31).name = ("law" : PySem.Str) := by kernel_rfl
      rw [← e]
      exact hmg0
    obtain ⟨fd, hb, hF⟩ := K36.facts (P := (PySem.Challenge.rw_portage_k36_bundles_checked).prog) (w := w) KX G hmg ok c
    exact ⟨K, fd, K36.spLaw K, KX, hb, fun H a ns hl _ hS => ⟨a, ns, rfl, hS, hl, fun _ => rfl⟩, hF⟩

