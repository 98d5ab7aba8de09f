import PyProof.Rows.All
import Wide.All
import OpenK.AllK
import Wide.FinOn
import KE.KStateDown
import Lean
import HandS.ForMost
import HandS.Defaults
import HandS.More
import HandS.Flow
import HandS.Style
import HandS.StrMore
import HandS.IsInst
import HandS.TupAny
import HandS.TupMul
import HandS.Head0
import HandS.Head1
import HandS.Head2
import HandS.HeadEnd
import HandS.HeadHook1
import HandS.HeadHook2
import HandS.HeadHook3
import KE.KeyNested
import PyProof.DictMoreH
import KE.KTupSum
import HandS.ExcOwn
import HandS.WordsExc
import KE.SortCalls
import KE.SortKeyed
import KE.KDictCopyH
import KE.KDictSum
import HandS.Zip
import HandS.Deep
import HandS.Comp
import KE.DataCmp
import KE.KRevSl
import PyProof.EqAt
import HandS.FStr
import HandS.Iter
import KE.SortData
import HandS.Codes
import HandS.TryOnly
import HandS.Exc
import KE.GoesRaise
import HandS.SortKw
import KE.DataMinMax
import PyProof.Draws
import HandS.ExcIs
import HandS.RaiseMore
import PySem.Challenge.RW_portage_k07_names_and_lines
set_option Elab.async false
set_option linter.all false
set_option maxRecDepth 100000
set_option maxHeartbeats 4000000
/-! What my proofs have in common: a Hook with one more test, and small words. -/
namespace Cm
open PySem PySem.Spec PyProof.Rows L2 He

abbrev FnP (K : PySem.W.Frag) (x : Str) (st : Stmt) (f : Addr) (fd : FuncData) : Prop := FunD K x x (defArgs st) (defBody st) (defScope st) [] [] f fd
theorem bindsA_of {K : PySem.W.Frag} {x : Str} {st : Stmt} {f : Addr} {fd : FuncData} {ps : List Str} (F : FnP K x st f fd)
    (h : ∀ (kV doc pm : Value) (an : Option Addr) (cdv ct : Value) (us : List Value), us.length = ps.length → bindArgs (PySem.W.fnOf x x (defArgs st) (defBody st) (defScope st) .none kV doc pm an cdv ct) ⟨us, []⟩ = pure (ps.zip us)) (s : Shared) (us : List Value) (hl : us.length = ps.length) : BindsTo s fd ⟨us, []⟩ (ps.zip us) := FunD.bindsA F h s us hl

/-! ### heaps that grow -/
theorem same_new {H : Hp} {p : Addr} {o : HO} (h : H p = none) : Same H (upd H p o) := fun b x e => by
  rw [upd_ne (ne_of_none e h)]
  exact e
theorem same_mut {H H' : Hp} {p : Addr} {o : HO} (s : Same H H') (h : H p = none) : Same H (upd H' p o) := fun b x e => by
  rw [upd_ne (ne_of_none e h)]
  exact s b x e
theorem sameT {K : PySem.W.Frag} {H H' : Hp} {a : Addr} {xs : List V} (s : Same H H') (h : SqT K H a xs) : SqT K H' a xs := by
  rcases h with (h | ⟨o, h⟩) | h
  · exact .inl (.inl (s _ _ h))
  · exact .inl (.inr ⟨o, s _ _ h⟩)
  · exact .inr h
theorem sqt_new {K : PySem.W.Frag} {H : Hp} {p : Addr} {xs : List V} : SqT K (upd H p (.tup xs)) p xs := .inl (.inl upd_same)
theorem sql_new {K : PySem.W.Frag} {H : Hp} {p : Addr} {xs : List V} : SqL K (upd H p (.lst xs)) p xs := .inl (.inl upd_same)
theorem small {n : Nat} (h : n ≤ 100000) : n ≤ sizeLine := by
  rw [sizeLine_eq]
  omega
theorem smallL {n : Nat} (h : n ≤ 100000) : n < sizeLine := by
  rw [sizeLine_eq]
  omega
/-! ### tests -/
theorem itV {x : Bool} {A B : Prop} (h1 : x = true → A) (h2 : x = false → B) : if (if false = true then !x else x) = true then A else B := by
  cases x
  · exact h2 rfl
  · exact h1 rfl
theorem itVn {x : Bool} {A B : Prop} (h1 : x = false → A) (h2 : x = true → B) : if (if true = true then !x else x) = true then A else B := by
  cases x
  · exact h1 rfl
  · exact h2 rfl
theorem itB {x : Bool} {A B : Prop} (h1 : x = true → A) (h2 : x = false → B) : if x = true then A else B := by
  cases x
  · exact h2 rfl
  · exact h1 rfl
theorem itBn {x : Bool} {A B : Prop} (h1 : x = false → A) (h2 : x = true → B) : if (!x) = true then A else B := by
  cases x
  · exact h1 rfl
  · exact h2 rfl
theorem itD {c : Prop} [Decidable c] {A B : Prop} (h1 : c → A) (h2 : ¬ c → B) : if decide c = true then A else B := by
  by_cases h : c
  · rw [if_pos (decide_eq_true h)]
    exact h1 h
  · rw [if_neg (by rw [decide_eq_false h]; decide)]
    exact h2 h
theorem itDn {c : Prop} [Decidable c] {A B : Prop} (h1 : ¬ c → A) (h2 : c → B) : if (!decide c) = true then A else B := by
  by_cases h : c
  · rw [if_neg (by rw [decide_eq_true h]; decide)]
    exact h2 h
  · rw [if_pos (by rw [decide_eq_false h]; rfl)]
    exact h1 h
theorem deq_int {i j : Int} : decide (V.int i = V.int j) = decide (i = j) := by
  by_cases h : i = j
  · rw [h, decide_eq_true rfl, decide_eq_true rfl]
  · rw [decide_eq_false h, decide_eq_false fun e => h (V.int.inj e)]
theorem deq_str {x y : Str} : decide (V.str x = V.str y) = decide (x = y) := by
  by_cases h : x = y
  · rw [h, decide_eq_true rfl, decide_eq_true rfl]
  · rw [decide_eq_false h, decide_eq_false fun e => h (V.str.inj e)]
theorem deq_bl {x y : Bool} : decide (V.bl x = V.bl y) = decide (x = y) := by
  by_cases h : x = y
  · rw [h, decide_eq_true rfl, decide_eq_true rfl]
  · rw [decide_eq_false h, decide_eq_false fun e => h (V.bl.inj e)]
theorem itEI {x y : Int} {A B : Prop} (h1 : x = y → A) (h2 : ¬ x = y → B) : if decide (V.int x = V.int y) = true then A else B := by
  rw [deq_int]
  exact itD h1 h2
theorem itES {x y : Str} {A B : Prop} (h1 : x = y → A) (h2 : ¬ x = y → B) : if decide (V.str x = V.str y) = true then A else B := by
  rw [deq_str]
  exact itD h1 h2
theorem itNI {x y : Int} {A B : Prop} (h1 : ¬ x = y → A) (h2 : x = y → B) : if (!decide (V.int x = V.int y)) = true then A else B := by
  rw [deq_int]
  exact itDn h1 h2
theorem itNS {x y : Str} {A B : Prop} (h1 : ¬ x = y → A) (h2 : x = y → B) : if (!decide (V.str x = V.str y)) = true then A else B := by
  rw [deq_str]
  exact itDn h1 h2
theorem str_nil {z : Str} (h : z.cps.toList = []) : z = ⟨#[]⟩ := by
  obtain ⟨c⟩ := z
  have e : c = #[] := by simpa using h
  rw [e]
/-! ### items -/
theorem at_in {xs : List V} {i : Int} (h0 : 0 ≤ i) (h1 : i < (xs.length : Int)) : ∃ v, v ∈ xs ∧ atI xs i = some v := by
  obtain ⟨j, rfl⟩ := Int.eq_ofNat_of_zero_le h0
  have h2 : j < xs.length := by omega
  exact ⟨xs[j], List.getElem_mem h2, atI_nat (List.getElem?_eq_getElem h2)⟩
theorem at_str {ws : List Str} {i : Int} (h0 : 0 ≤ i) (h1 : i < (ws.length : Int)) : ∃ w, w ∈ ws ∧ atI (ws.map V.str) i = some (.str w) := by
  obtain ⟨v, hv, e⟩ := at_in (xs := ws.map V.str) h0 (by rw [List.length_map]; exact h1)
  obtain ⟨w, hw, rfl⟩ := List.mem_map.mp hv
  exact ⟨w, hw, e⟩
theorem at_int {ns : List Int} {i : Int} (h0 : 0 ≤ i) (h1 : i < (ns.length : Int)) : ∃ n, n ∈ ns ∧ atI (ns.map V.int) i = some (.int n) := by
  obtain ⟨v, hv, e⟩ := at_in (xs := ns.map V.int) h0 (by rw [List.length_map]; exact h1)
  obtain ⟨n, hn, rfl⟩ := List.mem_map.mp hv
  exact ⟨n, hn, e⟩
/-! ### a Hook with one more test -/
abbrev AlX : Type := Bool × AlT
def obsX (fa : List Fa) (fn : List DefD) (ts : List Tab) (ok : PySem.W.Frag → Bool) (K : PySem.W.Frag) : AlX := (ok K, obsT fa fn ts K)
def obsXG (n : Nat) (fa : List Fa) (fn : List DefD) (ts : List Tab) (ok : PySem.W.Frag → Bool) (g : Addr → Option Obj) : AlX := obsX fa fn ts ok (frG g (asD g n))
def hookX (n : Nat) (fa : List Fa) (fn : List DefD) (ts : List Tab) (ok : PySem.W.Frag → Bool) : PySem.W.Hook where
  α := AlX
  obs := fun s => obsXG n fa fn ts ok s.heap.get?
  val := fun w => (true, valT fn ts w)
  says := fun w h => ∃ K : PySem.W.Frag, K.In h ∧ ok K = true ∧ SaysT fa fn ts w K
  of := fun w s e => ⟨frG s.heap.get? (asD s.heap.get? n), frG_in, congrArg (fun z : AlX => z.1) e, congrArg (fun z : AlX => z.2) e⟩
  keeps := fun _ _ _ ⟨K, hK, o, c⟩ k => ⟨K, PySem.W.Frag.In.keeps hK k, o, c⟩
theorem obsXG_eq {n : Nat} {fa : List Fa} {fn : List DefD} {ts : List Tab} {ok : PySem.W.Frag → Bool} {g : Addr → Option Obj} {s : Shared} (h : ∀ a, g a = s.heap.get? a) : obsXG n fa fn ts ok g = (hookX n fa fn ts ok).obs s := by
  have e : g = s.heap.get? := funext h
  rw [e] <;> rfl
end Cm

set_option Elab.async false
set_option linter.all false
set_option maxRecDepth 100000
set_option maxHeartbeats 4000000
/-! Program trees: expressions, statements, what they are as data, their code. No word of any one statement here. -/
namespace Pt
open PySem PySem.Spec PyProof.Rows L2

/-! ### data that never changes: numbers, texts, truth values, tuples of such -/
mutual
inductive Rp (K : PySem.W.Frag) (H : Hp) : V → PyData → Prop
  | non : Rp K H .non .none
  | bl (b : Bool) : Rp K H (.bl b) (.bool b)
  | int (i : Int) : Rp K H (.int i) (.int i)
  | str (x : Str) : Rp K H (.str x) (.str x)
  | tup {a : Addr} {xs : List V} {ds : List PyData} : SqT K H a xs → Rps K H xs ds → Rp K H (.ref a) (.tuple ds)
inductive Rps (K : PySem.W.Frag) (H : Hp) : List V → List PyData → Prop
  | nil : Rps K H [] []
  | cons {v : V} {vs : List V} {d : PyData} {ds : List PyData} : Rp K H v d → Rps K H vs ds → Rps K H (v :: vs) (d :: ds)
end
/-- all that was tracked stays, but what stands at c -/
def Keep (c : Addr) (H H' : Hp) : Prop := ∀ b o, H b = some o → b ≠ c → H' b = some o
theorem Keep.refl (c : Addr) (H : Hp) : Keep c H H := fun _ _ h _ => h
theorem Keep.trans {c : Addr} {H H1 H2 : Hp} (a : Keep c H H1) (b : Keep c H1 H2) : Keep c H H2 := fun x o h n => b x o (a x o h n) n
theorem Keep.of {c : Addr} {H H' : Hp} (s : Same H H') : Keep c H H' := fun b o h _ => s b o h
/-- what was tracked and is no list stays -/
def Tups (H H' : Hp) : Prop := ∀ b o, H b = some o → (∀ xs, o ≠ .lst xs) → H' b = some o
theorem Same.tups {H H' : Hp} (s : Same H H') : Tups H H' := fun b o h _ => s b o h
theorem Keep.tups {c : Addr} {H H' : Hp} {xs : List V} (k : Keep c H H') (h : H c = some (.lst xs)) : Tups H H' := fun b o hb no => k b o hb fun e => by
  subst e
  rw [h] at hb
  exact no xs (Option.some.inj hb).symm
section
variable {K : PySem.W.Frag} {H H' : Hp}
theorem Tups.sqt (k : Tups H H') {a : Addr} {xs : List V} (h : SqT K H a xs) : SqT K H' a xs := by
  rcases h with (h | ⟨o, h⟩) | h
  · exact .inl (.inl (k _ _ h fun _ e => by cases e))
  · exact .inl (.inr ⟨o, k _ _ h fun _ e => by cases e⟩)
  · exact .inr h
mutual
theorem Rp.keep (k : Tups H H') : ∀ {v : V} {d : PyData}, Rp K H v d → Rp K H' v d
  | _, _, .non => .non
  | _, _, .bl b => .bl b
  | _, _, .int i => .int i
  | _, _, .str x => .str x
  | _, _, .tup h r => .tup (k.sqt h) (Rps.keep k r)
theorem Rps.keep (k : Tups H H') : ∀ {vs : List V} {ds : List PyData}, Rps K H vs ds → Rps K H' vs ds
  | _, _, .nil => .nil
  | _, _, .cons h r => .cons (Rp.keep k h) (Rps.keep k r)
end
mutual
theorem Rp.dp : ∀ {v : V} {d : PyData}, Rp K H v d → Dp K H v d
  | _, _, .non => .non
  | _, _, .bl b => .bl b
  | _, _, .int i => .int i
  | _, _, .str x => .str x
  | _, _, .tup h r => .tup h (Rps.dp r)
theorem Rps.dp : ∀ {vs : List V} {ds : List PyData}, Rps K H vs ds → DpAll K H vs ds
  | _, _, .nil => .nil
  | _, _, .cons h r => .cons (Rp.dp h) (Rps.dp r)
end
theorem Rps.len : ∀ {vs : List V} {ds : List PyData}, Rps K H vs ds → vs.length = ds.length
  | _, _, .nil => rfl
  | _, _, .cons _ r => congrArg (· + 1) (Rps.len r)
theorem Rps.app : ∀ {vs us : List V} {ds es : List PyData}, Rps K H vs ds → Rps K H us es → Rps K H (vs ++ us) (ds ++ es)
  | _, _, _, _, .nil, r => r
  | _, _, _, _, .cons h r, s => .cons h (Rps.app r s)
theorem Rps.at_ : ∀ {vs : List V} {ds : List PyData} {i : Nat} {d : PyData}, Rps K H vs ds → ds[i]? = some d → ∃ v, vs[i]? = some v ∧ Rp K H v d
  | _, _, 0, _, .cons h _, e => ⟨_, rfl, by cases e; exact h⟩
  | _, _, i + 1, _, .cons _ r, e => Rps.at_ (i := i) r e
theorem Rps.drop : ∀ {vs : List V} {ds : List PyData} (n : Nat), Rps K H vs ds → Rps K H (vs.drop n) (ds.drop n)
  | _, _, 0, r => r
  | _, _, _ + 1, .nil => .nil
  | _, _, n + 1, .cons _ r => Rps.drop n r
theorem Rps.take : ∀ {vs : List V} {ds : List PyData} (n : Nat), Rps K H vs ds → Rps K H (vs.take n) (ds.take n)
  | _, _, 0, _ => .nil
  | _, _, _ + 1, .nil => .nil
  | _, _, n + 1, .cons h r => .cons h (Rps.take n r)
theorem Rps.one {v : V} {d : PyData} (h : Rp K H v d) : Rps K H [v] [d] := .cons h .nil
theorem Rp.tup_inv {v : V} {ds : List PyData} (h : Rp K H v (.tuple ds)) : ∃ a vs, v = .ref a ∧ SqT K H a vs ∧ Rps K H vs ds := by
  cases h with
  | tup h r => exact ⟨_, _, rfl, h, r⟩
theorem Rp.str_inv {v : V} {x : Str} (h : Rp K H v (.str x)) : v = .str x := by
  cases h
  rfl
theorem Rp.int_inv {v : V} {i : Int} (h : Rp K H v (.int i)) : v = .int i := by
  cases h
  rfl
theorem Rp.bl_inv {v : V} {b : Bool} (h : Rp K H v (.bool b)) : v = .bl b := by
  cases h
  rfl
theorem Rps.cons_inv {vs : List V} {d : PyData} {ds : List PyData} (h : Rps K H vs (d :: ds)) : ∃ v r, vs = v :: r ∧ Rp K H v d ∧ Rps K H r ds := by
  cases h with
  | cons a b => exact ⟨_, _, rfl, a, b⟩
theorem Rps.nil_inv {vs : List V} (h : Rps K H vs []) : vs = [] := by
  cases h
  rfl
theorem Rp.new {p : Addr} {vs : List V} {ds : List PyData} (h : H' p = some (.tup vs)) (r : Rps K H' vs ds) : Rp K H' (.ref p) (.tuple ds) := .tup (.inl (.inl h)) r
/-- a new tuple of what stood before -/
theorem Rp.made {p : Addr} {vs : List V} {ds : List PyData} (hp : H p = none) (r : Rps K H vs ds) : Rp K (upd H p (.tup vs)) (.ref p) (.tuple ds) := .tup (.inl (.inl upd_same)) (r.keep (Same.tups (Cm.same_new hp)))
/-- a list stays where its content is another than c's -/
theorem Keep.seq {c a : Addr} {xs ys : List V} (k : Keep c H H') (hc : H c = some (.lst ys)) (ne : xs ≠ ys) (h : SqL K H a xs) : SqL K H' a xs := by
  rcases h with (h | ⟨o, h⟩) | h
  · refine .inl (.inl (k _ _ h fun e => ?_))
    rw [e, hc] at h
    cases h
    exact ne rfl
  · refine .inl (.inr ⟨o, k _ _ h fun e => ?_⟩)
    rw [e, hc] at h
    cases h
  · exact .inr h
end

/-- tuple + tuple -/
theorem cat_rp {K : PySem.W.Frag} {H : Hp} {x y : V} {ds es : List PyData} {Q : VK} (hx : Rp K H x (.tuple ds)) (hy : Rp K H y (.tuple es)) (hl : ds.length + es.length ≤ 10000000) (h : ∀ (v : V) (H' : Hp), Same H H' → Rp K H' v (.tuple (ds ++ es)) → Q v H') : rCatA K x y H Q := by
  obtain ⟨a, xs, rfl, ha, hxs⟩ := hx.tup_inv
  obtain ⟨b, ys, rfl, hb, hys⟩ := hy.tup_inv
  refine ⟨a, b, xs, ys, rfl, rfl, ha, hb, ?_, fun e => ?_, fun _ e => ?_, fun _ _ p np => ?_⟩
  · rw [hxs.len, hys.len, sizeLine_eq]
    omega
  · subst e
    cases hxs
    exact h _ _ (Same.refl H) hy
  · subst e
    cases hys
    rw [List.append_nil] at h
    exact h _ _ (Same.refl H) hx
  · exact h _ _ (Cm.same_new np) (Rp.made np (hxs.app hys))
/-- a tuple from a place on -/
theorem from_rp {K : PySem.W.Frag} {H : Hp} {x : V} {ds : List PyData} {k : Nat} {Q : VK} (hx : Rp K H x (.tuple ds)) (hk : k ≤ ds.length) (h : ∀ (v : V) (H' : Hp), Same H H' → Rp K H' v (.tuple (ds.drop k)) → Q v H') : rSlA K x (some (k : Int)) none H Q := by
  obtain ⟨a, xs, rfl, ha, hxs⟩ := hx.tup_inv
  have hl := hxs.len
  have e0 : HT.sIx xs.length 0 (some (k : Int)) = k := by
    rw [show HT.sIx xs.length 0 (some (k : Int)) = min k xs.length from HT.sIx_nat _ 0 k]
    omega
  refine ⟨a, xs, rfl, ha, fun e => ?_, fun _ p np => ?_⟩
  · have z := e.1
    rw [e0] at z
    subst z
    exact h _ _ (Same.refl H) hx
  · have ec : cutV xs (some (k : Int)) none = xs.drop k := by
      unfold cutV
      rw [e0, HT.sIx_none]
      exact List.take_of_length_le (by rw [List.length_drop]; exact Nat.le_refl _)
    rw [ec]
    exact h _ _ (Cm.same_new np) (Rp.made np (hxs.drop k))
/-! ### equality of data is reflexive; its form -/
/-- numbers, texts, truth values, None -/
def leafD : PyData → Bool
  | .none => true
  | .bool _ => true
  | .int _ => true
  | .str _ => true
  | _ => false

/-! ### expressions and statements -/
mutual
inductive E where
  | int (n : Int)
  | name (x : Str)
  | choice (o : Bool) (l r : E)
  | call (r : E) (f : Str) (as : Es)
  | new (m : Str) (as : Es)
  | plain (w : Str) (as : Es)
inductive Es where
  | nil
  | cons (e : E) (es : Es)
end
mutual
inductive S where
  | letS (x k : Str) (e : E)
  | setS (x : Str) (e : E)
  | ifS (e : E) (b c : Ss)
  | whileS (e : E) (b : Ss)
  | doS (e : E)
  | fork (r : E) (f : Str) (as : Es)
  | plain (w : Str) (as : Es)
inductive Ss where
  | nil
  | cons (s : S) (ss : Ss)
end
def cw (o : Bool) : Str := if o then "or" else "and"
mutual
def E.d : E → PyData
  | .int n => .tuple [.str "int", .int n]
  | .name x => .tuple [.str "name", .str x]
  | .choice o l r => .tuple [.str (cw o), l.d, r.d]
  | .call r f as => .tuple [.str "call", r.d, .str f, .tuple as.ds]
  | .new m as => .tuple [.str "new", .str m, .tuple as.ds]
  | .plain w as => .tuple (.str w :: as.ds)
def Es.ds : Es → List PyData
  | .nil => []
  | .cons e es => e.d :: es.ds
end
mutual
def S.d : S → PyData
  | .letS x k e => .tuple [.str "let", .str x, .str k, e.d]
  | .setS x e => .tuple [.str "set", .str x, e.d]
  | .ifS e b c => .tuple [.str "if", e.d, .tuple b.ds, .tuple c.ds]
  | .whileS e b => .tuple [.str "while", e.d, .tuple b.ds]
  | .doS e => .tuple [.str "do", e.d]
  | .fork r f as => .tuple [.str "fork", r.d, .str f, .tuple as.ds]
  | .plain w as => .tuple (.str w :: as.ds)
def Ss.ds : Ss → List PyData
  | .nil => []
  | .cons s ss => s.d :: ss.ds
end
def Es.list : Es → List E
  | .nil => []
  | .cons e es => e :: es.list
def Ss.list : Ss → List S
  | .nil => []
  | .cons s ss => s :: ss.list
def Ss.of : List S → Ss
  | [] => .nil
  | s :: ss => .cons s (Ss.of ss)
def Ss.app : Ss → Ss → Ss
  | .nil, c => c
  | .cons s b, c => .cons s (b.app c)
def Es.len : Es → Nat
  | .nil => 0
  | .cons _ es => es.len + 1
theorem Es.ds_len : ∀ es : Es, es.ds.length = es.len
  | .nil => rfl
  | .cons _ es => congrArg (· + 1) (Es.ds_len es)
theorem Es.list_ds : ∀ es : Es, es.ds = es.list.map E.d
  | .nil => rfl
  | .cons _ es => congrArg (_ :: ·) (Es.list_ds es)
theorem Ss.list_ds : ∀ es : Ss, es.ds = es.list.map S.d
  | .nil => rfl
  | .cons _ es => congrArg (_ :: ·) (Ss.list_ds es)
theorem Ss.app_ds : ∀ b c : Ss, (b.app c).ds = b.ds ++ c.ds
  | .nil, _ => rfl
  | .cons _ b, c => congrArg (_ :: ·) (Ss.app_ds b c)
theorem Ss.app_list : ∀ b c : Ss, (b.app c).list = b.list ++ c.list
  | .nil, _ => rfl
  | .cons _ b, c => congrArg (_ :: ·) (Ss.app_list b c)
theorem Ss.of_list : ∀ l : List S, (Ss.of l).list = l
  | [] => rfl
  | _ :: l => congrArg (_ :: ·) (Ss.of_list l)
/-! ### the names that are used; the names of lets -/
mutual
def E.uses : E → List Str
  | .int _ => []
  | .name x => [x]
  | .choice _ l r => l.uses ++ r.uses
  | .call r _ as => r.uses ++ as.uses
  | .new _ as => as.uses
  | .plain _ as => as.uses
def Es.uses : Es → List Str
  | .nil => []
  | .cons e es => e.uses ++ es.uses
end
mutual
def S.uses : S → List Str
  | .letS x _ e => x :: e.uses
  | .setS x e => x :: e.uses
  | .ifS e b c => e.uses ++ (b.uses ++ c.uses)
  | .whileS e b => e.uses ++ b.uses
  | .doS e => e.uses
  | .fork r _ as => r.uses ++ as.uses
  | .plain _ as => as.uses
def Ss.uses : Ss → List Str
  | .nil => []
  | .cons s ss => s.uses ++ ss.uses
end
mutual
def S.lets : S → List Str
  | .letS x _ _ => [x]
  | .ifS _ b c => b.lets ++ c.lets
  | .whileS _ b => b.lets
  | _ => []
def Ss.lets : Ss → List Str
  | .nil => []
  | .cons s ss => s.lets ++ ss.lets
end
theorem Ss.app_lets : ∀ b c : Ss, (b.app c).lets = b.lets ++ c.lets
  | .nil, _ => rfl
  | .cons s b, c => by
    show s.lets ++ (b.app c).lets = (s.lets ++ b.lets) ++ c.lets
    rw [Ss.app_lets b c, List.append_assoc]
theorem Ss.app_uses : ∀ b c : Ss, (b.app c).uses = b.uses ++ c.uses
  | .nil, _ => rfl
  | .cons s b, c => by
    show s.uses ++ (b.app c).uses = (s.uses ++ b.uses) ++ c.uses
    rw [Ss.app_uses b c, List.append_assoc]
/-! ### words in their places -/
abbrev plainE : List Str := ["nil", "self", "add", "sub", "mul", "less", "most", "same", "not"]
abbrev leafE : List Str := ["nil", "self"]
def Es.isNil : Es → Bool
  | .nil => true
  | .cons _ _ => false
abbrev plainB : List Str := ["return", "print", "move"]
/-- how many parts stand behind a word -/
def arE (w : Str) : Nat := if w ∈ leafE then 0 else if w = "not" then 1 else 2
def arB (w : Str) : Nat := if w = "move" then 2 else 1
mutual
def E.wf : E → Bool
  | .int _ => true
  | .name _ => true
  | .choice _ l r => l.wf && r.wf
  | .call r _ as => r.wf && as.wf
  | .new _ as => as.wf
  | .plain w as => (decide (w ∈ plainE) && decide (as.len = arE w)) && as.wf
def Es.wf : Es → Bool
  | .nil => true
  | .cons e es => e.wf && es.wf
end
mutual
def S.wf : S → Bool
  | .letS _ _ e => e.wf
  | .setS _ e => e.wf
  | .ifS e b c => e.wf && (b.wf && c.wf)
  | .whileS e b => e.wf && b.wf
  | .doS e => e.wf
  | .fork r _ as => r.wf && as.wf
  | .plain w as => (decide (w ∈ plainB) && decide (as.len = arB w)) && as.wf
def Ss.wf : Ss → Bool
  | .nil => true
  | .cons s ss => s.wf && ss.wf
end
theorem Ss.app_wf : ∀ b c : Ss, (b.app c).wf = (b.wf && c.wf)
  | .nil, _ => rfl
  | .cons s b, c => by
    show (s.wf && (b.app c).wf) = ((s.wf && b.wf) && c.wf)
    rw [Ss.app_wf b c, Bool.and_assoc]
theorem and2 {a b : Bool} (h1 : a = true) (h2 : b = true) : (a && b) = true := by rw [h1, h2]; rfl
theorem wfP {w : Str} {e : E} {as : Es} (h1 : decide (w ∈ plainB) = true) (h3 : (Es.cons e as).len = arB w) (h2 : (Es.cons e as).wf = true) : (S.plain w (.cons e as)).wf = true := and2 (and2 h1 (decide_eq_true h3)) h2
theorem ar_nil {w : Str} (h : decide (0 = arE w) = true) : w ∈ leafE := by
  by_cases e : w ∈ leafE
  · exact e
  · have h' := of_decide_eq_true h
    unfold arE at h'
    rw [if_neg e] at h'
    split at h' <;> omega
theorem ar_some {w : Str} {n : Nat} (h : decide (n + 1 = arE w) = true) : ¬ w ∈ leafE := fun e => by
  have h' := of_decide_eq_true h
  unfold arE at h'
  rw [if_pos e] at h'
  omega
theorem wfW {e : E} {b : Ss} (h1 : e.wf = true) (h2 : b.wf = true) : (S.whileS e b).wf = true := and2 h1 h2
theorem wfC {e : E} {es : Es} (h1 : e.wf = true) (h2 : es.wf = true) : (Es.cons e es).wf = true := and2 h1 h2
theorem wfSs {e : S} {es : Ss} (h1 : e.wf = true) (h2 : es.wf = true) : (Ss.cons e es).wf = true := and2 h1 h2
/-! ### depth -/
mutual
def E.dep : E → Nat
  | .int _ => 0
  | .name _ => 0
  | .choice _ l r => max l.dep r.dep + 1
  | .call r _ as => max r.dep as.dep + 1
  | .new _ as => as.dep + 1
  | .plain _ as => as.dep + 1
def Es.dep : Es → Nat
  | .nil => 0
  | .cons e es => max e.dep es.dep
end
mutual
def S.dep : S → Nat
  | .letS _ _ e => e.dep + 1
  | .setS _ e => e.dep + 1
  | .ifS e b c => max e.dep (max b.dep c.dep) + 1
  | .whileS e b => max e.dep b.dep + 1
  | .doS e => e.dep + 1
  | .fork r _ as => max r.dep as.dep + 1
  | .plain _ as => as.dep + 1
def Ss.dep : Ss → Nat
  | .nil => 0
  | .cons s ss => max s.dep ss.dep
end
/-! ### the number of instructions -/
mutual
def E.sz : E → Nat
  | .int _ => 1
  | .name _ => 1
  | .choice o l r => l.sz + r.sz + (if o then 2 else 0) + 5
  | .call r _ as => r.sz + as.sz + 1
  | .new _ as => as.sz + 1
  | .plain _ as => as.sz + 1
def Es.sz : Es → Nat
  | .nil => 0
  | .cons e es => e.sz + es.sz
end
mutual
def S.sz : S → Nat
  | .letS _ _ e => e.sz + 1
  | .setS _ e => e.sz + 1
  | .ifS e b c => e.sz + 1 + b.sz + (match c with | .nil => 0 | .cons _ _ => 1) + c.sz
  | .whileS e b => e.sz + b.sz + 2
  | .doS e => e.sz + 1
  | .fork r _ as => r.sz + as.sz + 1
  | .plain _ as => as.sz + 1
def Ss.sz : Ss → Nat
  | .nil => 0
  | .cons s ss => s.sz + ss.sz
end
theorem Ss.app_dep : ∀ b c : Ss, (b.app c).dep = max b.dep c.dep
  | .nil, _ => (Nat.zero_max _).symm
  | .cons s b, c => by
    show max s.dep (b.app c).dep = max (max s.dep b.dep) c.dep
    rw [Ss.app_dep b c, Nat.max_assoc]
theorem Ss.app_sz : ∀ b c : Ss, (b.app c).sz = b.sz + c.sz
  | .nil, _ => (Nat.zero_add _).symm
  | .cons s b, c => by
    show s.sz + (b.app c).sz = (s.sz + b.sz) + c.sz
    rw [Ss.app_sz b c, Nat.add_assoc]
/-! ### code -/
def I1 (x : Str) : PyData := .tuple [.str x]
def I2 (x : Str) (n : Int) : PyData := .tuple [.str x, .int n]
def I3 (x y : Str) (n : Int) : PyData := .tuple [.str x, .str y, .int n]
/-- what turns the parts of an or -/
def tn (o : Bool) : List PyData := if o then [I1 "not"] else []
def kn (o : Bool) : Nat := if o then 1 else 0
def ends (o : Bool) (d : Nat) : List PyData := [I2 "push" (if o then 0 else 1), I2 "jump" ((d : Int) + 1), I2 "push" (if o then 1 else 0)]
abbrev Plc := Str → Str × Int
mutual
def E.code (pl : Plc) : E → Nat → List PyData
  | .int n, _ => [I2 "push" n]
  | .name x, _ => [I2 (pl x).1 (pl x).2]
  | .choice o l r, at_ => (l.code pl at_ ++ tn o) ++ [I2 "unless" ((at_ + l.sz + kn o + 1 + r.sz + kn o + 3 : Nat) : Int)] ++ (r.code pl (at_ + l.sz + kn o + 1) ++ tn o) ++ [I2 "unless" ((at_ + l.sz + kn o + 1 + r.sz + kn o + 3 : Nat) : Int)] ++ ends o (at_ + l.sz + kn o + 1 + r.sz + kn o + 3)
  | .call r f as, at_ => (r.code pl at_ ++ as.code pl (at_ + r.sz)) ++ [I3 "call" f as.len]
  | .new m as, at_ => as.code pl at_ ++ [I3 "new" m as.len]
  | .plain w as, at_ => as.code pl at_ ++ [I1 w]
def Es.code (pl : Plc) : Es → Nat → List PyData
  | .nil, _ => []
  | .cons e es, at_ => e.code pl at_ ++ es.code pl (at_ + e.sz)
end
mutual
def S.code (pl : Plc) : S → Nat → List PyData
  | .letS x _ e, at_ => e.code pl at_ ++ [I2 ("set" ++ (pl x).1) (pl x).2]
  | .setS x e, at_ => e.code pl at_ ++ [I2 ("set" ++ (pl x).1) (pl x).2]
  | .ifS e b .nil, at_ => e.code pl at_ ++ [I2 "unless" ((at_ + e.sz + 1 + b.sz : Nat) : Int)] ++ b.code pl (at_ + e.sz + 1)
  | .ifS e b (.cons s ss), at_ => e.code pl at_ ++ [I2 "unless" ((at_ + e.sz + 1 + b.sz + 1 : Nat) : Int)] ++ b.code pl (at_ + e.sz + 1) ++ [I2 "jump" ((at_ + e.sz + 1 + b.sz + 1 + (s.sz + ss.sz) : Nat) : Int)] ++
      (s.code pl (at_ + e.sz + 1 + b.sz + 1) ++ ss.code pl (at_ + e.sz + 1 + b.sz + 1 + s.sz))
  | .whileS e b, at_ => e.code pl at_ ++ [I2 "unless" ((at_ + e.sz + 1 + b.sz + 1 : Nat) : Int)] ++ b.code pl (at_ + e.sz + 1) ++ [I2 "jump" (at_ : Nat)]
  | .doS e, at_ => e.code pl at_ ++ [I1 "drop"]
  | .fork r f as, at_ => (r.code pl at_ ++ as.code pl (at_ + r.sz)) ++ [I3 "fork" f as.len]
  | .plain w as, at_ => as.code pl at_ ++ [I1 w]
def Ss.code (pl : Plc) : Ss → Nat → List PyData
  | .nil, _ => []
  | .cons s ss, at_ => s.code pl at_ ++ ss.code pl (at_ + s.sz)
end
theorem tn_len (o : Bool) : (tn o).length = kn o := by cases o <;> rfl
mutual
theorem E.code_len (pl : Plc) : ∀ (e : E) (a : Nat), (e.code pl a).length = e.sz
  | .int _, _ => rfl
  | .name _, _ => rfl
  | .choice o l r, a => by
    have h1 := E.code_len pl l a
    have h2 := E.code_len pl r (a + l.sz + kn o + 1)
    simp only [E.code, List.length_append, List.length_cons, List.length_nil, h1, h2, tn_len, ends, E.sz]
    cases o <;> simp [kn] <;> omega
  | .call r f as, a => by
    have h1 := E.code_len pl r a
    have h2 := Es.code_len pl as (a + r.sz)
    simp only [E.code, List.length_append, List.length_cons, List.length_nil, h1, h2, E.sz]
  | .new m as, a => by
    have h2 := Es.code_len pl as a
    simp only [E.code, List.length_append, List.length_cons, List.length_nil, h2, E.sz]
  | .plain w as, a => by
    have h2 := Es.code_len pl as a
    simp only [E.code, List.length_append, List.length_cons, List.length_nil, h2, E.sz]
theorem Es.code_len (pl : Plc) : ∀ (es : Es) (a : Nat), (es.code pl a).length = es.sz
  | .nil, _ => rfl
  | .cons e es, a => by
    have h1 := E.code_len pl e a
    have h2 := Es.code_len pl es (a + e.sz)
    simp only [Es.code, List.length_append, h1, h2, Es.sz]
end
mutual
theorem S.code_len (pl : Plc) : ∀ (s : S) (a : Nat), (s.code pl a).length = s.sz
  | .letS x k e, a => by simp only [S.code, List.length_append, List.length_cons, List.length_nil, E.code_len, S.sz]
  | .setS x e, a => by simp only [S.code, List.length_append, List.length_cons, List.length_nil, E.code_len, S.sz]
  | .ifS e b .nil, a => by
    have h := Ss.code_len pl b (a + e.sz + 1)
    simp only [S.code, List.length_append, List.length_cons, List.length_nil, E.code_len, h, S.sz, Ss.sz]
    omega
  | .ifS e b (.cons s ss), a => by
    have h := Ss.code_len pl b (a + e.sz + 1)
    have h1 := S.code_len pl s (a + e.sz + 1 + b.sz + 1)
    have h2 := Ss.code_len pl ss (a + e.sz + 1 + b.sz + 1 + s.sz)
    simp only [S.code, List.length_append, List.length_cons, List.length_nil, E.code_len, h, h1, h2, S.sz, Ss.sz]
  | .whileS e b, a => by
    have h := Ss.code_len pl b (a + e.sz + 1)
    simp only [S.code, List.length_append, List.length_cons, List.length_nil, E.code_len, h, S.sz]
    omega
  | .doS e, a => by simp only [S.code, List.length_append, List.length_cons, List.length_nil, E.code_len, S.sz]
  | .fork r f as, a => by simp only [S.code, List.length_append, List.length_cons, List.length_nil, E.code_len, Es.code_len, S.sz]
  | .plain w as, a => by simp only [S.code, List.length_append, List.length_cons, List.length_nil, Es.code_len, S.sz]
theorem Ss.code_len (pl : Plc) : ∀ (ss : Ss) (a : Nat), (ss.code pl a).length = ss.sz
  | .nil, _ => rfl
  | .cons s ss, a => by
    have h1 := S.code_len pl s a
    have h2 := Ss.code_len pl ss (a + s.sz)
    simp only [Ss.code, List.length_append, h1, h2, Ss.sz]
end
/-! ### rows of expressions, of statements, taken to a place -/
def Es.take : Es → Nat → Es
  | _, 0 => .nil
  | .nil, _ + 1 => .nil
  | .cons e es, n + 1 => .cons e (es.take n)
def Ss.take : Ss → Nat → Ss
  | _, 0 => .nil
  | .nil, _ + 1 => .nil
  | .cons e es, n + 1 => .cons e (es.take n)
theorem Es.take_next {pl : Plc} : ∀ {es : Es} {i : Nat} {e : E} (a : Nat), es.list[i]? = some e → (es.take (i + 1)).code pl a = (es.take i).code pl a ++ e.code pl (a + (es.take i).sz) ∧ (es.take (i + 1)).sz = (es.take i).sz + e.sz
  | .cons e es, 0, _, a, h => by
    cases h
    constructor
    · show e.code pl a ++ (es.take 0).code pl (a + e.sz) = [] ++ e.code pl (a + 0)
      cases es <;> simp [Es.take, Es.code]
    · show e.sz + (es.take 0).sz = 0 + e.sz
      cases es <;> simp [Es.take, Es.sz]
  | .cons e es, i + 1, f, a, h => by
    have ih := Es.take_next (pl := pl) (es := es) (i := i) (e := f) (a + e.sz) h
    constructor
    · show e.code pl a ++ (es.take (i + 1)).code pl (a + e.sz) = (e.code pl a ++ (es.take i).code pl (a + e.sz)) ++ f.code pl (a + (e.sz + (es.take i).sz))
      rw [ih.1, List.append_assoc, Nat.add_assoc a]
    · show e.sz + (es.take (i + 1)).sz = e.sz + (es.take i).sz + f.sz
      rw [ih.2]
      omega
  | .nil, i, _, _, h => by cases h
theorem Es.take_all : ∀ es : Es, es.take es.list.length = es
  | .nil => rfl
  | .cons e es => congrArg (Es.cons e) (Es.take_all es)
theorem Es.take_sz : ∀ (es : Es) (i : Nat), (es.take i).sz ≤ es.sz
  | es, 0 => by cases es <;> exact Nat.zero_le _
  | .nil, _ + 1 => Nat.le_refl _
  | .cons e es, i + 1 => Nat.add_le_add_left (Es.take_sz es i) _
theorem Ss.take_next {pl : Plc} : ∀ {es : Ss} {i : Nat} {e : S} (a : Nat), es.list[i]? = some e → (es.take (i + 1)).code pl a = (es.take i).code pl a ++ e.code pl (a + (es.take i).sz) ∧ (es.take (i + 1)).sz = (es.take i).sz + e.sz
  | .cons e es, 0, _, a, h => by
    cases h
    constructor
    · show e.code pl a ++ (es.take 0).code pl (a + e.sz) = [] ++ e.code pl (a + 0)
      cases es <;> simp [Ss.take, Ss.code]
    · show e.sz + (es.take 0).sz = 0 + e.sz
      cases es <;> simp [Ss.take, Ss.sz]
  | .cons e es, i + 1, f, a, h => by
    have ih := Ss.take_next (pl := pl) (es := es) (i := i) (e := f) (a + e.sz) h
    constructor
    · show e.code pl a ++ (es.take (i + 1)).code pl (a + e.sz) = (e.code pl a ++ (es.take i).code pl (a + e.sz)) ++ f.code pl (a + (e.sz + (es.take i).sz))
      rw [ih.1, List.append_assoc, Nat.add_assoc a]
    · show e.sz + (es.take (i + 1)).sz = e.sz + (es.take i).sz + f.sz
      rw [ih.2]
      omega
  | .nil, i, _, _, h => by cases h
theorem Ss.take_all : ∀ es : Ss, es.take es.list.length = es
  | .nil => rfl
  | .cons e es => congrArg (Ss.cons e) (Ss.take_all es)
theorem Ss.take_sz : ∀ (es : Ss) (i : Nat), (es.take i).sz ≤ es.sz
  | es, 0 => by cases es <;> exact Nat.zero_le _
  | .nil, _ + 1 => Nat.le_refl _
  | .cons e es, i + 1 => Nat.add_le_add_left (Ss.take_sz es i) _
/-- the parts of a row -/
theorem Es.part : ∀ {es : Es} {e : E}, e ∈ es.list → (es.wf = true → e.wf = true) ∧ (∀ x ∈ e.uses, x ∈ es.uses) ∧ e.dep ≤ es.dep ∧ e.sz ≤ es.sz
  | .cons f fs, e, h => by
    rcases List.mem_cons.mp (show e ∈ f :: fs.list from h) with rfl | h
    · exact ⟨fun w => (Bool.and_eq_true_iff.mp w).1, fun x hx => List.mem_append_left _ hx, Nat.le_max_left _ _, Nat.le_add_right _ _⟩
    · obtain ⟨h1, h2, h3, h4⟩ := Es.part h
      exact ⟨fun w => h1 (Bool.and_eq_true_iff.mp w).2, fun x hx => List.mem_append_right _ (h2 x hx), Nat.le_trans h3 (Nat.le_max_right _ _), Nat.le_trans h4 (Nat.le_add_left _ _)⟩
  | .nil, _, h => by cases h
theorem Ss.part : ∀ {es : Ss} {e : S}, e ∈ es.list → (es.wf = true → e.wf = true) ∧ (∀ x ∈ e.uses, x ∈ es.uses) ∧ e.dep ≤ es.dep ∧ e.sz ≤ es.sz
  | .cons f fs, e, h => by
    rcases List.mem_cons.mp (show e ∈ f :: fs.list from h) with rfl | h
    · exact ⟨fun w => (Bool.and_eq_true_iff.mp w).1, fun x hx => List.mem_append_left _ hx, Nat.le_max_left _ _, Nat.le_add_right _ _⟩
    · obtain ⟨h1, h2, h3, h4⟩ := Ss.part h
      exact ⟨fun w => h1 (Bool.and_eq_true_iff.mp w).2, fun x hx => List.mem_append_right _ (h2 x hx), Nat.le_trans h3 (Nat.le_max_right _ _), Nat.le_trans h4 (Nat.le_add_left _ _)⟩
  | .nil, _, h => by cases h
theorem Rps.at_E {K : PySem.W.Frag} {H : Hp} {vs : List V} {es : Es} {i : Nat} {v : V} (r : Rps K H vs es.ds) (h : vs[i]? = some v) : ∃ e, es.list[i]? = some e ∧ Rp K H v e.d := by
  rw [Es.list_ds] at r
  have hl := r.len
  rw [List.length_map] at hl
  have hi : i < es.list.length := by
    rw [← hl]
    exact (List.getElem?_eq_some_iff.mp h).1
  have e1 : es.list[i]? = some es.list[i] := List.getElem?_eq_getElem hi
  obtain ⟨u, hu, ru⟩ := r.at_ (i := i) (d := es.list[i].d) (by rw [List.getElem?_map, e1]; rfl)
  rw [h] at hu
  cases hu
  exact ⟨_, e1, ru⟩
theorem Rps.at_S {K : PySem.W.Frag} {H : Hp} {vs : List V} {es : Ss} {i : Nat} {v : V} (r : Rps K H vs es.ds) (h : vs[i]? = some v) : ∃ e, es.list[i]? = some e ∧ Rp K H v e.d := by
  rw [Ss.list_ds] at r
  have hl := r.len
  rw [List.length_map] at hl
  have hi : i < es.list.length := by
    rw [← hl]
    exact (List.getElem?_eq_some_iff.mp h).1
  have e1 : es.list[i]? = some es.list[i] := List.getElem?_eq_getElem hi
  obtain ⟨u, hu, ru⟩ := r.at_ (i := i) (d := es.list[i].d) (by rw [List.getElem?_map, e1]; rfl)
  rw [h] at hu
  cases hu
  exact ⟨_, e1, ru⟩
/-- an item of a tuple of data -/
theorem ix_rp {K : PySem.W.Frag} {H : Hp} {x : V} {ds : List PyData} {i : Nat} {d : PyData} {Q : VK} (hx : Rp K H x (.tuple ds)) (hi : ds[i]? = some d) (h : ∀ v, Rp K H v d → Q v H) : rIxT K x (.int (i : Nat)) H Q := by
  obtain ⟨a, xs, rfl, ha, hxs⟩ := hx.tup_inv
  obtain ⟨v, hv, rv⟩ := hxs.at_ hi
  exact ⟨a, xs, _, v, rfl, rfl, ha, atI_nat hv, h v rv⟩
theorem len_rp {K : PySem.W.Frag} {H : Hp} {x : V} {ds : List PyData} (hx : Rp K H x (.tuple ds)) : ∃ a xs, x = .ref a ∧ SqT K H a xs ∧ xs.length = ds.length := by
  obtain ⟨a, xs, rfl, ha, hxs⟩ := hx.tup_inv
  exact ⟨a, xs, rfl, ha, hxs.len⟩
/-- where the names are kept: a dict of places -/
def PlAt (K : PySem.W.Frag) (H : Hp) (nd : Addr) (pl : Plc) (N : List Str) : Prop := ∃ kvs, H nd = some (.dK kvs) ∧ ∀ x ∈ N, (pl x).1.length ≤ 1000 ∧ ∃ v, valV kvs (.inr x : Key) = some v ∧ Rp K H v (.tuple [.str (pl x).1, .int (pl x).2])
theorem PlAt.same {K : PySem.W.Frag} {H H' : Hp} {nd : Addr} {pl : Plc} {N : List Str} (p : PlAt K H nd pl N) (s : Same H H') : PlAt K H' nd pl N := by
  obtain ⟨kvs, h, q⟩ := p
  exact ⟨kvs, s _ _ h, fun x hx => ⟨(q x hx).1, by
    obtain ⟨v, h1, h2⟩ := (q x hx).2
    exact ⟨v, h1, h2.keep (Same.tups s)⟩⟩⟩
end Pt

set_option Elab.async false
set_option linter.all false
set_option maxRecDepth 100000
set_option maxHeartbeats 4000000
/-! Dicts whose keys are tuples of any depth (names of processes, of objects): {}, d[k], d[k] = v, del d[k], k in d, d.get. -/
namespace ND
open PySem PySem.W PySem.Spec PyProof.Rows L2 Pt

/-- tuples stay -/
abbrev TK (K : PySem.W.Frag) (H H' : Hp) : Prop := ∀ c xs, SqT K H c xs → SqT K H' c xs
theorem TK.refl {K : PySem.W.Frag} {H : Hp} : TK K H H := fun _ _ h => h
theorem TK.trans {K : PySem.W.Frag} {H H1 H2 : Hp} (a : TK K H H1) (b : TK K H1 H2) : TK K H H2 := fun c xs h => b c xs (a c xs h)
theorem TK.same {K : PySem.W.Frag} {H H' : Hp} (s : Same H H') : TK K H H' := fun _ _ h => Cm.sameT s h
theorem TK.of {K : PySem.W.Frag} {H H' : Hp} (t : Tups H H') : TK K H H' := fun _ _ h => t.sqt h
/-- what may be written is no tuple -/
theorem TK.upd {K : PySem.W.Frag} {H : Hp} {a : Addr} {o : HO} (m : Mut (H a)) : TK K H (upd H a o) := fun c xs h => by
  rcases h with (h | ⟨u, h⟩) | h
  · refine .inl (.inl ?_)
    rw [upd_ne fun z => by subst z; rw [h] at m; exact m]
    exact h
  · refine .inl (.inr ⟨u, ?_⟩)
    rw [upd_ne fun z => by subst z; rw [h] at m; exact m]
    exact h
  · exact .inr h
mutual
theorem rp_keep {K : PySem.W.Frag} {H H' : Hp} (k : TK K H H') : ∀ {v : V} {d : PyData}, Rp K H v d → Rp K H' v d
  | _, _, .non => .non
  | _, _, .bl b => .bl b
  | _, _, .int i => .int i
  | _, _, .str x => .str x
  | _, _, .tup h r => .tup (k _ _ h) (rps_keep k r)
theorem rps_keep {K : PySem.W.Frag} {H H' : Hp} (k : TK K H H') : ∀ {vs : List V} {ds : List PyData}, Rps K H vs ds → Rps K H' vs ds
  | _, _, .nil => .nil
  | _, _, .cons h r => .cons (rp_keep k h) (rps_keep k r)
end
/-- the value v is the key k -/
def KeyAt (K : PySem.W.Frag) (H : Hp) (v : V) (k : NestedKey) : Prop := Rp K H v k.data ∧ k.depth ≤ 8 ∧ ∃ ks, k = .tup ks
theorem KeyAt.keep {K : PySem.W.Frag} {H H' : Hp} {v : V} {k : NestedKey} (t : TK K H H') (h : KeyAt K H v k) : KeyAt K H' v k := ⟨rp_keep t h.1, h.2⟩
theorem KeyAt.ref {K : PySem.W.Frag} {H : Hp} {v : V} {k : NestedKey} (h : KeyAt K H v k) : ∃ b, v = .ref b := by
  obtain ⟨r, _, ks, rfl⟩ := h
  obtain ⟨a, xs, rfl, _⟩ := r.tup_inv
  exact ⟨a, rfl⟩
section
variable {X : Cx} {pins : List (Addr × Obj)} {σ : L2.St} {H : Hp} {s : Shared}
mutual
theorem is_of (I : Inv X pins σ H s) : ∀ (k : NestedKey) (v : V) (u : Value), Rp X.K H v k.data → RelV v u → NestedIs s.heap k u
  | .none, v, u, r, ru => by
    simp only [NestedKey.data] at r
    cases r
    cases ru
    exact .none
  | .num i, v, u, r, ru => by
    simp only [NestedKey.data] at r
    cases r
    obtain ⟨t, rfl⟩ := ru
    exact .int _ _
  | .text x, v, u, r, ru => by
    simp only [NestedKey.data] at r
    cases r
    obtain ⟨t, rfl⟩ := ru
    exact .text _ _
  | .tup ks, v, u, r, ru => by
    simp only [NestedKey.data] at r
    obtain ⟨a, vs, rfl, ha, hvs⟩ := r.tup_inv
    cases ru
    obtain ⟨its, rv, ⟨o, ho, hc, n, hd⟩, hz⟩ := I.tuple ha
    exact .tup ho hc hd (by simpa using all_of I ks vs its hvs rv)
theorem all_of (I : Inv X pins σ H s) : ∀ (ks : List NestedKey) (vs : List V) (us : List Value), Rps X.K H vs (NestedKey.datas ks) → Vals vs us → NestedAll s.heap ks us
  | [], vs, us, r, ru => by
    simp only [NestedKey.datas] at r
    cases r
    cases ru
    exact .nil
  | k :: ks, vs, us, r, ru => by
    simp only [NestedKey.datas] at r
    cases r with
    | cons h t =>
      cases ru with
      | cons h' t' => exact .cons (is_of I k _ _ h h') (all_of I ks _ _ t t')
end
theorem key_of (I : Inv X pins σ H s) {b : Addr} {k : NestedKey} (h : KeyAt X.K H (.ref b) k) : (nestedKind X.prog X.w).is s.heap k b := ⟨is_of I k _ _ h.1 rfl, h.2.1⟩
end

/-- the dict at a holds xs -/
def ndO (P : Program) (w : World) (xs : List (NestedKey × Addr × Value)) (a : Addr) : HO := .ext fun h => (a == sysModules) = false ∧ xs.length ≤ sizeLine ∧
  ∃ o es ep, h.get? a = some o ∧ o.ExactDict ∧ o.data = .dict es ep ∧ es.toList = xs.map (entryOfKey (nestedKind P w)) ∧ (xs.map (·.1)).Nodup
abbrev KN (K : PySem.W.Frag) (H : Hp) : List (NestedKey × V) → List (NestedKey × Addr × Value) → Prop := Paired fun p q => p.1 = q.1 ∧ KeyAt K H (.ref q.2.1) p.1 ∧ RelV p.2 q.2.2
/-- at a stands a dict with these entries -/
def NDct (P : Program) (w : World) (K : PySem.W.Frag) (H : Hp) (a : Addr) (kvs : List (NestedKey × V)) : Prop := ∃ xs, H a = some (ndO P w xs a) ∧ KN K H kvs xs
section
variable {P : Program} {w : World} {K : PySem.W.Frag} {H H' : Hp} {a : Addr} {kvs : List (NestedKey × V)}
theorem KN.keep (t : TK K H H') {xs : List (NestedKey × Addr × Value)} (h : KN K H kvs xs) : KN K H' kvs xs := Paired.mapP h fun _ _ z => ⟨z.1, z.2.1.keep t, z.2.2⟩
theorem NDct.keep (t : TK K H H') (e : H' a = H a) (h : NDct P w K H a kvs) : NDct P w K H' a kvs := by
  obtain ⟨xs, h1, h2⟩ := h
  exact ⟨xs, e.trans h1, KN.keep t h2⟩
theorem NDct.same (t : Same H H') (h : NDct P w K H a kvs) : NDct P w K H' a kvs := by
  obtain ⟨xs, h1, h2⟩ := h
  exact ⟨xs, t _ _ h1, KN.keep (TK.same t) h2⟩
theorem NDct.some (h : NDct P w K H a kvs) : ∃ o, H a = some o ∧ (∀ xs, o ≠ .lst xs) ∧ (∀ xs, o ≠ .tup xs) ∧ Mut (H a) := by
  obtain ⟨xs, h1, h2⟩ := h
  exact ⟨_, h1, (fun _ z => nomatch z), (fun _ z => nomatch z), by rw [h1]; exact True.intro⟩
theorem KN.val {xs : List (NestedKey × Addr × Value)} (r : KN K H kvs xs) (k : NestedKey) : RelO (valV kvs k) ((atKey xs k).map (·.2)) := by
  induction r with
  | nil => exact True.intro
  | @cons p q ps qs h t ih =>
    obtain ⟨h1, _, h2⟩ := h
    by_cases e : p.1 = k
    · have e' : q.1 = k := h1.symm.trans e
      have b : atKey (q :: qs) k = some q.2 := by simp [atKey, List.find?_cons, e']
      rw [valV_pos e, b]; exact h2
    · have e' : ¬ q.1 = k := fun z => e (h1.trans z)
      have b : atKey (q :: qs) k = atKey qs k := by simp [atKey, List.find?_cons, e']
      rw [valV_neg e, b]; exact ih
theorem KN.repl {xs : List (NestedKey × Addr × Value)} (r : KN K H kvs xs) (k : NestedKey) {y : V} {u : Value} (ry : RelV y u) :
    KN K H (kvs.map fun kv => if kv.1 = k then (kv.1, y) else kv) (xs.map (putAt k u)) := by
  induction r with
  | nil => exact .nil
  | @cons p q ps qs h t ih =>
    rw [List.map_cons, List.map_cons]
    refine .cons ?_ ih
    obtain ⟨h1, h2, h3⟩ := h
    unfold putAt
    by_cases e : p.1 = k
    · rw [if_pos e, if_pos (h1.symm.trans e)]; exact ⟨h1, h2, ry⟩
    · rw [if_neg e, if_neg (fun z => e (h1.trans z))]; exact ⟨h1, h2, h3⟩
theorem KN.put {xs : List (NestedKey × Addr × Value)} (r : KN K H kvs xs) (k : NestedKey) {b : Addr} {y : V} {u : Value} (hb : KeyAt K H (.ref b) k) (ry : RelV y u) :
    KN K H (putK kvs k y) (storedH xs k b u) := by
  have e : (kvs.any fun kv => decide (kv.1 = k)) = (atKey xs k).isSome := by
    rw [valV_any, (r.val k).isSome_eq, Option.isSome_map]
  unfold putK storedH
  rw [e]
  by_cases q : (atKey xs k).isSome = true
  · rw [if_pos q, if_pos q]; exact r.repl k ry
  · rw [if_neg q, if_neg q]; exact Paired.snoc r ⟨rfl, hb, ry⟩
theorem KN.drop {xs : List (NestedKey × Addr × Value)} (r : KN K H kvs xs) (k : NestedKey) : KN K H (dropK kvs k) (withoutH xs k) := by
  induction r with
  | nil => exact .nil
  | @cons p q ps qs h t ih =>
    obtain ⟨h1, h2, h3⟩ := h
    unfold dropK withoutH at ih ⊢
    rw [List.filter_cons, List.filter_cons]
    by_cases e : p.1 = k
    · have e' : q.1 = k := h1.symm.trans e
      simp only [e, e', decide_true, Bool.not_true, ne_eq, not_true_eq_false, decide_false, Bool.false_eq_true, if_false]
      exact ih
    · have e' : ¬ q.1 = k := fun z => e (h1.trans z)
      simp only [e, e', decide_false, Bool.not_false, ne_eq, not_false_eq_true, decide_true, if_true]
      exact .cons ⟨h1, h2, h3⟩ ih
end

section
variable {X : Cx} {pins : List (Addr × Obj)} {σ : L2.St} {H : Hp} {s : Shared} {a b : Addr} {v : V} {u r : Value} {k : NestedKey} {kvs : List (NestedKey × V)} {A : Around} {E : Value → Shared → Prop}
theorem nd_of (I : Inv X pins σ H s) (g : NDct X.prog X.w X.K H a kvs) : kvs.length ≤ sizeLine ∧ (a == sysModules) = false ∧ ∃ xs, H a = some (ndO X.prog X.w xs a) ∧ KN X.K H kvs xs ∧ s.heap.DictOfH (nestedKind X.prog X.w) a xs := by
  obtain ⟨xs, e, r⟩ := g
  obtain ⟨⟨hd, hz, o, es, ep, h1, h2, h3, h4, h5⟩, _⟩ := (show ObjOk X.prog X.w H s.heap a (ndO X.prog X.w xs a) from I.hok a _ e)
  refine ⟨by rw [Paired.length r]; exact hz, hd, xs, e, r, o, es, ep, h1, h2, h3, h4, fun x hx => ?_, h5⟩
  have all : ∀ {l : List (NestedKey × V)} {m : List (NestedKey × Addr × Value)}, KN X.K H l m → ∀ x ∈ m, (nestedKind X.prog X.w).is s.heap x.1 x.2.1 := by
    intro l m q
    induction q with
    | nil => intro x hx; exact nomatch hx
    | @cons p q ps qs hq t ih =>
      intro x hx
      rcases List.mem_cons.mp hx with e | hx
      · subst e
        exact key_of I (by rw [← hq.1]; exact hq.2.1)
      · exact ih x hx
  exact all r x hx
theorem nd_ok {P : Program} {w : World} {H' : Hp} {h' : Heap} {xs : List (NestedKey × Addr × Value)} (hd : (a == sysModules) = false) (hz : xs.length ≤ sizeLine) (dd : h'.DictOfH (nestedKind P w) a xs) :
    ObjOk P w H' h' a (ndO P w xs a) := by
  obtain ⟨o, es, ep, h1, h2, h3, h4, _, h5⟩ := dd
  exact ⟨⟨hd, hz, o, es, ep, h1, h2, h3, h4, h5⟩, ⟨o, h1⟩, fun g1 g2 ⟨q1, q2, o', es', ep', p1, p⟩ k => ⟨q1, q2, o', es', ep', k _ p1, p⟩⟩
theorem nd_type (I : Inv X pins σ H s) (g : NDct X.prog X.w X.K H a kvs) : s.TypeIs (.ref a) "dict" ∧ (∀ b, Value.ref a = .ref b → ∃ ob, s.heap.get? b = some ob ∧ ob.dict = none) := by
  obtain ⟨_, _, xs, _, _, dd⟩ := nd_of I g
  refine ⟨dd.typeIs, fun b q => ?_⟩
  cases q
  obtain ⟨ob, _, _, h1, h2, _⟩ := dd
  exact ⟨ob, h1, h2.2.1⟩
theorem nd_getItem {Q : Value → Shared → Prop} (hu : A.units + 9 < cLine) (I : Inv X pins σ H s) (g : NDct X.prog X.w X.K H a kvs) (ky : KeyAt X.K H (.ref b) k) (l : valV kvs k = some v) (h : ∀ w' s', Inv X pins σ H s' → RelV v w' → Q w' s') :
    wpAny (model X.prog X.w) A (getItem (.ref a) (.ref b)) Q E s := by
  obtain ⟨_, _, xs, _, rel, dd⟩ := nd_of I g
  obtain ⟨w', hw, rw'⟩ := RelO.some_of (v := v) (o := (atKey xs k).map (·.2)) (by rw [← l]; exact rel.val k)
  obtain ⟨p, hp, hp2⟩ := Option.map_eq_some_iff.mp hw
  refine wpAny_getItem_heap (show A.in1.units + 8 < cLine by rw [Around.in1_units]; omega) (key_of I ky) dd hp ?_
  rw [hp2]
  exact h w' _ (I.tok _) rw'
theorem nd_in {Q : Value → Shared → Prop} (hu : A.units + 9 < cLine) (I : Inv X pins σ H s) (g : NDct X.prog X.w X.K H a kvs) (ky : KeyAt X.K H (.ref b) k) (h : ∀ s', Inv X pins σ H s' → Q (.bool (valV kvs k).isSome) s') :
    wpAny (model X.prog X.w) A (compareOp .In (.ref b) (.ref a)) Q E s := by
  obtain ⟨_, hd, xs, _, rel, dd⟩ := nd_of I g
  refine wpAny_in_heap (show A.in1.units + 8 < cLine by rw [Around.in1_units]; omega) (key_of I ky) hd dd ?_
  have q := (rel.val k).isSome_eq
  rw [Option.isSome_map] at q
  rw [← q]
  exact h _ (I.tok _)
theorem nd_notIn {Q : Value → Shared → Prop} (hu : A.units + 9 < cLine) (I : Inv X pins σ H s) (g : NDct X.prog X.w X.K H a kvs) (ky : KeyAt X.K H (.ref b) k) (h : ∀ s', Inv X pins σ H s' → Q (.bool (!(valV kvs k).isSome)) s') :
    wpAny (model X.prog X.w) A (compareOp .NotIn (.ref b) (.ref a)) Q E s := by
  obtain ⟨_, hd, xs, _, rel, dd⟩ := nd_of I g
  refine wpAny_notIn_heap (show A.in1.units + 8 < cLine by rw [Around.in1_units]; omega) (key_of I ky) hd dd ?_
  have q := (rel.val k).isSome_eq
  rw [Option.isSome_map] at q
  rw [← q]
  exact h _ (I.tok _)
theorem nd_get1 {Q : Value → Shared → Prop} (hu : A.units + 9 < cLine) (I : Inv X pins σ H s) (g : NDct X.prog X.w X.K H a kvs) (ky : KeyAt X.K H (.ref b) k) (h : ∀ w' s', Inv X pins σ H s' → RelV ((valV kvs k).getD .non) w' → Q w' s') :
    wpAny (model X.prog X.w) A (call (.builtin "dict.get") [.ref a, .ref b]) Q E s := by
  obtain ⟨_, hd, xs, _, rel, dd⟩ := nd_of I g
  refine call_meetsIn PySem.F.slot_dict_get dd.typeIs PySem.F.entry_dict_get (PySem.F.args_dict_get_2 _ _) (meetsH_dict_get (nestedKind X.prog X.w) a b hd) ⟨show A.in1.units + 8 < cLine by rw [Around.in1_units]; omega, k, xs, key_of I ky, dd, h _ _ (I.tok _) ?_⟩
  exact (rel.val k).getD rfl
theorem nd_get2 {d : V} {Q : Value → Shared → Prop} (hu : A.units + 9 < cLine) (I : Inv X pins σ H s) (g : NDct X.prog X.w X.K H a kvs) (ky : KeyAt X.K H (.ref b) k) (rd : RelV d r) (h : ∀ w' s', Inv X pins σ H s' → RelV ((valV kvs k).getD d) w' → Q w' s') :
    wpAny (model X.prog X.w) A (call (.builtin "dict.get") [.ref a, .ref b, r]) Q E s := by
  obtain ⟨_, hd, xs, _, rel, dd⟩ := nd_of I g
  refine call_meetsIn PySem.F.slot_dict_get dd.typeIs PySem.F.entry_dict_get (PySem.F.args_dict_get_3 _ _ _) (meetsH_dict_get_default (nestedKind X.prog X.w) a b hd r) ⟨show A.in1.units + 8 < cLine by rw [Around.in1_units]; omega, k, xs, key_of I ky, dd, h _ _ (I.tok _) ?_⟩
  exact (rel.val k).getD rd
/-- d[k] = v -/
theorem nd_setItem {Q : Unit → Shared → Prop} (hu : A.units + 9 < cLine) (I : Inv X pins σ H s) (g : NDct X.prog X.w X.K H a kvs) (ky : KeyAt X.K H (.ref b) k) (hl : kvs.length < sizeLine) (rv : RelV v r)
    (h : ∀ o s', NDct X.prog X.w X.K (upd H a o) a (putK kvs k v) → Inv X pins σ (upd H a o) s' → Q () s') :
    wpAny (model X.prog X.w) A (setItem (.ref a) (.ref b) r) Q E s := by
  obtain ⟨_, hd, xs, e, rel, dd⟩ := nd_of I g
  have hz : xs.length ≤ sizeLine := by rw [← Paired.length rel]; omega
  refine wpAny_setItem_heap (hsz := hz) (show A.in1.units + 8 < cLine by rw [Around.in1_units]; omega) (key_of I ky) dd fun h' dd' hs => ?_
  have rel' := rel.put k ky rv
  have hz' : (storedH xs k b r).length ≤ sizeLine := by
    rw [← Paired.length rel']
    have := length_putK kvs k v
    omega
  have he : ∃ q, h'.get? a = some q := let ⟨q, _, _, hq, _⟩ := dd'; ⟨q, hq⟩
  exact h (ndO X.prog X.w (storedH xs k b r) a) _ ⟨_, upd_same, KN.keep (TK.upd (H := H) (a := a) (by rw [e]; exact True.intro)) rel'⟩ (d_write I (by rw [e]; exact True.intro) hs he (nd_ok hd hz' dd'))
/-- del d[k] -/
theorem nd_delItem {Q : Unit → Shared → Prop} (hu : A.units + 9 < cLine) (I : Inv X pins σ H s) (g : NDct X.prog X.w X.K H a kvs) (ky : KeyAt X.K H (.ref b) k) (l : (valV kvs k).isSome = true)
    (h : ∀ o s', NDct X.prog X.w X.K (upd H a o) a (dropK kvs k) → Inv X pins σ (upd H a o) s' → Q () s') :
    wpAny (model X.prog X.w) A (delItem (.ref a) (.ref b)) Q E s := by
  obtain ⟨hl, hd, xs, e, rel, dd⟩ := nd_of I g
  have hz : xs.length ≤ sizeLine := by rw [← Paired.length rel]; exact hl
  have q := (rel.val k).isSome_eq
  rw [Option.isSome_map, l] at q
  obtain ⟨p, hp⟩ := Option.isSome_iff_exists.mp q.symm
  refine wpAny_delItem_heap (hsz := hz) (show A.in1.units + 8 < cLine by rw [Around.in1_units]; omega) (key_of I ky) hd dd hp fun h' dd' hs => ?_
  have rel' := rel.drop k
  have hz' : (withoutH xs k).length ≤ sizeLine := Nat.le_trans (by unfold withoutH; exact List.length_filter_le _ _) hz
  have he : ∃ q, h'.get? a = some q := let ⟨q, _, _, hq, _⟩ := dd'; ⟨q, hq⟩
  exact h (ndO X.prog X.w (withoutH xs k) a) _ ⟨_, upd_same, KN.keep (TK.upd (H := H) (a := a) (by rw [e]; exact True.intro)) rel'⟩ (d_write I (by rw [e]; exact True.intro) hs he (nd_ok hd hz' dd'))
end

/-! ### readings and rules -/
section
variable (P : Program) (w : World) (K : PySem.W.Frag)
/-- {} -/
def tNNew : TE := fun _ H Q => ∀ p o, H p = none → NDct P w K (upd H p o) p [] → Q (.ref p) (upd H p o)
/-- d[y] -/
def tNGet (td ty : TE) : TE := fun σ H Q => td σ H fun x H1 => ty σ H1 fun y H2 => ∃ a kvs k v, x = .ref a ∧ NDct P w K H2 a kvs ∧ KeyAt K H2 y k ∧ valV kvs k = some v ∧ Q v H2
/-- y in d, y not in d -/
def tNIn (neg : Bool) (ty td : TE) : TE := fun σ H Q => ty σ H fun y H1 => td σ H1 fun x H2 => ∃ a kvs k, x = .ref a ∧ NDct P w K H2 a kvs ∧ KeyAt K H2 y k ∧ Q (.bl (if neg then !(valV kvs k).isSome else (valV kvs k).isSome)) H2
/-- d.get(y), d.get(y, z) -/
def tNGet1 (td ty : TE) : TE := fun σ H Q => td σ H fun x H1 => ∃ a kvs, x = .ref a ∧ NDct P w K H1 a kvs ∧ ty σ H1 fun y H2 => ∃ kvs k, NDct P w K H2 a kvs ∧ KeyAt K H2 y k ∧ Q ((valV kvs k).getD .non) H2
def tNGet2 (td ty tz : TE) : TE := fun σ H Q => td σ H fun x H1 => ∃ a kvs, x = .ref a ∧ NDct P w K H1 a kvs ∧ ty σ H1 fun y H2 => tz σ H2 fun z H3 => ∃ kvs k, NDct P w K H3 a kvs ∧ KeyAt K H3 y k ∧ Q ((valV kvs k).getD z) H3
/-- d[y] = v -/
def sNPut (td ty tv : TE) : TS := fun D σ H => tv σ H fun v H1 => td σ H1 fun x H2 => ty σ H2 fun y H3 => ∃ a kvs k, x = .ref a ∧ NDct P w K H3 a kvs ∧ KeyAt K H3 y k ∧ kvs.length < sizeLine ∧
  ∀ o, NDct P w K (upd H3 a o) a (putK kvs k v) → D.nx σ (upd H3 a o)
/-- del d[y] -/
def sNDel (td ty : TE) : TS := fun D σ H => td σ H fun x H1 => ty σ H1 fun y H2 => ∃ a kvs k, x = .ref a ∧ NDct P w K H2 a kvs ∧ KeyAt K H2 y k ∧ (valV kvs k).isSome = true ∧
  ∀ o, NDct P w K (upd H2 a o) a (dropK kvs k) → D.nx σ (upd H2 a o)
end
section
variable {X : Cx} {o i e f value : Expr} {pos pos' tpos apos cpos : Pos} {td ty tv tz : TE}
theorem pe_nnew : PE X (.Dict [] [] pos) (tNNew X.prog X.w X.K) := ⟨fun pins s σ H Q I h => by
  have hb := I.big
  have ok : ObjOk X.prog X.w (upd H s.heap.objs.size (ndO X.prog X.w [] s.heap.objs.size)) (s.heap.push { cls := .type "dict", data := .dict #[] }) s.heap.objs.size (ndO X.prog X.w [] s.heap.objs.size) :=
    nd_ok (beq_eq_false_iff_ne.mpr (Ne.symm (Nat.ne_of_lt hb))) (Nat.zero_le _) ⟨_, #[], 0, Heap.get?_push_size _ rfl, ⟨rfl, rfl, rfl⟩, rfl, rfl, (fun x hx => nomatch hx), List.nodup_nil⟩
  exact wpAny_Dict_empty ⟨.ref s.heap.objs.size, _, I.laid (a := s.heap.objs.size) (o := ndO X.prog X.w [] s.heap.objs.size) (t' := s.toks) (fun _ _ q => Heap.get?_push_of_some _ q) (Nat.le_refl _) ok, rfl, h _ _ (I.hok.fresh (Nat.le_refl _)) ⟨[], upd_same, .nil⟩⟩⟩
theorem pe_nget (hu : X.A.units + 9 < cLine) (ho : PE X o td) (hi : PE X i ty) (hs : NoSl i) : PE X (.Subscript o i pos) (tNGet X.prog X.w X.K td ty) := by
  refine ⟨fun pins s σ H Q I h => ?_⟩
  refine subD_of PySem.F.slot_dict_getitem.lookup hs (thn (ho.run pins s σ H _ I h) fun u s1 ⟨x, H1, I1, rx, q1⟩ => thn (hi.run pins s1 σ H1 _ I1 q1) fun iv s2 ⟨y, H2, I2, ry, a, kvs, k, v, ex, g, ky, l, q2⟩ => ?_)
  subst ex
  obtain rfl : u = Value.ref a := rx
  obtain ⟨b, rfl⟩ := ky.ref
  obtain rfl : iv = Value.ref b := ry
  exact ⟨(nd_type I2 g).1, nd_getItem hu I2 g ky l fun w' s3 I3 rw' => ⟨v, H2, I3, rw', q2⟩⟩
theorem pc_nin (hu : X.A.units + 9 < cLine) (hi : PE X i ty) (ho : PE X o td) : PC X .In i o (tNIn X.prog X.w X.K false ty td) := by
  refine ⟨fun pins s σ H Q I h => ?_⟩
  refine thn (hi.run pins s σ H _ I h) fun iv s1 ⟨y, H1, I1, ry, q1⟩ => thn (ho.run pins s1 σ H1 _ I1 q1) fun u s2 ⟨x, H2, I2, rx, a, kvs, k, ex, g, ky, q2⟩ => ?_
  subst ex
  obtain rfl : u = Value.ref a := rx
  obtain ⟨b, rfl⟩ := ky.ref
  obtain rfl : iv = Value.ref b := ry
  exact nd_in hu I2 g ky fun s3 I3 => ⟨.bl (valV kvs k).isSome, H2, I3, rfl, q2⟩
theorem pc_nnotin (hu : X.A.units + 9 < cLine) (hi : PE X i ty) (ho : PE X o td) : PC X .NotIn i o (tNIn X.prog X.w X.K true ty td) := by
  refine ⟨fun pins s σ H Q I h => ?_⟩
  refine thn (hi.run pins s σ H _ I h) fun iv s1 ⟨y, H1, I1, ry, q1⟩ => thn (ho.run pins s1 σ H1 _ I1 q1) fun u s2 ⟨x, H2, I2, rx, a, kvs, k, ex, g, ky, q2⟩ => ?_
  subst ex
  obtain rfl : u = Value.ref a := rx
  obtain ⟨b, rfl⟩ := ky.ref
  obtain rfl : iv = Value.ref b := ry
  exact nd_notIn hu I2 g ky fun s3 I3 => ⟨.bl (!(valV kvs k).isSome), H2, I3, rfl, q2⟩
theorem ps_nput (hu : X.A.units + 9 < cLine) (ho : PE X o td) (hi : PE X i ty) (hv : PE X value tv) (hs : swapsWith value (some (.Subscript o i pos')) pos.line X.env = pure false) :
    PS X (.Assign [.Subscript o i pos'] value pos) (sNPut X.prog X.w X.K td ty tv) := by
  refine ⟨fun pins s σ H D I h => ?_⟩
  refine wpAny_Assign_Subscript (thn (hv.run pins s σ H _ I h) fun r s1 ⟨v, H1, I1, rv, q1⟩ => thn (ho.run pins s1 σ H1 _ I1 q1) fun u s2 ⟨x, H2, I2, rx, q2⟩ => thn (hi.run pins s2 σ H2 _ I2 q2) fun iv s3 ⟨y, H3, I3, ry, a, kvs, k, ex, g, ky, hl, q3⟩ => ?_) hs
  subst ex
  obtain rfl : u = Value.ref a := rx
  obtain ⟨b, rfl⟩ := ky.ref
  obtain rfl : iv = Value.ref b := ry
  exact nd_setItem hu I3 g ky hl rv fun o s4 g4 I4 => ⟨σ, _, I4, q3 o g4⟩
theorem ps_ndel (hu : X.A.units + 9 < cLine) (ho : PE X o td) (hi : PE X i ty) : PS X (.Delete [.Subscript o i tpos] pos) (sNDel X.prog X.w X.K td ty) := by
  refine ⟨fun pins s σ H D I h => ?_⟩
  refine wpAny_Delete (wpAny_deleteEach_cons (wpAny_delete_Subscript (thn (ho.run pins s σ H _ I h) fun u s1 ⟨x, H1, I1, rx, q1⟩ => thn (hi.run pins s1 σ H1 _ I1 q1) fun iv s2 ⟨y, H2, I2, ry, a, kvs, k, ex, g, ky, l, q2⟩ => ?_)))
  subst ex
  obtain rfl : u = Value.ref a := rx
  obtain ⟨b, rfl⟩ := ky.ref
  obtain rfl : iv = Value.ref b := ry
  exact nd_delItem hu I2 g ky l fun o s3 g3 I3 => wpAny_deleteEach_nil ⟨σ, _, I3, q2 o g3⟩
theorem pe_nget1 (hu : X.A.units + 9 < cLine) (ho : PE X o td) (he : PE X e ty) (m : M1 X o "get" apos e cpos) : PE X (.Call (.Attribute o "get" apos) [e] [] cpos) (tNGet1 X.prog X.w X.K td ty) := by
  refine ⟨fun pins s σ H Q I h => ?_⟩
  refine wpAny_Call_method m.base m.few m.line PySem.F.plainAttrs_dict PySem.F.slot_dict_get PySem.F.type_dict_get (thn (ho.run pins s σ H _ I h) fun u s1 ⟨x, H1, I1, rx, a, kvs0, ex, d, q1⟩ => ?_)
  subst ex
  obtain rfl : u = Value.ref a := rx
  obtain ⟨t1, t2⟩ := nd_type I1 d
  refine ⟨t1, t2, ?_⟩
  rw [m.trees]
  refine Calls.callWith_builtin rfl (Calls.evalArgs_plain (Calls.spliced_cons (thn (he.run pins s1 σ H1 _ I1 q1) fun iv s2 ⟨y, H2, I2, ry, kvs, k, g, ky, q2⟩ => Calls.spliced_nil ?_)))
  obtain ⟨b, rfl⟩ := ky.ref
  obtain rfl : iv = Value.ref b := ry
  exact nd_get1 hu I2 g ky fun w' s3 I3 rw' => ⟨_, H2, I3, rw', q2⟩
theorem pe_nget2 (hu : X.A.units + 9 < cLine) (ho : PE X o td) (he : PE X e ty) (hf : PE X f tz) (m : M2 X o "get" apos e f cpos) : PE X (.Call (.Attribute o "get" apos) [e, f] [] cpos) (tNGet2 X.prog X.w X.K td ty tz) := by
  refine ⟨fun pins s σ H Q I h => ?_⟩
  refine wpAny_Call_method m.base m.few m.line PySem.F.plainAttrs_dict PySem.F.slot_dict_get PySem.F.type_dict_get (thn (ho.run pins s σ H _ I h) fun u s1 ⟨x, H1, I1, rx, a, kvs0, ex, d, q1⟩ => ?_)
  subst ex
  obtain rfl : u = Value.ref a := rx
  obtain ⟨t1, t2⟩ := nd_type I1 d
  refine ⟨t1, t2, ?_⟩
  rw [m.trees]
  refine Calls.callWith_builtin rfl (Calls.evalArgs_plain (Calls.spliced_cons (thn (he.run pins s1 σ H1 _ I1 q1) fun iv s2 ⟨y, H2, I2, ry, q2⟩ =>
    Calls.spliced_cons (thn (hf.run pins s2 σ H2 _ I2 q2) fun fv s3 ⟨z, H3, I3, rz, kvs, k, g, ky, q3⟩ => Calls.spliced_nil ?_))))
  obtain ⟨b, rfl⟩ := ky.ref
  obtain rfl : iv = Value.ref b := ry
  exact nd_get2 hu I3 g ky rz fun w' s4 I4 rw' => ⟨_, H3, I4, rw', q3⟩
end
theorem nu_of {A : Around} {k : Nat} (hr : Room k A) : A.units + 9 < cLine := Nat.lt_of_le_of_lt (Nat.add_le_add_left (by decide : 9 ≤ 64) _) hr.units
end ND

set_option Elab.async false
set_option linter.all false
set_option maxRecDepth 100000
set_option maxHeartbeats 4000000
/-! sum(t), t a tuple of ints -/
namespace SumT
open PySem PySem.W PySem.Calls PyProof.Rows PyProof.V PySem.Spec L2
section
variable {X : Cx}
def rSumT (K : PySem.W.Frag) : List V → Hp → VK → Prop := fun vs H Q => ∃ (a : Addr) (ns : List Int), vs = [V.ref a] ∧ SqT K H a (ns.map V.int) ∧ Q (.int ns.sum) H
theorem cr_sumT (hc : X.calm = true) : CallR X (.builtin "sum") (rSumT X.K) := by
  intro pins s σ H vs us Q I r h
  obtain ⟨a, ns, rfl, hs, q⟩ := h
  obtain ⟨its, rv, pl, hz⟩ := I.tuple hs
  rw [Vals.ref1 r]
  obtain ⟨xs, e⟩ := rv.ints.allInts.items
  have hn : numsOf (intItems xs).toList = ns := by rw [← e]; exact rv.ints.numsOf
  rw [nums_intItems] at hn
  rw [e] at pl
  refine ktm_sumG (I.ok.hd hc) pl fun h' tk t' hk => ⟨.int _, H, I.kept hk, ⟨_, by rw [preSum_eq, List.take_of_length_le (by simp), hn]⟩, q⟩
end
end SumT

set_option Elab.async false
set_option linter.all false
set_option maxRecDepth 100000
set_option maxHeartbeats 4000000
/-! Rules whose readings name K, for the inside of comprehensions. -/
namespace Nst
open PySem PySem.Spec PyProof.Rows L2
def rLen (K : PySem.W.Frag) : List V → Hp → VK → Prop := fun xs H Q => ∃ p ys, xs = [V.ref p] ∧ (SqL K H p ys ∨ SqT K H p ys) ∧ Q (.int ys.length) H
theorem len_seq {X : Cx} (K : PySem.W.Frag) (h : X.K = K) : CallR X (.builtin "len") (rLen K) := by
  subst h
  exact call_len_seq
def rTupOf (K : PySem.W.Frag) : List V → Hp → VK → Prop := fun xs H Q => ∃ p ys, xs = [.ref p] ∧ ((SqL K H p ys ∧ ∀ l, H l = none → Q (.ref l) (upd H l (.tup ys))) ∨ (SqT K H p ys ∧ Q (.ref p) H))
theorem tuple_of {X : Cx} (K : PySem.W.Frag) (h : X.K = K) : CallR X (.type "tuple") (rTupOf K) := by
  subst h
  exact call_tuple_of
theorem at_item {xs : List V} {i : Int} (h0 : 0 ≤ i) (h1 : i < (xs.length : Int)) : ∃ y, xs[i.toNat]? = some y ∧ atI xs i = some y := by
  obtain ⟨j, rfl⟩ := Int.eq_ofNat_of_zero_le h0
  have h2 : j < xs.length := by omega
  exact ⟨xs[j], by rw [Int.toNat_natCast]; exact List.getElem?_eq_getElem h2, atI_nat (List.getElem?_eq_getElem h2)⟩
/-- tuple + tuple, whatever they hold -/
theorem cat_sq {K : PySem.W.Frag} {H : Hp} {a b : Addr} {xs ys : List V} {Q : VK} (ha : SqT K H a xs) (hb : SqT K H b ys) (hl : xs.length + ys.length ≤ 100000) (h : ∀ (r : Addr) (H' : Hp), Same H H' → SqT K H' r (xs ++ ys) → Q (.ref r) H') : rCatA K (.ref a) (.ref b) H Q := by
  refine ⟨a, b, xs, ys, rfl, rfl, ha, hb, Cm.small hl, fun e => ?_, fun _ e => ?_, fun _ _ p np => ?_⟩
  · subst e
    exact h b H (Same.refl H) hb
  · subst e
    exact h a H (Same.refl H) (by rw [List.append_nil]; exact ha)
  · exact h p _ (Cm.same_new np) Cm.sqt_new
theorem shaped_of {d : PyData} (h1 : d.canLay0 = true) (h2 : d.depth ≤ 64) : SeqAt.shaped d = true := by
  show (d.canLay0 && decide (d.depth ≤ 64)) = true
  rw [Bool.and_eq_true]
  exact ⟨h1, decide_eq_true h2⟩
theorem eqv_self {d : PyData} (h : SeqAt.shaped d = true) : PyData.eqv d d = true := SeqAt.eqv_refl _ (SeqAt.canLay_of_shaped h)
/-- a tuple of a text and two numbers -/
theorem shaped_w2 {x : Str} (h : PyData.strOk x = true) (i j : Int) : SeqAt.shaped (.tuple [.str x, .int i, .int j]) = true :=
  shaped_of (by simp [PyData.canLay0, PyData.canLayAll0, h]) (by simp [PyData.depth, PyData.depthAll])
end Nst

set_option Elab.async false
set_option linter.all false
set_option maxRecDepth 100000
set_option maxHeartbeats 4000000
/-! Calls of methods that may raise: within a try (pe_methT), and where it is known that nothing is raised (passF). -/
namespace MethT
open PySem PySem.Spec PyProof.Rows L2
theorem passF {X : Cx} : Passes (L2.CX X.prog X.w) X E0 := fun _ _ _ _ _ _ _ h => by
  obtain ⟨_, _, _, _, _, _, _, _, _, _, _, _, e⟩ := h
  exact e.elim
section
variable {X : Cx} {CX : CXT} {k : Nat} {f C : Addr} {fd : FuncData} {ps : List Str} {sp : Sp} {E : L2.St → XK} {x m : Str} {p pos apos : Pos} {e o : Expr} {es : List Expr} {ta : TE} {t : TA}
def tMethT (C : Addr) (m : Str) (sp : Sp) (E : L2.St → XK) (ta : TE) (t : TA) : TE := fun σ H Q => ta σ H fun x H1 => ∃ a dx fs, x = .ref a ∧ H1 a = some (.ins C dx fs) ∧ fs.lookup m = none ∧ t σ H1 fun vs H2 => sp (x :: vs) H2 Q (E σ)
theorem pe_methT {pl : Sem Bool} (he : PE X o ta) (c : Cls X.K C) (hm : Meth X.K C m f) (F : FnOk X.prog X.w X.K X.mg X.base CX k f fd ps sp) (hr : Room k X.A) (hb : Binds X.K fd ps []) (hx : ∀ σ, PassesAt CX X σ (E σ)) (ha : PA X (e :: es) t)
    (hst : starEach (e :: es) X.env = (false, eval e X.env) :: starEach es X.env := by rfl) (hpl : (backTo pos (starEach es X.env)).any (·.1) = false := by rfl)
    (ht : eval (.Call (.Attribute o m apos) (e :: es) [] pos) X.env = (do
      let ov ← eval o X.env
      standAt apos.atName
      let (f, first) ← holding [ov] (getMethod ov m pl)
      callWith pos f first (backTo pos (starEach (e :: es) X.env)) (backToKw pos (keywordEach [] X.env))) := by rfl) :
    PE X (.Call (.Attribute o m apos) (e :: es) [] pos) (tMethT C m sp E ta t) := by
  refine ⟨fun pins s σ H Q I h => ?_⟩
  refine PySem.W.methodCall_KW (pl := pl) (thn (he.run pins s σ H _ I h) fun u s1 ⟨x, H1, I1, rx, a, dx, fs, ex, ea, l, q⟩ => ?_) ht
  subst ex
  obtain rfl : u = Value.ref a := rx
  refine getmeth_ok I1 ea c hm l ?_
  refine PySem.W.callWith_K (first := [.ref a]) (h₀ := X.base) I.ok.mod.kin hm.kp (thn (ha.run pos pins s1 σ H1 _ I1 q) fun us s2 ⟨vs, H2, I2, r, q2⟩ => ⟨I2.kIn, ?_⟩) hst hpl
  exact run_fnS (us := .ref a :: us) (vs := .ref a :: vs) F hr hb (hx σ) I2 (.cons rfl r) q2
theorem pe_methT0 {pl : Sem Bool} (he : PE X o ta) (c : Cls X.K C) (hm : Meth X.K C m f) (F : FnOk X.prog X.w X.K X.mg X.base CX k f fd ps sp) (hr : Room k X.A) (hb : Binds X.K fd ps []) (hx : ∀ σ, PassesAt CX X σ (E σ))
    (ht : eval (.Call (.Attribute o m apos) [] [] pos) X.env = (do
      let ov ← eval o X.env
      standAt apos.atName
      let (f, first) ← holding [ov] (getMethod ov m pl)
      callWith pos f first (backTo pos (starEach [] X.env)) (backToKw pos (keywordEach [] X.env))) := by rfl) :
    PE X (.Call (.Attribute o m apos) [] [] pos) (tMethT C m sp E ta tNil) := by
  refine ⟨fun pins s σ H Q I h => ?_⟩
  refine PySem.W.methodCall_KW (pl := pl) (thn (he.run pins s σ H _ I h) fun u s1 ⟨x, H1, I1, rx, a, dx, fs, ex, ea, l, q⟩ => ?_) ht
  subst ex
  obtain rfl : u = Value.ref a := rx
  refine getmeth_ok I1 ea c hm l ?_
  exact PySem.W.callWith_K0 (first := [.ref a]) I1.kIn hm.kp (run_fnS (us := [.ref a]) (vs := [.ref a]) F hr hb (hx σ) I1 (.cons rfl .nil) q)
end
end MethT

set_option Elab.async false
set_option linter.all false
set_option maxRecDepth 100000
set_option maxHeartbeats 4000000
/-! sorted(xs), sorted(d): items that are data, nested tuples; what comes out is the merge sort of the data. -/
namespace SortN
open PySem PySem.W PySem.Calls PyProof.Rows PyProof.V PySem.Spec L2 Pt ND

/-- the order of data -/
abbrev dle : PyData → PyData → Bool := dataLe false id
abbrev srt (ds : List PyData) : List PyData := ds.mergeSort dle
section
variable {X : Cx} {pins : List (Addr × Obj)} {σ : L2.St} {H : Hp} {s : Shared}
theorem each_reads (I : Inv X pins σ H s) : ∀ {xs : List V} {ds : List PyData} {us : List Value}, Rps X.K H xs ds → Vals xs us → EachIs (fun v d => ∃ as, Reads s.heap v d as) us ds
  | _, _, _, .nil, .nil => .nil
  | _, _, _, .cons h t, .cons h' t' => .cons (Dp.reads I _ _ _ h.dp h') (each_reads I t t')
theorem each_both {K : PySem.W.Frag} : ∀ {xs : List V} {ds : List PyData} {us : List Value}, Rps K H xs ds → Vals xs us → EachIs (fun v (b : V × PyData) => RelV b.1 v ∧ Rp K H b.1 b.2) us (xs.zip ds)
  | _, _, _, .nil, .nil => .nil
  | _, _, _, .cons h t, .cons h' t' => .cons ⟨h', h⟩ (each_both t t')
theorem each_snd {R : Value → PyData → Prop} : ∀ {xs : List V} {ds : List PyData} {us : List Value}, xs.length = ds.length → EachIs R us ds → EachIs (fun v (b : V × PyData) => R v b.2) us (xs.zip ds)
  | [], [], _, _, .nil => .nil
  | x :: xs, d :: ds, _, hl, .cons h t => .cons h (each_snd (Nat.succ.inj hl) t)
theorem out_of {K : PySem.W.Frag} : ∀ {bs : List (V × PyData)} {out : List Value}, EachIs (fun v (b : V × PyData) => RelV b.1 v ∧ Rp K H b.1 b.2) out bs → Vals (bs.map (·.1)) out ∧ Rps K H (bs.map (·.1)) (bs.map (·.2))
  | _, _, .nil => ⟨.nil, .nil⟩
  | _, _, .cons h t => ⟨.cons h.1 (out_of t).1, .cons h.2 (out_of t).2⟩
theorem zip_snd : ∀ {xs : List V} {ds : List PyData}, xs.length = ds.length → (xs.zip ds).map (·.2) = ds
  | [], [], _ => rfl
  | x :: xs, d :: ds, hl => congrArg (d :: ·) (zip_snd (Nat.succ.inj hl))
/-- what the sort gives -/
theorem sorted_out {K : PySem.W.Frag} {h : Heap} {xs : List V} {ds : List PyData} {us : List Value} (hal : AllAlike ds) (r : Rps K H xs ds) (rv : Vals xs us) (e : EachIs (fun v d => ∃ as, Reads h v d as) us ds) :
    ∃ ys, Vals ys (sortVals (dataKind h ds) false us us) ∧ Rps K H ys (srt ds) ∧ ys.length = xs.length := by
  have hl := r.len
  have e3 := sortVals_each (κ := dataKind h ds) (rev := false) (k := fun b : V × PyData => keyToks b.2) (each_both r rv) (each_snd hl (each_keys hal e))
  obtain ⟨v1, r1⟩ := out_of e3
  refine ⟨_, v1, ?_, ?_⟩
  · have em : ((xs.zip ds).mergeSort (sortLe (dataKind h ds).toKeyOrd false fun b : V × PyData => keyToks b.2)).map (·.2) = srt ds := by
      have q := sort_maps (r := sortLe (dataKind h ds).toKeyOrd false fun b : V × PyData => keyToks b.2) (s := dle) (fun b : V × PyData => b.2) (l := xs.zip ds) (fun a _ b _ => rfl)
      rw [q, zip_snd hl]
    rw [← em]
    exact r1
  · rw [List.length_map, List.length_mergeSort, List.length_zip, hl, Nat.min_self]
end
section
variable {X : Cx}
/-- sorted(xs) of a list -/
def rSortL (K : PySem.W.Frag) : List V → Hp → VK → Prop := fun vs H Q => ∃ (a : Addr) (xs : List V) (ds : List PyData), vs = [.ref a] ∧ SqL K H a xs ∧ Rps K H xs ds ∧ AllAlike ds ∧ Sortable ds ∧ (∀ d ∈ ds, d.depth ≤ 50) ∧
  ∀ (ys : List V) (p : Addr), Rps K H ys (srt ds) → H p = none → Q (.ref p) (upd H p (.lst ys))
theorem call_sortL (hc : X.calm = true) (hu : X.A.units + 64 < cLine) : CallR X (.builtin "sorted") (rSortL X.K) := by
  intro pins s σ H vs us Q I r q
  obtain ⟨a, xs, ds, rfl, hl, hr, hal, hk, hdp, q⟩ := q
  rw [Vals.ref1 r]
  obtain ⟨its, rv, pl, hz⟩ := I.list hl
  have hzi : its.length ≤ sizeLine := by rw [← rv.length]; exact hz
  have I1 : Inv X pins σ H { s with heap := sortingHeap (copyHeap s.heap its) (s.heap.objs.size + 1) its, toks := s.toks } := I.kept fun b o e => sorting_copy_old e
  have ea : EachIs (fun v d => ∃ as, Reads (sortingHeap (copyHeap s.heap its) (s.heap.objs.size + 1) its) v d as) its ds := each_reads I1 hr rv
  refine sorted_vals (κ := dataKind (sortingHeap (copyHeap s.heap its) (s.heap.objs.size + 1) its) ds) pl.isList (SortsAt.data (s := { s with heap := sortingHeap (copyHeap s.heap its) (s.heap.objs.size + 1) its }) ea hal hk fun d hd => ?_) hzi ?_
  · have := hdp d hd
    simp only [Around.in1_units]
    omega
  · obtain ⟨ys, v1, r1, l1⟩ := sorted_out (K := X.K) hal hr rv ea
    obtain ⟨e', he'⟩ := sortedAll_at s.heap its (sortVals (dataKind (sortingHeap (copyHeap s.heap its) (s.heap.objs.size + 1) its) ds) false its its).toArray
    refine ⟨.ref (s.heap.objs.size + 1), upd H (s.heap.objs.size + 1) (.lst ys), I.laid (t' := s.toks) (fun b u e => sortedAll_old e) (Nat.le_succ _) ?_, rfl, q ys _ r1 (I.hok.fresh (Nat.le_succ _))⟩
    exact ⟨by rw [l1]; exact hz, _, e', v1, he'⟩
/-- sorted(t) of a tuple -/
def rSortTup (K : PySem.W.Frag) : List V → Hp → VK → Prop := fun vs H Q => ∃ (a : Addr) (xs : List V) (ds : List PyData), vs = [.ref a] ∧ SqT K H a xs ∧ Rps K H xs ds ∧ AllAlike ds ∧ Sortable ds ∧ (∀ d ∈ ds, d.depth ≤ 50) ∧
  ∀ (ys : List V) (p : Addr), Rps K H ys (srt ds) → H p = none → Q (.ref p) (upd H p (.lst ys))
theorem call_sortTup (hc : X.calm = true) (hu : X.A.units + 64 < cLine) : CallR X (.builtin "sorted") (rSortTup X.K) := by
  intro pins s σ H vs us Q I r q
  obtain ⟨a, xs, ds, rfl, hl, hr, hal, hk, hdp, q⟩ := q
  rw [Vals.ref1 r]
  obtain ⟨its, rv, ⟨o, ho, hcl, n, hd⟩, hz⟩ := I.tuple hl
  have hzi : its.length ≤ sizeLine := by rw [← rv.length]; exact hz
  refine Calls.call_function_entry PyProof.Rows.kind_sorted PyProof.Rows.plain_sorted PyProof.Rows.entry_sorted (PyProof.Rows.args_sorted1 _) ?_
  unfold Builtin.«sorted»
  refine wpAny_bind (m := checkCount "sorted" 1 1 _) (wpAny_pure ?_)
  refine wpAny_bind (wpAny_collect_seq a (.inr rfl) ho hcl hd (fun h' hkp => ?_) (by rw [List.size_toArray]; exact hzi))
  have I1 : Inv X pins σ H { s with heap := h' } := I.kept (t' := s.toks) hkp
  rw [show its.toArray.toList = its from rfl]
  refine wpAny_bind (wpAny_newList ?_ hzi)
  have hoL : (h'.push (seqObj "list" its.toArray 0)).get? h'.objs.size = some (seqObj "list" its.toArray 0) := Heap.get?_push_size _ rfl
  show wpAny _ _ _ _ _ { s with heap := h'.push (seqObj "list" its.toArray 0) }
  have old : ∀ b u, h'.get? b = some u → (sortingHeap (h'.push (seqObj "list" its.toArray 0)) h'.objs.size its).get? b = some u := fun b u q1 =>
    sortingHeap_old (Nat.ne_of_lt (Heap.lt_size q1)) (Heap.get?_push_of_some _ q1)
  have I2 : Inv X pins σ H { s with heap := sortingHeap (h'.push (seqObj "list" its.toArray 0)) h'.objs.size its } := I1.kept (t' := s.toks) old
  have ea := each_reads I2 hr rv
  refine wpAny_bind (wpAny_holding (wpAny_call_entry PyProof.Rows.slot_list_sort ⟨_, hoL, rfl⟩ PyProof.Rows.entry_list_sort
    (list_sort_vals (κ := dataKind (sortingHeap (h'.push (seqObj "list" its.toArray 0)) h'.objs.size its) ds) (s := { s with heap := h'.push (seqObj "list" its.toArray 0) }) hoL
      (SortsAt.data (s := { s with heap := sortingHeap (h'.push (seqObj "list" its.toArray 0)) h'.objs.size its }) ea hal hk fun d hd => ?_) hzi ⟨_, rfl, ?_⟩) (PyProof.Rows.args_list_sort _)))
  · have := hdp d hd
    simp only [Around.in1_units]
    omega
  · obtain ⟨ys, v1, r1, l1⟩ := sorted_out (K := X.K) hal hr rv ea
    obtain ⟨e', he'⟩ := PyProof.Rows.sortedHeap_at (vs := its) (out := (sortVals (dataKind (sortingHeap (h'.push (seqObj "list" its.toArray 0)) h'.objs.size its) ds) false its its).toArray) hoL
    refine wpAny_pure ⟨_, rfl, .ref h'.objs.size, upd H h'.objs.size (.lst ys), I1.laid (t' := s.toks) (fun b u e => ?_) (Nat.le_refl _)
      (show ObjOk X.prog X.w _ _ _ (.lst ys) from ⟨by rw [l1]; exact hz, _, e', v1, he'⟩), rfl, q ys _ r1 (I1.hok.fresh (Nat.le_refl _))⟩
    have hb : b < h'.objs.size := Heap.lt_size e
    rw [PyProof.Rows.sortedHeap_old (Nat.ne_of_lt hb) (by rw [size_push']; exact Nat.lt_succ_of_lt hb)]
    exact Heap.get?_push_of_some _ e
theorem vals_keys {K : PySem.W.Frag} {H : Hp} {w : World} {P : Program} : ∀ {kvs : List (NestedKey × V)} {xs : List (NestedKey × Addr × Value)}, KN K H kvs xs → Rps K H (xs.map fun x => V.ref x.2.1) (kvs.map (·.1.data))
  | _, _, .nil => .nil
  | _, _, .cons h t => .cons h.2.1.1 (vals_keys (w := w) (P := P) t)
theorem vals_refs : ∀ xs : List (NestedKey × Addr × Value), Vals (xs.map fun x => V.ref x.2.1) (xs.map fun x => Value.ref x.2.1)
  | [] => .nil
  | _ :: xs => .cons rfl (vals_refs xs)
/-- sorted(d) of a dict with keys of any depth -/
def rSortD (P : Program) (w : World) (K : PySem.W.Frag) : List V → Hp → VK → Prop := fun vs H Q => ∃ (a : Addr) (kvs : List (NestedKey × V)), vs = [.ref a] ∧ NDct P w K H a kvs ∧ AllAlike (kvs.map (·.1.data)) ∧ Sortable (kvs.map (·.1.data)) ∧
  (∀ d ∈ kvs.map (·.1.data), d.depth ≤ 50) ∧ ∀ (ys : List V) (p : Addr), Rps K H ys (srt (kvs.map (·.1.data))) → H p = none → Q (.ref p) (upd H p (.lst ys))
theorem call_sortD (hc : X.calm = true) (hu : X.A.units + 64 < cLine) : CallR X (.builtin "sorted") (rSortD X.prog X.w X.K) := by
  intro pins s σ H vs us Q I r q
  obtain ⟨a, kvs, rfl, g, hal, hk, hdp, q⟩ := q
  rw [Vals.ref1 r]
  obtain ⟨z, lo, xs, e, rel, dd⟩ := nd_of I g
  obtain ⟨o, es, ep, h1, h2, h3, h4, h5, h6⟩ := dd
  have hl : es.size = kvs.length := by
    have q1 := congrArg List.length h4
    rw [List.length_map, Array.length_toList] at q1
    rw [q1, Paired.length rel]
  refine Calls.call_function_entry PyProof.Rows.kind_sorted PyProof.Rows.plain_sorted PyProof.Rows.entry_sorted (PyProof.Rows.args_sorted1 _) ?_
  unfold Builtin.«sorted»
  refine wpAny_bind (m := checkCount "sorted" 1 1 _) (wpAny_pure ?_)
  refine wpAny_bind (PySem.W.kdu_collect (A := X.A.in1) (KdlSrc.rawDict (d := a) (es := es) (ep := ep) lo) (I.ok.hd hc) ⟨o, h1, h2, h3⟩ (by rw [hl]; exact z) fun h' tk acc hkp hacc => ?_)
  have hav : acc.toList = xs.map fun x => Value.ref x.2.1 := by
    refine List.ext_getElem? fun j => ?_
    by_cases hj : j < es.size
    · have hja : j < acc.size := by rw [hacc.1]; exact hj
      obtain ⟨hi, ev⟩ := hacc.2 j acc[j] (Array.getElem?_eq_getElem hja)
      have ex : es.toList[j]? = (xs.map (entryOfKey (nestedKind X.prog X.w)))[j]? := by rw [h4]
      rw [Array.getElem?_toList, Array.getElem?_eq_getElem hj, List.getElem?_map] at ex
      rw [Array.getElem?_toList, Array.getElem?_eq_getElem hja, List.getElem?_map, ev]
      cases hx : xs[j]? with
      | none =>
        rw [hx] at ex
        cases ex
      | some x =>
        rw [hx] at ex
        have e2 : es[j] = entryOfKey (nestedKind X.prog X.w) x := Option.some.inj ex
        rw [e2]
        rfl
    · have hn : es.size = xs.length := by rw [hl, Paired.length rel]
      rw [List.getElem?_eq_none (by rw [Array.length_toList, hacc.1]; omega), List.getElem?_eq_none (by rw [List.length_map]; omega)]
  have I1 : Inv X pins σ H { s with heap := h', toks := tk } := I.kept hkp
  have hzi : acc.toList.length ≤ sizeLine := by
    rw [Array.length_toList, hacc.1, hl]
    exact z
  refine wpAny_bind (wpAny_newList ?_ hzi)
  have hoL : (h'.push (seqObj "list" acc.toList.toArray 0)).get? h'.objs.size = some (seqObj "list" acc.toList.toArray 0) := Heap.get?_push_size _ rfl
  show wpAny _ _ _ _ _ { s with heap := h'.push (seqObj "list" acc.toList.toArray 0), toks := tk }
  have rk := vals_keys (K := X.K) (w := X.w) (P := X.prog) rel
  have rv : Vals (xs.map fun x => V.ref x.2.1) acc.toList := by
    rw [hav]
    exact vals_refs xs
  have old : ∀ b u, h'.get? b = some u → (sortingHeap (h'.push (seqObj "list" acc.toList.toArray 0)) h'.objs.size acc.toList).get? b = some u := fun b u q1 =>
    sortingHeap_old (Nat.ne_of_lt (Heap.lt_size q1)) (Heap.get?_push_of_some _ q1)
  have I2 : Inv X pins σ H { s with heap := sortingHeap (h'.push (seqObj "list" acc.toList.toArray 0)) h'.objs.size acc.toList, toks := tk } := I1.kept old
  have ea := each_reads I2 rk rv
  refine wpAny_bind (wpAny_holding (wpAny_call_entry PyProof.Rows.slot_list_sort ⟨_, hoL, rfl⟩ PyProof.Rows.entry_list_sort
    (list_sort_vals (κ := dataKind (sortingHeap (h'.push (seqObj "list" acc.toList.toArray 0)) h'.objs.size acc.toList) (kvs.map (·.1.data))) (s := { s with heap := h'.push (seqObj "list" acc.toList.toArray 0), toks := tk }) hoL
      (SortsAt.data (s := { s with heap := sortingHeap (h'.push (seqObj "list" acc.toList.toArray 0)) h'.objs.size acc.toList, toks := tk }) ea hal hk fun d hd => ?_) hzi ⟨_, rfl, ?_⟩) (PyProof.Rows.args_list_sort _)))
  · have := hdp d hd
    simp only [Around.in1_units]
    omega
  · obtain ⟨ys, v1, r1, l1⟩ := sorted_out (K := X.K) hal rk rv ea
    obtain ⟨e', he'⟩ := PyProof.Rows.sortedHeap_at (vs := acc.toList) (out := (sortVals (dataKind (sortingHeap (h'.push (seqObj "list" acc.toList.toArray 0)) h'.objs.size acc.toList) (kvs.map (·.1.data))) false acc.toList acc.toList).toArray) hoL
    refine wpAny_pure ⟨_, rfl, .ref h'.objs.size, upd H h'.objs.size (.lst ys), I1.laid (t' := tk) (fun b u e => ?_) (Nat.le_refl _)
      (show ObjOk X.prog X.w _ _ _ (.lst ys) from ⟨by rw [l1, List.length_map, ← Paired.length rel]; exact z, _, e', v1, he'⟩), rfl, q ys _ r1 (I1.hok.fresh (Nat.le_refl _))⟩
    have hb : b < h'.objs.size := Heap.lt_size e
    rw [PyProof.Rows.sortedHeap_old (Nat.ne_of_lt hb) (by rw [size_push']; exact Nat.lt_succ_of_lt hb)]
    exact Heap.get?_push_of_some _ e
end
end SortN

set_option Elab.async false
set_option linter.all false
set_option maxRecDepth 100000
/-! x > y of data (tuples: the first difference decides), and a list comprehension over zip of two tuples of any lengths. -/
namespace GtD
open PySem PySem.Spec PyProof.Rows L2 RZ
section
variable {X : Cx}
def rGtD (K : PySem.W.Frag) : R2 := fun x y H Q => ∃ d e, Dp K H x d ∧ Dp K H y e ∧ PySem.W.alike d e = true ∧ d ≠ .none ∧ d.depth ≤ 40 ∧ Q (.bl (PySem.W.dataLt e d)) H
theorem op_gtD (hu : X.A.units + 64 < cLine) : OpR X (compareOp .Gt) (rGtD X.K) := by
  intro pins s σ H x y v u Q I rx ry h
  obtain ⟨d, e, hd, he, al, nn, dp, q⟩ := h
  obtain ⟨as, r1⟩ := Dp.reads I d x v hd rx
  obtain ⟨bs, r2⟩ := Dp.reads I e y u he ry
  exact PySem.W.gt_data r1 r2 al nn (by have := Nat.min_le_left d.depth e.depth; omega) ⟨.bl _, H, I, rfl, q⟩
end
theorem lc_zipT {K : PySem.W.Frag} {a b : Addr} {xs ys : List V} {g : TG} {tt : TT} {te : TE} {vs : List Nat} {σ : L2.St} {H1 : Hp} {D : Addr} {Qd : Hp → Prop} (Pv : Nat → Hp → Prop) (h0 : Pv 0 (upd H1 D (.lst []))) (hq : ∀ i H, Pv i H → SqT K H a xs ∧ SqT K H b ys)
    (hs : ∀ (i : Nat) (x y : V) (T : Addr) (H : Hp), xs[i]? = some x → ys[i]? = some y → Pv i H → H T = none → g (.ref T) (wipe σ vs) (upd H T (.tup [x, y])) fun σ2 H2 => wipe σ2 vs = wipe σ vs ∧ tt σ2 H2 fun b H3 =>
      if b = true then te σ2 H3 fun y H4 => ∃ acc, H4 D = some (.lst acc) ∧ acc.length < sizeLine ∧ Pv (i + 1) (upd H4 D (.lst (acc ++ [y]))) else Pv (i + 1) H3) (hd : ∀ H, Pv (min xs.length ys.length) H → Qd H) :
    ∃ W : Nat → Nat → Hp → Prop, (∃ m, W 0 m (upd H1 D (.lst []))) ∧ ∀ i m H, W i m H →
      ((ItzT K a b).stop i H ∧ Qd H) ∨ ((ItzT K a b).go i H ∧ ∃ Nx : Hp → Prop, (∀ H', Nx H' → ∃ m', m' < m ∧ W (i + 1) m' H') ∧ ∀ x H', (ItzT K a b).yld i H x H' → g x (wipe σ vs) H' fun σ2 H2 => wipe σ2 vs = wipe σ vs ∧ tt σ2 H2 fun b H3 =>
        if b = true then te σ2 H3 fun y H4 => ∃ acc, H4 D = some (.lst acc) ∧ acc.length < sizeLine ∧ Nx (upd H4 D (.lst (acc ++ [y]))) else Nx H3) := by
  refine ⟨fun i m H => m = min xs.length ys.length - i ∧ i ≤ min xs.length ys.length ∧ Pv i H, ⟨min xs.length ys.length, by simp, Nat.zero_le _, h0⟩, ?_⟩
  rintro i m H ⟨rfl, hi, p⟩
  obtain ⟨qx, qy⟩ := hq i H p
  by_cases hlt : i < min xs.length ys.length
  · have h1 : i < xs.length := by omega
    have h2 : i < ys.length := by omega
    have hx : xs[i]? = some xs[i] := List.getElem?_eq_getElem h1
    have hy : ys[i]? = some ys[i] := List.getElem?_eq_getElem h2
    refine .inr ⟨⟨xs, ys, _, _, qx, qy, hx, hy⟩, Pv (i + 1), fun H' p' => ⟨min xs.length ys.length - (i + 1), by omega, rfl, hlt, p'⟩, fun v H' y => ?_⟩
    obtain ⟨T, x', y', rfl, hT, rfl, f1, f2⟩ := y
    exact hs i x' y' T H (f1 xs qx) (f2 ys qy) p hT
  · have e : i = min xs.length ys.length := by omega
    subst e
    exact .inl ⟨⟨xs, ys, qx, qy, by omega⟩, hd H p⟩
end GtD

set_option Elab.async false
set_option linter.all false
set_option maxRecDepth 100000
set_option maxHeartbeats 4000000
/-! xs[a:b:c] of a list, a, b, c numbers as they stand (c > 0); xs.index(y, k). -/
namespace LsX
open PySem PySem.Spec PyProof.Rows L2 HT
section
variable {X : Cx}
def pickV (xs : List V) (lo hi st : Int) : List V := (sliceRange (sliceBounds (some lo) (some hi) (some st) xs.length).1 (sliceBounds (some lo) (some hi) (some st) xs.length).2.1 (sliceBounds (some lo) (some hi) (some st) xs.length).2.2).filterMap (xs[·]?)
def tStepL (K : PySem.W.Frag) (te : TE) (lo hi st : Int) : TE := fun σ H Q => te σ H fun x H1 => ∃ a xs, x = .ref a ∧ SqL K H1 a xs ∧ (pickV xs lo hi st).length ≤ sizeLine ∧ ∀ p, H1 p = none → Q (.ref p) (upd H1 p (.lst (pickV xs lo hi st)))
theorem vals_pick {xs : List V} {us : List Value} (r : Vals xs us) : ∀ l : List Nat, Vals (l.filterMap (xs[·]?)) (l.filterMap (us[·]?))
  | [] => .nil
  | i :: l => by
    rw [List.filterMap_cons, List.filterMap_cons]
    have hl := r.length
    by_cases h : i < xs.length
    · have e : xs[i]? = some xs[i] := List.getElem?_eq_getElem h
      obtain ⟨u, hu, ru⟩ := r.get e
      rw [e, hu]
      exact .cons ru (vals_pick r l)
    · rw [List.getElem?_eq_none (by omega), List.getElem?_eq_none (by omega)]
      exact vals_pick r l
theorem pe_stepL {e : Expr} {te : TE} {lo hi st : Int} {k1 k2 k3 : Nat} {p1 p2 p3 p4 pos : Pos} (he : PE X e te) (h0 : st ≠ 0) : PE X (.Subscript e (.Slice (some (.Constant (.int lo) k1 p1)) (some (.Constant (.int hi) k2 p2)) (some (.Constant (.int st) k3 p3)) p4) pos) (tStepL X.K te lo hi st) := by
  refine ⟨fun pins s σ H Q I h => ?_⟩
  refine Subscript_ (thn (he.run pins s σ H _ I h) fun v s1 ⟨x, H1, I1, r1, q1⟩ => ?_)
  obtain ⟨a, xs, ex, hx, hpl, q⟩ := q1
  subst ex
  cases r1
  have po : ∀ (z : Int) (k : Nat) (p : Pos), PO X (some (.Constant (.int z) k p)) (tPart (tC (.int z))) := fun z k p => po_some pe_int
  refine wpAny_Slice (thn ((po lo k1 p1).run pins s1 σ H1 (fun o H2 => o = some lo ∧ H2 = H1) I1 ⟨lo, rfl, rfl, rfl⟩) fun vl s2 ⟨l, H2, I2, pl, el, e2⟩ => ?_)
  subst el e2
  refine thn ((po hi k2 p2).run pins s2 σ H2 (fun o H3 => o = some hi ∧ H3 = H2) I2 ⟨hi, rfl, rfl, rfl⟩) fun vu s3 ⟨u, H3, I3, pu, eu, e3⟩ => ?_
  subst eu e3
  refine thn ((po st k3 p3).run pins s3 σ H3 (fun o H4 => o = some st ∧ H4 = H3) I3 ⟨st, rfl, rfl, rfl⟩) fun vs s4 ⟨o, H4, I4, ps, eo, e4⟩ => ?_
  subst eo e4
  have I5 : Inv X pins σ H4 { s4 with heap := s4.heap.push { cls := .type "slice", data := .fields #[vl, vu, vs] } } := I4.kept (t' := s4.toks) fun b ob q => Heap.get?_push_of_some _ q
  obtain ⟨its, r, ht, hz⟩ := I5.list hx
  have hlen := r.length
  show wpAny (model X.prog X.w) X.A (subscriptTail e (.Slice (some (.Constant (.int lo) k1 p1)) (some (.Constant (.int hi) k2 p2)) (some (.Constant (.int st) k3 p3)) p4) (.ref a) (.ref s4.heap.objs.size)) (EP X pins σ Q) X.xe { s4 with heap := s4.heap.push { cls := .type "slice", data := .fields #[vl, vu, vs] } }
  refine tail_any (ops := [.ref a, .ref s4.heap.objs.size]) ht.isList.typeIs (slot_list_getitem.lookup) ?_ (by with_unfolding_all rfl)
  refine wpAny_getItem_list_slice ht.isList (Heap.IsSliceOf.new _ vl vu vs) pl pu ps (by simpa using h0) ?_ (by rw [List.size_toArray]; omega)
  have ep : slicePick its.toArray (some lo) (some hi) (some st) = (((sliceRange (sliceBounds (some lo) (some hi) (some st) xs.length).1 (sliceBounds (some lo) (some hi) (some st) xs.length).2.1 (sliceBounds (some lo) (some hi) (some st) xs.length).2.2).filterMap (its[·]?))).toArray := by
    unfold slicePick
    rw [List.size_toArray, ← hlen]
    congr 2
    funext i
    exact List.getElem?_toArray
  rw [ep]
  refine ⟨.ref _, _, I5.laid (t' := s4.toks) (o := .lst (pickV xs lo hi st)) (fun b ob q => Heap.get?_push_of_some _ q) (Nat.le_refl _) ?_, rfl, q _ (I5.hok.fresh (Nat.le_refl _))⟩
  exact ⟨hpl, _, 0, vals_pick r _, Heap.get?_push_size _ rfl⟩
theorem pick_eq {xs : List V} {hi : Int} {l : List Nat} (h : hi ≤ (xs.length : Int)) (h0 : 0 ≤ hi) (e : sliceRange 0 hi 2 = l) : pickV xs 0 hi 2 = l.filterMap (xs[·]?) := by
  unfold pickV
  have e1 : (sliceBounds (some 0) (some hi) (some 2) xs.length).1 = 0 := by
    show max (0 : Int) (min (if (0 : Int) < 0 then 0 + (xs.length : Int) else 0) (xs.length : Int)) = 0
    rw [if_neg (by decide)]
    omega
  have e2 : (sliceBounds (some 0) (some hi) (some 2) xs.length).2.1 = hi := by
    show max (0 : Int) (min (if hi < 0 then hi + (xs.length : Int) else hi) (xs.length : Int)) = hi
    rw [if_neg (by omega)]
    omega
  have e3 : (sliceBounds (some 0) (some hi) (some 2) xs.length).2.2 = 2 := rfl
  rw [e1, e2, e3, e]
/-- xs.index(y, k) -/
theorem list_indexAt3 (l : Addr) (items : Array Value) (n : Nat) (dd : Option Addr) (sl : Array (Option Value)) (x : Value) (e : Value → Bool) (i j : Nat) (ti : Tok) (hij : i ≤ j) (hj : j < items.size) (hsmall : (j : Int) < 2 ^ 63 - 1)
    (hit : e items[j] = true) (hno : ∀ m (hm : m < items.size), i ≤ m → m < j → e items[m] = false) :
    Meets (Builtin.«list.index» ⟨[.ref l, x, .int (i : Int) ti], []⟩)
      (fun A R s => s.heap.get? l = some { cls := .type "list", dict := dd, data := .seq items n, slots := sl } ∧ (∀ y, y ∈ items → SeqAt.EqAt A.in1 s y x (e y)) ∧ R (.ok (.ret (.int j s.toks))) { s with toks := s.toks + 1 }) := by
  intro prog w A R s h
  obtain ⟨hp, g, d, tk, os⟩ := s; obtain ⟨hl, he, h⟩ := h
  wp_walk using wpAny_loadPart' hl
  have a1 : ((fun i : Int => if i < 0 then max 0 (i + (items.size : Int)) else i) ((some (i : Int)).getD 0)) = ((i : Nat) : Int) := by
    show (if (i : Int) < 0 then max 0 ((i : Int) + (items.size : Int)) else (i : Int)) = (i : Int)
    rw [if_neg (by omega)]
  have a2 : ((fun i : Int => if i < 0 then max 0 (i + (items.size : Int)) else i) ((none : Option Int).getD (2 ^ 63 - 1))) = 2 ^ 63 - 1 := by simp
  rw [a1, a2]
  exact ⟨plainId_quiet MeetsSeq.plain_index_loop _, codeAny_builtin MeetsSeq.entry_index_loop (by
    rw [Around.under_plainId MeetsSeq.plain_index_loop _]
    exact SeqAt.index_loopAt l items n dd sl x e (2 ^ 63 - 1) j hj hsmall hit _ i rfl hij (fun m hm h1 h2 => hno m hm h1 h2) prog w A R _ ⟨hl, he, h⟩)⟩
def rIndexFrom (K : PySem.W.Frag) : V → List V → Hp → VK → Prop := fun x xs H Q => ∃ (a : Addr) (ys : List V) (y : V) (i j : Nat) (z : V), x = V.ref a ∧ xs = [y, .int (i : Int)] ∧ SqL K H a ys ∧ flatV y = true ∧ ys.all flatV = true ∧ i ≤ j ∧ ys[j]? = some z ∧ eqV z y = true ∧
  (∀ (m : Nat) (z' : V), i ≤ m → m < j → ys[m]? = some z' → eqV z' y = false) ∧ Q (.int (j : Nat)) H
theorem mt_indexFrom : MtR X "list.index" (rIndexFrom X.K) := by
  intro pins s σ H x xs v us Q I rx rxs h
  obtain ⟨a, ys, y, i, j, z, rfl, rfl, hs, fy, fys, hij, hz, hzj, hno, q⟩ := h
  cases rx
  cases rxs with
  | cons ry rt =>
    cases rt with
    | cons ri rt =>
      cases rt
      obtain ⟨ti, rfl⟩ := ri
      rename_i uy
      obtain ⟨its, rv, ⟨⟨cls, dd, data, sl⟩, n, ho, hc, hdn, hd⟩, hlen⟩ := I.list hs
      simp only at hc hd
      subst hc hd
      obtain ⟨u, hu, ru⟩ := rv.get hz
      obtain ⟨hjl, hje⟩ := List.getElem?_eq_some_iff.mp hu
      have hvl := rv.length
      have hj : j < its.toArray.size := by simpa using hjl
      have hsl := sizeLine_eq
      refine call_meets PySem.F.slot_list_index ⟨_, ho, rfl⟩ PySem.F.entry_list_index (PySem.F.args_list_index_3 _ _ _)
        (list_indexAt3 a its.toArray n dd sl uy (eqU y) i j ti hij hj (by omega) ?_ ?_) ⟨ho, fun u' hu' => mem_eqAt ry fy rv fys u' (by simpa using hu'), ?_⟩
      · have e1 : its.toArray[j] = u := by simpa using hje
        rw [e1, eqU_of ru (flat_at fys hz)]
        exact hzj
      · intro m hm hi hmj
        have hml : m < its.length := by simpa using hm
        have hmy : m < ys.length := by omega
        have hy' : ys[m]? = some ys[m] := List.getElem?_eq_getElem hmy
        obtain ⟨u2, hu2, ru2⟩ := rv.get hy'
        obtain ⟨_, hme⟩ := List.getElem?_eq_some_iff.mp hu2
        have e1 : its.toArray[m] = u2 := by simpa using hme
        rw [e1, eqU_of ru2 (flat_at fys hy')]
        exact hno m _ hi hmj hy'
      · exact ⟨.int (j : Nat), H, I.tok _, ⟨_, rfl⟩, q⟩
/-- a text put together, its reading a word -/
def tJ (ts : List TE) : TE := fun σ H Q => tJs ts Str.empty σ H fun out H1 => Q (.str out) H1
theorem pe_joinedJ {v1 v2 : Expr} {rest : List Expr} {ts : List TE} {pos : Pos} (h : PJ X (v1 :: v2 :: rest) ts) : PE X (.JoinedStr (v1 :: v2 :: rest) pos) (tJ ts) := pe_joined h
/-- an expression whose ways are joined by a word -/
def tCutV (te : TE) : TE := fun σ H Q => ∃ R : VK, te σ H R ∧ ∀ x H', R x H' → Q x H'
theorem pe_cutV {e : Expr} {te : TE} (h : PE X e te) : PE X e (tCutV te) :=
  ⟨fun pins s σ H Q I ⟨R, h1, h2⟩ => thn (h.run pins s σ H R I h1) fun v s1 ⟨x, H1, I1, r, q⟩ => ⟨x, H1, I1, r, h2 _ _ q⟩⟩
/-- a method of a built-in type, in a try's body -/
theorem pe_bmK {K : PySem.W.Frag} {T : String} {r : V → List V → Hp → VK → Prop} {to : TE} {t : TA} {e : Expr} (hK : X.K = K) (h : PE X e (tBM X.K T r to t)) : PE X e (tBM K T r to t) := by
  subst hK
  exact h
/-- for i, x in enumerate(xs): .. -/
theorem for_enumL {K : PySem.W.Frag} {l : Addr} {xs : List V} {tg : TG} {bd : TS} {E : Ends} {τ : L2.St} {G : Hp} (Inv : Nat → L2.St → Hp → Prop) (start : Inv 0 τ G) (there : ∀ j σ H, j ≤ xs.length → Inv j σ H → SqL K H l xs) (turn : ∀ j x T σ H, xs[j]? = some x → Inv j σ H → H T = none → tg (.ref T) σ (upd H T (.tup [.int (j : Nat), x])) fun σ2 H2 => bd { E with nx := Inv (j + 1), ct := Inv (j + 1), bk := E.nx } σ2 H2) (behind : ∀ σ H, Inv xs.length σ H → E.nx σ H) : ∃ B : Nat → Nat → L2.St → Hp → Prop, (∃ r, B 0 r τ G) ∧ ∀ j r σ H, B j r σ H → ((Ite K l).stop j H ∧ E.nx σ H) ∨ ((Ite K l).go j H ∧ ∃ N : L2.St → Hp → Prop, (∀ σ' H', N σ' H' → ∃ r', r' < r ∧ B (j + 1) r' σ' H') ∧ ∀ v H', (Ite K l).yld j H v H' → tg v σ H' fun σ2 H2 => bd { E with nx := N, ct := N, bk := E.nx } σ2 H2) := by
  refine ⟨fun j r σ H => r = xs.length - j ∧ j ≤ xs.length ∧ Inv j σ H, ⟨_, rfl, Nat.zero_le _, start⟩, ?_⟩
  rintro j r σ H ⟨rfl, hj, inv⟩
  have hq := there j σ H hj inv
  rcases Nat.lt_or_ge j xs.length with lt | ge
  · refine .inr ⟨⟨xs, xs[j], hq, List.getElem?_eq_getElem lt⟩, Inv (j + 1), fun σ' H' inv' => ⟨xs.length - (j + 1), by omega, rfl, lt, inv'⟩, fun v H' y => ?_⟩
    obtain ⟨T, x, rfl, hT, rfl, hx⟩ := y
    exact turn j x T σ H (hx xs hq) inv hT
  · have e : j = xs.length := by omega
    subst e
    exact .inl ⟨⟨xs, hq, Nat.le_refl _⟩, behind σ H inv⟩
end
end LsX

set_option Elab.async false
set_option linter.all false
set_option maxRecDepth 100000
set_option maxHeartbeats 4000000
/-! A list comprehension whose element may raise by a call. -/
namespace RComp
open PySem PySem.Spec PyProof.Rows L2
section
variable {X : Cx} {pins : List (Addr × Obj)} {σ : L2.St} {H : Hp} {s : Shared}
/-- one more object is said to stay -/
theorem inv_pn {c : Addr × Obj} (I : Inv X pins σ H s) (hc : s.heap.get? c.1 = some c.2 ∧ H c.1 = none ∧ c.1 ≠ X.env.locals ∧ c.1 ∉ X.fs ∧ ∀ v, c.2.data ≠ .cell v) : Inv { X with pn := c :: X.pn } pins σ H s := by
  have o := I.ok
  refine ⟨⟨o.mod, o.kind, o.glob, o.blt, o.above, o.inj, o.has, o.cab, o.hd, o.frames, o.stk, o.exf, o.bs, o.bsz, o.noex, o.exfs, o.funs, o.frf⟩, I.os, I.bare, I.base, I.loc, I.cell, I.free, I.freeC, fun p hp => ?_, I.hok, I.len⟩
  rcases List.mem_append.mp hp with h | h
  · rcases List.mem_cons.mp h with h | h
    · rw [h]
      exact hc
    · exact I.pin p (List.mem_append_left _ h)
  · exact I.pin p (List.mem_append_right _ h)
theorem inv_pn_back {c : Addr × Obj} (I : Inv { X with pn := c :: X.pn } pins σ H s) : Inv X [] σ H s ∧ (s.heap.get? c.1 = some c.2 ∧ H c.1 = none ∧ c.1 ≠ X.env.locals ∧ c.1 ∉ X.fs) := by
  have o := I.ok
  refine ⟨⟨⟨o.mod, o.kind, o.glob, o.blt, o.above, o.inj, o.has, o.cab, o.hd, o.frames, o.stk, o.exf, o.bs, o.bsz, o.noex, o.exfs, o.funs, o.frf⟩, I.os, I.bare, I.base, I.loc, I.cell, I.free, I.freeC, fun p hp => ?_, I.hok, I.len⟩, ?_⟩
  · rw [List.append_nil] at hp
    exact I.pin p (List.mem_append_left _ (List.mem_cons_of_mem _ hp))
  · obtain ⟨h1, h2, h3, h4, _⟩ := I.pin c (List.mem_append_left _ List.mem_cons_self)
    exact ⟨h1, h2, h3, h4⟩
end
section
variable {B h : Heap} {l : List Env} {a C L : Addr} {Z : Obj → Prop}
theorem hide_none {b : Addr} (e : B.get? b = none) : (PySem.W.hideAll B [C]).get? b = none := by
  cases q : (PySem.W.hideAll B [C]).get? b with
  | none => rfl
  | some o =>
    have z := PySem.W.of_hideAll _ q
    rw [e] at z
    cases z
theorem frames_hide (f : h.FunFrames B l) : h.FunFrames (PySem.W.hideAll B [C]) l := funFrames_none f fun b hb => hide_none (f.mem hb).1
theorem traced_hide {v : Value} (t : HandSPX.TracedZ h B a Z v) : HandSPX.TracedZ h (PySem.W.hideAll B [C]) a Z v := by
  obtain ⟨oe, vs, T, oT, ts, he, hz, hd, h1, hn, r⟩ := t
  exact ⟨oe, vs, T, oT, ts, he, hz, hd, h1, hide_none hn, r⟩
theorem sky_hide (x : Sky B l a Z L h) : Sky (PySem.W.hideAll B [C]) l a Z L h := by
  rcases x with ⟨h1, h2, h3, r⟩ | ⟨h1, h2, h3, r⟩ | ⟨h1, h2, h3, r⟩
  · exact .inl ⟨fun b o e => h1 b o (PySem.W.of_hideAll _ e), hide_none h2, frames_hide h3, r⟩
  · exact .inr (.inl ⟨fun b o e => h1 b o (PySem.W.of_hideAll _ e), hide_none h2, frames_hide h3, traced_hide r⟩)
  · exact .inr (.inr ⟨fun b o e => h1 b o (PySem.W.of_hideAll _ e), hide_none h2, frames_hide h3, traced_hide r⟩)
theorem traced_but {h' : Heap} {v : Value} {m : Str → Option Value} (t : HandSPX.TracedZ h B a Z v) (hn : h.Ns C m) (hs : Heap.SameBut C h h') : HandSPX.TracedZ h' B a Z v := by
  obtain ⟨oe, vs, T, oT, ts, he, hz, hd, h1, hn0, hTe, hT, hdT, h3⟩ := t
  obtain ⟨oC, es, ep, hoC, hdC, _⟩ := hn
  have n1 : a ≠ C := fun z => by
    rw [z, hoC] at he
    cases he
    rw [hd] at hdC
    cases hdC
  have n2 : T ≠ C := fun z => by
    rw [z, hoC] at hT
    cases hT
    rw [hdT] at hdC
    cases hdC
  exact ⟨oe, vs, T, oT, ts, (hs.2 a n1).trans he, hz, hd, h1, hn0, hTe, (hs.2 T n2).trans hT, hdT, h3⟩
end
/-- an exception out of a call in the block goes on in the def's own frame -/
theorem flies {X : Cx} {W : WX} {E : XK} {pins : List (Addr × Obj)} {σ : L2.St} {H : Hp} {s s' : Shared} {ce : Env} {u : Value} {m : Str → Option Value}
    (hs : X.stack = X.env :: X.outer) (hf : X.env.frame = some X.env.locals) (hcf : ce.frame = X.env.frame) (tk : Takes X W) (hE : ∀ cls d H', E cls d H' → W cls d σ H') (I : Inv X pins σ H s) (hn : s.heap.Ns ce.locals m) (f : FpOk X pins H ce.locals)
    (c : CX X.prog X.w X.stack H s E u s') : notedBy (model X.prog X.w) X.A ce (CompFails (model X.prog X.w) X.A X.xe ce) u s' := by
  obtain ⟨f1, f2, f3, f4, f5, f6⟩ := f
  obtain ⟨oC, es, ep, hoC, hdC, hnC⟩ := id hn
  have I' := inv_pn (c := (ce.locals, oC)) I ⟨hoC, f1, f2, f3, fun v e => by rw [hdC] at e; cases e⟩
  obtain ⟨a, B, sI, pins2, σ2, H2, cls, d, rfl, I2, nb, up, sky, na, os, ag, w⟩ := XE.of_call I' hE c
  obtain ⟨I3, k1, k2, k3, k4⟩ := inv_pn_back I2
  have nF : ce.locals ∉ frs X.stack := fun z => by
    rw [hs] at z
    rcases List.mem_filterMap.mp z with ⟨e, he, q⟩
    rcases List.mem_cons.mp he with r | r
    · rw [r, hf] at q
      exact f2 (Option.some.inj q).symm
    · exact f3 (List.mem_filterMap.mpr ⟨e, r, q⟩)
  have hBC : B.get? ce.locals = some oC := nb _ _ k1 nF
  -- without the block
  have sky' : Sky (PySem.W.hideAll B [ce.locals]) X.stack a (Zc cls d) X.env.locals s'.heap := sky_hide sky
  have stB : B.StaysIn s'.heap := by
    rcases sky with ⟨h1, _⟩ | ⟨h1, _⟩ | ⟨h1, _⟩ <;> exact h1
  have hn1 : s'.heap.Ns ce.locals m := ⟨oC, es, ep, stB _ _ hBC, hdC, hnC⟩
  have I4 : Inv X [] σ2 H2 { sI with heap := PySem.W.hideAll sI.heap [ce.locals] } := I3.turned (t' := sI.toks) (fun b o ne e => PySem.W.hideAll_get _ e (by simpa using ne)) k2 f2 f4 f5 fun p hp => f6 p (by rw [List.append_nil] at hp; exact List.mem_append_left _ hp)
  have hC0 : (PySem.W.hideAll sI.heap [ce.locals]).get? ce.locals = none := PySem.W.hideAll_none _ List.mem_cons_self
  have hfr : X.A.frames = some (X.env :: X.outer) := by rw [I3.ok.frames, hs]
  rw [hs] at sky'
  -- the raise goes on
  have go : ∀ h1, HandSPX.HeldZ (PySem.W.hideAll B [ce.locals]) (X.env :: X.outer) a (Zc cls d) X.env.locals h1 → s'.heap.UpToSlots h1 → CompFails (model X.prog X.w) X.A X.xe ce (.ref a) { s' with heap := h1 } := fun h1 hh up1 => by
    have hn2 : h1.Ns ce.locals m := hn1.upToSlots up1
    refine ⟨m, hn2, fun h2 m2 hn3 sb => ?_⟩
    obtain ⟨b1, b0, fr1, t1⟩ := hh
    have b2 : (PySem.W.hideAll B [ce.locals]).StaysIn h2 := fun b o e => by
      have ne : b ≠ ce.locals := fun z => by
        rw [z, PySem.W.hideAll_none _ List.mem_cons_self] at e
        cases e
      exact (sb.2 b ne).trans (b1 b o e)
    have hh2 : HandSPX.HeldZ (PySem.W.hideAll B [ce.locals]) (X.env :: X.outer) a (Zc cls d) X.env.locals h2 := ⟨b2, b0, Heap.FunFrames.sameBut sb hn3 fr1, traced_but t1 hn2 sb⟩
    obtain ⟨oe, vs, T, oT, ts, he, hz, hd, h1', r⟩ := id hh2.2.2.2
    unfold PySem.passOn
    refine wpAny_bind (wpAny_field he hd h1' ?_)
    rw [if_neg (show ¬ ((Value.ref T == Value.none) = true) from by simp), hcf, hf]
    refine wpAny_bind (HandSPX.setFlight_onZ hh2 fun h3 hh3 up3 => ?_)
    refine wpAny_throw (tk _ _ ⟨a, PySem.W.hideAll B [ce.locals], _, [], σ2, H2, cls, d, rfl, I4, fun b o e hb => ?_, fun b o e hnf => ?_, .inr (.inr (by rw [hs]; exact hh3)), na, os, ag, w⟩)
    · have ne : b ≠ ce.locals := fun z => by
        have e : (PySem.W.hideAll sI.heap [ce.locals]).get? b = some o := e
        rw [z, hC0] at e
        cases e
      exact PySem.W.hideAll_get _ (nb b o (PySem.W.of_hideAll _ e) hb) (by simpa using ne)
    · have e : (PySem.W.hideAll sI.heap [ce.locals]).get? b = some o := e
      have ne : b ≠ ce.locals := fun z => by
        rw [z, hC0] at e
        cases e
      obtain ⟨sl, q⟩ := up b o (PySem.W.of_hideAll _ e) hnf
      obtain ⟨sl2, q2⟩ := up1 b _ q hnf
      have q3 := (sb.2 b ne).trans q2
      obtain ⟨sl3, q4⟩ := up3 b _ q3 hnf
      exact ⟨sl3, q4⟩
  show wpAny _ _ (noteFrame (.ref a) ce) _ _ s'
  rw [noteFrame_env _ hcf]
  rcases sky' with ⟨hB, hn0, hl, oe, vs, he, hz, hd, h1⟩ | fl | hh
  · exact HandSPX.look_newZ Zc.steady hfr hl hf he hB hn0 hd h1 hz go
  · exact HandSPX.looks_onZ Zc.steady hfr hf fl go
  · exact HandSPX.againZ hf hh.2.2.2 (go s'.heap hh (Heap.UpToSlots.refl _))
/-- tuple(x)'s reading, K said -/
def rTupOf (K : PySem.W.Frag) : List V → Hp → VK → Prop := fun xs H Q => ∃ p ys, xs = [V.ref p] ∧ ((SqL K H p ys ∧ ∀ l, H l = none → Q (V.ref l) (upd H l (.tup ys))) ∨ (SqT K H p ys ∧ Q (V.ref p) H))
/-- the block's context, where a raise goes on -/
abbrev blkR (X : Cx) (s : Shared) (H : Hp) (scope : Scope) (ce : Env) (fp : List Addr) (xe : Value → Shared → Prop) : Cx := { X.blk s H scope ce fp with xe := xe }
theorem inv_xe {X : Cx} {pins : List (Addr × Obj)} {σ : L2.St} {H : Hp} {s : Shared} {xe : Value → Shared → Prop} (I : Inv X pins σ H s) : Inv { X with xe := xe } pins σ H s := by
  have o := I.ok
  exact ⟨⟨o.mod, o.kind, o.glob, o.blt, o.above, o.inj, o.has, o.cab, o.hd, o.frames, o.stk, o.exf, o.bs, o.bsz, o.noex, o.exfs, o.funs, o.frf⟩, I.os, I.bare, I.base, I.loc, I.cell, I.free, I.freeC, I.pin, I.hok, I.len⟩
theorem lcR_run {pins : List (Addr × Obj)} {σ : L2.St} {H : Hp} {s : Shared} {Q : VK} {X : Cx} {W : WX} {E : XK} {elt tg iter : Expr} {ifs : List Expr} {scope : Scope} {own : List (Str × Nat)} {pos : Pos} {wi : TI} {g : TG} {tt : TT} {te : TE}
    (hs : X.stack = X.env :: X.outer) (hf : X.env.frame = some X.env.locals) (tk : Takes X W) (hE : ∀ cls d H', E cls d H' → W cls d σ H') (hc : X.calm = true) (hN : X.N.Nodup) (hi : PI X tg iter wi) (ok : BlkOk X.N X.env.scope scope own)
    (hg : ∀ (s : Shared) (H : Hp) (C : Addr) (cl : List (Str × Addr)) (fp : List Addr) (xe : Value → Shared → Prop), PG (blkR X s H scope (compEnvC scope cl C X.env) fp xe) tg g)
    (ht : ∀ (s : Shared) (H : Hp) (C : Addr) (cl : List (Str × Addr)) (fp : List Addr) (xe : Value → Shared → Prop), PTs (blkR X s H scope (compEnvC scope cl C X.env) fp xe) ifs tt)
    (he : ∀ (s : Shared) (H : Hp) (C : Addr) (cl : List (Str × Addr)) (fp : List Addr) (xe : Value → Shared → Prop), Passes (L2.CX X.prog X.w) (blkR X s H scope (compEnvC scope cl C X.env) fp xe) E → PE (blkR X s H scope (compEnvC scope cl C X.env) fp xe) elt te)
    (hfo : ∀ x, foldedSetIterable iter X.env x = pure x)
    (I : Inv X pins σ H s) (h : tLc wi g tt te (own.map (·.2)) σ H Q) : wpAny (model X.prog X.w) X.A (eval (.ListComp elt [⟨tg, iter, ifs, 0⟩] scope pos) X.env) (EP X pins σ Q) X.xe s := by
  rw [eval_ListComp]
  have hfree : ∀ y ∈ scope.names, y.2 = .free → ∃ c, X.env.cells.lookup y.1 = some c := fun y hy e => (ok.free y hy e).elim (fun k => I.ok.has _ (.inl k)) fun k => I.ok.has _ (.inr k)
  refine comprehension_at (use := none) rfl hfo (closure_ok hfree) ok.kind (fun y hy e => by rw [ok.uniq y hy, e]) (thn (hi.run pins s σ H _ I h) fun xv s1 hx => thn hx fun itv s2 h2 => ?_)
  obtain ⟨it, fp, tn, J, H2, rfl, I2, T, st2, f2, q⟩ := h2
  refine wpAny_newObj_type (newEnv_comp ?_) (by show 0 ≤ sizeLine; decide)
  have hDn : H2 s2.heap.objs.size = none := I2.hok.fresh (Nat.le_refl _)
  obtain ⟨V, ⟨m0, w0⟩, turn⟩ := q _ hDn
  generalize hD : s2.heap.objs.size = D at *
  let s3 : Shared := { s2 with heap := s2.heap.push { cls := .type "list", data := .seq ([] : List Value).toArray } }
  let H3 : Hp := upd H2 D (.lst [])
  have I3 : Inv X pins σ H3 s3 := I2.laid (t' := s2.toks) (fun b o e => Heap.get?_push_of_some _ e) (Nat.le_of_eq hD) ⟨Nat.zero_le _, [], 0, .nil, by rw [← hD]; exact Heap.get?_push_size _ rfl⟩
  have sz : ∀ b ∈ fp, b < s2.heap.objs.size := fun b hb => by
    obtain ⟨o, e, _⟩ := T.obj _ _ st2 b hb
    exact Heap.lt_size e
  have f3 : ∀ b ∈ fp, FpOk X pins H3 b ∧ b < s3.heap.objs.size := fun b hb => by
    have lt := sz b hb
    refine ⟨⟨?_, (f2 b hb).2⟩, by show b < (s2.heap.push _).objs.size; rw [Heap.size_push]; exact Nat.lt_succ_of_lt lt⟩
    show upd H2 D _ b = none
    rw [upd_ne (by rw [← hD]; exact Nat.ne_of_lt lt)]
    exact (f2 b hb).1
  let ce : Env := compEnvC scope (cellsFrom (s3.heap.objs.size + 1) scope.names (cloFrom X.env.cells scope.names [])) s3.heap.objs.size X.env
  let Y : Cx := blkR X s3 H3 scope ce fp (notedBy (model X.prog X.w) X.A ce (CompFails (model X.prog X.w) X.A X.xe ce))
  have back : ∀ {pins' : List (Addr × Obj)} {σ' : L2.St} {H' : Hp} {s' : Shared}, Inv Y pins' σ' H' s' → Inv X pins σ H' s' ∧ (∃ m, s'.heap.Ns ce.locals m) ∧ FpOk X pins H' ce.locals := fun {pins' σ' H' s'} I6 => by
    refine ⟨I3.call' (ch := fp) I6.os I6.base I6.hok I6.bare fun b hb => ⟨(f3 b hb).1.2.2.2.1, (f3 b hb).1.2.1, (f3 b hb).1.2.2.2.2.1, (f3 b hb).1.2.2.2.2.2⟩, ?_, I3.fpOk (Nat.le_refl _) I6.free⟩
    obtain ⟨m, hn, _⟩ := I6.loc
    exact ⟨m, hn⟩
  have pass : Passes (L2.CX X.prog X.w) Y E := fun pins' σ' H' s' e s'' I6 c => by
    obtain ⟨I7, ⟨m, hn⟩, fo⟩ := back I6
    exact flies hs hf rfl tk hE I7 hn fo c
  let s4 : Shared := { s3 with heap := pushCells (s3.heap.push { cls := .type "dict", data := .dict #[] }) scope.names }
  have I4 : Inv Y [] (wipe σ (own.map (·.2))) H3 s4 := inv_xe (block_start I3 ok hN f3)
  have st3 : tn 0 s3.heap := T.keep _ _ _ st2 fun b _ o e => Heap.get?_push_of_some _ e
  have st4 : tn 0 s4.heap := T.keep _ _ _ st3 fun b _ o e => pushCells_keeps _ _ _ _ (Heap.get?_push_of_some _ e)
  have stat : ∀ {σ' : L2.St} {H' : Hp} {s' : Shared}, Inv Y [] σ' H' s' → (∀ b ∈ fp, H' b = none) → ∀ b ∈ fp, FpOk Y [] H' b := fun I' hn b hb => ⟨hn b hb, (I'.ok.exf b hb).1, I'.ok.exfs b hb, .inl hb, fun x c e => (I'.ok.exf b hb).2 x c e, fun p hp => nomatch (show p ∈ ([] : List (Addr × Obj)) from hp)⟩
  have pg : PG Y tg g := hg _ _ _ _ _ _
  have pt : PTs Y ifs tt := ht _ _ _ _ _ _
  have pe : PE Y elt te := he _ _ _ _ _ _ pass
  have loop : codeAny (model X.prog X.w) X.A (.compLoop (.ListComp elt [⟨tg, iter, ifs, 0⟩] scope pos) 0 (.ref it) (.ref D) ce) (compEnds (model X.prog X.w) X.A X.xe none (EP X pins σ Q) (.ref D) ce) s4 := by
    refine compLoop_any (fun n s' => ∃ i H', Inv Y [] (wipe σ (own.map (·.2))) H' s' ∧ tn i s'.heap ∧ (∀ b ∈ fp, H' b = none) ∧ V i n H') (fun n s5 ⟨i, H5, I5, st5, n5, w5⟩ => ?_) m0 ⟨0, H3, I4, st4, fun b hb => (f3 b hb).1.1, w0⟩
    rcases turn i n H5 w5 with ⟨stop, qq⟩ | ⟨go, Nx, hNx, step⟩
    · refine thnF (T.done Y rfl rfl rfl hc i [] s5 _ H5 (fun _ _ => False) I5 (stat I5 n5) st5 stop) fun r s6 ⟨hr, I6⟩ => ?_
      subst hr
      obtain ⟨I7, ⟨m, hn⟩, p0, p1, p2, p3, p4, p5⟩ := back I6
      exact ⟨m, hn, fun h'' sb => ⟨.ref D, H5, I7.turned (t' := s6.toks) (fun b o hb e => (sb.2 b hb).trans e) p0 p1 p3 p4 p5, rfl, qq⟩⟩
    · refine thnF (T.item Y rfl rfl rfl hc i [] s5 _ H5 (fun _ _ => False) I5 (stat I5 n5) st5 go) fun r s6 ⟨u, hr, h6⟩ => ?_
      subst hr
      refine thnF h6 fun _ s7 ⟨x, H7, I7, r7, y7, st7, n7⟩ => ?_
      have P7 := I7.pinned (stat I7 n7) (T.obj _ _ st7)
      refine thn (pg.run _ s7 _ H7 x u _ P7 r7 (step x H7 y7)) fun _ s8 ⟨σ8, H8, I8, hw, q8⟩ => ?_
      refine thn (pt.run _ s8 σ8 H8 _ I8 q8) fun b s9 ⟨H9, I9, q9⟩ => ?_
      have next : ∀ {s' : Shared} {H' : Hp}, Inv Y ([] ++ pinsAt fp s7.heap) σ8 H' s' → Nx H' → ∃ m, m < n ∧ ∃ i H', Inv Y [] (wipe σ (own.map (·.2))) H' s' ∧ tn i s'.heap ∧ (∀ b ∈ fp, H' b = none) ∧ V i m H' := fun {s' H'} J nx => by
        obtain ⟨m', hm, v'⟩ := hNx H' nx
        have at_ : ∀ b ∈ fp, ∀ o, s7.heap.get? b = some o → s'.heap.get? b = some o ∧ H' b = none := fun b hb o e => by
          obtain ⟨k1, k2, _⟩ := J.pin (b, o) (List.mem_append_right _ (List.mem_append_right _ (mem_pinsAt hb e)))
          exact ⟨k1, k2⟩
        refine ⟨m', hm, i + 1, H', (J.unpinned (pins := [])).weak (by rw [← hw, wipe_length]) (fun j v e => ?_), T.keep _ _ _ st7 fun b hb o e => (at_ b hb o e).1, fun b hb => ?_, v'⟩
        · rw [← hw] at e
          exact (wipe_some e).1
        · obtain ⟨o, e, _⟩ := T.obj _ _ st7 b hb
          exact (at_ b hb o e).2
      cases b with
      | false => exact next I9 q9
      | true =>
        refine thn (pe.run _ s9 σ8 H9 _ I9 q9) fun z s10 ⟨y, H10, I10, r10, acc, hD10, hz10, nx⟩ => ?_
        exact app_ok (X := Y) I10 hD10 hz10 r10 fun s11 I11 => next I11 nx
  exact codeAny_compStart_list loop (T.self X.A 0 _ _ _ st4 loop)
theorem pe_lcR {X : Cx} {W : WX} {E : XK} {elt tg iter : Expr} {ifs : List Expr} {scope : Scope} {own : List (Str × Nat)} {pos : Pos} {wi : TI} {g : TG} {tt : TT} {te : TE}
    (hs : X.stack = X.env :: X.outer) (hf : X.env.frame = some X.env.locals) (tk : Takes X W) (hE : ∀ σ cls d H', E cls d H' → W cls d σ H') (hc : X.calm = true) (hN : X.N.Nodup) (hi : PI X tg iter wi) (ok : BlkOk X.N X.env.scope scope own)
    (hg : ∀ (s : Shared) (H : Hp) (C : Addr) (cl : List (Str × Addr)) (fp : List Addr) (xe : Value → Shared → Prop), PG (blkR X s H scope (compEnvC scope cl C X.env) fp xe) tg g)
    (ht : ∀ (s : Shared) (H : Hp) (C : Addr) (cl : List (Str × Addr)) (fp : List Addr) (xe : Value → Shared → Prop), PTs (blkR X s H scope (compEnvC scope cl C X.env) fp xe) ifs tt)
    (he : ∀ (s : Shared) (H : Hp) (C : Addr) (cl : List (Str × Addr)) (fp : List Addr) (xe : Value → Shared → Prop), Passes (L2.CX X.prog X.w) (blkR X s H scope (compEnvC scope cl C X.env) fp xe) E → PE (blkR X s H scope (compEnvC scope cl C X.env) fp xe) elt te)
    (hfo : ∀ x, foldedSetIterable iter X.env x = pure x := by intro _; rfl) :
    PE X (.ListComp elt [⟨tg, iter, ifs, 0⟩] scope pos) (tLc wi g tt te (own.map (·.2))) := ⟨fun pins s σ H Q I h => lcR_run hs hf tk (hE σ) hc hN hi ok hg ht he hfo I h⟩
/-- the same where what a raise is to meet hangs on the slots (within a try) -/
theorem pe_lcRS {X : Cx} {W : WX} {elt tg iter : Expr} {ifs : List Expr} {scope : Scope} {own : List (Str × Nat)} {pos : Pos} {wi : TI} {g : TG} {tt : TT} {te : XK → TE}
    (hs : X.stack = X.env :: X.outer) (hf : X.env.frame = some X.env.locals) (tk : Takes X W) (hc : X.calm = true) (hN : X.N.Nodup) (hi : PI X tg iter wi) (ok : BlkOk X.N X.env.scope scope own)
    (hg : ∀ (s : Shared) (H : Hp) (C : Addr) (cl : List (Str × Addr)) (fp : List Addr) (xe : Value → Shared → Prop), PG (blkR X s H scope (compEnvC scope cl C X.env) fp xe) tg g)
    (ht : ∀ (s : Shared) (H : Hp) (C : Addr) (cl : List (Str × Addr)) (fp : List Addr) (xe : Value → Shared → Prop), PTs (blkR X s H scope (compEnvC scope cl C X.env) fp xe) ifs tt)
    (he : ∀ (E : XK) (s : Shared) (H : Hp) (C : Addr) (cl : List (Str × Addr)) (fp : List Addr) (xe : Value → Shared → Prop), Passes (L2.CX X.prog X.w) (blkR X s H scope (compEnvC scope cl C X.env) fp xe) E → PE (blkR X s H scope (compEnvC scope cl C X.env) fp xe) elt (te E))
    (hfo : ∀ x, foldedSetIterable iter X.env x = pure x := by intro _; rfl) :
    PE X (.ListComp elt [⟨tg, iter, ifs, 0⟩] scope pos) (fun σ H Q => tLc wi g tt (te (WE W σ)) (own.map (·.2)) σ H Q) := ⟨fun pins s σ H Q I h => lcR_run hs hf tk (fun _ _ _ h => h) hc hN hi ok hg ht (he _) hfo I h⟩
end RComp

set_option Elab.async false
set_option linter.all false
set_option maxRecDepth 100000
set_option maxHeartbeats 4000000
/-! max(x, default=d), x a tuple of integers. -/
namespace MaxD
open PySem PySem.W PySem.Spec PyProof.Rows L2
theorem u1 {A : Around} {k : Nat} (hr : Room k A) : A.units + 1 < cLine := by have := hr.un; omega
section
variable {X : Cx}
def rMaxDef (K : PySem.W.Frag) : List V → List V → Hp → VK → Prop := fun xs zs H Q => ∃ (a : Addr) (ns : List Int) (i : Int), xs = [V.ref a] ∧ zs = [V.int i] ∧ SqT K H a (ns.map V.int) ∧ (ns = [] → Q (.int i) H) ∧ ∀ n r, ns = n :: r → Q (.int (r.foldl max n)) H
theorem dp_ints {K : PySem.W.Frag} {H : Hp} : ∀ ns : List Int, DpAll K H (ns.map V.int) (ns.map PyData.int)
  | [] => .nil
  | n :: r => .cons (.int n) (dp_ints r)
theorem depth_intsM : ∀ ns : List Int, PyData.depthAll (ns.map PyData.int) = 0
  | [] => rfl
  | n :: r => by
    rw [List.map_cons, PyData.depthAll, depth_intsM r]
    rfl
theorem call_maxDef (hc : X.calm = true) (hu : X.A.units + 1 < cLine) : CallRK X (.builtin "max") [(Str.ofString "default")] (rMaxDef X.K) := by
  intro pins s σ H xs zs us ws Q I rx rz h
  obtain ⟨a, ns, i, rfl, rfl, hq, q0, q1⟩ := h
  rw [Vals.ref1 rx]
  cases rz with
  | cons rw0 rt =>
    rename_i uw ut
    cases rt
    obtain ⟨its, rv, hl, _⟩ := I.tuple hq
    obtain ⟨as, hr⟩ := Dp.readsAll I (ns.map PyData.int) _ its (dp_ints ns) rv
    have hal : AlikeAll (ns.map PyData.int) := by
      refine ⟨fun x hx y hy => ?_, fun x hx => ?_⟩
      · obtain ⟨m, _, rfl⟩ := List.mem_map.mp hx
        obtain ⟨k, _, rfl⟩ := List.mem_map.mp hy
        simp [alike]
      · obtain ⟨m, _, rfl⟩ := List.mem_map.mp hx
        exact fun z => nomatch z
    refine max_tuple_default (vs := its.toArray) (I.ok.hd hc) hl hr hal (by rw [depth_intsM]; exact hu) (fun e h' tk k => ?_) fun y ys j v h' tk bs e hv r k => ?_
    · exact ⟨.int i, H, I.kept (t' := tk) k, rw0, q0 (List.map_eq_nil_iff.mp e)⟩
    · cases ns with
      | nil => cases e
      | cons n r' =>
        obtain ⟨rfl, rfl⟩ := List.cons.inj (show PyData.int n :: r'.map PyData.int = y :: ys from e)
        rw [maxD_ints] at r
        refine ⟨.int (r'.foldl max n), H, I.kept (t' := tk) k, ?_, q1 n r' rfl⟩
        cases r
        exact ⟨_, rfl⟩
end
end MaxD

set_option Elab.async false
set_option linter.all false
set_option maxRecDepth 100000
set_option maxHeartbeats 1000000
/-! zip of a tuple and a list: each side is a Draws of its own. -/
namespace ZipM
open PySem PySem.Spec PyProof.Rows L2 RZ
section
variable {Pr : Program} {w : World} {A : Around}
theorem drawT (hh : A.handled = none) {it l : Addr} (hne : l ≠ it) (us : Array Value) :
    Draws Pr w A it [it, l] us.size (fun j v => us[j]? = some v) (fun j h => h.IsTupleIter it l j ∧ h.IsTuple l us) :=
  ⟨fun _ _ st => ⟨st.1.choose, st.1.choose_spec.1⟩, fun _ _ _ st k => ⟨st.1.at fun o e => k it (by simp) o e, st.2.at fun o e => k l (by simp) o e⟩,
    fun j s Q E hj st hQ => nextOf_tuple_item st.1 st.2 (x := us[j]) (by simp [hj]) fun h' a b => hQ _ h' s.toks (by simp [hj]) ⟨a, st.2.extBut b.extBut hne⟩ b,
    fun s Q E st hE => nextOf_tuple_end hh st.1 st.2 (by simp) hE⟩
variable {E : Value → Shared → Prop} {s : Shared} {z TI TO i1 i2 l1 l2 : Addr} {j n1 n2 : Nat} {P1 P2 : Nat → Value → Prop} {S1 S2 : Nat → Heap → Prop} {u v : Value}
theorem two {p q : Addr} {h h' : Heap} {S : Nat → Heap → Prop} {n : Nat} {P : Nat → Value → Prop} {it l : Addr} (D : Draws Pr w A it [it, l] n P S) {k : Nat} (st : S k h) (f1 : ∀ o, h.get? it = some o → h'.get? it = some o) (f2 : ∀ o, h.get? l = some o → h'.get? l = some o) : S k h' :=
  D.frame k h h' st fun c hc o e => by
    rcases (by simpa using hc : c = it ∨ c = l) with rfl | rfl
    · exact f1 o e
    · exact f2 o e
theorem item0 {Q : Value → Shared → Prop} (D : ZipApart z TI TO i1 i2 l1 l2) (D1 : Draws Pr w A i1 [i1, l1] n1 P1 S1) (D2 : Draws Pr w A i2 [i2, l2] n2 P2 S2)
    (hz : IsZip s.heap z TI TO .none) (hI : IsPair s.heap TI (.ref i1) (.ref i2)) (hO : IsPair s.heap TO u v) (h1 : S1 j s.heap) (h2 : S2 j s.heap) (hj : j < n1) (hj2 : j < n2)
    (hQ : ∀ x y h' tk, P1 j x → P2 j y → IsZip h' z TI TO (rawInt s.heap.objs.size) → IsPair h' TO x y → S1 (j + 1) h' → S2 (j + 1) h' → IsPair h' s.heap.objs.size x y → h'.objs.size = s.heap.objs.size + 1 →
      (∀ c o, c ≠ z → c ≠ TO → c ≠ i1 → c ≠ i2 → s.heap.get? c = some o → h'.get? c = some o) → Q (.ref s.heap.objs.size) { s with heap := h', toks := tk }) :
    wpAny (model Pr w) A (Builtin.«zip.__next__» ⟨[.ref z], []⟩) (fun fin s' => ∃ v, fin = .done (.ret v) ∧ Q v s') E s := by
  obtain ⟨hp, g, dd, t0, os⟩ := s
  show wpAny _ _ (field (Value.ref z) 2 >>= _) _ _ _; refine wpAny_bind (wpAny_field hz rfl (x := Value.bool false) rfl ?_)
  show wpAny _ _ (field (Value.ref z) 3 >>= _) _ _ _; refine wpAny_bind (wpAny_field hz rfl (x := Value.ref TI) rfl ?_)
  refine wpAny_bind (wpAny_seqItems hI rfl ?_); show wpAny _ _ (Builtin.SmallTypes.ownedTupleIsFree (Value.ref z) >>= _) _ _ _
  refine wpAny_bind ?_; unfold Builtin.SmallTypes.ownedTupleIsFree
  refine wpAny_bind (wpAny_field hz rfl (x := Value.none) rfl (wpAny_pure ?_)); simp only [if_true]
  refine wpAny_bind (wpAny_rule ?_); refine wpAny_bind (wpAny_field hz rfl (x := Value.ref TO) rfl ?_)
  refine wpAny_bind (wpAny_setField_rec hz (by simp) fun ha za sa => ?_)
  replace za : IsZip ha z TI TO .ellipsis := za
  replace sa : Heap.SameBut z hp ha := sa
  refine wpAny_bind ?_; simp only [List.zipIdx_cons, List.zipIdx_nil, List.forIn_cons, List.forIn_nil]
  refine wpAny_bind (wpAny_bind (wpAny_onRaise ?_)); show wpAny _ _ (Builtin.SmallTypes.nextOf (Value.ref i1) >>= _) _ _ _
  have ka : ∀ c o, c ≠ z → hp.get? c = some o → ha.get? c = some o := fun c o n e => sa.extBut _ _ n e
  refine wpAny_bind (D1.item j _ _ _ hj (two (p := z) (q := z) D1 h1 (fun o e => ka _ o D.i1z e) fun o e => ka _ o D.l1z e) fun x hb tb px s1b sb => wpAny_pure ?_)
  replace sb : Heap.SameBut i1 ha hb := sb
  have kb : ∀ c o, c ≠ i1 → ha.get? c = some o → hb.get? c = some o := fun c o n e => sb.extBut _ _ n e
  have hOb : IsPair hb TO u v := kb _ _ D.TOi1 (ka _ _ D.TOz hO)
  refine wpAny_bind (wpAny_seqItems hOb rfl ?_); refine wpAny_bind (wpAny_updateSeq_pair hOb fun hc Oc sc => ?_)
  replace Oc : IsPair hc TO x v := Oc
  replace sc : Heap.SameBut TO hb hc := sc
  have kc : ∀ c o, c ≠ TO → hb.get? c = some o → hc.get? c = some o := fun c o n e => sc.extBut _ _ n e
  refine wpAny_bind (wpAny_letGo (wpAny_pure ?_)); refine wpAny_bind (wpAny_bind (wpAny_onRaise ?_))
  show wpAny _ _ (Builtin.SmallTypes.nextOf (Value.ref i2) >>= _) _ _ _
  refine wpAny_bind (D2.item j _ _ _ hj2 (two (p := z) (q := z) D2 h2 (fun o e => kc _ o D.TOi2.symm (kb _ o D.i12.symm (ka _ o D.i2z e))) fun o e => kc _ o D.l2TO (kb _ o D.l2i1 (ka _ o D.l2z e))) fun y hd td py s2d sd => wpAny_pure ?_)
  replace sd : Heap.SameBut i2 hc hd := sd
  have kd : ∀ c o, c ≠ i2 → hc.get? c = some o → hd.get? c = some o := fun c o n e => sd.extBut _ _ n e
  have hOd : IsPair hd TO x v := kd _ _ D.TOi2 Oc
  refine wpAny_bind (wpAny_seqItems hOd rfl ?_); refine wpAny_bind (wpAny_updateSeq_pair hOd fun he Oe se => ?_)
  replace Oe : IsPair he TO x y := Oe
  replace se : Heap.SameBut TO hd he := se
  have ke : ∀ c o, c ≠ TO → hd.get? c = some o → he.get? c = some o := fun c o n e => se.extBut _ _ n e
  refine wpAny_bind (wpAny_letGo (wpAny_pure (wpAny_pure ?_))); refine wpAny_bind (wpAny_seqItems Oe rfl ?_); refine wpAny_bind (wpAny_newTuple ?_)
  have sz : he.objs.size = hp.objs.size := by rw [se.1, sd.1, sc.1, sb.1, sa.1]
  have ze : IsZip he z TI TO .ellipsis := ke _ _ D.TOz.symm (kd _ _ D.i2z.symm (kc _ _ D.TOz.symm (kb _ _ D.i1z.symm za)))
  have kk : ∀ c o, c ≠ z → c ≠ TO → c ≠ i1 → c ≠ i2 → hp.get? c = some o → he.get? c = some o := fun c o n1 n2 n3 n4 e => ke _ _ n2 (kd _ _ n4 (kc _ _ n2 (kb _ _ n3 (ka _ _ n1 e))))
  have s1e : S1 (j + 1) he := two (p := z) (q := z) D1 s1b (fun o e => ke _ o D.TOi1.symm (kd _ o D.i12 (kc _ o D.TOi1.symm e))) fun o e => ke _ o D.l1TO (kd _ o D.l1i2 (kc _ o D.l1TO e))
  have s2e : S2 (j + 1) he := two (p := z) (q := z) D2 s2d (fun o e => ke _ o D.TOi2.symm e) fun o e => ke _ o D.l2TO e
  have zl : z < he.objs.size := Heap.lt_size ze
  show wpAny _ _ (Builtin.SmallTypes.ownedTupleHandOut (Value.ref z) (.ref he.objs.size) >>= _) _ _ _
  refine wpAny_bind ?_; unfold Builtin.SmallTypes.ownedTupleHandOut
  have zf : IsZip (he.push { cls := .type "tuple", data := .seq #[x, y] }) z TI TO .ellipsis := Heap.get?_push_of_some _ ze
  refine wpAny_bind (wpAny_setField_rec zf (by simp) fun hg zg sg => ?_)
  replace zg : IsZip hg z TI TO (rawInt he.objs.size) := zg
  replace sg : Heap.SameBut z (he.push { cls := .type "tuple", data := .seq #[x, y] }) hg := sg
  refine wpAny_setField_rec zg (by simp) fun hi zi si => ?_
  replace zi : IsZip hi z TI TO (rawInt he.objs.size) := zi
  replace si : Heap.SameBut z hg hi := si
  have up : ∀ c o, c ≠ z → he.get? c = some o → hi.get? c = some o := fun c o n e => si.extBut _ _ n (sg.extBut _ _ n (Heap.get?_push_of_some _ e))
  have Ti : IsPair hi he.objs.size x y := si.extBut _ _ (Nat.ne_of_gt zl) (sg.extBut _ _ (Nat.ne_of_gt zl) (Heap.get?_push_size _ rfl))
  have sz2 : hi.objs.size = he.objs.size + 1 := by rw [si.1, sg.1, Heap.size_push]
  rw [sz] at zi Ti sz2
  refine wpAny_pure ⟨_, rfl, ?_⟩
  show Q (.ref he.objs.size) _
  rw [sz]
  exact hQ x y hi _ px py zi (up _ _ D.TOz Oe) (two (p := z) (q := z) D1 s1e (fun o e => up _ o D.i1z e) fun o e => up _ o D.l1z e) (two (p := z) (q := z) D2 s2e (fun o e => up _ o D.i2z e) fun o e => up _ o D.l2z e) Ti sz2 fun c o n1 n2 n3 n4 e => up c o n1 (kk c o n1 n2 n3 n4 e)
theorem end0 {Q : Fin → Shared → Prop} (D : ZipApart z TI TO i1 i2 l1 l2) (D1 : Draws Pr w A i1 [i1, l1] n1 P1 S1) (D2 : Draws Pr w A i2 [i2, l2] n2 P2 S2)
    (hz : IsZip s.heap z TI TO .none) (hI : IsPair s.heap TI (.ref i1) (.ref i2)) (hO : IsPair s.heap TO u v) (h1 : S1 j s.heap) (h2 : S2 j s.heap) (hj : j = n1 ∨ j < n1 ∧ j = n2)
    (hE : ∀ h' e tk, (∀ c o, c ≠ z → c ≠ TO → c ≠ i1 → c ≠ i2 → s.heap.get? c = some o → h'.get? c = some o) → (∃ o, h'.get? e = some o ∧ o.cls = .type "StopIteration") → E (.ref e) { s with heap := h', toks := tk }) :
    wpAny (model Pr w) A (Builtin.«zip.__next__» ⟨[.ref z], []⟩) Q E s := by
  obtain ⟨hp, g, dd, t0, os⟩ := s
  show wpAny _ _ (field (Value.ref z) 2 >>= _) _ _ _; refine wpAny_bind (wpAny_field hz rfl (x := Value.bool false) rfl ?_)
  show wpAny _ _ (field (Value.ref z) 3 >>= _) _ _ _; refine wpAny_bind (wpAny_field hz rfl (x := Value.ref TI) rfl ?_)
  refine wpAny_bind (wpAny_seqItems hI rfl ?_); show wpAny _ _ (Builtin.SmallTypes.ownedTupleIsFree (Value.ref z) >>= _) _ _ _
  refine wpAny_bind ?_; unfold Builtin.SmallTypes.ownedTupleIsFree
  refine wpAny_bind (wpAny_field hz rfl (x := Value.none) rfl (wpAny_pure ?_)); simp only [if_true]
  refine wpAny_bind (wpAny_rule ?_); refine wpAny_bind (wpAny_field hz rfl (x := Value.ref TO) rfl ?_)
  refine wpAny_bind (wpAny_setField_rec hz (by simp) fun ha za sa => ?_)
  replace za : IsZip ha z TI TO .ellipsis := za
  replace sa : Heap.SameBut z hp ha := sa
  refine wpAny_bind ?_; simp only [List.zipIdx_cons, List.zipIdx_nil, List.forIn_cons, List.forIn_nil]
  refine wpAny_bind (wpAny_bind (wpAny_onRaise ?_)); show wpAny _ _ (Builtin.SmallTypes.nextOf (Value.ref i1) >>= _) _ _ _
  have ka : ∀ c o, c ≠ z → hp.get? c = some o → ha.get? c = some o := fun c o n e => sa.extBut _ _ n e
  have s1a : S1 j ha := two (p := z) (q := z) D1 h1 (fun o e => ka _ o D.i1z e) fun o e => ka _ o D.l1z e
  rcases hj with rfl | ⟨hj, rfl⟩
  · refine wpAny_bind (D1.done _ _ _ s1a fun hb e sb he => ?_)
    obtain ⟨oe, hoe, ce⟩ := he
    have kb : ∀ c o, c ≠ i1 → ha.get? c = some o → hb.get? c = some o := fun c o n e => sb _ _ n e
    have zb : IsZip hb z TI TO .ellipsis := kb _ _ D.i1z.symm za
    have ez : e ≠ z := fun q => by subst q; rw [zb] at hoe; cases hoe; simp at ce
    exact wpAny_setField_rec zb (by simp) fun hc _ sc => hE hc e _ (fun c o n1 _ n3 _ x => sc.extBut _ _ n1 (kb _ _ n3 (ka _ _ n1 x))) ⟨oe, sc.extBut _ _ ez hoe, ce⟩
  · refine wpAny_bind (D1.item j _ _ _ hj s1a fun x hb tb px s1b sb => wpAny_pure ?_)
    replace sb : Heap.SameBut i1 ha hb := sb
    have kb : ∀ c o, c ≠ i1 → ha.get? c = some o → hb.get? c = some o := fun c o n e => sb.extBut _ _ n e
    have hOb : IsPair hb TO u v := kb _ _ D.TOi1 (ka _ _ D.TOz hO)
    refine wpAny_bind (wpAny_seqItems hOb rfl ?_); refine wpAny_bind (wpAny_updateSeq_pair hOb fun hc Oc sc => ?_)
    replace sc : Heap.SameBut TO hb hc := sc
    have kc : ∀ c o, c ≠ TO → hb.get? c = some o → hc.get? c = some o := fun c o n e => sc.extBut _ _ n e
    refine wpAny_bind (wpAny_letGo (wpAny_pure ?_)); refine wpAny_bind (wpAny_bind (wpAny_onRaise ?_))
    show wpAny _ _ (Builtin.SmallTypes.nextOf (Value.ref i2) >>= _) _ _ _
    refine wpAny_bind (D2.done _ _ _ (two (p := z) (q := z) D2 h2 (fun o e => kc _ o D.TOi2.symm (kb _ o D.i12.symm (ka _ o D.i2z e))) fun o e => kc _ o D.l2TO (kb _ o D.l2i1 (ka _ o D.l2z e))) fun hd e sd he => ?_)
    obtain ⟨oe, hoe, ce⟩ := he
    have kd : ∀ c o, c ≠ i2 → hc.get? c = some o → hd.get? c = some o := fun c o n e => sd _ _ n e
    have zd : IsZip hd z TI TO .ellipsis := kd _ _ D.i2z.symm (kc _ _ D.TOz.symm (kb _ _ D.i1z.symm za))
    have ez : e ≠ z := fun q => by subst q; rw [zd] at hoe; cases hoe; simp at ce
    exact wpAny_setField_rec zd (by simp) fun hf _ sf => hE hf e _ (fun c o n1 n2 n3 n4 x => sf.extBut _ _ n1 (kd _ _ n4 (kc _ _ n2 (kb _ _ n3 (ka _ _ n1 x))))) ⟨oe, sf.extBut _ _ ez hoe, ce⟩
end
section
variable {Pr : Program} {w : World} {A : Around} {E : Value → Shared → Prop} {s : Shared} {z TI TO i1 i2 l1 l2 : Addr} {j : Nat} {us vs : Array Value} {u v : Value}
theorem nextM {Q : Option Value → Shared → Prop} (hh : A.handled = none) (D : ZipApart z TI TO i1 i2 l1 l2) (hz : IsZip s.heap z TI TO .none) (hI : IsPair s.heap TI (.ref i1) (.ref i2)) (hO : IsPair s.heap TO u v)
    (h1 : s.heap.IsTupleIter i1 l1 j) (h2 : s.heap.IsListIter i2 l2 j) (g1 : s.heap.IsTuple l1 us) (g2 : s.heap.IsList l2 vs) (hj : j < us.size) (hj2 : j < vs.size)
    (hQ : ∀ x y h' tk, us[j]? = some x → vs[j]? = some y → IsZip h' z TI TO (rawInt s.heap.objs.size) → IsPair h' TO x y → h'.IsTupleIter i1 l1 (j + 1) → h'.IsListIter i2 l2 (j + 1) → IsPair h' s.heap.objs.size x y → h'.objs.size = s.heap.objs.size + 1 →
      (∀ c o, c ≠ z → c ≠ TO → c ≠ i1 → c ≠ i2 → s.heap.get? c = some o → h'.get? c = some o) → Q (some (.ref s.heap.objs.size)) { s with heap := h', toks := tk }) :
    wpAny (model Pr w) A (pyNext (Value.ref z)) Q E s := by
  have ty : s.TypeIs (.ref z) "zip" := ⟨_, hz, rfl⟩
  unfold pyNext
  refine wpAny_bind (wpAny_attempt (wpAny_callSpecial?_slot (name := Str.ofString "__next__") ty F.slot_zip_next (wpAny_call_entry F.slot_zip_next ty F.entry_zip_next ?_ (F.args_zip_next_1 _))))
  have d1 : Draws Pr w A.in1 i1 [i1, l1] us.size (fun j v => us[j]? = some v) (fun j h => h.IsTupleIter i1 l1 j ∧ h.IsTuple l1 us) := drawT (show A.in1.handled = none from hh) D.l1i1 us
  have d2 : Draws Pr w A.in1 i2 [i2, l2] vs.size (fun j v => vs[j]? = some v) (fun j h => h.IsListIter i2 l2 j ∧ h.IsList l2 vs) := Draws.list (show A.in1.handled = none from hh) i2 l2 D.l2i2 vs
  exact item0 D d1 d2 hz hI hO ⟨h1, g1⟩ ⟨h2, g2⟩ hj hj2 fun x y h' tk a b c d e f g k l => wpAny_pure (hQ x y h' tk a b c d e.1 f.1 g k l)
theorem nextE {Q : Option Value → Shared → Prop} (hh : A.handled = none) (D : ZipApart z TI TO i1 i2 l1 l2) (hz : IsZip s.heap z TI TO .none) (hI : IsPair s.heap TI (.ref i1) (.ref i2)) (hO : IsPair s.heap TO u v)
    (h1 : s.heap.IsTupleIter i1 l1 j) (h2 : s.heap.IsListIter i2 l2 j) (g1 : s.heap.IsTuple l1 us) (g2 : s.heap.IsList l2 vs) (hj : j = us.size ∨ j < us.size ∧ j = vs.size)
    (hQ : ∀ h' tk, (∀ c o, c ≠ z → c ≠ TO → c ≠ i1 → c ≠ i2 → s.heap.get? c = some o → h'.get? c = some o) → Q none { s with heap := h', toks := tk }) : wpAny (model Pr w) A (pyNext (Value.ref z)) Q E s := by
  have ty : s.TypeIs (.ref z) "zip" := ⟨_, hz, rfl⟩
  unfold pyNext
  refine wpAny_bind (wpAny_attempt (wpAny_callSpecial?_slot (name := Str.ofString "__next__") ty F.slot_zip_next (wpAny_call_entry F.slot_zip_next ty F.entry_zip_next ?_ (F.args_zip_next_1 _))))
  have d1 : Draws Pr w A.in1 i1 [i1, l1] us.size (fun j v => us[j]? = some v) (fun j h => h.IsTupleIter i1 l1 j ∧ h.IsTuple l1 us) := drawT (show A.in1.handled = none from hh) D.l1i1 us
  have d2 : Draws Pr w A.in1 i2 [i2, l2] vs.size (fun j v => vs[j]? = some v) (fun j h => h.IsListIter i2 l2 j ∧ h.IsList l2 vs) := Draws.list (show A.in1.handled = none from hh) i2 l2 D.l2i2 vs
  refine end0 D d1 d2 hz hI hO ⟨h1, g1⟩ ⟨h2, g2⟩ hj fun h' e tk k he => ?_
  obtain ⟨o, ho, hc⟩ := he
  exact wpAny_bind (wpAny_isInstance (T := "StopIteration") (b := true) ⟨o, ho, hc⟩ isSubtype_stop (wpAny_pure (hQ _ _ k)))
end
abbrev hA (h : Heap) (a : Addr) : Heap := h.push { cls := .type "tuple_iterator", data := .fields #[.ref a, .int 0 0] }
abbrev hB (h : Heap) (a b : Addr) : Heap := (hA h a).push { cls := .type "list_iterator", data := .fields #[.ref b, .int 0 0] }
abbrev hC (h : Heap) (a b : Addr) : Heap := (hB h a b).push { cls := .type "tuple", data := .seq #[.ref h.objs.size, .ref (hA h a).objs.size] }
abbrev hD (h : Heap) (a b : Addr) : Heap := (hC h a b).push { cls := .type "tuple", data := .seq #[.none, .none] }
abbrev hE (h : Heap) (a b : Addr) : Heap := (hD h a b).push { cls := .type "zip", data := .fields #[.none, .bool false, .bool false, .ref (hB h a b).objs.size, .ref (hC h a b).objs.size] }
theorem newM (a b : Addr) (us vs : Array Value) : Meets (Builtin.«zip.__new__» ⟨[.type "zip", .ref a, .ref b], []⟩) (fun _ R s => s.heap.IsTuple a us ∧ s.heap.IsList b vs ∧ R (.ok (.ret (.ref (hD s.heap a b).objs.size))) { s with heap := hE s.heap a b }) :=
  .of_wp fun prog w A R s h => by
    obtain ⟨hp, g, d, tk, os⟩ := s
    obtain ⟨p1, p2, h⟩ := h
    have sub := sub_zip
    have q1 : Heap.IsTuple (Shared.heap ⟨hp, g, d, tk, os⟩) a us := p1
    have q2 : Heap.IsList (Shared.heap ⟨hp.push { cls := .type "tuple_iterator", data := .fields #[.ref a, .int 0 0] }, g, d, tk, os⟩) b vs := Heap.IsList.push p2 _
    wp_walk using wpAny_pyIter_tuple q1, wpAny_pyIter_list q2
    exact ⟨_, rfl, h⟩
theorem callM {Pr : Program} {w : World} {A : Around} {E : Value → Shared → Prop} {s : Shared} {a b : Addr} {us vs : Array Value} {Q : Value → Shared → Prop} (p1 : s.heap.IsTuple a us) (p2 : s.heap.IsList b vs)
    (h : ∀ h', IsZip h' (s.heap.objs.size + 4) (s.heap.objs.size + 2) (s.heap.objs.size + 3) .none → IsPair h' (s.heap.objs.size + 2) (.ref s.heap.objs.size) (.ref (s.heap.objs.size + 1)) → IsPair h' (s.heap.objs.size + 3) .none .none →
      h'.IsTupleIter s.heap.objs.size a 0 → h'.IsListIter (s.heap.objs.size + 1) b 0 → (∀ c o, s.heap.get? c = some o → h'.get? c = some o) → Q (.ref (s.heap.objs.size + 4)) { s with heap := h' }) :
    wpAny (model Pr w) A (call (.type "zip") [.ref a, .ref b]) Q E s := by
  refine callType_new F.called_zip (by decide) (F.typeCall_zip_2 _ _) (F.newCall_zip_2 _ _) (fun obj => F.args_object_init_3 obj _ _) F.entry_zip_new (newM a b us vs) ⟨p1, p2, ?_⟩
  have e1 : (hA s.heap a).objs.size = s.heap.objs.size + 1 := Heap.size_push ..
  have e2 : (hB s.heap a b).objs.size = s.heap.objs.size + 2 := by rw [Heap.size_push, e1]
  have e3 : (hC s.heap a b).objs.size = s.heap.objs.size + 3 := by rw [Heap.size_push, e2]
  have e4 : (hD s.heap a b).objs.size = s.heap.objs.size + 4 := by rw [Heap.size_push, e3]
  have f5 : (hE s.heap a b).get? (hD s.heap a b).objs.size = some _ := Heap.get?_push_size _ rfl
  have f4 : (hE s.heap a b).get? (hC s.heap a b).objs.size = some _ := Heap.get?_push_of_some _ (Heap.get?_push_size _ rfl)
  have f3 : (hE s.heap a b).get? (hB s.heap a b).objs.size = some _ := Heap.get?_push_of_some _ (Heap.get?_push_of_some _ (Heap.get?_push_size _ rfl))
  have f2 : (hE s.heap a b).get? (hA s.heap a).objs.size = some _ := Heap.get?_push_of_some _ (Heap.get?_push_of_some _ (Heap.get?_push_of_some _ (Heap.get?_push_size _ rfl)))
  have f1 : (hE s.heap a b).get? s.heap.objs.size = some _ := Heap.get?_push_of_some _ (Heap.get?_push_of_some _ (Heap.get?_push_of_some _ (Heap.get?_push_of_some _ (Heap.get?_push_size _ rfl))))
  show _ ∧ _
  rw [e2, e3, e4] at f5; rw [e1, e2] at f3; rw [e3] at f4; rw [e1] at f2; rw [e4]
  exact ⟨⟨_, f5, rfl⟩, h _ f5 f3 f4 ⟨_, f1, rfl, rfl⟩ ⟨_, f2, rfl, rfl⟩ fun c o x => Heap.get?_push_of_some _ (Heap.get?_push_of_some _ (Heap.get?_push_of_some _ (Heap.get?_push_of_some _ (Heap.get?_push_of_some _ x))))⟩
/-- the tuple at a and the list at b as they stand at each turn -/
def ItM (K : PySem.W.Frag) (a b : Addr) : It :=
  ⟨fun j H => ∃ (xs ys : List V) (x y : V), SqT K H a xs ∧ SqL K H b ys ∧ xs[j]? = some x ∧ ys[j]? = some y,
    fun j H v H' => ∃ T x y, v = .ref T ∧ H T = none ∧ H' = upd H T (.tup [x, y]) ∧ (∀ xs, SqT K H a xs → xs[j]? = some x) ∧ ∀ ys, SqL K H b ys → ys[j]? = some y,
    fun j H => ∃ xs ys : List V, SqT K H a xs ∧ SqL K H b ys ∧ (j = xs.length ∨ j < xs.length ∧ j = ys.length)⟩
theorem turnM {P : Program} {w : World} {K : PySem.W.Frag} {elts : List Expr} {kk : Nat} {tpos : Pos} {a b z TI TO i1 i2 : Addr} (D : ZipApart z TI TO i1 i2 a b) :
    Turn P w K (.Tuple elts kk tpos) (ItM K a b) [z, TI, TO, i1, i2] z (fun j h => IsZip h z TI TO .none ∧ IsPair h TI (.ref i1) (.ref i2) ∧ (∃ x y, IsPair h TO x y) ∧ h.IsTupleIter i1 a j ∧ h.IsListIter i2 b j) where
  mem := by simp
  obj := fun j h st c hc => by
    obtain ⟨q1, q2, ⟨x, y, q3⟩, ⟨o1, e1, _, d1⟩, ⟨o2, e2, _, d2⟩⟩ := st
    rcases (by simpa using hc : c = z ∨ c = TI ∨ c = TO ∨ c = i1 ∨ c = i2) with rfl | rfl | rfl | rfl | rfl
    · exact ⟨_, q1, fun v q => nomatch q⟩
    · exact ⟨_, q2, fun v q => nomatch q⟩
    · exact ⟨_, q3, fun v q => nomatch q⟩
    · exact ⟨o1, e1, fun v q => by rw [d1] at q; cases q⟩
    · exact ⟨o2, e2, fun v q => by rw [d2] at q; cases q⟩
  keep := fun j h h' st k => by
    obtain ⟨q1, q2, ⟨x, y, q3⟩, q4, q5⟩ := st
    exact ⟨k z (by simp) _ q1, k TI (by simp) _ q2, ⟨x, y, k TO (by simp) _ q3⟩, q4.at fun o q => k i1 (by simp) o q, q5.at fun o q => k i2 (by simp) o q⟩
  item := by
    intro X hP hw hK hc j pins s σ H E I hf st hg
    subst hP hw hK
    obtain ⟨q1, q2, ⟨x0, y0, q3⟩, q4, q5⟩ := st
    obtain ⟨xs, ys, x, y, hqx, hqy, hx, hy⟩ := hg
    obtain ⟨its, rv, p, _⟩ := I.tuple hqx
    obtain ⟨its2, rv2, p2, _⟩ := I.list hqy
    obtain ⟨u, hu, ru⟩ := rv.get hx
    obtain ⟨u2, hu2, ru2⟩ := rv2.get hy
    have zl : z < s.heap.objs.size := Heap.lt_size q1
    have b1 : j < its.toArray.size := by simpa using (List.getElem?_eq_some_iff.mp hu).1
    have b2 : j < its2.toArray.size := by simpa using (List.getElem?_eq_some_iff.mp hu2).1
    refine nextM (I.ok.hd hc) D q1 q2 q3 q4 q5 p p2.isList b1 b2 fun x' y' h' tk ex ey z' O' i1' i2' hT hsz hk => ?_
    have ex' : x' = u := by
      have e1 : its[j]? = some x' := by simpa using ex
      rw [hu] at e1
      exact (Option.some.inj e1).symm
    have ey' : y' = u2 := by
      have e1 : its2[j]? = some y' := by simpa using ey
      rw [hu2] at e1
      exact (Option.some.inj e1).symm
    subst ex' ey'
    refine ⟨_, rfl, wpAny_letOwnedTupleGo_zip (s := { s with heap := h', toks := tk }) z' fun h'' z'' sb => ?_⟩
    have hT2 : h''.get? s.heap.objs.size = some { cls := .type "tuple", data := .seq #[x', y'] } := (sb.2 _ (Nat.ne_of_gt zl)).trans hT
    have new : ObjOk X.prog X.w (upd H s.heap.objs.size (.tup [x, y])) h'' s.heap.objs.size (.tup [x, y]) := ⟨by show 2 ≤ sizeLine; decide, [x', y'], .cons ru (.cons ru2 .nil), ⟨_, hT2, rfl, _, rfl⟩⟩
    have I1 : Inv X pins σ (upd H s.heap.objs.size (.tup [x, y])) { s with heap := h'', toks := tk } :=
      I.turnedNew (t' := tk) (ch := [z, TI, TO, i1, i2]) (fun c o hb q => (sb.2 c (fun q' => hb (by simp [q']))).trans (hk c o (fun q' => hb (by simp [q'])) (fun q' => hb (by simp [q'])) (fun q' => hb (by simp [q'])) (fun q' => hb (by simp [q'])) q)) hf (Nat.le_refl _) new
    refine ⟨.ref s.heap.objs.size, _, I1, rfl, ⟨_, x, y, rfl, I.hok.fresh (Nat.le_refl _), rfl, fun l hl => by rw [I.tuple_inj hl hqx]; exact hx, fun l hl => by rw [I.list_inj hl hqy]; exact hy⟩, ⟨z'', ?_, ⟨x', y', ?_⟩, ?_, ?_⟩, fun c hcm => ?_⟩
    · exact (sb.2 _ D.TIz).trans (hk _ _ D.TIz D.TITO D.TIi1 D.TIi2 q2)
    · exact (sb.2 _ D.TOz).trans O'
    · exact i1'.at fun o q => (sb.2 _ D.i1z).trans q
    · exact i2'.at fun o q => (sb.2 _ D.i2z).trans q
    · have lt : c < s.heap.objs.size := by
        rcases (by simpa using hcm : c = z ∨ c = TI ∨ c = TO ∨ c = i1 ∨ c = i2) with q | q | q | q | q
        · rw [q]; exact zl
        · rw [q]; exact Heap.lt_size q2
        · rw [q]; exact Heap.lt_size q3
        · rw [q]; obtain ⟨_, e1, _⟩ := q4; exact Heap.lt_size e1
        · rw [q]; obtain ⟨_, e2, _⟩ := q5; exact Heap.lt_size e2
      rw [upd_ne (Nat.ne_of_lt lt)]
      exact (hf c hcm).1
  done := by
    intro X hP hw hK hc j pins s σ H E I hf st hg
    subst hP hw hK
    obtain ⟨q1, q2, ⟨x0, y0, q3⟩, q4, q5⟩ := st
    obtain ⟨xs, ys, hqx, hqy, hend⟩ := hg
    obtain ⟨its, rv, p, _⟩ := I.tuple hqx
    obtain ⟨its2, rv2, p2, _⟩ := I.list hqy
    have e1 := rv.length
    have e2 := rv2.length
    exact nextE (I.ok.hd hc) D q1 q2 q3 q4 q5 p p2.isList (by simp; omega) fun h' tk hk => ⟨rfl, I.turnedL (t' := tk) (ch := [z, TI, TO, i1, i2]) (fun c o hb q => hk c o (fun q' => hb (by simp [q'])) (fun q' => hb (by simp [q'])) (fun q' => hb (by simp [q'])) (fun q' => hb (by simp [q'])) q) hf⟩
  self := fun A j s Q E st h => wpAny_pyIter_zip st.1 h
def iZipM (K : PySem.W.Frag) (ta : TA) : TI := fun σ H R => ta σ H fun vs H1 => ∃ a b xs ys, vs = [.ref a, .ref b] ∧ SqT K H1 a xs ∧ SqL K H1 b ys ∧ R (ItM K a b) H1
theorem pi_zipM {X : Cx} {e e2 : Expr} {ta : TA} {p pos tpos : Pos} {elts : List Expr} {kk : Nat} (hg : Gl X "zip") (hm : X.mg "zip" = none) (ha : PA X [e, e2] ta)
    (hs : starEach [e, e2] X.env = (false, eval e X.env) :: starEach [e2] X.env := by rfl) (hpl : (backTo pos (starEach [e2] X.env)).any (·.1) = false := by rfl) : PI X (.Tuple elts kk tpos) (.Call (.Name "zip" p) [e, e2] [] pos) (iZipM X.K ta) := by
  refine ⟨fun pins s σ H R I h => Call_ (ld_blt I hg hm PyProof.Rows.boot_zip (PyProof.Rows.callWith_type1 (thn (ha.run pos pins s σ H _ I h) fun us s1 ⟨vs, H1, I1, r1, q1⟩ => ?_) hs hpl))⟩
  obtain ⟨a, b, xs, ys, rfl, hqx, hqy, q⟩ := q1
  cases r1 with
  | cons r rr =>
    cases rr with
    | cons r' rr =>
      cases rr
      cases r
      cases r'
      have fr : ∀ c, c ∈ [s1.heap.objs.size + 4, s1.heap.objs.size + 2, s1.heap.objs.size + 3, s1.heap.objs.size, s1.heap.objs.size + 1] → FpOk X pins H1 c := fun c hcm => by
        have le : s1.heap.objs.size ≤ c := by
          rcases (by simpa using hcm : c = s1.heap.objs.size + 4 ∨ c = s1.heap.objs.size + 2 ∨ c = s1.heap.objs.size + 3 ∨ c = s1.heap.objs.size ∨ c = s1.heap.objs.size + 1) with z | z | z | z | z
          · exact z ▸ Nat.le_add_right _ 4
          · exact z ▸ Nat.le_add_right _ 2
          · exact z ▸ Nat.le_add_right _ 3
          · exact z ▸ Nat.le_refl _
          · exact z ▸ Nat.le_add_right _ 1
        exact I1.fpOk le (I1.hok.fresh le)
      obtain ⟨its, rv, p1, _⟩ := I1.tuple hqx
      obtain ⟨its2, rv2, p2, _⟩ := I1.list hqy
      obtain ⟨o1, ho1, _⟩ := id p1
      refine callM (show s1.heap.IsTuple a its.toArray from p1) p2.isList fun h' c1 c2 c3 c4 c5 hk => wpAny_pyIter_zip c1 ?_
      exact ⟨s1.heap.objs.size + 4, [s1.heap.objs.size + 4, s1.heap.objs.size + 2, s1.heap.objs.size + 3, s1.heap.objs.size, s1.heap.objs.size + 1], _, _, H1, rfl, I1.kept (t' := s1.toks) hk, turnM (PySem.W.ktu_apart s1.heap.objs.size a b (Heap.lt_size ho1) p2.lt), ⟨c1, c2, ⟨_, _, c3⟩, c4, c5⟩, fr, q⟩
theorem lc_zipM {K : PySem.W.Frag} {a b : Addr} {xs ys : List V} {g : TG} {tt : TT} {te : TE} {vs : List Nat} {σ : L2.St} {H1 : Hp} {D : Addr} {Qd : Hp → Prop} (hl : xs.length = ys.length) (Pv : Nat → Hp → Prop) (h0 : Pv 0 (upd H1 D (.lst []))) (hq : ∀ i H, Pv i H → SqT K H a xs ∧ SqL K H b ys)
    (hs : ∀ (i : Nat) (x y : V) (T : Addr) (H : Hp), xs[i]? = some x → ys[i]? = some y → Pv i H → H T = none → g (.ref T) (wipe σ vs) (upd H T (.tup [x, y])) fun σ2 H2 => wipe σ2 vs = wipe σ vs ∧ tt σ2 H2 fun b H3 =>
      if b = true then te σ2 H3 fun y H4 => ∃ acc, H4 D = some (.lst acc) ∧ acc.length < sizeLine ∧ Pv (i + 1) (upd H4 D (.lst (acc ++ [y]))) else Pv (i + 1) H3) (hd : ∀ H, Pv xs.length H → Qd H) :
    ∃ W : Nat → Nat → Hp → Prop, (∃ m, W 0 m (upd H1 D (.lst []))) ∧ ∀ i m H, W i m H →
      ((ItM K a b).stop i H ∧ Qd H) ∨ ((ItM K a b).go i H ∧ ∃ Nx : Hp → Prop, (∀ H', Nx H' → ∃ m', m' < m ∧ W (i + 1) m' H') ∧ ∀ x H', (ItM K a b).yld i H x H' → g x (wipe σ vs) H' fun σ2 H2 => wipe σ2 vs = wipe σ vs ∧ tt σ2 H2 fun b H3 =>
        if b = true then te σ2 H3 fun y H4 => ∃ acc, H4 D = some (.lst acc) ∧ acc.length < sizeLine ∧ Nx (upd H4 D (.lst (acc ++ [y]))) else Nx H3) := by
  refine ⟨fun i m H => m = xs.length - i ∧ i ≤ xs.length ∧ Pv i H, ⟨xs.length, by simp, Nat.zero_le _, h0⟩, ?_⟩
  rintro i m H ⟨rfl, hi, p⟩
  obtain ⟨qx, qy⟩ := hq i H p
  by_cases hlt : i < xs.length
  · have h2 : i < ys.length := by omega
    have hx : xs[i]? = some xs[i] := List.getElem?_eq_getElem hlt
    have hy : ys[i]? = some ys[i] := List.getElem?_eq_getElem h2
    refine .inr ⟨⟨xs, ys, _, _, qx, qy, hx, hy⟩, Pv (i + 1), fun H' p' => ⟨xs.length - (i + 1), by omega, rfl, hlt, p'⟩, fun v H' y => ?_⟩
    obtain ⟨T, x', y', rfl, hT, rfl, f1, f2⟩ := y
    exact hs i x' y' T H (f1 xs qx) (f2 ys qy) p hT
  · have e : i = xs.length := by omega
    subst e
    exact .inl ⟨⟨xs, ys, qx, qy, .inl rfl⟩, hd H p⟩
end ZipM

set_option Elab.async false
set_option linter.all false
set_option maxRecDepth 100000
set_option maxHeartbeats 4000000
--%OPEN Cm Pt ND
--%VAR variable {P : Program} {w : World} {K : PySem.W.Frag} {mg : Str → Option Value} {base : Heap} {a : Fds}
namespace K07
open PySem PySem.Spec PyProof.Rows L2 Cm Pt ND
abbrev formsT : List (Str × List Str) := [("begin", ["number"]), ("work", ["number", "process"]), ("commit", ["number"]), ("send", ["number"]), ("deliver", ["number"]), ("fall", ["number"]), ("push", ["number", "object", "number"]), ("gather", []), ("settle", []), ("balance", []),
  ("ready", ["number"]), ("at", ["number"]), ("air", []), ("order", []), ("prints", []), ("processes", []), ("look", []), ("same", [])]
def formsB (K : PySem.W.Frag) : Bool := (formsT.all fun q => match PySem.W.nsIn K (He.ga K "FORMS") q.1 with
  | some (some (.ref p)) => (match K.lookup p with
    | some ⟨.type c, _, .seq its _, _⟩ => decide (c = "tuple") && (decide (its.size ≤ sizeLine) && He.relAll (q.2.map V.str) its.toList)
    | _ => false)
  | _ => false) && (match K.lookup (He.ga K "FORMS") with
    | some ⟨_, _, .dict es _, _⟩ => (es.toList.all fun e => formsT.any fun q => e.key.isStr q.1) && !es.toList.any (·.refKey)
    | _ => false)
open PySem PySem.Spec PyProof.Rows L2
def topS (i : Nat) : Stmt := PySem.Challenge.pw_portage_k07_names_and_lines.main.body.getD i (.Pass ⟨0, 0, 0, 0⟩)
abbrev s_number_in : Stmt := topS 7
abbrev N_number_in : List Str := ["text"]
theorem sc_number_in : FnScope N_number_in ["text"] (defScope s_number_in) := ⟨rfl, rfl, rfl, by decide +kernel, rfl, by decide +kernel, by decide +kernel⟩
abbrev s_short_number_in : Stmt := topS 8
abbrev N_short_number_in : List Str := ["text", "number"]
theorem sc_short_number_in : FnScope N_short_number_in ["text"] (defScope s_short_number_in) := ⟨rfl, rfl, rfl, by decide +kernel, rfl, by decide +kernel, by decide +kernel⟩
abbrev s_process_text : Stmt := topS 10
abbrev N_process_text : List Str := ["process", "number"]
theorem sc_process_text : FnScope N_process_text ["process"] (defScope s_process_text) := ⟨rfl, rfl, rfl, by decide +kernel, rfl, by decide +kernel, by decide +kernel⟩
abbrev s_object_text : Stmt := topS 11
abbrev N_object_text : List Str := ["name"]
theorem sc_object_text : FnScope N_object_text ["name"] (defScope s_object_text) := ⟨rfl, rfl, rfl, by decide +kernel, rfl, by decide +kernel, by decide +kernel⟩
abbrev s_read_process : Stmt := topS 12
abbrev N_read_process : List Str := ["text", "process"]
theorem sc_read_process : FnScope N_read_process ["text"] (defScope s_read_process) := ⟨rfl, rfl, rfl, by decide +kernel, rfl, by decide +kernel, by decide +kernel⟩
abbrev s_read_object : Stmt := topS 13
abbrev N_read_object : List Str := ["text", "name"]
theorem sc_read_object : FnScope N_read_object ["text"] (defScope s_read_object) := ⟨rfl, rfl, rfl, by decide +kernel, rfl, by decide +kernel, by decide +kernel⟩
abbrev s_process_in : Stmt := topS 14
abbrev N_process_in : List Str := ["text", "parts", "part"]
theorem sc_process_in : FnScope N_process_in ["text"] (defScope s_process_in) := ⟨rfl, rfl, rfl, by decide +kernel, rfl, by decide +kernel, by decide +kernel⟩
abbrev s_object_in : Stmt := topS 15
abbrev N_object_in : List Str := ["text", "process", "_", "number"]
theorem sc_object_in : FnScope N_object_in ["text"] (defScope s_object_in) := ⟨rfl, rfl, rfl, by decide +kernel, rfl, by decide +kernel, by decide +kernel⟩
abbrev s_check_numbers : Stmt := topS 16
abbrev N_check_numbers : List Str := ["numbers"]
theorem sc_check_numbers : FnScope N_check_numbers ["numbers"] (defScope s_check_numbers) := ⟨rfl, rfl, rfl, by decide +kernel, rfl, by decide +kernel, by decide +kernel⟩
abbrev s_read_command : Stmt := topS 19
abbrev N_read_command : List Str := ["line", "word", "space", "rest", "parts", "role", "part"]
theorem sc_read_command : FnScope N_read_command ["line"] (defScope s_read_command) := ⟨rfl, rfl, rfl, by decide +kernel, rfl, by decide +kernel, by decide +kernel⟩
abbrev s_read_part : Stmt := topS 20
abbrev N_read_part : List Str := ["role", "part"]
theorem sc_read_part : FnScope N_read_part ["role", "part"] (defScope s_read_part) := ⟨rfl, rfl, rfl, by decide +kernel, rfl, by decide +kernel, by decide +kernel⟩
abbrev s_lw_row : Stmt := topS 22
abbrev N_lw_row : List Str := ["script", "row", "k", "cell", "turn", "mixed"]
theorem sc_lw_row : FnScope N_lw_row ["script"] (defScope s_lw_row) := ⟨rfl, rfl, rfl, by decide +kernel, rfl, by decide +kernel, by decide +kernel⟩
abbrev s_lw_at : Stmt := topS 23
abbrev N_lw_at : List Str := ["row", "at"]
theorem sc_lw_at : FnScope N_lw_at ["row", "at"] (defScope s_lw_at) := ⟨rfl, rfl, rfl, by decide +kernel, rfl, by decide +kernel, by decide +kernel⟩
abbrev s_lw_refused : Stmt := topS 24
abbrev N_lw_refused : List Str := ["kind", "text", "why"]
theorem sc_lw_refused : FnScope N_lw_refused ["kind", "text"] (defScope s_lw_refused) := ⟨rfl, rfl, rfl, by decide +kernel, rfl, by decide +kernel, by decide +kernel⟩
abbrev s_lw_number : Stmt := topS 25
abbrev N_lw_number : List Str := ["row", "at", "number"]
theorem sc_lw_number : FnScope N_lw_number ["row", "at"] (defScope s_lw_number) := ⟨rfl, rfl, rfl, by decide +kernel, rfl, by decide +kernel, by decide +kernel⟩
abbrev s_lw_name : Stmt := topS 26
abbrev N_lw_name : List Str := ["row", "at", "k"]
theorem sc_lw_name : FnScope N_lw_name ["row", "at"] (defScope s_lw_name) := ⟨rfl, rfl, rfl, by decide +kernel, rfl, by decide +kernel, by decide +kernel⟩
abbrev s_lw_written : Stmt := topS 27
abbrev N_lw_written : List Str := ["name", "number"]
theorem sc_lw_written : FnScope N_lw_written ["name"] (defScope s_lw_written) := ⟨rfl, rfl, rfl, by decide +kernel, rfl, by decide +kernel, by decide +kernel⟩
abbrev s_lw_lines : Stmt := topS 28
abbrev N_lw_lines : List Str := ["row", "process", "thing", "k", "other", "lines"]
theorem sc_lw_lines : FnScope N_lw_lines ["row"] (defScope s_lw_lines) := ⟨rfl, rfl, rfl, by decide +kernel, rfl, by decide +kernel, by decide +kernel⟩
abbrev s_lw_line : Stmt := topS 29
abbrev N_lw_line : List Str := ["parts", "words", "part"]
theorem sc_lw_line : FnScope N_lw_line ["parts"] (defScope s_lw_line) := ⟨rfl, rfl, rfl, by decide +kernel, rfl, by decide +kernel, by decide +kernel⟩
abbrev s_lw_spoilt : Stmt := topS 30
abbrev N_lw_spoilt : List Str := ["parts", "text", "word", "found", "one"]
theorem sc_lw_spoilt : FnScope N_lw_spoilt ["parts", "text"] (defScope s_lw_spoilt) := ⟨rfl, rfl, rfl, by decide +kernel, rfl, by decide +kernel, by decide +kernel⟩
abbrev s_law : Stmt := topS 31
abbrev N_law : List Str := ["script", "row", "k", "name", "number", "text", "bad", "parts"]
theorem sc_law : FnScope N_law ["script"] (defScope s_law) := ⟨rfl, rfl, rfl, by decide +kernel, rfl, by decide +kernel, by decide +kernel⟩
abbrev ks_FORMS : List Str := ["begin", "work", "commit", "send", "deliver", "fall", "push", "gather", "settle", "balance", "ready", "at", "air", "order", "prints", "processes", "look", "same"]
/-- the function objects that the top has made -/
structure Fds where
  d_number_in : FuncData
  d_short_number_in : FuncData
  d_process_text : FuncData
  d_object_text : FuncData
  d_read_process : FuncData
  d_read_object : FuncData
  d_process_in : FuncData
  d_object_in : FuncData
  d_check_numbers : FuncData
  d_read_command : FuncData
  d_read_part : FuncData
  d_lw_row : FuncData
  d_lw_at : FuncData
  d_lw_refused : FuncData
  d_lw_number : FuncData
  d_lw_name : FuncData
  d_lw_written : FuncData
  d_lw_lines : FuncData
  d_lw_line : FuncData
  d_lw_spoilt : FuncData
  d_law : FuncData
/-- what the walks ask of the top -/
structure Txt (K : PySem.W.Frag) (mg : Str → Option Value) (w : World) (a : Fds) : Prop where
  F_number_in : Cm.FnP K "number_in" s_number_in (He.ga K "number_in") a.d_number_in
  b_number_in : Binds K a.d_number_in ["text"] []
  g_number_in : mg "number_in" = some (.ref (He.ga K "number_in"))
  F_short_number_in : Cm.FnP K "short_number_in" s_short_number_in (He.ga K "short_number_in") a.d_short_number_in
  b_short_number_in : Binds K a.d_short_number_in ["text"] []
  g_short_number_in : mg "short_number_in" = some (.ref (He.ga K "short_number_in"))
  F_process_text : Cm.FnP K "process_text" s_process_text (He.ga K "process_text") a.d_process_text
  b_process_text : Binds K a.d_process_text ["process"] []
  g_process_text : mg "process_text" = some (.ref (He.ga K "process_text"))
  F_object_text : Cm.FnP K "object_text" s_object_text (He.ga K "object_text") a.d_object_text
  b_object_text : Binds K a.d_object_text ["name"] []
  g_object_text : mg "object_text" = some (.ref (He.ga K "object_text"))
  F_read_process : Cm.FnP K "read_process" s_read_process (He.ga K "read_process") a.d_read_process
  b_read_process : Binds K a.d_read_process ["text"] []
  g_read_process : mg "read_process" = some (.ref (He.ga K "read_process"))
  F_read_object : Cm.FnP K "read_object" s_read_object (He.ga K "read_object") a.d_read_object
  b_read_object : Binds K a.d_read_object ["text"] []
  g_read_object : mg "read_object" = some (.ref (He.ga K "read_object"))
  F_process_in : Cm.FnP K "process_in" s_process_in (He.ga K "process_in") a.d_process_in
  b_process_in : Binds K a.d_process_in ["text"] []
  g_process_in : mg "process_in" = some (.ref (He.ga K "process_in"))
  F_object_in : Cm.FnP K "object_in" s_object_in (He.ga K "object_in") a.d_object_in
  b_object_in : Binds K a.d_object_in ["text"] []
  g_object_in : mg "object_in" = some (.ref (He.ga K "object_in"))
  F_check_numbers : Cm.FnP K "_check_numbers" s_check_numbers (He.ga K "_check_numbers") a.d_check_numbers
  b_check_numbers : Binds K a.d_check_numbers ["numbers"] []
  g_check_numbers : mg "_check_numbers" = some (.ref (He.ga K "_check_numbers"))
  F_read_command : Cm.FnP K "read_command" s_read_command (He.ga K "read_command") a.d_read_command
  b_read_command : Binds K a.d_read_command ["line"] []
  g_read_command : mg "read_command" = some (.ref (He.ga K "read_command"))
  F_read_part : Cm.FnP K "_read_part" s_read_part (He.ga K "_read_part") a.d_read_part
  b_read_part : Binds K a.d_read_part ["role", "part"] []
  g_read_part : mg "_read_part" = some (.ref (He.ga K "_read_part"))
  F_lw_row : Cm.FnP K "_law_row" s_lw_row (He.ga K "_law_row") a.d_lw_row
  b_lw_row : Binds K a.d_lw_row ["script"] []
  g_lw_row : mg "_law_row" = some (.ref (He.ga K "_law_row"))
  F_lw_at : Cm.FnP K "_law_at" s_lw_at (He.ga K "_law_at") a.d_lw_at
  b_lw_at : Binds K a.d_lw_at ["row", "at"] []
  g_lw_at : mg "_law_at" = some (.ref (He.ga K "_law_at"))
  F_lw_refused : Cm.FnP K "_law_refused" s_lw_refused (He.ga K "_law_refused") a.d_lw_refused
  b_lw_refused : Binds K a.d_lw_refused ["kind", "text"] []
  g_lw_refused : mg "_law_refused" = some (.ref (He.ga K "_law_refused"))
  F_lw_number : Cm.FnP K "_law_number" s_lw_number (He.ga K "_law_number") a.d_lw_number
  b_lw_number : Binds K a.d_lw_number ["row", "at"] []
  g_lw_number : mg "_law_number" = some (.ref (He.ga K "_law_number"))
  F_lw_name : Cm.FnP K "_law_name" s_lw_name (He.ga K "_law_name") a.d_lw_name
  b_lw_name : Binds K a.d_lw_name ["row", "at"] []
  g_lw_name : mg "_law_name" = some (.ref (He.ga K "_law_name"))
  F_lw_written : Cm.FnP K "_law_written" s_lw_written (He.ga K "_law_written") a.d_lw_written
  b_lw_written : Binds K a.d_lw_written ["name"] []
  g_lw_written : mg "_law_written" = some (.ref (He.ga K "_law_written"))
  F_lw_lines : Cm.FnP K "_law_lines" s_lw_lines (He.ga K "_law_lines") a.d_lw_lines
  b_lw_lines : Binds K a.d_lw_lines ["row"] []
  g_lw_lines : mg "_law_lines" = some (.ref (He.ga K "_law_lines"))
  F_lw_line : Cm.FnP K "_law_line" s_lw_line (He.ga K "_law_line") a.d_lw_line
  b_lw_line : Binds K a.d_lw_line ["parts"] []
  g_lw_line : mg "_law_line" = some (.ref (He.ga K "_law_line"))
  F_lw_spoilt : Cm.FnP K "_law_spoilt" s_lw_spoilt (He.ga K "_law_spoilt") a.d_lw_spoilt
  b_lw_spoilt : Binds K a.d_lw_spoilt ["parts", "text"] []
  g_lw_spoilt : mg "_law_spoilt" = some (.ref (He.ga K "_law_spoilt"))
  F_law : Cm.FnP K "law" s_law (He.ga K "law") a.d_law
  b_law : Binds K a.d_law ["script"] []
  g_law : mg "law" = some (.ref (He.ga K "law"))
  g_MAX_DIGITS : ∃ t, mg "MAX_DIGITS" = some (.int 13 t)
  g_MAX_SHORT : ∃ t, mg "MAX_SHORT" = some (.int 9999 t)
  g_FORMS : mg "FORMS" = some (.ref (He.ga K "FORMS"))
  k_FORMS : ∃ es n, KDict K w (He.ga K "FORMS") es n
  g_PortError : mg "PortError" = some (.ref (He.ga K "PortError"))
  g_NotAllowed : mg "NotAllowed" = some (.ref (He.ga K "NotAllowed"))
  g_Missing : mg "Missing" = some (.ref (He.ga K "Missing"))
  g_int : mg "int" = none
  g_len : mg "len" = none
  g_tuple : mg "tuple" = none
  g_max : mg "max" = none
  g_zip : mg "zip" = none
  g_range : mg "range" = none
  g_abs : mg "abs" = none
  g_isinstance : mg "isinstance" = none
  g_str : mg "str" = none
  x_NotAllowed : PySem.W.excIn K (He.ga K "NotAllowed") [.type "ValueError", .type "Exception", .type "BaseException", .type "object"] "ValueError.__new__" = true
  k_NotAllowed : PySem.W.keepIn K (.ref (He.ga K "NotAllowed")) = true
  s_NotAllowed : PySem.W.subIn K (.ref (He.ga K "NotAllowed")) (.type "BaseException") = some true
  t_NotAllowed : PySem.W.typeIn K (.ref (He.ga K "NotAllowed")) = some (.type "type")
  e1_ : PySem.W.exmOne K (.ref (He.ga K "NotAllowed")) (.ref (He.ga K "NotAllowed")) = some true
  m1_ : PySem.W.findIn K (.ref (He.ga K "NotAllowed")) "__getattribute__" = some (some (.builtin "BaseException.__getattribute__"))
  m2_ : PySem.W.findIn K (.ref (He.ga K "NotAllowed")) "__getattr__" = some none
  m4_ : PySem.W.hasDictIn K (He.ga K "NotAllowed") = true
  m5_ : PySem.W.findIn K (.ref (He.ga K "NotAllowed")) "__class__" = some (some (.builtin "object.__class__"))
  m6_ : PySem.W.specialIn K (.builtin "object.__class__") "__get__" = some (some (.builtin "getset_descriptor.__get__"))
  m7_ : PySem.W.takesIn K (.builtin "object.__class__") = some true
  m8_ : PySem.W.mroIn K (He.ga K "NotAllowed") (.type "object") = some true
  e2_ : PySem.W.kitOne K (.ref (He.ga K "NotAllowed")) (.ref (He.ga K "PortError")) = some true
  e3_ : PySem.W.kitOne K (.ref (He.ga K "NotAllowed")) (.ref (He.ga K "Missing")) = some false
  p_FORMS : formsB K = true
variable {P : Program} {w : World} {K : PySem.W.Frag} {mg : Str → Option Value} {base : Heap} {a : Fds}
/-! ### texts of numbers, and what is put together of them -/
abbrev num (i : Int) : Str := Str.ofString (toString i)
theorem tl_pos {i : Int} (h : 0 ≤ i) : TL.tl (num i) = TL.numL i.toNat := by
  have e : i = ((i.toNat : Nat) : Int) := by omega
  rw [e]
  exact TL.tl_num _
theorem tl_neg {i : Int} (h : i < 0) : TL.tl (num i) = 45 :: TL.numL (-i).toNat := by
  obtain ⟨m, rfl⟩ : ∃ m : Nat, i = Int.negSucc m := ⟨(-i).toNat - 1, by omega⟩
  have e1 : toString (Int.negSucc m) = "-" ++ toString ((m + 1 : Nat) : Int) := rfl
  have e2 : (-(Int.negSucc m)).toNat = m + 1 := rfl
  rw [e2, ← TL.tl_num]
  show TL.tl (Str.ofString (toString (Int.negSucc m))) = _
  rw [e1, TL.tl_ofString, TL.tl_ofString, String.toList_append, List.map_append]
  rfl
theorem len_pos {i : Int} (h : 0 ≤ i) (h1 : i ≤ 1000000000000) : (num i).length ≤ 13 := by
  rw [TL.len_tl, tl_pos h]
  exact TL.numL_len (by decide) (by omega)
theorem len_num {i : Int} (h : -1000000000000 ≤ i) (h1 : i ≤ 1000000000000) : (num i).length ≤ 14 := by
  by_cases h0 : 0 ≤ i
  · exact Nat.le_succ_of_le (len_pos h0 h1)
  · rw [TL.len_tl, tl_neg (by omega), List.length_cons]
    exact Nat.succ_le_succ (TL.numL_len (by decide) (by omega))
theorem log_small {i : Int} (h : -1000000000000 ≤ i) (h1 : i ≤ 1000000000000) : i.natAbs.log2 < 1920 := by
  have : i.natAbs < 2 ^ 40 := by omega
  by_cases e : i.natAbs = 0
  · rw [e]
    decide
  · have := (Nat.log2_lt e).mpr this
    omega
theorem app_len (x y : Str) : (x ++ y).length = x.length + y.length := by
  rw [TL.len_tl, TL.tl_append, List.length_append, ← TL.len_tl, ← TL.len_tl]
theorem app_assoc (x y z : Str) : x ++ y ++ z = x ++ (y ++ z) := TL.ext_tl (by simp only [TL.tl_append, List.append_assoc])
theorem empty_app (x : Str) : Str.empty ++ x = x := TL.ext_tl (by rw [TL.tl_append]; rfl)
theorem app_empty (x : Str) : x ++ Str.empty = x := TL.ext_tl (by rw [TL.tl_append]; exact List.append_nil _)
theorem join_nil (y : Str) : Txt.join y [] = Str.empty := by rw [TL.join_eq]; rfl
theorem join_one (y x : Str) : Txt.join y [x] = x := by rw [TL.join_eq]; rfl
theorem join_two (y x z : Str) (r : List Str) : Txt.join y (x :: z :: r) = x ++ y ++ Txt.join y (z :: r) := by rw [TL.join_eq, TL.join_eq]; rfl
/-- all of them behind one another -/
abbrev cat (xs : List Str) : Str := Txt.join Str.empty xs
theorem cat_cons (x : Str) (r : List Str) : cat (x :: r) = x ++ cat r := by
  cases r with
  | nil => rw [show cat [x] = x from join_one _ _, show cat [] = Str.empty from join_nil _, app_empty]
  | cons z r => rw [show cat (x :: z :: r) = x ++ Str.empty ++ cat (z :: r) from join_two _ _ _ _, app_empty]
theorem cat_nil : cat [] = Str.empty := join_nil _
theorem cat_app (xs ys : List Str) : cat (xs ++ ys) = cat xs ++ cat ys := by
  induction xs with
  | nil => rw [cat_nil, empty_app]; rfl
  | cons x r ih => rw [List.cons_append, cat_cons, ih, cat_cons, app_assoc]
/-- a sign before each but the first -/
theorem join_cat (y x : Str) (r : List Str) : Txt.join y (x :: r) = x ++ cat (r.map fun z => y ++ z) := by
  induction r generalizing x with
  | nil => rw [join_one, List.map_nil, cat_nil, app_empty]
  | cons z r ih => rw [join_two, ih, List.map_cons, cat_cons, app_assoc, app_assoc]
/-- a sign behind each -/
theorem join_ends (y : Str) (xs : List Str) : cat (xs.map fun z => z ++ y) = Txt.join y (xs ++ [Str.empty]) := by
  induction xs with
  | nil => rw [List.map_nil, cat_nil]; exact (join_one _ _).symm
  | cons x r ih =>
    rw [List.map_cons, cat_cons, ih]
    cases r with
    | nil => exact (join_two y x Str.empty []).symm
    | cons z r => exact (join_two y x z (r ++ [Str.empty])).symm
theorem join_app (y : Str) {xs ys : List Str} (hx : xs ≠ []) (hy : ys ≠ []) : Txt.join y (xs ++ ys) = Txt.join y xs ++ y ++ Txt.join y ys := by
  obtain ⟨x, r, rfl⟩ := List.exists_cons_of_ne_nil hx
  obtain ⟨z, q, rfl⟩ := List.exists_cons_of_ne_nil hy
  rw [List.cons_append, join_cat, join_cat, join_cat, List.map_append, cat_app, List.map_cons, cat_cons]
  simp only [app_assoc]
theorem cat_len {xs : List Str} {n : Nat} (h : ∀ x ∈ xs, x.length ≤ n) : (cat xs).length ≤ n * xs.length := by
  induction xs with
  | nil => rw [cat_nil]; exact Nat.zero_le _
  | cons x r ih =>
    rw [cat_cons, app_len, List.length_cons, Nat.mul_succ]
    have := h x List.mem_cons_self
    have := ih fun y hy => h y (List.mem_cons_of_mem _ hy)
    omega
theorem sum_len {xs : List Str} {n : Nat} (h : ∀ x ∈ xs, x.length ≤ n) : (xs.map (·.length)).sum ≤ n * xs.length := by
  induction xs with
  | nil => exact Nat.zero_le _
  | cons x r ih =>
    rw [List.map_cons, List.sum_cons, List.length_cons, Nat.mul_succ]
    have := h x List.mem_cons_self
    have := ih fun y hy => h y (List.mem_cons_of_mem _ hy)
    omega
/-! ### texts taken apart: what stands in them -/
theorem mem_cat {c : Nat} {xs : List Str} (h : c ∈ TL.tl (cat xs)) : ∃ x ∈ xs, c ∈ TL.tl x := by
  induction xs with
  | nil => rw [cat_nil] at h; exact nomatch h
  | cons x r ih =>
    rw [cat_cons, TL.tl_append] at h
    rcases List.mem_append.mp h with h | h
    · exact ⟨x, List.mem_cons_self, h⟩
    · obtain ⟨y, hy, h⟩ := ih h
      exact ⟨y, List.mem_cons_of_mem _ hy, h⟩
theorem mem_join {c : Nat} {y : Str} {xs : List Str} (h : c ∈ TL.tl (Txt.join y xs)) : c ∈ TL.tl y ∨ ∃ x ∈ xs, c ∈ TL.tl x := by
  cases xs with
  | nil => rw [join_nil] at h; exact nomatch h
  | cons x r =>
    rw [join_cat, TL.tl_append] at h
    rcases List.mem_append.mp h with h | h
    · exact .inr ⟨x, List.mem_cons_self, h⟩
    · obtain ⟨z, hz, h⟩ := mem_cat h
      obtain ⟨w, hw, rfl⟩ := List.mem_map.mp hz
      rw [TL.tl_append] at h
      rcases List.mem_append.mp h with h | h
      · exact .inl h
      · exact .inr ⟨w, List.mem_cons_of_mem _ hw, h⟩
theorem num_digits {i : Int} (h : 0 ≤ i) : NumText.AllDigits (TL.tl (num i)) := by
  rw [tl_pos h]
  exact TL.numL_digits _
theorem num_free {i : Int} {s : Nat} (h : 0 ≤ i) (hs : s < 48 ∨ 57 < s) : s ∉ TL.tl (num i) := by
  rw [tl_pos h]
  exact TL.numL_free hs
theorem numL_head {n : Nat} (h : 1 ≤ n) : ∃ c r, TL.numL n = c :: r ∧ 49 ≤ c ∧ c ≤ 57 := by
  induction n using Nat.strongRecOn with
  | _ n ih =>
    by_cases h10 : n < 10
    · exact ⟨48 + n, [], TL.numL_lt h10, by omega, by omega⟩
    · obtain ⟨c, r, e, h1, h2⟩ := ih (n / 10) (by omega) (by omega)
      refine ⟨c, r ++ [48 + n % 10], ?_, h1, h2⟩
      rw [TL.numL_step (by omega), e]
      rfl
theorem num_zero : num 0 = "0" := by decide +kernel
/-- the first sign of a number -/
theorem num_head {i : Int} (h : 0 ≤ i) : ∃ c r, TL.tl (num i) = c :: r ∧ 48 ≤ c ∧ c ≤ 57 ∧ (c = 48 → num i = "0") := by
  by_cases e : i = 0
  · subst e
    exact ⟨48, [], by decide +kernel, by decide, by decide, fun _ => num_zero⟩
  · obtain ⟨c, r, e, h1, h2⟩ := numL_head (n := i.toNat) (by omega)
    exact ⟨c, r, by rw [tl_pos h, e], by omega, h2, fun z => by omega⟩
theorem digit_small : ∀ n : Nat, n < 58 → 48 ≤ n → Unicode.isDigit n = true := by decide +kernel
theorem num_isdigit {i : Int} (h : 0 ≤ i) : Txt.isdigit (num i) = true := by
  obtain ⟨c, r, e, _⟩ := num_head h
  have hd := num_digits h
  have hl : (num i).length > 0 := by rw [TL.len_tl, e, List.length_cons]; omega
  show (decide ((num i).length > 0) && (num i).cps.all Unicode.isDigit) = true
  rw [decide_eq_true hl, Bool.true_and, ← Array.all_toList]
  refine List.all_eq_true.mpr fun x hx => ?_
  have := hd x hx
  exact digit_small x (by omega) this.1
theorem num_isascii {i : Int} (h : 0 ≤ i) : Txt.isascii (num i) = true := by
  have hd := num_digits h
  show (num i).cps.all (· < 128) = true
  rw [← Array.all_toList]
  refine List.all_eq_true.mpr fun x hx => ?_
  have := hd x hx
  exact decide_eq_true (by omega)
theorem num_int {i : Int} (h : 0 ≤ i) (h1 : i ≤ 1000000000000) : intText? (num i) = some i := by
  have e : i = ((i.toNat : Nat) : Int) := by omega
  have l := len_pos h h1
  rw [TL.len_tl, tl_pos h] at l
  have := TL.int_num (n := i.toNat) (by omega)
  rw [← e] at this
  exact this
/-! ### numbers and names in texts: read or refused -/
/-- the number that a text is, if it is one -/
def NumT (t : Str) (i : Int) : Prop := t = num i ∧ 0 ≤ i ∧ i ≤ 9999999999999
theorem numL_of : ∀ (k : Nat) (ds : List Nat), ds.length = k + 1 → (∀ c ∈ ds, 48 ≤ c ∧ c ≤ 57) → (∀ r, ds = 48 :: r → r = []) → ∃ n, TL.numL n = ds ∧ n < 10 ^ (k + 1) ∧ (1 ≤ k → 1 ≤ n)
  | 0, ds, hl, hd, h0 => by
    cases ds with
    | nil => cases hl
    | cons c r =>
      cases r with
      | cons _ _ => simp at hl
      | nil =>
        obtain ⟨h1, h2⟩ := hd c List.mem_cons_self
        refine ⟨c - 48, ?_, by omega, fun z => absurd z (by omega)⟩
        rw [TL.numL_lt (by omega)]
        congr 1
        omega
  | k + 1, ds, hl, hd, h0 => by
    have hne : ds ≠ [] := fun z => by rw [z] at hl; cases hl
    obtain ⟨ini, d, e⟩ : ∃ ini d, ds = ini ++ [d] := ⟨_, _, (List.dropLast_concat_getLast hne).symm⟩
    subst e
    have hl' : ini.length = k + 1 := by
      rw [List.length_append, List.length_singleton] at hl
      omega
    have hd' : ∀ c ∈ ini, 48 ≤ c ∧ c ≤ 57 := fun c hc => hd c (List.mem_append_left _ hc)
    have hno : ∀ r, ini ≠ 48 :: r := fun r z => by
      have := h0 (r ++ [d]) (by rw [z]; rfl)
      simp at this
    obtain ⟨n, e1, e2, e3⟩ := numL_of k ini hl' hd' fun r z => absurd z (hno r)
    have n1 : 1 ≤ n := by
      rcases Nat.lt_or_ge n 1 with z | z
      · have : n = 0 := by omega
        rw [this, TL.numL_lt (by omega)] at e1
        exact absurd e1.symm (hno [])
      · exact z
    obtain ⟨g1, g2⟩ := hd d (List.mem_append_right _ List.mem_cons_self)
    refine ⟨10 * n + (d - 48), ?_, ?_, fun _ => by omega⟩
    · rw [TL.numL_step (by omega)]
      have a1 : (10 * n + (d - 48)) / 10 = n := by omega
      have a2 : 48 + (10 * n + (d - 48)) % 10 = d := by omega
      rw [a1, a2, e1]
    · have : 10 ^ (k + 1 + 1) = 10 ^ (k + 1) * 10 := rfl
      omega
theorem digit_ascii : ∀ c : Nat, c < 128 → Unicode.isDigit c = true → 48 ≤ c ∧ c ≤ 57 := by decide +kernel
theorem num_of {t : Str} (h1 : Txt.isascii t = true) (h2 : Txt.isdigit t = true) (hl : t.length ≤ 13) (h0 : ∀ r, TL.tl t = 48 :: r → t = "0") : ∃ i, NumT t i := by
  have h1 : t.cps.all (· < 128) = true := h1
  have h2 : (decide (t.length > 0) && t.cps.all Unicode.isDigit) = true := h2
  rw [Bool.and_eq_true] at h2
  obtain ⟨g1, g2⟩ := h2
  have g1 := of_decide_eq_true g1
  rw [← Array.all_toList] at h1 g2
  rw [TL.len_tl] at g1 hl
  have hd : ∀ c ∈ TL.tl t, 48 ≤ c ∧ c ≤ 57 := fun c hc => digit_ascii c (of_decide_eq_true (List.all_eq_true.mp h1 c hc)) (List.all_eq_true.mp g2 c hc)
  obtain ⟨n, e1, e2, _⟩ := numL_of ((TL.tl t).length - 1) (TL.tl t) (by omega) hd fun r e => by
    have z := h0 r e
    rw [z] at e
    have : TL.tl "0" = [48] := by decide +kernel
    rw [this] at e
    exact (List.cons.inj e).2.symm
  refine ⟨(n : Int), ?_, by omega, ?_⟩
  · refine TL.ext_tl ?_
    rw [tl_pos (by omega)]
    exact e1.symm
  · have : n < 10 ^ 13 := Nat.lt_of_lt_of_le e2 (Nat.pow_le_pow_right (by decide) (by omega))
    omega
theorem numT_uni {t : Str} {i j : Int} (h1 : NumT t i) (h2 : NumT t j) : i = j := by
  obtain ⟨e1, a1, b1⟩ := h1
  obtain ⟨e2, a2, b2⟩ := h2
  have f : ∀ {k : Int}, 0 ≤ k → k ≤ 9999999999999 → intText? (num k) = some k := fun {k} hk hk2 => by
    have e : k = ((k.toNat : Nat) : Int) := by omega
    have l : (TL.numL k.toNat).length ≤ 13 := TL.numL_len (by decide) (by omega)
    have := TL.int_num (n := k.toNat) (by omega)
    rw [← e] at this
    exact this
  have k1 := f a1 b1
  have k2 := f a2 b2
  rw [← e1] at k1
  rw [← e2, k1] at k2
  exact Option.some.inj k2
def spNumI (K : PySem.W.Frag) : Sp := fun vs H Q E => ∃ t : Str, vs = [.str t] ∧ t.length ≤ 100000 ∧ (∀ i, NumT t i → Q (.int i) H) ∧ ((∀ i, ¬ NumT t i) → E (.ref (He.ga K "NotAllowed")) none H)
theorem ok_number_in (T : Txt K mg w a) : FnOk P w K mg base (L2.CX P w) 1 (He.ga K "number_in") a.d_number_in ["text"] (spNumI K) := by
  refine T.F_number_in.ok (CX := L2.CX P w) sc_number_in (fun vs H Q E h => ?_) (fun cdv A outer s H vs Q E hr h => ?_)
  · obtain ⟨t, rfl, _⟩ := h
    rfl
  · obtain ⟨t, rfl, hl, q, qe⟩ := h
    refine ⟨_, (pss_cons (ps_if (PW.pt (pw_or (pt_not (PW.pt (pw_and (pt_val (pe_bm0 PySem.F.plainAttrs_str PySem.F.slot_str_isascii PySem.F.type_str_isascii mt_isascii (pv 0))) (pw_and1 (pt_val (pe_bm0 PySem.F.plainAttrs_str PySem.F.slot_str_isdigit PySem.F.type_str_isdigit mt_isdigit (pv 0))))))) (pw_or (pt_cmpR op_gt (pe_callB call_len_str (by rfl) T.g_len boot_len (pa_cons (pv 0) pa_nil)) (pe_glob (v := .int 13) (by rfl) T.g_MAX_DIGITS.choose_spec ⟨_, rfl⟩) (nomark _)) (pw_or1 (PW.pt (pw_and (pt_cmpR op_eq (pe_ix ix_str (pv 0) pe_int (fun _ _ => rfl)) pe_str (nomark _)) (pw_and1 (pt_cmpR op_ne (pv 0) pe_str (nomark _))))))))) (pss_one (ps_raise rfl (takes_of rfl rfl rfl rfl) (SkE.pmk_own1 PySem.F.excBase_ValueError T.x_NotAllowed T.g_NotAllowed T.k_NotAllowed (raises_own T.s_NotAllowed T.t_NotAllowed) (by rfl) pe_str))) pss_nil)
      (pss_one (ps_ret (pe_callTy call_int_str (by rfl) T.g_int boot_int (pa_cons (pv 0) pa_nil))))), ?_⟩
    rw [show L2.start N_number_in [.str t] = [some (.str t)] from rfl]
    have no1 : Txt.isascii t = false → E (.ref (He.ga K "NotAllowed")) none H := fun e => qe fun i ⟨h1, h2, _⟩ => by rw [h1, num_isascii h2] at e; cases e
    have no2 : Txt.isdigit t = false → E (.ref (He.ga K "NotAllowed")) none H := fun e => qe fun i ⟨h1, h2, _⟩ => by rw [h1, num_isdigit h2] at e; cases e
    refine ⟨_, rfl, rfl, _, rfl, rfl, trivial, _, rfl, Cm.itB (fun y1 => ?_) fun e => ?_⟩
    · refine ⟨_, rfl, rfl, _, rfl, rfl, trivial, _, rfl, Cm.itB (fun e => no2 (by simpa using e)) fun e => ?_⟩
      have y2 : Txt.isdigit t = true := by simpa using e
      have lz : t.length ≤ sizeLine := by rw [sizeLine_eq]; omega
      have len13 : ∀ i, NumT t i → t.length ≤ 13 := fun i ⟨h1, h2, h3⟩ => by
        rw [h1, TL.len_tl, tl_pos h2]
        exact TL.numL_len (by decide) (by omega)
      refine ⟨_, rfl, _, rfl, lz, _, _, rfl, rfl, _, rfl, Cm.itD (fun e => qe fun i hi => absurd (len13 i hi) (by omega)) fun hlen => ?_⟩
      have hlen : t.length ≤ 13 := by omega
      have hpos : 0 < t.length := by
        have h2 : (decide (t.length > 0) && t.cps.all Unicode.isDigit) = true := y2
        rw [Bool.and_eq_true] at h2
        exact of_decide_eq_true h2.1
      obtain ⟨c, r, ec⟩ : ∃ c r, TL.tl t = c :: r := by
        rw [TL.len_tl] at hpos
        cases z : TL.tl t with
        | nil =>
          rw [z] at hpos
          exact absurd hpos (by decide)
        | cons c r => exact ⟨c, r, rfl⟩
      have fin : (∀ r, TL.tl t = 48 :: r → t = "0") → ∃ n, intText? t = some n ∧ Q (.int n) H := fun z => by
        obtain ⟨n, hn⟩ := num_of y1 y2 hlen z
        obtain ⟨h1, h2, h3⟩ := id hn
        refine ⟨n, ?_, q n hn⟩
        have e : n = ((n.toNat : Nat) : Int) := by omega
        have l : (TL.numL n.toNat).length ≤ 13 := TL.numL_len (by decide) (by omega)
        have := TL.int_num (n := n.toNat) (by omega)
        rw [← e] at this
        rw [h1]
        exact this
      refine ⟨_, rfl, _, 0, c, rfl, rfl, lz, (by rw [show t.cps.toList = c :: r from ec]; exact atI_nat (j := 0) rfl), rfl, _, rfl, Cm.itES (fun e => ?_) fun e => ?_⟩
      · have hc : c = 48 := by
          have : TL.tl (⟨#[c]⟩ : Str) = TL.tl "0" := by rw [e]
          exact List.head_eq_of_cons_eq (show [c] = [48] from this)
        refine ⟨_, rfl, rfl, _, rfl, Cm.itNS (fun z => qe fun i ⟨h1, h2, _⟩ => ?_) fun z => ?_⟩
        · obtain ⟨c', r', e', _, _, c2⟩ := num_head h2
          rw [← h1, ec] at e'
          exact z (by rw [h1]; exact c2 (by rw [← (List.cons.inj e').1]; exact hc))
        · obtain ⟨n, e1, e2⟩ := fin fun _ _ => z
          exact ⟨_, rfl, _, _, rfl, e1, Nat.le_trans hlen (by decide), e2⟩
      · obtain ⟨n, e1, e2⟩ := fin fun r' z => by
          rw [ec] at z
          refine absurd ?_ e
          rw [(List.cons.inj z).1]
          exact TL.ext_tl (by decide +kernel)
        exact ⟨_, rfl, _, _, rfl, e1, Nat.le_trans hlen (by decide), e2⟩
    · exact no1 e
theorem spl_facts (S : List Nat) : ∀ (x : List Nat) (k : Nat) (acc : List Nat), TL.spl S k acc x ≠ [] ∧ (TL.spl S k acc x).length ≤ x.length + 1 ∧ ∀ y ∈ TL.spl S k acc x, y.length ≤ acc.length + x.length
  | [], k, acc => by
    rw [TL.spl_nil]
    exact ⟨by simp, by simp, fun y hy => by rw [List.mem_singleton.mp hy]; simp⟩
  | c :: r, 0, acc => by
    unfold TL.spl
    by_cases h : TL.pre S (c :: r) = true
    · rw [if_pos h]
      obtain ⟨_, h2, h3⟩ := spl_facts S r (S.length - 1) []
      refine ⟨by simp, by simp only [List.length_cons]; omega, fun y hy => ?_⟩
      rcases List.mem_cons.mp hy with e | hy
      · rw [e]
        omega
      · have := h3 y hy
        simp only [List.length_nil, List.length_cons] at this ⊢
        omega
    · rw [if_neg h]
      obtain ⟨h1, h2, h3⟩ := spl_facts S r 0 (acc ++ [c])
      refine ⟨h1, by simp only [List.length_cons]; omega, fun y hy => ?_⟩
      have := h3 y hy
      simp only [List.length_append, List.length_cons, List.length_nil] at this ⊢
      omega
  | c :: r, k + 1, acc => by
    unfold TL.spl
    obtain ⟨h1, h2, h3⟩ := spl_facts S r k acc
    refine ⟨h1, by simp only [List.length_cons]; omega, fun y hy => ?_⟩
    have := h3 y hy
    simp only [List.length_cons] at this ⊢
    omega
theorem split_facts {t y : Str} (hy : TL.tl y ≠ []) (hk : y.cps.all (· < 256) = true) : Txt.split t y ≠ [] ∧ (Txt.split t y).length ≤ t.length + 1 ∧ ∀ x ∈ Txt.split t y, x.length ≤ t.length := by
  have e := TL.split_spl t y hy (TL.kind_ok hk)
  obtain ⟨h1, h2, h3⟩ := spl_facts (TL.tl y) (TL.tl t) 0 []
  rw [← e] at h1 h2 h3
  refine ⟨fun z => h1 (by rw [z]; rfl), ?_, fun x hx => ?_⟩
  · rw [List.length_map] at h2
    rw [TL.len_tl t]
    exact h2
  · have := h3 _ (List.mem_map.mpr ⟨x, hx, rfl⟩)
    rw [TL.len_tl x, TL.len_tl t]
    simpa using this
theorem cut_fromL (xs : List V) (k : Nat) : cutV xs (some (k : Int)) none = xs.drop k := by
  unfold cutV
  rw [HT.sIx_nat, show HT.sIx xs.length xs.length none = xs.length from rfl]
  by_cases h : k ≤ xs.length
  · rw [show min k xs.length = k by omega, List.take_of_length_le (by rw [List.length_drop]; exact Nat.le_refl _)]
  · rw [show min k xs.length = xs.length by omega, List.drop_eq_nil_of_le (Nat.le_refl _), List.drop_eq_nil_of_le (by omega), List.take_nil]
theorem ints_rps7 {H : Hp} : ∀ ns : List Int, Rps K H (ns.map V.int) (ns.map PyData.int)
  | [] => .nil
  | n :: ns => .cons (.int n) (ints_rps7 ns)
def spShort (K : PySem.W.Frag) : Sp := fun vs H Q E => ∃ t : Str, vs = [.str t] ∧ t.length ≤ 100000 ∧ (∀ i, NumT t i → i ≤ 9999 → Q (.int i) H) ∧ ((∀ i, ¬ (NumT t i ∧ i ≤ 9999)) → E (.ref (He.ga K "NotAllowed")) none H)
theorem ok_short_number_in (T : Txt K mg w a) : FnOk P w K mg base (L2.CX P w) 2 (He.ga K "short_number_in") a.d_short_number_in ["text"] (spShort K) := by
  have gn := ok_number_in (P := P) (w := w) (base := base) T
  refine T.F_short_number_in.ok (CX := L2.CX P w) sc_short_number_in (fun vs H Q E h => ?_) (fun cdv A outer s H vs Q E hr h => ?_)
  · obtain ⟨t, rfl, _⟩ := h
    rfl
  · obtain ⟨t, rfl, hl, q, qe⟩ := h
    refine ⟨_, (pss_cons (ps_set (i := 1) sc_short_number_in.nd rfl (Or.inl rfl) (pe_callS gn (hr.mono (by omega)) (by rfl) T.g_number_in T.F_number_in.kp T.b_number_in (fun σ => passAt (takes_of rfl rfl rfl rfl) σ) (pa_cons (pv 0) pa_nil)))
      (pss_cons (ps_if (pt_cmpR op_gt (pv 1) (pe_glob (v := .int 9999) (by rfl) T.g_MAX_SHORT.choose_spec ⟨_, rfl⟩) (nomark _)) (pss_one (ps_raise rfl (takes_of rfl rfl rfl rfl) (SkE.pmk_own1 PySem.F.excBase_ValueError T.x_NotAllowed T.g_NotAllowed T.k_NotAllowed (raises_own T.s_NotAllowed T.t_NotAllowed) (by rfl) pe_str))) pss_nil)
      (pss_one (ps_ret (pv 1))))), ?_⟩
    refine ⟨_, rfl, t, rfl, hl, fun i hi => ?_, fun hno => qe fun i z => hno i z.1⟩
    refine ⟨_, rfl, _, _, rfl, rfl, _, rfl, Cm.itD (fun e => qe fun j ⟨hj, z⟩ => ?_) fun e => ⟨_, rfl, q i hi (by omega)⟩⟩
    rw [numT_uni hj hi] at z
    omega
/-- the numbers that the name of a process is -/
def ProcT (t : Str) (ns : List Int) : Prop := ∃ ws : List Str, Txt.split t "." = ("p" : Str) :: ws ∧ ws.length = ns.length ∧ ∀ (j : Nat) (x : Str) (i : Int), ws[j]? = some x → ns[j]? = some i → NumT x i
def spProcI (K : PySem.W.Frag) : Sp := fun vs H Q E => ∃ t : Str, vs = [.str t] ∧ t.length ≤ 10000 ∧ (∀ ns, ProcT t ns → ∀ v H', Same H H' → Rp K H' v (.tuple (ns.map PyData.int)) → Q v H') ∧ ((∀ ns, ¬ ProcT t ns) → ∀ H', Same H H' → E (.ref (He.ga K "NotAllowed")) none H')
theorem ok_process_in (T : Txt K mg w a) : FnOk P w K mg base (L2.CX P w) 2 (He.ga K "process_in") a.d_process_in ["text"] (spProcI K) := by
  have gn := ok_number_in (P := P) (w := w) (base := base) T
  refine T.F_process_in.ok (CX := L2.CX P w) sc_process_in (fun vs H Q E h => ?_) (fun cdv A outer s H vs Q E hr h => ?_)
  · obtain ⟨i, rfl, _⟩ := h
    rfl
  · obtain ⟨t, rfl, hl, q, qe⟩ := h
    refine ⟨_, (pss_cons (ps_set (i := 1) sc_process_in.nd rfl (Or.inl rfl) (pe_split (pv 0) pe_str))
      (pss_cons (ps_if (pt_cmpR op_ne (pe_ix ix_list (pv 1) pe_int (fun _ _ => rfl)) pe_str (nomark _)) (pss_one (ps_raise rfl (takes_of rfl rfl rfl rfl) (SkE.pmk_own1 PySem.F.excBase_ValueError T.x_NotAllowed T.g_NotAllowed T.k_NotAllowed (raises_own T.s_NotAllowed T.t_NotAllowed) (by rfl) pe_str))) pss_nil)
      (pss_one (ps_ret (pe_callTy call_tuple_of (by rfl) T.g_tuple boot_tuple (pa_cons (RComp.pe_lcR (E := E) (own := [("part", 2)]) (g := gName 2) (tt := tYes)  (by rfl) (by rfl) (takes_of rfl rfl rfl rfl) (fun _ _ _ _ h => h) (by rfl) sc_process_in.nd (pi_list (pe_slice sl_list (pv 1) (po_some pe_int) po_none)) (blkOk_by (own := [("part", 2)]) (N := N_process_in) (sc := defScope s_process_in) (by decide +kernel)) (fun _ _ _ _ _ _ => pg_name (i := 2) sc_process_in.nd rfl (Or.inl rfl)) (fun _ _ _ _ _ _ => pts_nil) (fun _ _ _ _ _ _ hp => (pe_call gn (hr.mono (by omega)) (by rfl) T.g_number_in T.F_number_in.kp T.b_number_in .nil hp (pa_cons (pv 2) pa_nil)))) pa_nil)))))), ?_⟩
    rw [show L2.start N_process_in [.str t] = [some (.str t), none, none] from rfl]
    obtain ⟨f1, f2, f3⟩ := split_facts (t := t) (y := ".") (by decide +kernel) (by decide +kernel)
    refine ⟨_, rfl, ⟨_, rfl⟩, _, _, rfl, rfl, rfl, (by rw [sizeLine_eq]; omega), fun pl npl => ?_⟩
    obtain ⟨x0, ws, ews⟩ : ∃ x0 ws, Txt.split t "." = x0 :: ws := by
      cases z : Txt.split t "." with
      | nil => exact absurd z f1
      | cons x0 ws => exact ⟨x0, ws, rfl⟩
    rw [ews] at f2 f3
    have f2 : ws.length + 1 ≤ t.length + 1 := f2
    show gName 1 (V.ref pl) _ (upd H pl (.lst ((Txt.split t ".").map V.str))) _
    rw [ews]
    have s1 := Cm.same_new (o := .lst ((x0 :: ws).map V.str)) npl
    have hpl : (L2.upd H pl (.lst ((x0 :: ws).map V.str))) pl = some (.lst ((x0 :: ws).map V.str)) := upd_same
    generalize L2.upd H pl _ = H1 at *
    simp only [gName, List.set_cons_succ, List.set_cons_zero]
    refine ⟨_, rfl, pl, _, 0, _, rfl, rfl, SqL.of hpl, atI_nat (j := 0) rfl, rfl, _, rfl, Cm.itNS (fun e => qe (fun ns ⟨ws', h, _⟩ => ?_) H1 s1) fun e => ?_⟩
    · rw [ews] at h
      exact e (List.cons.inj h).1
    subst e
    refine ⟨_, rfl, _, rfl, ?_⟩
    refine ⟨_, _, rfl, SqL.of hpl, fun p2 np2 => ?_⟩
    rw [show cutV (((Str.ofString "p") :: ws).map V.str) (some 1) none = ws.map V.str from cut_fromL _ 1]
    have s2 := Cm.same_new (o := .lst (ws.map V.str)) np2
    have hp2 : (L2.upd H1 p2 (.lst (ws.map V.str))) p2 = some (.lst (ws.map V.str)) := upd_same
    generalize L2.upd H1 p2 _ = H2 at *
    have s12 := s1.trans s2
    refine ⟨p2, rfl, ⟨_, SqL.of hp2⟩, fun D nD => ?_⟩
    refine lc_list (K := K) (a := p2) (xs := ws.map V.str) (fun j Hj => Same H2 Hj ∧ ∃ ns : List Int, ns.length = j ∧ Hj D = some (.lst (ns.map V.int)) ∧ ∀ (k : Nat) (x : Str) (i : Int), ws[k]? = some x → ns[k]? = some i → NumT x i) ⟨Cm.same_new nD, [], rfl, upd_same, fun k x i _ h => by simp at h⟩ (fun j Hj _ b => SqL.of (b.1 _ _ hp2)) (fun j y Hj hy ⟨sJ, ns, ln, hD, hN⟩ => ?_) fun Hj ⟨sJ, ns, ln, hD, hN⟩ => ?_
    · refine ⟨rfl, ?_⟩
      rw [List.getElem?_map] at hy
      obtain ⟨x, hx, rfl⟩ := Option.map_eq_some_iff.mp hy
      have hj := (List.getElem?_eq_some_iff.mp hx).1
      have lx := f3 x (List.mem_cons_of_mem _ (List.mem_of_getElem? hx))
      refine ⟨_, rfl, x, rfl, by omega, fun i hi => ?_, fun hno => qe (fun ns' ⟨ws', h, l', h'⟩ => ?_) Hj (s12.trans sJ)⟩
      · refine ⟨_, hD, Cm.smallL (by rw [List.length_map]; omega), Cm.same_mut sJ nD, ns ++ [i], by rw [List.length_append, ln]; rfl, by rw [upd_same, List.map_append]; rfl, fun k x' i' hk hi' => ?_⟩
        by_cases z : k < ns.length
        · rw [List.getElem?_append_left z] at hi'
          exact hN k x' i' hk hi'
        · have hk' := (List.getElem?_eq_some_iff.mp hi').1
          rw [List.length_append, List.length_singleton] at hk'
          have ek : k = ns.length := by omega
          subst ek
          rw [List.getElem?_append_right (Nat.le_refl _), Nat.sub_self] at hi'
          cases hi'
          rw [ln, hx] at hk
          cases hk
          exact hi
      · rw [ews] at h
        obtain rfl := (List.cons.inj h).2
        obtain ⟨i, hi⟩ : ∃ i, ns'[j]? = some i := ⟨_, List.getElem?_eq_getElem (by omega)⟩
        exact hno i (h' j x i hx hi)
    · rw [List.length_map] at ln
      refine ⟨D, _, rfl, .inl ⟨SqL.of hD, fun l nl => ?_⟩⟩
      exact q ns ⟨ws, ews, ln.symm, hN⟩ _ _ ((s12.trans sJ).trans (Cm.same_new nl)) (Rp.made nl (ints_rps7 ns))
/-! ### names: read with their bounds -/
theorem rps_ints8 {H : Hp} : ∀ {vs : List V} {ns : List Int}, Rps K H vs (ns.map PyData.int) → vs = ns.map V.int
  | vs, [], r => r.nil_inv
  | vs, n :: ns, r => by
    obtain ⟨v, us, rfl, h1, h2⟩ := Rps.cons_inv (show Rps K H vs (PyData.int n :: ns.map PyData.int) from r)
    obtain rfl := h1.int_inv
    rw [rps_ints8 h2]
    rfl
def spCheckN (K : PySem.W.Frag) : Sp := fun vs H Q E => ∃ (c : Addr) (ns : List Int), vs = [.ref c] ∧ SqT K H c (ns.map V.int) ∧ ((∀ n ∈ ns, n ≤ 9999) → Q .non H) ∧ ((¬ ∀ n ∈ ns, n ≤ 9999) → E (.ref (He.ga K "NotAllowed")) none H)
theorem fold_max : ∀ (r : List Int) (n : Int), (∀ x ∈ n :: r, x ≤ r.foldl max n) ∧ r.foldl max n ∈ n :: r
  | [], n => ⟨fun x hx => by rw [List.mem_singleton.mp hx]; exact Int.le_refl _, List.mem_cons_self⟩
  | y :: r, n => by
    obtain ⟨h1, h2⟩ := fold_max r (max n y)
    have h0 := h1 (max n y) List.mem_cons_self
    refine ⟨fun x hx => ?_, ?_⟩
    · show x ≤ r.foldl max (max n y)
      rcases List.mem_cons.mp hx with e | hx
      · omega
      · rcases List.mem_cons.mp hx with e | hx
        · omega
        · exact h1 x (List.mem_cons_of_mem _ hx)
    · show r.foldl max (max n y) ∈ n :: y :: r
      rcases List.mem_cons.mp h2 with e | h
      · by_cases z : n ≤ y
        · rw [e, show max n y = y by omega]
          exact List.mem_cons_of_mem _ List.mem_cons_self
        · rw [e, show max n y = n by omega]
          exact List.mem_cons_self
      · exact List.mem_cons_of_mem _ (List.mem_cons_of_mem _ h)
theorem ok_check_numbers (T : Txt K mg w a) : FnOk P w K mg base (L2.CX P w) 1 (He.ga K "_check_numbers") a.d_check_numbers ["numbers"] (spCheckN K) := by
  refine T.F_check_numbers.ok (CX := L2.CX P w) sc_check_numbers (fun vs H Q E h => ?_) (fun cdv A outer s H vs Q E hr h => ?_)
  · obtain ⟨c, ns, rfl, _⟩ := h
    rfl
  · obtain ⟨c, ns, rfl, hc, q, qe⟩ := h
    refine ⟨_, (pss_one (ps_if (pt_cmpR op_gt (pe_callBK (MaxD.call_maxDef rfl (MaxD.u1 hr)) (by rfl) T.g_max boot_max (pa_cons (pv 0) pa_nil) (pk_cons pe_int pk_nil)) (pe_glob (v := .int 9999) (by rfl) T.g_MAX_SHORT.choose_spec ⟨_, rfl⟩) (nomark _)) (pss_one (ps_raise rfl (takes_of rfl rfl rfl rfl) (SkE.pmk_own1 PySem.F.excBase_ValueError T.x_NotAllowed T.g_NotAllowed T.k_NotAllowed (raises_own T.s_NotAllowed T.t_NotAllowed) (by rfl) pe_str))) pss_nil)), ?_⟩
    refine ⟨_, rfl, c, ns, 0, rfl, rfl, hc, fun e => ?_, fun n r e => ?_⟩
    · subst e
      exact ⟨_, _, rfl, rfl, _, rfl, Cm.itD (fun z => absurd z (by decide)) fun _ => q fun n hn => nomatch hn⟩
    · subst e
      obtain ⟨h1, h2⟩ := fold_max r n
      refine ⟨_, _, rfl, rfl, _, rfl, Cm.itD (fun z => qe fun y => ?_) fun z => q fun x hx => Int.le_trans (h1 x hx) (by omega)⟩
      have := y _ h2
      omega
def spReadP (K : PySem.W.Frag) : Sp := fun vs H Q E => ∃ t : Str, vs = [.str t] ∧ t.length ≤ 10000 ∧ (∀ ns, ProcT t ns → (∀ n ∈ ns, n ≤ 9999) → ∀ v H', Same H H' → Rp K H' v (.tuple (ns.map PyData.int)) → Q v H') ∧ ((∀ ns, ¬ (ProcT t ns ∧ ∀ n ∈ ns, n ≤ 9999)) → ∀ H', Same H H' → E (.ref (He.ga K "NotAllowed")) none H')
theorem procT_uni {t : Str} {ns ms : List Int} (h1 : ProcT t ns) (h2 : ProcT t ms) : ns = ms := by
  obtain ⟨ws, e1, l1, g1⟩ := h1
  obtain ⟨ws', e2, l2, g2⟩ := h2
  rw [e1] at e2
  obtain rfl := (List.cons.inj e2).2
  refine List.ext_getElem (l1.symm.trans l2) fun k k1 k2 => ?_
  obtain ⟨x, hx⟩ : ∃ x, ws[k]? = some x := ⟨_, List.getElem?_eq_getElem (by omega)⟩
  exact numT_uni (g1 k x _ hx (List.getElem?_eq_getElem k1)) (g2 k x _ hx (List.getElem?_eq_getElem k2))
theorem ok_read_process (T : Txt K mg w a) : FnOk P w K mg base (L2.CX P w) 3 (He.ga K "read_process") a.d_read_process ["text"] (spReadP K) := by
  have gp := ok_process_in (P := P) (w := w) (base := base) T
  have gc := ok_check_numbers (P := P) (w := w) (base := base) T
  refine T.F_read_process.ok (CX := L2.CX P w) sc_read_process (fun vs H Q E h => ?_) (fun cdv A outer s H vs Q E hr h => ?_)
  · obtain ⟨t, rfl, _⟩ := h
    rfl
  · obtain ⟨t, rfl, hl, q, qe⟩ := h
    refine ⟨_, (pss_cons (ps_set (i := 1) sc_read_process.nd rfl (Or.inl rfl) (pe_callS gp (hr.mono (by omega)) (by rfl) T.g_process_in T.F_process_in.kp T.b_process_in (fun σ => passAt (takes_of rfl rfl rfl rfl) σ) (pa_cons (pv 0) pa_nil)))
      (pss_cons (ps_expr (pe_callS gc (hr.mono (by omega)) (by rfl) T.g_check_numbers T.F_check_numbers.kp T.b_check_numbers (fun σ => passAt (takes_of rfl rfl rfl rfl) σ) (pa_cons (pv 1) pa_nil)))
      (pss_one (ps_ret (pv 1))))), ?_⟩
    refine ⟨_, rfl, t, rfl, hl, fun ns hns v H' s' rv => ?_, fun hno H' s' => qe (fun ns z => hno ns z.1) H' s'⟩
    obtain ⟨c, us, rfl, hc, hus⟩ := rv.tup_inv
    obtain rfl := rps_ints8 hus
    refine ⟨_, rfl, c, ns, rfl, hc, fun hb => ⟨_, rfl, q ns hns hb _ H' s' rv⟩, fun hb => qe (fun ms z => ?_) H' s'⟩
    obtain ⟨z1, z2⟩ := z
    obtain rfl := procT_uni hns z1
    exact hb z2
theorem par_facts (S : List Nat) : ∀ (x acc : List Nat) (a b : List Nat), TL.par S acc x = some (a, b) → a.length ≤ acc.length + x.length ∧ b.length ≤ x.length
  | [], acc, a, b, h => by
    cases h
  | c :: r, acc, a, b, h => by
    unfold TL.par at h
    by_cases z : TL.pre S (c :: r) = true
    · rw [if_pos z] at h
      cases h
      rw [List.length_drop]
      exact ⟨Nat.le_add_right _ _, Nat.sub_le _ _⟩
    · rw [if_neg z] at h
      have := par_facts S r (acc ++ [c]) a b h
      simp only [List.length_append, List.length_cons, List.length_nil] at this ⊢
      omega
theorem part_len {t y : Str} (hy : TL.tl y ≠ []) : (Txt.partition t y).1.length ≤ t.length ∧ (Txt.partition t y).2.2.length ≤ t.length := by
  rw [TL.partition_par t y hy]
  cases h : TL.par (TL.tl y) [] (TL.tl t) with
  | none => exact ⟨Nat.le_refl _, Nat.zero_le _⟩
  | some ab =>
    obtain ⟨a, b⟩ := ab
    have := par_facts _ _ _ _ _ h
    rw [TL.len_tl t]
    refine ⟨?_, this.2⟩
    have h1 := this.1
    rw [List.length_nil, Nat.zero_add] at h1
    exact h1
/-- the object that a text names -/
def ObjT (t : Str) (ns : List Int) (i : Int) : Prop := ProcT (Txt.partition t "#").1 ns ∧ NumT (Txt.partition t "#").2.2 i
def spObjI (K : PySem.W.Frag) : Sp := fun vs H Q E => ∃ t : Str, vs = [.str t] ∧ t.length ≤ 10000 ∧ (∀ ns i, ObjT t ns i → ∀ v H', Same H H' → Rp K H' v (.tuple [.tuple (ns.map PyData.int), .int i]) → Q v H') ∧ ((∀ ns i, ¬ ObjT t ns i) → ∀ H', Same H H' → E (.ref (He.ga K "NotAllowed")) none H')
theorem ok_object_in (T : Txt K mg w a) : FnOk P w K mg base (L2.CX P w) 3 (He.ga K "object_in") a.d_object_in ["text"] (spObjI K) := by
  have gp := ok_process_in (P := P) (w := w) (base := base) T
  have gn := ok_number_in (P := P) (w := w) (base := base) T
  refine T.F_object_in.ok (CX := L2.CX P w) sc_object_in (fun vs H Q E h => ?_) (fun cdv A outer s H vs Q E hr h => ?_)
  · obtain ⟨t, rfl, _⟩ := h
    rfl
  · obtain ⟨t, rfl, hl, q, qe⟩ := h
    refine ⟨_, (pss_cons (ps_asg (pe_partition (pv 0) pe_str) (pg_tup (by rfl) (pgs_cons (pg_name (i := 1) sc_object_in.nd rfl (Or.inl rfl)) (pgs_cons (pg_name (i := 2) sc_object_in.nd rfl (Or.inl rfl)) (pgs_cons (pg_name (i := 3) sc_object_in.nd rfl (Or.inl rfl)) pgs_nil)))))
      (pss_one (ps_ret (pe_tup (pa_cons (pe_callS gp (hr.mono (by omega)) (by rfl) T.g_process_in T.F_process_in.kp T.b_process_in (fun σ => passAt (takes_of rfl rfl rfl rfl) σ) (pa_cons (pv 1) pa_nil)) (pa_cons (pe_callS gn (hr.mono (by omega)) (by rfl) T.g_number_in T.F_number_in.kp T.b_number_in (fun σ => passAt (takes_of rfl rfl rfl rfl) σ) (pa_cons (pv 3) pa_nil)) pa_nil)))))), ?_⟩
    rw [show L2.start N_object_in [.str t] = [some (.str t), none, none, none] from rfl]
    refine ⟨_, rfl, ?_⟩
    obtain ⟨p1, p2⟩ := part_len (t := t) (y := "#") (by decide +kernel)
    refine ⟨⟨_, rfl⟩, _, _, rfl, rfl, rfl, (by rw [sizeLine_eq]; omega), fun d nd => ?_⟩
    have st := Cm.same_new (o := .tup [V.str (Txt.partition t "#").1, V.str (Txt.partition t "#").2.1, V.str (Txt.partition t "#").2.2]) nd
    refine ⟨d, _, rfl, Cm.sqt_new, rfl, _, _, rfl, _, _, rfl, _, _, rfl, rfl, ?_⟩
    simp only [gName, List.set_cons_succ, List.set_cons_zero]
    refine ⟨_, rfl, _, rfl, Nat.le_trans p1 hl, fun ns hns v H1 s1 rv => ⟨_, rfl, _, rfl, by omega, fun i hi => ⟨Cm.small (by show 2 ≤ 100000; decide), fun t2 nt2 => ?_⟩, fun hno => qe (fun ms k z => hno k z.2) _ (st.trans s1)⟩, fun hno H1 s1 => qe (fun ms k z => hno ms z.1) _ (st.trans s1)⟩
    exact q ns i ⟨hns, hi⟩ _ _ ((st.trans s1).trans (Cm.same_new nt2)) (Rp.made nt2 (.cons rv (.cons (.int i) .nil)))
theorem procT_len {t : Str} {ns : List Int} (h : ProcT t ns) : ns.length ≤ t.length := by
  obtain ⟨ws, e, l, _⟩ := h
  have := (split_facts (t := t) (y := ".") (by decide +kernel) (by decide +kernel)).2.1
  rw [e, List.length_cons] at this
  omega
def spReadO (K : PySem.W.Frag) : Sp := fun vs H Q E => ∃ t : Str, vs = [.str t] ∧ t.length ≤ 10000 ∧ (∀ ns i, ObjT t ns i → (∀ n ∈ ns ++ [i], n ≤ 9999) → ∀ v H', Same H H' → Rp K H' v (.tuple [.tuple (ns.map PyData.int), .int i]) → Q v H') ∧ ((∀ ns i, ¬ (ObjT t ns i ∧ ∀ n ∈ ns ++ [i], n ≤ 9999)) → ∀ H', Same H H' → E (.ref (He.ga K "NotAllowed")) none H')
theorem ok_read_object (T : Txt K mg w a) : FnOk P w K mg base (L2.CX P w) 4 (He.ga K "read_object") a.d_read_object ["text"] (spReadO K) := by
  have go := ok_object_in (P := P) (w := w) (base := base) T
  have gc := ok_check_numbers (P := P) (w := w) (base := base) T
  refine T.F_read_object.ok (CX := L2.CX P w) sc_read_object (fun vs H Q E h => ?_) (fun cdv A outer s H vs Q E hr h => ?_)
  · obtain ⟨t, rfl, _⟩ := h
    rfl
  · obtain ⟨t, rfl, hl, q, qe⟩ := h
    refine ⟨_, (pss_cons (ps_set (i := 1) sc_read_object.nd rfl (Or.inl rfl) (pe_callS go (hr.mono (by omega)) (by rfl) T.g_object_in T.F_object_in.kp T.b_object_in (fun σ => passAt (takes_of rfl rfl rfl rfl) σ) (pa_cons (pv 0) pa_nil)))
      (pss_cons (ps_expr (pe_callS gc (hr.mono (by omega)) (by rfl) T.g_check_numbers T.F_check_numbers.kp T.b_check_numbers (fun σ => passAt (takes_of rfl rfl rfl rfl) σ) (pa_cons (pe_op op_catA (pe_ix ix_tup (pv 1) pe_int (fun _ _ => rfl)) (pe_slice sl_tupA (pv 1) (po_some pe_int) po_none)) pa_nil)))
      (pss_one (ps_ret (pv 1))))), ?_⟩
    refine ⟨_, rfl, t, rfl, hl, fun ns i hns v H' s' rv => ?_, fun hno H' s' => qe (fun ns i z => hno ns i z.1) H' s'⟩
    obtain ⟨c, us, rfl, hc, hus⟩ := id rv.tup_inv
    obtain ⟨v0, us, rfl, r0, hus⟩ := hus.cons_inv
    obtain ⟨v1, us, rfl, r1, hus⟩ := hus.cons_inv
    obtain rfl := hus.nil_inv
    refine ⟨_, rfl, c, _, 0, _, rfl, rfl, hc, atI_nat (j := 0) rfl, _, rfl, _, rfl, ?_⟩
    simp only [tNoPart]
    have ln : ns.length ≤ 10000 := Nat.le_trans (procT_len hns.1) (Nat.le_trans (part_len (t := t) (y := "#") (by decide +kernel)).1 hl)
    refine from_rp (k := 1) rv (Nat.le_add_left 1 1) fun v3 H3 s3 r3 => ?_
    refine cat_rp (r0.keep (Same.tups s3)) r3 (by rw [List.length_map]; show ns.length + 1 ≤ 10000000; omega) fun v4 H4 s4 r4 => ?_
    obtain ⟨c4, us4, rfl, hc4, hus4⟩ := r4.tup_inv
    have e4 : ns.map PyData.int ++ [PyData.tuple (ns.map PyData.int), PyData.int i].drop 1 = (ns ++ [i]).map PyData.int := by rw [List.map_append]; rfl
    rw [e4] at hus4
    obtain rfl := rps_ints8 hus4
    have s34 := s3.trans s4
    refine ⟨c4, ns ++ [i], rfl, hc4, fun hb => ⟨_, rfl, q ns i hns hb _ H4 (s'.trans s34) (rv.keep (Same.tups s34))⟩, fun hb => qe (fun ms k z => ?_) H4 (s'.trans s34)⟩
    obtain ⟨⟨z1, z2⟩, z3⟩ := z
    obtain rfl := procT_uni hns.1 z1
    obtain rfl := numT_uni hns.2 z2
    exact hb z3
/-! ### names as texts -/
theorem j1 {x y : Str} {m n : Nat} (hx : x.length ≤ m) (hy : y.length ≤ n) : (x ++ y).length ≤ m + n := by
  rw [app_len]
  omega
theorem jE : Str.empty.length ≤ 0 := Nat.le_refl _
theorem jL {x : Str} {n : Nat} (h : x.length.ble n = true) : x.length ≤ n := Nat.le_of_ble_eq_true h
theorem sz {x : Str} {n : Nat} (h : x.length ≤ n) (e : n.ble 100000 = true) : x.length ≤ sizeLine := Cm.small (Nat.le_trans h (Nat.le_of_ble_eq_true e))
theorem sum_ok {xs : List Str} {n : Nat} (h : ∀ x ∈ xs, x.length ≤ n) (l : n * xs.length ≤ 1000000) : (xs.map (·.length)).sum + xs.length * (Str.ofString "").length ≤ 16777216 := by
  have := sum_len h
  have e : (Str.ofString "").length = 0 := rfl
  rw [e, Nat.mul_zero]
  omega
def pX (ns : List Int) : Str := Txt.join "." ("p" :: ns.map num)
theorem pX_eq (ns : List Int) : pX ns = cat ("p" :: ns.map fun n => "." ++ num n) := by
  unfold pX
  rw [join_cat, cat_cons, List.map_map]
  rfl
theorem e0 : Str.ofString "" = Str.empty := rfl
def spPT (K : PySem.W.Frag) : Sp := fun vs H Q _ => ∃ (v : V) (ns : List Int), vs = [v] ∧ Rp K H v (.tuple (ns.map PyData.int)) ∧ ns.length ≤ 20 ∧ (∀ n ∈ ns, 0 ≤ n ∧ n ≤ 999999) ∧ ∀ H', Same H H' → Q (.str (pX ns)) H'
theorem ok_process_text (T : Txt K mg w a) : FnOk P w K mg base CX0 1 (He.ga K "process_text") a.d_process_text ["process"] (spPT K) := by
  refine T.F_process_text.ok sc_process_text (fun vs H Q E h => ?_) (fun cdv A outer s H vs Q E hr h => ?_)
  · obtain ⟨v, ns, rfl, _⟩ := h
    rfl
  · obtain ⟨v, ns, rfl, r, ln, hn, q⟩ := h
    refine ⟨_, PSs.nox (pss_one (ps_ret (pe_join pe_str (pe_op op_cat (pe_lst (pa_cons pe_str pa_nil)) (pe_lc (own := [("number", 1)]) (g := gName 1) (tt := tYes)  (by rfl) sc_process_text.nd (pi_tup (pv 0)) (blkOk_by (own := [("number", 1)]) (N := N_process_text) (sc := defScope s_process_text) (by decide +kernel)) (fun _ _ _ _ _ => pg_name (i := 1) sc_process_text.nd rfl (Or.inl rfl)) (fun _ _ _ _ _ => pts_nil) (fun _ _ _ _ _ => (LsX.pe_joinedJ (.cons pe_str (.cons (pe_fmt (pv 1)) .nil))))))))), ?_⟩
    rw [show L2.start N_process_text [v] = [some v, none] from rfl]
    obtain ⟨pa, xs, rfl, hpa, rs⟩ := r.tup_inv
    refine ⟨⟨_, rfl⟩, Cm.small (by show 1 ≤ 100000; decide), fun l1 nl1 => ?_⟩
    have s1 := Cm.same_new (o := .lst [.str "p"]) nl1
    have h1 : (L2.upd H l1 (.lst [.str "p"])) l1 = some (.lst [.str "p"]) := upd_same
    generalize L2.upd H l1 (.lst [.str "p"]) = H1 at *
    have hpa1 := Cm.sameT s1 hpa
    refine ⟨_, rfl, pa, rfl, ⟨_, hpa1⟩, fun D nD => ?_⟩
    refine lc_tup (K := K) (a := pa) (xs := xs) (fun j Hj => Same H1 Hj ∧ ∃ bs : List Str, Hj D = some (.lst (bs.map V.str)) ∧ bs = (ns.take j).map (fun n => "." ++ num n) ∧ bs.length ≤ j) ⟨Cm.same_new nD, [], upd_same, rfl, Nat.le_refl _⟩ (fun j Hj _ b => Cm.sameT b.1 hpa1) (fun j y Hj hy b => ?_) fun Hj b => ?_
    · obtain ⟨sJ, bs, hD, eb, lb⟩ := b
      refine ⟨rfl, ?_⟩
      have hj : j < ns.length := by
        have := (List.getElem?_eq_some_iff.mp hy).1
        have := rs.len
        rw [List.length_map] at this
        omega
      obtain ⟨y', hy', ry⟩ := rs.at_ (i := j) (d := .int ns[j]) (by rw [List.getElem?_map, List.getElem?_eq_getElem hj]; rfl)
      rw [hy] at hy'
      cases hy'
      obtain rfl := ry.int_inv
      have hb := hn _ (List.getElem_mem hj)
      have l1 := len_pos hb.1 (by omega)
      refine ⟨_, rfl, sz (j1 jE (jL (n := 1) rfl)) rfl, _, rfl, .inr ⟨_, rfl, log_small (by omega) (by omega), _, rfl, sz (j1 (j1 jE (jL (n := 1) rfl)) l1) rfl, ?_⟩⟩
      refine ⟨_, hD, Cm.smallL (by rw [List.length_map]; omega), Cm.same_mut sJ nD, bs ++ ["." ++ num ns[j]], ?_, ?_, by rw [List.length_append]; simp only [List.length_cons, List.length_nil]; omega⟩
      · rw [upd_same, List.map_append, empty_app]
        rfl
      · rw [List.take_succ, List.getElem?_eq_getElem hj, List.map_append, eb]
        rfl
    · obtain ⟨sJ, bs, hD, eb, lb⟩ := b
      have hl := rs.len
      rw [List.length_map] at hl
      rw [hl, List.take_length] at eb
      refine ⟨l1, D, _, _, rfl, rfl, sJ _ _ h1, hD, Cm.small (by rw [List.length_map]; simp only [List.length_cons, List.length_nil]; omega), fun l3 n3 => ?_⟩
      refine ⟨_, l3, "p" :: bs, rfl, rfl, .inl (SqL.of upd_same), sum_ok (n := 14) (fun x hx => ?_) (by simp only [List.length_cons]; omega), ?_⟩
      · rcases List.mem_cons.mp hx with rfl | hx
        · exact jL rfl
        · rw [eb] at hx
          obtain ⟨n, hn', rfl⟩ := List.mem_map.mp hx
          have hb := hn n hn'
          exact j1 (jL (n := 1) rfl) (len_pos hb.1 (by omega))
      · rw [e0, eb]
        show Q (.str (cat ("p" :: ns.map fun n => "." ++ num n))) _
        rw [← pX_eq]
        exact q _ ((s1.trans sJ).trans (Cm.same_new n3))
def spOT (K : PySem.W.Frag) : Sp := fun vs H Q _ => ∃ (v : V) (ns : List Int) (k : Int), vs = [v] ∧ Rp K H v (.tuple [.tuple (ns.map PyData.int), .int k]) ∧ ns.length ≤ 20 ∧ (∀ n ∈ ns, 0 ≤ n ∧ n ≤ 999999) ∧ 0 ≤ k ∧ k ≤ 999999 ∧ ∀ H', Same H H' → Q (.str (pX ns ++ "#" ++ num k)) H'
theorem len_pX {ns : List Int} (l : ns.length ≤ 20) (h : ∀ n ∈ ns, 0 ≤ n ∧ n ≤ 999999) : (pX ns).length ≤ 400 := by
  rw [pX_eq]
  refine Nat.le_trans (cat_len (n := 14) fun x hx => ?_) ?_
  · rcases List.mem_cons.mp hx with rfl | hx
    · exact jL rfl
    · obtain ⟨n, hn, rfl⟩ := List.mem_map.mp hx
      exact j1 (jL (n := 1) rfl) (len_pos (h n hn).1 (by have := (h n hn).2; omega))
  · rw [List.length_cons, List.length_map]
    omega
theorem ok_object_text (T : Txt K mg w a) : FnOk P w K mg base CX0 2 (He.ga K "object_text") a.d_object_text ["name"] (spOT K) := by
  refine T.F_object_text.ok sc_object_text (fun vs H Q E h => ?_) (fun cdv A outer s H vs Q E hr h => ?_)
  · obtain ⟨v, ns, k, rfl, _⟩ := h
    rfl
  · obtain ⟨v, ns, k, rfl, r, ln, hn, k0, k1, q⟩ := h
    refine ⟨_, PSs.nox (pss_one (ps_ret (LsX.pe_joinedJ (.cons (pe_fmt (pe_call (ok_process_text T) (hr.mono (by omega)) (by rfl) T.g_process_text T.F_process_text.kp T.b_process_text .nil pass0 (pa_cons (pe_ix ix_tup (pv 0) pe_int (fun _ _ => rfl)) pa_nil))) (.cons pe_str (.cons (pe_fmt (pe_ix ix_tup (pv 0) pe_int (fun _ _ => rfl))) .nil)))))), ?_⟩
    rw [show L2.start N_object_text [v] = [some v] from rfl]
    obtain ⟨pa, xs, rfl, hpa, rs⟩ := r.tup_inv
    obtain ⟨w1, r1, rfl, rp, rs⟩ := rs.cons_inv
    obtain ⟨w2, r2, rfl, rk, rs⟩ := rs.cons_inv
    obtain rfl := rs.nil_inv
    obtain rfl := rk.int_inv
    have lp := len_pX ln hn
    refine ⟨_, rfl, pa, _, 0, _, rfl, rfl, hpa, atI_nat (j := 0) rfl, w1, ns, rfl, rp, ln, hn, fun H1 s1 => .inl ⟨_, rfl, sz lp rfl, _, rfl, sz (j1 jE lp) rfl, ?_⟩⟩
    refine ⟨_, rfl, sz (j1 (j1 jE lp) (jL (n := 1) rfl)) rfl, _, rfl, pa, _, 1, _, rfl, rfl, Cm.sameT s1 hpa, atI_nat (j := 1) rfl, .inr ⟨_, rfl, log_small (by omega) (by omega), _, rfl, sz (j1 (j1 (j1 jE lp) (jL (n := 1) rfl)) (len_pos k0 (by omega))) rfl, ?_⟩⟩
    rw [empty_app]
    exact q H1 s1
/-! ### commands -/
def spPart (K : PySem.W.Frag) : Sp := fun vs H Q E => ∃ (r t : Str), vs = [.str r, .str t] ∧ t.length ≤ 10000 ∧ (r = "process" → (∀ ns, ProcT t ns → (∀ n ∈ ns, n ≤ 9999) → ∀ v H', Same H H' → Rp K H' v (.tuple (ns.map PyData.int)) → Q v H') ∧ ((∀ ns, ¬ (ProcT t ns ∧ ∀ n ∈ ns, n ≤ 9999)) → ∀ H', Same H H' → E (.ref (He.ga K "NotAllowed")) none H')) ∧
  (r = "object" → (∀ ns i, ObjT t ns i → (∀ n ∈ ns ++ [i], n ≤ 9999) → ∀ v H', Same H H' → Rp K H' v (.tuple [.tuple (ns.map PyData.int), .int i]) → Q v H') ∧ ((∀ ns i, ¬ (ObjT t ns i ∧ ∀ n ∈ ns ++ [i], n ≤ 9999)) → ∀ H', Same H H' → E (.ref (He.ga K "NotAllowed")) none H')) ∧
  (r ≠ "process" → r ≠ "object" → (∀ i, NumT t i → i ≤ 9999 → Q (.int i) H) ∧ ((∀ i, ¬ (NumT t i ∧ i ≤ 9999)) → E (.ref (He.ga K "NotAllowed")) none H))
theorem ok_read_part (T : Txt K mg w a) : FnOk P w K mg base (L2.CX P w) 5 (He.ga K "_read_part") a.d_read_part ["role", "part"] (spPart K) := by
  have gp := ok_read_process (P := P) (w := w) (base := base) T
  have go := ok_read_object (P := P) (w := w) (base := base) T
  have gs := ok_short_number_in (P := P) (w := w) (base := base) T
  refine T.F_read_part.ok (CX := L2.CX P w) sc_read_part (fun vs H Q E h => ?_) (fun cdv A outer s H vs Q E hr h => ?_)
  · obtain ⟨r, t, rfl, _⟩ := h
    rfl
  · obtain ⟨r, t, rfl, hl, q1, q2, q3⟩ := h
    refine ⟨_, (pss_cons (ps_if (pt_cmpR op_eq (pv 0) pe_str (nomark _)) (pss_one (ps_ret (pe_callS gp (hr.mono (by omega)) (by rfl) T.g_read_process T.F_read_process.kp T.b_read_process (fun σ => passAt (takes_of rfl rfl rfl rfl) σ) (pa_cons (pv 1) pa_nil)))) pss_nil)
      (pss_cons (ps_if (pt_cmpR op_eq (pv 0) pe_str (nomark _)) (pss_one (ps_ret (pe_callS go (hr.mono (by omega)) (by rfl) T.g_read_object T.F_read_object.kp T.b_read_object (fun σ => passAt (takes_of rfl rfl rfl rfl) σ) (pa_cons (pv 1) pa_nil)))) pss_nil)
      (pss_one (ps_ret (pe_callS gs (hr.mono (by omega)) (by rfl) T.g_short_number_in T.F_short_number_in.kp T.b_short_number_in (fun σ => passAt (takes_of rfl rfl rfl rfl) σ) (pa_cons (pv 1) pa_nil)))))), ?_⟩
    refine ⟨_, rfl, rfl, _, rfl, Cm.itES (fun e => ?_) fun e1 => ?_⟩
    · obtain ⟨z1, z2⟩ := q1 e
      exact ⟨_, rfl, t, rfl, hl, z1, z2⟩
    refine ⟨_, rfl, rfl, _, rfl, Cm.itES (fun e => ?_) fun e2 => ?_⟩
    · obtain ⟨z1, z2⟩ := q2 e
      exact ⟨_, rfl, t, rfl, hl, z1, z2⟩
    obtain ⟨z1, z2⟩ := q3 e1 e2
    exact ⟨_, rfl, t, rfl, by omega, z1, z2⟩
/-! ### the forms of commands -/
theorem form_at {K : PySem.W.Frag} (h : formsB K = true) {q : Str × List Str} (hq : q ∈ formsT) :
    ∃ p, PySem.W.nsIn K (He.ga K "FORMS") q.1 = some (some (.ref p)) ∧ ∀ H, SqT K H p (q.2.map V.str) := by
  have h2 := List.all_eq_true.mp (He.ba h).1 q hq
  split at h2
  · rename_i p e
    refine ⟨p, e, fun H => ?_⟩
    split at h2
    · rename_i c dd its n sl e2
      obtain ⟨h3, h4⟩ := He.ba h2
      obtain ⟨h5, h6⟩ := He.ba h4
      exact .inr ⟨_, its, n, e2, congrArg Value.type (of_decide_eq_true h3), rfl, of_decide_eq_true h5, He.relAll_ok h6⟩
    · cases h2
  · cases h2
theorem isStr_inj {v : Value} {x y : Str} (h1 : v.isStr x = true) (h2 : v.isStr y = true) : x = y := by
  cases v with
  | str z t => 
    simp [Value.isStr] at h1 h2
    exact h1.symm.trans h2
  | _ => simp [Value.isStr] at h1
theorem form_no {K : PySem.W.Frag} (h : formsB K = true) {z : Str} (hz : ∀ q ∈ formsT, q.1 ≠ z) : PySem.W.nsIn K (He.ga K "FORMS") z = some none := by
  have h2 := (He.ba h).2
  split at h2
  · rename_i c dd es n sl e2
    obtain ⟨h3, h4⟩ := He.ba h2
    unfold PySem.W.nsIn
    rw [e2]
    have hf : es.toList.find? (·.key.isStr z) = none := by
      refine List.find?_eq_none.mpr fun e he hk => ?_
      obtain ⟨q, hq, e3⟩ := List.any_eq_true.mp (List.all_eq_true.mp h3 e he)
      exact hz q hq (isStr_inj e3 hk)
    simp only [hf]
    rw [if_neg (by simpa using h4)]
  · cases h2
theorem numT_len {t : Str} {i : Int} (h : NumT t i) : t.length ≤ 13 := by
  obtain ⟨h1, h2, h3⟩ := h
  rw [h1, TL.len_tl, tl_pos h2]
  exact TL.numL_len (by decide) (by omega)
def numF (t : Str) : Option Int := if t.length ≤ 13 then (match intText? t with | some i => if 0 ≤ i ∧ i ≤ 9999 ∧ num i = t then some i else none | none => none) else none
theorem numF_some {t : Str} {i : Int} (h : NumT t i) (hi : i ≤ 9999) : numF t = some i := by
  unfold numF
  rw [if_pos (numT_len h)]
  obtain ⟨h1, h2, h3⟩ := h
  have e : i = ((i.toNat : Nat) : Int) := by omega
  have l : (TL.numL i.toNat).length ≤ 13 := TL.numL_len (by decide) (by omega)
  have k := TL.int_num (n := i.toNat) (by omega)
  rw [← e] at k
  have k : intText? t = some i := by rw [h1]; exact k
  rw [k]
  exact if_pos ⟨h2, hi, h1.symm⟩
theorem numF_ok {t : Str} {i : Int} (h : numF t = some i) : NumT t i ∧ i ≤ 9999 := by
  unfold numF at h
  split at h
  · split at h
    · split at h
      · rename_i z
        cases h
        exact ⟨⟨z.2.2.symm, z.1, by omega⟩, z.2.1⟩
      · cases h
    · cases h
  · cases h
theorem numF_none {t : Str} (h : numF t = none) (i : Int) : ¬ (NumT t i ∧ i ≤ 9999) := fun ⟨a, b⟩ => by
  rw [numF_some a b] at h
  cases h
def numsF : List Str → Option (List Int)
  | [] => some []
  | t :: ts => match numF t, numsF ts with
    | some i, some is => some (i :: is)
    | _, _ => none
theorem numsF_some : ∀ {ts : List Str} {ns : List Int}, ts.length = ns.length → (∀ (j : Nat) (x : Str) (i : Int), ts[j]? = some x → ns[j]? = some i → NumT x i) → (∀ n ∈ ns, n ≤ 9999) → numsF ts = some ns
  | [], [], _, _, _ => rfl
  | [], _ :: _, l, _, _ => nomatch l
  | _ :: _, [], l, _, _ => nomatch l
  | t :: ts, n :: ns, l, h, b => by
    unfold numsF
    rw [numF_some (h 0 t n rfl rfl) (b n List.mem_cons_self), numsF_some (Nat.succ.inj l) (fun j x i hx hi => h (j + 1) x i hx hi) fun m hm => b m (List.mem_cons_of_mem _ hm)]
theorem numsF_ok : ∀ {ts : List Str} {ns : List Int}, numsF ts = some ns → ts.length = ns.length ∧ (∀ (j : Nat) (x : Str) (i : Int), ts[j]? = some x → ns[j]? = some i → NumT x i) ∧ ∀ n ∈ ns, n ≤ 9999
  | [], ns, h => by
    cases h
    exact ⟨rfl, fun j x i hx => by simp at hx, fun n hn => nomatch hn⟩
  | t :: ts, ns, h => by
    unfold numsF at h
    cases e1 : numF t with
    | none => rw [e1] at h; cases h
    | some i =>
      cases e2 : numsF ts with
      | none => rw [e1, e2] at h; cases h
      | some is =>
        rw [e1, e2] at h
        cases h
        obtain ⟨g1, g2, g3⟩ := numsF_ok e2
        obtain ⟨k1, k2⟩ := numF_ok e1
        refine ⟨congrArg (· + 1) g1, fun j x i' hx hi => ?_, fun n hn => ?_⟩
        · cases j with
          | zero =>
            cases hx
            cases hi
            exact k1
          | succ j => exact g2 j x i' hx hi
        · rcases List.mem_cons.mp hn with rfl | hn
          · exact k2
          · exact g3 n hn
/-- what a text names -/
def procF (t : Str) : Option (List Int) := match Txt.split t "." with
  | x :: ws => if x = ("p" : Str) then numsF ws else none
  | [] => none
theorem procF_some {t : Str} {ns : List Int} (h : ProcT t ns) (b : ∀ n ∈ ns, n ≤ 9999) : procF t = some ns := by
  obtain ⟨ws, e, l, g⟩ := h
  unfold procF
  rw [e]
  exact (if_pos rfl).trans (numsF_some l g b)
theorem procF_ok {t : Str} {ns : List Int} (h : procF t = some ns) : ProcT t ns ∧ ∀ n ∈ ns, n ≤ 9999 := by
  unfold procF at h
  split at h
  · rename_i x ws e
    split at h
    · rename_i z
      obtain ⟨g1, g2, g3⟩ := numsF_ok h
      exact ⟨⟨ws, by rw [e, z], g1, g2⟩, g3⟩
    · cases h
  · cases h
theorem procF_none {t : Str} (h : procF t = none) (ns : List Int) : ¬ (ProcT t ns ∧ ∀ n ∈ ns, n ≤ 9999) := fun ⟨a, b⟩ => by
  rw [procF_some a b] at h
  cases h
def objF (t : Str) : Option (List Int × Int) := match procF (Txt.partition t "#").1, numF (Txt.partition t "#").2.2 with
  | some ns, some i => some (ns, i)
  | _, _ => none
theorem objF_some {t : Str} {ns : List Int} {i : Int} (h : ObjT t ns i) (b : ∀ n ∈ ns ++ [i], n ≤ 9999) : objF t = some (ns, i) := by
  unfold objF
  rw [procF_some h.1 fun n hn => b n (List.mem_append_left _ hn), numF_some h.2 (b i (List.mem_append_right _ List.mem_cons_self))]
theorem objF_ok {t : Str} {ns : List Int} {i : Int} (h : objF t = some (ns, i)) : ObjT t ns i ∧ ∀ n ∈ ns ++ [i], n ≤ 9999 := by
  unfold objF at h
  cases e1 : procF (Txt.partition t "#").1 with
  | none => rw [e1] at h; cases h
  | some ms =>
    cases e2 : numF (Txt.partition t "#").2.2 with
    | none => rw [e1, e2] at h; cases h
    | some k =>
      rw [e1, e2] at h
      cases h
      obtain ⟨a1, a2⟩ := procF_ok e1
      obtain ⟨b1, b2⟩ := numF_ok e2
      refine ⟨⟨a1, b1⟩, fun n hn => ?_⟩
      rcases List.mem_append.mp hn with h | h
      · exact a2 n h
      · rw [List.mem_singleton.mp h]
        exact b2
theorem objF_none {t : Str} (h : objF t = none) (ns : List Int) (i : Int) : ¬ (ObjT t ns i ∧ ∀ n ∈ ns ++ [i], n ≤ 9999) := fun ⟨a, b⟩ => by
  rw [objF_some a b] at h
  cases h
def partF (r t : Str) : Option PyData :=
  if r = ("process" : Str) then (procF t).map fun ns => .tuple (ns.map .int) else if r = ("object" : Str) then (objF t).map fun x => .tuple [.tuple (x.1.map .int), .int x.2] else (numF t).map .int
def partsF : List Str → List Str → Option (List PyData)
  | r :: rs, t :: ts => match partF r t, partsF rs ts with
    | some d, some ds => some (d :: ds)
    | _, _ => none
  | [], [] => some []
  | _, _ => none
/-- what a line is read as -/
def cmdF (t : Str) : Option PyData :=
  if t = ("" : Str) then some (.tuple []) else
  if (Txt.partition t " ").1 = ("line" : Str) then some (.tuple [.str "line", .str (Txt.partition t " ").2.2]) else
  match formsT.find? (fun q => decide (q.1 = (Txt.partition t " ").1)) with
  | none => none
  | some q => (partsF q.2 (if (Txt.partition t " ").2.1 = ("" : Str) then [] else Txt.split (Txt.partition t " ").2.2 " ")).map fun ds => .tuple (.str q.1 :: ds)
/-- the part that a text is, told by spPart -/
theorem part_sp {r t : Str} {H : Hp} {Q : V → Hp → Prop} {E : XK} (hl : t.length ≤ 10000) (q : ∀ d, partF r t = some d → ∀ v H', Same H H' → Rp K H' v d → Q v H') (qe : partF r t = none → ∀ H', Same H H' → E (.ref (He.ga K "NotAllowed")) none H') : spPart K [.str r, .str t] H Q E := by
  have n1 : ("object" : Str) ≠ ("process" : Str) := by decide +kernel
  refine ⟨r, t, rfl, hl, fun e => ⟨fun ns h b v H' s rv => ?a1, fun no H' s => ?a2⟩, fun e => ⟨fun ns i h b v H' s rv => ?b1, fun no H' s => ?b2⟩, fun e1 e2 => ⟨fun i h b => ?c1, fun no => ?c2⟩⟩
  case a1 =>
    refine q _ ?_ v H' s rv
    unfold partF
    rw [if_pos e, procF_some h b]
    rfl
  case a2 =>
    refine qe ?_ H' s
    unfold partF
    rw [if_pos e]
    cases z : procF t with
    | none => rfl
    | some ns => exact absurd (procF_ok z) (no ns)
  case b1 =>
    refine q _ ?_ v H' s rv
    unfold partF
    rw [e, if_neg n1, if_pos rfl, objF_some h b]
    rfl
  case b2 =>
    refine qe ?_ H' s
    unfold partF
    rw [e, if_neg n1, if_pos rfl]
    cases z : objF t with
    | none => rfl
    | some x => exact absurd (objF_ok (show objF t = some (x.1, x.2) from z)) (no x.1 x.2)
  case c1 =>
    refine q (.int i) ?_ _ H (Same.refl H) (.int i)
    unfold partF
    rw [if_neg e1, if_neg e2, numF_some h b]
    rfl
  case c2 =>
    refine qe ?_ H (Same.refl H)
    unfold partF
    rw [if_neg e1, if_neg e2]
    cases z : numF t with
    | none => rfl
    | some x => exact absurd (numF_ok z) (no x)
theorem partsF_len : ∀ {rs ts : List Str} {ds : List PyData}, partsF rs ts = some ds → ts.length = rs.length
  | [], [], _, _ => rfl
  | [], _ :: _, _, h => nomatch h
  | _ :: _, [], _, h => nomatch h
  | r :: rs, t :: ts, ds, h => by
    unfold partsF at h
    cases e1 : partF r t with
    | none => rw [e1] at h; cases h
    | some d =>
      cases e2 : partsF rs ts with
      | none => rw [e1, e2] at h; cases h
      | some ds' => exact congrArg (· + 1) (partsF_len e2)
theorem partsF_at : ∀ {rs ts : List Str} {ds : List PyData}, partsF rs ts = some ds → ∀ (j : Nat) (r t : Str), rs[j]? = some r → ts[j]? = some t → ∃ d, partF r t = some d ∧ ds[j]? = some d
  | [], [], _, _, j, r, t, hr, _ => by simp at hr
  | [], _ :: _, _, h, _, _, _, _, _ => nomatch h
  | _ :: _, [], _, h, _, _, _, _, _ => nomatch h
  | r :: rs, t :: ts, ds, h, j, r', t', hr, ht => by
    unfold partsF at h
    cases e1 : partF r t with
    | none => rw [e1] at h; cases h
    | some d =>
      cases e2 : partsF rs ts with
      | none => rw [e1, e2] at h; cases h
      | some ds' =>
        rw [e1, e2] at h
        cases h
        cases j with
        | zero =>
          cases hr
          cases ht
          exact ⟨d, e1, rfl⟩
        | succ j => exact partsF_at e2 j r' t' hr ht
theorem partsF_all : ∀ {rs ts : List Str} {ds : List PyData}, ts.length = rs.length → ds.length = rs.length → (∀ (j : Nat) (r t : Str) (d : PyData), rs[j]? = some r → ts[j]? = some t → ds[j]? = some d → partF r t = some d) → partsF rs ts = some ds
  | [], [], [], _, _, _ => rfl
  | [], _ :: _, _, h, _, _ => nomatch h
  | _ :: _, [], _, h, _, _ => nomatch h
  | [], [], _ :: _, _, h, _ => nomatch h
  | _ :: _, _ :: _, [], _, h, _ => nomatch h
  | r :: rs, t :: ts, d :: ds, h, h2, k => by
    unfold partsF
    rw [k 0 r t d rfl rfl rfl, partsF_all (Nat.succ.inj h) (Nat.succ.inj h2) fun j a b c ha hb hc => k (j + 1) a b c ha hb hc]
theorem partsF_none {rs ts : List Str} {j : Nat} {r t : Str} (hr : rs[j]? = some r) (ht : ts[j]? = some t) (h : partF r t = none) : partsF rs ts = none := by
  cases e : partsF rs ts with
  | none => rfl
  | some ds =>
    obtain ⟨d, e1, _⟩ := partsF_at e j r t hr ht
    rw [h] at e1
    cases e1
theorem kdct {w : World} {K : PySem.W.Frag} {d p : Addr} {x : Str} (k : ∃ es n, KDict K w d es n) (h : PySem.W.nsIn K d x = some (some (.ref p))) : KDct K w d x (.ref p) := by
  obtain ⟨es, n, D⟩ := k
  exact ⟨es, n, _, D.at_, D.lit, h, rfl⟩
def spCmd (K : PySem.W.Frag) : Sp := fun vs H Q _ => ∃ (t : Str), vs = [.str t] ∧ t.length ≤ 10000 ∧ ∀ v H', Same H H' → (∀ d, cmdF t = some d → Rp K H' v d) → (cmdF t = none → v = .non) → Q v H'
theorem ok_read_command (T : Txt K mg w a) : FnOk P w K mg base CX0 6 (He.ga K "read_command") a.d_read_command ["line"] (spCmd K) := by
  have gp := ok_read_part (P := P) (w := w) (base := base) T
  refine T.F_read_command.ok sc_read_command (fun vs H Q E h => ?_) (fun cdv A outer s H vs Q E hr h => ?_)
  · obtain ⟨t, rfl, _⟩ := h
    rfl
  · obtain ⟨t, rfl, hl, q⟩ := h
    refine ⟨_, PSs.nox (pss_cons (ps_if (pt_cmpR op_eq (pv 0) pe_str (nomark _)) (pss_one (ps_ret (pe_tup pa_nil))) pss_nil)
      (pss_cons (ps_asg (pe_partition (pv 0) pe_str) (pg_tup (by rfl) (pgs_cons (pg_name (i := 1) sc_read_command.nd rfl (Or.inl rfl)) (pgs_cons (pg_name (i := 2) sc_read_command.nd rfl (Or.inl rfl)) (pgs_cons (pg_name (i := 3) sc_read_command.nd rfl (Or.inl rfl)) pgs_nil)))))
      (pss_cons (ps_if (pt_cmpR op_eq (pv 1) pe_str (nomark _)) (pss_one (ps_ret (pe_tup (pa_cons (pv 1) (pa_cons (pv 3) pa_nil))))) pss_nil)
      (pss_cons (ps_set (i := 4) sc_read_command.nd rfl (Or.inl rfl) (LsX.pe_cutV (pe_ifExp (pt_cmpR op_ne (pv 2) pe_str (nomark _)) (pe_split (pv 3) pe_str) (pe_lst pa_nil))))
      (pss_cons (ps_if (PW.pt (pw_or (pt_cmpR (op_notIn_kd T.k_FORMS.choose_spec.choose_spec) (pv 1) (pe_glob (v := .ref (He.ga K "FORMS")) (by rfl) T.g_FORMS rfl) (by rfl)) (pw_or1 (pt_cmpR op_ne (pe_callB call_len_seq (by rfl) T.g_len boot_len (pa_cons (pv 4) pa_nil)) (pe_callB call_len_seq (by rfl) T.g_len boot_len (pa_cons (pe_ix ix_kdict (pe_glob (v := .ref (He.ga K "FORMS")) (by rfl) T.g_FORMS rfl) (pv 1) (fun _ _ => rfl)) pa_nil)) (nomark _))))) (pss_one (ps_ret pe_non)) pss_nil)
      (pss_one (ps_try_only rfl rfl ⟨rfl, by decide, .inl T.g_NotAllowed⟩ takes0 (fun W pn xe tk _ => (pss_one (ps_ret (pe_op (r := rCatA K) op_catA (pe_tup (pa_cons (pv 1) pa_nil)) (pe_callTy (r := RComp.rTupOf K) call_tuple_of (by rfl) T.g_tuple boot_tuple (pa_cons (RComp.pe_lcRS (W := W) (wi := ZipM.iZipM K (tCons (tOp (rIxD K w) (tC (.ref (He.ga K "FORMS"))) (tVar 1)) (tCons (tVar 4) tNil))) (own := [("role", 5), ("part", 6)]) (g := gTup K 2 (gCons (gName 5) (gCons (gName 6) gNil))) (tt := tYes) (by rfl) (by rfl) tk (by rfl) sc_read_command.nd (ZipM.pi_zipM (by rfl) T.g_zip (pa_cons (pe_ix ix_kdict (pe_glob (v := .ref (He.ga K "FORMS")) (by rfl) T.g_FORMS rfl) (pv 1) (fun _ _ => rfl)) (pa_cons (pv 4) pa_nil))) (blkOk_by (own := [("role", 5), ("part", 6)]) (N := N_read_command) (sc := defScope s_read_command) (by decide +kernel)) (fun _ _ _ _ _ _ => (pg_tup (by rfl) (pgs_cons (pg_name (i := 5) sc_read_command.nd rfl (Or.inl rfl)) (pgs_cons (pg_name (i := 6) sc_read_command.nd rfl (Or.inl rfl)) pgs_nil)))) (fun _ _ _ _ _ _ => pts_nil) (fun E _ _ _ _ _ _ hp => (pe_call gp (hr.mono (by omega)) (by rfl) T.g_read_part T.F_read_part.kp T.b_read_part .nil hp (pa_cons (pv 5) (pa_cons (pv 6) pa_nil))))) pa_nil))))))
      (fun a oe cls d pn _ _ => (pss_one (ps_ret pe_non)))))))))), ?_⟩
    rw [show L2.start N_read_command [.str t] = [some (.str t), none, none, none, none, none, none] from rfl]
    refine ⟨_, rfl, rfl, _, rfl, Cm.itES (fun e => ?_) fun e => ?_⟩
    · refine ⟨Nat.zero_le _, fun p np => ?_⟩
      have z : cmdF t = some (.tuple []) := by
        unfold cmdF
        exact if_pos e
      refine q _ _ (Cm.same_new np) (fun d hd => ?_) fun h => ?_
      · rw [z] at hd
        cases hd
        exact Rp.made np .nil
      · rw [z] at h
        cases h
    obtain ⟨p1, p2⟩ := part_len (t := t) (y := " ") (by decide +kernel)
    refine ⟨_, rfl, ⟨_, rfl⟩, _, _, rfl, rfl, rfl, (by rw [sizeLine_eq]; omega), fun d nd => ?_⟩
    have s1 := Cm.same_new (o := .tup [V.str (Txt.partition t " ").1, V.str (Txt.partition t " ").2.1, V.str (Txt.partition t " ").2.2]) nd
    refine ⟨d, _, rfl, Cm.sqt_new, rfl, _, _, rfl, _, _, rfl, _, _, rfl, rfl, ?_⟩
    generalize L2.upd H d _ = H1 at *
    simp only [gName, List.set_cons_succ, List.set_cons_zero]
    have ec : cmdF t = if (Txt.partition t " ").1 = ("line" : Str) then some (.tuple [.str "line", .str (Txt.partition t " ").2.2]) else
        match formsT.find? (fun q => decide (q.1 = (Txt.partition t " ").1)) with
        | none => none
        | some q => (partsF q.2 (if (Txt.partition t " ").2.1 = ("" : Str) then [] else Txt.split (Txt.partition t " ").2.2 " ")).map fun ds => .tuple (.str q.1 :: ds) := by
      unfold cmdF
      exact if_neg e
    generalize (Txt.partition t " ").1 = word at *
    generalize (Txt.partition t " ").2.1 = space at *
    generalize (Txt.partition t " ").2.2 = rest at *
    refine ⟨_, rfl, rfl, _, rfl, Cm.itES (fun e1 => ?_) fun e1 => ?_⟩
    · rw [if_pos e1] at ec
      refine ⟨_, rfl, _, rfl, Cm.small (by show 2 ≤ 100000; decide), fun p np => ?_⟩
      refine q _ _ (s1.trans (Cm.same_new np)) (fun d hd => ?_) fun h => ?_
      · rw [ec] at hd
        cases hd
        rw [e1]
        exact Rp.made np (.cons (.str _) (.cons (.str _) .nil))
      · rw [ec] at h
        cases h
    rw [if_neg e1] at ec
    refine ⟨fun x G => ∃ (pl : Addr) (ps : List Str), x = .ref pl ∧ Same H1 G ∧ G pl = some (.lst (ps.map V.str)) ∧ ps = (if space = ("" : Str) then [] else Txt.split rest " ") ∧ ps.length ≤ 10001 ∧ ∀ x ∈ ps, x.length ≤ 10000, ⟨_, rfl, rfl, _, rfl, Cm.itNS (fun e2 => ?_) fun e2 => ?_⟩, fun x H2 ⟨pl, ps, ex, s2, hpl, eps, lps, hps⟩ => ?_⟩
    · obtain ⟨f1, f2, f3⟩ := split_facts (t := rest) (y := " ") (by decide +kernel) (by decide +kernel)
      refine ⟨_, rfl, ⟨_, rfl⟩, _, _, rfl, rfl, rfl, (by rw [sizeLine_eq]; omega), fun pl npl => ?_⟩
      exact ⟨pl, _, rfl, Cm.same_new npl, upd_same, (if_neg e2).symm, by omega, fun x hx => by have := f3 x hx; omega⟩
    · refine ⟨Nat.zero_le _, fun pl npl => ?_⟩
      exact ⟨pl, [], rfl, Cm.same_new npl, upd_same, (if_pos e2).symm, by decide, fun x hx => nomatch hx⟩
    subst ex
    rw [← eps] at ec
    simp only [gName, List.set_cons_succ, List.set_cons_zero]
    cases hf : formsT.find? (fun q => decide (q.1 = word)) with
    | none =>
      rw [hf] at ec
      have hns := form_no (K := K) (z := word) T.p_FORMS fun f hq e2 => by
        have := List.find?_eq_none.mp hf f hq
        exact this (decide_eq_true e2)
      refine ⟨_, rfl, word, none, rfl, rfl, hns, _, rfl, Cm.itB (fun _ => ?_) fun e => absurd e (by decide)⟩
      refine Cm.itB (fun _ => ?_) fun e => absurd e (by decide)
      exact q _ H2 (s1.trans s2) (fun d hd => by rw [ec] at hd; cases hd) fun _ => rfl
    | some f =>
      rw [hf] at ec
      have hq := List.mem_of_find?_eq_some hf
      have e2 : f.1 = word := by simpa using List.find?_some hf
      obtain ⟨fp, hns, hfp⟩ := form_at (K := K) T.p_FORMS hq
      rw [e2] at hns
      have kf : KDct K w (He.ga K "FORMS") word (.ref fp) := kdct T.k_FORMS hns
      have ec : cmdF t = (partsF f.2 ps).map fun ds => .tuple (.str word :: ds) := by rw [ec, ← e2]
      refine ⟨_, rfl, word, _, rfl, rfl, hns, _, rfl, Cm.itB (fun e => absurd (show false = true from e) (by decide)) fun _ => ?_⟩
      refine ⟨_, rfl, pl, _, rfl, .inl (SqL.of hpl), _, rfl, _, word, .ref fp, rfl, rfl, kf, fp, _, rfl, .inr (hfp H2), rfl, _, rfl, Cm.itBn (fun e3 => ?_) fun e3 => ?_⟩
      · refine q _ H2 (s1.trans s2) (fun d hd => ?_) fun _ => rfl
        rw [ec] at hd
        cases z : partsF f.2 ps with
        | none => rw [z] at hd; cases hd
        | some ds =>
          have := partsF_len z
          rw [List.length_map, List.length_map, this] at e3
          simp at e3
      · have el : f.2.length = ps.length := by
          have e4 := of_decide_eq_true e3
          rw [List.length_map, List.length_map] at e4
          exact (Int.ofNat.inj (V.int.inj e4)).symm
        refine ⟨_, rfl, Cm.small (by show 1 ≤ 100000; decide), fun wp nwp => ?_⟩
        have s3 := Cm.same_new (o := .tup [.str word]) nwp
        have hwp : (L2.upd H2 wp (.tup [.str word])) wp = some (.tup [.str word]) := upd_same
        generalize L2.upd H2 wp _ = H3 at *
        refine ⟨_, rfl, _, word, .ref fp, rfl, rfl, kf, _, rfl, fp, pl, _, _, rfl, hfp H3, SqL.of (s3 _ _ hpl), fun D nD => ?_⟩
        refine ZipM.lc_zipM (K := K) (a := fp) (b := pl) (xs := f.2.map V.str) (ys := ps.map V.str) (by rw [List.length_map, List.length_map]; exact el) (fun j Hj => Same H3 Hj ∧ ∃ (us : List V) (ds : List PyData), us.length = j ∧ ds.length = j ∧ Hj D = some (.lst us) ∧ Rps K Hj us ds ∧ ∀ (k : Nat) (r x : Str) (d : PyData), f.2[k]? = some r → ps[k]? = some x → ds[k]? = some d → partF r x = some d) ⟨Cm.same_new nD, [], [], rfl, rfl, upd_same, .nil, fun k r x d _ _ h => by simp at h⟩ (fun j Hj b => ⟨hfp Hj, SqL.of (b.1 _ _ (s3 _ _ hpl))⟩) (fun j y1 y2 T2 Hj hy1 hy2 ⟨sJ, us, ds, lu, ld, hD, rv, hN⟩ nT => ?_) fun Hj ⟨sJ, us, ds, lu, ld, hD, rv, hN⟩ => ?_
        · rw [List.getElem?_map] at hy1 hy2
          obtain ⟨r, hr1, rfl⟩ := Option.map_eq_some_iff.mp hy1
          obtain ⟨x, hx, rfl⟩ := Option.map_eq_some_iff.mp hy2
          refine ⟨T2, _, rfl, Cm.sqt_new, rfl, _, _, rfl, _, _, rfl, rfl, rfl, ?_⟩
          refine ⟨_, rfl, _, rfl, ?_⟩
          dsimp only [tNil]
          refine part_sp (hps x (List.mem_of_getElem? hx)) (fun d hd v H5 s5 rd => ?_) fun hno H5 s5 => ?_
          · have s6 := sJ.trans ((Cm.same_new nT).trans s5)
            have h5 : H5 D = some (.lst us) := s5 _ _ (Cm.same_new nT _ _ hD)
            have lj : j < ps.length := (List.getElem?_eq_some_iff.mp hx).1
            have kt : Tups H5 (L2.upd H5 D (.lst (us ++ [v]))) := Keep.tups (fun b o hb ne => (upd_ne ne).trans hb) h5
            refine ⟨us, h5, Cm.smallL (by omega), Cm.same_mut s6 nD, us ++ [v], ds ++ [d], by rw [List.length_append, lu]; rfl, by rw [List.length_append, ld]; rfl, upd_same, Rps.app ((rv.keep (Same.tups ((Cm.same_new nT).trans s5))).keep kt) (.cons (rd.keep kt) .nil), fun k r' x' d' hr' hx' hd' => ?_⟩
            by_cases z : k < ds.length
            · rw [List.getElem?_append_left z] at hd'
              exact hN k r' x' d' hr' hx' hd'
            · have hk' := (List.getElem?_eq_some_iff.mp hd').1
              rw [List.length_append, List.length_singleton] at hk'
              obtain rfl : k = ds.length := by omega
              rw [List.getElem?_append_right (Nat.le_refl _), Nat.sub_self] at hd'
              cases hd'
              rw [ld, hx] at hx'
              rw [ld, hr1] at hr'
              cases hx'
              cases hr'
              exact hd
          · refine ⟨true, T.e1_, fun _ a' na => ?_, fun z => absurd z (by decide)⟩
            refine q _ H5 (((s1.trans s2).trans s3).trans (sJ.trans ((Cm.same_new nT).trans s5))) (fun d hd => ?_) fun _ => rfl
            rw [ec, partsF_none hr1 hx hno] at hd
            cases hd
        · rw [List.length_map] at lu ld
          refine ⟨D, _, rfl, .inl ⟨SqL.of hD, fun l nl => ?_⟩⟩
          have z : partsF f.2 ps = some ds := partsF_all el.symm ld hN
          have rw' : Rp K H3 (.ref wp) (.tuple [.str word]) := .tup (.inl (.inl hwp)) (.cons (.str word) .nil)
          have s4 := sJ.trans (Cm.same_new (o := .tup us) nl)
          refine cat_rp (rw'.keep (Same.tups s4)) (Rp.made nl rv) (by show 1 + ds.length ≤ 10000000; omega) fun v4 H4 s5 r4 => ?_
          refine q _ _ (((s1.trans s2).trans s3).trans (s4.trans s5)) (fun d hd => ?_) fun h => ?_
          · rw [ec, z] at hd
            cases hd
            exact r4
          · rw [ec, z] at h
            cases h
/-! ### the row of numbers -/
def RowOk (ns : List Int) : Prop := ns.length ≤ 4000 ∧ ∀ n ∈ ns, 0 ≤ n ∧ n < 1009
def spRow (K : PySem.W.Frag) : Sp := fun vs H Q _ => ∃ (a : Addr) (ss : List Int), vs = [.ref a] ∧ SqL K H a (ss.map V.int) ∧ ss.length ≤ 63 ∧
  ∀ (H' : Hp) (p : Addr) (ns : List Int), Same H H' → H p = none → H' p = some (.lst (ns.map V.int)) → RowOk ns → Q (.ref p) H'
theorem m1009 (x : Int) : 0 ≤ x % 1009 ∧ x % 1009 < 1009 := by omega
theorem ok_lw_row (T : Txt K mg w a) : FnOk P w K mg base CX0 1 (He.ga K "_law_row") a.d_lw_row ["script"] (spRow K) := by
  refine T.F_lw_row.ok sc_lw_row (fun vs H Q E h => ?_) (fun cdv A outer s H vs Q E hr h => ?_)
  · obtain ⟨_, _, rfl, _⟩ := h
    rfl
  obtain ⟨sa, ss, rfl, hs, hl, q⟩ := h
  refine ⟨_, PSs.nox (pss_cons (ps_set (i := 1) sc_lw_row.nd rfl (Or.inl rfl) (pe_lst pa_nil))
      (pss_cons (ps_for PassesOwn.never rfl (pi_range1 (by rfl) T.g_range (pa_cons (pe_callB call_len_seq (by rfl) T.g_len boot_len (pa_cons (pv 0) pa_nil)) pa_nil)) (pg_name (i := 2) sc_lw_row.nd rfl (Or.inl rfl))
      (pss_cons (ps_set (i := 3) sc_lw_row.nd rfl (Or.inl rfl) (pe_callB call_abs (by rfl) T.g_abs boot_abs (pa_cons (pe_callTy call_int1 (by rfl) T.g_int boot_int (pa_cons (pe_ix ix_list (pv 0) (pv 2) (fun _ _ => rfl)) pa_nil)) pa_nil)))
      (pss_one (ps_if (pt_cmpR op_ge (pv 3) (pe_op op_pow pe_int pe_int) (nomark _)) (pss_one (ps_for PassesOwn.never rfl (pi_range1 (by rfl) T.g_range (pa_cons pe_int pa_nil)) (pg_name (i := 4) sc_lw_row.nd rfl (Or.inl rfl))
      (pss_one (ps_if (pt_cmpR op_gt (pv 3) pe_int (nomark _)) (pss_cons (ps_expr (pe_bm PySem.F.plainAttrs_list PySem.F.slot_list_append PySem.F.type_list_append mt_append (pv 1) (pa_cons (pe_op op_mod (pe_callTy call_int1 (by rfl) T.g_int boot_int (pa_cons (pv 3) pa_nil)) pe_int) pa_nil)))
      (pss_one (ps_set (i := 3) sc_lw_row.nd rfl (Or.inl rfl) (pe_op op_fdiv (pv 3) pe_int)))) pss_nil)))) (pss_cons (ps_set (i := 5) sc_lw_row.nd rfl (Or.inl rfl) (pe_op op_mod (pe_callTy call_int1 (by rfl) T.g_int boot_int (pa_cons (pe_op op_add (pe_op op_add (pe_op op_mul (pv 3) pe_int) (pe_op op_mul (pv 2) pe_int)) pe_int) pa_nil)) pe_int))
      (pss_one (ps_for PassesOwn.never rfl (pi_range1 (by rfl) T.g_range (pa_cons pe_int pa_nil)) (pg_name (i := 4) sc_lw_row.nd rfl (Or.inl rfl))
      (pss_cons (ps_set (i := 5) sc_lw_row.nd rfl (Or.inl rfl) (pe_op op_mod (pe_callTy call_int1 (by rfl) T.g_int boot_int (pa_cons (pe_op op_add (pe_op op_add (pe_op op_mul (pv 5) pe_int) (pe_op op_mul pe_int (pv 4))) pe_int) pa_nil)) pe_int))
      (pss_one (ps_expr (pe_bm PySem.F.plainAttrs_list PySem.F.slot_list_append PySem.F.type_list_append mt_append (pv 1) (pa_cons (pe_op op_mod (pe_callTy call_int1 (by rfl) T.g_int boot_int (pa_cons (pe_op op_fdiv (pv 5) pe_int) pa_nil)) pe_int) pa_nil))))))))))))
      (pss_one (ps_ret (pv 1))))), ?_⟩
  refine ⟨Nat.zero_le _, fun p np => ?_⟩
  have s0 : Same H (upd H p (.lst [])) := Cm.same_new np
  refine ⟨_, rfl, sa, _, rfl, .inl (s0.seq hs), _, rfl, (by rw [List.length_map]; omega), (by rw [List.length_map]; omega), ?_⟩
  refine for_range (fun i σ H2 => ∃ (ns : List Int) (x2 x3 x4 x5 : Option V), σ = [some (.ref sa), some (.ref p), x2, x3, x4, x5] ∧ Same H H2 ∧ H2 p = some (.lst (ns.map V.int)) ∧ ns.length ≤ 40 * i ∧ ∀ n ∈ ns, 0 ≤ n ∧ n < 1009)
    ⟨[], none, none, none, none, rfl, s0, upd_same, Nat.zero_le _, fun n h => nomatch h⟩ (fun i σ H2 hi ⟨ns, x2, x3, x4, x5, e, s2, hp, hn, ha⟩ => ?_) fun σ H2 ⟨ns, x2, x3, x4, x5, e, s2, hp, hn, ha⟩ => ?_
  · subst e
    have hi' : i < ss.length := by
      have h := hi
      rw [List.length_map] at h
      omega
    have hi63 : i < 63 := by omega
    obtain ⟨c, _, ec⟩ := Cm.at_int (ns := ss) (i := 0 + (i : Int)) (by omega) (by omega)
    have more : ∀ {ns : List Int} {x : Int}, (∀ n ∈ ns, 0 ≤ n ∧ n < 1009) → ∀ n ∈ ns ++ [x % 1009], 0 ≤ n ∧ n < 1009 := fun {ns x} h n hm => by
      rcases List.mem_append.mp hm with h2 | h2
      · exact h n h2
      · rw [List.mem_singleton.mp h2]
        exact m1009 x
    refine ⟨_, rfl, _, rfl, sa, _, _, _, rfl, rfl, s2.seq hs, ec, .inl ⟨_, rfl, _, rfl, ?_⟩⟩
    refine ⟨_, rfl, _, _, rfl, rfl, ⟨by decide, by decide, by decide⟩, _, _, rfl, rfl, _, rfl, Cm.itD (fun _ => ?_) fun _ => ?_⟩
    · refine ⟨_, rfl, (by decide), (by decide), ?_⟩
      refine for_range (fun j σ H3 => ∃ (ns : List Int) (cell : Int) (x4 : Option V), σ = [some (.ref sa), some (.ref p), some (.int (0 + (i : Int))), some (.int cell), x4, x5] ∧ Same H H3 ∧ H3 p = some (.lst (ns.map V.int)) ∧ ns.length ≤ 40 * i + j ∧ ∀ n ∈ ns, 0 ≤ n ∧ n < 1009)
        ⟨ns, _, _, rfl, s2, hp, (by omega), ha⟩ (fun j σ H3 hj ⟨ns, cell, x4, e, s3, hp3, hn3, ha3⟩ => ?_) fun σ H3 ⟨ns, cell, x4, e, s3, hp3, hn3, ha3⟩ => ?_
      · subst e
        have hj' : j < 40 := hj
        refine ⟨_, rfl, _, _, rfl, rfl, _, rfl, Cm.itD (fun _ => ?_) (fun _ => ?_)⟩
        · refine ⟨_, rfl, .inl ⟨rfl, _, SqL.of hp3⟩, _, rfl, .inl ⟨_, rfl, _, _, rfl, rfl, (by show (0 : Int) < 1009; decide), ?_⟩⟩
          refine ⟨p, _, _, rfl, rfl, hp3, Cm.smallL (by rw [List.length_map]; omega), ?_⟩
          refine ⟨_, rfl, _, _, rfl, rfl, ⟨by decide, by decide⟩, ?_⟩
          refine ⟨ns ++ [cell % 1009], _, _, rfl, Cm.same_mut s3 np, ?_, by rw [List.length_append, List.length_singleton]; omega, more ha3⟩
          rw [upd_same, List.map_append]
          rfl
        · exact ⟨ns, cell, _, rfl, s3, hp3, by omega, ha3⟩
      · subst e
        exact ⟨ns, _, _, _, _, rfl, s3, hp3, (by have h40 : ns.length ≤ 40 * i + 40 := hn3; omega), ha3⟩
    · refine ⟨_, rfl, _, _, rfl, rfl, .inr ⟨by decide, by decide⟩, _, rfl, _, _, rfl, rfl, .inr ⟨by decide, by decide⟩, _, _, rfl, rfl, _, _, rfl, rfl, .inl ⟨_, rfl, _, _, rfl, rfl, (by show (0 : Int) < 2147483647; decide), ?_⟩⟩
      refine ⟨_, rfl, (by decide), (by decide), ?_⟩
      refine for_range (fun j σ H3 => ∃ (ns : List Int) (m : Int) (x4 : Option V), σ = [some (.ref sa), some (.ref p), some (.int (0 + (i : Int))), some (.int (if c < 0 then -c else c)), x4, some (.int m)] ∧ Same H H3 ∧ H3 p = some (.lst (ns.map V.int)) ∧ ns.length ≤ 40 * i + j ∧ ∀ n ∈ ns, 0 ≤ n ∧ n < 1009)
        ⟨ns, _, _, rfl, s2, hp, (by omega), ha⟩ (fun j σ H3 hj ⟨ns, m, x4, e, s3, hp3, hn3, ha3⟩ => ?_) fun σ H3 ⟨ns, m, x4, e, s3, hp3, hn3, ha3⟩ => ?_
      · subst e
        have hj' : j < 6 := hj
        refine ⟨_, rfl, _, _, rfl, rfl, .inr ⟨by decide, by decide⟩, _, rfl, _, _, rfl, rfl, .inl ⟨by decide, by decide⟩, _, _, rfl, rfl, _, _, rfl, rfl, .inl ⟨_, rfl, _, _, rfl, rfl, (by show (0 : Int) < 2147483647; decide), ?_⟩⟩
        refine ⟨_, rfl, .inl ⟨rfl, _, SqL.of hp3⟩, _, rfl, _, _, rfl, rfl, ⟨by decide, by decide⟩, .inl ⟨_, rfl, _, _, rfl, rfl, (by show (0 : Int) < 1009; decide), ?_⟩⟩
        refine ⟨p, _, _, rfl, rfl, hp3, Cm.smallL (by rw [List.length_map]; omega), ?_⟩
        refine ⟨ns ++ [(m * 16807 + 11 * (0 + (j : Int)) + 1) % 2147483647 / 7 % 1009], _, _, rfl, Cm.same_mut s3 np, ?_, by rw [List.length_append, List.length_singleton]; omega, more ha3⟩
        rw [upd_same, List.map_append]
        rfl
      · subst e
        exact ⟨ns, _, _, _, _, rfl, s3, hp3, (by have h6 : ns.length ≤ 40 * i + 6 := hn3; omega), ha3⟩
  · subst e
    refine ⟨_, rfl, q H2 p ns s2 np hp ⟨?_, ha⟩⟩
    rw [List.length_map, Int.toNat_natCast] at hn
    omega
def spAt (K : PySem.W.Frag) : Sp := fun vs H Q _ => ∃ (a : Addr) (ns : List Int) (i : Int), vs = [.ref a, .int i] ∧ SqL K H a (ns.map V.int) ∧ (∀ n ∈ ns, 0 ≤ n ∧ n < 1009) ∧ ∀ n : Int, 0 ≤ n → n < 1009 → Q (.int n) H
theorem ok_lw_at (T : Txt K mg w a) : FnOk P w K mg base CX0 1 (He.ga K "_law_at") a.d_lw_at ["row", "at"] (spAt K) := by
  refine T.F_lw_at.ok sc_lw_at (fun vs H Q E h => ?_) (fun cdv A outer s H vs Q E hr h => ?_)
  · obtain ⟨_, _, _, rfl, _⟩ := h
    rfl
  obtain ⟨ra, ns, i, rfl, hr, ha, q⟩ := h
  refine ⟨_, PSs.nox (pss_cons (ps_if (pt_chain op_le op_lt pe_int (pv 1) (pe_callB call_len_seq (by rfl) T.g_len boot_len (pa_cons (pv 0) pa_nil))) (pss_one (ps_ret (pe_ix ix_list (pv 0) (pv 1) (fun _ _ => rfl)))) pss_nil)
      (pss_one (ps_ret pe_int))), ?_⟩
  refine ⟨_, rfl, _, _, rfl, rfl, _, rfl, Cm.itD (fun h0 => ⟨_, rfl, ra, _, rfl, .inl hr, _, _, rfl, rfl, _, rfl, Cm.itD (fun h1 => ?_) (fun _ => q 0 (by decide) (by decide))⟩) (fun _ => ⟨_, rfl, Cm.itB (fun z => nomatch z) (fun _ => q 0 (by decide) (by decide))⟩)⟩
  rw [List.length_map] at h1
  obtain ⟨n, hn, e⟩ := Cm.at_int (ns := ns) (i := i) h0 h1
  exact ⟨_, rfl, _, rfl, ra, _, _, _, rfl, rfl, hr, e, q n (ha n hn).1 (ha n hn).2⟩
def NmB (ns : List Int) : Prop := ns.length ≤ 4 ∧ ∀ n ∈ ns, 0 ≤ n ∧ n ≤ 9999
def spNumb (K : PySem.W.Frag) : Sp := fun vs H Q _ => ∃ (a : Addr) (ns : List Int) (i : Int), vs = [.ref a, .int i] ∧ SqL K H a (ns.map V.int) ∧ (∀ n ∈ ns, 0 ≤ n ∧ n < 1009) ∧ ∀ (n : Int) (H' : Hp), Same H H' → 0 ≤ n → n ≤ 9999 → Q (.int n) H'
theorem ok_lw_number (T : Txt K mg w a) : FnOk P w K mg base CX0 2 (He.ga K "_law_number") a.d_lw_number ["row", "at"] (spNumb K) := by
  have gat := ok_lw_at (P := P) (w := w) (base := base) T
  refine T.F_lw_number.ok sc_lw_number (fun vs H Q E h => ?_) (fun cdv A outer s H vs Q E hr h => ?_)
  · obtain ⟨_, _, _, rfl, _⟩ := h
    rfl
  obtain ⟨ra, ns, i, rfl, hra, ha, q⟩ := h
  refine ⟨_, PSs.nox (pss_cons (ps_set (i := 2) sc_lw_number.nd rfl (Or.inl rfl) (pe_callTy call_int1 (by rfl) T.g_int boot_int (pa_cons (pe_call gat (hr.mono (by omega)) (by rfl) T.g_lw_at T.F_lw_at.kp T.b_lw_at .nil pass0 (pa_cons (pv 0) (pa_cons (pv 1) pa_nil))) pa_nil)))
      (pss_one (ps_ret (pe_ix ix_list (pe_lst (pa_cons (pv 2) (pa_cons pe_int (pa_cons pe_int (pa_cons (pe_op op_mul (pv 2) pe_int) (pa_cons pe_int pa_nil)))))) (pe_op op_mod (pe_op op_fdiv (pv 2) pe_int) pe_int) (fun _ _ => rfl))))), ?_⟩
  refine ⟨_, rfl, _, rfl, ra, ns, i, rfl, hra, ha, fun n h0 h1 => .inl ⟨_, rfl, ?_⟩⟩
  refine ⟨_, rfl, _, rfl, _, _, rfl, rfl, .inr ⟨by decide, by decide⟩, Cm.small (by show 5 ≤ 100000; decide), fun p np => ?_⟩
  have s1 := Cm.same_new (o := .lst [V.int n, V.int 0, V.int 9999, V.int (n * 9), V.int 10]) np
  have hp : (L2.upd H p (.lst [V.int n, V.int 0, V.int 9999, V.int (n * 9), V.int 10])) p = some (.lst [V.int n, V.int 0, V.int 9999, V.int (n * 9), V.int 10]) := upd_same
  refine ⟨_, rfl, _, _, rfl, rfl, ⟨by decide, by decide⟩, _, _, rfl, rfl, (by show (0 : Int) < 5; decide), ?_⟩
  have h5 : n / 7 % 5 = ((0 : Nat) : Int) ∨ n / 7 % 5 = ((1 : Nat) : Int) ∨ n / 7 % 5 = ((2 : Nat) : Int) ∨ n / 7 % 5 = ((3 : Nat) : Int) ∨ n / 7 % 5 = ((4 : Nat) : Int) := by omega
  rcases h5 with e | e | e | e | e
  · exact ⟨p, _, _, _, rfl, congrArg V.int e, SqL.of hp, atI_nat (j := 0) rfl, q n _ s1 h0 (by omega)⟩
  · exact ⟨p, _, _, _, rfl, congrArg V.int e, SqL.of hp, atI_nat (j := 1) rfl, q 0 _ s1 (by decide) (by decide)⟩
  · exact ⟨p, _, _, _, rfl, congrArg V.int e, SqL.of hp, atI_nat (j := 2) rfl, q 9999 _ s1 (by decide) (by decide)⟩
  · exact ⟨p, _, _, _, rfl, congrArg V.int e, SqL.of hp, atI_nat (j := 3) rfl, q (n * 9) _ s1 (by omega) (by omega)⟩
  · exact ⟨p, _, _, _, rfl, congrArg V.int e, SqL.of hp, atI_nat (j := 4) rfl, q 10 _ s1 (by decide) (by decide)⟩
def spName (K : PySem.W.Frag) : Sp := fun vs H Q _ => ∃ (a : Addr) (ns : List Int) (i : Int), vs = [.ref a, .int i] ∧ SqL K H a (ns.map V.int) ∧ (∀ n ∈ ns, 0 ≤ n ∧ n < 1009) ∧ ∀ (ms : List Int) (v : V) (H' : Hp), Same H H' → NmB ms → Rp K H' v (.tuple (ms.map .int)) → Q v H'
theorem ok_lw_name (T : Txt K mg w a) : FnOk P w K mg base CX0 3 (He.ga K "_law_name") a.d_lw_name ["row", "at"] (spName K) := by
  have gat := ok_lw_at (P := P) (w := w) (base := base) T
  have gn := ok_lw_number (P := P) (w := w) (base := base) T
  refine T.F_lw_name.ok sc_lw_name (fun vs H Q E h => ?_) (fun cdv A outer s H vs Q E hr h => ?_)
  · obtain ⟨_, _, _, rfl, _⟩ := h
    rfl
  obtain ⟨ra, ns, i, rfl, hra, ha, q⟩ := h
  refine ⟨_, PSs.nox (pss_one (ps_ret (pe_callTy call_tuple_of (by rfl) T.g_tuple boot_tuple (pa_cons (pe_lc (own := [("k", 2)]) (g := gName 2) (tt := tYes)  (by rfl) sc_lw_name.nd (pi_range1 (by rfl) T.g_range (pa_cons (pe_op op_mod (pe_callTy call_int1 (by rfl) T.g_int boot_int (pa_cons (pe_call gat (hr.mono (by omega)) (by rfl) T.g_lw_at T.F_lw_at.kp T.b_lw_at .nil pass0 (pa_cons (pv 0) (pa_cons (pv 1) pa_nil))) pa_nil)) pe_int) pa_nil)) (blkOk_by (own := [("k", 2)]) (N := N_lw_name) (sc := defScope s_lw_name) (by decide +kernel)) (fun _ _ _ _ _ => pg_name (i := 2) sc_lw_name.nd rfl (Or.inl rfl)) (fun _ _ _ _ _ => pts_nil) (fun _ _ _ _ _ => (pe_call gn (hr.mono (by omega)) (by rfl) T.g_lw_number T.F_lw_number.kp T.b_lw_number .nil pass0 (pa_cons (pv 0) (pa_cons (pe_op op_add (pe_op op_add (pv 1) pe_int) (pv 2)) pa_nil))))) pa_nil)))), ?_⟩
  rw [show L2.start N_lw_name [V.ref ra, V.int i] = [some (.ref ra), some (.int i), none] from rfl]
  refine ⟨_, rfl, _, rfl, ra, ns, i, rfl, hra, ha, fun n0 h0 h1 => .inl ⟨_, rfl, _, _, rfl, rfl, (by show (0 : Int) < 5; decide), ?_⟩⟩
  refine ⟨_, rfl, (by omega), (by omega), fun D nD => ?_⟩
  refine lc_range (n := (n0 % 5).toNat) (fun k Hi => Same H Hi ∧ ∃ ms : List Int, Hi D = some (.lst (ms.map V.int)) ∧ ms.length = k ∧ ∀ n ∈ ms, 0 ≤ n ∧ n ≤ 9999) ⟨Cm.same_new nD, [], upd_same, rfl, fun n h => nomatch h⟩ (fun k Hi hk ⟨sH, ms, hD, lm, hm⟩ => ?_) fun Hi ⟨sH, ms, hD, lm, hm⟩ => ?_
  · refine ⟨rfl, ?_⟩
    refine ⟨_, rfl, _, rfl, _, _, rfl, rfl, _, rfl, _, _, rfl, rfl, ra, ns, _, rfl, sH.seq hra, ha, fun n H2 s2 g0 g1 => ?_⟩
    refine ⟨_, s2 _ _ hD, Cm.smallL (by rw [List.length_map]; omega), Cm.same_mut (sH.trans s2) nD, ms ++ [n], by rw [upd_same, List.map_append]; rfl, by rw [List.length_append, lm]; rfl, fun x hx => ?_⟩
    rcases List.mem_append.mp hx with h | h
    · exact hm x h
    · rw [List.mem_singleton.mp h]
      exact ⟨g0, g1⟩
  · refine ⟨D, _, rfl, .inl ⟨SqL.of hD, fun l nl => ?_⟩⟩
    exact q ms _ _ (sH.trans (Cm.same_new nl)) ⟨by omega, hm⟩ (Rp.made nl (ints_rps7 ms))
def spWr (K : PySem.W.Frag) : Sp := fun vs H Q _ => ∃ (v : V) (ns : List Int), vs = [v] ∧ Rp K H v (.tuple (ns.map PyData.int)) ∧ ns.length ≤ 20 ∧ (∀ n ∈ ns, 0 ≤ n ∧ n ≤ 999999) ∧ ∀ H', Same H H' → Q (.str (pX ns)) H'
theorem ok_lw_written (T : Txt K mg w a) : FnOk P w K mg base CX0 1 (He.ga K "_law_written") a.d_lw_written ["name"] (spWr K) := by
  refine T.F_lw_written.ok sc_lw_written (fun vs H Q E h => ?_) (fun cdv A outer s H vs Q E hr h => ?_)
  · obtain ⟨v, ns, rfl, _⟩ := h
    rfl
  · obtain ⟨v, ns, rfl, r, ln, hn, q⟩ := h
    refine ⟨_, PSs.nox (pss_one (ps_ret (pe_op op_add_str pe_str (pe_join pe_str (pe_lc (own := [("number", 1)]) (g := gName 1) (tt := tYes)  (by rfl) sc_lw_written.nd (pi_tup (pv 0)) (blkOk_by (own := [("number", 1)]) (N := N_lw_written) (sc := defScope s_lw_written) (by decide +kernel)) (fun _ _ _ _ _ => pg_name (i := 1) sc_lw_written.nd rfl (Or.inl rfl)) (fun _ _ _ _ _ => pts_nil) (fun _ _ _ _ _ => (pe_op op_add_str pe_str (pe_callTy call_str_int (by rfl) T.g_str boot_str (pa_cons (pv 1) pa_nil))))))))), ?_⟩
    rw [show L2.start N_lw_written [v] = [some v, none] from rfl]
    obtain ⟨pa, xs, rfl, hpa, rs⟩ := r.tup_inv
    refine ⟨⟨_, rfl⟩, _, rfl, pa, rfl, ⟨_, hpa⟩, fun D nD => ?_⟩
    refine lc_tup (K := K) (a := pa) (xs := xs) (fun j Hj => Same H Hj ∧ ∃ bs : List Str, Hj D = some (.lst (bs.map V.str)) ∧ bs = (ns.take j).map (fun n => "." ++ num n) ∧ bs.length ≤ j) ⟨Cm.same_new nD, [], upd_same, rfl, Nat.le_refl _⟩ (fun j Hj _ b => Cm.sameT b.1 hpa) (fun j y Hj hy b => ?_) fun Hj b => ?_
    · obtain ⟨sJ, bs, hD, eb, lb⟩ := b
      refine ⟨rfl, ?_⟩
      have hj : j < ns.length := by
        have := (List.getElem?_eq_some_iff.mp hy).1
        have := rs.len
        rw [List.length_map] at this
        omega
      obtain ⟨y', hy', ry⟩ := rs.at_ (i := j) (d := .int ns[j]) (by rw [List.getElem?_map, List.getElem?_eq_getElem hj]; rfl)
      rw [hy] at hy'
      cases hy'
      obtain rfl := ry.int_inv
      have hb := hn _ (List.getElem_mem hj)
      have l1 := len_pos hb.1 (by omega)

      refine ⟨_, rfl, _, rfl, log_small (by omega) (by omega), _, _, rfl, rfl, (by rw [← app_len]; exact sz (j1 (jL (x := ".") (n := 1) rfl) l1) rfl), ?_⟩
      refine ⟨_, hD, Cm.smallL (by rw [List.length_map]; omega), Cm.same_mut sJ nD, bs ++ ["." ++ num ns[j]], ?_, ?_, by rw [List.length_append]; simp only [List.length_cons, List.length_nil]; omega⟩
      · rw [upd_same, List.map_append]
        rfl
      · rw [List.take_succ, List.getElem?_eq_getElem hj, List.map_append, eb]
        rfl
    · obtain ⟨sJ, bs, hD, eb, lb⟩ := b
      have hl := rs.len
      rw [List.length_map] at hl
      rw [hl, List.take_length] at eb
      have lc := len_pX ln hn
      have e : (Str.ofString "p") ++ Txt.join "" bs = pX ns := by
        rw [e0, pX_eq, cat_cons, eb]
      rw [← e, app_len] at lc
      refine ⟨_, D, bs, rfl, rfl, .inl (SqL.of hD), sum_ok (n := 14) (fun x hx => ?_) (by omega), _, _, rfl, rfl, Cm.small (by omega), ?_⟩
      · rw [eb] at hx
        obtain ⟨n, hn', rfl⟩ := List.mem_map.mp hx
        have hb := hn n hn'
        exact j1 (jL (n := 1) rfl) (len_pos hb.1 (by omega))
      · rw [e]
        exact q _ sJ
/-! ### which texts are names and commands: mathematics -/
theorem split_in {y x r : Str} {s : Nat} (ey : TL.tl y = [s]) (hk : y.cps.all (· < 256) = true) (h : s ∉ TL.tl x) : Txt.split (x ++ y ++ r) y = x :: Txt.split r y := by
  refine TL.map_tl_inj ?_
  rw [TL.split_spl _ y (by rw [ey]; simp) (TL.kind_ok hk), List.map_cons, TL.split_spl _ y (by rw [ey]; simp) (TL.kind_ok hk), TL.tl_append, TL.tl_append, List.append_assoc, ey]
  exact TL.spl_part1 (S := []) h
theorem split_one {y x : Str} {s : Nat} (ey : TL.tl y = [s]) (hk : y.cps.all (· < 256) = true) (h : s ∉ TL.tl x) : Txt.split x y = [x] := by
  have := TL.split_join (y := y) (S := []) ey hk (parts := [x]) (by simp) fun p hp => by rw [List.mem_singleton.mp hp]; exact h
  rw [join_one] at this
  exact this
theorem sd {x : Str} (h : 46 ∉ TL.tl x) (r : Str) : Txt.split (x ++ "." ++ r) "." = x :: Txt.split r "." := split_in rfl (by decide +kernel) h
theorem sd1 {x : Str} (h : 46 ∉ TL.tl x) : Txt.split x "." = [x] := split_one rfl (by decide +kernel) h
theorem ss {x : Str} (h : 32 ∉ TL.tl x) (r : Str) : Txt.split (x ++ " " ++ r) " " = x :: Txt.split r " " := split_in rfl (by decide +kernel) h
theorem ss1 {x : Str} (h : 32 ∉ TL.tl x) : Txt.split x " " = [x] := split_one rfl (by decide +kernel) h
theorem sj {ps : List Str} (ne : ps ≠ []) (h : ∀ p ∈ ps, 32 ∉ TL.tl p) : Txt.split (Txt.join " " ps) " " = ps := TL.split_join (s := 32) (S := []) rfl (by decide +kernel) ne h
theorem pX_split {ns : List Int} (h : ∀ n ∈ ns, 0 ≤ n) (more : List Str) (hm : ∀ p ∈ more, 46 ∉ TL.tl p) : Txt.split (Txt.join "." (("p" : Str) :: (ns.map num ++ more))) "." = ("p" : Str) :: (ns.map num ++ more) :=
  TL.split_join (s := 46) (S := []) rfl (by decide +kernel) (by simp) fun p hp => by
    rcases List.mem_cons.mp hp with rfl | hp
    · decide +kernel
    rcases List.mem_append.mp hp with hp | hp
    · obtain ⟨n, hn, rfl⟩ := List.mem_map.mp hp
      exact num_free (h n hn) (by decide)
    · exact hm p hp
theorem pX_more {ns : List Int} (y : Str) : pX ns ++ "." ++ y = Txt.join "." (("p" : Str) :: (ns.map num ++ [y])) := by
  have := join_app "." (xs := ("p" : Str) :: ns.map num) (ys := [y]) (by simp) (by simp)
  rw [join_one] at this
  exact this.symm
theorem procF_pX {ns : List Int} (h : ∀ n ∈ ns, 0 ≤ n ∧ n ≤ 9999) : procF (pX ns) = some ns := by
  refine procF_some ⟨ns.map num, ?_, List.length_map .., fun j x i hx hi => ?_⟩ fun n hn => (h n hn).2
  · have := pX_split (fun n hn => (h n hn).1) [] (fun _ h => nomatch h)
    rw [List.append_nil] at this
    exact this
  · rw [List.getElem?_map, hi] at hx
    cases hx
    have := h i (List.mem_of_getElem? hi)
    exact ⟨rfl, this.1, by omega⟩
theorem numsF_no : ∀ {ts : List Str} {y : Str}, numF y = none → numsF (ts ++ [y]) = none
  | [], y, h => by
    show numsF [y] = none
    unfold numsF
    rw [h]
  | t :: ts, y, h => by
    show numsF (t :: (ts ++ [y])) = none
    unfold numsF
    rw [numsF_no h]
    cases numF t <;> rfl
theorem procF_more {ns : List Int} {y : Str} (h : ∀ n ∈ ns, 0 ≤ n) (hy : 46 ∉ TL.tl y) (no : numF y = none) : procF (pX ns ++ "." ++ y) = none := by
  unfold procF
  rw [pX_more, pX_split h [y] fun p hp => by rw [List.mem_singleton.mp hp]; exact hy]
  exact (if_pos rfl).trans (numsF_no no)
theorem spl_mem (s : Nat) : ∀ (x acc : List Nat) (c : Nat), c ∈ x → c = s ∨ ∃ y ∈ TL.spl [s] 0 acc x, c ∈ y
  | [], _, _, h => nomatch h
  | d :: r, acc, c, h => by
    by_cases e : d = s
    · have hit : TL.pre [s] (d :: r) = true := by rw [e]; simp [TL.pre]
      rw [TL.spl_hit hit]
      rcases List.mem_cons.mp h with rfl | h
      · exact .inl e
      · rcases spl_mem s r [] c h with z | ⟨y, hy, hc⟩
        · exact .inl z
        · exact .inr ⟨y, List.mem_cons_of_mem _ hy, hc⟩
    · have miss : TL.pre [s] (d :: r) = false := by simp [TL.pre]; exact e
      rw [TL.spl_miss miss]
      rcases List.mem_cons.mp h with rfl | h
      · exact .inr (spl_acc s r (acc ++ [c]) c (by simp))
      · exact spl_mem s r (acc ++ [d]) c h
where spl_acc (s : Nat) : ∀ (x acc : List Nat) (c : Nat), c ∈ acc → ∃ y ∈ TL.spl [s] 0 acc x, c ∈ y
  | [], acc, c, h => ⟨acc, by rw [TL.spl_nil]; exact List.mem_cons_self, h⟩
  | d :: r, acc, c, h => by
    by_cases e : d = s
    · have hit : TL.pre [s] (d :: r) = true := by rw [e]; simp [TL.pre]
      rw [TL.spl_hit hit]
      exact ⟨acc, List.mem_cons_self, h⟩
    · have miss : TL.pre [s] (d :: r) = false := by simp [TL.pre]; exact e
      rw [TL.spl_miss miss]
      exact spl_acc s r (acc ++ [d]) c (List.mem_append_left _ h)
theorem procF_chars {t : Str} {ns : List Int} (h : procF t = some ns) {c : Nat} (hc : c ∈ TL.tl t) : c = 112 ∨ c = 46 ∨ (48 ≤ c ∧ c ≤ 57) := by
  obtain ⟨⟨ws, e, l, g⟩, _⟩ := procF_ok h
  have e2 := TL.split_spl t "." (by decide +kernel) (TL.kind_ok (by decide +kernel))
  have e3 : TL.tl "." = [46] := rfl
  rw [e3, e] at e2
  rcases spl_mem 46 (TL.tl t) [] c hc with z | ⟨y, hy, hcy⟩
  · exact .inr (.inl z)
  · rw [← e2] at hy
    obtain ⟨x, hx, rfl⟩ := List.mem_map.mp hy
    rcases List.mem_cons.mp hx with rfl | hx
    · have : c ∈ [112] := hcy
      exact .inl (List.mem_singleton.mp this)
    · obtain ⟨j, hj⟩ := List.mem_iff_getElem?.mp hx
      have lj := (List.getElem?_eq_some_iff.mp hj).1
      obtain ⟨i, hi⟩ : ∃ i, ns[j]? = some i := ⟨_, List.getElem?_eq_getElem (by omega)⟩
      obtain ⟨g1, g2, _⟩ := g j x i hj hi
      rw [g1] at hcy
      exact .inr (.inr ⟨(num_digits g2 c hcy).1, (num_digits g2 c hcy).2⟩)
theorem procF_bad {t : Str} {c : Nat} (hc : c ∈ TL.tl t) (n : ¬ (c = 112 ∨ c = 46 ∨ (48 ≤ c ∧ c ≤ 57))) : procF t = none := by
  cases h : procF t with
  | none => rfl
  | some ns => exact absurd (procF_chars h hc) n
theorem procF_dot (t : Str) : procF ("." ++ t) = none := by
  have e : ("." : Str) ++ t = Str.empty ++ "." ++ t := by rw [empty_app]
  unfold procF
  rw [e, sd (by decide)]
  exact if_neg (by decide +kernel)
theorem pX_tail (ns : List Int) : procF (cat (ns.map fun n => "." ++ num n)) = none := by
  cases ns with
  | nil => decide +kernel
  | cons n r =>
    rw [List.map_cons, cat_cons, app_assoc]
    exact procF_dot _
theorem pX_ascii {ns : List Int} (h : ∀ n ∈ ns, 0 ≤ n) : ∀ c ∈ TL.tl (pX ns), c = 112 ∨ c = 46 ∨ (48 ≤ c ∧ c ≤ 57) := fun c hc => by
  rcases mem_join hc with h1 | ⟨x, hx, h1⟩
  · exact .inr (.inl (List.mem_singleton.mp (show c ∈ [46] from h1)))
  · rcases List.mem_cons.mp hx with rfl | hx
    · exact .inl (List.mem_singleton.mp (show c ∈ [112] from h1))
    · obtain ⟨n, hn, rfl⟩ := List.mem_map.mp hx
      have := num_digits (h n hn) c h1
      exact .inr (.inr ⟨this.1, this.2⟩)
theorem pX_p (ns : List Int) : 112 ∈ TL.tl (pX ns) := by
  rw [pX_eq, cat_cons, TL.tl_append]
  exact List.mem_append_left _ (by decide +kernel)
theorem upper_pX {ns : List Int} (h : ∀ n ∈ ns, 0 ≤ n) : procF (Txt.upper (pX ns)) = none := by
  have e : pX ns = SX.S (TL.tl (pX ns)) := TL.ext_tl rfl
  rw [e, SX.upper_S (List.all_eq_true.mpr fun c hc => decide_eq_true (by have := pX_ascii h c hc; omega))]
  refine procF_bad (c := 80) ?_ (by omega)
  show 80 ∈ List.map PyProof.Rows.up1 (TL.tl (pX ns))
  exact List.mem_map.mpr ⟨112, pX_p ns, by decide +kernel⟩
theorem procF_sharp {t y : Str} (c : Nat) (hc : c ∈ TL.tl y) (n : ¬ (c = 112 ∨ c = 46 ∨ (48 ≤ c ∧ c ≤ 57))) : procF (t ++ y) = none := procF_bad (c := c) (by rw [TL.tl_append]; exact List.mem_append_right _ hc) n
/-- the texts that are no process -/
def badP (ns : List Int) : List Str := [pX ns ++ ".", pX ns ++ ".01", pX ns ++ ".10000", pX ns ++ " ", "." ++ pX ns, cat (ns.map fun n => "." ++ num n), pX ns ++ "#1", pX ns ++ ".x", "", Txt.upper (pX ns)]
theorem lit2 {x y z : Str} (h : z = x ++ y) (t : Str) : t ++ z = t ++ x ++ y := by rw [h, app_assoc]
theorem badP_no {ns : List Int} (h : ∀ n ∈ ns, 0 ≤ n) : ∀ b ∈ badP ns, procF b = none := fun b hb => by
  unfold badP at hb
  simp only [List.mem_cons, List.not_mem_nil, or_false] at hb
  rcases hb with rfl | rfl | rfl | rfl | rfl | rfl | rfl | rfl | rfl | rfl
  · rw [lit2 (x := ".") (y := "") (by decide +kernel)]
    exact procF_more h (by decide +kernel) (by decide +kernel)
  · rw [lit2 (x := ".") (y := "01") (by decide +kernel)]
    exact procF_more h (by decide +kernel) (by decide +kernel)
  · rw [lit2 (x := ".") (y := "10000") (by decide +kernel)]
    exact procF_more h (by decide +kernel) (by decide +kernel)
  · exact procF_sharp 32 (by decide +kernel) (by omega)
  · exact procF_dot _
  · exact pX_tail ns
  · exact procF_sharp 35 (by decide +kernel) (by omega)
  · exact procF_sharp 120 (by decide +kernel) (by omega)
  · decide +kernel
  · exact upper_pX h
theorem no35 {ns : List Int} (h : ∀ n ∈ ns, 0 ≤ n) : 35 ∉ TL.tl (pX ns) := fun hc => by
  have := pX_ascii h 35 hc
  omega
theorem objF_pX {ns : List Int} {k : Int} (h : ∀ n ∈ ns, 0 ≤ n ∧ n ≤ 9999) (k0 : 0 ≤ k) (k1 : k ≤ 9999) : objF (pX ns ++ "#" ++ num k) = some (ns, k) := by
  unfold objF
  rw [TL.partition_app (y := "#") (s := 35) (S := []) rfl (no35 fun n hn => (h n hn).1)]
  show (match procF (pX ns), numF (num k) with | some ns, some i => some (ns, i) | _, _ => none) = _
  rw [procF_pX h, numF_some ⟨rfl, k0, by omega⟩ k1]
theorem objF_more {t y : Str} (h : 35 ∉ TL.tl t) (no : numF y = none) : objF (t ++ "#" ++ y) = none := by
  unfold objF
  rw [TL.partition_app (y := "#") (s := 35) (S := []) rfl h]
  show (match procF t, numF y with | some ns, some i => some (ns, i) | _, _ => none) = _
  rw [no]
  cases procF t <;> rfl
theorem objF_less {t y : Str} (h : 35 ∉ TL.tl t) (no : procF t = none) : objF (t ++ "#" ++ y) = none := by
  unfold objF
  rw [TL.partition_app (y := "#") (s := 35) (S := []) rfl h]
  show (match procF t, numF y with | some ns, some i => some (ns, i) | _, _ => none) = _
  rw [no]
def badO (ns : List Int) : List Str := [pX ns, pX ns ++ "#", pX ns ++ "#01", pX ns ++ "#10000", pX ns ++ "#1#1", pX ns ++ " #1", "#1", pX ns ++ "#x"]
theorem badO_no {ns : List Int} (h : ∀ n ∈ ns, 0 ≤ n) : ∀ b ∈ badO ns, objF b = none := fun b hb => by
  have h35 := no35 h
  unfold badO at hb
  simp only [List.mem_cons, List.not_mem_nil, or_false] at hb
  rcases hb with rfl | rfl | rfl | rfl | rfl | rfl | rfl | rfl
  · unfold objF
    rw [TL.partition_none (y := "#") (s := 35) (S := []) rfl h35]
    show (match procF (pX ns), numF Str.empty with | some ns, some i => some (ns, i) | _, _ => none) = _
    rw [show numF Str.empty = none by decide +kernel]
    cases procF (pX ns) <;> rfl
  · rw [lit2 (x := "#") (y := "") (by decide +kernel)]
    exact objF_more h35 (by decide +kernel)
  · rw [lit2 (x := "#") (y := "01") (by decide +kernel)]
    exact objF_more h35 (by decide +kernel)
  · rw [lit2 (x := "#") (y := "10000") (by decide +kernel)]
    exact objF_more h35 (by decide +kernel)
  · rw [lit2 (x := "#") (y := "1#1") (by decide +kernel)]
    exact objF_more h35 (by decide +kernel)
  · rw [lit2 (x := " ") (y := "#1") (by decide +kernel), lit2 (x := "#") (y := "1") (by decide +kernel)]
    refine objF_less (fun hc => ?_) (procF_sharp 32 (by decide +kernel) (by omega))
    rw [TL.tl_append] at hc
    rcases List.mem_append.mp hc with hc | hc
    · exact h35 hc
    · exact absurd hc (by decide +kernel)
  · decide +kernel
  · rw [lit2 (x := "#") (y := "x") (by decide +kernel)]
    exact objF_more h35 (by decide +kernel)
/-! ### commands: what stands behind a word -/
inductive Ar | num (n : Int) | proc (ns : List Int) | obj (ns : List Int) (k : Int)
def Ar.d : Ar → PyData
  | .num n => .int n
  | .proc ns => .tuple (ns.map .int)
  | .obj ns k => .tuple [.tuple (ns.map .int), .int k]
def Ar.t : Ar → Str
  | .num n => K07.num n
  | .proc ns => pX ns
  | .obj ns k => pX ns ++ "#" ++ K07.num k
def Ar.r : Ar → Str
  | .num _ => "number"
  | .proc _ => "process"
  | .obj _ _ => "object"
def Ar.ok : Ar → Prop
  | .num n => 0 ≤ n ∧ n ≤ 9999
  | .proc ns => NmB ns
  | .obj ns k => NmB ns ∧ 0 ≤ k ∧ k ≤ 9999
theorem Ar.part {x : Ar} (h : x.ok) : partF x.r x.t = some x.d := by
  have n1 : ("object" : Str) ≠ ("process" : Str) := by decide +kernel
  have n2 : ("number" : Str) ≠ ("process" : Str) := by decide +kernel
  have n3 : ("number" : Str) ≠ ("object" : Str) := by decide +kernel
  cases x with
  | num n =>
    show (if ("number" : Str) = ("process" : Str) then _ else if ("number" : Str) = ("object" : Str) then _ else (numF (K07.num n)).map PyData.int) = _
    rw [if_neg n2, if_neg n3, numF_some ⟨rfl, h.1, by have := h.2; omega⟩ h.2]
    rfl
  | proc ns =>
    show (if ("process" : Str) = ("process" : Str) then (procF (pX ns)).map fun ns => PyData.tuple (ns.map .int) else _) = _
    rw [if_pos rfl, procF_pX h.2]
    rfl
  | obj ns k =>
    show (if ("object" : Str) = ("process" : Str) then _ else if ("object" : Str) = ("object" : Str) then (objF (pX ns ++ "#" ++ K07.num k)).map fun x => PyData.tuple [.tuple (x.1.map .int), .int x.2] else _) = _
    rw [if_neg n1, if_pos rfl, objF_pX h.1.2 h.2.1 h.2.2]
    rfl
theorem Ar.free {x : Ar} (h : x.ok) : 32 ∉ TL.tl x.t := fun hc => by
  cases x with
  | num n => exact absurd (num_digits h.1 32 hc).1 (by omega)
  | proc ns =>
    have := pX_ascii (fun n hn => (h.2 n hn).1) 32 hc
    omega
  | obj ns k =>
    have hc : 32 ∈ TL.tl (pX ns ++ "#" ++ K07.num k) := hc
    rw [TL.tl_append, TL.tl_append] at hc
    rcases List.mem_append.mp hc with hc | hc
    · rcases List.mem_append.mp hc with hc | hc
      · have := pX_ascii (fun n hn => (h.1.2 n hn).1) 32 hc
        omega
      · exact absurd hc (by decide +kernel)
    · exact absurd (num_digits h.2.1 32 hc).1 (by omega)
theorem Ar.len {x : Ar} (h : x.ok) : x.t.length ≤ 500 := by
  have big : ∀ {ns : List Int}, NmB ns → (pX ns).length ≤ 400 := fun b => len_pX (by have := b.1; omega) fun n hn => ⟨(b.2 n hn).1, by have := (b.2 n hn).2; omega⟩
  cases x with
  | num n =>
    have := len_pos h.1 (by have := h.2; omega)
    exact Nat.le_trans this (by omega)
  | proc ns => exact Nat.le_trans (big h) (by omega)
  | obj ns k =>
    refine Nat.le_trans (j1 (j1 (big h.1) (jL (x := "#") (n := 1) rfl)) (len_pos h.2.1 (by have := h.2.2; omega))) (by omega)
def Ln := Str × List Ar
def Ln.d (l : Ln) : PyData := .tuple (.str l.1 :: l.2.map Ar.d)
def Ln.t (l : Ln) : Str := Txt.join " " (l.1 :: l.2.map Ar.t)
/-- what stands behind the word, with the space ahead of it -/
def Ln.tail (l : Ln) : Str := cat (l.2.map fun x => (" " : Str) ++ x.t)
theorem Ln.t_eq (l : Ln) : l.t = l.1 ++ l.tail := by
  unfold Ln.t Ln.tail
  rw [join_cat, List.map_map]
  rfl
def LnOk (l : Ln) : Prop := (l.1, l.2.map Ar.r) ∈ formsT ∧ ∀ x ∈ l.2, x.ok
/-- one word has one form -/
theorem forms_one : ∀ q ∈ formsT, ∀ r ∈ formsT, q.1 = r.1 → q = r := by decide +kernel
theorem forms_word : ∀ q ∈ formsT, (TL.tl q.1).all (fun c => decide (97 ≤ c) && decide (c ≤ 122)) = true ∧ q.1 ≠ ("line" : Str) ∧ q.1 ≠ ("" : Str) ∧ q.1.length ≤ 12 := by decide +kernel
theorem forms_first : ∀ q ∈ formsT, q.2 = [] ∨ q.2[0]? = some ("number" : Str) := by decide +kernel
/-- texts like these are no words -/
theorem forms_spoilt : ∀ q ∈ formsT, (∀ r ∈ formsT, r.1 ≠ Txt.upper q.1 ∧ r.1 ≠ q.1 ++ ("x" : Str) ∧ r.1 ≠ ("x" : Str) ++ q.1) ∧ Txt.upper q.1 ≠ ("line" : Str) ∧ q.1 ++ ("x" : Str) ≠ ("line" : Str) ∧ ("x" : Str) ++ q.1 ≠ ("line" : Str) ∧ Txt.upper q.1 ≠ ("" : Str) ∧ 32 ∉ TL.tl (Txt.upper q.1) := by decide +kernel
theorem word_free {l : Ln} (h : LnOk l) : 32 ∉ TL.tl l.1 := fun hc => by
  have := List.all_eq_true.mp (forms_word _ h.1).1 32 hc
  simp at this
theorem find_word {l : Ln} (h : LnOk l) : formsT.find? (fun q => decide (q.1 = l.1)) = some (l.1, l.2.map Ar.r) := by
  cases e : formsT.find? (fun q => decide (q.1 = l.1)) with
  | none => exact absurd (decide_eq_true rfl) (List.find?_eq_none.mp e _ h.1)
  | some q =>
    have h1 : q.1 = l.1 := by simpa using List.find?_some e
    rw [forms_one q (List.mem_of_find?_eq_some e) _ h.1 h1]
theorem find_no {x : Str} (h : ∀ r ∈ formsT, r.1 ≠ x) : formsT.find? (fun q => decide (q.1 = x)) = none := List.find?_eq_none.mpr fun r hr e => h r hr (of_decide_eq_true e)
theorem ne_sp (x y : Str) : x ++ " " ++ y ≠ ("" : Str) := fun e => by
  have := congrArg TL.tl e
  rw [TL.tl_append, TL.tl_append] at this
  have h1 : TL.tl (" " : Str) = [32] := rfl
  have h2 : TL.tl ("" : Str) = [] := rfl
  rw [h1, h2] at this
  simp at this
theorem cmd_sp {x : Str} (h : 32 ∉ TL.tl x) (hl : x ≠ ("line" : Str)) (r : Str) : cmdF (x ++ " " ++ r) = match formsT.find? (fun q => decide (q.1 = x)) with
    | none => none
    | some q => (partsF q.2 (Txt.split r " ")).map fun ds => .tuple (.str q.1 :: ds) := by
  unfold cmdF
  rw [if_neg (ne_sp x r), TL.partition_app (y := " ") (s := 32) (S := []) rfl h]
  show (if x = ("line" : Str) then _ else match formsT.find? (fun q => decide (q.1 = x)) with | none => none | some q => (partsF q.2 (if (" " : Str) = ("" : Str) then [] else Txt.split r " ")).map fun ds => PyData.tuple (.str q.1 :: ds)) = _
  rw [if_neg hl, if_neg (by decide +kernel)]
theorem cmd_one {x : Str} (h : 32 ∉ TL.tl x) (hl : x ≠ ("line" : Str)) (hn : x ≠ ("" : Str)) : cmdF x = match formsT.find? (fun q => decide (q.1 = x)) with
    | none => none
    | some q => (partsF q.2 []).map fun ds => .tuple (.str q.1 :: ds) := by
  unfold cmdF
  rw [if_neg hn, TL.partition_none (y := " ") (s := 32) (S := []) rfl h]
  show (if x = ("line" : Str) then _ else match formsT.find? (fun q => decide (q.1 = x)) with | none => none | some q => (partsF q.2 (if Str.empty = ("" : Str) then [] else Txt.split Str.empty " ")).map fun ds => PyData.tuple (.str q.1 :: ds)) = _
  rw [if_neg hl, if_pos (by decide +kernel)]
theorem cmd_word {l : Ln} (h : LnOk l) (r : Str) : cmdF (l.1 ++ " " ++ r) = (partsF (l.2.map Ar.r) (Txt.split r " ")).map fun ds => .tuple (.str l.1 :: ds) := by
  rw [cmd_sp (word_free h) (forms_word _ h.1).2.1, find_word h]
theorem parts_none {rs ts : List Str} (h : ts.length ≠ rs.length) : partsF rs ts = none := by
  cases e : partsF rs ts with
  | none => rfl
  | some ds => exact absurd (partsF_len e) h
/-- the tail is a space and the parts with spaces between -/
theorem Ln.tail_eq {l : Ln} (ne : l.2 ≠ []) : l.tail = " " ++ Txt.join " " (l.2.map Ar.t) := by
  unfold Ln.tail
  obtain ⟨w, as⟩ := l
  cases as with
  | nil => exact absurd rfl ne
  | cons x r =>
    show cat (List.map (fun x => (" " : Str) ++ x.t) (x :: r)) = " " ++ Txt.join " " (x.t :: r.map Ar.t)
    rw [join_cat, List.map_cons, cat_cons, List.map_map, app_assoc]
    rfl
theorem free_all {l : Ln} (h : LnOk l) : ∀ p ∈ l.2.map Ar.t, 32 ∉ TL.tl p := fun p hp => by
  obtain ⟨x, hx, rfl⟩ := List.mem_map.mp hp
  exact Ar.free (h.2 x hx)
theorem cmd_good {l : Ln} (h : LnOk l) : cmdF l.t = some l.d := by
  by_cases ne : l.2 = []
  · have e : l.t = l.1 := by rw [Ln.t_eq, Ln.tail, ne]; exact app_empty _
    rw [e, cmd_one (word_free h) (forms_word _ h.1).2.1 (forms_word _ h.1).2.2.1, find_word h]
    unfold Ln.d
    rw [ne]
    rfl
  · rw [Ln.t_eq, Ln.tail_eq ne, ← app_assoc, cmd_word h, sj (by simpa using ne) (free_all h), partsF_all (ds := l.2.map Ar.d) (by rw [List.length_map, List.length_map]) (by rw [List.length_map, List.length_map]) fun j r t d hr ht hd => ?_]
    · rfl
    · rw [List.getElem?_map] at hr ht hd
      cases e : l.2[j]? with
      | none => rw [e] at hr; cases hr
      | some x =>
        rw [e] at hr ht hd
        cases hr
        cases ht
        cases hd
        exact Ar.part (h.2 x (List.mem_of_getElem? e))
def spBase (l : Ln) : List Str := [" " ++ l.t, l.t ++ " ", l.t ++ " 1", Txt.upper l.1 ++ l.tail, l.1 ++ "x" ++ l.tail, "x" ++ l.t]
def spMore (l : Ln) : List Str := [l.1, l.1 ++ " " ++ l.tail, l.1 ++ " " ++ "0" ++ Txt.join " " (l.2.map Ar.t) ++ "x"]
def onesW : List Str := ["", "P", "p.", "p.01", "p.10000", "q", "p.1.", ".1", "p1", "-", "p#1"]
def onesP : List Str := ["p", "p#", "p#01", "p#10000", "#1", "p.1#1#1", "p.#1", "p#-1", "q#1"]
def onesN : List Str := ["10000", "01", "-1", "x", "", "1.0", "+1"]
theorem none_of {b : Str} (h : (cmdF b).isNone = true) : cmdF b = none := by
  cases e : cmdF b with
  | none => rfl
  | some d => rw [e] at h; cases h
theorem onesW_no : ∀ x ∈ onesW, cmdF ("work 1 " ++ x) = none := fun x hx => none_of ((show ∀ x ∈ onesW, (cmdF ("work 1 " ++ x)).isNone = true by decide +kernel) x hx)
theorem onesP_no : ∀ x ∈ onesP, cmdF ("push 1 " ++ x ++ " 2") = none := fun x hx => none_of ((show ∀ x ∈ onesP, (cmdF ("push 1 " ++ x ++ " 2")).isNone = true by decide +kernel) x hx)
theorem push_no : cmdF "push 1 p#1" = none := none_of (by decide +kernel)
theorem onesN_no : ∀ q ∈ formsT, q.2 ≠ [] → q.1 ≠ ("work" : Str) → q.1 ≠ ("push" : Str) → ∀ x ∈ onesN, cmdF (q.1 ++ " " ++ x) = none := fun q hq h1 h2 h3 x hx => none_of ((show ∀ q ∈ formsT, q.2 ≠ [] → q.1 ≠ ("work" : Str) → q.1 ≠ ("push" : Str) → ∀ x ∈ onesN, (cmdF (q.1 ++ " " ++ x)).isNone = true by decide +kernel) q hq h1 h2 h3 x hx)
theorem cmd_tail {l : Ln} (h : LnOk l) {x : Str} (hx : 32 ∉ TL.tl x) (hl : x ≠ ("line" : Str)) (hn : x ≠ ("" : Str)) (no : ∀ r ∈ formsT, r.1 ≠ x) : cmdF (x ++ l.tail) = none := by
  by_cases ne : l.2 = []
  · have e : x ++ l.tail = x := by rw [Ln.tail, ne]; exact app_empty _
    rw [e, cmd_one hx hl hn, find_no no]
  · rw [Ln.tail_eq ne, ← app_assoc, cmd_sp hx hl, find_no no]
theorem map_none {α β : Type} {f : α → β} {o : Option α} (h : o = none) : o.map f = none := by rw [h]; rfl
theorem split_tail {l : Ln} (h : LnOk l) (ne : l.2 ≠ []) {y : Str} (hy : 32 ∉ TL.tl y) : Txt.split (Txt.join " " (l.2.map Ar.t) ++ " " ++ y) " " = l.2.map Ar.t ++ [y] := by
  have := join_app " " (xs := l.2.map Ar.t) (ys := [y]) (by simpa using ne) (by simp)
  rw [join_one] at this
  rw [← this, sj (by simp) fun p hp => ?_]
  rcases List.mem_append.mp hp with hp | hp
  · exact free_all h p hp
  · rw [List.mem_singleton.mp hp]
    exact hy
/-- one part more -/
theorem cmd_more {l : Ln} (h : LnOk l) {y : Str} (hy : 32 ∉ TL.tl y) : cmdF (l.t ++ (" " ++ y)) = none := by
  by_cases ne : l.2 = []
  · have e : l.t = l.1 := by rw [Ln.t_eq, Ln.tail, ne]; exact app_empty _
    rw [e, ← app_assoc, cmd_word h, ss1 hy, ne]
    rfl
  · rw [Ln.t_eq, Ln.tail_eq ne, app_assoc, app_assoc, ← app_assoc l.1, cmd_word h, ← app_assoc, split_tail h ne hy]
    exact map_none (parts_none (by rw [List.length_append, List.length_map, List.length_map, List.length_singleton]; omega))
theorem spBase_no {l : Ln} (h : LnOk l) : ∀ b ∈ spBase l, cmdF b = none := fun b hb => by
  obtain ⟨f1, f2, f3, f4, f5, f6⟩ := forms_spoilt _ h.1
  have f1 := f1
  have wf := word_free h
  unfold spBase at hb
  simp only [List.mem_cons, List.not_mem_nil, or_false] at hb
  rcases hb with rfl | rfl | rfl | rfl | rfl | rfl
  · have e : (" " : Str) ++ l.t = Str.empty ++ " " ++ l.t := by rw [empty_app]
    rw [e, cmd_sp (by decide) (by decide +kernel), find_no (x := Str.empty) fun r hr e2 => (forms_word r hr).2.2.1 e2]
  · have := cmd_more h (y := "") (by decide +kernel)
    rw [show (" " : Str) ++ ("" : Str) = " " by decide +kernel] at this
    exact this
  · have := cmd_more h (y := "1") (by decide +kernel)
    rw [show (" " : Str) ++ ("1" : Str) = " 1" by decide +kernel] at this
    exact this
  · exact cmd_tail h f6 f2 f5 fun r hr => (f1 r hr).1
  · refine cmd_tail h (fun hc => ?_) f3 (fun e => ?_) fun r hr => (f1 r hr).2.1
    · rw [TL.tl_append] at hc
      rcases List.mem_append.mp hc with hc | hc
      · exact wf hc
      · exact absurd hc (by decide +kernel)
    · have := congrArg Str.length e
      rw [app_len] at this
      have h1 : ("x" : Str).length = 1 := rfl
      have h2 : ("" : Str).length = 0 := rfl
      omega
  · rw [Ln.t_eq, ← app_assoc]
    refine cmd_tail h (fun hc => ?_) f4 (fun e => ?_) fun r hr => (f1 r hr).2.2
    · rw [TL.tl_append] at hc
      rcases List.mem_append.mp hc with hc | hc
      · exact absurd hc (by decide +kernel)
      · exact wf hc
    · have := congrArg Str.length e
      rw [app_len] at this
      have h1 : ("x" : Str).length = 1 := rfl
      have h2 : ("" : Str).length = 0 := rfl
      omega
theorem zero_no {y : Str} (hy : TL.tl y ≠ []) : numF ("0" ++ y) = none := by
  cases e : numF ("0" ++ y) with
  | none => rfl
  | some i =>
    obtain ⟨⟨h1, h2, _⟩, _⟩ := numF_ok e
    obtain ⟨c, r, e2, _, _, h3⟩ := num_head h2
    rw [← h1, TL.tl_append] at e2
    have e3 : TL.tl ("0" : Str) = [48] := by decide +kernel
    rw [e3] at e2
    have hc : c = 48 := (List.cons.inj e2).1.symm
    have := congrArg TL.tl (h1.trans (h3 hc))
    rw [TL.tl_append, e3] at this
    exact absurd (List.cons.inj this).2 hy
theorem Ar.ne {x : Ar} (h : x.ok) : TL.tl x.t ≠ [] := by
  cases x with
  | num n =>
    obtain ⟨c, r, e, _⟩ := num_head h.1
    intro z
    have z : TL.tl (K07.num n) = [] := z
    rw [e] at z
    cases z
  | proc ns =>
    intro z
    have z : TL.tl (pX ns) = [] := z
    have := pX_p ns
    rw [z] at this
    cases this
  | obj ns k =>
    intro z
    have z : TL.tl (pX ns ++ "#" ++ K07.num k) = [] := z
    have := pX_p ns
    rw [TL.tl_append, TL.tl_append] at z
    rw [(List.append_eq_nil_iff.mp (List.append_eq_nil_iff.mp z).1).1] at this
    cases this
theorem spMore_no {l : Ln} (h : LnOk l) (ne : l.2 ≠ []) : ∀ b ∈ spMore l, cmdF b = none := fun b hb => by
  have wf := word_free h
  have fw := forms_word _ h.1
  have lr : (l.2.map Ar.r).length = l.2.length := List.length_map ..
  have l0 : 0 < l.2.length := List.length_pos_iff.mpr ne
  unfold spMore at hb
  simp only [List.mem_cons, List.not_mem_nil, or_false] at hb
  rcases hb with rfl | rfl | rfl
  · rw [cmd_one wf fw.2.1 fw.2.2.1, find_word h]
    exact map_none (parts_none (by show 0 ≠ (l.2.map Ar.r).length; omega))
  · rw [cmd_word h, Ln.tail_eq ne]
    have e : (" " : Str) ++ Txt.join " " (l.2.map Ar.t) = Str.empty ++ " " ++ Txt.join " " (l.2.map Ar.t) := by rw [empty_app]
    rw [e, ss (by decide), sj (by simpa using ne) (free_all h)]
    exact map_none (parts_none (by rw [List.length_cons, List.length_map, List.length_map]; omega))
  · rw [app_assoc, app_assoc, cmd_word h]
    refine map_none ?_
    obtain ⟨w, as⟩ := l
    cases as with
    | nil => exact absurd rfl ne
    | cons x r =>
      have hx := h.2 x List.mem_cons_self
      have hr : (List.map Ar.r (x :: r))[0]? = some ("number" : Str) := by
        rcases forms_first _ h.1 with z | z
        · cases z
        · exact z
      have nn : ∀ y : Str, partF "number" ("0" ++ (x.t ++ y)) = none := fun y => by
        unfold partF
        rw [if_neg (by decide +kernel), if_neg (by decide +kernel), zero_no]
        · rfl
        · rw [TL.tl_append]
          exact fun z => Ar.ne hx (List.append_eq_nil_iff.mp z).1
      have fx := Ar.free hx
      show partsF _ (Txt.split ("0" ++ (Txt.join " " (x.t :: r.map Ar.t) ++ "x")) " ") = none
      cases r with
      | nil =>
        show partsF _ (Txt.split ("0" ++ (Txt.join " " [x.t] ++ "x")) " ") = none
        rw [join_one, ss1 (fun hc => ?_)]
        · exact partsF_none (j := 0) hr rfl (nn _)
        · rw [TL.tl_append, TL.tl_append] at hc
          rcases List.mem_append.mp hc with hc | hc
          · exact absurd hc (by decide +kernel)
          · rcases List.mem_append.mp hc with hc | hc
            · exact fx hc
            · exact absurd hc (by decide +kernel)
      | cons z r =>
        show partsF _ (Txt.split ("0" ++ (Txt.join " " (x.t :: z.t :: r.map Ar.t) ++ "x")) " ") = none
        rw [join_two, app_assoc, app_assoc, ← app_assoc, ← app_assoc, ss (fun hc => ?_)]
        · refine partsF_none (j := 0) hr rfl ?_
          have := nn Str.empty
          rw [app_empty] at this
          exact this
        · rw [TL.tl_append] at hc
          rcases List.mem_append.mp hc with hc | hc
          · exact absurd hc (by decide +kernel)
          · exact fx hc
/-! ### what is refused -/
theorem Txt.e_NotAllowed (T : Txt K mg w a) : ExcC K (He.ga K "NotAllowed") := ⟨T.m1_, T.m2_, T.s_NotAllowed, T.m4_, T.m5_, T.m6_, T.m7_, T.m8_⟩
theorem pss_cls {X : Cx} {cls cls' : Value} {d d' : Option Addr} {ss : List Stmt} {t : TS} (h : cls = cls' → d = d' → PSs X ss t) : PSs X ss (fun D σ H => cls = cls' ∧ d = d' ∧ t D σ H) :=
  ⟨fun pins s σ H D I hh => (h hh.1 hh.2.1).run pins s σ H D I hh.2.2⟩
theorem zc_of {cls cls' : Value} {d d' : Option Addr} {o : Obj} (h1 : cls = cls') (h2 : d = d') (hz : Zc cls d o) : Zc cls' d' o := by
  subst h1 h2
  exact hz
def spRef (K : PySem.W.Frag) : Sp := fun vs H Q _ => ∃ (k : Int) (t : Str), vs = [.int k, .str t] ∧ t.length ≤ 10000 ∧ (k = 0 → procF t = none) ∧ (k ≠ 0 → objF t = none) ∧ ∀ H', Same H H' → Q (.bl true) H'
theorem ok_lw_refused (T : Txt K mg w a) : FnOk P w K mg base CX0 5 (He.ga K "_law_refused") a.d_lw_refused ["kind", "text"] (spRef K) := by
  have gp := ok_read_process (P := P) (w := w) (base := base) T
  have go := ok_read_object (P := P) (w := w) (base := base) T
  refine T.F_lw_refused.ok sc_lw_refused (fun vs H Q E h => ?_) (fun cdv A outer s H vs Q E hr h => ?_)
  · obtain ⟨k, t, rfl, _⟩ := h
    rfl
  · obtain ⟨k, t, rfl, hl, n1, n2, q⟩ := h
    refine ⟨_, PSs.nox (pss_cons (ps_try_as (i := 2) rfl rfl sc_lw_refused.nd rfl rfl ⟨rfl, by decide, .inl T.g_NotAllowed⟩ takes0 (fun W pn xe tk _ => (pss_one (ps_if (pt_cmpR op_eq (pv 0) pe_int (nomark _)) (pss_one (ps_expr (pe_callS gp (hr.mono (by omega)) (by rfl) T.g_read_process T.F_read_process.kp T.b_read_process (fun σ => passAt tk σ) (pa_cons (pv 1) pa_nil)))) (pss_one (ps_expr (pe_callS go (hr.mono (by omega)) (by rfl) T.g_read_object T.F_read_object.kp T.b_read_object (fun σ => passAt tk σ) (pa_cons (pv 1) pa_nil)))))))
      (fun a oe cls d pn hz hf => pss_cls (cls' := .ref (He.ga K "NotAllowed")) (d' := none) fun z1 z2 => (pss_one (ps_ret (pe_and (pe_callB (call_isE T.e_NotAllowed (zc_of z1 z2 hz) hf) (by rfl) T.g_isinstance boot_isinstance (pa_cons (pv 2) (pa_cons (pe_glob (v := .ref (He.ga K "PortError")) (by rfl) T.g_PortError rfl) pa_nil))) (pe_one (pe_not (pe_callB (call_isE T.e_NotAllowed (zc_of z1 z2 hz) hf) (by rfl) T.g_isinstance boot_isinstance (pa_cons (pv 2) (pa_cons (pe_glob (v := .ref (He.ga K "Missing")) (by rfl) T.g_Missing rfl) pa_nil))))))))))
      (pss_one (ps_ret pe_bl))), ?_⟩
    rw [show L2.start N_lw_refused [.int k, .str t] = [some (.int k), some (.str t), none] from rfl]
    have fin : ∀ (e' : Addr) (H' : Hp), Same H H' → tRet (tAndV (tCB (rIsE K (He.ga K "NotAllowed") e') (tCons (tVar 2) (tCons (tC (V.ref (He.ga K "PortError"))) tNil))) (tNotV (tCB (rIsE K (He.ga K "NotAllowed") e') (tCons (tVar 2) (tCons (tC (V.ref (He.ga K "Missing"))) tNil))))) { nx := fun x H' => Q V.non H', rt := Q } [some (.int k), some (.str t), some (.ref e')] H' := fun e' H' s' => by
      refine ⟨_, rfl, _, .ref (He.ga K "PortError"), true, rfl, (fun u h => h), T.e2_, true, rfl, ?_⟩
      rw [if_pos rfl]
      refine ⟨_, rfl, _, .ref (He.ga K "Missing"), false, rfl, (fun u h => h), T.e3_, ?_⟩
      exact ⟨false, rfl, q _ s'⟩
    refine ⟨_, rfl, rfl, _, rfl, Cm.itEI (fun e => ?_) fun e => ?_⟩
    · refine ⟨_, rfl, t, rfl, hl, (fun ns hp hb v H' s' r => absurd ⟨hp, hb⟩ (procF_none (n1 e) ns)), fun _ H' s' => ⟨true, T.e1_, fun _ e' ha => ⟨rfl, rfl, ?_⟩, fun z => nomatch z⟩⟩
      exact fin _ H' s'
    · refine ⟨_, rfl, t, rfl, hl, (fun ns i hp hb v H' s' r => absurd ⟨hp, hb⟩ (objF_none (n2 e) ns i)), fun _ H' s' => ⟨true, T.e1_, fun _ e' ha => ⟨rfl, rfl, ?_⟩, fun z => nomatch z⟩⟩
      exact fin _ H' s'
/-- data written out -/
def EvH (K : PySem.W.Frag) (σ : L2.St) (G : Hp) (te : TE) (d : PyData) : Prop := ∀ H, Same G H → ∀ Q : VK, (∀ H' v, Same H H' → Rp K H' v d → Q v H') → te σ H Q
def EvA (K : PySem.W.Frag) (σ : L2.St) (G : Hp) (ta : TA) (ds : List PyData) : Prop := ∀ H, Same G H → ∀ Q : List V → Hp → Prop, (∀ H' vs, Same H H' → Rps K H' vs ds → Q vs H') → ta σ H Q
section
variable {σ : L2.St} {G : Hp}
theorem ev_int (n : Int) : EvH K σ G (tC (.int n)) (.int n) := fun H _ Q q => q H _ (Same.refl _) (.int n)
theorem ev_str (x : Str) : EvH K σ G (tC (.str x)) (.str x) := fun H _ Q q => q H _ (Same.refl _) (.str x)
theorem ev_var {i : Nat} {v : V} {d : PyData} (h : σ[i]? = some (some v)) (r : Rp K G v d) : EvH K σ G (tVar i) d := fun H s Q q => ⟨v, h, q H v (Same.refl _) (r.keep (Same.tups s))⟩
theorem ev_nil : EvA K σ G tNil [] := fun H _ Q q => q H [] (Same.refl _) .nil
theorem ev_cons {a : TE} {t : TA} {d : PyData} {ds : List PyData} (h1 : EvH K σ G a d) (h2 : EvA K σ G t ds) : EvA K σ G (tCons a t) (d :: ds) := fun H s Q q => h1 H s _ fun H1 v1 s1 r1 => h2 H1 (s.trans s1) _ fun H2 vs s2 r2 => q H2 _ (s1.trans s2) (.cons (r1.keep (Same.tups s2)) r2)
theorem ev_tup {t : TA} {ds : List PyData} (h : EvA K σ G t ds) (l : ds.length ≤ 100000) : EvH K σ G (tTup t) (.tuple ds) := fun H s Q q => h H s _ fun H1 vs s1 r1 => ⟨Cm.small (by rw [r1.len]; exact l), fun p np => q _ _ (s1.trans (Cm.same_new np)) (Rp.made np r1)⟩
theorem ev_lst {t : TA} {ds : List PyData} (h : EvA K σ G t ds) (l : ds.length ≤ 100000) {H : Hp} (s : Same G H) (Q : VK) (q : ∀ H' p us, Same H H' → H' p = some (.lst us) → Rps K H' us ds → Q (.ref p) H') : (tLst t) σ H Q := h H s _ fun H1 vs s1 r1 => ⟨Cm.small (by rw [r1.len]; exact l), fun p np => q _ _ _ (s1.trans (Cm.same_new np)) upd_same (r1.keep (Same.tups (Cm.same_new np)))⟩
end
def linesL (ns ms : List Int) (i k o : Int) : List Ln := [("begin", [.num k]), ("work", [.num k, .proc ns]), ("commit", [.num k]), ("send", [.num o]), ("deliver", [.num k]), ("fall", [.num o]), ("push", [.num k, .obj ms i, .num o]),
  ("gather", []), ("settle", []), ("balance", []), ("ready", [.num o]), ("at", [.num k]), ("air", []), ("order", []), ("prints", []), ("processes", []), ("look", []), ("same", [])]
theorem linesL_ok {ns ms : List Int} {i k o : Int} (hn : NmB ns) (hm : NmB ms) (hi : 0 ≤ i ∧ i ≤ 9999) (hk : 0 ≤ k ∧ k ≤ 9999) (ho : 0 ≤ o ∧ o ≤ 9999) : ∀ l ∈ linesL ns ms i k o, LnOk l := by
  have forms : ∀ l ∈ linesL ns ms i k o, (l.1, l.2.map Ar.r) ∈ formsT := by
    intro l hl
    have h : ∀ x ∈ (linesL ns ms i k o).map (fun l => (l.1, l.2.map Ar.r)), x ∈ formsT := by
      show ∀ x ∈ ([("begin", ["number"]), ("work", ["number", "process"]), ("commit", ["number"]), ("send", ["number"]), ("deliver", ["number"]), ("fall", ["number"]), ("push", ["number", "object", "number"]), ("gather", []), ("settle", []), ("balance", []), ("ready", ["number"]), ("at", ["number"]), ("air", []), ("order", []), ("prints", []), ("processes", []), ("look", []), ("same", [])] : List (Str × List Str)), x ∈ formsT
      decide +kernel
    exact h _ (List.mem_map.mpr ⟨l, hl, rfl⟩)
  refine fun l hl => ⟨forms l hl, ?_⟩
  have one : ∀ {x y : Ar}, x ∈ [y] → y.ok → x.ok := fun h b => by rw [List.mem_singleton.mp h]; exact b
  have no : ∀ {x : Ar}, x ∈ ([] : List Ar) → x.ok := fun h => absurd h List.not_mem_nil
  rcases List.mem_cons.mp hl with rfl | hl
  · intro x hx
    exact one hx hk
  rcases List.mem_cons.mp hl with rfl | hl
  · intro x hx
    rcases List.mem_cons.mp hx with rfl | hx
    · exact hk
    · exact one hx hn
  rcases List.mem_cons.mp hl with rfl | hl
  · intro x hx
    exact one hx hk
  rcases List.mem_cons.mp hl with rfl | hl
  · intro x hx
    exact one hx ho
  rcases List.mem_cons.mp hl with rfl | hl
  · intro x hx
    exact one hx hk
  rcases List.mem_cons.mp hl with rfl | hl
  · intro x hx
    exact one hx ho
  rcases List.mem_cons.mp hl with rfl | hl
  · intro x hx
    rcases List.mem_cons.mp hx with rfl | hx
    · exact hk
    rcases List.mem_cons.mp hx with rfl | hx
    · exact ⟨hm, hi⟩
    · exact one hx ho
  rcases List.mem_cons.mp hl with rfl | hl
  · intro x hx
    exact no hx
  rcases List.mem_cons.mp hl with rfl | hl
  · intro x hx
    exact no hx
  rcases List.mem_cons.mp hl with rfl | hl
  · intro x hx
    exact no hx
  rcases List.mem_cons.mp hl with rfl | hl
  · intro x hx
    exact one hx ho
  rcases List.mem_cons.mp hl with rfl | hl
  · intro x hx
    exact one hx hk
  rcases List.mem_cons.mp hl with rfl | hl
  · intro x hx
    exact no hx
  rcases List.mem_cons.mp hl with rfl | hl
  · intro x hx
    exact no hx
  rcases List.mem_cons.mp hl with rfl | hl
  · intro x hx
    exact no hx
  rcases List.mem_cons.mp hl with rfl | hl
  · intro x hx
    exact no hx
  rcases List.mem_cons.mp hl with rfl | hl
  · intro x hx
    exact no hx
  rcases List.mem_cons.mp hl with rfl | hl
  · intro x hx
    exact no hx
  exact absurd hl List.not_mem_nil
def spLines (K : PySem.W.Frag) : Sp := fun vs H Q _ => ∃ (a : Addr) (ns : List Int), vs = [.ref a] ∧ SqL K H a (ns.map V.int) ∧ (∀ n ∈ ns, 0 ≤ n ∧ n < 1009) ∧ ∀ (ls : List Ln) (p : Addr) (us : List V) (H' : Hp), Same H H' → (∀ l ∈ ls, LnOk l) → H' p = some (.lst us) → Rps K H' us (ls.map Ln.d) → Q (.ref p) H'
set_option maxHeartbeats 400000 in
theorem ok_lw_lines (T : Txt K mg w a) : FnOk P w K mg base CX0 4 (He.ga K "_law_lines") a.d_lw_lines ["row"] (spLines K) := by
  have gm := ok_lw_name (P := P) (w := w) (base := base) T
  have gn := ok_lw_number (P := P) (w := w) (base := base) T
  refine T.F_lw_lines.ok sc_lw_lines (fun vs H Q E h => ?_) (fun cdv A outer s H vs Q E hr h => ?_)
  · obtain ⟨_, _, rfl, _⟩ := h
    rfl
  obtain ⟨ra, ns, rfl, hra, ha, q⟩ := h
  refine ⟨_, PSs.nox (pss_cons (ps_set (i := 1) sc_lw_lines.nd rfl (Or.inl rfl) (pe_call gm (hr.mono (by omega)) (by rfl) T.g_lw_name T.F_lw_name.kp T.b_lw_name .nil pass0 (pa_cons (pv 0) (pa_cons pe_int pa_nil))))
      (pss_cons (ps_set (i := 2) sc_lw_lines.nd rfl (Or.inl rfl) (pe_tup (pa_cons (pe_call gm (hr.mono (by omega)) (by rfl) T.g_lw_name T.F_lw_name.kp T.b_lw_name .nil pass0 (pa_cons (pv 0) (pa_cons pe_int pa_nil))) (pa_cons (pe_call gn (hr.mono (by omega)) (by rfl) T.g_lw_number T.F_lw_number.kp T.b_lw_number .nil pass0 (pa_cons (pv 0) (pa_cons pe_int pa_nil))) pa_nil))))
      (pss_cons (ps_set (i := 3) sc_lw_lines.nd rfl (Or.inl rfl) (pe_call gn (hr.mono (by omega)) (by rfl) T.g_lw_number T.F_lw_number.kp T.b_lw_number .nil pass0 (pa_cons (pv 0) (pa_cons pe_int pa_nil))))
      (pss_cons (ps_set (i := 4) sc_lw_lines.nd rfl (Or.inl rfl) (pe_call gn (hr.mono (by omega)) (by rfl) T.g_lw_number T.F_lw_number.kp T.b_lw_number .nil pass0 (pa_cons (pv 0) (pa_cons pe_int pa_nil))))
      (pss_cons (ps_set (i := 5) sc_lw_lines.nd rfl (Or.inl rfl) (pe_lst (pa_cons (pe_tup (pa_cons pe_str (pa_cons (pv 3) pa_nil))) (pa_cons (pe_tup (pa_cons pe_str (pa_cons (pv 3) (pa_cons (pv 1) pa_nil)))) (pa_cons (pe_tup (pa_cons pe_str (pa_cons (pv 3) pa_nil))) (pa_cons (pe_tup (pa_cons pe_str (pa_cons (pv 4) pa_nil))) (pa_cons (pe_tup (pa_cons pe_str (pa_cons (pv 3) pa_nil))) (pa_cons (pe_tup (pa_cons pe_str (pa_cons (pv 4) pa_nil))) (pa_cons (pe_tup (pa_cons pe_str (pa_cons (pv 3) (pa_cons (pv 2) (pa_cons (pv 4) pa_nil))))) pa_nil)))))))))
      (pss_cons (ps_set (i := 5) sc_lw_lines.nd rfl (Or.inl rfl) (pe_op op_cat (pv 5) (pe_lst (pa_cons (pe_tup (pa_cons pe_str pa_nil)) (pa_cons (pe_tup (pa_cons pe_str pa_nil)) (pa_cons (pe_tup (pa_cons pe_str pa_nil)) (pa_cons (pe_tup (pa_cons pe_str (pa_cons (pv 4) pa_nil))) (pa_cons (pe_tup (pa_cons pe_str (pa_cons (pv 3) pa_nil))) (pa_cons (pe_tup (pa_cons pe_str pa_nil)) (pa_cons (pe_tup (pa_cons pe_str pa_nil)) (pa_cons (pe_tup (pa_cons pe_str pa_nil)) (pa_cons (pe_tup (pa_cons pe_str pa_nil)) pa_nil))))))))))))
      (pss_one (ps_ret (pe_op op_cat (pv 5) (pe_lst (pa_cons (pe_tup (pa_cons pe_str pa_nil)) (pa_cons (pe_tup (pa_cons pe_str pa_nil)) pa_nil)))))))))))), ?_⟩
  rw [show L2.start N_lw_lines [.ref ra] = [some (.ref ra), none, none, none, none, none] from rfl]
  refine ⟨_, rfl, ra, ns, _, rfl, hra, ha, fun n1 v1 H1 s1 b1 r1 => ?_⟩
  refine ⟨_, rfl, ra, ns, _, rfl, s1.seq hra, ha, fun n2 v2 H2 s2 b2 r2 => ⟨_, rfl, ra, ns, _, rfl, (s1.trans s2).seq hra, ha, fun i H3 s3 i0 i1 => ⟨Cm.small (by show 2 ≤ 100000; decide), fun tp ntp => ?_⟩⟩⟩
  have s4 := Cm.same_new (o := .tup [v2, .int i]) ntp
  have r4 : Rp K (L2.upd H3 tp (.tup [v2, .int i])) (.ref tp) (.tuple [.tuple (n2.map .int), .int i]) := Rp.made ntp (.cons (r2.keep (Same.tups s3)) (.cons (.int i) .nil))
  generalize L2.upd H3 tp _ = H4 at *
  have s14 := s1.trans (s2.trans (s3.trans s4))
  refine ⟨_, rfl, ra, ns, _, rfl, s14.seq hra, ha, fun k H5 s5 k0 k1 => ?_⟩
  refine ⟨_, rfl, ra, ns, _, rfl, (s14.trans s5).seq hra, ha, fun o H6 s6 o0 o1 => ?_⟩
  simp only [gName, List.set_cons_succ, List.set_cons_zero]
  have ra1 := r1.keep (Same.tups (s2.trans (s3.trans (s4.trans (s5.trans s6)))))
  have ra2 := r4.keep (Same.tups (s5.trans s6))
  have s16 := s14.trans (s5.trans s6)
  have e1 := ev_lst (K := K) (σ := [some (.ref ra), some v1, some (.ref tp), some (.int k), some (.int o), none]) (G := H6) (ev_cons (ev_tup (ev_cons (ev_str "begin") (ev_cons (ev_var (i := 3) rfl (.int k)) ev_nil)) (Nat.le_of_ble_eq_true rfl)) (ev_cons (ev_tup (ev_cons (ev_str "work") (ev_cons (ev_var (i := 3) rfl (.int k)) (ev_cons (ev_var (i := 1) rfl ra1) ev_nil))) (Nat.le_of_ble_eq_true rfl))
    (ev_cons (ev_tup (ev_cons (ev_str "commit") (ev_cons (ev_var (i := 3) rfl (.int k)) ev_nil)) (Nat.le_of_ble_eq_true rfl)) (ev_cons (ev_tup (ev_cons (ev_str "send") (ev_cons (ev_var (i := 4) rfl (.int o)) ev_nil)) (Nat.le_of_ble_eq_true rfl)) (ev_cons (ev_tup (ev_cons (ev_str "deliver") (ev_cons (ev_var (i := 3) rfl (.int k)) ev_nil)) (Nat.le_of_ble_eq_true rfl))
    (ev_cons (ev_tup (ev_cons (ev_str "fall") (ev_cons (ev_var (i := 4) rfl (.int o)) ev_nil)) (Nat.le_of_ble_eq_true rfl)) (ev_cons (ev_tup (ev_cons (ev_str "push") (ev_cons (ev_var (i := 3) rfl (.int k)) (ev_cons (ev_var (i := 2) rfl ra2) (ev_cons (ev_var (i := 4) rfl (.int o)) ev_nil)))) (Nat.le_of_ble_eq_true rfl)) ev_nil))))))) (Nat.le_of_ble_eq_true rfl) (Same.refl H6)
  dsimp only [tSeq, tAsg]
  refine e1 _ fun H7 p7 u7 s7 h7 r7 => ?_
  clear e1
  simp only [gName, List.set_cons_succ, List.set_cons_zero]
  have e2 := ev_lst (K := K) (σ := [some (.ref ra), some v1, some (.ref tp), some (.int k), some (.int o), some (.ref p7)]) (G := H7) (ev_cons (ev_tup (ev_cons (ev_str "gather") ev_nil) (Nat.le_of_ble_eq_true rfl)) (ev_cons (ev_tup (ev_cons (ev_str "settle") ev_nil) (Nat.le_of_ble_eq_true rfl)) (ev_cons (ev_tup (ev_cons (ev_str "balance") ev_nil) (Nat.le_of_ble_eq_true rfl)) (ev_cons (ev_tup (ev_cons (ev_str "ready") (ev_cons (ev_var (i := 4) rfl (.int o)) ev_nil)) (Nat.le_of_ble_eq_true rfl)) (ev_cons (ev_tup (ev_cons (ev_str "at") (ev_cons (ev_var (i := 3) rfl (.int k)) ev_nil)) (Nat.le_of_ble_eq_true rfl)) (ev_cons (ev_tup (ev_cons (ev_str "air") ev_nil) (Nat.le_of_ble_eq_true rfl)) (ev_cons (ev_tup (ev_cons (ev_str "order") ev_nil) (Nat.le_of_ble_eq_true rfl)) (ev_cons (ev_tup (ev_cons (ev_str "prints") ev_nil) (Nat.le_of_ble_eq_true rfl)) (ev_cons (ev_tup (ev_cons (ev_str "processes") ev_nil) (Nat.le_of_ble_eq_true rfl)) ev_nil))))))))) (Nat.le_of_ble_eq_true rfl) (Same.refl H7)
  refine ⟨_, rfl, ?_⟩
  refine e2 _ fun H8 p8 u8 s8 h8 r8 => ?_
  clear e2
  have l7 := r7.len
  have l8 := r8.len
  refine ⟨p7, p8, _, _, rfl, rfl, s8 _ _ h7, h8, Cm.small (by rw [l7, l8]; exact (Nat.le_of_ble_eq_true rfl)), fun p9 n9 => ?_⟩
  have s9 := Cm.same_new (o := .lst (u7 ++ u8)) n9
  have h9 : (L2.upd H8 p9 (.lst (u7 ++ u8))) p9 = some (.lst (u7 ++ u8)) := upd_same
  have r9 := (Rps.app (r7.keep (Same.tups s8)) r8).keep (Same.tups s9)
  generalize L2.upd H8 p9 _ = H9 at *
  simp only [gName, List.set_cons_succ, List.set_cons_zero]
  have e3 := ev_lst (K := K) (σ := [some (.ref ra), some v1, some (.ref tp), some (.int k), some (.int o), some (.ref p9)]) (G := H9) (ev_cons (ev_tup (ev_cons (ev_str "look") ev_nil) (Nat.le_of_ble_eq_true rfl)) (ev_cons (ev_tup (ev_cons (ev_str "same") ev_nil) (Nat.le_of_ble_eq_true rfl)) ev_nil)) (Nat.le_of_ble_eq_true rfl) (Same.refl H9)
  refine ⟨_, rfl, ?_⟩
  refine e3 _ fun H10 p10 u10 s10 h10 r10 => ?_
  clear e3
  have l9 := r9.len
  have l10 := r10.len
  refine ⟨p9, p10, _, _, rfl, rfl, s10 _ _ h9, h10, Cm.small (by rw [l9, l10]; exact (Nat.le_of_ble_eq_true rfl)), fun p11 n11 => ?_⟩
  have s11 := Cm.same_new (o := .lst ((u7 ++ u8) ++ u10)) n11
  refine q (linesL n1 n2 i k o) p11 _ _ (s16.trans (s7.trans (s8.trans (s9.trans (s10.trans s11))))) (linesL_ok b1 b2 ⟨i0, i1⟩ ⟨k0, k1⟩ ⟨o0, o1⟩) upd_same ?_
  exact (Rps.app (r9.keep (Same.tups s10)) r10).keep (Same.tups s11)
def isIntD : PyData → Bool
  | .int _ => true
  | _ => false
def isBlD : PyData → Bool
  | .bool _ => true
  | _ => false
theorem tyT {H : Hp} {a : Addr} {xs : List V} (h : SqT K H a xs) : TyX K H (.ref a) (.type "tuple") := by
  rcases h with (h | ⟨o, h⟩) | ⟨o, its, n, e, c, _⟩
  · exact .base (.tup h)
  · exact .fTuple h
  · exact .kTuple e c
theorem isiI {H : Hp} {v : V} {d : PyData} (r : Rp K H v d) : ∃ t, TyX K H v t ∧ PySem.W.kitOne K t (.type "int") = some (isIntD d || isBlD d) := by
  cases r with
  | non => exact ⟨_, .base .non, kit_ty (show kitB "NoneType" "int" = some false by decide +kernel)⟩
  | bl b => exact ⟨_, .base (.bl b), kit_ty (show kitB "bool" "int" = some true by decide +kernel)⟩
  | int i => exact ⟨_, .base (.int i), kit_ty (show kitB "int" "int" = some true by decide +kernel)⟩
  | str x => exact ⟨_, .base (.str x), kit_ty (show kitB "str" "int" = some false by decide +kernel)⟩
  | tup h1 r => exact ⟨_, tyT h1, kit_ty (show kitB "tuple" "int" = some false by decide +kernel)⟩
theorem argT {x : Ar} : (isIntD x.d || isBlD x.d) = (match x with | .num _ => true | _ => false) := by
  cases x <;> rfl
def spLine (K : PySem.W.Frag) : Sp := fun vs H Q _ => ∃ (v : V) (l : Ln), vs = [v] ∧ LnOk l ∧ Rp K H v l.d ∧ ∀ H', Same H H' → Q (.str l.t) H'
theorem work_args {l : Ln} (h : LnOk l) : (∀ ns, Ar.proc ns ∈ l.2 → l.1 = ("work" : Str)) ∧ ∀ ns k, Ar.obj ns k ∈ l.2 → l.1 ≠ ("work" : Str) := by
  refine ⟨fun ns hx => ?_, fun ns k hx => ?_⟩
  · have h1 : ∀ q ∈ formsT, ("process" : Str) ∈ q.2 → q.1 = ("work" : Str) := by decide +kernel
    exact h1 _ h.1 (List.mem_map.mpr ⟨_, hx, rfl⟩)
  · have h1 : ∀ q ∈ formsT, ("object" : Str) ∈ q.2 → q.1 ≠ ("work" : Str) := by decide +kernel
    exact h1 _ h.1 (List.mem_map.mpr ⟨_, hx, rfl⟩)
theorem args_len {l : Ln} (h : LnOk l) : l.2.length ≤ 3 := by
  have h1 : ∀ q ∈ formsT, q.2.length ≤ 3 := by decide +kernel
  have := h1 _ h.1
  rw [List.length_map] at this
  exact this
theorem ok_lw_line (T : Txt K mg w a) : FnOk P w K mg base CX0 2 (He.ga K "_law_line") a.d_lw_line ["parts"] (spLine K) := by
  have gw := ok_lw_written (P := P) (w := w) (base := base) T
  refine T.F_lw_line.ok sc_lw_line (fun vs H Q E h => ?_) (fun cdv A outer s H vs Q E hr h => ?_)
  · obtain ⟨_, _, rfl, _⟩ := h
    rfl
  obtain ⟨v, l, rfl, hl, r, q⟩ := h
  refine ⟨_, PSs.nox (pss_cons (ps_set (i := 1) sc_lw_line.nd rfl (Or.inl rfl) (pe_lst (pa_cons (pe_ix ix_tup (pv 0) pe_int (fun _ _ => rfl)) pa_nil)))
      (pss_cons (ps_for PassesOwn.never rfl (pi_tup (pe_slice sl_tupA (pv 0) (po_some pe_int) po_none)) (pg_name (i := 2) sc_lw_line.nd rfl (Or.inl rfl))
      (pss_one (ps_if (pt_val (pe_callB call_isi (by rfl) T.g_isinstance boot_isinstance (pa_cons (pv 2) (pa_cons (pe_bltn (v := .ty "int") (by rfl) T.g_int boot_int rfl) pa_nil)))) (pss_one (ps_expr (pe_bm PySem.F.plainAttrs_list PySem.F.slot_list_append PySem.F.type_list_append mt_append (pv 1) (pa_cons (pe_callTy call_str_int (by rfl) T.g_str boot_str (pa_cons (pv 2) pa_nil)) pa_nil)))) (pss_one (ps_if (pt_cmpR op_eq (pe_ix ix_tup (pv 0) pe_int (fun _ _ => rfl)) pe_str (nomark _)) (pss_one (ps_expr (pe_bm PySem.F.plainAttrs_list PySem.F.slot_list_append PySem.F.type_list_append mt_append (pv 1) (pa_cons (pe_call gw (hr.mono (by omega)) (by rfl) T.g_lw_written T.F_lw_written.kp T.b_lw_written .nil pass0 (pa_cons (pv 2) pa_nil)) pa_nil)))) (pss_one (ps_expr (pe_bm PySem.F.plainAttrs_list PySem.F.slot_list_append PySem.F.type_list_append mt_append (pv 1) (pa_cons (pe_op op_add_str (pe_op op_add_str (pe_call gw (hr.mono (by omega)) (by rfl) T.g_lw_written T.F_lw_written.kp T.b_lw_written .nil pass0 (pa_cons (pe_ix ix_tup (pv 2) pe_int (fun _ _ => rfl)) pa_nil)) pe_str) (pe_callTy call_str_int (by rfl) T.g_str boot_str (pa_cons (pe_ix ix_tup (pv 2) pe_int (fun _ _ => rfl)) pa_nil))) pa_nil)))))))))
      (pss_one (ps_ret (pe_join pe_str (pv 1)))))), ?_⟩
  rw [show L2.start N_lw_line [v] = [some v, none, none] from rfl]
  obtain ⟨pa, xs, rfl, hpa, rs⟩ := id r.tup_inv
  obtain ⟨w1, us, rfl, rw1, rs⟩ := rs.cons_inv
  obtain rfl := rw1.str_inv
  have la := args_len hl
  refine ⟨_, rfl, pa, _, 0, _, rfl, rfl, hpa, atI_nat (j := 0) rfl, Cm.small (by show 1 ≤ 100000; decide), fun wp nwp => ?_⟩
  have s1 := Cm.same_new (o := .lst [.str l.1]) nwp
  have hwp : (L2.upd H wp (.lst [.str l.1])) wp = some (.lst [.str l.1]) := upd_same
  have nwp' := nwp
  generalize L2.upd H wp _ = H1 at *
  simp only [gName, List.set_cons_succ, List.set_cons_zero]
  refine ⟨_, rfl, _, rfl, ?_⟩
  simp only [tNoPart]
  refine from_rp (k := 1) (r.keep (Same.tups s1)) (Nat.le_add_left 1 _) fun v3 H3 s3 r3 => ?_
  obtain ⟨c3, xs3, rfl, hc3, rs3⟩ := r3.tup_inv
  have s13 := s1.trans s3
  refine ⟨c3, rfl, ⟨_, hc3⟩, ?_⟩
  have e3 : (PyData.str l.1 :: l.2.map Ar.d).drop 1 = l.2.map Ar.d := rfl
  rw [e3] at rs3
  have l3 := rs3.len
  rw [List.length_map] at l3
  refine for_tup (K := K) (a := c3) (xs := xs3) (D := { nx := _, rt := Q }) (fun i σ Hi => ∃ x2 : Option V, σ = [some (.ref pa), some (.ref wp), x2] ∧ Same H Hi ∧ Tups H3 Hi ∧ Hi wp = some (.lst ((l.1 :: (l.2.take i).map Ar.t).map V.str))) ⟨none, rfl, s13, Same.tups (Same.refl H3), s3 _ _ hwp⟩ (fun i σ Hi _ b => ?_) (fun i x σ Hi hx b => ?_) fun σ Hi b => ?_
  · obtain ⟨_, _, _, t3, _⟩ := b
    exact t3.sqt hc3
  · obtain ⟨x2, rfl, sI, t3, hwI⟩ := b
    simp only [gName, List.set_cons_succ, List.set_cons_zero]
    have hi : i < l.2.length := by
      have := (List.getElem?_eq_some_iff.mp hx).1
      omega
    obtain ⟨x', hx', rx⟩ := rs3.at_ (i := i) (d := l.2[i].d) (by rw [List.getElem?_map, List.getElem?_eq_getElem hi]; rfl)
    rw [hx] at hx'
    cases hx'
    have mem : l.2[i] ∈ l.2 := List.getElem_mem hi
    have okx := hl.2 _ mem
    have rx1 := rx.keep t3
    obtain ⟨wa1, wa2⟩ := work_args hl
    have eT : l.2.take (i + 1) = l.2.take i ++ [l.2[i]] := by
      rw [List.take_succ, List.getElem?_eq_getElem hi]
      rfl
    have fin : ∀ (y : V) (Hj : Hp), Same Hi Hj → ∀ t : Str, t = l.2[i].t → ∃ x2 : Option V, [some (V.ref pa), some (V.ref wp), some x] = [some (.ref pa), some (.ref wp), x2] ∧ Same H (L2.upd Hj wp (.lst ((l.1 :: (l.2.take i).map Ar.t).map V.str ++ [.str t]))) ∧ Tups H3 (L2.upd Hj wp (.lst ((l.1 :: (l.2.take i).map Ar.t).map V.str ++ [.str t]))) ∧ (L2.upd Hj wp (.lst ((l.1 :: (l.2.take i).map Ar.t).map V.str ++ [.str t]))) wp = some (.lst ((l.1 :: (l.2.take (i + 1)).map Ar.t).map V.str)) := fun y Hj sJ t et => by
      refine ⟨_, rfl, Cm.same_mut (sI.trans sJ) nwp', fun b o hb no => ?_, ?_⟩
      · have h1 := sJ _ _ (t3 b o hb no)
        by_cases z : b = wp
        · subst z
          rw [s3 _ _ hwp] at hb
          cases hb
          exact absurd rfl (no _)
        · exact (upd_ne z).trans h1
      · rw [upd_same, eT, et, List.map_append]
        simp only [List.map_cons, List.map_append, List.cons_append, List.map_nil]
    have room : ((l.1 :: (l.2.take i).map Ar.t).map V.str).length < sizeLine := Cm.smallL (by rw [List.length_map, List.length_cons, List.length_map, List.length_take]; omega)
    generalize l.2[i] = y at *
    obtain ⟨t1, h1, k1⟩ := isiI rx1
    rw [argT] at k1
    refine ⟨_, rfl, _, _, _, _, _, rfl, .ty "int", h1, k1, _, rfl, Cm.itB (fun e => ?_) fun e => ?_⟩
    · cases y with
      | num n =>
        obtain rfl := rx1.int_inv
        exact ⟨_, rfl, .inl ⟨rfl, _, SqL.of hwI⟩, _, rfl, _, rfl, log_small (by have := okx.1; omega) (by have := okx.2; omega), wp, _, _, rfl, rfl, hwI, room, fin (.int n) Hi (Same.refl Hi) _ rfl⟩
      | proc ns => cases e
      | obj ns k => cases e
    · refine ⟨_, rfl, pa, _, 0, _, rfl, rfl, Cm.sameT sI hpa, atI_nat (j := 0) rfl, rfl, _, rfl, Cm.itES (fun e2 => ?_) fun e2 => ?_⟩
      · cases y with
        | num n => cases e
        | obj ns k => exact absurd e2 (wa2 ns k mem)
        | proc ns =>
          exact ⟨_, rfl, .inl ⟨rfl, _, SqL.of hwI⟩, _, rfl, x, ns, rfl, rx1, by have := okx.1; omega, fun n hn => ⟨(okx.2 n hn).1, by have := (okx.2 n hn).2; omega⟩, fun H5 s5 => ⟨wp, _, _, rfl, rfl, s5 _ _ hwI, room, fin (.int 0) H5 s5 _ rfl⟩⟩
      · cases y with
        | num n => cases e
        | proc ns => exact absurd (wa1 ns mem) e2
        | obj ns k =>
          obtain ⟨po, ys, rfl, hpo, rys⟩ := id rx1.tup_inv
          obtain ⟨y1, ys, rfl, ry1, rys⟩ := rys.cons_inv
          obtain ⟨y2, ys, rfl, ry2, rys⟩ := rys.cons_inv
          obtain rfl := rys.nil_inv
          obtain rfl := ry2.int_inv
          obtain ⟨⟨b1, b2⟩, b3, b4⟩ := okx
          have b2' : ∀ n ∈ ns, 0 ≤ n ∧ n ≤ 999999 := fun n hn => ⟨(b2 n hn).1, by have := (b2 n hn).2; omega⟩
          have lp := len_pX (ns := ns) (by omega) b2'
          refine ⟨_, rfl, .inl ⟨rfl, _, SqL.of hwI⟩, _, rfl, po, _, 0, _, rfl, rfl, hpo, atI_nat (j := 0) rfl, y1, ns, rfl, ry1, by omega, b2', fun H5 s5 => ?_⟩
          refine ⟨_, _, rfl, rfl, by rw [← app_len]; exact sz (j1 lp (jL (x := "#") (n := 1) rfl)) rfl, _, rfl, po, _, 1, _, rfl, rfl, Cm.sameT s5 hpo, atI_nat (j := 1) rfl, _, rfl, log_small (by omega) (by omega), _, _, rfl, rfl, by rw [← app_len]; exact sz (j1 (j1 lp (jL (x := "#") (n := 1) rfl)) (len_pos b3 (by omega))) rfl, ?_⟩
          exact ⟨wp, _, _, rfl, rfl, s5 _ _ hwI, room, fin (.int 0) H5 s5 _ rfl⟩
  · obtain ⟨x2, rfl, sI, t3, hwI⟩ := b
    rw [l3, List.take_length] at hwI
    refine ⟨⟨_, rfl⟩, _, rfl, _, wp, _, rfl, rfl, .inl (SqL.of hwI), ?_, q _ sI⟩
    have big : ∀ x ∈ l.1 :: l.2.map Ar.t, x.length ≤ 500 := fun x hx => by
      rcases List.mem_cons.mp hx with rfl | hx
      · have := (forms_word _ hl.1).2.2.2
        exact Nat.le_trans this (by omega)
      · obtain ⟨y, hy, rfl⟩ := List.mem_map.mp hx
        exact Ar.len (hl.2 y hy)
    have := sum_len big
    have e1 : (Str.ofString " ").length = 1 := rfl
    rw [List.length_cons, List.length_map] at this
    rw [e1, List.length_cons, List.length_map]
    omega
theorem cut_tail (x y : Str) : cutS (x ++ y) (some (x.length : Int)) none = y := by
  refine TL.ext_tl ?_
  show ((TL.tl (x ++ y)).drop (HT.sIx (x ++ y).length 0 (some (x.length : Int)))).take ((x ++ y).length - HT.sIx (x ++ y).length 0 (some (x.length : Int))) = TL.tl y
  rw [HT.sIx_nat, app_len, show min x.length (x.length + y.length) = x.length by omega, TL.tl_append, TL.len_tl x, List.drop_left, TL.len_tl y, List.take_of_length_le (by omega)]
theorem cut_head (x y : Str) : cutS (x ++ y) none (some (x.length : Int)) = x := by
  refine TL.ext_tl ?_
  show ((TL.tl (x ++ y)).drop 0).take (HT.sIx (x ++ y).length (x ++ y).length (some (x.length : Int)) - 0) = TL.tl x
  rw [HT.sIx_nat, app_len, show min x.length (x.length + y.length) = x.length by omega, TL.tl_append, TL.len_tl x, List.drop_zero, Nat.sub_zero, List.take_left]
theorem words_up : ∀ q ∈ formsT, (Txt.upper q.1).length ≤ 12 := by decide +kernel
theorem Ln.len {l : Ln} (h : LnOk l) : l.t.length ≤ 2100 ∧ l.tail.length ≤ 2000 ∧ (Txt.join " " (l.2.map Ar.t)).length ≤ 2000 ∧ l.1.length ≤ 12 := by
  have la := args_len h
  have lw : l.1.length ≤ 12 := (forms_word _ h.1).2.2.2
  have h1 : l.tail.length ≤ 501 * l.2.length := by
    have := cat_len (xs := l.2.map fun x => (" " : Str) ++ x.t) (n := 501) fun x hx => by
      obtain ⟨y, hy, rfl⟩ := List.mem_map.mp hx
      exact j1 (jL (x := " ") (n := 1) rfl) (Ar.len (h.2 y hy))
    rw [List.length_map] at this
    exact this
  have h2 : l.t.length = l.1.length + l.tail.length := by rw [Ln.t_eq, app_len]
  have h3 : (Txt.join " " (l.2.map Ar.t)).length ≤ 2000 := by
    by_cases ne : l.2 = []
    · rw [ne]
      show (Txt.join " " []).length ≤ 2000
      rw [join_nil]
      exact Nat.zero_le _
    · have := congrArg Str.length (Ln.tail_eq ne)
      rw [app_len] at this
      omega
  exact ⟨by omega, by omega, h3, lw⟩
/-- texts written out -/
def EvS (σ : L2.St) (te : TE) (x : Str) (n : Nat) : Prop := x.length ≤ n ∧ ∀ (H : Hp) (Q : VK), Q (.str x) H → te σ H Q
def EvSs (σ : L2.St) (ta : TA) (xs : List Str) : Prop := ∀ (H : Hp) (Q : List V → Hp → Prop), Q (xs.map V.str) H → ta σ H Q
section
variable {σ : L2.St}
theorem es_str (x : Str) {n : Nat} (h : x.length.ble n = true) : EvS σ (tC (.str x)) x n := ⟨Nat.le_of_ble_eq_true h, fun H Q q => q⟩
theorem es_var {i : Nat} {x : Str} {n : Nat} (h : σ[i]? = some (some (.str x))) (l : x.length ≤ n) : EvS σ (tVar i) x n := ⟨l, fun H Q q => ⟨_, h, q⟩⟩
theorem es_add {a b : TE} {x y : Str} {m n : Nat} (h1 : EvS σ a x m) (h2 : EvS σ b y n) (l : (m + n).ble 100000 = true) : EvS σ (tOp (fun x y H Q => ∃ i j, x = V.str i ∧ y = V.str j ∧ i.length + j.length ≤ sizeLine ∧ Q (V.str (i ++ j)) H) a b) (x ++ y) (m + n) :=
  ⟨j1 h1.1 h2.1, fun H Q q => h1.2 H _ (h2.2 H _ ⟨x, y, rfl, rfl, by rw [← app_len]; exact sz (j1 h1.1 h2.1) l, q⟩)⟩
theorem es_nil : EvSs σ tNil [] := fun H Q q => q
theorem es_cons {a : TE} {t : TA} {x : Str} {n : Nat} {xs : List Str} (h1 : EvS σ a x n) (h2 : EvSs σ t xs) : EvSs σ (tCons a t) (x :: xs) := fun H Q q => h1.2 H _ (h2 H _ q)
theorem es_lst {t : TA} {xs : List Str} (h : EvSs σ t xs) (l : xs.length.ble 100000 = true) (H : Hp) (Q : VK) (q : ∀ p, H p = none → Q (.ref p) (L2.upd H p (.lst (xs.map V.str)))) : (tLst t) σ H Q := h H _ ⟨Cm.small (by rw [List.length_map]; exact Nat.le_of_ble_eq_true l), q⟩
abbrev lenT : TE := tCB (fun xs H Q => ∃ z : Str, xs = [V.str z] ∧ z.length ≤ sizeLine ∧ Q (V.int (z.length : Nat)) H) (tCons (tVar 2) tNil)
theorem es_from {x y w : Str} {n : Nat} (h1 : σ[1]? = some (some (.str (x ++ y)))) (h2 : σ[2]? = some (some (.str w))) (e : w = x) (l1 : w.length ≤ 100000) (l2 : (x ++ y).length ≤ 100000) (l : y.length ≤ n) : EvS σ (tSl rSlS (tVar 1) (tPart lenT) tNoPart) y n :=
  ⟨l, fun H Q q => ⟨_, h1, _, h2, w, rfl, Cm.small l1, _, rfl, _, rfl, Cm.small l2, by rw [e, cut_tail]; exact q⟩⟩
theorem es_from1 {x y w : Str} {n : Nat} (h1 : σ[1]? = some (some (.str (x ++ y)))) (h2 : σ[2]? = some (some (.str w))) (e : (w.length : Int) + 1 = (x.length : Nat)) (l1 : w.length ≤ 100000) (l2 : (x ++ y).length ≤ 100000) (l : y.length ≤ n) : EvS σ (tSl rSlS (tVar 1) (tPart (tOp (rI0 fun i j => V.int (i + j)) lenT (tC (V.int 1)))) tNoPart) y n :=
  ⟨l, fun H Q q => ⟨_, h1, _, h2, w, rfl, Cm.small l1, _, _, rfl, rfl, _, rfl, _, rfl, Cm.small l2, by rw [e, cut_tail]; exact q⟩⟩
theorem es_upto1 {x y w : Str} {n : Nat} (h1 : σ[1]? = some (some (.str (x ++ y)))) (h2 : σ[2]? = some (some (.str w))) (e : (w.length : Int) + 1 = (x.length : Nat)) (l1 : w.length ≤ 100000) (l2 : (x ++ y).length ≤ 100000) (l : x.length ≤ n) : EvS σ (tSl rSlS (tVar 1) tNoPart (tPart (tOp (rI0 fun i j => V.int (i + j)) lenT (tC (V.int 1))))) x n :=
  ⟨l, fun H Q q => ⟨_, h1, _, h2, w, rfl, Cm.small l1, _, _, rfl, rfl, _, rfl, _, rfl, Cm.small l2, by rw [e, cut_head]; exact q⟩⟩
end
theorem lc_strs {K : PySem.W.Frag} {a : Addr} {xs : List Str} {te : TE} {f : Str → Str} {v0 v1 v2 v3 v4 : Option V} {H1 : Hp} {D : Addr} {Qd : Hp → Prop} (hx : H1 a = some (.lst (xs.map V.str))) (nD : H1 D = none) (lx : xs.length ≤ 100000) (hte : ∀ x ∈ xs, EvS [v0, v1, v2, v3, some (.str x)] te (f x) 5000) (q : ∀ H', Same H1 H' → H' D = some (.lst ((xs.map f).map V.str)) → Qd H') :
    ∃ W : Nat → Nat → Hp → Prop, (∃ m, W 0 m (L2.upd H1 D (.lst []))) ∧ ∀ i m H, W i m H →
      ((Itl K a).stop i H ∧ Qd H) ∨ ((Itl K a).go i H ∧ ∃ Nx : Hp → Prop, (∀ H', Nx H' → ∃ m', m' < m ∧ W (i + 1) m' H') ∧ ∀ x H', (Itl K a).yld i H x H' → gName 4 x (wipe [v0, v1, v2, v3, v4] [4]) H' fun σ2 H2 => wipe σ2 [4] = wipe [v0, v1, v2, v3, v4] [4] ∧ tYes σ2 H2 fun b H3 =>
        if b = true then te σ2 H3 fun y H4 => ∃ acc, H4 D = some (.lst acc) ∧ acc.length < sizeLine ∧ Nx (L2.upd H4 D (.lst (acc ++ [y]))) else Nx H3) := by
  refine lc_list (K := K) (a := a) (xs := xs.map V.str) (fun j Hj => Same H1 Hj ∧ Hj D = some (.lst (((xs.take j).map f).map V.str))) ⟨Cm.same_new nD, upd_same⟩ (fun j Hj _ b => SqL.of (b.1 _ _ hx)) (fun j y Hj hy ⟨sJ, hD⟩ => ?_) fun Hj ⟨sJ, hD⟩ => ?_
  · refine ⟨rfl, ?_⟩
    rw [List.getElem?_map] at hy
    obtain ⟨x, hx', rfl⟩ := Option.map_eq_some_iff.mp hy
    have hj := (List.getElem?_eq_some_iff.mp hx').1
    refine (hte x (List.mem_of_getElem? hx')).2 _ _ ⟨_, hD, Cm.smallL (by rw [List.length_map, List.length_map, List.length_take]; omega), Cm.same_mut sJ nD, ?_⟩
    rw [upd_same, List.take_succ, hx', List.map_append, List.map_append]
    rfl
  · rw [List.length_map, List.take_length] at hD
    exact q Hj sJ hD
def spSpoilt (K : PySem.W.Frag) : Sp := fun vs H Q _ => ∃ (v : V) (l : Ln), vs = [v, .str l.t] ∧ LnOk l ∧ Rp K H v l.d ∧ ∀ H' p (bs : List Str), Same H H' → H' p = some (.lst (bs.map V.str)) → (∀ b ∈ bs, cmdF b = none ∧ b.length ≤ 10000) → Q (.ref p) H'
theorem ok_lw_spoilt (T : Txt K mg w a) : FnOk P w K mg base CX0 1 (He.ga K "_law_spoilt") a.d_lw_spoilt ["parts", "text"] (spSpoilt K) := by
  refine T.F_lw_spoilt.ok sc_lw_spoilt (fun vs H Q E h => ?_) (fun cdv A outer s H vs Q E hr h => ?_)
  · obtain ⟨_, _, rfl, _⟩ := h
    rfl
  obtain ⟨v, l, rfl, hl, r, q⟩ := h
  refine ⟨_, PSs.nox (pss_cons (ps_set (i := 2) sc_lw_spoilt.nd rfl (Or.inr rfl) (pe_ix ix_tup (pv 0) pe_int (fun _ _ => rfl)))
      (pss_cons (ps_set (i := 3) sc_lw_spoilt.nd rfl (Or.inl rfl) (pe_lst (pa_cons (pe_op op_add_str pe_str (pv 1)) (pa_cons (pe_op op_add_str (pv 1) pe_str) (pa_cons (pe_op op_add_str (pv 1) pe_str) (pa_cons (pe_op op_add_str (pe_bm0 PySem.F.plainAttrs_str PySem.F.slot_str_upper PySem.F.type_str_upper mt_upper (pv 2)) (pe_slice sl_str (pv 1) (po_some (pe_callB call_len_str (by rfl) T.g_len boot_len (pa_cons (pv 2) pa_nil))) po_none)) (pa_cons (pe_op op_add_str (pe_op op_add_str (pv 2) pe_str) (pe_slice sl_str (pv 1) (po_some (pe_callB call_len_str (by rfl) T.g_len boot_len (pa_cons (pv 2) pa_nil))) po_none)) (pa_cons (pe_op op_add_str pe_str (pv 1)) pa_nil))))))))
      (pss_cons (ps_if (pt_cmpR op_eq (pe_callB call_len_seq (by rfl) T.g_len boot_len (pa_cons (pv 0) pa_nil)) pe_int (nomark _)) (pss_one (ps_ret (pv 3))) pss_nil)
      (pss_cons (ps_set (i := 3) sc_lw_spoilt.nd rfl (Or.inl rfl) (pe_op op_cat (pv 3) (pe_lst (pa_cons (pv 2) (pa_cons (pe_op op_add_str (pe_op op_add_str (pv 2) pe_str) (pe_slice sl_str (pv 1) (po_some (pe_callB call_len_str (by rfl) T.g_len boot_len (pa_cons (pv 2) pa_nil))) po_none)) (pa_cons (pe_op op_add_str (pe_op op_add_str (pe_op op_add_str (pe_slice sl_str (pv 1) po_none (po_some (pe_op op_add (pe_callB call_len_str (by rfl) T.g_len boot_len (pa_cons (pv 2) pa_nil)) pe_int))) pe_str) (pe_slice sl_str (pv 1) (po_some (pe_op op_add (pe_callB call_len_str (by rfl) T.g_len boot_len (pa_cons (pv 2) pa_nil)) pe_int)) po_none)) pe_str) pa_nil))))))
      (pss_cons (ps_if (pt_cmpR op_eq (pv 2) pe_str (nomark _)) (pss_one (ps_ret (pe_op op_cat (pv 3) (pe_lc (own := [("one", 4)]) (g := gName 4) (tt := tYes)  (by rfl) sc_lw_spoilt.nd (pi_list (pe_lst (pa_cons pe_str (pa_cons pe_str (pa_cons pe_str (pa_cons pe_str (pa_cons pe_str (pa_cons pe_str (pa_cons pe_str (pa_cons pe_str (pa_cons pe_str (pa_cons pe_str (pa_cons pe_str pa_nil))))))))))))) (blkOk_by (own := [("one", 4)]) (N := N_lw_spoilt) (sc := defScope s_lw_spoilt) (by decide +kernel)) (fun _ _ _ _ _ => pg_name (i := 4) sc_lw_spoilt.nd rfl (Or.inl rfl)) (fun _ _ _ _ _ => pts_nil) (fun _ _ _ _ _ => (pe_op op_add_str pe_str (pv 4))))))) pss_nil)
      (pss_cons (ps_if (pt_cmpR op_eq (pv 2) pe_str (nomark _)) (pss_one (ps_ret (pe_op op_cat (pe_op op_cat (pv 3) (pe_lc (own := [("one", 4)]) (g := gName 4) (tt := tYes)  (by rfl) sc_lw_spoilt.nd (pi_list (pe_lst (pa_cons pe_str (pa_cons pe_str (pa_cons pe_str (pa_cons pe_str (pa_cons pe_str (pa_cons pe_str (pa_cons pe_str (pa_cons pe_str (pa_cons pe_str pa_nil))))))))))) (blkOk_by (own := [("one", 4)]) (N := N_lw_spoilt) (sc := defScope s_lw_spoilt) (by decide +kernel)) (fun _ _ _ _ _ => pg_name (i := 4) sc_lw_spoilt.nd rfl (Or.inl rfl)) (fun _ _ _ _ _ => pts_nil) (fun _ _ _ _ _ => (pe_op op_add_str (pe_op op_add_str pe_str (pv 4)) pe_str)))) (pe_lst (pa_cons pe_str pa_nil))))) pss_nil)
      (pss_one (ps_ret (pe_op op_cat (pv 3) (pe_lc (own := [("one", 4)]) (g := gName 4) (tt := tYes)  (by rfl) sc_lw_spoilt.nd (pi_list (pe_lst (pa_cons pe_str (pa_cons pe_str (pa_cons pe_str (pa_cons pe_str (pa_cons pe_str (pa_cons pe_str (pa_cons pe_str pa_nil))))))))) (blkOk_by (own := [("one", 4)]) (N := N_lw_spoilt) (sc := defScope s_lw_spoilt) (by decide +kernel)) (fun _ _ _ _ _ => pg_name (i := 4) sc_lw_spoilt.nd rfl (Or.inl rfl)) (fun _ _ _ _ _ => pts_nil) (fun _ _ _ _ _ => (pe_op op_add_str (pe_op op_add_str (pv 2) pe_str) (pv 4))))))))))))), ?_⟩
  rw [show L2.start N_lw_spoilt [v, .str l.t] = [some v, some (.str l.t), none, none, none] from rfl]
  obtain ⟨l1, l2, l3, l4⟩ := Ln.len hl
  obtain ⟨pa, xs, rfl, hpa, rs⟩ := id r.tup_inv
  obtain ⟨w1, us, rfl, rw1, rt⟩ := rs.cons_inv
  obtain rfl := rw1.str_inv
  have la := args_len hl
  have lus := rt.len
  rw [List.length_map] at lus
  have lup := words_up _ hl.1
  refine ⟨_, rfl, pa, _, 0, _, rfl, rfl, hpa, atI_nat (j := 0) rfl, ?_⟩
  simp only [gName, List.set_cons_succ, List.set_cons_zero]
  have et := Ln.t_eq l
  have t1 : ∀ (x3 x4 : Option V), EvS [some (.ref pa), some (.str l.t), some (.str l.1), x3, x4] (tVar 1) l.t 2100 := fun x3 x4 => es_var rfl l1
  have t2 : ∀ (x3 x4 : Option V), EvS [some (.ref pa), some (.str l.t), some (.str l.1), x3, x4] (tVar 2) l.1 12 := fun x3 x4 => es_var rfl l4
  have tu : ∀ (x3 x4 : Option V), EvS [some (.ref pa), some (.str l.t), some (.str l.1), x3, x4] (tBM0 K "str" (fun x xs H Q => ∃ a, x = V.str a ∧ xs = [] ∧ a.length ≤ 5592405 ∧ Q (V.str (Txt.upper a)) H) (tVar 2)) (Txt.upper l.1) 12 := fun x3 x4 => ⟨lup, fun H Q q => ⟨_, rfl, rfl, l.1, rfl, rfl, by omega, q⟩⟩
  have tt : ∀ (x3 x4 : Option V), EvS [some (.ref pa), some (.str l.t), some (.str l.1), x3, x4] (tSl rSlS (tVar 1) (tPart lenT) tNoPart) l.tail 2000 := fun x3 x4 => es_from (x := l.1) (by rw [et]; rfl) rfl rfl (by omega) (by rw [← et]; omega) l2
  have b1 : ∀ (x3 x4 : Option V), EvSs [some (.ref pa), some (.str l.t), some (.str l.1), x3, x4] _ (spBase l) := fun x3 x4 => es_cons (es_add (es_str " " (n := 1) rfl) (t1 x3 x4) rfl) (es_cons (es_add (t1 x3 x4) (es_str " " (n := 1) rfl) rfl) (es_cons (es_add (t1 x3 x4) (es_str " 1" (n := 2) rfl) rfl) (es_cons (es_add (tu x3 x4) (tt x3 x4) rfl) (es_cons (es_add (es_add (t2 x3 x4) (es_str "x" (n := 1) rfl) rfl) (tt x3 x4) rfl) (es_cons (es_add (es_str "x" (n := 1) rfl) (t1 x3 x4) rfl) es_nil)))))
  have b2 := spBase_no hl
  dsimp only [tSeq, tAsg]
  refine es_lst (b1 none none) rfl _ _ fun p np => ?_
  simp only [gName, List.set_cons_succ, List.set_cons_zero]
  have s1 := Cm.same_new (o := .lst ((spBase l).map V.str)) np
  have hp : (L2.upd H p (.lst ((spBase l).map V.str))) p = some (.lst ((spBase l).map V.str)) := upd_same
  generalize L2.upd H p _ = H1 at *
  have len1 : ∀ b ∈ spBase l, b.length ≤ 10000 := fun b hb => by
    unfold spBase at hb
    simp only [List.mem_cons, List.not_mem_nil, or_false] at hb
    rcases hb with rfl | rfl | rfl | rfl | rfl | rfl
    · exact Nat.le_trans (j1 (jL (x := " ") (n := 1) rfl) l1) (by omega)
    · exact Nat.le_trans (j1 l1 (jL (x := " ") (n := 1) rfl)) (by omega)
    · exact Nat.le_trans (j1 l1 (jL (x := " 1") (n := 2) rfl)) (by omega)
    · exact Nat.le_trans (j1 lup l2) (by omega)
    · exact Nat.le_trans (j1 (j1 l4 (jL (x := "x") (n := 1) rfl)) l2) (by omega)
    · exact Nat.le_trans (j1 (jL (x := "x") (n := 1) rfl) l1) (by omega)
  refine ⟨_, rfl, pa, _, rfl, .inr (Cm.sameT s1 hpa), rfl, _, rfl, Cm.itD (fun e => ?_) fun e => ?_⟩
  · exact ⟨_, rfl, q H1 p (spBase l) s1 hp fun b hb => ⟨b2 b hb, len1 b hb⟩⟩
  have ne : l.2 ≠ [] := fun z => by
    refine e ?_
    rw [List.length_cons, lus, z]
    rfl
  have eJ : l.t = (l.1 ++ " ") ++ Txt.join " " (l.2.map Ar.t) := by rw [et, Ln.tail_eq ne, app_assoc]
  have b3 := spMore_no hl ne
  have l5 : (l.1 ++ " ").length ≤ 13 := j1 l4 (jL (x := " ") (n := 1) rfl)
  have lx : (l.1.length : Int) + 1 = ((l.1 ++ " ").length : Nat) := by
    rw [app_len]
    have e1 : (Str.ofString " ").length = 1 := rfl
    omega
  have tf : ∀ (x3 x4 : Option V), EvS [some (.ref pa), some (.str l.t), some (.str l.1), x3, x4] (tSl rSlS (tVar 1) (tPart (tOp (rI0 fun i j => V.int (i + j)) lenT (tC (V.int 1)))) tNoPart) (Txt.join " " (l.2.map Ar.t)) 2000 := fun x3 x4 => es_from1 (x := l.1 ++ " ") (by rw [eJ]; rfl) rfl lx (by omega) (by rw [← eJ]; omega) l3
  have th : ∀ (x3 x4 : Option V), EvS [some (.ref pa), some (.str l.t), some (.str l.1), x3, x4] (tSl rSlS (tVar 1) tNoPart (tPart (tOp (rI0 fun i j => V.int (i + j)) lenT (tC (V.int 1))))) (l.1 ++ " ") 13 := fun x3 x4 => es_upto1 (y := Txt.join " " (l.2.map Ar.t)) (by rw [eJ]; rfl) rfl lx (by omega) (by rw [← eJ]; omega) l5
  have b4 : ∀ (x3 x4 : Option V), EvSs [some (.ref pa), some (.str l.t), some (.str l.1), x3, x4] _ (spMore l) := fun x3 x4 => es_cons (t2 x3 x4) (es_cons (es_add (es_add (t2 x3 x4) (es_str " " (n := 1) rfl) rfl) (tt x3 x4) rfl) (es_cons (es_add (es_add (es_add (th x3 x4) (es_str "0" (n := 1) rfl) rfl) (tf x3 x4) rfl) (es_str "x" (n := 1) rfl) rfl) es_nil))
  have len2 : ∀ b ∈ spMore l, b.length ≤ 10000 := fun b hb => by
    unfold spMore at hb
    simp only [List.mem_cons, List.not_mem_nil, or_false] at hb
    rcases hb with rfl | rfl | rfl
    · omega
    · exact Nat.le_trans (j1 l5 l2) (by omega)
    · exact Nat.le_trans (j1 (j1 (j1 l5 (jL (x := "0") (n := 1) rfl)) l3) (jL (x := "x") (n := 1) rfl)) (by omega)
  dsimp only [tNext, tSeq, tAsg]
  refine ⟨_, rfl, ?_⟩
  refine es_lst (b4 _ _) rfl _ _ fun p2 np2 => ?_
  have s2 := Cm.same_new (o := .lst ((spMore l).map V.str)) np2
  have hp2 : (L2.upd H1 p2 (.lst ((spMore l).map V.str))) p2 = some (.lst ((spMore l).map V.str)) := upd_same
  have hp1 := s2 _ _ hp
  generalize L2.upd H1 p2 _ = H2 at *
  refine ⟨p, p2, _, _, rfl, rfl, hp1, hp2, Cm.small (by show 9 ≤ 100000; decide), fun p3 np3 => ?_⟩
  simp only [gName, List.set_cons_succ, List.set_cons_zero]
  rw [← List.map_append]
  have s3 := Cm.same_new (o := .lst ((spBase l ++ spMore l).map V.str)) np3
  have hp3 : (L2.upd H2 p3 (.lst ((spBase l ++ spMore l).map V.str))) p3 = some (.lst ((spBase l ++ spMore l).map V.str)) := upd_same
  generalize L2.upd H2 p3 _ = H3 at *
  have s13 := s1.trans (s2.trans s3)
  have b5 : ∀ b ∈ spBase l ++ spMore l, cmdF b = none ∧ b.length ≤ 10000 := fun b hb => by
    rcases List.mem_append.mp hb with hb | hb
    · exact ⟨b2 b hb, len1 b hb⟩
    · exact ⟨b3 b hb, len2 b hb⟩
  have l9 : (spBase l ++ spMore l).length = 9 := rfl
  generalize spBase l ++ spMore l = bs at *
  refine ⟨_, rfl, rfl, _, rfl, Cm.itES (fun e1 => ?_) fun e1 => ?_⟩
  · dsimp only [tRet, tOp]
    refine ⟨_, rfl, ?_⟩
    dsimp only [tLc, iList]
    refine es_lst (xs := onesW) (es_cons (es_str _ (n := 20) rfl) (es_cons (es_str _ (n := 20) rfl) (es_cons (es_str _ (n := 20) rfl) (es_cons (es_str _ (n := 20) rfl) (es_cons (es_str _ (n := 20) rfl) (es_cons (es_str _ (n := 20) rfl) (es_cons (es_str _ (n := 20) rfl) (es_cons (es_str _ (n := 20) rfl) (es_cons (es_str _ (n := 20) rfl) (es_cons (es_str _ (n := 20) rfl) (es_cons (es_str _ (n := 20) rfl) es_nil))))))))))) rfl _ _ fun p4 np4 => ?_
    have s4 := Cm.same_new (o := .lst (onesW.map V.str)) np4
    have hp4 : (L2.upd H3 p4 (.lst (onesW.map V.str))) p4 = some (.lst (onesW.map V.str)) := upd_same
    generalize L2.upd H3 p4 _ = H4 at *
    refine ⟨p4, rfl, ⟨_, SqL.of hp4⟩, fun D nD => ?_⟩
    refine lc_strs (f := fun x => "work 1 " ++ x) hp4 nD (Nat.le_of_ble_eq_true rfl) (fun x hx => ?_) fun H5 s5 hD => ?_
    · have := (show ∀ x ∈ onesW, x.length ≤ 20 by decide +kernel) x hx
      have e := es_add (σ := [some (.ref pa), some (.str l.t), some (.str l.1), some (.ref p3), some (.str x)]) (es_str "work 1 " (n := 20) rfl) (es_var (i := 4) rfl this) rfl
      exact ⟨Nat.le_trans e.1 (by omega), e.2⟩
    · refine ⟨p3, D, _, _, rfl, rfl, s5 _ _ (s4 _ _ hp3), hD, Cm.small (by rw [List.length_map, List.length_map, List.length_map, l9]; exact Nat.le_of_ble_eq_true rfl), fun p6 np6 => ?_⟩
      rw [← List.map_append]
      refine q _ _ _ (s13.trans (s4.trans (s5.trans (Cm.same_new np6)))) upd_same fun b hb => ?_
      rcases List.mem_append.mp hb with hb | hb
      · exact b5 b hb
      · obtain ⟨x, hx, rfl⟩ := List.mem_map.mp hb
        have := (show ∀ x ∈ onesW, x.length ≤ 20 by decide +kernel) x hx
        exact ⟨onesW_no x hx, Nat.le_trans (j1 (jL (x := "work 1 ") (n := 20) rfl) this) (by omega)⟩
  dsimp only [tNext]
  refine ⟨_, rfl, rfl, _, rfl, Cm.itES (fun e2 => ?_) fun e2 => ?_⟩
  · dsimp only [tRet, tOp]
    refine ⟨_, rfl, ?_⟩
    dsimp only [tLc, iList]
    refine es_lst (xs := onesP) (es_cons (es_str _ (n := 20) rfl) (es_cons (es_str _ (n := 20) rfl) (es_cons (es_str _ (n := 20) rfl) (es_cons (es_str _ (n := 20) rfl) (es_cons (es_str _ (n := 20) rfl) (es_cons (es_str _ (n := 20) rfl) (es_cons (es_str _ (n := 20) rfl) (es_cons (es_str _ (n := 20) rfl) (es_cons (es_str _ (n := 20) rfl) es_nil))))))))) rfl _ _ fun p4 np4 => ?_
    have s4 := Cm.same_new (o := .lst (onesP.map V.str)) np4
    have hp4 : (L2.upd H3 p4 (.lst (onesP.map V.str))) p4 = some (.lst (onesP.map V.str)) := upd_same
    generalize L2.upd H3 p4 _ = H4 at *
    refine ⟨p4, rfl, ⟨_, SqL.of hp4⟩, fun D nD => ?_⟩
    refine lc_strs (f := fun x => "push 1 " ++ x ++ " 2") hp4 nD (Nat.le_of_ble_eq_true rfl) (fun x hx => ?_) fun H5 s5 hD => ?_
    · have := (show ∀ x ∈ onesP, x.length ≤ 20 by decide +kernel) x hx
      have e := es_add (σ := [some (.ref pa), some (.str l.t), some (.str l.1), some (.ref p3), some (.str x)]) (es_add (es_str "push 1 " (n := 20) rfl) (es_var (i := 4) rfl this) rfl) (es_str " 2" (n := 20) rfl) rfl
      exact ⟨Nat.le_trans e.1 (by omega), e.2⟩
    · refine ⟨p3, D, _, _, rfl, rfl, s5 _ _ (s4 _ _ hp3), hD, Cm.small (by rw [List.length_map, List.length_map, List.length_map, l9]; exact Nat.le_of_ble_eq_true rfl), fun p6 np6 => ?_⟩
      rw [← List.map_append]
      have s6 := Cm.same_new (o := .lst ((bs ++ List.map (fun x : Str => ("push 1 " : Str) ++ x ++ " 2") onesP).map V.str)) np6
      have hp6 : (L2.upd H5 p6 (.lst ((bs ++ List.map (fun x : Str => ("push 1 " : Str) ++ x ++ " 2") onesP).map V.str))) p6 = some (.lst ((bs ++ List.map (fun x : Str => ("push 1 " : Str) ++ x ++ " 2") onesP).map V.str)) := upd_same
      generalize L2.upd H5 p6 _ = H6 at *
      refine es_lst (xs := ["push 1 p#1"]) (es_cons (es_str _ (n := 20) rfl) es_nil) rfl _ _ fun p7 np7 => ?_
      have s7 := Cm.same_new (o := .lst ((["push 1 p#1"] : List Str).map V.str)) np7
      refine ⟨p6, p7, _, _, rfl, rfl, s7 _ _ hp6, upd_same, Cm.small (by rw [List.length_map, List.length_append, List.length_map, l9]; exact Nat.le_of_ble_eq_true rfl), fun p8 np8 => ?_⟩
      rw [← List.map_append]
      refine q _ _ _ (s13.trans (s4.trans (s5.trans (s6.trans (s7.trans (Cm.same_new np8)))))) upd_same fun b hb => ?_
      rcases List.mem_append.mp hb with hb | hb
      · rcases List.mem_append.mp hb with hb | hb
        · exact b5 b hb
        · obtain ⟨x, hx, rfl⟩ := List.mem_map.mp hb
          have := (show ∀ x ∈ onesP, x.length ≤ 20 by decide +kernel) x hx
          exact ⟨onesP_no x hx, Nat.le_trans (j1 (j1 (jL (x := "push 1 ") (n := 20) rfl) this) (jL (x := " 2") (n := 20) rfl)) (by omega)⟩
      · rw [List.mem_singleton.mp hb]
        exact ⟨push_no, jL rfl⟩
  · dsimp only [tNext, tRet, tOp]
    refine ⟨_, rfl, ?_⟩
    dsimp only [tLc, iList]
    refine es_lst (xs := onesN) (es_cons (es_str _ (n := 20) rfl) (es_cons (es_str _ (n := 20) rfl) (es_cons (es_str _ (n := 20) rfl) (es_cons (es_str _ (n := 20) rfl) (es_cons (es_str _ (n := 20) rfl) (es_cons (es_str _ (n := 20) rfl) (es_cons (es_str _ (n := 20) rfl) es_nil))))))) rfl _ _ fun p4 np4 => ?_
    have s4 := Cm.same_new (o := .lst (onesN.map V.str)) np4
    have hp4 : (L2.upd H3 p4 (.lst (onesN.map V.str))) p4 = some (.lst (onesN.map V.str)) := upd_same
    generalize L2.upd H3 p4 _ = H4 at *
    refine ⟨p4, rfl, ⟨_, SqL.of hp4⟩, fun D nD => ?_⟩
    refine lc_strs (f := fun x => l.1 ++ " " ++ x) hp4 nD (Nat.le_of_ble_eq_true rfl) (fun x hx => ?_) fun H5 s5 hD => ?_
    · have := (show ∀ x ∈ onesN, x.length ≤ 20 by decide +kernel) x hx
      have e := es_add (σ := [some (.ref pa), some (.str l.t), some (.str l.1), some (.ref p3), some (.str x)]) (es_add (t2 _ _) (es_str " " (n := 20) rfl) rfl) (es_var (i := 4) rfl this) rfl
      exact ⟨Nat.le_trans e.1 (by omega), e.2⟩
    · refine ⟨p3, D, _, _, rfl, rfl, s5 _ _ (s4 _ _ hp3), hD, Cm.small (by rw [List.length_map, List.length_map, List.length_map, l9]; exact Nat.le_of_ble_eq_true rfl), fun p6 np6 => ?_⟩
      rw [← List.map_append]
      refine q _ _ _ (s13.trans (s4.trans (s5.trans (Cm.same_new np6)))) upd_same fun b hb => ?_
      rcases List.mem_append.mp hb with hb | hb
      · exact b5 b hb
      · obtain ⟨x, hx, rfl⟩ := List.mem_map.mp hb
        have := (show ∀ x ∈ onesN, x.length ≤ 20 by decide +kernel) x hx
        exact ⟨onesN_no _ hl.1 (by simpa using ne) e1 e2 x hx, Nat.le_trans (j1 (j1 l4 (jL (x := " ") (n := 20) rfl)) this) (by omega)⟩
theorem shA {n : Nat} : ∀ {ds : List PyData}, (∀ d ∈ ds, d.canLay0 = true ∧ d.depth ≤ n) → PyData.canLayAll0 ds = true ∧ PyData.depthAll ds ≤ n
  | [], _ => ⟨rfl, Nat.zero_le _⟩
  | d :: r, h => by
    obtain ⟨h1, h2⟩ := h d List.mem_cons_self
    obtain ⟨h3, h4⟩ := shA (ds := r) fun x hx => h x (List.mem_cons_of_mem _ hx)
    refine ⟨?_, ?_⟩
    · rw [PyData.canLayAll0, h1, h3]
      rfl
    · rw [PyData.depthAll]
      omega
theorem shT {n : Nat} {ds : List PyData} (h : ∀ d ∈ ds, d.canLay0 = true ∧ d.depth ≤ n) : (PyData.tuple ds).canLay0 = true ∧ (PyData.tuple ds).depth ≤ n + 1 := by
  obtain ⟨h1, h2⟩ := shA h
  refine ⟨?_, ?_⟩
  · rw [PyData.canLay0]
    exact h1
  · rw [PyData.depth]
    omega
theorem shI (i : Int) : (PyData.int i).canLay0 = true ∧ (PyData.int i).depth ≤ 1 := by
  refine ⟨?_, ?_⟩
  · rw [PyData.canLay0]
  · simp [PyData.depth]
theorem shIs (ns : List Int) : (PyData.tuple (ns.map .int)).canLay0 = true ∧ (PyData.tuple (ns.map .int)).depth ≤ 2 := shT fun d hd => by
  obtain ⟨i, _, rfl⟩ := List.mem_map.mp hd
  exact shI i
theorem shS {x : Str} (h : PyData.strOk x = true) : (PyData.str x).canLay0 = true ∧ (PyData.str x).depth ≤ 1 := by
  refine ⟨?_, ?_⟩
  · rw [PyData.canLay0]
    exact h
  · simp [PyData.depth]
theorem shO (ns : List Int) (k : Int) : (PyData.tuple [.tuple (ns.map .int), .int k]).canLay0 = true ∧ (PyData.tuple [.tuple (ns.map .int), .int k]).depth ≤ 3 := shT fun d hd => by
  rcases List.mem_cons.mp hd with rfl | hd
  · exact shIs ns
  · rw [List.mem_singleton.mp hd]
    exact ⟨(shI k).1, Nat.le_trans (shI k).2 (by omega)⟩
theorem Sh.of {d : PyData} {n : Nat} (h : d.canLay0 = true ∧ d.depth ≤ n) (hn : n ≤ 64) : SeqAt.shaped d = true := Nst.shaped_of h.1 (Nat.le_trans h.2 hn)
theorem shL {l : Ln} (h : LnOk l) : l.d.canLay0 = true ∧ l.d.depth ≤ 4 := by
  have h1 : ∀ q ∈ formsT, PyData.strOk q.1 = true := by decide +kernel
  refine shT fun d hd => ?_
  rcases List.mem_cons.mp hd with rfl | hd
  · have := shS (h1 _ h.1)
    exact ⟨this.1, Nat.le_trans this.2 (by omega)⟩
  · obtain ⟨x, hx, rfl⟩ := List.mem_map.mp hd
    cases x with
    | num n => exact ⟨(shI n).1, Nat.le_trans (shI n).2 (by omega)⟩
    | proc ns => exact ⟨(shIs ns).1, Nat.le_trans (shIs ns).2 (by omega)⟩
    | obj ns k => exact shO ns k
/-- a text is read as the name that it is -/
theorem read_pX {ns : List Int} (b : NmB ns) {H : Hp} {Q : VK} {E : XK} {u : V} (e : u = .str (pX ns)) (q : ∀ v H', Same H H' → Rp K H' v (.tuple (ns.map PyData.int)) → Q v H') : spReadP K [u] H Q E := by
  have hb : ∀ n ∈ ns, 0 ≤ n ∧ n ≤ 999999 := fun n hn => ⟨(b.2 n hn).1, by have := (b.2 n hn).2; omega⟩
  have l := len_pX (by have := b.1; omega) hb
  have f := procF_pX b.2
  refine ⟨pX ns, by rw [e], by omega, fun ms hp hm v H' s r => ?_, fun no => absurd (procF_ok f) (no ns)⟩
  rw [procF_some hp hm] at f
  rw [Option.some.inj f] at r
  exact q v H' s r
theorem read_oX {ns : List Int} {k : Int} (b : NmB ns) (k0 : 0 ≤ k) (k1 : k ≤ 9999) {H : Hp} {Q : VK} {E : XK} {u : V} (e : u = .str (pX ns ++ "#" ++ num k)) (q : ∀ v H', Same H H' → Rp K H' v (.tuple [.tuple (ns.map PyData.int), .int k]) → Q v H') : spReadO K [u] H Q E := by
  have hb : ∀ n ∈ ns, 0 ≤ n ∧ n ≤ 999999 := fun n hn => ⟨(b.2 n hn).1, by have := (b.2 n hn).2; omega⟩
  have l := j1 (j1 (len_pX (by have := b.1; omega) hb) (jL (x := "#") (n := 1) rfl)) (len_pos k0 (by omega))
  have f := objF_pX b.2 k0 k1
  refine ⟨pX ns ++ "#" ++ num k, by rw [e], by omega, fun ms i hp hm v H' s r => ?_, fun no => absurd (objF_ok f) (no ns k)⟩
  rw [objF_some hp hm] at f
  cases Option.some.inj f
  exact q v H' s r
/-- a line that is read, and one that is not -/
theorem cmd_rd {t : Str} {d : PyData} (h : cmdF t = some d) (l : t.length ≤ 10000) {H : Hp} {Q : VK} (q : ∀ v H', Same H H' → Rp K H' v d → Q v H') : spCmd K [.str t] H Q (fun _ _ _ => False) := ⟨t, rfl, l, fun v H' s r _ => q v H' s (r d h)⟩
theorem cmd_no {t : Str} (h : cmdF t = none) (l : t.length ≤ 10000) {H : Hp} {Q : VK} (q : ∀ H', Same H H' → Q .non H') : spCmd K [.str t] H Q (fun _ _ _ => False) := ⟨t, rfl, l, fun v H' s _ r => by rw [r h]; exact q H' s⟩
theorem upper_len {ns : List Int} (h : ∀ n ∈ ns, 0 ≤ n) : (Txt.upper (pX ns)).length = (pX ns).length := by
  have e : pX ns = SX.S (TL.tl (pX ns)) := TL.ext_tl rfl
  have e2 : Txt.upper (pX ns) = SX.S ((TL.tl (pX ns)).map PyProof.Rows.up1) := by
    conv => lhs; rw [e]
    exact SX.upper_S (List.all_eq_true.mpr fun c hc => decide_eq_true (by have := pX_ascii h c hc; omega))
  rw [e2, TL.len_tl, TL.len_tl (pX ns)]
  show ((TL.tl (pX ns)).map PyProof.Rows.up1).length = _
  rw [List.length_map]
theorem es_tail1 {σ : L2.St} {i : Nat} {ns : List Int} (h : σ[i]? = some (some (.str (pX ns)))) (l : (pX ns).length ≤ 400) : EvS σ (tSl rSlS (tVar i) (tPart (tC (V.int 1))) tNoPart) (cat (ns.map fun n => "." ++ num n)) 400 := by
  have e : pX ns = "p" ++ cat (ns.map fun n => "." ++ num n) := by rw [pX_eq, cat_cons]
  refine ⟨?_, fun H Q q => ⟨_, h, _, rfl, _, rfl, Cm.small (by omega), ?_⟩⟩
  · have := l
    rw [e, app_len] at this
    omega
  · have e1 := cut_tail "p" (cat (ns.map fun n => "." ++ num n))
    rw [← e] at e1
    rw [show (1 : Int) = (("p" : Str).length : Nat) from rfl, e1]
    exact q
/-- the length of a text that is refused -/
theorem bad_len {xs : List Str} {b : Str} {n : Nat} (h : xs.all (fun x => x.length.ble n) = true) (hb : b ∈ xs) : b.length ≤ n := Nat.le_of_ble_eq_true (List.all_eq_true.mp h b hb)
theorem es_for {K : PySem.W.Frag} {t : TA} {xs : List Str} {g : TG} {tb : TS} {D : Ends} {σ : L2.St} {H : Hp} (h : EvSs σ t xs) (l : xs.length.ble 100000 = true)
    (q : ∀ (p : Addr) (H1 : Hp), Same H H1 → H1 p = some (.lst (xs.map V.str)) → ∃ W : Nat → Nat → L2.St → Hp → Prop, (∃ m, W 0 m σ H1) ∧ ∀ i m σ H, W i m σ H → ((Itl K p).stop i H ∧ D.nx σ H) ∨ ((Itl K p).go i H ∧ ∃ N : L2.St → Hp → Prop, (∀ σ' H', N σ' H' → ∃ m', m' < m ∧ W (i + 1) m' σ' H') ∧ ∀ v H', (Itl K p).yld i H v H' → g v σ H' fun σ2 H2 => tb { D with nx := N, ct := N, bk := D.nx } σ2 H2)) :
    tFor (iList K (tLst t)) g tb D σ H := by
  dsimp only [tFor, iList]
  exact es_lst h l _ _ fun p np => ⟨p, rfl, ⟨_, SqL.of upd_same⟩, q p _ (Cm.same_new np) upd_same⟩
theorem cmd_line (x : Str) : cmdF ("line " ++ x) = some (.tuple [.str "line", .str x]) := by
  have e : ("line " : Str) ++ x = ("line" : Str) ++ " " ++ x := by rw [show ("line " : Str) = ("line" : Str) ++ " " by decide +kernel]
  unfold cmdF
  rw [e, if_neg (ne_sp _ _), TL.partition_app (y := " ") (s := 32) (S := []) rfl (by decide +kernel)]
  exact if_pos rfl
theorem cmd_line0 : cmdF "line" = some (.tuple [.str "line", .str ""]) := by
  unfold cmdF
  rw [if_neg (by decide +kernel), TL.partition_none (y := " ") (s := 32) (S := []) rfl (by decide +kernel)]
  exact if_pos rfl
theorem cmd_empty : cmdF "" = some (.tuple []) := if_pos rfl
def texts4 : List Str := ["", " ", "a  b", "x y "]
theorem sh4 : ∀ x ∈ texts4, x.length ≤ 20 ∧ PyData.strOk x = true := by decide +kernel
theorem shLine {x : Str} (h : PyData.strOk x = true) : SeqAt.shaped (.tuple [.str "line", .str x]) = true := Sh.of (shT (n := 1) fun d hd => by
  rcases List.mem_cons.mp hd with rfl | hd
  · exact shS (by decide +kernel)
  · rw [List.mem_singleton.mp hd]
    exact shS h) (by decide)
def spLaw (K : PySem.W.Frag) : Sp := fun vs H Q _ => ∃ (a : Addr) (ns : List Int), vs = [.ref a] ∧ SqL K H a (ns.map V.int) ∧ ns.length ≤ 63 ∧ ∀ H', Q (.bl true) H'
theorem ok_law (T : Txt K mg w a) : FnOk P w K mg base CX0 12 (He.ga K "law") a.d_law ["script"] (spLaw K) := by
  have gro := ok_lw_row (P := P) (w := w) (base := base) T
  have gna := ok_lw_name (P := P) (w := w) (base := base) T
  have gnu := ok_lw_number (P := P) (w := w) (base := base) T
  have gwr := ok_lw_written (P := P) (w := w) (base := base) T
  have gre := ok_lw_refused (P := P) (w := w) (base := base) T
  have gls := ok_lw_lines (P := P) (w := w) (base := base) T
  have gln := ok_lw_line (P := P) (w := w) (base := base) T
  have gsp := ok_lw_spoilt (P := P) (w := w) (base := base) T
  have gpt := ok_process_text (P := P) (w := w) (base := base) T
  have got := ok_object_text (P := P) (w := w) (base := base) T
  have grp := ok_read_process (P := P) (w := w) (base := base) T
  have gro2 := ok_read_object (P := P) (w := w) (base := base) T
  have gcm := ok_read_command (P := P) (w := w) (base := base) T
  refine T.F_law.ok sc_law (fun vs H Q E h => ?_) (fun cdv A outer s H vs Q E hr h => ?_)
  · obtain ⟨_, _, rfl, _⟩ := h
    rfl
  obtain ⟨sc, ns, rfl, hS, hn, q⟩ := h
  refine ⟨_, PSs.nox (pss_cons (ps_set (i := 1) sc_law.nd rfl (Or.inl rfl) (pe_call gro (hr.mono (by omega)) (by rfl) T.g_lw_row T.F_lw_row.kp T.b_lw_row .nil pass0 (pa_cons (pv 0) pa_nil)))
      (pss_cons (ps_for PassesOwn.never rfl (pi_range1 (by rfl) T.g_range (pa_cons pe_int pa_nil)) (pg_name (i := 2) sc_law.nd rfl (Or.inl rfl))
      (pss_cons (ps_set (i := 3) sc_law.nd rfl (Or.inl rfl) (pe_call gna (hr.mono (by omega)) (by rfl) T.g_lw_name T.F_lw_name.kp T.b_lw_name .nil pass0 (pa_cons (pv 1) (pa_cons (pe_op op_add pe_int (pe_op op_mul pe_int (pv 2))) pa_nil))))
      (pss_cons (ps_set (i := 4) sc_law.nd rfl (Or.inl rfl) (pe_call gnu (hr.mono (by omega)) (by rfl) T.g_lw_number T.F_lw_number.kp T.b_lw_number .nil pass0 (pa_cons (pv 1) (pa_cons (pe_op op_add pe_int (pe_op op_mul pe_int (pv 2))) pa_nil))))
      (pss_cons (ps_set (i := 5) sc_law.nd rfl (Or.inl rfl) (pe_call gwr (hr.mono (by omega)) (by rfl) T.g_lw_written T.F_lw_written.kp T.b_lw_written .nil pass0 (pa_cons (pv 3) pa_nil)))
      (pss_cons (ps_if (PW.pt (pw_or (pt_cmpR op_ne (pe_call gpt (hr.mono (by omega)) (by rfl) T.g_process_text T.F_process_text.kp T.b_process_text .nil pass0 (pa_cons (pv 3) pa_nil)) (pv 5) (nomark _)) (pw_or (pt_cmpR (op_neD hr.units) (pe_call grp (hr.mono (by omega)) (by rfl) T.g_read_process T.F_read_process.kp T.b_read_process .nil MethT.passF (pa_cons (pv 5) pa_nil)) (pv 3) (nomark _)) (pw_or1 (pt_cmpR op_ne (pe_call got (hr.mono (by omega)) (by rfl) T.g_object_text T.F_object_text.kp T.b_object_text .nil pass0 (pa_cons (pe_tup (pa_cons (pv 3) (pa_cons (pv 4) pa_nil))) pa_nil)) (pe_op op_add_str (pe_op op_add_str (pv 5) pe_str) (pe_callTy call_str_int (by rfl) T.g_str boot_str (pa_cons (pv 4) pa_nil))) (nomark _)))))) (pss_one (ps_ret pe_bl)) pss_nil)
      (pss_cons (ps_if (pt_cmpR (op_neD hr.units) (pe_call gro2 (hr.mono (by omega)) (by rfl) T.g_read_object T.F_read_object.kp T.b_read_object .nil MethT.passF (pa_cons (pe_op op_add_str (pe_op op_add_str (pv 5) pe_str) (pe_callTy call_str_int (by rfl) T.g_str boot_str (pa_cons (pv 4) pa_nil))) pa_nil)) (pe_tup (pa_cons (pv 3) (pa_cons (pv 4) pa_nil))) (nomark _)) (pss_one (ps_ret pe_bl)) pss_nil)
      (pss_cons (ps_for PassesOwn.never rfl (pi_list (pe_lst (pa_cons (pe_op op_add_str (pv 5) pe_str) (pa_cons (pe_op op_add_str (pv 5) pe_str) (pa_cons (pe_op op_add_str (pv 5) pe_str) (pa_cons (pe_op op_add_str (pv 5) pe_str) (pa_cons (pe_op op_add_str pe_str (pv 5)) (pa_cons (pe_slice sl_str (pv 5) (po_some pe_int) po_none) (pa_cons (pe_op op_add_str (pv 5) pe_str) (pa_cons (pe_op op_add_str (pv 5) pe_str) (pa_cons pe_str (pa_cons (pe_bm0 PySem.F.plainAttrs_str PySem.F.slot_str_upper PySem.F.type_str_upper mt_upper (pv 5)) pa_nil)))))))))))) (pg_name (i := 6) sc_law.nd rfl (Or.inl rfl))
      (pss_one (ps_if (pt_not (pt_val (pe_call gre (hr.mono (by omega)) (by rfl) T.g_lw_refused T.F_lw_refused.kp T.b_lw_refused .nil pass0 (pa_cons pe_int (pa_cons (pv 6) pa_nil))))) (pss_one (ps_ret pe_bl)) pss_nil)))
      (pss_one (ps_for PassesOwn.never rfl (pi_list (pe_lst (pa_cons (pv 5) (pa_cons (pe_op op_add_str (pv 5) pe_str) (pa_cons (pe_op op_add_str (pv 5) pe_str) (pa_cons (pe_op op_add_str (pv 5) pe_str) (pa_cons (pe_op op_add_str (pv 5) pe_str) (pa_cons (pe_op op_add_str (pv 5) pe_str) (pa_cons pe_str (pa_cons (pe_op op_add_str (pv 5) pe_str) pa_nil)))))))))) (pg_name (i := 6) sc_law.nd rfl (Or.inl rfl))
      (pss_one (ps_if (pt_not (pt_val (pe_call gre (hr.mono (by omega)) (by rfl) T.g_lw_refused T.F_lw_refused.kp T.b_lw_refused .nil pass0 (pa_cons pe_int (pa_cons (pv 6) pa_nil))))) (pss_one (ps_ret pe_bl)) pss_nil)))))))))))
      (pss_cons (ps_if (PW.pt (pw_or (pt_cmpR op_ne (pe_call gpt (hr.mono (by omega)) (by rfl) T.g_process_text T.F_process_text.kp T.b_process_text .nil pass0 (pa_cons (pe_tup (pa_cons pe_int (pa_cons pe_int pa_nil))) pa_nil)) pe_str (nomark _)) (pw_or (pt_cmpR (op_neD hr.units) (pe_call gcm (hr.mono (by omega)) (by rfl) T.g_read_command T.F_read_command.kp T.b_read_command .nil pass0 (pa_cons pe_str pa_nil)) (pe_tup pa_nil) (nomark _)) (pw_or (pt_cmpR op_notN (pe_call gcm (hr.mono (by omega)) (by rfl) T.g_read_command T.F_read_command.kp T.b_read_command .nil pass0 (pa_cons pe_str pa_nil)) pe_non (nomark _)) (pw_or1 (pt_cmpR op_notN (pe_call gcm (hr.mono (by omega)) (by rfl) T.g_read_command T.F_read_command.kp T.b_read_command .nil pass0 (pa_cons pe_str pa_nil)) pe_non (nomark _))))))) (pss_one (ps_ret pe_bl)) pss_nil)
      (pss_cons (ps_for PassesOwn.never rfl (pi_list (pe_call gls (hr.mono (by omega)) (by rfl) T.g_lw_lines T.F_lw_lines.kp T.b_lw_lines .nil pass0 (pa_cons (pv 1) pa_nil))) (pg_name (i := 7) sc_law.nd rfl (Or.inl rfl))
      (pss_cons (ps_set (i := 5) sc_law.nd rfl (Or.inl rfl) (pe_call gln (hr.mono (by omega)) (by rfl) T.g_lw_line T.F_lw_line.kp T.b_lw_line .nil pass0 (pa_cons (pv 7) pa_nil)))
      (pss_cons (ps_if (pt_cmpR (op_neD hr.units) (pe_call gcm (hr.mono (by omega)) (by rfl) T.g_read_command T.F_read_command.kp T.b_read_command .nil pass0 (pa_cons (pv 5) pa_nil)) (pv 7) (nomark _)) (pss_one (ps_ret pe_bl)) pss_nil)
      (pss_one (ps_for PassesOwn.never rfl (pi_list (pe_call gsp (hr.mono (by omega)) (by rfl) T.g_lw_spoilt T.F_lw_spoilt.kp T.b_lw_spoilt .nil pass0 (pa_cons (pv 7) (pa_cons (pv 5) pa_nil)))) (pg_name (i := 6) sc_law.nd rfl (Or.inl rfl))
      (pss_one (ps_if (pt_cmpR op_notN (pe_call gcm (hr.mono (by omega)) (by rfl) T.g_read_command T.F_read_command.kp T.b_read_command .nil pass0 (pa_cons (pv 6) pa_nil)) pe_non (nomark _)) (pss_one (ps_ret pe_bl)) pss_nil)))))))
      (pss_cons (ps_for PassesOwn.never rfl (pi_list (pe_lst (pa_cons pe_str (pa_cons pe_str (pa_cons pe_str (pa_cons pe_str pa_nil)))))) (pg_name (i := 5) sc_law.nd rfl (Or.inl rfl))
      (pss_one (ps_if (pt_cmpR (op_neD hr.units) (pe_call gcm (hr.mono (by omega)) (by rfl) T.g_read_command T.F_read_command.kp T.b_read_command .nil pass0 (pa_cons (pe_op op_add_str pe_str (pv 5)) pa_nil)) (pe_tup (pa_cons pe_str (pa_cons (pv 5) pa_nil))) (nomark _)) (pss_one (ps_ret pe_bl)) pss_nil)))
      (pss_one (ps_ret (pe_and (pe_cmpR (op_eqD hr.units) (pe_call gcm (hr.mono (by omega)) (by rfl) T.g_read_command T.F_read_command.kp T.b_read_command .nil pass0 (pa_cons pe_str pa_nil)) (pe_tup (pa_cons pe_str (pa_cons pe_str pa_nil))) (nomark _)) (pe_and (pe_cmpR op_isN (pe_call gcm (hr.mono (by omega)) (by rfl) T.g_read_command T.F_read_command.kp T.b_read_command .nil pass0 (pa_cons pe_str pa_nil)) pe_non (nomark _)) (pe_one (pe_cmpR op_isN (pe_call gcm (hr.mono (by omega)) (by rfl) T.g_read_command T.F_read_command.kp T.b_read_command .nil pass0 (pa_cons pe_str pa_nil)) pe_non (nomark _)))))))))))), ?_⟩
  rw [show L2.start N_law [.ref sc] = [some (.ref sc), none, none, none, none, none, none, none] from rfl]
  refine ⟨_, rfl, sc, ns, rfl, hS, hn, fun H1 p rs s1 np hp rok => ?_⟩
  simp only [gName, List.set_cons_succ, List.set_cons_zero]
  refine ⟨_, rfl, by decide, by decide, ?_⟩
  refine for_range (n := 3) (fun i σ H2 => ∃ x2 x3 x4 x5 x6 x7 : Option V, σ = [some (.ref sc), some (.ref p), x2, x3, x4, x5, x6, x7] ∧ Same H1 H2) ⟨none, none, none, none, none, none, rfl, Same.refl H1⟩ (fun i σ H2 hi ⟨x2, x3, x4, x5, x6, x7, e, s2⟩ => ?_) fun σ H2 ⟨x2, x3, x4, x5, x6, x7, e, s2⟩ => ?_
  · subst e
    have hrow : ∀ {H' : Hp}, Same H2 H' → SqL K H' p (rs.map V.int) := fun s => SqL.of (s _ _ (s2 _ _ hp))
    refine ⟨_, rfl, _, rfl, _, _, rfl, rfl, .inl ⟨by decide, by decide⟩, _, _, rfl, rfl, p, rs, _, rfl, hrow (Same.refl H2), rok.2, fun ms v3 H3 s3 b3 r3 => ?_⟩
    refine ⟨_, rfl, _, rfl, _, _, rfl, rfl, .inl ⟨by decide, by decide⟩, _, _, rfl, rfl, p, rs, _, rfl, hrow s3, rok.2, fun k H4 s4 k0 k1 => ?_⟩
    have r4 := r3.keep (Same.tups s4)
    have lm : ms.length ≤ 20 := by have := b3.1; omega
    have bm : ∀ n ∈ ms, 0 ≤ n ∧ n ≤ 999999 := fun n hn => ⟨(b3.2 n hn).1, by have := (b3.2 n hn).2; omega⟩
    refine ⟨_, rfl, v3, ms, rfl, r4, lm, bm, fun H5 s5 => ?_⟩
    have r5 := r4.keep (Same.tups s5)
    simp only [gName, List.set_cons_succ, List.set_cons_zero]
    refine ⟨_, rfl, v3, ms, rfl, r5, lm, bm, fun H6 s6 => ⟨_, rfl, rfl, _, rfl, Cm.itNS (fun e => absurd rfl e) fun _ => ?_⟩⟩
    have r6 := r5.keep (Same.tups s6)
    refine ⟨_, rfl, read_pX b3 rfl fun v7 H7 s7 r7 => ⟨_, rfl, _, _, r7.dp, (r6.keep (Same.tups s7)).dp, Sh.of (shIs ms) (by decide), Sh.of (shIs ms) (by decide), _, rfl, Cm.itBn (fun e => absurd (Nst.eqv_self (Sh.of (shIs ms) (by decide))) (by rw [e]; decide)) fun _ => ?_⟩⟩
    have s27 := s3.trans (s4.trans (s5.trans (s6.trans s7)))
    have r7' := r6.keep (Same.tups s7)
    have lt := len_pX lm bm
    have lk := len_pos k0 (by omega)
    have eo : ∀ (x6 x7 : Option V), EvS [some (V.ref sc), some (V.ref p), some (V.int (0 + (i : Int))), some v3, some (V.int k), some (V.str (pX ms)), x6, x7] (tOp (fun x y H Q => ∃ i j, x = V.str i ∧ y = V.str j ∧ i.length + j.length ≤ sizeLine ∧ Q (V.str (i ++ j)) H)
        (tOp (fun x y H Q => ∃ i j, x = V.str i ∧ y = V.str j ∧ i.length + j.length ≤ sizeLine ∧ Q (V.str (i ++ j)) H) (tVar 5) (tC (V.str "#"))) (tCB (fun xs H Q => ∃ i : Int, xs = [V.int i] ∧ i.natAbs.log2 < 1920 ∧ Q (V.str (Str.ofString (toString i))) H) (tCons (tVar 4) tNil))) (pX ms ++ "#" ++ num k) (400 + 1 + 13) :=
      fun x6 x7 => es_add (es_add (es_var rfl lt) (es_str "#" (n := 1) rfl) rfl) ⟨lk, fun H Q q => ⟨_, rfl, k, rfl, log_small (by omega) (by omega), q⟩⟩ rfl
    refine ⟨_, rfl, _, rfl, Cm.small (by show 2 ≤ 100000; decide), fun p8 np8 => ⟨_, ms, k, rfl, Rp.made np8 (.cons r7' (.cons (.int k) .nil)), lm, bm, k0, by omega, fun H9 s9 => ?_⟩⟩
    refine (eo x6 x7).2 _ _ ⟨rfl, _, rfl, Cm.itNS (fun e => absurd rfl e) fun _ => ?_⟩
    have s79 := (Cm.same_new np8).trans s9
    dsimp only [tNext, tSeq, tIfS, tTest, tOp, tCall]
    refine es_cons (eo x6 x7) es_nil _ _ (read_oX b3 k0 k1 rfl fun v10 H10 s10 r10 => ?_)
    refine ⟨_, rfl, _, rfl, Cm.small (by show 2 ≤ 100000; decide), fun p11 np11 => ?_⟩
    have s11 := Cm.same_new (o := .tup [v3, .int k]) np11
    have r11 : Rp K (L2.upd H10 p11 (.tup [v3, .int k])) (.ref p11) (.tuple [.tuple (ms.map .int), .int k]) := Rp.made np11 (.cons (r7'.keep (Same.tups (s79.trans s10))) (.cons (.int k) .nil))
    refine ⟨_, _, (r10.keep (Same.tups s11)).dp, r11.dp, Sh.of (shO ms k) (by decide), Sh.of (shO ms k) (by decide), _, rfl, Cm.itBn (fun e => absurd (Nst.eqv_self (Sh.of (shO ms k) (by decide))) (by rw [e]; decide)) fun _ => ?_⟩
    have s2b := s27.trans (s79.trans (s10.trans s11))
    generalize L2.upd H10 p11 _ = Hb at *
    have nn : ∀ n ∈ ms, 0 ≤ n := fun n hn => (b3.2 n hn).1
    have ev5 : ∀ (x6 x7 : Option V), EvS [some (V.ref sc), some (V.ref p), some (V.int (0 + (i : Int))), some v3, some (V.int k), some (V.str (pX ms)), x6, x7] (tVar 5) (pX ms) 400 := fun x6 x7 => es_var rfl lt
    have eup : ∀ (x6 x7 : Option V), EvS [some (V.ref sc), some (V.ref p), some (V.int (0 + (i : Int))), some v3, some (V.int k), some (V.str (pX ms)), x6, x7] (tBM0 K "str" (fun x xs H Q => ∃ a, x = V.str a ∧ xs = [] ∧ a.length ≤ 5592405 ∧ Q (V.str (Txt.upper a)) H) (tVar 5)) (Txt.upper (pX ms)) 400 := fun x6 x7 => ⟨by rw [upper_len nn]; exact lt, fun H Q q => ⟨_, rfl, rfl, pX ms, rfl, rfl, by omega, q⟩⟩
    have c5 : ∀ (x6 x7 : Option V) (y : Str), y.length.ble 20 = true → EvS [some (V.ref sc), some (V.ref p), some (V.int (0 + (i : Int))), some v3, some (V.int k), some (V.str (pX ms)), x6, x7] (tOp (fun x y H Q => ∃ i j, x = V.str i ∧ y = V.str j ∧ i.length + j.length ≤ sizeLine ∧ Q (V.str (i ++ j)) H) (tVar 5) (tC (.str y))) (pX ms ++ y) 420 := fun x6 x7 y hy => es_add (ev5 x6 x7) (es_str y hy) rfl
    have bp : ∀ (x6 x7 : Option V), EvSs [some (V.ref sc), some (V.ref p), some (V.int (0 + (i : Int))), some v3, some (V.int k), some (V.str (pX ms)), x6, x7] _ (badP ms) := fun x6 x7 => es_cons (c5 x6 x7 "." rfl) (es_cons (c5 x6 x7 ".01" rfl) (es_cons (c5 x6 x7 ".10000" rfl) (es_cons (c5 x6 x7 " " rfl) (es_cons (es_add (es_str "." (n := 20) rfl) (ev5 x6 x7) rfl) (es_cons (es_tail1 (i := 5) rfl lt) (es_cons (c5 x6 x7 "#1" rfl) (es_cons (c5 x6 x7 ".x" rfl) (es_cons (es_str "" (n := 20) rfl) (es_cons (eup x6 x7) es_nil)))))))))
    have bo : ∀ (x6 x7 : Option V), EvSs [some (V.ref sc), some (V.ref p), some (V.int (0 + (i : Int))), some v3, some (V.int k), some (V.str (pX ms)), x6, x7] _ (badO ms) := fun x6 x7 => es_cons (ev5 x6 x7) (es_cons (c5 x6 x7 "#" rfl) (es_cons (c5 x6 x7 "#01" rfl) (es_cons (c5 x6 x7 "#10000" rfl) (es_cons (c5 x6 x7 "#1#1" rfl) (es_cons (c5 x6 x7 " #1" rfl) (es_cons (es_str "#1" (n := 20) rfl) (es_cons (c5 x6 x7 "#x" rfl) es_nil)))))))
    have lp : ∀ b ∈ badP ms, b.length ≤ 10000 := fun b hb => by
      unfold badP at hb
      simp only [List.mem_cons, List.not_mem_nil, or_false] at hb
      rcases hb with rfl | rfl | rfl | rfl | rfl | rfl | rfl | rfl | rfl | rfl
      · exact Nat.le_trans (c5 none none "." rfl).1 (by omega)
      · exact Nat.le_trans (c5 none none ".01" rfl).1 (by omega)
      · exact Nat.le_trans (c5 none none ".10000" rfl).1 (by omega)
      · exact Nat.le_trans (c5 none none " " rfl).1 (by omega)
      · exact Nat.le_trans (j1 (jL (x := ".") (n := 1) rfl) lt) (by omega)
      · exact Nat.le_trans (es_tail1 (σ := [some (.str (pX ms))]) (i := 0) rfl lt).1 (by omega)
      · exact Nat.le_trans (c5 none none "#1" rfl).1 (by omega)
      · exact Nat.le_trans (c5 none none ".x" rfl).1 (by omega)
      · exact Nat.zero_le _
      · exact Nat.le_trans (eup none none).1 (by omega)
    have lo : ∀ b ∈ badO ms, b.length ≤ 10000 := fun b hb => by
      unfold badO at hb
      simp only [List.mem_cons, List.not_mem_nil, or_false] at hb
      rcases hb with rfl | rfl | rfl | rfl | rfl | rfl | rfl | rfl
      · omega
      · exact Nat.le_trans (c5 none none "#" rfl).1 (by omega)
      · exact Nat.le_trans (c5 none none "#01" rfl).1 (by omega)
      · exact Nat.le_trans (c5 none none "#10000" rfl).1 (by omega)
      · exact Nat.le_trans (c5 none none "#1#1" rfl).1 (by omega)
      · exact Nat.le_trans (c5 none none " #1" rfl).1 (by omega)
      · exact jL rfl
      · exact Nat.le_trans (c5 none none "#x" rfl).1 (by omega)
    have np0 := badP_no nn
    have no0 := badO_no nn
    try dsimp only [tNext, tSeq]
    refine es_for (bp x6 x7) rfl fun pb Hc sb hpb => ?_
    refine for_list (K := K) (a := pb) (xs := (badP ms).map V.str) (D := { nx := _, rt := Q }) (fun j σ Hj => ∃ x6 : Option V, σ = [some (V.ref sc), some (V.ref p), some (V.int (0 + (i : Int))), some v3, some (V.int k), some (V.str (pX ms)), x6, x7] ∧ Same Hc Hj) ⟨x6, rfl, Same.refl Hc⟩ (fun j σ Hj _ b => ?_) (fun j x σ Hj hx b => ?_) fun σ Hj b => ?_
    · obtain ⟨_, _, sj⟩ := b
      exact SqL.of (sj _ _ hpb)
    · obtain ⟨y6, rfl, sj⟩ := b
      rw [List.getElem?_map] at hx
      obtain ⟨b, hb, rfl⟩ := Option.map_eq_some_iff.mp hx
      have hm := List.mem_of_getElem? hb
      simp only [gName, List.set_cons_succ, List.set_cons_zero]
      refine ⟨_, rfl, 0, b, rfl, lp b hm, (fun _ => np0 b hm), (fun z => absurd rfl z), fun H' s' => ?_⟩
      exact ⟨true, rfl, Cm.itBn (fun z => nomatch z) fun _ => ⟨_, rfl, sj.trans s'⟩⟩
    obtain ⟨y6, rfl, sj⟩ := b
    try dsimp only
    refine es_for (bo y6 x7) rfl fun pc Hd sd hpc => ?_
    refine for_list (K := K) (a := pc) (xs := (badO ms).map V.str) (D := { nx := _, rt := Q }) (fun j σ Hj => ∃ x6 : Option V, σ = [some (V.ref sc), some (V.ref p), some (V.int (0 + (i : Int))), some v3, some (V.int k), some (V.str (pX ms)), x6, x7] ∧ Same Hd Hj) ⟨y6, rfl, Same.refl Hd⟩ (fun j σ Hj _ b => ?_) (fun j x σ Hj hx b => ?_) fun σ Hj b => ?_
    · obtain ⟨_, _, sj⟩ := b
      exact SqL.of (sj _ _ hpc)
    · obtain ⟨y6, rfl, sj⟩ := b
      rw [List.getElem?_map] at hx
      obtain ⟨b, hb, rfl⟩ := Option.map_eq_some_iff.mp hx
      have hm := List.mem_of_getElem? hb
      simp only [gName, List.set_cons_succ, List.set_cons_zero]
      refine ⟨_, rfl, 1, b, rfl, lo b hm, (fun z => absurd z (by decide)), (fun _ => no0 b hm), fun H' s' => ?_⟩
      exact ⟨true, rfl, Cm.itBn (fun z => nomatch z) fun _ => ⟨_, rfl, sj.trans s'⟩⟩
    obtain ⟨y6', rfl, sj2⟩ := b
    exact ⟨_, _, _, _, _, _, rfl, s2.trans (s2b.trans (sb.trans (sj.trans (sd.trans sj2))))⟩
  · subst e
    refine ⟨Cm.small (by show 2 ≤ 100000; decide), fun p1 np1 => ⟨_, [123456, 0], rfl, Rp.made np1 (.cons (.int _) (.cons (.int _) .nil)), by decide, by decide, fun H3 s3 => ⟨rfl, _, rfl, Cm.itNS (fun e => absurd (show pX [123456, 0] = "p.123456.0" by decide +kernel) e) fun _ => ?_⟩⟩⟩
    refine cmd_rd cmd_empty (jL rfl) fun v4 H4 s4 r4 => ⟨Nat.zero_le _, fun p5 np5 => ?_⟩
    have s5 := Cm.same_new (o := .tup []) np5
    refine ⟨_, _, (r4.keep (Same.tups s5)).dp, (Rp.made (K := K) np5 (.nil : Rps K H4 [] [])).dp, by decide +kernel, by decide +kernel, _, rfl, Cm.itBn (fun e => absurd e (by decide +kernel)) fun _ => ?_⟩
    refine cmd_no (none_of (by decide +kernel)) (jL rfl) fun H6 s6 => ⟨rfl, _, rfl, Cm.itDn (fun e => absurd rfl e) fun _ => ?_⟩
    refine cmd_no (none_of (by decide +kernel)) (jL rfl) fun H7 s7 => ⟨rfl, _, rfl, Cm.itDn (fun e => absurd rfl e) fun _ => ?_⟩
    have s17 := s2.trans ((Cm.same_new np1).trans (s3.trans (s4.trans (s5.trans (s6.trans s7)))))
    try dsimp only [tNext, tSeq]
    refine ⟨_, rfl, p, rs, rfl, SqL.of (s17 _ _ hp), rok.2, fun ls pl us Hl sl okl hpl rl => ⟨pl, rfl, ⟨_, SqL.of hpl⟩, ?_⟩⟩
    refine for_list (K := K) (a := pl) (xs := us) (D := { nx := _, rt := Q }) (fun j σ Hj => ∃ x2 x3 x4 x5 x6 x7 : Option V, σ = [some (.ref sc), some (.ref p), x2, x3, x4, x5, x6, x7] ∧ Same Hl Hj) ⟨_, _, _, _, _, _, rfl, Same.refl Hl⟩ (fun j σ Hj _ b => ?_) (fun j x σ Hj hx b => ?_) fun σ Hj b => ?_
    · obtain ⟨_, _, _, _, _, _, _, sj⟩ := b
      exact SqL.of (sj _ _ hpl)
    · obtain ⟨x2, x3, x4, x5, x6, x7, rfl, sj⟩ := b
      have hj : j < ls.length := by
        have := (List.getElem?_eq_some_iff.mp hx).1
        have l := rl.len
        rw [List.length_map] at l
        omega
      obtain ⟨x', hx', rx⟩ := rl.at_ (i := j) (d := ls[j].d) (by rw [List.getElem?_map, List.getElem?_eq_getElem hj]; rfl)
      rw [hx] at hx'
      cases hx'
      have ok := okl _ (List.getElem_mem hj)
      generalize ls[j] = l at *
      have rx1 := rx.keep (Same.tups sj)
      have lt := (Ln.len ok).1
      simp only [gName, List.set_cons_succ, List.set_cons_zero]
      refine ⟨_, rfl, x, l, rfl, ok, rx1, fun H8 s8 => ?_⟩
      simp only [gName, List.set_cons_succ, List.set_cons_zero]
      refine ⟨_, rfl, cmd_rd (cmd_good ok) (by omega) fun v9 H9 s9 r9 => ⟨_, rfl, _, _, r9.dp, (rx1.keep (Same.tups (s8.trans s9))).dp, Sh.of (shL ok) (by decide), Sh.of (shL ok) (by decide), _, rfl, Cm.itBn (fun e => absurd (Nst.eqv_self (Sh.of (shL ok) (by decide))) (by rw [e]; decide)) fun _ => ?_⟩⟩
      dsimp only [tNext]
      refine ⟨_, rfl, _, rfl, x, l, rfl, ok, rx1.keep (Same.tups (s8.trans s9)), fun Ha pb bs sa hpb hbs => ⟨pb, rfl, ⟨_, SqL.of hpb⟩, ?_⟩⟩
      refine for_list (K := K) (a := pb) (xs := bs.map V.str) (D := { nx := _, rt := Q }) (fun i σ Hi => ∃ x6 : Option V, σ = [some (.ref sc), some (.ref p), x2, x3, x4, some (.str l.t), x6, some x] ∧ Same Ha Hi) ⟨x6, rfl, Same.refl Ha⟩ (fun i σ Hi _ b => ?_) (fun i y σ Hi hy b => ?_) fun σ Hi b => ?_
      · obtain ⟨_, _, si⟩ := b
        exact SqL.of (si _ _ hpb)
      · obtain ⟨y6, rfl, si⟩ := b
        rw [List.getElem?_map] at hy
        obtain ⟨b, hb, rfl⟩ := Option.map_eq_some_iff.mp hy
        obtain ⟨n1, n2⟩ := hbs b (List.mem_of_getElem? hb)
        simp only [gName, List.set_cons_succ, List.set_cons_zero]
        exact ⟨_, rfl, cmd_no n1 n2 fun Hz sz' => ⟨rfl, _, rfl, Cm.itDn (fun e => absurd rfl e) fun _ => ⟨_, rfl, si.trans sz'⟩⟩⟩
      · obtain ⟨y6, rfl, si⟩ := b
        exact ⟨_, _, _, _, _, _, rfl, sj.trans (s8.trans (s9.trans (sa.trans si)))⟩
    obtain ⟨y2, y3, y4, y5, y6, y7, rfl, sj⟩ := b
    try dsimp only
    refine es_for (xs := texts4) (es_cons (es_str _ (n := 20) rfl) (es_cons (es_str _ (n := 20) rfl) (es_cons (es_str _ (n := 20) rfl) (es_cons (es_str _ (n := 20) rfl) es_nil)))) rfl fun pt Ht st hpt => ?_
    refine for_list (K := K) (a := pt) (xs := texts4.map V.str) (D := { nx := _, rt := Q }) (fun i σ Hi => ∃ x5 : Option V, σ = [some (.ref sc), some (.ref p), y2, y3, y4, x5, y6, y7] ∧ Same Ht Hi) ⟨y5, rfl, Same.refl Ht⟩ (fun i σ Hi _ b => ?_) (fun i y σ Hi hy b => ?_) fun σ Hi b => ?_
    · obtain ⟨_, _, si⟩ := b
      exact SqL.of (si _ _ hpt)
    · obtain ⟨z5, rfl, si⟩ := b
      rw [List.getElem?_map] at hy
      obtain ⟨b, hb, rfl⟩ := Option.map_eq_some_iff.mp hy
      obtain ⟨n1, n2⟩ := sh4 b (List.mem_of_getElem? hb)
      simp only [gName, List.set_cons_succ, List.set_cons_zero]
      have e := es_add (σ := [some (.ref sc), some (.ref p), y2, y3, y4, some (.str b), y6, y7]) (es_str "line " (n := 20) rfl) (es_var (i := 5) rfl n1) rfl
      dsimp only [tIfS, tTest, tOp, tCall]
      refine es_cons e es_nil _ _ (cmd_rd (cmd_line b) (Nat.le_trans e.1 (by omega)) fun v1 Ha sa ra => ⟨_, rfl, Cm.small (by show 2 ≤ 100000; decide), fun pz npz => ?_⟩)
      have sz' := Cm.same_new (o := .tup [.str "line", .str b]) npz
      exact ⟨_, _, (ra.keep (Same.tups sz')).dp, (Rp.made (K := K) npz (.cons (.str _) (.cons (.str _) .nil))).dp, shLine n2, shLine n2, _, rfl, Cm.itBn (fun e => absurd (Nst.eqv_self (shLine n2)) (by rw [e]; decide)) fun _ => ⟨_, rfl, si.trans (sa.trans sz')⟩⟩
    obtain ⟨z5, rfl, si⟩ := b
    try dsimp only
    refine cmd_rd cmd_line0 (jL rfl) fun v1 Ha sa ra => ⟨Cm.small (by show 2 ≤ 100000; decide), fun pz npz => ?_⟩
    have sz' := Cm.same_new (o := .tup [.str "line", .str ""]) npz
    refine ⟨_, _, (ra.keep (Same.tups sz')).dp, (Rp.made (K := K) npz (.cons (.str _) (.cons (.str _) .nil))).dp, shLine (by decide +kernel), shLine (by decide +kernel), true, by rw [Nst.eqv_self (shLine (by decide +kernel))], ?_⟩
    rw [if_pos rfl]
    refine cmd_no (none_of (by decide +kernel)) (jL rfl) fun Hx sx => ⟨rfl, true, rfl, ?_⟩
    rw [if_pos rfl]
    exact cmd_no (none_of (by decide +kernel)) (jL rfl) fun Hy sy => ⟨rfl, q _⟩
def fn : List He.DefD := [⟨("number_in", none), "number_in", "number_in", defArgs s_number_in, defBody s_number_in, defScope s_number_in, [], []⟩,
  ⟨("short_number_in", none), "short_number_in", "short_number_in", defArgs s_short_number_in, defBody s_short_number_in, defScope s_short_number_in, [], []⟩,
  ⟨("process_text", none), "process_text", "process_text", defArgs s_process_text, defBody s_process_text, defScope s_process_text, [], []⟩,
  ⟨("object_text", none), "object_text", "object_text", defArgs s_object_text, defBody s_object_text, defScope s_object_text, [], []⟩,
  ⟨("read_process", none), "read_process", "read_process", defArgs s_read_process, defBody s_read_process, defScope s_read_process, [], []⟩,
  ⟨("read_object", none), "read_object", "read_object", defArgs s_read_object, defBody s_read_object, defScope s_read_object, [], []⟩,
  ⟨("process_in", none), "process_in", "process_in", defArgs s_process_in, defBody s_process_in, defScope s_process_in, [], []⟩,
  ⟨("object_in", none), "object_in", "object_in", defArgs s_object_in, defBody s_object_in, defScope s_object_in, [], []⟩,
  ⟨("_check_numbers", none), "_check_numbers", "_check_numbers", defArgs s_check_numbers, defBody s_check_numbers, defScope s_check_numbers, [], []⟩,
  ⟨("read_command", none), "read_command", "read_command", defArgs s_read_command, defBody s_read_command, defScope s_read_command, [], []⟩,
  ⟨("_read_part", none), "_read_part", "_read_part", defArgs s_read_part, defBody s_read_part, defScope s_read_part, [], []⟩,
  ⟨("_law_row", none), "_law_row", "_law_row", defArgs s_lw_row, defBody s_lw_row, defScope s_lw_row, [], []⟩,
  ⟨("_law_at", none), "_law_at", "_law_at", defArgs s_lw_at, defBody s_lw_at, defScope s_lw_at, [], []⟩,
  ⟨("_law_refused", none), "_law_refused", "_law_refused", defArgs s_lw_refused, defBody s_lw_refused, defScope s_lw_refused, [], []⟩,
  ⟨("_law_number", none), "_law_number", "_law_number", defArgs s_lw_number, defBody s_lw_number, defScope s_lw_number, [], []⟩,
  ⟨("_law_name", none), "_law_name", "_law_name", defArgs s_lw_name, defBody s_lw_name, defScope s_lw_name, [], []⟩,
  ⟨("_law_written", none), "_law_written", "_law_written", defArgs s_lw_written, defBody s_lw_written, defScope s_lw_written, [], []⟩,
  ⟨("_law_lines", none), "_law_lines", "_law_lines", defArgs s_lw_lines, defBody s_lw_lines, defScope s_lw_lines, [], []⟩,
  ⟨("_law_line", none), "_law_line", "_law_line", defArgs s_lw_line, defBody s_lw_line, defScope s_lw_line, [], []⟩,
  ⟨("_law_spoilt", none), "_law_spoilt", "_law_spoilt", defArgs s_lw_spoilt, defBody s_lw_spoilt, defScope s_lw_spoilt, [], []⟩,
  ⟨("law", none), "law", "law", defArgs s_law, defBody s_law, defScope s_law, [], []⟩]
def fas : List He.Fa := [.glo "number_in", .glo "short_number_in", .glo "process_text", .glo "object_text", .glo "read_process", .glo "read_object", .glo "process_in", .glo "object_in", .glo "_check_numbers", .glo "read_command", .glo "_read_part", .glo "_law_row", .glo "_law_at", .glo "_law_refused", .glo "_law_number", .glo "_law_name", .glo "_law_written", .glo "_law_lines", .glo "_law_line", .glo "_law_spoilt", .glo "law", .int "MAX_DIGITS" 13, .int "MAX_SHORT" 9999, .glo "FORMS", .glo "PortError", .glo "NotAllowed", .glo "Missing", .free "int", .free "len", .free "tuple", .free "max", .free "zip", .free "range", .free "abs", .free "isinstance", .free "str"]
def tabs : List He.Tab := [(fun K => He.ga K "FORMS", ks_FORMS)]
def okX (K : PySem.W.Frag) : Bool := PySem.W.excIn K (He.ga K "NotAllowed") [.type "ValueError", .type "Exception", .type "BaseException", .type "object"] "ValueError.__new__" && (PySem.W.keepIn K (.ref (He.ga K "NotAllowed")) && ((PySem.W.subIn K (.ref (He.ga K "NotAllowed")) (.type "BaseException") == some true) && ((PySem.W.typeIn K (.ref (He.ga K "NotAllowed")) == some (.type "type")) && ((PySem.W.exmOne K (.ref (He.ga K "NotAllowed")) (.ref (He.ga K "NotAllowed")) == some true) && ((PySem.W.findIn K (.ref (He.ga K "NotAllowed")) "__getattribute__" == some (some (.builtin "BaseException.__getattribute__"))) && ((PySem.W.findIn K (.ref (He.ga K "NotAllowed")) "__getattr__" == some none) && (PySem.W.hasDictIn K (He.ga K "NotAllowed") && ((PySem.W.findIn K (.ref (He.ga K "NotAllowed")) "__class__" == some (some (.builtin "object.__class__"))) && ((PySem.W.specialIn K (.builtin "object.__class__") "__get__" == some (some (.builtin "getset_descriptor.__get__"))) && ((PySem.W.takesIn K (.builtin "object.__class__") == some true) && ((PySem.W.mroIn K (He.ga K "NotAllowed") (.type "object") == some true) && ((PySem.W.kitOne K (.ref (He.ga K "NotAllowed")) (.ref (He.ga K "PortError")) == some true) && ((PySem.W.kitOne K (.ref (He.ga K "NotAllowed")) (.ref (He.ga K "Missing")) == some false) && (formsB K))))))))))))))
abbrev R : PySem.W.OpenRow := PySem.W.OpenLaw.row PySem.Challenge.rw_portage_k07_names_and_lines
abbrev hk : PySem.W.Hook := Cm.hookX 4 fas fn tabs okX
def ob (s : PySem.W.SharedT) : Cm.AlX := Cm.obsXG 4 fas fn tabs okX (HandSHeadRun.getT s)
theorem ob_eq (s : PySem.W.SharedT) : ob s = hk.obs s.abs := Cm.obsXG_eq (HandSHeadRun.getT_eq s)
abbrev loose : List Str := (["PortError", "NotAllowed", "Missing", "MAX_DIGITS", "MAX_SHORT", "number_in", "short_number_in", "process_text", "object_text", "read_process", "read_object", "process_in", "object_in", "_check_numbers", "FORMS", "read_command", "_read_part", "_law_row", "_law_at", "_law_refused", "_law_number", "_law_name", "_law_written", "_law_lines", "_law_line", "_law_spoilt"] : List Str)
theorem run0 (w : World) : HandSHeadRun.RunEq R (PySem.W.view R.prog [31]) hk ob 4000 loose (w.withFollow "special-get-raises" false) := by
  intro os
  kernel_rfl
theorem run1 (w : World) : HandSHeadRun.RunEq R (PySem.W.view R.prog [31]) hk ob 4000 loose (w.withFollow "special-get-raises" true) := by
  intro os
  kernel_rfl
theorem run (w : World) : HandSHeadRun.RunEq R (PySem.W.view R.prog [31]) hk ob 4000 loose w := PySem.W.byRow2 "special-get-raises" (P := fun w => HandSHeadRun.RunEq R (PySem.W.view R.prog [31]) hk ob 4000 loose w) run0 run1 w
theorem facts {P : Program} {w : World} {K : PySem.W.Frag} {h : Heap} {mg : Str → Option Value} {f : Addr} (X : K.In h) (G : h.Ns mainGlobals mg) (hfa : mg ("law" : Str) = some (.ref f)) (ok : okX K = true) (c : He.SaysT fas fn tabs w K) :
    ∃ fd : FuncData, (∀ (s : Shared) (v : Value), BindsTo s fd ⟨[v], []⟩ [("script", v)]) ∧ ∀ base : Heap, K.In base → base.Ns mainGlobals mg → FnOk P w K mg base CX0 12 f fd ["script"] (spLaw K) := by
  obtain ⟨d_number_in, F_number_in⟩ := c.d.def_ 0 rfl
  obtain ⟨d_short_number_in, F_short_number_in⟩ := c.d.def_ 1 rfl
  obtain ⟨d_process_text, F_process_text⟩ := c.d.def_ 2 rfl
  obtain ⟨d_object_text, F_object_text⟩ := c.d.def_ 3 rfl
  obtain ⟨d_read_process, F_read_process⟩ := c.d.def_ 4 rfl
  obtain ⟨d_read_object, F_read_object⟩ := c.d.def_ 5 rfl
  obtain ⟨d_process_in, F_process_in⟩ := c.d.def_ 6 rfl
  obtain ⟨d_object_in, F_object_in⟩ := c.d.def_ 7 rfl
  obtain ⟨d_check_numbers, F_check_numbers⟩ := c.d.def_ 8 rfl
  obtain ⟨d_read_command, F_read_command⟩ := c.d.def_ 9 rfl
  obtain ⟨d_read_part, F_read_part⟩ := c.d.def_ 10 rfl
  obtain ⟨d_lw_row, F_lw_row⟩ := c.d.def_ 11 rfl
  obtain ⟨d_lw_at, F_lw_at⟩ := c.d.def_ 12 rfl
  obtain ⟨d_lw_refused, F_lw_refused⟩ := c.d.def_ 13 rfl
  obtain ⟨d_lw_number, F_lw_number⟩ := c.d.def_ 14 rfl
  obtain ⟨d_lw_name, F_lw_name⟩ := c.d.def_ 15 rfl
  obtain ⟨d_lw_written, F_lw_written⟩ := c.d.def_ 16 rfl
  obtain ⟨d_lw_lines, F_lw_lines⟩ := c.d.def_ 17 rfl
  obtain ⟨d_lw_line, F_lw_line⟩ := c.d.def_ 18 rfl
  obtain ⟨d_lw_spoilt, F_lw_spoilt⟩ := c.d.def_ 19 rfl
  obtain ⟨d_law, F_law⟩ := c.d.def_ 20 rfl
  have e := hfa.symm.trans (He.glo_ok X G (c.d.fact 20 (f := .glo "law") rfl))
  cases e
  unfold okX at ok
  simp only [Bool.and_eq_true] at ok
  obtain ⟨o0, o1, o2, o3, o4, o5, o6, o7, o8, o9, o10, o11, o12, o13, o14⟩ := ok
  have T : Txt K mg w ⟨d_number_in, d_short_number_in, d_process_text, d_object_text, d_read_process, d_read_object, d_process_in, d_object_in, d_check_numbers, d_read_command, d_read_part, d_lw_row, d_lw_at, d_lw_refused, d_lw_number, d_lw_name, d_lw_written, d_lw_lines, d_lw_line, d_lw_spoilt, d_law⟩ := {
    F_number_in := F_number_in
    b_number_in := F_number_in.bindsN (ps := ["text"]) fun _ _ _ _ _ _ us hl => match us, hl with | [_], _ => rfl
    g_number_in := He.glo_ok X G (c.d.fact 0 (f := .glo "number_in") rfl)
    F_short_number_in := F_short_number_in
    b_short_number_in := F_short_number_in.bindsN (ps := ["text"]) fun _ _ _ _ _ _ us hl => match us, hl with | [_], _ => rfl
    g_short_number_in := He.glo_ok X G (c.d.fact 1 (f := .glo "short_number_in") rfl)
    F_process_text := F_process_text
    b_process_text := F_process_text.bindsN (ps := ["process"]) fun _ _ _ _ _ _ us hl => match us, hl with | [_], _ => rfl
    g_process_text := He.glo_ok X G (c.d.fact 2 (f := .glo "process_text") rfl)
    F_object_text := F_object_text
    b_object_text := F_object_text.bindsN (ps := ["name"]) fun _ _ _ _ _ _ us hl => match us, hl with | [_], _ => rfl
    g_object_text := He.glo_ok X G (c.d.fact 3 (f := .glo "object_text") rfl)
    F_read_process := F_read_process
    b_read_process := F_read_process.bindsN (ps := ["text"]) fun _ _ _ _ _ _ us hl => match us, hl with | [_], _ => rfl
    g_read_process := He.glo_ok X G (c.d.fact 4 (f := .glo "read_process") rfl)
    F_read_object := F_read_object
    b_read_object := F_read_object.bindsN (ps := ["text"]) fun _ _ _ _ _ _ us hl => match us, hl with | [_], _ => rfl
    g_read_object := He.glo_ok X G (c.d.fact 5 (f := .glo "read_object") rfl)
    F_process_in := F_process_in
    b_process_in := F_process_in.bindsN (ps := ["text"]) fun _ _ _ _ _ _ us hl => match us, hl with | [_], _ => rfl
    g_process_in := He.glo_ok X G (c.d.fact 6 (f := .glo "process_in") rfl)
    F_object_in := F_object_in
    b_object_in := F_object_in.bindsN (ps := ["text"]) fun _ _ _ _ _ _ us hl => match us, hl with | [_], _ => rfl
    g_object_in := He.glo_ok X G (c.d.fact 7 (f := .glo "object_in") rfl)
    F_check_numbers := F_check_numbers
    b_check_numbers := F_check_numbers.bindsN (ps := ["numbers"]) fun _ _ _ _ _ _ us hl => match us, hl with | [_], _ => rfl
    g_check_numbers := He.glo_ok X G (c.d.fact 8 (f := .glo "_check_numbers") rfl)
    F_read_command := F_read_command
    b_read_command := F_read_command.bindsN (ps := ["line"]) fun _ _ _ _ _ _ us hl => match us, hl with | [_], _ => rfl
    g_read_command := He.glo_ok X G (c.d.fact 9 (f := .glo "read_command") rfl)
    F_read_part := F_read_part
    b_read_part := F_read_part.bindsN (ps := ["role", "part"]) fun _ _ _ _ _ _ us hl => match us, hl with | [_, _], _ => rfl
    g_read_part := He.glo_ok X G (c.d.fact 10 (f := .glo "_read_part") rfl)
    F_lw_row := F_lw_row
    b_lw_row := F_lw_row.bindsN (ps := ["script"]) fun _ _ _ _ _ _ us hl => match us, hl with | [_], _ => rfl
    g_lw_row := He.glo_ok X G (c.d.fact 11 (f := .glo "_law_row") rfl)
    F_lw_at := F_lw_at
    b_lw_at := F_lw_at.bindsN (ps := ["row", "at"]) fun _ _ _ _ _ _ us hl => match us, hl with | [_, _], _ => rfl
    g_lw_at := He.glo_ok X G (c.d.fact 12 (f := .glo "_law_at") rfl)
    F_lw_refused := F_lw_refused
    b_lw_refused := F_lw_refused.bindsN (ps := ["kind", "text"]) fun _ _ _ _ _ _ us hl => match us, hl with | [_, _], _ => rfl
    g_lw_refused := He.glo_ok X G (c.d.fact 13 (f := .glo "_law_refused") rfl)
    F_lw_number := F_lw_number
    b_lw_number := F_lw_number.bindsN (ps := ["row", "at"]) fun _ _ _ _ _ _ us hl => match us, hl with | [_, _], _ => rfl
    g_lw_number := He.glo_ok X G (c.d.fact 14 (f := .glo "_law_number") rfl)
    F_lw_name := F_lw_name
    b_lw_name := F_lw_name.bindsN (ps := ["row", "at"]) fun _ _ _ _ _ _ us hl => match us, hl with | [_, _], _ => rfl
    g_lw_name := He.glo_ok X G (c.d.fact 15 (f := .glo "_law_name") rfl)
    F_lw_written := F_lw_written
    b_lw_written := F_lw_written.bindsN (ps := ["name"]) fun _ _ _ _ _ _ us hl => match us, hl with | [_], _ => rfl
    g_lw_written := He.glo_ok X G (c.d.fact 16 (f := .glo "_law_written") rfl)
    F_lw_lines := F_lw_lines
    b_lw_lines := F_lw_lines.bindsN (ps := ["row"]) fun _ _ _ _ _ _ us hl => match us, hl with | [_], _ => rfl
    g_lw_lines := He.glo_ok X G (c.d.fact 17 (f := .glo "_law_lines") rfl)
    F_lw_line := F_lw_line
    b_lw_line := F_lw_line.bindsN (ps := ["parts"]) fun _ _ _ _ _ _ us hl => match us, hl with | [_], _ => rfl
    g_lw_line := He.glo_ok X G (c.d.fact 18 (f := .glo "_law_line") rfl)
    F_lw_spoilt := F_lw_spoilt
    b_lw_spoilt := F_lw_spoilt.bindsN (ps := ["parts", "text"]) fun _ _ _ _ _ _ us hl => match us, hl with | [_, _], _ => rfl
    g_lw_spoilt := He.glo_ok X G (c.d.fact 19 (f := .glo "_law_spoilt") rfl)
    F_law := F_law
    b_law := F_law.bindsN (ps := ["script"]) fun _ _ _ _ _ _ us hl => match us, hl with | [_], _ => rfl
    g_law := He.glo_ok X G (c.d.fact 20 (f := .glo "law") rfl)
    g_MAX_DIGITS := He.int_ok X G (c.d.fact 21 (f := .int "MAX_DIGITS" 13) rfl)
    g_MAX_SHORT := He.int_ok X G (c.d.fact 22 (f := .int "MAX_SHORT" 9999) rfl)
    g_FORMS := He.glo_ok X G (c.d.fact 23 (f := .glo "FORMS") rfl)
    k_FORMS := c.tab 0 rfl
    g_PortError := He.glo_ok X G (c.d.fact 24 (f := .glo "PortError") rfl)
    g_NotAllowed := He.glo_ok X G (c.d.fact 25 (f := .glo "NotAllowed") rfl)
    g_Missing := He.glo_ok X G (c.d.fact 26 (f := .glo "Missing") rfl)
    g_int := He.free_ok X G (c.d.fact 27 (f := .free "int") rfl)
    g_len := He.free_ok X G (c.d.fact 28 (f := .free "len") rfl)
    g_tuple := He.free_ok X G (c.d.fact 29 (f := .free "tuple") rfl)
    g_max := He.free_ok X G (c.d.fact 30 (f := .free "max") rfl)
    g_zip := He.free_ok X G (c.d.fact 31 (f := .free "zip") rfl)
    g_range := He.free_ok X G (c.d.fact 32 (f := .free "range") rfl)
    g_abs := He.free_ok X G (c.d.fact 33 (f := .free "abs") rfl)
    g_isinstance := He.free_ok X G (c.d.fact 34 (f := .free "isinstance") rfl)
    g_str := He.free_ok X G (c.d.fact 35 (f := .free "str") rfl)
    x_NotAllowed := o0
    k_NotAllowed := o1
    s_NotAllowed := eq_of_beq o2
    t_NotAllowed := eq_of_beq o3
    e1_ := eq_of_beq o4
    m1_ := eq_of_beq o5
    m2_ := eq_of_beq o6
    m4_ := o7
    m5_ := eq_of_beq o8
    m6_ := eq_of_beq o9
    m7_ := eq_of_beq o10
    m8_ := eq_of_beq o11
    e2_ := eq_of_beq o12
    e3_ := eq_of_beq o13
    p_FORMS := o14
  }
  have b := Cm.bindsA_of (x := "law") (st := s_law) (ps := ["script"]) F_law fun _ _ _ _ _ _ us hl => match us, hl with | [_], _ => rfl
  exact ⟨d_law, fun s v => b s [v] rfl, fun base _ _ => ok_law T⟩
end K07
open PySem PySem.W PySem.Calls PyProof.Rows
set_option maxHeartbeats 0 in
theorem PySem.Challenge.cw_portage_k07_names_and_lines_holds : PySem.Challenge.rw_portage_k07_names_and_lines.Holds := by
  w_on; o_law
  refine HandSHeadRun.head_any (r := OpenLaw.row PySem.Challenge.rw_portage_k07_names_and_lines) (q := view (OpenLaw.row PySem.Challenge.rw_portage_k07_names_and_lines).prog [31]) (H := K07.hk) (ob := K07.ob) (M := 4000) (loose := K07.loose) (d := HandSHeadRun.topDef (OpenLaw.row PySem.Challenge.rw_portage_k07_names_and_lines).prog 31) (kwd := []) K07.ob_eq
    (by kernel_rfl) (fun s => by kernel_rfl) K07.run (by kernel_rfl) (by kernel_rfl) (by kernel_rfl) (by rfl) (by first | assumption | decide +kernel) (by decide +kernel) ⟨rfl, rfl, rfl, rfl, rfl, by decide +kernel⟩ ?hw ?hc
  case hw => w_witness2
  case hc =>
    refine L2.walk_ofE (l := PySem.Challenge.rw_portage_k07_names_and_lines) (n := 63) (k := 12) (x := "script") (CX := L2.CX0) rfl (by decide) (by kernel_rfl) ⟨rfl, by decide, by decide⟩ ?F (fun _ _ _ _ z => z)
    intro w mg fa h Y G hmg0
    obtain ⟨K, KX, ok, c⟩ := Y
    have hmg : mg ("law" : PySem.Str) = some (.ref fa) := by
      have e : (HandSHeadRun.topDef (OpenLaw.row PySem.Challenge.rw_portage_k07_names_and_lines).prog 31).name = ("law" : PySem.Str) := by kernel_rfl
      rw [← e]
      exact hmg0
    obtain ⟨fd, hb, hF⟩ := K07.facts (P := (PySem.Challenge.rw_portage_k07_names_and_lines).prog) (w := w) KX G hmg ok c
    exact ⟨K, fd, K07.spLaw K, KX, hb, fun H a ns hl _ hS => ⟨a, ns, rfl, hS, hl, fun _ => rfl⟩, hF⟩

