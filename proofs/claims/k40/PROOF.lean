import PyProof.Rows.All
import Wide.All
import OpenK.AllK
import Wide.FinOn
import KE.KStateDown
import Lean
import HandS.ForMost
import HandS.Defaults
import HandS.More
import HandS.Flow
import HandS.Style
import HandS.StrMore
import HandS.IsInst
import HandS.TupAny
import HandS.TupMul
import HandS.Head0
import HandS.Head1
import HandS.Head2
import HandS.HeadEnd
import HandS.HeadHook1
import HandS.HeadHook2
import HandS.HeadHook3
import KE.KeyNested
import PyProof.DictMoreH
import KE.KTupSum
import HandS.ExcOwn
import HandS.WordsExc
import KE.SortCalls
import KE.SortKeyed
import KE.KDictCopyH
import KE.KDictSum
import HandS.DictTup
import KE.SortData
import HandS.Codes
import HandS.ExcIs
import HandS.RaiseMore
import PySem.Challenge.RW_portage_k40_numbers_and_new_letters
set_option Elab.async false
set_option linter.all false
set_option maxRecDepth 100000
set_option maxHeartbeats 4000000
/-! What my proofs have in common: a Hook with one more test, and small words. -/
namespace Cm
open PySem PySem.Spec PyProof.Rows L2 He

abbrev FnP (K : PySem.W.Frag) (x : Str) (st : Stmt) (f : Addr) (fd : FuncData) : Prop := FunD K x x (defArgs st) (defBody st) (defScope st) [] [] f fd
theorem bindsA_of {K : PySem.W.Frag} {x : Str} {st : Stmt} {f : Addr} {fd : FuncData} {ps : List Str} (F : FnP K x st f fd)
    (h : ∀ (kV doc pm : Value) (an : Option Addr) (cdv ct : Value) (us : List Value), us.length = ps.length → bindArgs (PySem.W.fnOf x x (defArgs st) (defBody st) (defScope st) .none kV doc pm an cdv ct) ⟨us, []⟩ = pure (ps.zip us)) (s : Shared) (us : List Value) (hl : us.length = ps.length) : BindsTo s fd ⟨us, []⟩ (ps.zip us) := FunD.bindsA F h s us hl

/-! ### heaps that grow -/
theorem same_new {H : Hp} {p : Addr} {o : HO} (h : H p = none) : Same H (upd H p o) := fun b x e => by
  rw [upd_ne (ne_of_none e h)]
  exact e
theorem same_mut {H H' : Hp} {p : Addr} {o : HO} (s : Same H H') (h : H p = none) : Same H (upd H' p o) := fun b x e => by
  rw [upd_ne (ne_of_none e h)]
  exact s b x e
theorem sameT {K : PySem.W.Frag} {H H' : Hp} {a : Addr} {xs : List V} (s : Same H H') (h : SqT K H a xs) : SqT K H' a xs := by
  rcases h with (h | ⟨o, h⟩) | h
  · exact .inl (.inl (s _ _ h))
  · exact .inl (.inr ⟨o, s _ _ h⟩)
  · exact .inr h
theorem sqt_new {K : PySem.W.Frag} {H : Hp} {p : Addr} {xs : List V} : SqT K (upd H p (.tup xs)) p xs := .inl (.inl upd_same)
theorem sql_new {K : PySem.W.Frag} {H : Hp} {p : Addr} {xs : List V} : SqL K (upd H p (.lst xs)) p xs := .inl (.inl upd_same)
theorem small {n : Nat} (h : n ≤ 100000) : n ≤ sizeLine := by
  rw [sizeLine_eq]
  omega
theorem smallL {n : Nat} (h : n ≤ 100000) : n < sizeLine := by
  rw [sizeLine_eq]
  omega
/-! ### tests -/
theorem itV {x : Bool} {A B : Prop} (h1 : x = true → A) (h2 : x = false → B) : if (if false = true then !x else x) = true then A else B := by
  cases x
  · exact h2 rfl
  · exact h1 rfl
theorem itVn {x : Bool} {A B : Prop} (h1 : x = false → A) (h2 : x = true → B) : if (if true = true then !x else x) = true then A else B := by
  cases x
  · exact h1 rfl
  · exact h2 rfl
theorem itB {x : Bool} {A B : Prop} (h1 : x = true → A) (h2 : x = false → B) : if x = true then A else B := by
  cases x
  · exact h2 rfl
  · exact h1 rfl
theorem itBn {x : Bool} {A B : Prop} (h1 : x = false → A) (h2 : x = true → B) : if (!x) = true then A else B := by
  cases x
  · exact h1 rfl
  · exact h2 rfl
theorem itD {c : Prop} [Decidable c] {A B : Prop} (h1 : c → A) (h2 : ¬ c → B) : if decide c = true then A else B := by
  by_cases h : c
  · rw [if_pos (decide_eq_true h)]
    exact h1 h
  · rw [if_neg (by rw [decide_eq_false h]; decide)]
    exact h2 h
theorem itDn {c : Prop} [Decidable c] {A B : Prop} (h1 : ¬ c → A) (h2 : c → B) : if (!decide c) = true then A else B := by
  by_cases h : c
  · rw [if_neg (by rw [decide_eq_true h]; decide)]
    exact h2 h
  · rw [if_pos (by rw [decide_eq_false h]; rfl)]
    exact h1 h
theorem deq_int {i j : Int} : decide (V.int i = V.int j) = decide (i = j) := by
  by_cases h : i = j
  · rw [h, decide_eq_true rfl, decide_eq_true rfl]
  · rw [decide_eq_false h, decide_eq_false fun e => h (V.int.inj e)]
theorem deq_str {x y : Str} : decide (V.str x = V.str y) = decide (x = y) := by
  by_cases h : x = y
  · rw [h, decide_eq_true rfl, decide_eq_true rfl]
  · rw [decide_eq_false h, decide_eq_false fun e => h (V.str.inj e)]
theorem deq_bl {x y : Bool} : decide (V.bl x = V.bl y) = decide (x = y) := by
  by_cases h : x = y
  · rw [h, decide_eq_true rfl, decide_eq_true rfl]
  · rw [decide_eq_false h, decide_eq_false fun e => h (V.bl.inj e)]
theorem itEI {x y : Int} {A B : Prop} (h1 : x = y → A) (h2 : ¬ x = y → B) : if decide (V.int x = V.int y) = true then A else B := by
  rw [deq_int]
  exact itD h1 h2
theorem itES {x y : Str} {A B : Prop} (h1 : x = y → A) (h2 : ¬ x = y → B) : if decide (V.str x = V.str y) = true then A else B := by
  rw [deq_str]
  exact itD h1 h2
theorem itNI {x y : Int} {A B : Prop} (h1 : ¬ x = y → A) (h2 : x = y → B) : if (!decide (V.int x = V.int y)) = true then A else B := by
  rw [deq_int]
  exact itDn h1 h2
theorem itNS {x y : Str} {A B : Prop} (h1 : ¬ x = y → A) (h2 : x = y → B) : if (!decide (V.str x = V.str y)) = true then A else B := by
  rw [deq_str]
  exact itDn h1 h2
theorem str_nil {z : Str} (h : z.cps.toList = []) : z = ⟨#[]⟩ := by
  obtain ⟨c⟩ := z
  have e : c = #[] := by simpa using h
  rw [e]
/-! ### items -/
theorem at_in {xs : List V} {i : Int} (h0 : 0 ≤ i) (h1 : i < (xs.length : Int)) : ∃ v, v ∈ xs ∧ atI xs i = some v := by
  obtain ⟨j, rfl⟩ := Int.eq_ofNat_of_zero_le h0
  have h2 : j < xs.length := by omega
  exact ⟨xs[j], List.getElem_mem h2, atI_nat (List.getElem?_eq_getElem h2)⟩
theorem at_str {ws : List Str} {i : Int} (h0 : 0 ≤ i) (h1 : i < (ws.length : Int)) : ∃ w, w ∈ ws ∧ atI (ws.map V.str) i = some (.str w) := by
  obtain ⟨v, hv, e⟩ := at_in (xs := ws.map V.str) h0 (by rw [List.length_map]; exact h1)
  obtain ⟨w, hw, rfl⟩ := List.mem_map.mp hv
  exact ⟨w, hw, e⟩
theorem at_int {ns : List Int} {i : Int} (h0 : 0 ≤ i) (h1 : i < (ns.length : Int)) : ∃ n, n ∈ ns ∧ atI (ns.map V.int) i = some (.int n) := by
  obtain ⟨v, hv, e⟩ := at_in (xs := ns.map V.int) h0 (by rw [List.length_map]; exact h1)
  obtain ⟨n, hn, rfl⟩ := List.mem_map.mp hv
  exact ⟨n, hn, e⟩
/-! ### a Hook with one more test -/
abbrev AlX : Type := Bool × AlT
def obsX (fa : List Fa) (fn : List DefD) (ts : List Tab) (ok : PySem.W.Frag → Bool) (K : PySem.W.Frag) : AlX := (ok K, obsT fa fn ts K)
def obsXG (n : Nat) (fa : List Fa) (fn : List DefD) (ts : List Tab) (ok : PySem.W.Frag → Bool) (g : Addr → Option Obj) : AlX := obsX fa fn ts ok (frG g (asD g n))
def hookX (n : Nat) (fa : List Fa) (fn : List DefD) (ts : List Tab) (ok : PySem.W.Frag → Bool) : PySem.W.Hook where
  α := AlX
  obs := fun s => obsXG n fa fn ts ok s.heap.get?
  val := fun w => (true, valT fn ts w)
  says := fun w h => ∃ K : PySem.W.Frag, K.In h ∧ ok K = true ∧ SaysT fa fn ts w K
  of := fun w s e => ⟨frG s.heap.get? (asD s.heap.get? n), frG_in, congrArg (fun z : AlX => z.1) e, congrArg (fun z : AlX => z.2) e⟩
  keeps := fun _ _ _ ⟨K, hK, o, c⟩ k => ⟨K, PySem.W.Frag.In.keeps hK k, o, c⟩
theorem obsXG_eq {n : Nat} {fa : List Fa} {fn : List DefD} {ts : List Tab} {ok : PySem.W.Frag → Bool} {g : Addr → Option Obj} {s : Shared} (h : ∀ a, g a = s.heap.get? a) : obsXG n fa fn ts ok g = (hookX n fa fn ts ok).obs s := by
  have e : g = s.heap.get? := funext h
  rw [e] <;> rfl
end Cm

set_option Elab.async false
set_option linter.all false
set_option maxRecDepth 100000
set_option maxHeartbeats 4000000
/-! Program trees: expressions, statements, what they are as data, their code. No word of any one statement here. -/
namespace Pt
open PySem PySem.Spec PyProof.Rows L2

/-! ### data that never changes: numbers, texts, truth values, tuples of such -/
mutual
inductive Rp (K : PySem.W.Frag) (H : Hp) : V → PyData → Prop
  | non : Rp K H .non .none
  | bl (b : Bool) : Rp K H (.bl b) (.bool b)
  | int (i : Int) : Rp K H (.int i) (.int i)
  | str (x : Str) : Rp K H (.str x) (.str x)
  | tup {a : Addr} {xs : List V} {ds : List PyData} : SqT K H a xs → Rps K H xs ds → Rp K H (.ref a) (.tuple ds)
inductive Rps (K : PySem.W.Frag) (H : Hp) : List V → List PyData → Prop
  | nil : Rps K H [] []
  | cons {v : V} {vs : List V} {d : PyData} {ds : List PyData} : Rp K H v d → Rps K H vs ds → Rps K H (v :: vs) (d :: ds)
end
/-- all that was tracked stays, but what stands at c -/
def Keep (c : Addr) (H H' : Hp) : Prop := ∀ b o, H b = some o → b ≠ c → H' b = some o
theorem Keep.refl (c : Addr) (H : Hp) : Keep c H H := fun _ _ h _ => h
theorem Keep.trans {c : Addr} {H H1 H2 : Hp} (a : Keep c H H1) (b : Keep c H1 H2) : Keep c H H2 := fun x o h n => b x o (a x o h n) n
theorem Keep.of {c : Addr} {H H' : Hp} (s : Same H H') : Keep c H H' := fun b o h _ => s b o h
/-- what was tracked and is no list stays -/
def Tups (H H' : Hp) : Prop := ∀ b o, H b = some o → (∀ xs, o ≠ .lst xs) → H' b = some o
theorem Same.tups {H H' : Hp} (s : Same H H') : Tups H H' := fun b o h _ => s b o h
theorem Keep.tups {c : Addr} {H H' : Hp} {xs : List V} (k : Keep c H H') (h : H c = some (.lst xs)) : Tups H H' := fun b o hb no => k b o hb fun e => by
  subst e
  rw [h] at hb
  exact no xs (Option.some.inj hb).symm
section
variable {K : PySem.W.Frag} {H H' : Hp}
theorem Tups.sqt (k : Tups H H') {a : Addr} {xs : List V} (h : SqT K H a xs) : SqT K H' a xs := by
  rcases h with (h | ⟨o, h⟩) | h
  · exact .inl (.inl (k _ _ h fun _ e => by cases e))
  · exact .inl (.inr ⟨o, k _ _ h fun _ e => by cases e⟩)
  · exact .inr h
mutual
theorem Rp.keep (k : Tups H H') : ∀ {v : V} {d : PyData}, Rp K H v d → Rp K H' v d
  | _, _, .non => .non
  | _, _, .bl b => .bl b
  | _, _, .int i => .int i
  | _, _, .str x => .str x
  | _, _, .tup h r => .tup (k.sqt h) (Rps.keep k r)
theorem Rps.keep (k : Tups H H') : ∀ {vs : List V} {ds : List PyData}, Rps K H vs ds → Rps K H' vs ds
  | _, _, .nil => .nil
  | _, _, .cons h r => .cons (Rp.keep k h) (Rps.keep k r)
end
mutual
theorem Rp.dp : ∀ {v : V} {d : PyData}, Rp K H v d → Dp K H v d
  | _, _, .non => .non
  | _, _, .bl b => .bl b
  | _, _, .int i => .int i
  | _, _, .str x => .str x
  | _, _, .tup h r => .tup h (Rps.dp r)
theorem Rps.dp : ∀ {vs : List V} {ds : List PyData}, Rps K H vs ds → DpAll K H vs ds
  | _, _, .nil => .nil
  | _, _, .cons h r => .cons (Rp.dp h) (Rps.dp r)
end
theorem Rps.len : ∀ {vs : List V} {ds : List PyData}, Rps K H vs ds → vs.length = ds.length
  | _, _, .nil => rfl
  | _, _, .cons _ r => congrArg (· + 1) (Rps.len r)
theorem Rps.app : ∀ {vs us : List V} {ds es : List PyData}, Rps K H vs ds → Rps K H us es → Rps K H (vs ++ us) (ds ++ es)
  | _, _, _, _, .nil, r => r
  | _, _, _, _, .cons h r, s => .cons h (Rps.app r s)
theorem Rps.at_ : ∀ {vs : List V} {ds : List PyData} {i : Nat} {d : PyData}, Rps K H vs ds → ds[i]? = some d → ∃ v, vs[i]? = some v ∧ Rp K H v d
  | _, _, 0, _, .cons h _, e => ⟨_, rfl, by cases e; exact h⟩
  | _, _, i + 1, _, .cons _ r, e => Rps.at_ (i := i) r e
theorem Rps.drop : ∀ {vs : List V} {ds : List PyData} (n : Nat), Rps K H vs ds → Rps K H (vs.drop n) (ds.drop n)
  | _, _, 0, r => r
  | _, _, _ + 1, .nil => .nil
  | _, _, n + 1, .cons _ r => Rps.drop n r
theorem Rps.take : ∀ {vs : List V} {ds : List PyData} (n : Nat), Rps K H vs ds → Rps K H (vs.take n) (ds.take n)
  | _, _, 0, _ => .nil
  | _, _, _ + 1, .nil => .nil
  | _, _, n + 1, .cons h r => .cons h (Rps.take n r)
theorem Rps.one {v : V} {d : PyData} (h : Rp K H v d) : Rps K H [v] [d] := .cons h .nil
theorem Rp.tup_inv {v : V} {ds : List PyData} (h : Rp K H v (.tuple ds)) : ∃ a vs, v = .ref a ∧ SqT K H a vs ∧ Rps K H vs ds := by
  cases h with
  | tup h r => exact ⟨_, _, rfl, h, r⟩
theorem Rp.str_inv {v : V} {x : Str} (h : Rp K H v (.str x)) : v = .str x := by
  cases h
  rfl
theorem Rp.int_inv {v : V} {i : Int} (h : Rp K H v (.int i)) : v = .int i := by
  cases h
  rfl
theorem Rp.bl_inv {v : V} {b : Bool} (h : Rp K H v (.bool b)) : v = .bl b := by
  cases h
  rfl
theorem Rps.cons_inv {vs : List V} {d : PyData} {ds : List PyData} (h : Rps K H vs (d :: ds)) : ∃ v r, vs = v :: r ∧ Rp K H v d ∧ Rps K H r ds := by
  cases h with
  | cons a b => exact ⟨_, _, rfl, a, b⟩
theorem Rps.nil_inv {vs : List V} (h : Rps K H vs []) : vs = [] := by
  cases h
  rfl
theorem Rp.new {p : Addr} {vs : List V} {ds : List PyData} (h : H' p = some (.tup vs)) (r : Rps K H' vs ds) : Rp K H' (.ref p) (.tuple ds) := .tup (.inl (.inl h)) r
/-- a new tuple of what stood before -/
theorem Rp.made {p : Addr} {vs : List V} {ds : List PyData} (hp : H p = none) (r : Rps K H vs ds) : Rp K (upd H p (.tup vs)) (.ref p) (.tuple ds) := .tup (.inl (.inl upd_same)) (r.keep (Same.tups (Cm.same_new hp)))
/-- a list stays where its content is another than c's -/
theorem Keep.seq {c a : Addr} {xs ys : List V} (k : Keep c H H') (hc : H c = some (.lst ys)) (ne : xs ≠ ys) (h : SqL K H a xs) : SqL K H' a xs := by
  rcases h with (h | ⟨o, h⟩) | h
  · refine .inl (.inl (k _ _ h fun e => ?_))
    rw [e, hc] at h
    cases h
    exact ne rfl
  · refine .inl (.inr ⟨o, k _ _ h fun e => ?_⟩)
    rw [e, hc] at h
    cases h
  · exact .inr h
end

/-- tuple + tuple -/
theorem cat_rp {K : PySem.W.Frag} {H : Hp} {x y : V} {ds es : List PyData} {Q : VK} (hx : Rp K H x (.tuple ds)) (hy : Rp K H y (.tuple es)) (hl : ds.length + es.length ≤ 10000000) (h : ∀ (v : V) (H' : Hp), Same H H' → Rp K H' v (.tuple (ds ++ es)) → Q v H') : rCatA K x y H Q := by
  obtain ⟨a, xs, rfl, ha, hxs⟩ := hx.tup_inv
  obtain ⟨b, ys, rfl, hb, hys⟩ := hy.tup_inv
  refine ⟨a, b, xs, ys, rfl, rfl, ha, hb, ?_, fun e => ?_, fun _ e => ?_, fun _ _ p np => ?_⟩
  · rw [hxs.len, hys.len, sizeLine_eq]
    omega
  · subst e
    cases hxs
    exact h _ _ (Same.refl H) hy
  · subst e
    cases hys
    rw [List.append_nil] at h
    exact h _ _ (Same.refl H) hx
  · exact h _ _ (Cm.same_new np) (Rp.made np (hxs.app hys))
/-- a tuple from a place on -/
theorem from_rp {K : PySem.W.Frag} {H : Hp} {x : V} {ds : List PyData} {k : Nat} {Q : VK} (hx : Rp K H x (.tuple ds)) (hk : k ≤ ds.length) (h : ∀ (v : V) (H' : Hp), Same H H' → Rp K H' v (.tuple (ds.drop k)) → Q v H') : rSlA K x (some (k : Int)) none H Q := by
  obtain ⟨a, xs, rfl, ha, hxs⟩ := hx.tup_inv
  have hl := hxs.len
  have e0 : HT.sIx xs.length 0 (some (k : Int)) = k := by
    rw [show HT.sIx xs.length 0 (some (k : Int)) = min k xs.length from HT.sIx_nat _ 0 k]
    omega
  refine ⟨a, xs, rfl, ha, fun e => ?_, fun _ p np => ?_⟩
  · have z := e.1
    rw [e0] at z
    subst z
    exact h _ _ (Same.refl H) hx
  · have ec : cutV xs (some (k : Int)) none = xs.drop k := by
      unfold cutV
      rw [e0, HT.sIx_none]
      exact List.take_of_length_le (by rw [List.length_drop]; exact Nat.le_refl _)
    rw [ec]
    exact h _ _ (Cm.same_new np) (Rp.made np (hxs.drop k))
/-! ### equality of data is reflexive; its form -/
/-- numbers, texts, truth values, None -/
def leafD : PyData → Bool
  | .none => true
  | .bool _ => true
  | .int _ => true
  | .str _ => true
  | _ => false

/-! ### expressions and statements -/
mutual
inductive E where
  | int (n : Int)
  | name (x : Str)
  | choice (o : Bool) (l r : E)
  | call (r : E) (f : Str) (as : Es)
  | new (m : Str) (as : Es)
  | plain (w : Str) (as : Es)
inductive Es where
  | nil
  | cons (e : E) (es : Es)
end
mutual
inductive S where
  | letS (x k : Str) (e : E)
  | setS (x : Str) (e : E)
  | ifS (e : E) (b c : Ss)
  | whileS (e : E) (b : Ss)
  | doS (e : E)
  | fork (r : E) (f : Str) (as : Es)
  | plain (w : Str) (as : Es)
inductive Ss where
  | nil
  | cons (s : S) (ss : Ss)
end
def cw (o : Bool) : Str := if o then "or" else "and"
mutual
def E.d : E → PyData
  | .int n => .tuple [.str "int", .int n]
  | .name x => .tuple [.str "name", .str x]
  | .choice o l r => .tuple [.str (cw o), l.d, r.d]
  | .call r f as => .tuple [.str "call", r.d, .str f, .tuple as.ds]
  | .new m as => .tuple [.str "new", .str m, .tuple as.ds]
  | .plain w as => .tuple (.str w :: as.ds)
def Es.ds : Es → List PyData
  | .nil => []
  | .cons e es => e.d :: es.ds
end
mutual
def S.d : S → PyData
  | .letS x k e => .tuple [.str "let", .str x, .str k, e.d]
  | .setS x e => .tuple [.str "set", .str x, e.d]
  | .ifS e b c => .tuple [.str "if", e.d, .tuple b.ds, .tuple c.ds]
  | .whileS e b => .tuple [.str "while", e.d, .tuple b.ds]
  | .doS e => .tuple [.str "do", e.d]
  | .fork r f as => .tuple [.str "fork", r.d, .str f, .tuple as.ds]
  | .plain w as => .tuple (.str w :: as.ds)
def Ss.ds : Ss → List PyData
  | .nil => []
  | .cons s ss => s.d :: ss.ds
end
def Es.list : Es → List E
  | .nil => []
  | .cons e es => e :: es.list
def Ss.list : Ss → List S
  | .nil => []
  | .cons s ss => s :: ss.list
def Ss.of : List S → Ss
  | [] => .nil
  | s :: ss => .cons s (Ss.of ss)
def Ss.app : Ss → Ss → Ss
  | .nil, c => c
  | .cons s b, c => .cons s (b.app c)
def Es.len : Es → Nat
  | .nil => 0
  | .cons _ es => es.len + 1
theorem Es.ds_len : ∀ es : Es, es.ds.length = es.len
  | .nil => rfl
  | .cons _ es => congrArg (· + 1) (Es.ds_len es)
theorem Es.list_ds : ∀ es : Es, es.ds = es.list.map E.d
  | .nil => rfl
  | .cons _ es => congrArg (_ :: ·) (Es.list_ds es)
theorem Ss.list_ds : ∀ es : Ss, es.ds = es.list.map S.d
  | .nil => rfl
  | .cons _ es => congrArg (_ :: ·) (Ss.list_ds es)
theorem Ss.app_ds : ∀ b c : Ss, (b.app c).ds = b.ds ++ c.ds
  | .nil, _ => rfl
  | .cons _ b, c => congrArg (_ :: ·) (Ss.app_ds b c)
theorem Ss.app_list : ∀ b c : Ss, (b.app c).list = b.list ++ c.list
  | .nil, _ => rfl
  | .cons _ b, c => congrArg (_ :: ·) (Ss.app_list b c)
theorem Ss.of_list : ∀ l : List S, (Ss.of l).list = l
  | [] => rfl
  | _ :: l => congrArg (_ :: ·) (Ss.of_list l)
/-! ### the names that are used; the names of lets -/
mutual
def E.uses : E → List Str
  | .int _ => []
  | .name x => [x]
  | .choice _ l r => l.uses ++ r.uses
  | .call r _ as => r.uses ++ as.uses
  | .new _ as => as.uses
  | .plain _ as => as.uses
def Es.uses : Es → List Str
  | .nil => []
  | .cons e es => e.uses ++ es.uses
end
mutual
def S.uses : S → List Str
  | .letS x _ e => x :: e.uses
  | .setS x e => x :: e.uses
  | .ifS e b c => e.uses ++ (b.uses ++ c.uses)
  | .whileS e b => e.uses ++ b.uses
  | .doS e => e.uses
  | .fork r _ as => r.uses ++ as.uses
  | .plain _ as => as.uses
def Ss.uses : Ss → List Str
  | .nil => []
  | .cons s ss => s.uses ++ ss.uses
end
mutual
def S.lets : S → List Str
  | .letS x _ _ => [x]
  | .ifS _ b c => b.lets ++ c.lets
  | .whileS _ b => b.lets
  | _ => []
def Ss.lets : Ss → List Str
  | .nil => []
  | .cons s ss => s.lets ++ ss.lets
end
theorem Ss.app_lets : ∀ b c : Ss, (b.app c).lets = b.lets ++ c.lets
  | .nil, _ => rfl
  | .cons s b, c => by
    show s.lets ++ (b.app c).lets = (s.lets ++ b.lets) ++ c.lets
    rw [Ss.app_lets b c, List.append_assoc]
theorem Ss.app_uses : ∀ b c : Ss, (b.app c).uses = b.uses ++ c.uses
  | .nil, _ => rfl
  | .cons s b, c => by
    show s.uses ++ (b.app c).uses = (s.uses ++ b.uses) ++ c.uses
    rw [Ss.app_uses b c, List.append_assoc]
/-! ### words in their places -/
abbrev plainE : List Str := ["nil", "self", "add", "sub", "mul", "less", "most", "same", "not"]
abbrev leafE : List Str := ["nil", "self"]
def Es.isNil : Es → Bool
  | .nil => true
  | .cons _ _ => false
abbrev plainB : List Str := ["return", "print", "move"]
/-- how many parts stand behind a word -/
def arE (w : Str) : Nat := if w ∈ leafE then 0 else if w = "not" then 1 else 2
def arB (w : Str) : Nat := if w = "move" then 2 else 1
mutual
def E.wf : E → Bool
  | .int _ => true
  | .name _ => true
  | .choice _ l r => l.wf && r.wf
  | .call r _ as => r.wf && as.wf
  | .new _ as => as.wf
  | .plain w as => (decide (w ∈ plainE) && decide (as.len = arE w)) && as.wf
def Es.wf : Es → Bool
  | .nil => true
  | .cons e es => e.wf && es.wf
end
mutual
def S.wf : S → Bool
  | .letS _ _ e => e.wf
  | .setS _ e => e.wf
  | .ifS e b c => e.wf && (b.wf && c.wf)
  | .whileS e b => e.wf && b.wf
  | .doS e => e.wf
  | .fork r _ as => r.wf && as.wf
  | .plain w as => (decide (w ∈ plainB) && decide (as.len = arB w)) && as.wf
def Ss.wf : Ss → Bool
  | .nil => true
  | .cons s ss => s.wf && ss.wf
end
theorem Ss.app_wf : ∀ b c : Ss, (b.app c).wf = (b.wf && c.wf)
  | .nil, _ => rfl
  | .cons s b, c => by
    show (s.wf && (b.app c).wf) = ((s.wf && b.wf) && c.wf)
    rw [Ss.app_wf b c, Bool.and_assoc]
theorem and2 {a b : Bool} (h1 : a = true) (h2 : b = true) : (a && b) = true := by rw [h1, h2]; rfl
theorem wfP {w : Str} {e : E} {as : Es} (h1 : decide (w ∈ plainB) = true) (h3 : (Es.cons e as).len = arB w) (h2 : (Es.cons e as).wf = true) : (S.plain w (.cons e as)).wf = true := and2 (and2 h1 (decide_eq_true h3)) h2
theorem ar_nil {w : Str} (h : decide (0 = arE w) = true) : w ∈ leafE := by
  by_cases e : w ∈ leafE
  · exact e
  · have h' := of_decide_eq_true h
    unfold arE at h'
    rw [if_neg e] at h'
    split at h' <;> omega
theorem ar_some {w : Str} {n : Nat} (h : decide (n + 1 = arE w) = true) : ¬ w ∈ leafE := fun e => by
  have h' := of_decide_eq_true h
  unfold arE at h'
  rw [if_pos e] at h'
  omega
theorem wfW {e : E} {b : Ss} (h1 : e.wf = true) (h2 : b.wf = true) : (S.whileS e b).wf = true := and2 h1 h2
theorem wfC {e : E} {es : Es} (h1 : e.wf = true) (h2 : es.wf = true) : (Es.cons e es).wf = true := and2 h1 h2
theorem wfSs {e : S} {es : Ss} (h1 : e.wf = true) (h2 : es.wf = true) : (Ss.cons e es).wf = true := and2 h1 h2
/-! ### depth -/
mutual
def E.dep : E → Nat
  | .int _ => 0
  | .name _ => 0
  | .choice _ l r => max l.dep r.dep + 1
  | .call r _ as => max r.dep as.dep + 1
  | .new _ as => as.dep + 1
  | .plain _ as => as.dep + 1
def Es.dep : Es → Nat
  | .nil => 0
  | .cons e es => max e.dep es.dep
end
mutual
def S.dep : S → Nat
  | .letS _ _ e => e.dep + 1
  | .setS _ e => e.dep + 1
  | .ifS e b c => max e.dep (max b.dep c.dep) + 1
  | .whileS e b => max e.dep b.dep + 1
  | .doS e => e.dep + 1
  | .fork r _ as => max r.dep as.dep + 1
  | .plain _ as => as.dep + 1
def Ss.dep : Ss → Nat
  | .nil => 0
  | .cons s ss => max s.dep ss.dep
end
/-! ### the number of instructions -/
mutual
def E.sz : E → Nat
  | .int _ => 1
  | .name _ => 1
  | .choice o l r => l.sz + r.sz + (if o then 2 else 0) + 5
  | .call r _ as => r.sz + as.sz + 1
  | .new _ as => as.sz + 1
  | .plain _ as => as.sz + 1
def Es.sz : Es → Nat
  | .nil => 0
  | .cons e es => e.sz + es.sz
end
mutual
def S.sz : S → Nat
  | .letS _ _ e => e.sz + 1
  | .setS _ e => e.sz + 1
  | .ifS e b c => e.sz + 1 + b.sz + (match c with | .nil => 0 | .cons _ _ => 1) + c.sz
  | .whileS e b => e.sz + b.sz + 2
  | .doS e => e.sz + 1
  | .fork r _ as => r.sz + as.sz + 1
  | .plain _ as => as.sz + 1
def Ss.sz : Ss → Nat
  | .nil => 0
  | .cons s ss => s.sz + ss.sz
end
theorem Ss.app_dep : ∀ b c : Ss, (b.app c).dep = max b.dep c.dep
  | .nil, _ => (Nat.zero_max _).symm
  | .cons s b, c => by
    show max s.dep (b.app c).dep = max (max s.dep b.dep) c.dep
    rw [Ss.app_dep b c, Nat.max_assoc]
theorem Ss.app_sz : ∀ b c : Ss, (b.app c).sz = b.sz + c.sz
  | .nil, _ => (Nat.zero_add _).symm
  | .cons s b, c => by
    show s.sz + (b.app c).sz = (s.sz + b.sz) + c.sz
    rw [Ss.app_sz b c, Nat.add_assoc]
/-! ### code -/
def I1 (x : Str) : PyData := .tuple [.str x]
def I2 (x : Str) (n : Int) : PyData := .tuple [.str x, .int n]
def I3 (x y : Str) (n : Int) : PyData := .tuple [.str x, .str y, .int n]
/-- what turns the parts of an or -/
def tn (o : Bool) : List PyData := if o then [I1 "not"] else []
def kn (o : Bool) : Nat := if o then 1 else 0
def ends (o : Bool) (d : Nat) : List PyData := [I2 "push" (if o then 0 else 1), I2 "jump" ((d : Int) + 1), I2 "push" (if o then 1 else 0)]
abbrev Plc := Str → Str × Int
mutual
def E.code (pl : Plc) : E → Nat → List PyData
  | .int n, _ => [I2 "push" n]
  | .name x, _ => [I2 (pl x).1 (pl x).2]
  | .choice o l r, at_ => (l.code pl at_ ++ tn o) ++ [I2 "unless" ((at_ + l.sz + kn o + 1 + r.sz + kn o + 3 : Nat) : Int)] ++ (r.code pl (at_ + l.sz + kn o + 1) ++ tn o) ++ [I2 "unless" ((at_ + l.sz + kn o + 1 + r.sz + kn o + 3 : Nat) : Int)] ++ ends o (at_ + l.sz + kn o + 1 + r.sz + kn o + 3)
  | .call r f as, at_ => (r.code pl at_ ++ as.code pl (at_ + r.sz)) ++ [I3 "call" f as.len]
  | .new m as, at_ => as.code pl at_ ++ [I3 "new" m as.len]
  | .plain w as, at_ => as.code pl at_ ++ [I1 w]
def Es.code (pl : Plc) : Es → Nat → List PyData
  | .nil, _ => []
  | .cons e es, at_ => e.code pl at_ ++ es.code pl (at_ + e.sz)
end
mutual
def S.code (pl : Plc) : S → Nat → List PyData
  | .letS x _ e, at_ => e.code pl at_ ++ [I2 ("set" ++ (pl x).1) (pl x).2]
  | .setS x e, at_ => e.code pl at_ ++ [I2 ("set" ++ (pl x).1) (pl x).2]
  | .ifS e b .nil, at_ => e.code pl at_ ++ [I2 "unless" ((at_ + e.sz + 1 + b.sz : Nat) : Int)] ++ b.code pl (at_ + e.sz + 1)
  | .ifS e b (.cons s ss), at_ => e.code pl at_ ++ [I2 "unless" ((at_ + e.sz + 1 + b.sz + 1 : Nat) : Int)] ++ b.code pl (at_ + e.sz + 1) ++ [I2 "jump" ((at_ + e.sz + 1 + b.sz + 1 + (s.sz + ss.sz) : Nat) : Int)] ++
      (s.code pl (at_ + e.sz + 1 + b.sz + 1) ++ ss.code pl (at_ + e.sz + 1 + b.sz + 1 + s.sz))
  | .whileS e b, at_ => e.code pl at_ ++ [I2 "unless" ((at_ + e.sz + 1 + b.sz + 1 : Nat) : Int)] ++ b.code pl (at_ + e.sz + 1) ++ [I2 "jump" (at_ : Nat)]
  | .doS e, at_ => e.code pl at_ ++ [I1 "drop"]
  | .fork r f as, at_ => (r.code pl at_ ++ as.code pl (at_ + r.sz)) ++ [I3 "fork" f as.len]
  | .plain w as, at_ => as.code pl at_ ++ [I1 w]
def Ss.code (pl : Plc) : Ss → Nat → List PyData
  | .nil, _ => []
  | .cons s ss, at_ => s.code pl at_ ++ ss.code pl (at_ + s.sz)
end
theorem tn_len (o : Bool) : (tn o).length = kn o := by cases o <;> rfl
mutual
theorem E.code_len (pl : Plc) : ∀ (e : E) (a : Nat), (e.code pl a).length = e.sz
  | .int _, _ => rfl
  | .name _, _ => rfl
  | .choice o l r, a => by
    have h1 := E.code_len pl l a
    have h2 := E.code_len pl r (a + l.sz + kn o + 1)
    simp only [E.code, List.length_append, List.length_cons, List.length_nil, h1, h2, tn_len, ends, E.sz]
    cases o <;> simp [kn] <;> omega
  | .call r f as, a => by
    have h1 := E.code_len pl r a
    have h2 := Es.code_len pl as (a + r.sz)
    simp only [E.code, List.length_append, List.length_cons, List.length_nil, h1, h2, E.sz]
  | .new m as, a => by
    have h2 := Es.code_len pl as a
    simp only [E.code, List.length_append, List.length_cons, List.length_nil, h2, E.sz]
  | .plain w as, a => by
    have h2 := Es.code_len pl as a
    simp only [E.code, List.length_append, List.length_cons, List.length_nil, h2, E.sz]
theorem Es.code_len (pl : Plc) : ∀ (es : Es) (a : Nat), (es.code pl a).length = es.sz
  | .nil, _ => rfl
  | .cons e es, a => by
    have h1 := E.code_len pl e a
    have h2 := Es.code_len pl es (a + e.sz)
    simp only [Es.code, List.length_append, h1, h2, Es.sz]
end
mutual
theorem S.code_len (pl : Plc) : ∀ (s : S) (a : Nat), (s.code pl a).length = s.sz
  | .letS x k e, a => by simp only [S.code, List.length_append, List.length_cons, List.length_nil, E.code_len, S.sz]
  | .setS x e, a => by simp only [S.code, List.length_append, List.length_cons, List.length_nil, E.code_len, S.sz]
  | .ifS e b .nil, a => by
    have h := Ss.code_len pl b (a + e.sz + 1)
    simp only [S.code, List.length_append, List.length_cons, List.length_nil, E.code_len, h, S.sz, Ss.sz]
    omega
  | .ifS e b (.cons s ss), a => by
    have h := Ss.code_len pl b (a + e.sz + 1)
    have h1 := S.code_len pl s (a + e.sz + 1 + b.sz + 1)
    have h2 := Ss.code_len pl ss (a + e.sz + 1 + b.sz + 1 + s.sz)
    simp only [S.code, List.length_append, List.length_cons, List.length_nil, E.code_len, h, h1, h2, S.sz, Ss.sz]
  | .whileS e b, a => by
    have h := Ss.code_len pl b (a + e.sz + 1)
    simp only [S.code, List.length_append, List.length_cons, List.length_nil, E.code_len, h, S.sz]
    omega
  | .doS e, a => by simp only [S.code, List.length_append, List.length_cons, List.length_nil, E.code_len, S.sz]
  | .fork r f as, a => by simp only [S.code, List.length_append, List.length_cons, List.length_nil, E.code_len, Es.code_len, S.sz]
  | .plain w as, a => by simp only [S.code, List.length_append, List.length_cons, List.length_nil, Es.code_len, S.sz]
theorem Ss.code_len (pl : Plc) : ∀ (ss : Ss) (a : Nat), (ss.code pl a).length = ss.sz
  | .nil, _ => rfl
  | .cons s ss, a => by
    have h1 := S.code_len pl s a
    have h2 := Ss.code_len pl ss (a + s.sz)
    simp only [Ss.code, List.length_append, h1, h2, Ss.sz]
end
/-! ### rows of expressions, of statements, taken to a place -/
def Es.take : Es → Nat → Es
  | _, 0 => .nil
  | .nil, _ + 1 => .nil
  | .cons e es, n + 1 => .cons e (es.take n)
def Ss.take : Ss → Nat → Ss
  | _, 0 => .nil
  | .nil, _ + 1 => .nil
  | .cons e es, n + 1 => .cons e (es.take n)
theorem Es.take_next {pl : Plc} : ∀ {es : Es} {i : Nat} {e : E} (a : Nat), es.list[i]? = some e → (es.take (i + 1)).code pl a = (es.take i).code pl a ++ e.code pl (a + (es.take i).sz) ∧ (es.take (i + 1)).sz = (es.take i).sz + e.sz
  | .cons e es, 0, _, a, h => by
    cases h
    constructor
    · show e.code pl a ++ (es.take 0).code pl (a + e.sz) = [] ++ e.code pl (a + 0)
      cases es <;> simp [Es.take, Es.code]
    · show e.sz + (es.take 0).sz = 0 + e.sz
      cases es <;> simp [Es.take, Es.sz]
  | .cons e es, i + 1, f, a, h => by
    have ih := Es.take_next (pl := pl) (es := es) (i := i) (e := f) (a + e.sz) h
    constructor
    · show e.code pl a ++ (es.take (i + 1)).code pl (a + e.sz) = (e.code pl a ++ (es.take i).code pl (a + e.sz)) ++ f.code pl (a + (e.sz + (es.take i).sz))
      rw [ih.1, List.append_assoc, Nat.add_assoc a]
    · show e.sz + (es.take (i + 1)).sz = e.sz + (es.take i).sz + f.sz
      rw [ih.2]
      omega
  | .nil, i, _, _, h => by cases h
theorem Es.take_all : ∀ es : Es, es.take es.list.length = es
  | .nil => rfl
  | .cons e es => congrArg (Es.cons e) (Es.take_all es)
theorem Es.take_sz : ∀ (es : Es) (i : Nat), (es.take i).sz ≤ es.sz
  | es, 0 => by cases es <;> exact Nat.zero_le _
  | .nil, _ + 1 => Nat.le_refl _
  | .cons e es, i + 1 => Nat.add_le_add_left (Es.take_sz es i) _
theorem Ss.take_next {pl : Plc} : ∀ {es : Ss} {i : Nat} {e : S} (a : Nat), es.list[i]? = some e → (es.take (i + 1)).code pl a = (es.take i).code pl a ++ e.code pl (a + (es.take i).sz) ∧ (es.take (i + 1)).sz = (es.take i).sz + e.sz
  | .cons e es, 0, _, a, h => by
    cases h
    constructor
    · show e.code pl a ++ (es.take 0).code pl (a + e.sz) = [] ++ e.code pl (a + 0)
      cases es <;> simp [Ss.take, Ss.code]
    · show e.sz + (es.take 0).sz = 0 + e.sz
      cases es <;> simp [Ss.take, Ss.sz]
  | .cons e es, i + 1, f, a, h => by
    have ih := Ss.take_next (pl := pl) (es := es) (i := i) (e := f) (a + e.sz) h
    constructor
    · show e.code pl a ++ (es.take (i + 1)).code pl (a + e.sz) = (e.code pl a ++ (es.take i).code pl (a + e.sz)) ++ f.code pl (a + (e.sz + (es.take i).sz))
      rw [ih.1, List.append_assoc, Nat.add_assoc a]
    · show e.sz + (es.take (i + 1)).sz = e.sz + (es.take i).sz + f.sz
      rw [ih.2]
      omega
  | .nil, i, _, _, h => by cases h
theorem Ss.take_all : ∀ es : Ss, es.take es.list.length = es
  | .nil => rfl
  | .cons e es => congrArg (Ss.cons e) (Ss.take_all es)
theorem Ss.take_sz : ∀ (es : Ss) (i : Nat), (es.take i).sz ≤ es.sz
  | es, 0 => by cases es <;> exact Nat.zero_le _
  | .nil, _ + 1 => Nat.le_refl _
  | .cons e es, i + 1 => Nat.add_le_add_left (Ss.take_sz es i) _
/-- the parts of a row -/
theorem Es.part : ∀ {es : Es} {e : E}, e ∈ es.list → (es.wf = true → e.wf = true) ∧ (∀ x ∈ e.uses, x ∈ es.uses) ∧ e.dep ≤ es.dep ∧ e.sz ≤ es.sz
  | .cons f fs, e, h => by
    rcases List.mem_cons.mp (show e ∈ f :: fs.list from h) with rfl | h
    · exact ⟨fun w => (Bool.and_eq_true_iff.mp w).1, fun x hx => List.mem_append_left _ hx, Nat.le_max_left _ _, Nat.le_add_right _ _⟩
    · obtain ⟨h1, h2, h3, h4⟩ := Es.part h
      exact ⟨fun w => h1 (Bool.and_eq_true_iff.mp w).2, fun x hx => List.mem_append_right _ (h2 x hx), Nat.le_trans h3 (Nat.le_max_right _ _), Nat.le_trans h4 (Nat.le_add_left _ _)⟩
  | .nil, _, h => by cases h
theorem Ss.part : ∀ {es : Ss} {e : S}, e ∈ es.list → (es.wf = true → e.wf = true) ∧ (∀ x ∈ e.uses, x ∈ es.uses) ∧ e.dep ≤ es.dep ∧ e.sz ≤ es.sz
  | .cons f fs, e, h => by
    rcases List.mem_cons.mp (show e ∈ f :: fs.list from h) with rfl | h
    · exact ⟨fun w => (Bool.and_eq_true_iff.mp w).1, fun x hx => List.mem_append_left _ hx, Nat.le_max_left _ _, Nat.le_add_right _ _⟩
    · obtain ⟨h1, h2, h3, h4⟩ := Ss.part h
      exact ⟨fun w => h1 (Bool.and_eq_true_iff.mp w).2, fun x hx => List.mem_append_right _ (h2 x hx), Nat.le_trans h3 (Nat.le_max_right _ _), Nat.le_trans h4 (Nat.le_add_left _ _)⟩
  | .nil, _, h => by cases h
theorem Rps.at_E {K : PySem.W.Frag} {H : Hp} {vs : List V} {es : Es} {i : Nat} {v : V} (r : Rps K H vs es.ds) (h : vs[i]? = some v) : ∃ e, es.list[i]? = some e ∧ Rp K H v e.d := by
  rw [Es.list_ds] at r
  have hl := r.len
  rw [List.length_map] at hl
  have hi : i < es.list.length := by
    rw [← hl]
    exact (List.getElem?_eq_some_iff.mp h).1
  have e1 : es.list[i]? = some es.list[i] := List.getElem?_eq_getElem hi
  obtain ⟨u, hu, ru⟩ := r.at_ (i := i) (d := es.list[i].d) (by rw [List.getElem?_map, e1]; rfl)
  rw [h] at hu
  cases hu
  exact ⟨_, e1, ru⟩
theorem Rps.at_S {K : PySem.W.Frag} {H : Hp} {vs : List V} {es : Ss} {i : Nat} {v : V} (r : Rps K H vs es.ds) (h : vs[i]? = some v) : ∃ e, es.list[i]? = some e ∧ Rp K H v e.d := by
  rw [Ss.list_ds] at r
  have hl := r.len
  rw [List.length_map] at hl
  have hi : i < es.list.length := by
    rw [← hl]
    exact (List.getElem?_eq_some_iff.mp h).1
  have e1 : es.list[i]? = some es.list[i] := List.getElem?_eq_getElem hi
  obtain ⟨u, hu, ru⟩ := r.at_ (i := i) (d := es.list[i].d) (by rw [List.getElem?_map, e1]; rfl)
  rw [h] at hu
  cases hu
  exact ⟨_, e1, ru⟩
/-- an item of a tuple of data -/
theorem ix_rp {K : PySem.W.Frag} {H : Hp} {x : V} {ds : List PyData} {i : Nat} {d : PyData} {Q : VK} (hx : Rp K H x (.tuple ds)) (hi : ds[i]? = some d) (h : ∀ v, Rp K H v d → Q v H) : rIxT K x (.int (i : Nat)) H Q := by
  obtain ⟨a, xs, rfl, ha, hxs⟩ := hx.tup_inv
  obtain ⟨v, hv, rv⟩ := hxs.at_ hi
  exact ⟨a, xs, _, v, rfl, rfl, ha, atI_nat hv, h v rv⟩
theorem len_rp {K : PySem.W.Frag} {H : Hp} {x : V} {ds : List PyData} (hx : Rp K H x (.tuple ds)) : ∃ a xs, x = .ref a ∧ SqT K H a xs ∧ xs.length = ds.length := by
  obtain ⟨a, xs, rfl, ha, hxs⟩ := hx.tup_inv
  exact ⟨a, xs, rfl, ha, hxs.len⟩
/-- where the names are kept: a dict of places -/
def PlAt (K : PySem.W.Frag) (H : Hp) (nd : Addr) (pl : Plc) (N : List Str) : Prop := ∃ kvs, H nd = some (.dK kvs) ∧ ∀ x ∈ N, (pl x).1.length ≤ 1000 ∧ ∃ v, valV kvs (.inr x : Key) = some v ∧ Rp K H v (.tuple [.str (pl x).1, .int (pl x).2])
theorem PlAt.same {K : PySem.W.Frag} {H H' : Hp} {nd : Addr} {pl : Plc} {N : List Str} (p : PlAt K H nd pl N) (s : Same H H') : PlAt K H' nd pl N := by
  obtain ⟨kvs, h, q⟩ := p
  exact ⟨kvs, s _ _ h, fun x hx => ⟨(q x hx).1, by
    obtain ⟨v, h1, h2⟩ := (q x hx).2
    exact ⟨v, h1, h2.keep (Same.tups s)⟩⟩⟩
end Pt

set_option Elab.async false
set_option linter.all false
set_option maxRecDepth 100000
set_option maxHeartbeats 4000000
/-! Dicts whose keys are tuples of any depth (names of processes, of objects): {}, d[k], d[k] = v, del d[k], k in d, d.get. -/
namespace ND
open PySem PySem.W PySem.Spec PyProof.Rows L2 Pt

/-- tuples stay -/
abbrev TK (K : PySem.W.Frag) (H H' : Hp) : Prop := ∀ c xs, SqT K H c xs → SqT K H' c xs
theorem TK.refl {K : PySem.W.Frag} {H : Hp} : TK K H H := fun _ _ h => h
theorem TK.trans {K : PySem.W.Frag} {H H1 H2 : Hp} (a : TK K H H1) (b : TK K H1 H2) : TK K H H2 := fun c xs h => b c xs (a c xs h)
theorem TK.same {K : PySem.W.Frag} {H H' : Hp} (s : Same H H') : TK K H H' := fun _ _ h => Cm.sameT s h
theorem TK.of {K : PySem.W.Frag} {H H' : Hp} (t : Tups H H') : TK K H H' := fun _ _ h => t.sqt h
/-- what may be written is no tuple -/
theorem TK.upd {K : PySem.W.Frag} {H : Hp} {a : Addr} {o : HO} (m : Mut (H a)) : TK K H (upd H a o) := fun c xs h => by
  rcases h with (h | ⟨u, h⟩) | h
  · refine .inl (.inl ?_)
    rw [upd_ne fun z => by subst z; rw [h] at m; exact m]
    exact h
  · refine .inl (.inr ⟨u, ?_⟩)
    rw [upd_ne fun z => by subst z; rw [h] at m; exact m]
    exact h
  · exact .inr h
mutual
theorem rp_keep {K : PySem.W.Frag} {H H' : Hp} (k : TK K H H') : ∀ {v : V} {d : PyData}, Rp K H v d → Rp K H' v d
  | _, _, .non => .non
  | _, _, .bl b => .bl b
  | _, _, .int i => .int i
  | _, _, .str x => .str x
  | _, _, .tup h r => .tup (k _ _ h) (rps_keep k r)
theorem rps_keep {K : PySem.W.Frag} {H H' : Hp} (k : TK K H H') : ∀ {vs : List V} {ds : List PyData}, Rps K H vs ds → Rps K H' vs ds
  | _, _, .nil => .nil
  | _, _, .cons h r => .cons (rp_keep k h) (rps_keep k r)
end
/-- the value v is the key k -/
def KeyAt (K : PySem.W.Frag) (H : Hp) (v : V) (k : NestedKey) : Prop := Rp K H v k.data ∧ k.depth ≤ 8 ∧ ∃ ks, k = .tup ks
theorem KeyAt.keep {K : PySem.W.Frag} {H H' : Hp} {v : V} {k : NestedKey} (t : TK K H H') (h : KeyAt K H v k) : KeyAt K H' v k := ⟨rp_keep t h.1, h.2⟩
theorem KeyAt.ref {K : PySem.W.Frag} {H : Hp} {v : V} {k : NestedKey} (h : KeyAt K H v k) : ∃ b, v = .ref b := by
  obtain ⟨r, _, ks, rfl⟩ := h
  obtain ⟨a, xs, rfl, _⟩ := r.tup_inv
  exact ⟨a, rfl⟩
section
variable {X : Cx} {pins : List (Addr × Obj)} {σ : L2.St} {H : Hp} {s : Shared}
mutual
theorem is_of (I : Inv X pins σ H s) : ∀ (k : NestedKey) (v : V) (u : Value), Rp X.K H v k.data → RelV v u → NestedIs s.heap k u
  | .none, v, u, r, ru => by
    simp only [NestedKey.data] at r
    cases r
    cases ru
    exact .none
  | .num i, v, u, r, ru => by
    simp only [NestedKey.data] at r
    cases r
    obtain ⟨t, rfl⟩ := ru
    exact .int _ _
  | .text x, v, u, r, ru => by
    simp only [NestedKey.data] at r
    cases r
    obtain ⟨t, rfl⟩ := ru
    exact .text _ _
  | .tup ks, v, u, r, ru => by
    simp only [NestedKey.data] at r
    obtain ⟨a, vs, rfl, ha, hvs⟩ := r.tup_inv
    cases ru
    obtain ⟨its, rv, ⟨o, ho, hc, n, hd⟩, hz⟩ := I.tuple ha
    exact .tup ho hc hd (by simpa using all_of I ks vs its hvs rv)
theorem all_of (I : Inv X pins σ H s) : ∀ (ks : List NestedKey) (vs : List V) (us : List Value), Rps X.K H vs (NestedKey.datas ks) → Vals vs us → NestedAll s.heap ks us
  | [], vs, us, r, ru => by
    simp only [NestedKey.datas] at r
    cases r
    cases ru
    exact .nil
  | k :: ks, vs, us, r, ru => by
    simp only [NestedKey.datas] at r
    cases r with
    | cons h t =>
      cases ru with
      | cons h' t' => exact .cons (is_of I k _ _ h h') (all_of I ks _ _ t t')
end
theorem key_of (I : Inv X pins σ H s) {b : Addr} {k : NestedKey} (h : KeyAt X.K H (.ref b) k) : (nestedKind X.prog X.w).is s.heap k b := ⟨is_of I k _ _ h.1 rfl, h.2.1⟩
end

/-- the dict at a holds xs -/
def ndO (P : Program) (w : World) (xs : List (NestedKey × Addr × Value)) (a : Addr) : HO := .ext fun h => (a == sysModules) = false ∧ xs.length ≤ sizeLine ∧
  ∃ o es ep, h.get? a = some o ∧ o.ExactDict ∧ o.data = .dict es ep ∧ es.toList = xs.map (entryOfKey (nestedKind P w)) ∧ (xs.map (·.1)).Nodup
abbrev KN (K : PySem.W.Frag) (H : Hp) : List (NestedKey × V) → List (NestedKey × Addr × Value) → Prop := Paired fun p q => p.1 = q.1 ∧ KeyAt K H (.ref q.2.1) p.1 ∧ RelV p.2 q.2.2
/-- at a stands a dict with these entries -/
def NDct (P : Program) (w : World) (K : PySem.W.Frag) (H : Hp) (a : Addr) (kvs : List (NestedKey × V)) : Prop := ∃ xs, H a = some (ndO P w xs a) ∧ KN K H kvs xs
section
variable {P : Program} {w : World} {K : PySem.W.Frag} {H H' : Hp} {a : Addr} {kvs : List (NestedKey × V)}
theorem KN.keep (t : TK K H H') {xs : List (NestedKey × Addr × Value)} (h : KN K H kvs xs) : KN K H' kvs xs := Paired.mapP h fun _ _ z => ⟨z.1, z.2.1.keep t, z.2.2⟩
theorem NDct.keep (t : TK K H H') (e : H' a = H a) (h : NDct P w K H a kvs) : NDct P w K H' a kvs := by
  obtain ⟨xs, h1, h2⟩ := h
  exact ⟨xs, e.trans h1, KN.keep t h2⟩
theorem NDct.same (t : Same H H') (h : NDct P w K H a kvs) : NDct P w K H' a kvs := by
  obtain ⟨xs, h1, h2⟩ := h
  exact ⟨xs, t _ _ h1, KN.keep (TK.same t) h2⟩
theorem NDct.some (h : NDct P w K H a kvs) : ∃ o, H a = some o ∧ (∀ xs, o ≠ .lst xs) ∧ (∀ xs, o ≠ .tup xs) ∧ Mut (H a) := by
  obtain ⟨xs, h1, h2⟩ := h
  exact ⟨_, h1, (fun _ z => nomatch z), (fun _ z => nomatch z), by rw [h1]; exact True.intro⟩
theorem KN.val {xs : List (NestedKey × Addr × Value)} (r : KN K H kvs xs) (k : NestedKey) : RelO (valV kvs k) ((atKey xs k).map (·.2)) := by
  induction r with
  | nil => exact True.intro
  | @cons p q ps qs h t ih =>
    obtain ⟨h1, _, h2⟩ := h
    by_cases e : p.1 = k
    · have e' : q.1 = k := h1.symm.trans e
      have b : atKey (q :: qs) k = some q.2 := by simp [atKey, List.find?_cons, e']
      rw [valV_pos e, b]; exact h2
    · have e' : ¬ q.1 = k := fun z => e (h1.trans z)
      have b : atKey (q :: qs) k = atKey qs k := by simp [atKey, List.find?_cons, e']
      rw [valV_neg e, b]; exact ih
theorem KN.repl {xs : List (NestedKey × Addr × Value)} (r : KN K H kvs xs) (k : NestedKey) {y : V} {u : Value} (ry : RelV y u) :
    KN K H (kvs.map fun kv => if kv.1 = k then (kv.1, y) else kv) (xs.map (putAt k u)) := by
  induction r with
  | nil => exact .nil
  | @cons p q ps qs h t ih =>
    rw [List.map_cons, List.map_cons]
    refine .cons ?_ ih
    obtain ⟨h1, h2, h3⟩ := h
    unfold putAt
    by_cases e : p.1 = k
    · rw [if_pos e, if_pos (h1.symm.trans e)]; exact ⟨h1, h2, ry⟩
    · rw [if_neg e, if_neg (fun z => e (h1.trans z))]; exact ⟨h1, h2, h3⟩
theorem KN.put {xs : List (NestedKey × Addr × Value)} (r : KN K H kvs xs) (k : NestedKey) {b : Addr} {y : V} {u : Value} (hb : KeyAt K H (.ref b) k) (ry : RelV y u) :
    KN K H (putK kvs k y) (storedH xs k b u) := by
  have e : (kvs.any fun kv => decide (kv.1 = k)) = (atKey xs k).isSome := by
    rw [valV_any, (r.val k).isSome_eq, Option.isSome_map]
  unfold putK storedH
  rw [e]
  by_cases q : (atKey xs k).isSome = true
  · rw [if_pos q, if_pos q]; exact r.repl k ry
  · rw [if_neg q, if_neg q]; exact Paired.snoc r ⟨rfl, hb, ry⟩
theorem KN.drop {xs : List (NestedKey × Addr × Value)} (r : KN K H kvs xs) (k : NestedKey) : KN K H (dropK kvs k) (withoutH xs k) := by
  induction r with
  | nil => exact .nil
  | @cons p q ps qs h t ih =>
    obtain ⟨h1, h2, h3⟩ := h
    unfold dropK withoutH at ih ⊢
    rw [List.filter_cons, List.filter_cons]
    by_cases e : p.1 = k
    · have e' : q.1 = k := h1.symm.trans e
      simp only [e, e', decide_true, Bool.not_true, ne_eq, not_true_eq_false, decide_false, Bool.false_eq_true, if_false]
      exact ih
    · have e' : ¬ q.1 = k := fun z => e (h1.trans z)
      simp only [e, e', decide_false, Bool.not_false, ne_eq, not_false_eq_true, decide_true, if_true]
      exact .cons ⟨h1, h2, h3⟩ ih
end

section
variable {X : Cx} {pins : List (Addr × Obj)} {σ : L2.St} {H : Hp} {s : Shared} {a b : Addr} {v : V} {u r : Value} {k : NestedKey} {kvs : List (NestedKey × V)} {A : Around} {E : Value → Shared → Prop}
theorem nd_of (I : Inv X pins σ H s) (g : NDct X.prog X.w X.K H a kvs) : kvs.length ≤ sizeLine ∧ (a == sysModules) = false ∧ ∃ xs, H a = some (ndO X.prog X.w xs a) ∧ KN X.K H kvs xs ∧ s.heap.DictOfH (nestedKind X.prog X.w) a xs := by
  obtain ⟨xs, e, r⟩ := g
  obtain ⟨⟨hd, hz, o, es, ep, h1, h2, h3, h4, h5⟩, _⟩ := (show ObjOk X.prog X.w H s.heap a (ndO X.prog X.w xs a) from I.hok a _ e)
  refine ⟨by rw [Paired.length r]; exact hz, hd, xs, e, r, o, es, ep, h1, h2, h3, h4, fun x hx => ?_, h5⟩
  have all : ∀ {l : List (NestedKey × V)} {m : List (NestedKey × Addr × Value)}, KN X.K H l m → ∀ x ∈ m, (nestedKind X.prog X.w).is s.heap x.1 x.2.1 := by
    intro l m q
    induction q with
    | nil => intro x hx; exact nomatch hx
    | @cons p q ps qs hq t ih =>
      intro x hx
      rcases List.mem_cons.mp hx with e | hx
      · subst e
        exact key_of I (by rw [← hq.1]; exact hq.2.1)
      · exact ih x hx
  exact all r x hx
theorem nd_ok {P : Program} {w : World} {H' : Hp} {h' : Heap} {xs : List (NestedKey × Addr × Value)} (hd : (a == sysModules) = false) (hz : xs.length ≤ sizeLine) (dd : h'.DictOfH (nestedKind P w) a xs) :
    ObjOk P w H' h' a (ndO P w xs a) := by
  obtain ⟨o, es, ep, h1, h2, h3, h4, _, h5⟩ := dd
  exact ⟨⟨hd, hz, o, es, ep, h1, h2, h3, h4, h5⟩, ⟨o, h1⟩, fun g1 g2 ⟨q1, q2, o', es', ep', p1, p⟩ k => ⟨q1, q2, o', es', ep', k _ p1, p⟩⟩
theorem nd_type (I : Inv X pins σ H s) (g : NDct X.prog X.w X.K H a kvs) : s.TypeIs (.ref a) "dict" ∧ (∀ b, Value.ref a = .ref b → ∃ ob, s.heap.get? b = some ob ∧ ob.dict = none) := by
  obtain ⟨_, _, xs, _, _, dd⟩ := nd_of I g
  refine ⟨dd.typeIs, fun b q => ?_⟩
  cases q
  obtain ⟨ob, _, _, h1, h2, _⟩ := dd
  exact ⟨ob, h1, h2.2.1⟩
theorem nd_getItem {Q : Value → Shared → Prop} (hu : A.units + 9 < cLine) (I : Inv X pins σ H s) (g : NDct X.prog X.w X.K H a kvs) (ky : KeyAt X.K H (.ref b) k) (l : valV kvs k = some v) (h : ∀ w' s', Inv X pins σ H s' → RelV v w' → Q w' s') :
    wpAny (model X.prog X.w) A (getItem (.ref a) (.ref b)) Q E s := by
  obtain ⟨_, _, xs, _, rel, dd⟩ := nd_of I g
  obtain ⟨w', hw, rw'⟩ := RelO.some_of (v := v) (o := (atKey xs k).map (·.2)) (by rw [← l]; exact rel.val k)
  obtain ⟨p, hp, hp2⟩ := Option.map_eq_some_iff.mp hw
  refine wpAny_getItem_heap (show A.in1.units + 8 < cLine by rw [Around.in1_units]; omega) (key_of I ky) dd hp ?_
  rw [hp2]
  exact h w' _ (I.tok _) rw'
theorem nd_in {Q : Value → Shared → Prop} (hu : A.units + 9 < cLine) (I : Inv X pins σ H s) (g : NDct X.prog X.w X.K H a kvs) (ky : KeyAt X.K H (.ref b) k) (h : ∀ s', Inv X pins σ H s' → Q (.bool (valV kvs k).isSome) s') :
    wpAny (model X.prog X.w) A (compareOp .In (.ref b) (.ref a)) Q E s := by
  obtain ⟨_, hd, xs, _, rel, dd⟩ := nd_of I g
  refine wpAny_in_heap (show A.in1.units + 8 < cLine by rw [Around.in1_units]; omega) (key_of I ky) hd dd ?_
  have q := (rel.val k).isSome_eq
  rw [Option.isSome_map] at q
  rw [← q]
  exact h _ (I.tok _)
theorem nd_notIn {Q : Value → Shared → Prop} (hu : A.units + 9 < cLine) (I : Inv X pins σ H s) (g : NDct X.prog X.w X.K H a kvs) (ky : KeyAt X.K H (.ref b) k) (h : ∀ s', Inv X pins σ H s' → Q (.bool (!(valV kvs k).isSome)) s') :
    wpAny (model X.prog X.w) A (compareOp .NotIn (.ref b) (.ref a)) Q E s := by
  obtain ⟨_, hd, xs, _, rel, dd⟩ := nd_of I g
  refine wpAny_notIn_heap (show A.in1.units + 8 < cLine by rw [Around.in1_units]; omega) (key_of I ky) hd dd ?_
  have q := (rel.val k).isSome_eq
  rw [Option.isSome_map] at q
  rw [← q]
  exact h _ (I.tok _)
theorem nd_get1 {Q : Value → Shared → Prop} (hu : A.units + 9 < cLine) (I : Inv X pins σ H s) (g : NDct X.prog X.w X.K H a kvs) (ky : KeyAt X.K H (.ref b) k) (h : ∀ w' s', Inv X pins σ H s' → RelV ((valV kvs k).getD .non) w' → Q w' s') :
    wpAny (model X.prog X.w) A (call (.builtin "dict.get") [.ref a, .ref b]) Q E s := by
  obtain ⟨_, hd, xs, _, rel, dd⟩ := nd_of I g
  refine call_meetsIn PySem.F.slot_dict_get dd.typeIs PySem.F.entry_dict_get (PySem.F.args_dict_get_2 _ _) (meetsH_dict_get (nestedKind X.prog X.w) a b hd) ⟨show A.in1.units + 8 < cLine by rw [Around.in1_units]; omega, k, xs, key_of I ky, dd, h _ _ (I.tok _) ?_⟩
  exact (rel.val k).getD rfl
theorem nd_get2 {d : V} {Q : Value → Shared → Prop} (hu : A.units + 9 < cLine) (I : Inv X pins σ H s) (g : NDct X.prog X.w X.K H a kvs) (ky : KeyAt X.K H (.ref b) k) (rd : RelV d r) (h : ∀ w' s', Inv X pins σ H s' → RelV ((valV kvs k).getD d) w' → Q w' s') :
    wpAny (model X.prog X.w) A (call (.builtin "dict.get") [.ref a, .ref b, r]) Q E s := by
  obtain ⟨_, hd, xs, _, rel, dd⟩ := nd_of I g
  refine call_meetsIn PySem.F.slot_dict_get dd.typeIs PySem.F.entry_dict_get (PySem.F.args_dict_get_3 _ _ _) (meetsH_dict_get_default (nestedKind X.prog X.w) a b hd r) ⟨show A.in1.units + 8 < cLine by rw [Around.in1_units]; omega, k, xs, key_of I ky, dd, h _ _ (I.tok _) ?_⟩
  exact (rel.val k).getD rd
/-- d[k] = v -/
theorem nd_setItem {Q : Unit → Shared → Prop} (hu : A.units + 9 < cLine) (I : Inv X pins σ H s) (g : NDct X.prog X.w X.K H a kvs) (ky : KeyAt X.K H (.ref b) k) (hl : kvs.length < sizeLine) (rv : RelV v r)
    (h : ∀ o s', NDct X.prog X.w X.K (upd H a o) a (putK kvs k v) → Inv X pins σ (upd H a o) s' → Q () s') :
    wpAny (model X.prog X.w) A (setItem (.ref a) (.ref b) r) Q E s := by
  obtain ⟨_, hd, xs, e, rel, dd⟩ := nd_of I g
  have hz : xs.length ≤ sizeLine := by rw [← Paired.length rel]; omega
  refine wpAny_setItem_heap (hsz := hz) (show A.in1.units + 8 < cLine by rw [Around.in1_units]; omega) (key_of I ky) dd fun h' dd' hs => ?_
  have rel' := rel.put k ky rv
  have hz' : (storedH xs k b r).length ≤ sizeLine := by
    rw [← Paired.length rel']
    have := length_putK kvs k v
    omega
  have he : ∃ q, h'.get? a = some q := let ⟨q, _, _, hq, _⟩ := dd'; ⟨q, hq⟩
  exact h (ndO X.prog X.w (storedH xs k b r) a) _ ⟨_, upd_same, KN.keep (TK.upd (H := H) (a := a) (by rw [e]; exact True.intro)) rel'⟩ (d_write I (by rw [e]; exact True.intro) hs he (nd_ok hd hz' dd'))
/-- del d[k] -/
theorem nd_delItem {Q : Unit → Shared → Prop} (hu : A.units + 9 < cLine) (I : Inv X pins σ H s) (g : NDct X.prog X.w X.K H a kvs) (ky : KeyAt X.K H (.ref b) k) (l : (valV kvs k).isSome = true)
    (h : ∀ o s', NDct X.prog X.w X.K (upd H a o) a (dropK kvs k) → Inv X pins σ (upd H a o) s' → Q () s') :
    wpAny (model X.prog X.w) A (delItem (.ref a) (.ref b)) Q E s := by
  obtain ⟨hl, hd, xs, e, rel, dd⟩ := nd_of I g
  have hz : xs.length ≤ sizeLine := by rw [← Paired.length rel]; exact hl
  have q := (rel.val k).isSome_eq
  rw [Option.isSome_map, l] at q
  obtain ⟨p, hp⟩ := Option.isSome_iff_exists.mp q.symm
  refine wpAny_delItem_heap (hsz := hz) (show A.in1.units + 8 < cLine by rw [Around.in1_units]; omega) (key_of I ky) hd dd hp fun h' dd' hs => ?_
  have rel' := rel.drop k
  have hz' : (withoutH xs k).length ≤ sizeLine := Nat.le_trans (by unfold withoutH; exact List.length_filter_le _ _) hz
  have he : ∃ q, h'.get? a = some q := let ⟨q, _, _, hq, _⟩ := dd'; ⟨q, hq⟩
  exact h (ndO X.prog X.w (withoutH xs k) a) _ ⟨_, upd_same, KN.keep (TK.upd (H := H) (a := a) (by rw [e]; exact True.intro)) rel'⟩ (d_write I (by rw [e]; exact True.intro) hs he (nd_ok hd hz' dd'))
end

/-! ### readings and rules -/
section
variable (P : Program) (w : World) (K : PySem.W.Frag)
/-- {} -/
def tNNew : TE := fun _ H Q => ∀ p o, H p = none → NDct P w K (upd H p o) p [] → Q (.ref p) (upd H p o)
/-- d[y] -/
def tNGet (td ty : TE) : TE := fun σ H Q => td σ H fun x H1 => ty σ H1 fun y H2 => ∃ a kvs k v, x = .ref a ∧ NDct P w K H2 a kvs ∧ KeyAt K H2 y k ∧ valV kvs k = some v ∧ Q v H2
/-- y in d, y not in d -/
def tNIn (neg : Bool) (ty td : TE) : TE := fun σ H Q => ty σ H fun y H1 => td σ H1 fun x H2 => ∃ a kvs k, x = .ref a ∧ NDct P w K H2 a kvs ∧ KeyAt K H2 y k ∧ Q (.bl (if neg then !(valV kvs k).isSome else (valV kvs k).isSome)) H2
/-- d.get(y), d.get(y, z) -/
def tNGet1 (td ty : TE) : TE := fun σ H Q => td σ H fun x H1 => ∃ a kvs, x = .ref a ∧ NDct P w K H1 a kvs ∧ ty σ H1 fun y H2 => ∃ kvs k, NDct P w K H2 a kvs ∧ KeyAt K H2 y k ∧ Q ((valV kvs k).getD .non) H2
def tNGet2 (td ty tz : TE) : TE := fun σ H Q => td σ H fun x H1 => ∃ a kvs, x = .ref a ∧ NDct P w K H1 a kvs ∧ ty σ H1 fun y H2 => tz σ H2 fun z H3 => ∃ kvs k, NDct P w K H3 a kvs ∧ KeyAt K H3 y k ∧ Q ((valV kvs k).getD z) H3
/-- d[y] = v -/
def sNPut (td ty tv : TE) : TS := fun D σ H => tv σ H fun v H1 => td σ H1 fun x H2 => ty σ H2 fun y H3 => ∃ a kvs k, x = .ref a ∧ NDct P w K H3 a kvs ∧ KeyAt K H3 y k ∧ kvs.length < sizeLine ∧
  ∀ o, NDct P w K (upd H3 a o) a (putK kvs k v) → D.nx σ (upd H3 a o)
/-- del d[y] -/
def sNDel (td ty : TE) : TS := fun D σ H => td σ H fun x H1 => ty σ H1 fun y H2 => ∃ a kvs k, x = .ref a ∧ NDct P w K H2 a kvs ∧ KeyAt K H2 y k ∧ (valV kvs k).isSome = true ∧
  ∀ o, NDct P w K (upd H2 a o) a (dropK kvs k) → D.nx σ (upd H2 a o)
end
section
variable {X : Cx} {o i e f value : Expr} {pos pos' tpos apos cpos : Pos} {td ty tv tz : TE}
theorem pe_nnew : PE X (.Dict [] [] pos) (tNNew X.prog X.w X.K) := ⟨fun pins s σ H Q I h => by
  have hb := I.big
  have ok : ObjOk X.prog X.w (upd H s.heap.objs.size (ndO X.prog X.w [] s.heap.objs.size)) (s.heap.push { cls := .type "dict", data := .dict #[] }) s.heap.objs.size (ndO X.prog X.w [] s.heap.objs.size) :=
    nd_ok (beq_eq_false_iff_ne.mpr (Ne.symm (Nat.ne_of_lt hb))) (Nat.zero_le _) ⟨_, #[], 0, Heap.get?_push_size _ rfl, ⟨rfl, rfl, rfl⟩, rfl, rfl, (fun x hx => nomatch hx), List.nodup_nil⟩
  exact wpAny_Dict_empty ⟨.ref s.heap.objs.size, _, I.laid (a := s.heap.objs.size) (o := ndO X.prog X.w [] s.heap.objs.size) (t' := s.toks) (fun _ _ q => Heap.get?_push_of_some _ q) (Nat.le_refl _) ok, rfl, h _ _ (I.hok.fresh (Nat.le_refl _)) ⟨[], upd_same, .nil⟩⟩⟩
theorem pe_nget (hu : X.A.units + 9 < cLine) (ho : PE X o td) (hi : PE X i ty) (hs : NoSl i) : PE X (.Subscript o i pos) (tNGet X.prog X.w X.K td ty) := by
  refine ⟨fun pins s σ H Q I h => ?_⟩
  refine subD_of PySem.F.slot_dict_getitem.lookup hs (thn (ho.run pins s σ H _ I h) fun u s1 ⟨x, H1, I1, rx, q1⟩ => thn (hi.run pins s1 σ H1 _ I1 q1) fun iv s2 ⟨y, H2, I2, ry, a, kvs, k, v, ex, g, ky, l, q2⟩ => ?_)
  subst ex
  obtain rfl : u = Value.ref a := rx
  obtain ⟨b, rfl⟩ := ky.ref
  obtain rfl : iv = Value.ref b := ry
  exact ⟨(nd_type I2 g).1, nd_getItem hu I2 g ky l fun w' s3 I3 rw' => ⟨v, H2, I3, rw', q2⟩⟩
theorem pc_nin (hu : X.A.units + 9 < cLine) (hi : PE X i ty) (ho : PE X o td) : PC X .In i o (tNIn X.prog X.w X.K false ty td) := by
  refine ⟨fun pins s σ H Q I h => ?_⟩
  refine thn (hi.run pins s σ H _ I h) fun iv s1 ⟨y, H1, I1, ry, q1⟩ => thn (ho.run pins s1 σ H1 _ I1 q1) fun u s2 ⟨x, H2, I2, rx, a, kvs, k, ex, g, ky, q2⟩ => ?_
  subst ex
  obtain rfl : u = Value.ref a := rx
  obtain ⟨b, rfl⟩ := ky.ref
  obtain rfl : iv = Value.ref b := ry
  exact nd_in hu I2 g ky fun s3 I3 => ⟨.bl (valV kvs k).isSome, H2, I3, rfl, q2⟩
theorem pc_nnotin (hu : X.A.units + 9 < cLine) (hi : PE X i ty) (ho : PE X o td) : PC X .NotIn i o (tNIn X.prog X.w X.K true ty td) := by
  refine ⟨fun pins s σ H Q I h => ?_⟩
  refine thn (hi.run pins s σ H _ I h) fun iv s1 ⟨y, H1, I1, ry, q1⟩ => thn (ho.run pins s1 σ H1 _ I1 q1) fun u s2 ⟨x, H2, I2, rx, a, kvs, k, ex, g, ky, q2⟩ => ?_
  subst ex
  obtain rfl : u = Value.ref a := rx
  obtain ⟨b, rfl⟩ := ky.ref
  obtain rfl : iv = Value.ref b := ry
  exact nd_notIn hu I2 g ky fun s3 I3 => ⟨.bl (!(valV kvs k).isSome), H2, I3, rfl, q2⟩
theorem ps_nput (hu : X.A.units + 9 < cLine) (ho : PE X o td) (hi : PE X i ty) (hv : PE X value tv) (hs : swapsWith value (some (.Subscript o i pos')) pos.line X.env = pure false) :
    PS X (.Assign [.Subscript o i pos'] value pos) (sNPut X.prog X.w X.K td ty tv) := by
  refine ⟨fun pins s σ H D I h => ?_⟩
  refine wpAny_Assign_Subscript (thn (hv.run pins s σ H _ I h) fun r s1 ⟨v, H1, I1, rv, q1⟩ => thn (ho.run pins s1 σ H1 _ I1 q1) fun u s2 ⟨x, H2, I2, rx, q2⟩ => thn (hi.run pins s2 σ H2 _ I2 q2) fun iv s3 ⟨y, H3, I3, ry, a, kvs, k, ex, g, ky, hl, q3⟩ => ?_) hs
  subst ex
  obtain rfl : u = Value.ref a := rx
  obtain ⟨b, rfl⟩ := ky.ref
  obtain rfl : iv = Value.ref b := ry
  exact nd_setItem hu I3 g ky hl rv fun o s4 g4 I4 => ⟨σ, _, I4, q3 o g4⟩
theorem ps_ndel (hu : X.A.units + 9 < cLine) (ho : PE X o td) (hi : PE X i ty) : PS X (.Delete [.Subscript o i tpos] pos) (sNDel X.prog X.w X.K td ty) := by
  refine ⟨fun pins s σ H D I h => ?_⟩
  refine wpAny_Delete (wpAny_deleteEach_cons (wpAny_delete_Subscript (thn (ho.run pins s σ H _ I h) fun u s1 ⟨x, H1, I1, rx, q1⟩ => thn (hi.run pins s1 σ H1 _ I1 q1) fun iv s2 ⟨y, H2, I2, ry, a, kvs, k, ex, g, ky, l, q2⟩ => ?_)))
  subst ex
  obtain rfl : u = Value.ref a := rx
  obtain ⟨b, rfl⟩ := ky.ref
  obtain rfl : iv = Value.ref b := ry
  exact nd_delItem hu I2 g ky l fun o s3 g3 I3 => wpAny_deleteEach_nil ⟨σ, _, I3, q2 o g3⟩
theorem pe_nget1 (hu : X.A.units + 9 < cLine) (ho : PE X o td) (he : PE X e ty) (m : M1 X o "get" apos e cpos) : PE X (.Call (.Attribute o "get" apos) [e] [] cpos) (tNGet1 X.prog X.w X.K td ty) := by
  refine ⟨fun pins s σ H Q I h => ?_⟩
  refine wpAny_Call_method m.base m.few m.line PySem.F.plainAttrs_dict PySem.F.slot_dict_get PySem.F.type_dict_get (thn (ho.run pins s σ H _ I h) fun u s1 ⟨x, H1, I1, rx, a, kvs0, ex, d, q1⟩ => ?_)
  subst ex
  obtain rfl : u = Value.ref a := rx
  obtain ⟨t1, t2⟩ := nd_type I1 d
  refine ⟨t1, t2, ?_⟩
  rw [m.trees]
  refine Calls.callWith_builtin rfl (Calls.evalArgs_plain (Calls.spliced_cons (thn (he.run pins s1 σ H1 _ I1 q1) fun iv s2 ⟨y, H2, I2, ry, kvs, k, g, ky, q2⟩ => Calls.spliced_nil ?_)))
  obtain ⟨b, rfl⟩ := ky.ref
  obtain rfl : iv = Value.ref b := ry
  exact nd_get1 hu I2 g ky fun w' s3 I3 rw' => ⟨_, H2, I3, rw', q2⟩
theorem pe_nget2 (hu : X.A.units + 9 < cLine) (ho : PE X o td) (he : PE X e ty) (hf : PE X f tz) (m : M2 X o "get" apos e f cpos) : PE X (.Call (.Attribute o "get" apos) [e, f] [] cpos) (tNGet2 X.prog X.w X.K td ty tz) := by
  refine ⟨fun pins s σ H Q I h => ?_⟩
  refine wpAny_Call_method m.base m.few m.line PySem.F.plainAttrs_dict PySem.F.slot_dict_get PySem.F.type_dict_get (thn (ho.run pins s σ H _ I h) fun u s1 ⟨x, H1, I1, rx, a, kvs0, ex, d, q1⟩ => ?_)
  subst ex
  obtain rfl : u = Value.ref a := rx
  obtain ⟨t1, t2⟩ := nd_type I1 d
  refine ⟨t1, t2, ?_⟩
  rw [m.trees]
  refine Calls.callWith_builtin rfl (Calls.evalArgs_plain (Calls.spliced_cons (thn (he.run pins s1 σ H1 _ I1 q1) fun iv s2 ⟨y, H2, I2, ry, q2⟩ =>
    Calls.spliced_cons (thn (hf.run pins s2 σ H2 _ I2 q2) fun fv s3 ⟨z, H3, I3, rz, kvs, k, g, ky, q3⟩ => Calls.spliced_nil ?_))))
  obtain ⟨b, rfl⟩ := ky.ref
  obtain rfl : iv = Value.ref b := ry
  exact nd_get2 hu I3 g ky rz fun w' s4 I4 rw' => ⟨_, H3, I4, rw', q3⟩
end
theorem nu_of {A : Around} {k : Nat} (hr : Room k A) : A.units + 9 < cLine := Nat.lt_of_le_of_lt (Nat.add_le_add_left (by decide : 9 ≤ 64) _) hr.units
end ND

set_option Elab.async false
set_option linter.all false
set_option maxRecDepth 100000
set_option maxHeartbeats 4000000
/-! sum(t), t a tuple of ints -/
namespace SumT
open PySem PySem.W PySem.Calls PyProof.Rows PyProof.V PySem.Spec L2
section
variable {X : Cx}
def rSumT (K : PySem.W.Frag) : List V → Hp → VK → Prop := fun vs H Q => ∃ (a : Addr) (ns : List Int), vs = [V.ref a] ∧ SqT K H a (ns.map V.int) ∧ Q (.int ns.sum) H
theorem cr_sumT (hc : X.calm = true) : CallR X (.builtin "sum") (rSumT X.K) := by
  intro pins s σ H vs us Q I r h
  obtain ⟨a, ns, rfl, hs, q⟩ := h
  obtain ⟨its, rv, pl, hz⟩ := I.tuple hs
  rw [Vals.ref1 r]
  obtain ⟨xs, e⟩ := rv.ints.allInts.items
  have hn : numsOf (intItems xs).toList = ns := by rw [← e]; exact rv.ints.numsOf
  rw [nums_intItems] at hn
  rw [e] at pl
  refine ktm_sumG (I.ok.hd hc) pl fun h' tk t' hk => ⟨.int _, H, I.kept hk, ⟨_, by rw [preSum_eq, List.take_of_length_le (by simp), hn]⟩, q⟩
end
end SumT

set_option Elab.async false
set_option linter.all false
set_option maxRecDepth 100000
set_option maxHeartbeats 4000000
/-! Rules whose readings name K, for the inside of comprehensions. -/
namespace Nst
open PySem PySem.Spec PyProof.Rows L2
def rLen (K : PySem.W.Frag) : List V → Hp → VK → Prop := fun xs H Q => ∃ p ys, xs = [V.ref p] ∧ (SqL K H p ys ∨ SqT K H p ys) ∧ Q (.int ys.length) H
theorem len_seq {X : Cx} (K : PySem.W.Frag) (h : X.K = K) : CallR X (.builtin "len") (rLen K) := by
  subst h
  exact call_len_seq
def rTupOf (K : PySem.W.Frag) : List V → Hp → VK → Prop := fun xs H Q => ∃ p ys, xs = [.ref p] ∧ ((SqL K H p ys ∧ ∀ l, H l = none → Q (.ref l) (upd H l (.tup ys))) ∨ (SqT K H p ys ∧ Q (.ref p) H))
theorem tuple_of {X : Cx} (K : PySem.W.Frag) (h : X.K = K) : CallR X (.type "tuple") (rTupOf K) := by
  subst h
  exact call_tuple_of
theorem at_item {xs : List V} {i : Int} (h0 : 0 ≤ i) (h1 : i < (xs.length : Int)) : ∃ y, xs[i.toNat]? = some y ∧ atI xs i = some y := by
  obtain ⟨j, rfl⟩ := Int.eq_ofNat_of_zero_le h0
  have h2 : j < xs.length := by omega
  exact ⟨xs[j], by rw [Int.toNat_natCast]; exact List.getElem?_eq_getElem h2, atI_nat (List.getElem?_eq_getElem h2)⟩
/-- tuple + tuple, whatever they hold -/
theorem cat_sq {K : PySem.W.Frag} {H : Hp} {a b : Addr} {xs ys : List V} {Q : VK} (ha : SqT K H a xs) (hb : SqT K H b ys) (hl : xs.length + ys.length ≤ 100000) (h : ∀ (r : Addr) (H' : Hp), Same H H' → SqT K H' r (xs ++ ys) → Q (.ref r) H') : rCatA K (.ref a) (.ref b) H Q := by
  refine ⟨a, b, xs, ys, rfl, rfl, ha, hb, Cm.small hl, fun e => ?_, fun _ e => ?_, fun _ _ p np => ?_⟩
  · subst e
    exact h b H (Same.refl H) hb
  · subst e
    exact h a H (Same.refl H) (by rw [List.append_nil]; exact ha)
  · exact h p _ (Cm.same_new np) Cm.sqt_new
theorem shaped_of {d : PyData} (h1 : d.canLay0 = true) (h2 : d.depth ≤ 64) : SeqAt.shaped d = true := by
  show (d.canLay0 && decide (d.depth ≤ 64)) = true
  rw [Bool.and_eq_true]
  exact ⟨h1, decide_eq_true h2⟩
theorem eqv_self {d : PyData} (h : SeqAt.shaped d = true) : PyData.eqv d d = true := SeqAt.eqv_refl _ (SeqAt.canLay_of_shaped h)
/-- a tuple of a text and two numbers -/
theorem shaped_w2 {x : Str} (h : PyData.strOk x = true) (i j : Int) : SeqAt.shaped (.tuple [.str x, .int i, .int j]) = true :=
  shaped_of (by simp [PyData.canLay0, PyData.canLayAll0, h]) (by simp [PyData.depth, PyData.depthAll])
end Nst

set_option Elab.async false
set_option linter.all false
set_option maxRecDepth 100000
set_option maxHeartbeats 4000000
/-! Calls of methods that may raise: within a try (pe_methT), and where it is known that nothing is raised (passF). -/
namespace MethT
open PySem PySem.Spec PyProof.Rows L2
theorem passF {X : Cx} : Passes (L2.CX X.prog X.w) X E0 := fun _ _ _ _ _ _ _ h => by
  obtain ⟨_, _, _, _, _, _, _, _, _, _, _, _, e⟩ := h
  exact e.elim
section
variable {X : Cx} {CX : CXT} {k : Nat} {f C : Addr} {fd : FuncData} {ps : List Str} {sp : Sp} {E : L2.St → XK} {x m : Str} {p pos apos : Pos} {e o : Expr} {es : List Expr} {ta : TE} {t : TA}
def tMethT (C : Addr) (m : Str) (sp : Sp) (E : L2.St → XK) (ta : TE) (t : TA) : TE := fun σ H Q => ta σ H fun x H1 => ∃ a dx fs, x = .ref a ∧ H1 a = some (.ins C dx fs) ∧ fs.lookup m = none ∧ t σ H1 fun vs H2 => sp (x :: vs) H2 Q (E σ)
theorem pe_methT {pl : Sem Bool} (he : PE X o ta) (c : Cls X.K C) (hm : Meth X.K C m f) (F : FnOk X.prog X.w X.K X.mg X.base CX k f fd ps sp) (hr : Room k X.A) (hb : Binds X.K fd ps []) (hx : ∀ σ, PassesAt CX X σ (E σ)) (ha : PA X (e :: es) t)
    (hst : starEach (e :: es) X.env = (false, eval e X.env) :: starEach es X.env := by rfl) (hpl : (backTo pos (starEach es X.env)).any (·.1) = false := by rfl)
    (ht : eval (.Call (.Attribute o m apos) (e :: es) [] pos) X.env = (do
      let ov ← eval o X.env
      standAt apos.atName
      let (f, first) ← holding [ov] (getMethod ov m pl)
      callWith pos f first (backTo pos (starEach (e :: es) X.env)) (backToKw pos (keywordEach [] X.env))) := by rfl) :
    PE X (.Call (.Attribute o m apos) (e :: es) [] pos) (tMethT C m sp E ta t) := by
  refine ⟨fun pins s σ H Q I h => ?_⟩
  refine PySem.W.methodCall_KW (pl := pl) (thn (he.run pins s σ H _ I h) fun u s1 ⟨x, H1, I1, rx, a, dx, fs, ex, ea, l, q⟩ => ?_) ht
  subst ex
  obtain rfl : u = Value.ref a := rx
  refine getmeth_ok I1 ea c hm l ?_
  refine PySem.W.callWith_K (first := [.ref a]) (h₀ := X.base) I.ok.mod.kin hm.kp (thn (ha.run pos pins s1 σ H1 _ I1 q) fun us s2 ⟨vs, H2, I2, r, q2⟩ => ⟨I2.kIn, ?_⟩) hst hpl
  exact run_fnS (us := .ref a :: us) (vs := .ref a :: vs) F hr hb (hx σ) I2 (.cons rfl r) q2
theorem pe_methT0 {pl : Sem Bool} (he : PE X o ta) (c : Cls X.K C) (hm : Meth X.K C m f) (F : FnOk X.prog X.w X.K X.mg X.base CX k f fd ps sp) (hr : Room k X.A) (hb : Binds X.K fd ps []) (hx : ∀ σ, PassesAt CX X σ (E σ))
    (ht : eval (.Call (.Attribute o m apos) [] [] pos) X.env = (do
      let ov ← eval o X.env
      standAt apos.atName
      let (f, first) ← holding [ov] (getMethod ov m pl)
      callWith pos f first (backTo pos (starEach [] X.env)) (backToKw pos (keywordEach [] X.env))) := by rfl) :
    PE X (.Call (.Attribute o m apos) [] [] pos) (tMethT C m sp E ta tNil) := by
  refine ⟨fun pins s σ H Q I h => ?_⟩
  refine PySem.W.methodCall_KW (pl := pl) (thn (he.run pins s σ H _ I h) fun u s1 ⟨x, H1, I1, rx, a, dx, fs, ex, ea, l, q⟩ => ?_) ht
  subst ex
  obtain rfl : u = Value.ref a := rx
  refine getmeth_ok I1 ea c hm l ?_
  exact PySem.W.callWith_K0 (first := [.ref a]) I1.kIn hm.kp (run_fnS (us := [.ref a]) (vs := [.ref a]) F hr hb (hx σ) I1 (.cons rfl .nil) q)
end
end MethT

set_option Elab.async false
set_option linter.all false
set_option maxRecDepth 100000
set_option maxHeartbeats 4000000
/-! sorted(xs), sorted(d): items that are data, nested tuples; what comes out is the merge sort of the data. -/
namespace SortN
open PySem PySem.W PySem.Calls PyProof.Rows PyProof.V PySem.Spec L2 Pt ND

/-- the order of data -/
abbrev dle : PyData → PyData → Bool := dataLe false id
abbrev srt (ds : List PyData) : List PyData := ds.mergeSort dle
section
variable {X : Cx} {pins : List (Addr × Obj)} {σ : L2.St} {H : Hp} {s : Shared}
theorem each_reads (I : Inv X pins σ H s) : ∀ {xs : List V} {ds : List PyData} {us : List Value}, Rps X.K H xs ds → Vals xs us → EachIs (fun v d => ∃ as, Reads s.heap v d as) us ds
  | _, _, _, .nil, .nil => .nil
  | _, _, _, .cons h t, .cons h' t' => .cons (Dp.reads I _ _ _ h.dp h') (each_reads I t t')
theorem each_both {K : PySem.W.Frag} : ∀ {xs : List V} {ds : List PyData} {us : List Value}, Rps K H xs ds → Vals xs us → EachIs (fun v (b : V × PyData) => RelV b.1 v ∧ Rp K H b.1 b.2) us (xs.zip ds)
  | _, _, _, .nil, .nil => .nil
  | _, _, _, .cons h t, .cons h' t' => .cons ⟨h', h⟩ (each_both t t')
theorem each_snd {R : Value → PyData → Prop} : ∀ {xs : List V} {ds : List PyData} {us : List Value}, xs.length = ds.length → EachIs R us ds → EachIs (fun v (b : V × PyData) => R v b.2) us (xs.zip ds)
  | [], [], _, _, .nil => .nil
  | x :: xs, d :: ds, _, hl, .cons h t => .cons h (each_snd (Nat.succ.inj hl) t)
theorem out_of {K : PySem.W.Frag} : ∀ {bs : List (V × PyData)} {out : List Value}, EachIs (fun v (b : V × PyData) => RelV b.1 v ∧ Rp K H b.1 b.2) out bs → Vals (bs.map (·.1)) out ∧ Rps K H (bs.map (·.1)) (bs.map (·.2))
  | _, _, .nil => ⟨.nil, .nil⟩
  | _, _, .cons h t => ⟨.cons h.1 (out_of t).1, .cons h.2 (out_of t).2⟩
theorem zip_snd : ∀ {xs : List V} {ds : List PyData}, xs.length = ds.length → (xs.zip ds).map (·.2) = ds
  | [], [], _ => rfl
  | x :: xs, d :: ds, hl => congrArg (d :: ·) (zip_snd (Nat.succ.inj hl))
/-- what the sort gives -/
theorem sorted_out {K : PySem.W.Frag} {h : Heap} {xs : List V} {ds : List PyData} {us : List Value} (hal : AllAlike ds) (r : Rps K H xs ds) (rv : Vals xs us) (e : EachIs (fun v d => ∃ as, Reads h v d as) us ds) :
    ∃ ys, Vals ys (sortVals (dataKind h ds) false us us) ∧ Rps K H ys (srt ds) ∧ ys.length = xs.length := by
  have hl := r.len
  have e3 := sortVals_each (κ := dataKind h ds) (rev := false) (k := fun b : V × PyData => keyToks b.2) (each_both r rv) (each_snd hl (each_keys hal e))
  obtain ⟨v1, r1⟩ := out_of e3
  refine ⟨_, v1, ?_, ?_⟩
  · have em : ((xs.zip ds).mergeSort (sortLe (dataKind h ds).toKeyOrd false fun b : V × PyData => keyToks b.2)).map (·.2) = srt ds := by
      have q := sort_maps (r := sortLe (dataKind h ds).toKeyOrd false fun b : V × PyData => keyToks b.2) (s := dle) (fun b : V × PyData => b.2) (l := xs.zip ds) (fun a _ b _ => rfl)
      rw [q, zip_snd hl]
    rw [← em]
    exact r1
  · rw [List.length_map, List.length_mergeSort, List.length_zip, hl, Nat.min_self]
end
section
variable {X : Cx}
/-- sorted(xs) of a list -/
def rSortL (K : PySem.W.Frag) : List V → Hp → VK → Prop := fun vs H Q => ∃ (a : Addr) (xs : List V) (ds : List PyData), vs = [.ref a] ∧ SqL K H a xs ∧ Rps K H xs ds ∧ AllAlike ds ∧ Sortable ds ∧ (∀ d ∈ ds, d.depth ≤ 50) ∧
  ∀ (ys : List V) (p : Addr), Rps K H ys (srt ds) → H p = none → Q (.ref p) (upd H p (.lst ys))
theorem call_sortL (hc : X.calm = true) (hu : X.A.units + 64 < cLine) : CallR X (.builtin "sorted") (rSortL X.K) := by
  intro pins s σ H vs us Q I r q
  obtain ⟨a, xs, ds, rfl, hl, hr, hal, hk, hdp, q⟩ := q
  rw [Vals.ref1 r]
  obtain ⟨its, rv, pl, hz⟩ := I.list hl
  have hzi : its.length ≤ sizeLine := by rw [← rv.length]; exact hz
  have I1 : Inv X pins σ H { s with heap := sortingHeap (copyHeap s.heap its) (s.heap.objs.size + 1) its, toks := s.toks } := I.kept fun b o e => sorting_copy_old e
  have ea : EachIs (fun v d => ∃ as, Reads (sortingHeap (copyHeap s.heap its) (s.heap.objs.size + 1) its) v d as) its ds := each_reads I1 hr rv
  refine sorted_vals (κ := dataKind (sortingHeap (copyHeap s.heap its) (s.heap.objs.size + 1) its) ds) pl.isList (SortsAt.data (s := { s with heap := sortingHeap (copyHeap s.heap its) (s.heap.objs.size + 1) its }) ea hal hk fun d hd => ?_) hzi ?_
  · have := hdp d hd
    simp only [Around.in1_units]
    omega
  · obtain ⟨ys, v1, r1, l1⟩ := sorted_out (K := X.K) hal hr rv ea
    obtain ⟨e', he'⟩ := sortedAll_at s.heap its (sortVals (dataKind (sortingHeap (copyHeap s.heap its) (s.heap.objs.size + 1) its) ds) false its its).toArray
    refine ⟨.ref (s.heap.objs.size + 1), upd H (s.heap.objs.size + 1) (.lst ys), I.laid (t' := s.toks) (fun b u e => sortedAll_old e) (Nat.le_succ _) ?_, rfl, q ys _ r1 (I.hok.fresh (Nat.le_succ _))⟩
    exact ⟨by rw [l1]; exact hz, _, e', v1, he'⟩
/-- sorted(t) of a tuple -/
def rSortTup (K : PySem.W.Frag) : List V → Hp → VK → Prop := fun vs H Q => ∃ (a : Addr) (xs : List V) (ds : List PyData), vs = [.ref a] ∧ SqT K H a xs ∧ Rps K H xs ds ∧ AllAlike ds ∧ Sortable ds ∧ (∀ d ∈ ds, d.depth ≤ 50) ∧
  ∀ (ys : List V) (p : Addr), Rps K H ys (srt ds) → H p = none → Q (.ref p) (upd H p (.lst ys))
theorem call_sortTup (hc : X.calm = true) (hu : X.A.units + 64 < cLine) : CallR X (.builtin "sorted") (rSortTup X.K) := by
  intro pins s σ H vs us Q I r q
  obtain ⟨a, xs, ds, rfl, hl, hr, hal, hk, hdp, q⟩ := q
  rw [Vals.ref1 r]
  obtain ⟨its, rv, ⟨o, ho, hcl, n, hd⟩, hz⟩ := I.tuple hl
  have hzi : its.length ≤ sizeLine := by rw [← rv.length]; exact hz
  refine Calls.call_function_entry PyProof.Rows.kind_sorted PyProof.Rows.plain_sorted PyProof.Rows.entry_sorted (PyProof.Rows.args_sorted1 _) ?_
  unfold Builtin.«sorted»
  refine wpAny_bind (m := checkCount "sorted" 1 1 _) (wpAny_pure ?_)
  refine wpAny_bind (wpAny_collect_seq a (.inr rfl) ho hcl hd (fun h' hkp => ?_) (by rw [List.size_toArray]; exact hzi))
  have I1 : Inv X pins σ H { s with heap := h' } := I.kept (t' := s.toks) hkp
  rw [show its.toArray.toList = its from rfl]
  refine wpAny_bind (wpAny_newList ?_ hzi)
  have hoL : (h'.push (seqObj "list" its.toArray 0)).get? h'.objs.size = some (seqObj "list" its.toArray 0) := Heap.get?_push_size _ rfl
  show wpAny _ _ _ _ _ { s with heap := h'.push (seqObj "list" its.toArray 0) }
  have old : ∀ b u, h'.get? b = some u → (sortingHeap (h'.push (seqObj "list" its.toArray 0)) h'.objs.size its).get? b = some u := fun b u q1 =>
    sortingHeap_old (Nat.ne_of_lt (Heap.lt_size q1)) (Heap.get?_push_of_some _ q1)
  have I2 : Inv X pins σ H { s with heap := sortingHeap (h'.push (seqObj "list" its.toArray 0)) h'.objs.size its } := I1.kept (t' := s.toks) old
  have ea := each_reads I2 hr rv
  refine wpAny_bind (wpAny_holding (wpAny_call_entry PyProof.Rows.slot_list_sort ⟨_, hoL, rfl⟩ PyProof.Rows.entry_list_sort
    (list_sort_vals (κ := dataKind (sortingHeap (h'.push (seqObj "list" its.toArray 0)) h'.objs.size its) ds) (s := { s with heap := h'.push (seqObj "list" its.toArray 0) }) hoL
      (SortsAt.data (s := { s with heap := sortingHeap (h'.push (seqObj "list" its.toArray 0)) h'.objs.size its }) ea hal hk fun d hd => ?_) hzi ⟨_, rfl, ?_⟩) (PyProof.Rows.args_list_sort _)))
  · have := hdp d hd
    simp only [Around.in1_units]
    omega
  · obtain ⟨ys, v1, r1, l1⟩ := sorted_out (K := X.K) hal hr rv ea
    obtain ⟨e', he'⟩ := PyProof.Rows.sortedHeap_at (vs := its) (out := (sortVals (dataKind (sortingHeap (h'.push (seqObj "list" its.toArray 0)) h'.objs.size its) ds) false its its).toArray) hoL
    refine wpAny_pure ⟨_, rfl, .ref h'.objs.size, upd H h'.objs.size (.lst ys), I1.laid (t' := s.toks) (fun b u e => ?_) (Nat.le_refl _)
      (show ObjOk X.prog X.w _ _ _ (.lst ys) from ⟨by rw [l1]; exact hz, _, e', v1, he'⟩), rfl, q ys _ r1 (I1.hok.fresh (Nat.le_refl _))⟩
    have hb : b < h'.objs.size := Heap.lt_size e
    rw [PyProof.Rows.sortedHeap_old (Nat.ne_of_lt hb) (by rw [size_push']; exact Nat.lt_succ_of_lt hb)]
    exact Heap.get?_push_of_some _ e
theorem vals_keys {K : PySem.W.Frag} {H : Hp} {w : World} {P : Program} : ∀ {kvs : List (NestedKey × V)} {xs : List (NestedKey × Addr × Value)}, KN K H kvs xs → Rps K H (xs.map fun x => V.ref x.2.1) (kvs.map (·.1.data))
  | _, _, .nil => .nil
  | _, _, .cons h t => .cons h.2.1.1 (vals_keys (w := w) (P := P) t)
theorem vals_refs : ∀ xs : List (NestedKey × Addr × Value), Vals (xs.map fun x => V.ref x.2.1) (xs.map fun x => Value.ref x.2.1)
  | [] => .nil
  | _ :: xs => .cons rfl (vals_refs xs)
/-- sorted(d) of a dict with keys of any depth -/
def rSortD (P : Program) (w : World) (K : PySem.W.Frag) : List V → Hp → VK → Prop := fun vs H Q => ∃ (a : Addr) (kvs : List (NestedKey × V)), vs = [.ref a] ∧ NDct P w K H a kvs ∧ AllAlike (kvs.map (·.1.data)) ∧ Sortable (kvs.map (·.1.data)) ∧
  (∀ d ∈ kvs.map (·.1.data), d.depth ≤ 50) ∧ ∀ (ys : List V) (p : Addr), Rps K H ys (srt (kvs.map (·.1.data))) → H p = none → Q (.ref p) (upd H p (.lst ys))
theorem call_sortD (hc : X.calm = true) (hu : X.A.units + 64 < cLine) : CallR X (.builtin "sorted") (rSortD X.prog X.w X.K) := by
  intro pins s σ H vs us Q I r q
  obtain ⟨a, kvs, rfl, g, hal, hk, hdp, q⟩ := q
  rw [Vals.ref1 r]
  obtain ⟨z, lo, xs, e, rel, dd⟩ := nd_of I g
  obtain ⟨o, es, ep, h1, h2, h3, h4, h5, h6⟩ := dd
  have hl : es.size = kvs.length := by
    have q1 := congrArg List.length h4
    rw [List.length_map, Array.length_toList] at q1
    rw [q1, Paired.length rel]
  refine Calls.call_function_entry PyProof.Rows.kind_sorted PyProof.Rows.plain_sorted PyProof.Rows.entry_sorted (PyProof.Rows.args_sorted1 _) ?_
  unfold Builtin.«sorted»
  refine wpAny_bind (m := checkCount "sorted" 1 1 _) (wpAny_pure ?_)
  refine wpAny_bind (PySem.W.kdu_collect (A := X.A.in1) (KdlSrc.rawDict (d := a) (es := es) (ep := ep) lo) (I.ok.hd hc) ⟨o, h1, h2, h3⟩ (by rw [hl]; exact z) fun h' tk acc hkp hacc => ?_)
  have hav : acc.toList = xs.map fun x => Value.ref x.2.1 := by
    refine List.ext_getElem? fun j => ?_
    by_cases hj : j < es.size
    · have hja : j < acc.size := by rw [hacc.1]; exact hj
      obtain ⟨hi, ev⟩ := hacc.2 j acc[j] (Array.getElem?_eq_getElem hja)
      have ex : es.toList[j]? = (xs.map (entryOfKey (nestedKind X.prog X.w)))[j]? := by rw [h4]
      rw [Array.getElem?_toList, Array.getElem?_eq_getElem hj, List.getElem?_map] at ex
      rw [Array.getElem?_toList, Array.getElem?_eq_getElem hja, List.getElem?_map, ev]
      cases hx : xs[j]? with
      | none =>
        rw [hx] at ex
        cases ex
      | some x =>
        rw [hx] at ex
        have e2 : es[j] = entryOfKey (nestedKind X.prog X.w) x := Option.some.inj ex
        rw [e2]
        rfl
    · have hn : es.size = xs.length := by rw [hl, Paired.length rel]
      rw [List.getElem?_eq_none (by rw [Array.length_toList, hacc.1]; omega), List.getElem?_eq_none (by rw [List.length_map]; omega)]
  have I1 : Inv X pins σ H { s with heap := h', toks := tk } := I.kept hkp
  have hzi : acc.toList.length ≤ sizeLine := by
    rw [Array.length_toList, hacc.1, hl]
    exact z
  refine wpAny_bind (wpAny_newList ?_ hzi)
  have hoL : (h'.push (seqObj "list" acc.toList.toArray 0)).get? h'.objs.size = some (seqObj "list" acc.toList.toArray 0) := Heap.get?_push_size _ rfl
  show wpAny _ _ _ _ _ { s with heap := h'.push (seqObj "list" acc.toList.toArray 0), toks := tk }
  have rk := vals_keys (K := X.K) (w := X.w) (P := X.prog) rel
  have rv : Vals (xs.map fun x => V.ref x.2.1) acc.toList := by
    rw [hav]
    exact vals_refs xs
  have old : ∀ b u, h'.get? b = some u → (sortingHeap (h'.push (seqObj "list" acc.toList.toArray 0)) h'.objs.size acc.toList).get? b = some u := fun b u q1 =>
    sortingHeap_old (Nat.ne_of_lt (Heap.lt_size q1)) (Heap.get?_push_of_some _ q1)
  have I2 : Inv X pins σ H { s with heap := sortingHeap (h'.push (seqObj "list" acc.toList.toArray 0)) h'.objs.size acc.toList, toks := tk } := I1.kept old
  have ea := each_reads I2 rk rv
  refine wpAny_bind (wpAny_holding (wpAny_call_entry PyProof.Rows.slot_list_sort ⟨_, hoL, rfl⟩ PyProof.Rows.entry_list_sort
    (list_sort_vals (κ := dataKind (sortingHeap (h'.push (seqObj "list" acc.toList.toArray 0)) h'.objs.size acc.toList) (kvs.map (·.1.data))) (s := { s with heap := h'.push (seqObj "list" acc.toList.toArray 0), toks := tk }) hoL
      (SortsAt.data (s := { s with heap := sortingHeap (h'.push (seqObj "list" acc.toList.toArray 0)) h'.objs.size acc.toList, toks := tk }) ea hal hk fun d hd => ?_) hzi ⟨_, rfl, ?_⟩) (PyProof.Rows.args_list_sort _)))
  · have := hdp d hd
    simp only [Around.in1_units]
    omega
  · obtain ⟨ys, v1, r1, l1⟩ := sorted_out (K := X.K) hal rk rv ea
    obtain ⟨e', he'⟩ := PyProof.Rows.sortedHeap_at (vs := acc.toList) (out := (sortVals (dataKind (sortingHeap (h'.push (seqObj "list" acc.toList.toArray 0)) h'.objs.size acc.toList) (kvs.map (·.1.data))) false acc.toList acc.toList).toArray) hoL
    refine wpAny_pure ⟨_, rfl, .ref h'.objs.size, upd H h'.objs.size (.lst ys), I1.laid (t' := tk) (fun b u e => ?_) (Nat.le_refl _)
      (show ObjOk X.prog X.w _ _ _ (.lst ys) from ⟨by rw [l1, List.length_map, ← Paired.length rel]; exact z, _, e', v1, he'⟩), rfl, q ys _ r1 (I1.hok.fresh (Nat.le_refl _))⟩
    have hb : b < h'.objs.size := Heap.lt_size e
    rw [PyProof.Rows.sortedHeap_old (Nat.ne_of_lt hb) (by rw [size_push']; exact Nat.lt_succ_of_lt hb)]
    exact Heap.get?_push_of_some _ e
end
end SortN

set_option Elab.async false
set_option linter.all false
set_option maxRecDepth 100000
set_option maxHeartbeats 4000000
/-! d.items() of a dict with flat keys; sorted(d.items()) where keys and values are ints. -/
namespace ItemN
open PySem PySem.W PySem.Calls PyProof.Rows PyProof.V PySem.Spec L2 Pt ND SortN

abbrev pairD (x : Int × Int) : PyData := .tuple [.int x.1, .int x.2]
theorem pairs_get {P : Program} {w : World} : ∀ {es : List DictEntry} {vs : List (L2.Key × Value)} {j : Nat} {e : DictEntry}, Pairs (mixKind P w) es vs → es[j]? = some e → ∃ kv, vs[j]? = some kv ∧ keyIs kv.1 e.key = true ∧ e.val = kv.2
  | _, _, j, e, .nil, h => by simp at h
  | _, _, 0, e, .cons h1 h2 t, h => by
    simp only [List.getElem?_cons_zero, Option.some.injEq] at h
    subst h
    exact ⟨_, rfl, h1, h2⟩
  | _, _, j + 1, e, .cons h1 h2 t, h => by
    simp only [List.getElem?_cons_succ] at h ⊢
    exact pairs_get t h
theorem pairs_alike (ns : List (Int × Int)) : AllAlike (ns.map pairD) := by
  intro d hd d' hd'
  obtain ⟨a, _, rfl⟩ := List.mem_map.mp hd
  obtain ⟨b, _, rfl⟩ := List.mem_map.mp hd'
  simp [alike, alikeAll]
theorem pairs_sortable (ns : List (Int × Int)) : Sortable (ns.map pairD) := by
  refine .inl fun d hd => ?_
  obtain ⟨a, _, rfl⟩ := List.mem_map.mp hd
  exact ⟨_, _, rfl⟩
theorem pairs_depth (ns : List (Int × Int)) : ∀ d ∈ ns.map pairD, d.depth ≤ 50 := by
  intro d hd
  obtain ⟨a, _, rfl⟩ := List.mem_map.mp hd
  simp [PyData.depth, PyData.depthAll]
theorem rps_pairs {K : PySem.W.Frag} {H : Hp} : ∀ {as : List Addr} {ns : List (Int × Int)}, as.length = ns.length → (∀ (j : Nat) (b : Addr), as[j]? = some b → ∃ x : Int × Int, ns[j]? = some x ∧ H b = some (.tup [.int x.1, .int x.2])) → Rps K H (as.map V.ref) (ns.map pairD)
  | [], [], _, _ => .nil
  | a :: as, n :: ns, hl, h => by
    obtain ⟨x, hx, hb⟩ := h 0 a rfl
    simp only [List.getElem?_cons_zero, Option.some.injEq] at hx
    subst hx
    refine .cons (.tup (.inl (.inl hb)) (.cons (.int _) (.cons (.int _) .nil))) (rps_pairs (Nat.succ.inj hl) fun j b hj => ?_)
    obtain ⟨x, hx, hb⟩ := h (j + 1) b (by simpa using hj)
    exact ⟨x, by simpa using hx, hb⟩
section
variable {X : Cx}
def rItemsK : V → List V → Hp → VK → Prop := fun x xs H Q => ∃ (a : Addr) (kvs : List (L2.Key × V)), x = .ref a ∧ xs = [] ∧ H a = some (.dK kvs) ∧ ∀ p, H p = none → Q (.ref p) (upd H p (L2.DX.itemsO p a))
theorem mt_itemsK : MtR X "dict.items" rItemsK := by
  intro pins s σ H x xs v us Q I rx rxs h
  obtain ⟨a, kvs, rfl, rfl, ha, q⟩ := h
  cases rx
  cases rxs
  obtain ⟨z, hd, vs, rel, o, es, ep, ho, hx, hdat, _⟩ := dk_of I.hok ha
  refine DT.callItems (es := es) (ep := ep) hd ⟨o, ho, hx, hdat⟩ ?_
  have hf : H s.heap.objs.size = none := I.hok.fresh (Nat.le_refl _)
  exact ⟨.ref s.heap.objs.size, upd H s.heap.objs.size (L2.DX.itemsO s.heap.objs.size a), I.laid (t' := s.toks) (fun b u e => Heap.get?_push_of_some _ e) (Nat.le_refl _) (L2.DX.itemsO_ok (Heap.get?_push_size _ rfl)), rfl, q _ hf⟩
def rSortItems (K : PySem.W.Frag) : List V → Hp → VK → Prop := fun vs H Q => ∃ (p a : Addr) (ns : List (Int × Int)), vs = [.ref p] ∧ H p = some (L2.DX.itemsO p a) ∧ H a = some (.dK (ns.map fun x => (Sum.inl x.1, V.int x.2))) ∧
  ∀ (H' : Hp) (l : Addr) (ys : List V), Same H H' → H l = none → H' l = some (.lst ys) → Rps K H' ys (srt (ns.map pairD)) → Q (.ref l) H'
theorem call_sortItems (hc : X.calm = true) (hu : X.A.units + 64 < cLine) : CallR X (.builtin "sorted") (rSortItems X.K) := by
  intro pins s σ H xs us Q I r h
  obtain ⟨p, a, ns, rfl, hp, ha, q⟩ := h
  rw [Vals.ref1 r]
  have view : s.heap.IsItemsView p a := (show ObjOk X.prog X.w H s.heap p (L2.DX.itemsO p a) from I.hok p _ hp).1
  obtain ⟨z, hd, vs, rel, o, es, ep, ho, hx, hdat, hks, hps, hn⟩ := dk_of I.hok ha
  have hh : X.A.handled = none := I.ok.hd hc
  have l0 := rel.length
  have l00 := hps.length
  rw [List.length_map] at l0 z
  rw [Array.length_toList] at l00
  have l1 : es.size = ns.length := by omega
  refine DT.sortedI (es := es) (ep := ep) hh view ⟨o, ho, hx, hdat⟩ (by rw [l1]; exact z) fun h' tk as hk hlt hl hG => ?_
  have lak : as.length = ns.length := by omega
  have nd : as.Nodup := List.Pairwise.imp (fun h => Nat.ne_of_lt h) hG.rise
  have pr : ∀ (j : Nat) (b : Addr), as[j]? = some b → ∃ (x : Int × Int) (t1 t2 : Tok), ns[j]? = some x ∧ h'.get? b = some { cls := .type "tuple", data := .seq #[Value.int x.1 t1, Value.int x.2 t2] } := by
    intro j b hj
    obtain ⟨en, he, hg⟩ := hG.pairs j b hj
    obtain ⟨kv, hkv, h1, h2⟩ := pairs_get hps (by rw [Array.getElem?_toList]; exact he)
    obtain ⟨p0, hp0, r1, r2⟩ := L2.DX.pget rel hkv
    rw [List.getElem?_map] at hp0
    obtain ⟨x, hx0, rfl⟩ := Option.map_eq_some_iff.mp hp0
    obtain ⟨t2, e2⟩ := (show ∃ t, kv.2 = Value.int x.2 t from r2)
    have r1' : Sum.inl x.1 = kv.1 := r1
    rw [← r1'] at h1
    rcases keyIs_shape h1 with ⟨i, t, ek, ev⟩ | ⟨y, t, ek, ev⟩
    · cases ek
      exact ⟨x, t, t2, hx0, by rw [hg, ev, h2, e2]⟩
    · cases ek
  have I1 : Inv X pins σ H { s with heap := h', toks := tk } := I.kept (t' := tk) hk
  obtain ⟨H2, I2, g, qt⟩ := L2.DX.takeT (h' := h') (tk := tk) (P := fun b vs => ∃ (j : Nat) (x : Int × Int), as[j]? = some b ∧ ns[j]? = some x ∧ vs = [V.int x.1, V.int x.2]) I as H I1 nd fun b hb => by
    obtain ⟨j, hj⟩ := List.mem_iff_getElem?.mp hb
    obtain ⟨x, t1, t2, hx, hg⟩ := pr j b hj
    have hbl : s.heap.objs.size ≤ b := Nat.le_of_lt (hG.above b hb)
    exact ⟨hbl, I.hok.fresh hbl, [V.int x.1, V.int x.2], ⟨j, x, hj, hx, rfl⟩, fun H3 => ⟨(by rw [sizeLine_eq]; show 2 ≤ 16777216; omega), [Value.int x.1 t1, Value.int x.2 t2], .cons ⟨t1, rfl⟩ (.cons ⟨t2, rfl⟩ .nil), ⟨_, hg, rfl, 0, rfl⟩⟩⟩
  have hr : Rps X.K H2 (as.map V.ref) (ns.map pairD) := rps_pairs lak fun j b hj => by
    obtain ⟨vs', ⟨i, x, hi, hx, rfl⟩, hH⟩ := qt b (List.mem_of_getElem? hj)
    have eij : j = i := (List.getElem?_inj (List.getElem?_eq_some_iff.mp hj).1 nd).mp (hj.trans hi.symm)
    subst eij
    exact ⟨x, hx, hH⟩
  have hoL : (h'.push { cls := .type "list", data := .seq (as.map Value.ref).toArray }).get? h'.objs.size = some (seqObj "list" (as.map Value.ref).toArray 0) := Heap.get?_push_size _ rfl
  have old : ∀ b u, h'.get? b = some u → (sortingHeap (h'.push { cls := .type "list", data := .seq (as.map Value.ref).toArray }) h'.objs.size (as.map Value.ref)).get? b = some u := fun b u q1 =>
    sortingHeap_old (Nat.ne_of_lt (Heap.lt_size q1)) (Heap.get?_push_of_some _ q1)
  have I3 : Inv X pins σ H2 { s with heap := sortingHeap (h'.push { cls := .type "list", data := .seq (as.map Value.ref).toArray }) h'.objs.size (as.map Value.ref), toks := tk } := I2.kept (t' := tk) old
  have rv : Vals (as.map V.ref) (as.map Value.ref) := vals_maps V.ref Value.ref as fun _ _ => rfl
  have ea := each_reads I3 hr rv
  have hzi : (as.map Value.ref).length ≤ sizeLine := by rw [List.length_map, lak]; exact z
  refine wpAny_call_entry PyProof.Rows.slot_list_sort ⟨_, hoL, rfl⟩ PyProof.Rows.entry_list_sort
    (list_sort_vals (κ := dataKind (sortingHeap (h'.push { cls := .type "list", data := .seq (as.map Value.ref).toArray }) h'.objs.size (as.map Value.ref)) (ns.map pairD)) (s := { s with heap := h'.push { cls := .type "list", data := .seq (as.map Value.ref).toArray }, toks := tk }) hoL
      (SortsAt.data (s := { s with heap := sortingHeap (h'.push { cls := .type "list", data := .seq (as.map Value.ref).toArray }) h'.objs.size (as.map Value.ref), toks := tk }) ea (pairs_alike ns) (pairs_sortable ns) fun d hd => ?_) hzi ⟨_, rfl, ?_⟩) (PyProof.Rows.args_list_sort _)
  · have := pairs_depth ns d hd
    simp only [Around.in1_units]
    omega
  · obtain ⟨ys, v1, r1, l1⟩ := sorted_out (K := X.K) (pairs_alike ns) hr rv ea
    obtain ⟨e', he'⟩ := PyProof.Rows.sortedHeap_at (vs := as.map Value.ref) (out := (sortVals (dataKind (sortingHeap (h'.push { cls := .type "list", data := .seq (as.map Value.ref).toArray }) h'.objs.size (as.map Value.ref)) (ns.map pairD)) false (as.map Value.ref) (as.map Value.ref)).toArray) hoL
    have hn2 : H2 h'.objs.size = none := I2.hok.fresh (Nat.le_refl _)
    have st := Cm.same_new (o := .lst ys) hn2
    refine ⟨.ref h'.objs.size, upd H2 h'.objs.size (.lst ys), I2.laid (t' := tk) (fun b u e => ?_) (Nat.le_refl _)
      (show ObjOk X.prog X.w _ _ _ (.lst ys) from ⟨by rw [l1, List.length_map, lak]; exact z, _, e', v1, he'⟩), rfl, q _ _ ys (Same.trans g st) (Same.free g hn2) upd_same (r1.keep (Same.tups st))⟩
    have hb : b < h'.objs.size := Heap.lt_size e
    rw [PyProof.Rows.sortedHeap_old (Nat.ne_of_lt hb) (by rw [size_push']; exact Nat.lt_succ_of_lt hb)]
    exact Heap.get?_push_of_some _ e
end
end ItemN

set_option Elab.async false
set_option linter.all false
set_option maxRecDepth 100000
set_option maxHeartbeats 4000000
--%OPEN Cm Pt ND
--%VAR variable {P : Program} {w : World} {K : PySem.W.Frag} {mg : Str → Option Value} {base : Heap} {a : Fds}
namespace K40
open PySem PySem.Spec PyProof.Rows L2 Cm Pt ND
open PySem PySem.Spec PyProof.Rows L2
def topS (i : Nat) : Stmt := PySem.Challenge.pw_portage_k40_numbers_and_new_letters.main.body.getD i (.Pass ⟨0, 0, 0, 0⟩)
abbrev s_Post_init : Stmt := inClass (topS 5) 0
abbrev N_Post_init : List Str := ["self", "me"]
theorem sc_Post_init : FnScope N_Post_init ["self", "me"] (defScope s_Post_init) := ⟨rfl, rfl, rfl, by decide +kernel, rfl, by decide +kernel, by decide +kernel⟩
abbrev s_Post_give : Stmt := inClass (topS 5) 1
abbrev N_Post_give : List Str := ["self", "other", "body", "number"]
theorem sc_Post_give : FnScope N_Post_give ["self", "other", "body"] (defScope s_Post_give) := ⟨rfl, rfl, rfl, by decide +kernel, rfl, by decide +kernel, by decide +kernel⟩
abbrev s_Post_take : Stmt := inClass (topS 5) 2
abbrev N_Post_take : List Str := ["self", "letter", "sender", "goal", "number", "body"]
theorem sc_Post_take : FnScope N_Post_take ["self", "letter"] (defScope s_Post_take) := ⟨rfl, rfl, rfl, by decide +kernel, rfl, by decide +kernel, by decide +kernel⟩
abbrev s_Post_p_let_go : Stmt := inClass (topS 5) 3
abbrev N_Post_p_let_go : List Str := ["self", "other", "told", "letter"]
theorem sc_Post_p_let_go : FnScope N_Post_p_let_go ["self", "other", "told"] (defScope s_Post_p_let_go) := ⟨rfl, rfl, rfl, by decide +kernel, rfl, by decide +kernel, by decide +kernel⟩
abbrev s_Post_is_taken : Stmt := inClass (topS 5) 4
abbrev N_Post_is_taken : List Str := ["self", "other", "number"]
theorem sc_Post_is_taken : FnScope N_Post_is_taken ["self", "other", "number"] (defScope s_Post_is_taken) := ⟨rfl, rfl, rfl, by decide +kernel, rfl, by decide +kernel, by decide +kernel⟩
abbrev s_Post_taken : Stmt := inClass (topS 5) 5
abbrev N_Post_taken : List Str := ["self", "other"]
theorem sc_Post_taken : FnScope N_Post_taken ["self", "other"] (defScope s_Post_taken) := ⟨rfl, rfl, rfl, by decide +kernel, rfl, by decide +kernel, by decide +kernel⟩
abbrev s_Post_next_number : Stmt := inClass (topS 5) 6
abbrev N_Post_next_number : List Str := ["self", "other"]
theorem sc_Post_next_number : FnScope N_Post_next_number ["self", "other"] (defScope s_Post_next_number) := ⟨rfl, rfl, rfl, by decide +kernel, rfl, by decide +kernel, by decide +kernel⟩
abbrev s_Post_outbox : Stmt := inClass (topS 5) 7
abbrev N_Post_outbox : List Str := ["self"]
theorem sc_Post_outbox : FnScope N_Post_outbox ["self"] (defScope s_Post_outbox) := ⟨rfl, rfl, rfl, by decide +kernel, rfl, by decide +kernel, by decide +kernel⟩
abbrev s_Post_answers : Stmt := inClass (topS 5) 8
abbrev N_Post_answers : List Str := ["self", "other"]
theorem sc_Post_answers : FnScope N_Post_answers ["self"] (defScope s_Post_answers) := ⟨rfl, rfl, rfl, by decide +kernel, rfl, by decide +kernel, by decide +kernel⟩
abbrev s_Post_image : Stmt := inClass (topS 5) 9
abbrev N_Post_image : List Str := ["self", "heard", "other"]
theorem sc_Post_image : FnScope N_Post_image ["self"] (defScope s_Post_image) := ⟨rfl, rfl, rfl, by decide +kernel, rfl, by decide +kernel, by decide +kernel⟩
abbrev s_tells : Stmt := topS 6
abbrev N_tells : List Str := ["told", "number", "low", "beyond"]
theorem sc_tells : FnScope N_tells ["told", "number"] (defScope s_tells) := ⟨rfl, rfl, rfl, by decide +kernel, rfl, by decide +kernel, by decide +kernel⟩
abbrev s_with_number : Stmt := topS 7
abbrev N_with_number : List Str := ["told", "number", "low", "beyond", "numbers", "at"]
theorem sc_with_number : FnScope N_with_number ["told", "number"] (defScope s_with_number) := ⟨rfl, rfl, rfl, by decide +kernel, rfl, by decide +kernel, by decide +kernel⟩
abbrev s_lw_numbers : Stmt := topS 9
abbrev N_lw_numbers : List Str := ["script", "many", "numbers", "k", "cell", "j", "mixed", "base", "last"]
theorem sc_lw_numbers : FnScope N_lw_numbers ["script", "many"] (defScope s_lw_numbers) := ⟨rfl, rfl, rfl, by decide +kernel, rfl, by decide +kernel, by decide +kernel⟩
abbrev s_lw_pair : Stmt := topS 10
abbrev N_lw_pair : List Str := ["taken", "low", "k", "number"]
theorem sc_lw_pair : FnScope N_lw_pair ["taken"] (defScope s_lw_pair) := ⟨rfl, rfl, rfl, by decide +kernel, rfl, by decide +kernel, by decide +kernel⟩
abbrev s_lw_fits : Stmt := topS 11
abbrev N_lw_fits : List Str := ["post", "me", "box", "following", "taken", "seen", "answers", "other", "low", "beyond", "numbers", "number", "told"]
theorem sc_lw_fits : FnScope N_lw_fits ["post", "me", "box", "following", "taken"] (defScope s_lw_fits) := ⟨rfl, rfl, rfl, by decide +kernel, rfl, by decide +kernel, by decide +kernel⟩
abbrev s_lw_told_by : Stmt := topS 12
abbrev N_lw_told_by : List Str := ["low", "beyond", "number"]
theorem sc_lw_told_by : FnScope N_lw_told_by ["low", "beyond", "number"] (defScope s_lw_told_by) := ⟨rfl, rfl, rfl, by decide +kernel, rfl, by decide +kernel, by decide +kernel⟩
abbrev s_law : Stmt := topS 13
abbrev N_law : List Str := ["script", "numbers", "me", "post", "box", "following", "taken", "k", "number", "other", "way", "detail", "told", "low", "beyond", "letter", "one"]
theorem sc_law : FnScope N_law ["script"] (defScope s_law) := ⟨rfl, rfl, rfl, by decide +kernel, rfl, by decide +kernel, by decide +kernel⟩
/-- the function objects that the top has made -/
structure Fds where
  d_Post_init : FuncData
  d_Post_give : FuncData
  d_Post_take : FuncData
  d_Post_p_let_go : FuncData
  d_Post_is_taken : FuncData
  d_Post_taken : FuncData
  d_Post_next_number : FuncData
  d_Post_outbox : FuncData
  d_Post_answers : FuncData
  d_Post_image : FuncData
  d_tells : FuncData
  d_with_number : FuncData
  d_lw_numbers : FuncData
  d_lw_pair : FuncData
  d_lw_fits : FuncData
  d_lw_told_by : FuncData
  d_law : FuncData
/-- what the walks ask of the top -/
structure Txt (K : PySem.W.Frag) (mg : Str → Option Value) (w : World) (a : Fds) : Prop where
  F_Post_init : FunD K "__init__" "Post.__init__" (defArgs s_Post_init) (defBody s_Post_init) (defScope s_Post_init) [] [] (He.ma K (He.ga K "Post") "__init__") a.d_Post_init
  b_Post_init : Binds K a.d_Post_init ["self", "me"] []
  k_Post : Mk K (He.ga K "Post") (He.ma K (He.ga K "Post") "__init__")
  F_Post_give : FunD K "give" "Post.give" (defArgs s_Post_give) (defBody s_Post_give) (defScope s_Post_give) [] [] (He.ma K (He.ga K "Post") "give") a.d_Post_give
  b_Post_give : Binds K a.d_Post_give ["self", "other", "body"] []
  m_Post_give : Meth K (He.ga K "Post") "give" (He.ma K (He.ga K "Post") "give")
  F_Post_take : FunD K "take" "Post.take" (defArgs s_Post_take) (defBody s_Post_take) (defScope s_Post_take) [] [] (He.ma K (He.ga K "Post") "take") a.d_Post_take
  b_Post_take : Binds K a.d_Post_take ["self", "letter"] []
  m_Post_take : Meth K (He.ga K "Post") "take" (He.ma K (He.ga K "Post") "take")
  F_Post_p_let_go : FunD K "_let_go" "Post._let_go" (defArgs s_Post_p_let_go) (defBody s_Post_p_let_go) (defScope s_Post_p_let_go) [] [] (He.ma K (He.ga K "Post") "_let_go") a.d_Post_p_let_go
  b_Post_p_let_go : Binds K a.d_Post_p_let_go ["self", "other", "told"] []
  m_Post_p_let_go : Meth K (He.ga K "Post") "_let_go" (He.ma K (He.ga K "Post") "_let_go")
  F_Post_is_taken : FunD K "is_taken" "Post.is_taken" (defArgs s_Post_is_taken) (defBody s_Post_is_taken) (defScope s_Post_is_taken) [] [] (He.ma K (He.ga K "Post") "is_taken") a.d_Post_is_taken
  b_Post_is_taken : Binds K a.d_Post_is_taken ["self", "other", "number"] []
  m_Post_is_taken : Meth K (He.ga K "Post") "is_taken" (He.ma K (He.ga K "Post") "is_taken")
  F_Post_taken : FunD K "taken" "Post.taken" (defArgs s_Post_taken) (defBody s_Post_taken) (defScope s_Post_taken) [] [] (He.ma K (He.ga K "Post") "taken") a.d_Post_taken
  b_Post_taken : Binds K a.d_Post_taken ["self", "other"] []
  m_Post_taken : Meth K (He.ga K "Post") "taken" (He.ma K (He.ga K "Post") "taken")
  F_Post_next_number : FunD K "next_number" "Post.next_number" (defArgs s_Post_next_number) (defBody s_Post_next_number) (defScope s_Post_next_number) [] [] (He.ma K (He.ga K "Post") "next_number") a.d_Post_next_number
  b_Post_next_number : Binds K a.d_Post_next_number ["self", "other"] []
  m_Post_next_number : Meth K (He.ga K "Post") "next_number" (He.ma K (He.ga K "Post") "next_number")
  F_Post_outbox : FunD K "outbox" "Post.outbox" (defArgs s_Post_outbox) (defBody s_Post_outbox) (defScope s_Post_outbox) [] [] (He.ma K (He.ga K "Post") "outbox") a.d_Post_outbox
  b_Post_outbox : Binds K a.d_Post_outbox ["self"] []
  m_Post_outbox : Meth K (He.ga K "Post") "outbox" (He.ma K (He.ga K "Post") "outbox")
  F_Post_answers : FunD K "answers" "Post.answers" (defArgs s_Post_answers) (defBody s_Post_answers) (defScope s_Post_answers) [] [] (He.ma K (He.ga K "Post") "answers") a.d_Post_answers
  b_Post_answers : Binds K a.d_Post_answers ["self"] []
  m_Post_answers : Meth K (He.ga K "Post") "answers" (He.ma K (He.ga K "Post") "answers")
  F_Post_image : FunD K "image" "Post.image" (defArgs s_Post_image) (defBody s_Post_image) (defScope s_Post_image) [] [] (He.ma K (He.ga K "Post") "image") a.d_Post_image
  b_Post_image : Binds K a.d_Post_image ["self"] []
  m_Post_image : Meth K (He.ga K "Post") "image" (He.ma K (He.ga K "Post") "image")
  F_tells : Cm.FnP K "_tells" s_tells (He.ga K "_tells") a.d_tells
  b_tells : Binds K a.d_tells ["told", "number"] []
  g_tells : mg "_tells" = some (.ref (He.ga K "_tells"))
  F_with_number : Cm.FnP K "_with_number" s_with_number (He.ga K "_with_number") a.d_with_number
  b_with_number : Binds K a.d_with_number ["told", "number"] []
  g_with_number : mg "_with_number" = some (.ref (He.ga K "_with_number"))
  F_lw_numbers : Cm.FnP K "_law_numbers" s_lw_numbers (He.ga K "_law_numbers") a.d_lw_numbers
  b_lw_numbers : Binds K a.d_lw_numbers ["script", "many"] []
  g_lw_numbers : mg "_law_numbers" = some (.ref (He.ga K "_law_numbers"))
  F_lw_pair : Cm.FnP K "_law_pair" s_lw_pair (He.ga K "_law_pair") a.d_lw_pair
  b_lw_pair : Binds K a.d_lw_pair ["taken"] []
  g_lw_pair : mg "_law_pair" = some (.ref (He.ga K "_law_pair"))
  F_lw_fits : Cm.FnP K "_law_fits" s_lw_fits (He.ga K "_law_fits") a.d_lw_fits
  b_lw_fits : Binds K a.d_lw_fits ["post", "me", "box", "following", "taken"] []
  g_lw_fits : mg "_law_fits" = some (.ref (He.ga K "_law_fits"))
  F_lw_told_by : Cm.FnP K "_law_told_by" s_lw_told_by (He.ga K "_law_told_by") a.d_lw_told_by
  b_lw_told_by : Binds K a.d_lw_told_by ["low", "beyond", "number"] []
  g_lw_told_by : mg "_law_told_by" = some (.ref (He.ga K "_law_told_by"))
  F_law : Cm.FnP K "law" s_law (He.ga K "law") a.d_law
  b_law : Binds K a.d_law ["script"] []
  g_law : mg "law" = some (.ref (He.ga K "law"))
  g_PortError : mg "PortError" = some (.ref (He.ga K "PortError"))
  g_NotAllowed : mg "NotAllowed" = some (.ref (He.ga K "NotAllowed"))
  g_Post : mg "Post" = some (.ref (He.ga K "Post"))
  c_Post : Cls K (He.ga K "Post")
  n_Post__me : NoAttr K (He.ga K "Post") "_me"
  n_Post__letters : NoAttr K (He.ga K "Post") "_letters"
  n_Post__numbers : NoAttr K (He.ga K "Post") "_numbers"
  n_Post__heard : NoAttr K (He.ga K "Post") "_heard"
  g_tuple : mg "tuple" = none
  g_sorted : mg "sorted" = none
  g_len : mg "len" = none
  g_range : mg "range" = none
  g_abs : mg "abs" = none
  g_max : mg "max" = none
  g_int : mg "int" = none
  g_isinstance : mg "isinstance" = none
  g_bool : mg "bool" = none
  x_NotAllowed : PySem.W.excIn K (He.ga K "NotAllowed") [.type "ValueError", .type "Exception", .type "BaseException", .type "object"] "ValueError.__new__" = true
  k_NotAllowed : PySem.W.keepIn K (.ref (He.ga K "NotAllowed")) = true
  s_NotAllowed : PySem.W.subIn K (.ref (He.ga K "NotAllowed")) (.type "BaseException") = some true
  t_NotAllowed : PySem.W.typeIn K (.ref (He.ga K "NotAllowed")) = some (.type "type")
variable {P : Program} {w : World} {K : PySem.W.Frag} {mg : Str → Option Value} {base : Heap} {a : Fds}
/-! ### the numbers of a script (the family with % 10007) -/
abbrev NumOk (ns : List Int) : Prop := ∀ n ∈ ns, 0 ≤ n ∧ n < 2147483647
def spNum2 (K : PySem.W.Frag) : Sp := fun vs H Q _ => ∃ (l : Addr) (ns : List Int) (many : Nat), vs = [.ref l, .int many] ∧ SqL K H l (ns.map V.int) ∧ ns.length ≤ 63 ∧ many ≤ 1000 ∧
  ∀ (H' : Hp) (p : Addr) (ms : List Int), Same H H' → H p = none → H' p = some (.lst (ms.map V.int)) → ms.length = many → NumOk ms → Q (.ref p) H'
theorem num_snoc {ns : List Int} {n : Int} (h : NumOk ns) (h0 : 0 ≤ n) (h1 : n < 2147483647) : NumOk (ns ++ [n]) := fun m hm => by
  rcases List.mem_append.mp hm with hm | hm
  · exact h m hm
  · rw [List.mem_singleton.mp hm]
    exact ⟨h0, h1⟩
theorem map_snoc {ns : List Int} {n : Int} : ns.map V.int ++ [V.int n] = (ns ++ [n]).map V.int := by
  rw [List.map_append]
  rfl
theorem len_map {ns : List Int} : (ns.map V.int).length = ns.length := List.length_map ..
theorem pMod : (0 : Int) < 10007 := by decide
theorem pMersenne : (0 : Int) < 2147483647 := by decide
theorem mersenne (z : Int) : 0 ≤ z % 2147483647 ∧ z % 2147483647 < 2147483647 := by omega
theorem cut_all {xs : List V} {n : Nat} (h : xs.length = n) : cutV xs none (some (n : Int)) = xs := by
  unfold cutV
  rw [HT.sIx_nat, show HT.sIx xs.length 0 none = 0 from rfl]
  rw [← h, Nat.min_self]
  simp
theorem ok_lw_numbers (T : Txt K mg w a) : FnOk P w K mg base CX0 1 (He.ga K "_law_numbers") a.d_lw_numbers ["script", "many"] (spNum2 K) := by
  refine T.F_lw_numbers.ok sc_lw_numbers (fun vs H Q E h => ?_) (fun cdv A outer s H vs Q E hr h => ?_)
  · obtain ⟨l, ns, many, rfl, _⟩ := h
    rfl
  · obtain ⟨l, sc, many, rfl, hl, hsc, hm, q⟩ := h
    refine ⟨_, PSs.nox (pss_cons (ps_set (i := 2) sc_lw_numbers.nd rfl (Or.inl rfl) (pe_lst pa_nil))
      (pss_cons (ps_for PassesOwn.never rfl (pi_range1 (by rfl) T.g_range (pa_cons (pe_callB call_len_seq (by rfl) T.g_len boot_len (pa_cons (pv 0) pa_nil)) pa_nil)) (pg_name (i := 3) sc_lw_numbers.nd rfl (Or.inl rfl))
      (pss_cons (ps_set (i := 4) sc_lw_numbers.nd rfl (Or.inl rfl) (pe_callB call_abs (by rfl) T.g_abs boot_abs (pa_cons (pe_callTy call_int1 (by rfl) T.g_int boot_int (pa_cons (pe_ix ix_list (pv 0) (pv 3) (fun _ _ => rfl)) pa_nil)) pa_nil)))
      (pss_one (ps_if (pt_cmpR op_ge (pv 4) (pe_op op_pow pe_int pe_int) (nomark _)) (pss_one (ps_for PassesOwn.never rfl (pi_range1 (by rfl) T.g_range (pa_cons pe_int pa_nil)) (pg_name (i := 5) sc_lw_numbers.nd rfl (Or.inl rfl))
      (pss_one (ps_if (PW.pt (pw_and (pt_cmpR op_gt (pv 4) pe_int (nomark _)) (pw_and1 (pt_cmpR op_lt (pe_callB call_len_seq (by rfl) T.g_len boot_len (pa_cons (pv 2) pa_nil)) (pv 1) (nomark _))))) (pss_cons (ps_expr (pe_bm PySem.F.plainAttrs_list PySem.F.slot_list_append PySem.F.type_list_append mt_append (pv 2) (pa_cons (pe_op op_mod (pv 4) pe_int) pa_nil)))
      (pss_one (ps_set (i := 4) sc_lw_numbers.nd rfl (Or.inl rfl) (pe_op op_fdiv (pv 4) pe_int)))) pss_nil)))) (pss_one (ps_if (pt_cmpR op_lt (pe_callB call_len_seq (by rfl) T.g_len boot_len (pa_cons (pv 2) pa_nil)) (pv 1) (nomark _)) (pss_cons (ps_set (i := 6) sc_lw_numbers.nd rfl (Or.inl rfl) (pe_op op_mod (pe_callTy call_int1 (by rfl) T.g_int boot_int (pa_cons (pe_op op_add (pe_op op_add (pe_op op_mul (pv 4) pe_int) (pe_op op_mul (pv 3) pe_int)) pe_int) pa_nil)) pe_int))
      (pss_one (ps_expr (pe_bm PySem.F.plainAttrs_list PySem.F.slot_list_append PySem.F.type_list_append mt_append (pv 2) (pa_cons (pe_op op_fdiv (pe_op op_mod (pe_callTy call_int1 (by rfl) T.g_int boot_int (pa_cons (pe_op op_add (pe_op op_add (pe_op op_mul (pv 6) pe_int) (pe_op op_mul pe_int (pv 3))) pe_int) pa_nil)) pe_int) pe_int) pa_nil))))) pss_nil))))))
      (pss_cons (ps_set (i := 7) sc_lw_numbers.nd rfl (Or.inl rfl) (pe_callB call_len_seq (by rfl) T.g_len boot_len (pa_cons (pv 2) pa_nil)))
      (pss_cons (ps_set (i := 8) sc_lw_numbers.nd rfl (Or.inl rfl) (pe_op op_add pe_int (pe_callB call_len_seq (by rfl) T.g_len boot_len (pa_cons (pv 0) pa_nil))))
      (pss_cons (ps_for PassesOwn.never rfl (pi_range1 (by rfl) T.g_range (pa_cons (pe_callB (call_max2 rfl) (by rfl) T.g_max boot_max (pa_cons pe_int (pa_cons (pe_op op_sub (pv 1) (pv 7)) pa_nil))) pa_nil)) (pg_name (i := 3) sc_lw_numbers.nd rfl (Or.inl rfl))
      (pss_cons (ps_if (pt_cmpR op_gt (pv 7) pe_int (nomark _)) (pss_one (ps_set (i := 8) sc_lw_numbers.nd rfl (Or.inl rfl) (pe_op op_add (pv 8) (pe_ix ix_list (pv 2) (pe_op op_mod (pv 3) (pv 7)) (fun _ _ => rfl))))) pss_nil)
      (pss_cons (ps_set (i := 8) sc_lw_numbers.nd rfl (Or.inl rfl) (pe_op op_mod (pe_callTy call_int1 (by rfl) T.g_int boot_int (pa_cons (pe_op op_add (pe_op op_mul (pv 8) pe_int) (pv 3)) pa_nil)) pe_int))
      (pss_one (ps_expr (pe_bm PySem.F.plainAttrs_list PySem.F.slot_list_append PySem.F.type_list_append mt_append (pv 2) (pa_cons (pe_op op_fdiv (pv 8) pe_int) pa_nil)))))))
      (pss_one (ps_ret (pe_slice sl_list (pv 2) po_none (po_some (pv 1)))))))))), ?_⟩
    -- numbers = []
    refine ⟨Nat.zero_le _, fun p np => ?_⟩
    have s0 : Same H (upd H p (.lst [])) := Cm.same_new np
    -- for k in range(len(script))
    refine ⟨_, rfl, l, _, rfl, .inl (s0.seq hl), ((sc.map V.int).length : Int), rfl, by omega, by rw [len_map]; omega, ?_⟩
    rw [Int.toNat_natCast]
    refine for_range (fun i σ H2 => ∃ (ms : List Int) (x3 x4 x5 x6 : Option V), σ = [some (.ref l), some (.int many), some (.ref p), x3, x4, x5, x6, none, none] ∧ Same H H2 ∧ H2 p = some (.lst (ms.map V.int)) ∧ ms.length ≤ many ∧ NumOk ms)
      ⟨[], none, none, none, none, rfl, s0, upd_same, Nat.zero_le _, fun n h => nomatch h⟩ (fun i σ H2 hi ⟨ms, x3, x4, x5, x6, e, s2, hp, hn, ha⟩ => ?_) fun σ H2 ⟨ms, x3, x4, x5, x6, e, s2, hp, hn, ha⟩ => ?_
    · subst e
      rw [len_map] at hi
      obtain ⟨c, _, ec⟩ := Cm.at_int (ns := sc) (i := (0 + (i : Int))) (by omega) (by omega)
      refine ⟨_, rfl, _, rfl, l, _, _, _, rfl, rfl, s2.seq hl, ec, .inl ⟨_, rfl, _, rfl, ?_⟩⟩
      generalize (if c < 0 then -c else c) = c0
      refine ⟨_, rfl, _, _, rfl, rfl, ⟨by decide, by decide, by decide⟩, _, _, rfl, rfl, _, rfl, Cm.itD (fun _ => ?_) fun _ => ?_⟩
      · refine ⟨60, rfl, by decide, by decide, for_range (n := 60) (fun j σ H2 => ∃ (ms : List Int) (c : Int) (x5 : Option V), σ = [some (.ref l), some (.int many), some (.ref p), some (.int (0 + (i : Int))), some (.int c), x5, x6, none, none] ∧ Same H H2 ∧ H2 p = some (.lst (ms.map V.int)) ∧ ms.length ≤ many ∧ NumOk ms)
          ⟨ms, c0, x5, rfl, s2, hp, hn, ha⟩ (fun j σ H2 hj ⟨ms, c, x5, e, s2, hp, hn, ha⟩ => ?_) fun σ H2 ⟨ms, c, x5, e, s2, hp, hn, ha⟩ => ?_⟩
        · subst e
          refine ⟨_, rfl, _, _, rfl, rfl, _, rfl, Cm.itD (fun h1 => ?_) fun h1 => ?_⟩
          · refine ⟨_, rfl, p, _, rfl, .inl (SqL.of hp), _, rfl, _, _, rfl, rfl, _, rfl, Cm.itD (fun h2 => ?_) fun h2 => ?_⟩
            · rw [len_map] at h2
              refine ⟨_, rfl, .inl ⟨rfl, _, SqL.of hp⟩, _, rfl, _, _, rfl, rfl, pMod, p, _, _, rfl, rfl, hp, Cm.smallL (by rw [len_map]; omega), ?_⟩
              refine ⟨_, rfl, _, _, rfl, rfl, ⟨by decide, by decide⟩, ?_⟩
              exact ⟨ms ++ [c % 10007], _, _, rfl, Cm.same_mut s2 np, by rw [upd_same, map_snoc], by rw [List.length_append]; simp only [List.length_cons, List.length_nil]; omega, num_snoc ha (by omega) (by omega)⟩
            · exact ⟨ms, c, _, rfl, s2, hp, hn, ha⟩
          · exact ⟨ms, c, _, rfl, s2, hp, hn, ha⟩
        · subst e
          exact ⟨ms, _, _, _, _, rfl, s2, hp, hn, ha⟩
      · refine ⟨_, rfl, p, _, rfl, .inl (SqL.of hp), _, rfl, _, _, rfl, rfl, _, rfl, Cm.itD (fun h2 => ?_) fun h2 => ?_⟩
        · rw [len_map] at h2
          refine ⟨_, rfl, _, _, rfl, rfl, .inr ⟨by decide, by decide⟩, _, rfl, _, _, rfl, rfl, .inr ⟨by decide, by decide⟩, _, _, rfl, rfl, _, _, rfl, rfl, .inl ⟨_, rfl, _, _, rfl, rfl, pMersenne, ?_⟩⟩
          refine ⟨_, rfl, .inl ⟨rfl, _, SqL.of hp⟩, _, rfl, _, _, rfl, rfl, .inr ⟨by decide, by decide⟩, _, rfl, _, _, rfl, rfl, .inl ⟨by decide, by decide⟩, _, _, rfl, rfl, _, _, rfl, rfl, .inl ⟨_, rfl, _, _, rfl, rfl, pMersenne, _, _, rfl, rfl, ⟨by decide, by decide⟩, p, _, _, rfl, rfl, hp, Cm.smallL (by rw [len_map]; omega), ?_⟩⟩
          have hy := mersenne ((c0 * 48271 + (0 + (i : Int)) * 69621 + 11) % 2147483647 * 16807 + 7 * (0 + (i : Int)) + 3)
          exact ⟨ms ++ [((c0 * 48271 + (0 + (i : Int)) * 69621 + 11) % 2147483647 * 16807 + 7 * (0 + (i : Int)) + 3) % 2147483647 / 3], _, _, _, _, rfl, Cm.same_mut s2 np, by rw [upd_same, map_snoc], by rw [List.length_append]; simp only [List.length_cons, List.length_nil]; omega, num_snoc ha (by omega) (by omega)⟩
        · exact ⟨ms, _, _, _, _, rfl, s2, hp, hn, ha⟩
    · subst e
      -- base = len(numbers)
      refine ⟨_, rfl, p, _, rfl, .inl (SqL.of hp), ?_⟩
      rw [len_map]
      refine ⟨_, rfl, l, _, rfl, .inl (s2.seq hl), _, _, rfl, rfl, ?_⟩
      rw [len_map]
      -- for k in range(max(0, many - base))
      refine ⟨_, rfl, _, rfl, _, _, rfl, rfl, _, _, rfl, _, rfl, by split <;> omega, by split <;> omega, ?_⟩
      rw [show (if (many : Int) - (ms.length : Int) > 0 then (many : Int) - (ms.length : Int) else 0).toNat = many - ms.length by split <;> omega]
      have nb : NumOk ms := ha
      refine for_range (n := many - ms.length) (fun i σ H2 => ∃ (m2 : List Int) (L : Int) (x3 : Option V), σ = [some (.ref l), some (.int many), some (.ref p), x3, x4, x5, x6, some (.int ms.length), some (.int L)] ∧ (0 ≤ L ∧ L < 2147483647) ∧ Same H H2 ∧ H2 p = some (.lst (m2.map V.int)) ∧ m2.length = ms.length + i ∧ NumOk m2)
        ⟨ms, _, _, rfl, ⟨by omega, by omega⟩, s2, hp, rfl, ha⟩ (fun i σ H2 hi ⟨m2, L, x3, e, hL, s2, hp, hn2, ha⟩ => ?_) fun σ H2 ⟨m2, L, x3, e, hL, s2, hp, hn2, ha⟩ => ?_
      · subst e
        refine ⟨_, rfl, _, _, rfl, rfl, _, rfl, Cm.itD (fun hb => ?_) fun hb => ?_⟩
        · have hb0 : (0 : Int) < (ms.length : Int) := hb
          have g0 := Int.emod_nonneg (0 + (i : Int)) (show (ms.length : Int) ≠ 0 by omega)
          have g1 := Int.emod_lt_of_pos (0 + (i : Int)) hb0
          obtain ⟨v, hv, ev⟩ := Cm.at_int (ns := m2) (i := (0 + (i : Int)) % (ms.length : Int)) g0 (by omega)
          obtain ⟨hv0, hv1⟩ := ha v hv
          refine ⟨_, rfl, _, rfl, _, rfl, _, rfl, _, _, rfl, rfl, hb0, p, _, _, _, rfl, rfl, SqL.of hp, ev, _, _, rfl, rfl, ?_⟩
          refine ⟨_, rfl, _, _, rfl, rfl, .inr ⟨by decide, by decide⟩, _, rfl, _, _, rfl, rfl, .inl ⟨_, rfl, _, _, rfl, rfl, pMersenne, ?_⟩⟩
          have hy := mersenne ((L + v) * 48271 + (0 + (i : Int)))
          refine ⟨_, rfl, .inl ⟨rfl, _, SqL.of hp⟩, _, rfl, _, _, rfl, rfl, ⟨by decide, by decide⟩, p, _, _, rfl, rfl, hp, Cm.smallL (by rw [len_map]; omega), ?_⟩
          exact ⟨m2 ++ [((L + v) * 48271 + (0 + (i : Int))) % 2147483647 / 7], _, _, rfl, hy, Cm.same_mut s2 np, by rw [upd_same, map_snoc], by rw [List.length_append]; simp only [List.length_cons, List.length_nil]; omega, num_snoc ha (by omega) (by omega)⟩
        · refine ⟨_, rfl, _, _, rfl, rfl, .inr ⟨by decide, by decide⟩, _, rfl, _, _, rfl, rfl, .inl ⟨_, rfl, _, _, rfl, rfl, pMersenne, ?_⟩⟩
          have hy := mersenne (L * 48271 + (0 + (i : Int)))
          refine ⟨_, rfl, .inl ⟨rfl, _, SqL.of hp⟩, _, rfl, _, _, rfl, rfl, ⟨by decide, by decide⟩, p, _, _, rfl, rfl, hp, Cm.smallL (by rw [len_map]; omega), ?_⟩
          exact ⟨m2 ++ [(L * 48271 + (0 + (i : Int))) % 2147483647 / 7], _, _, rfl, hy, Cm.same_mut s2 np, by rw [upd_same, map_snoc], by rw [List.length_append]; simp only [List.length_cons, List.length_nil]; omega, num_snoc ha (by omega) (by omega)⟩
      · subst e
        have hl2 : m2.length = many := by omega
        refine ⟨_, rfl, _, rfl, _, rfl, p, _, rfl, SqL.of hp, fun p2 np2 => ?_⟩
        rw [cut_all (by rw [len_map]; exact hl2)]
        exact q _ p2 m2 (s2.trans (Cm.same_new np2)) (s2.free np2) upd_same hl2 ha
/-- numbers[x % len(numbers)] -/
theorem at_mod {ns : List Int} (x : Int) (h : 0 < ns.length) : (0 : Int) < ((ns.map V.int).length : Int) ∧ ∃ v, v ∈ ns ∧ atI (ns.map V.int) (x % ((ns.map V.int).length : Int)) = some (.int v) := by
  have hp : (0 : Int) < ((ns.map V.int).length : Int) := by
    rw [len_map]
    omega
  have h0 := Int.emod_nonneg x (show ((ns.map V.int).length : Int) ≠ 0 by omega)
  have h1 := Int.emod_lt_of_pos x hp
  obtain ⟨v, hv, ev⟩ := Cm.at_int (ns := ns) h0 (by rw [len_map] at h1 ⊢; exact h1)
  exact ⟨hp, v, hv, ev⟩
/-! ### a post: its attributes -/
theorem putF_len (f : Str) (v : V) : ∀ fs : List (Str × V), (putF f v fs).length ≤ fs.length + 1
  | [] => Nat.le_refl _
  | (g, u) :: r => by
    have ih := putF_len f v r
    unfold putF
    split <;> simp only [List.length_cons] <;> omega

abbrev CPo (K : PySem.W.Frag) : Addr := He.ga K "Post"
def fldsP (me : Int) (ol nd hd : Addr) : List (Str × V) := putF "_heard" (.ref hd) (putF "_numbers" (.ref nd) (putF "_letters" (.ref ol) (putF "_me" (.int me) [])))
theorem fp_heard {me : Int} {ol nd hd : Addr} : (fldsP me ol nd hd).lookup ("_heard" : Str) = some (.ref hd) := by
  unfold fldsP
  rw [lookup_putF, if_pos rfl]
theorem fp_numbers {me : Int} {ol nd hd : Addr} : (fldsP me ol nd hd).lookup ("_numbers" : Str) = some (.ref nd) := by
  unfold fldsP
  rw [lookup_putF, if_neg (by decide +kernel), lookup_putF, if_pos rfl]
theorem fp_letters {me : Int} {ol nd hd : Addr} : (fldsP me ol nd hd).lookup ("_letters" : Str) = some (.ref ol) := by
  unfold fldsP
  rw [lookup_putF, if_neg (by decide +kernel), lookup_putF, if_neg (by decide +kernel), lookup_putF, if_pos rfl]
theorem fp_me {me : Int} {ol nd hd : Addr} : (fldsP me ol nd hd).lookup ("_me" : Str) = some (.int me) := by
  unfold fldsP
  rw [lookup_putF, if_neg (by decide +kernel), lookup_putF, if_neg (by decide +kernel), lookup_putF, if_neg (by decide +kernel), lookup_putF, if_pos rfl]
theorem fp_no {me : Int} {ol nd hd : Addr} {m : Str} (h : m ∉ (["_heard", "_numbers", "_letters", "_me"] : List Str)) : (fldsP me ol nd hd).lookup m = none := by
  unfold fldsP
  simp only [List.mem_cons, List.not_mem_nil, or_false, not_or] at h
  rw [lookup_putF, if_neg (fun e => h.1 e), lookup_putF, if_neg (fun e => h.2.1 e), lookup_putF, if_neg (fun e => h.2.2.1 e), lookup_putF, if_neg (fun e => h.2.2.2 e)]
  rfl
theorem rps_ints {H : Hp} : ∀ {vs : List V} {ns : List Int}, Rps K H vs (ns.map PyData.int) → vs = ns.map V.int
  | _, [], h => h.nil_inv
  | _, n :: ns, h => by
    obtain ⟨v, r, rfl, h1, h2⟩ := h.cons_inv
    rw [h1.int_inv, rps_ints h2]
    rfl
theorem ints_rps {H : Hp} : ∀ ns : List Int, Rps K H (ns.map V.int) (ns.map PyData.int)
  | [] => .nil
  | n :: ns => .cons (.int n) (ints_rps ns)
abbrev srtI (l : List Int) : List Int := l.mergeSort (fun a b => decide (a ≤ b))
theorem srt_ints (l : List Int) : SortN.srt (l.map PyData.int) = (srtI l).map PyData.int :=
  (PySem.W.sort_maps (r := fun a b : Int => decide (a ≤ b)) (s := SortN.dle) PyData.int (l := l) fun a _ b _ => (congrFun (congrFun (PySem.W.dataLe_int (fun x : Int => x)) a) b).symm).symm
theorem ints_alike (l : List Int) : PySem.W.AllAlike (l.map PyData.int) := by
  intro d hd d' hd'
  obtain ⟨a, _, rfl⟩ := List.mem_map.mp hd
  obtain ⟨b, _, rfl⟩ := List.mem_map.mp hd'
  simp [PySem.W.alike]
theorem ints_depth (l : List Int) : ∀ d ∈ l.map PyData.int, d.depth ≤ 50 := by
  intro d hd
  obtain ⟨a, _, rfl⟩ := List.mem_map.mp hd
  simp [PyData.depth]
/-! ### what numbers were taken -/
theorem in_ints {n : Int} : ∀ {l : List Int}, inV (.int n) (l.map V.int) = decide (n ∈ l)
  | [] => rfl
  | x :: r => by
    show (eqV (.int x) (.int n) || inV (.int n) (r.map V.int)) = _
    rw [in_ints (l := r)]
    show ((x == n) || decide (n ∈ r)) = _
    by_cases e : x = n
    · simp [e]
    · rw [show (x == n) = false from by simpa using e, Bool.false_or, decide_eq_decide]
      exact ⟨List.mem_cons_of_mem _, fun z => (List.mem_cons.mp z).elim (fun h => absurd h.symm e) id⟩
theorem flat_ints : ∀ {l : List Int}, (l.map V.int).all flatV = true
  | [] => rfl
  | x :: r => flat_ints (l := r)
/-- what a pair (low, beyond) tells -/
def tellsF (low : Int) (bey : List Int) (n : Int) : Bool := (decide (0 ≤ n) && decide (n < low)) || decide (n ∈ bey)
def spTells (K : PySem.W.Frag) : Sp := fun vs H Q _ => ∃ (b by_ : Addr) (low n : Int) (bey : List Int), vs = [.ref b, .int n] ∧ SqT K H b [.int low, .ref by_] ∧ SqT K H by_ (bey.map V.int) ∧ Q (.bl (tellsF low bey n)) H
theorem ok_tells (T : Txt K mg w a) : FnOk P w K mg base CX0 1 (He.ga K "_tells") a.d_tells ["told", "number"] (spTells K) := by
  refine T.F_tells.ok sc_tells (fun vs H Q E h => ?_) (fun cdv A outer s H vs Q E hr h => ?_)
  · obtain ⟨b, by_, low, n, bey, rfl, _⟩ := h
    rfl
  · obtain ⟨b, by_, low, n, bey, rfl, hb, hy, q⟩ := h
    refine ⟨_, PSs.nox (pss_cons (ps_asg (pv 0) (pg_tup (by rfl) (pgs_cons (pg_name (i := 2) sc_tells.nd rfl (Or.inl rfl)) (pgs_cons (pg_name (i := 3) sc_tells.nd rfl (Or.inl rfl)) pgs_nil))))
      (pss_one (ps_ret (pe_or (pe_chain op_le op_lt pe_int (pv 1) (pv 2)) (pe_one (pe_cmpR op_in_seq (pv 1) (pv 3) (by rfl))))))), ?_⟩
    rw [show L2.start N_tells [.ref b, .int n] = [some (.ref b), some (.int n), none, none] from rfl]
    refine ⟨_, rfl, b, _, rfl, hb, rfl, _, _, rfl, _, _, rfl, rfl, ?_⟩
    have fin : ∀ Q' : VK, Q' (.bl (decide (n ∈ bey))) H → rIn K false (.int n) (.ref by_) H Q' := fun Q' z => by
      refine ⟨by_, _, rfl, .inr hy, rfl, flat_ints, ?_⟩
      rw [show (if false = true then !inV (.int n) (bey.map V.int) else inV (.int n) (bey.map V.int)) = decide (n ∈ bey) from in_ints]
      exact z
    refine ⟨_, rfl, _, _, rfl, rfl, _, rfl, Cm.itD (fun h0 => ⟨_, rfl, _, _, rfl, rfl, _, rfl, Cm.itD (fun h1 => ?_) fun h1 => ?_⟩) fun h0 => ⟨false, rfl, iteF ?_⟩⟩
    · rw [show tellsF low bey n = true from by simp [tellsF, h0, h1]] at q
      exact q
    · rw [show tellsF low bey n = decide (n ∈ bey) from by simp [tellsF, h0, h1]] at q
      exact ⟨_, rfl, _, rfl, fin _ q⟩
    · rw [show tellsF low bey n = decide (n ∈ bey) from by simp [tellsF, h0]] at q
      exact ⟨_, rfl, _, rfl, fin _ q⟩
theorem cut_from {xs : List V} {k : Nat} (h : k ≤ xs.length) : cutV xs (some (k : Int)) none = xs.drop k := by
  have e0 : HT.sIx xs.length 0 (some (k : Int)) = k := by
    show HT.sIx xs.length 0 (some (k : Int)) = k
    unfold HT.sIx
    simp only
    rw [if_neg (by omega)]
    have : ((k : Int)).toNat = k := by omega
    simp only [this]
    omega
  unfold cutV
  rw [e0, HT.sIx_none]
  exact List.take_of_length_le (by rw [List.length_drop]; exact Nat.le_refl _)
/-- how many of a row follow one another from low on -/
def runF : List Int → Int → Nat
  | [], _ => 0
  | x :: r, low => if x = low then runF r (low + 1) + 1 else 0
theorem runF_le : ∀ (l : List Int) (low : Int), runF l low ≤ l.length
  | [], _ => Nat.le_refl _
  | x :: r, low => by
    show (if x = low then runF r (low + 1) + 1 else 0) ≤ r.length + 1
    have := runF_le r (low + 1)
    split <;> omega
def withF (low : Int) (bey : List Int) (n : Int) : Int × List Int := (low + (runF (srtI (bey ++ [n])) low : Int), (srtI (bey ++ [n])).drop (runF (srtI (bey ++ [n])) low))
def PairAt (K : PySem.W.Frag) (H : Hp) (v : V) (pr : Int × List Int) : Prop := ∃ b by_, v = .ref b ∧ SqT K H b [.int pr.1, .ref by_] ∧ SqT K H by_ (pr.2.map V.int)
def spWithN (K : PySem.W.Frag) : Sp := fun vs H Q _ => ∃ (v : V) (pr : Int × List Int) (n : Int), vs = [v, .int n] ∧ PairAt K H v pr ∧ pr.2.length ≤ 1000 ∧ ∀ H' v', Same H H' → PairAt K H' v' (withF pr.1 pr.2 n) → Q v' H'
theorem ok_with_number (T : Txt K mg w a) : FnOk P w K mg base CX0 1 (He.ga K "_with_number") a.d_with_number ["told", "number"] (spWithN K) := by
  refine T.F_with_number.ok sc_with_number (fun vs H Q E h => ?_) (fun cdv A outer s H vs Q E hr h => ?_)
  · obtain ⟨v, pr, n, rfl, _⟩ := h
    rfl
  · obtain ⟨v, ⟨low, bey⟩, n, rfl, ⟨b, by_, rfl, hb, hy⟩, hl, q⟩ := h
    refine ⟨_, PSs.nox (pss_cons (ps_asg (pv 0) (pg_tup (by rfl) (pgs_cons (pg_name (i := 2) sc_with_number.nd rfl (Or.inl rfl)) (pgs_cons (pg_name (i := 3) sc_with_number.nd rfl (Or.inl rfl)) pgs_nil))))
      (pss_cons (ps_set (i := 4) sc_with_number.nd rfl (Or.inl rfl) (pe_callB (SortN.call_sortTup rfl hr.units) (by rfl) T.g_sorted boot_sorted (pa_cons (pe_op op_catA (pv 3) (pe_tup (pa_cons (pv 1) pa_nil))) pa_nil)))
      (pss_cons (ps_set (i := 5) sc_with_number.nd rfl (Or.inl rfl) pe_int)
      (pss_cons (ps_while PassesOwn.never (PW.pt (pw_and (pt_cmpR op_lt (pv 5) (pe_callB call_len_seq (by rfl) T.g_len boot_len (pa_cons (pv 4) pa_nil)) (nomark _)) (pw_and1 (pt_cmpR op_eq (pe_ix ix_list (pv 4) (pv 5) (fun _ _ => rfl)) (pe_op op_add (pv 2) (pv 5)) (nomark _)))))
      (pss_one (ps_aug (i := 5) sc_with_number.nd rfl (Or.inl rfl) pe_int ip_add)))
      (pss_one (ps_ret (pe_tup (pa_cons (pe_op op_add (pv 2) (pv 5)) (pa_cons (pe_callTy call_tuple_of (by rfl) T.g_tuple boot_tuple (pa_cons (pe_slice sl_list (pv 4) (po_some (pv 5)) po_none) pa_nil)) pa_nil))))))))), ?_⟩
    rw [show L2.start N_with_number [.ref b, .int n] = [some (.ref b), some (.int n), none, none, none, none] from rfl]
    refine ⟨_, rfl, b, _, rfl, hb, rfl, _, _, rfl, _, _, rfl, rfl, ?_⟩
    have hl' : bey.length ≤ 1000 := hl
    refine ⟨_, rfl, _, rfl, Cm.small (by show 1 ≤ 100000; decide), fun t nt => ?_⟩
    have st := Cm.same_new (o := .tup [.int n]) nt
    refine Nst.cat_sq (Cm.sameT st hy) Cm.sqt_new (by rw [len_map]; simp only [List.length_cons, List.length_nil]; omega) fun r H2 s2 hr2 => ?_
    rw [show bey.map V.int ++ [V.int n] = (bey ++ [n]).map V.int from map_snoc] at hr2
    refine ⟨r, _, _, rfl, hr2, ints_rps _, ints_alike _, ?_, ints_depth _, fun ys nl ry nnl => ?_⟩
    · refine .inr fun d hd => ?_
      obtain ⟨i, _, rfl⟩ := List.mem_map.mp hd
      exact ⟨fun z => (nomatch z), fun xs z => (nomatch z)⟩
    · rw [srt_ints] at ry
      obtain rfl := rps_ints ry
      have s12 := st.trans s2
      have s3 := Cm.same_new (o := .lst ((srtI (bey ++ [n])).map V.int)) nnl
      have hnl : (upd H2 nl (.lst ((srtI (bey ++ [n])).map V.int))) nl = some (.lst ((srtI (bey ++ [n])).map V.int)) := upd_same
      have s13 := s12.trans s3
      generalize upd H2 nl (.lst ((srtI (bey ++ [n])).map V.int)) = H3 at *
      generalize hL : srtI (bey ++ [n]) = L at *
      have hLl : L.length = bey.length + 1 := by
        rw [← hL, List.length_mergeSort, List.length_append]
        rfl
      have hrl := runF_le L low
      simp only [gName, List.set_cons_succ, List.set_cons_zero]
      refine ⟨fun m σ Hi => Hi = H3 ∧ ∃ k : Nat, σ = [some (.ref b), some (.int n), some (.int low), some (.ref by_), some (.ref nl), some (.int k)] ∧ k ≤ L.length ∧ runF (L.drop k) (low + k) + k = runF L low ∧ m = L.length - k, ⟨_, rfl, 0, rfl, Nat.zero_le _, by simp, rfl⟩, fun m σ Hi ⟨eH, k, e, hk, hrk, hm⟩ => ?_⟩
      subst eH e
      refine ⟨_, rfl, _, rfl, nl, _, rfl, .inl (SqL.of hnl), _, _, rfl, rfl, _, rfl, Cm.itD (fun h => ?_) fun h => ?_⟩
      · rw [len_map] at h
        have hk2 : k < L.length := by omega
        obtain ⟨v, hgk⟩ : ∃ v, L[k]? = some v := ⟨_, List.getElem?_eq_getElem hk2⟩
        have ev : atI (L.map V.int) (k : Int) = some (.int v) := atI_nat (j := k) (by rw [List.getElem?_map, hgk]; rfl)
        have hdr : L.drop k = v :: L.drop (k + 1) := by
          rw [List.drop_eq_getElem_cons hk2]
          rw [List.getElem?_eq_getElem hk2] at hgk
          rw [Option.some.inj hgk]
        rw [hdr] at hrk
        have hrk' : (if v = low + (k : Int) then runF (L.drop (k + 1)) (low + k + 1) + 1 else 0) + k = runF L low := hrk
        refine ⟨_, rfl, _, rfl, nl, _, _, _, rfl, rfl, SqL.of hnl, ev, _, rfl, _, rfl, _, _, rfl, rfl, rfl, _, rfl, Cm.itEI (fun e => ?_) fun e => ?_⟩
        · rw [if_pos e] at hrk'
          refine ⟨fun σ' H' => σ' = [some (.ref b), some (.int n), some (.int low), some (.ref by_), some (.ref nl), some (.int ((k : Int) + 1))] ∧ H' = Hi, fun σ' H' ⟨e1, e2⟩ => ⟨L.length - (k + 1), by omega, e2, k + 1, by rw [e1]; rfl, by omega, ?_, rfl⟩, _, rfl, _, _, rfl, rfl, rfl, rfl⟩
          rw [← hrk', show low + ((k + 1 : Nat) : Int) = low + k + 1 by omega]
          omega
        · rw [if_neg e] at hrk'
          have hfin : runF L low = k := by omega
          refine ⟨_, rfl, _, rfl, _, _, rfl, rfl, _, rfl, _, rfl, _, rfl, nl, _, rfl, SqL.of hnl, fun p2 np2 => ⟨p2, _, rfl, .inl ⟨Cm.sql_new, fun l3 nl3 => ⟨Cm.small (by show 2 ≤ 100000; decide), fun p4 np4 => ?_⟩⟩⟩⟩
          have z1 := Cm.same_new (o := .lst (cutV (L.map V.int) (some (k : Int)) none)) np2
          have z2 := Cm.same_new (o := .tup (cutV (L.map V.int) (some (k : Int)) none)) nl3
          have z3 := Cm.same_new (o := .tup [.int (low + (k : Int)), .ref l3]) np4
          refine q _ _ (s13.trans ((z1.trans z2).trans z3)) ⟨p4, l3, rfl, ?_, ?_⟩
          · show SqT K _ p4 [.int (low + (runF (srtI (bey ++ [n])) low : Int)), .ref l3]
            rw [hL, hfin]
            exact Cm.sqt_new
          · show SqT K _ l3 (((srtI (bey ++ [n])).drop (runF (srtI (bey ++ [n])) low)).map V.int)
            rw [hL, hfin, List.map_drop, ← cut_from (by rw [len_map]; exact hk)]
            exact Cm.sameT z3 Cm.sqt_new
      · rw [len_map] at h
        have hk2 : k = L.length := by omega
        have hfin : runF L low = k := by
          rw [← hrk, hk2, List.drop_length]
          show 0 + L.length = L.length
          omega
        refine ⟨_, rfl, _, rfl, _, _, rfl, rfl, _, rfl, _, rfl, _, rfl, nl, _, rfl, SqL.of hnl, fun p2 np2 => ⟨p2, _, rfl, .inl ⟨Cm.sql_new, fun l3 nl3 => ⟨Cm.small (by show 2 ≤ 100000; decide), fun p4 np4 => ?_⟩⟩⟩⟩
        have z1 := Cm.same_new (o := .lst (cutV (L.map V.int) (some (k : Int)) none)) np2
        have z2 := Cm.same_new (o := .tup (cutV (L.map V.int) (some (k : Int)) none)) nl3
        have z3 := Cm.same_new (o := .tup [.int (low + (k : Int)), .ref l3]) np4
        refine q _ _ (s13.trans ((z1.trans z2).trans z3)) ⟨p4, l3, rfl, ?_, ?_⟩
        · show SqT K _ p4 [.int (low + (runF (srtI (bey ++ [n])) low : Int)), .ref l3]
          rw [hL, hfin]
          exact Cm.sqt_new
        · show SqT K _ l3 (((srtI (bey ++ [n])).drop (runF (srtI (bey ++ [n])) low)).map V.int)
          rw [hL, hfin, List.map_drop, ← cut_from (by rw [len_map]; exact hk)]
          exact Cm.sameT z3 Cm.sqt_new
/-! ### a post stands at p -/
abbrev Nums : Type := List (Int × Int)
abbrev Heard : Type := List (Int × (Int × List Int))
abbrev NumsV (ns : Nums) : List (Key × V) := ns.map fun x => (Sum.inl x.1, V.int x.2)
abbrev HeardV (K : PySem.W.Frag) (H : Hp) : List (Key × V) → Heard → Prop := Paired fun p q => p.1 = Sum.inl q.1 ∧ PairAt K H p.2 q.2
structure PostAt (K : PySem.W.Frag) (H : Hp) (p ol nd hd : Addr) (me : Int) (ls : List V) (ns : Nums) (hs : Heard) : Prop where
  ob : ∃ dx, H p = some (.ins (CPo K) dx (fldsP me ol nd hd))
  lt : H ol = some (.lst ls)
  nm : H nd = some (.dK (NumsV ns))
  hr : ∃ kvs, H hd = some (.dK kvs) ∧ HeardV K H kvs hs
def spPInit (K : PySem.W.Frag) : Sp := fun vs H Q _ => ∃ (p dx : Addr) (me : Int), vs = [.ref p, .int me] ∧ H p = some (.ins (CPo K) dx []) ∧
  ∀ (ol nd hd : Addr) (H' : Hp), H ol = none → H nd = none → H hd = none → nd ≠ hd → PostAt K H' p ol nd hd me [] [] [] → (∀ b o, H b = some o → b ≠ p → H' b = some o) → Q .non H'
theorem ok_Post_init (T : Txt K mg w a) : FnOk P w K mg base CX0 1 (He.ma K (CPo K) "__init__") a.d_Post_init ["self", "me"] (spPInit K) := by
  refine T.F_Post_init.ok sc_Post_init (fun vs H Q E h => ?_) (fun cdv A outer s H vs Q E hr h => ?_)
  · obtain ⟨p, dx, me, rfl, _⟩ := h
    rfl
  · obtain ⟨p, dx, me, rfl, hp, q⟩ := h
    refine ⟨_, PSs.nox (pss_cons (ps_fld (pv 0) (pv 1) rfl)
      (pss_cons (ps_fld (pv 0) (pe_lst pa_nil) rfl)
      (pss_cons (ps_fld (pv 0) pe_dnewK rfl)
      (pss_one (ps_fld (pv 0) pe_dnewK rfl))))), ?_⟩
    refine ⟨_, rfl, _, rfl, p, CPo K, dx, [], rfl, hp, T.c_Post, T.n_Post__me, by decide, ?_⟩
    have l1 := putF_len "_me" (.int me) []
    simp only [List.length_nil] at l1
    refine ⟨Nat.zero_le _, fun ol ho => ?_⟩
    have n1 : p ≠ ol := ne_of_none upd_same ho
    have l2 := putF_len "_letters" (.ref ol) (putF "_me" (.int me) [])
    refine ⟨_, rfl, p, CPo K, dx, _, rfl, by rw [upd_ne n1]; exact upd_same, T.c_Post, T.n_Post__letters, by omega, ?_⟩
    intro nd hn
    have n2 : p ≠ nd := ne_of_none upd_same hn
    have n3 : ol ≠ nd := ne_of_none (by rw [upd_ne n1.symm]; exact upd_same) hn
    have l3 := putF_len "_numbers" (.ref nd) (putF "_letters" (.ref ol) (putF "_me" (.int me) []))
    refine ⟨_, rfl, p, CPo K, dx, _, rfl, by rw [upd_ne n2]; exact upd_same, T.c_Post, T.n_Post__numbers, by omega, ?_⟩
    intro hd hh
    have n4 : p ≠ hd := ne_of_none upd_same hh
    have n5 : nd ≠ hd := ne_of_none (by rw [upd_ne n2.symm]; exact upd_same) hh
    have n6 : ol ≠ hd := ne_of_none (by rw [upd_ne n1.symm, upd_ne n3, upd_ne n1.symm]; exact upd_same) hh
    refine ⟨_, rfl, p, CPo K, dx, _, rfl, by rw [upd_ne n4]; exact upd_same, T.c_Post, T.n_Post__heard, by omega, ?_⟩
    have hon : H ol = none := by
      rw [upd_ne n1.symm] at ho
      exact ho
    have hnn : H nd = none := by
      rw [upd_ne n2.symm, upd_ne n3.symm, upd_ne n2.symm] at hn
      exact hn
    have hhn : H hd = none := by
      rw [upd_ne n4.symm, upd_ne n5.symm, upd_ne n4.symm, upd_ne n6.symm, upd_ne n4.symm] at hh
      exact hh
    refine q ol nd hd _ hon hnn hhn n5 ⟨⟨dx, upd_same⟩, ?_, ?_, ⟨[], ?_, .nil⟩⟩ fun b u hb hne => ?_
    · rw [upd_ne n1.symm, upd_ne n6, upd_ne n1.symm, upd_ne n3, upd_ne n1.symm, upd_same]
    · rw [upd_ne n2.symm, upd_ne n5, upd_ne n2.symm, upd_same]
      rfl
    · rw [upd_ne n4.symm, upd_same]
    · rw [upd_ne hne, upd_ne (ne_of_none hb hhn), upd_ne hne, upd_ne (ne_of_none hb hnn), upd_ne hne, upd_ne (ne_of_none hb hon), upd_ne hne]
      exact hb
/-! ### dicts by numbers -/
def lkA {α : Type} (ns : List (Int × α)) (k : Int) : Option α := (ns.find? fun x => decide (x.1 = k)).map (·.2)
def puA {α : Type} (ns : List (Int × α)) (k : Int) (v : α) : List (Int × α) := if (ns.any fun x => decide (x.1 = k)) = true then ns.map (fun x => if x.1 = k then (x.1, v) else x) else ns ++ [(k, v)]
theorem inl_eq {a b : Int} : ((Sum.inl a : Key) = Sum.inl b) ↔ a = b := ⟨fun h => Sum.inl.inj h, fun h => by rw [h]⟩
theorem numsV_get (k : Int) : ∀ ns : Nums, valV (NumsV ns) (Sum.inl k) = (lkA ns k).map V.int
  | [] => rfl
  | (x, n) :: r => by
    have ih := numsV_get k r
    unfold valV lkA NumsV at ih ⊢
    rw [List.map_cons, List.find?_cons, List.find?_cons]
    by_cases e : x = k
    · simp [e]
    · rw [show decide ((Sum.inl (x, n).1 : Key) = Sum.inl k) = false from decide_eq_false (fun h => e (inl_eq.mp h)), show decide ((x, n).1 = k) = false from decide_eq_false e]
      exact ih
theorem numsV_any (k : Int) (ns : Nums) : ((NumsV ns).any fun kv => decide (kv.1 = Sum.inl k)) = ns.any fun x => decide (x.1 = k) := by
  unfold NumsV
  rw [List.any_map]
  congr 1
  funext x
  show decide ((Sum.inl x.1 : Key) = Sum.inl k) = decide (x.1 = k)
  rw [decide_eq_decide]
  exact inl_eq
theorem numsV_put (k v : Int) (ns : Nums) : putK (NumsV ns) (Sum.inl k) (.int v) = NumsV (puA ns k v) := by
  unfold putK puA
  rw [numsV_any]
  split
  · unfold NumsV
    rw [List.map_map, List.map_map]
    refine List.map_congr_left fun x _ => ?_
    show (if (Sum.inl x.1 : Key) = Sum.inl k then ((Sum.inl x.1 : Key), V.int v) else (Sum.inl x.1, V.int x.2)) = (fun y : Int × Int => ((Sum.inl y.1 : Key), V.int y.2)) (if x.1 = k then (x.1, v) else x)
    by_cases e : x.1 = k
    · rw [if_pos (inl_eq.mpr e), if_pos e]
    · rw [if_neg (fun h => e (inl_eq.mp h)), if_neg e]
  · unfold NumsV
    rw [List.map_append]
    rfl
theorem heardV_get {K : PySem.W.Frag} {H : Hp} {kvs : List (Key × V)} {hs : Heard} (h : HeardV K H kvs hs) (k : Int) : match lkA hs k with | none => valV kvs (Sum.inl k) = none | some pr => ∃ v, valV kvs (Sum.inl k) = some v ∧ PairAt K H v pr := by
  induction h with
  | nil => exact rfl
  | @cons p q ps qs h t ih =>
    obtain ⟨e1, e2⟩ := h
    unfold valV lkA at ih ⊢
    rw [List.find?_cons, List.find?_cons]
    by_cases e : q.1 = k
    · rw [show decide (p.1 = Sum.inl k) = true from decide_eq_true (by rw [e1, e]), show decide (q.1 = k) = true from decide_eq_true e]
      exact ⟨_, rfl, e2⟩
    · rw [show decide (p.1 = Sum.inl k) = false from decide_eq_false (fun h => e (inl_eq.mp (e1.symm.trans h))), show decide (q.1 = k) = false from decide_eq_false e]
      exact ih
theorem PairAt.keep {K : PySem.W.Frag} {H H' : Hp} (t : TK K H H') {v : V} {pr : Int × List Int} (h : PairAt K H v pr) : PairAt K H' v pr := by
  obtain ⟨b, by_, e, h1, h2⟩ := h
  exact ⟨b, by_, e, t _ _ h1, t _ _ h2⟩
theorem HeardV.keep {K : PySem.W.Frag} {H H' : Hp} (t : TK K H H') {kvs : List (Key × V)} {hs : Heard} (h : HeardV K H kvs hs) : HeardV K H' kvs hs := Paired.mapP h fun _ _ z => ⟨z.1, z.2.keep t⟩
/-! ### what is told of it -/
def getN (ns : Nums) (k : Int) : Int := (lkA ns k).getD 0
def getH (hs : Heard) (k : Int) : Int × List Int := (lkA hs k).getD (0, [])
def spNext (K : PySem.W.Frag) : Sp := fun vs H Q _ => ∃ (p ol nd hd : Addr) (me : Int) (ls : List V) (ns : Nums) (hs : Heard) (o : Int), vs = [.ref p, .int o] ∧ PostAt K H p ol nd hd me ls ns hs ∧ Q (.int (getN ns o)) H
theorem ok_Post_next_number (T : Txt K mg w a) : FnOk P w K mg base CX0 1 (He.ma K (CPo K) "next_number") a.d_Post_next_number ["self", "other"] (spNext K) := by
  refine T.F_Post_next_number.ok sc_Post_next_number (fun vs H Q E h => ?_) (fun cdv A outer s H vs Q E hr h => ?_)
  · obtain ⟨p, ol, nd, hd, me, ls, ns, hs, o, rfl, _⟩ := h
    rfl
  · obtain ⟨p, ol, nd, hd, me, ls, ns, hs, o, rfl, G, q⟩ := h
    obtain ⟨⟨dx, h1⟩, h2, h3, kvs, h4, h5⟩ := id G
    refine ⟨_, PSs.nox (pss_one (ps_ret (pe_dget2 (hu_of hr) (pe_fld (pv 0) rfl) (pv 1) pe_int ⟨rfl, rfl, rfl, rfl⟩))), ?_⟩
    refine ⟨_, rfl, p, CPo K, dx, _, _, rfl, h1, T.c_Post, T.n_Post__numbers, fp_numbers, nd, rfl, .inl ⟨_, .inl h3⟩, _, rfl, _, .inl ⟨_, Sum.inl o, .inl h3, rfl, rfl⟩, ?_⟩
    rw [show valV (NumsV ns) (Sum.inl o) = (lkA ns o).map V.int from numsV_get o ns]
    unfold getN at q
    cases z : lkA ns o with
    | none => rw [z] at q; exact q
    | some n => rw [z] at q; exact q
def spTaken (K : PySem.W.Frag) : Sp := fun vs H Q _ => ∃ (p ol nd hd : Addr) (me : Int) (ls : List V) (ns : Nums) (hs : Heard) (o : Int), vs = [.ref p, .int o] ∧ PostAt K H p ol nd hd me ls ns hs ∧ ∀ H' v, Same H H' → PairAt K H' v (getH hs o) → Q v H'
theorem ok_Post_taken (T : Txt K mg w a) : FnOk P w K mg base CX0 1 (He.ma K (CPo K) "taken") a.d_Post_taken ["self", "other"] (spTaken K) := by
  refine T.F_Post_taken.ok sc_Post_taken (fun vs H Q E h => ?_) (fun cdv A outer s H vs Q E hr h => ?_)
  · obtain ⟨p, ol, nd, hd, me, ls, ns, hs, o, rfl, _⟩ := h
    rfl
  · obtain ⟨p, ol, nd, hd, me, ls, ns, hs, o, rfl, G, q⟩ := h
    obtain ⟨⟨dx, h1⟩, h2, h3, kvs, h4, h5⟩ := id G
    refine ⟨_, PSs.nox (pss_one (ps_ret (pe_dget2 (hu_of hr) (pe_fld (pv 0) rfl) (pv 1) (pe_tup (pa_cons pe_int (pa_cons (pe_tup pa_nil) pa_nil))) ⟨rfl, rfl, rfl, rfl⟩))), ?_⟩
    refine ⟨_, rfl, p, CPo K, dx, _, _, rfl, h1, T.c_Post, T.n_Post__heard, fp_heard, hd, rfl, .inl ⟨_, .inl h4⟩, _, rfl, Nat.zero_le _, fun t0 u0 => ⟨Cm.small (by show 2 ≤ 100000; decide), fun t1 u1 => ?_⟩⟩
    have s0 := Cm.same_new (o := .tup []) u0
    have s1 := Cm.same_new (o := .tup [.int 0, .ref t0]) u1
    have s01 := s0.trans s1
    refine ⟨_, .inl ⟨_, Sum.inl o, .inl (s01 _ _ h4), rfl, rfl⟩, ?_⟩
    have hg := heardV_get (h5.keep (TK.same s01)) o
    unfold getH at q
    cases z : lkA hs o with
    | none =>
      rw [z] at q hg
      rw [hg]
      exact q _ _ s01 ⟨t1, t0, rfl, Cm.sqt_new, Cm.sameT s1 (Cm.sqt_new (xs := []))⟩
    | some pr =>
      rw [z] at q hg
      obtain ⟨v, hv, hp⟩ := hg
      rw [hv]
      exact q _ _ s01 hp
def spIsTaken (K : PySem.W.Frag) : Sp := fun vs H Q _ => ∃ (p ol nd hd : Addr) (me : Int) (ls : List V) (ns : Nums) (hs : Heard) (o n : Int), vs = [.ref p, .int o, .int n] ∧ PostAt K H p ol nd hd me ls ns hs ∧ ∀ H', Same H H' → Q (.bl (tellsF (getH hs o).1 (getH hs o).2 n)) H'
theorem ok_Post_is_taken (T : Txt K mg w a) : FnOk P w K mg base CX0 2 (He.ma K (CPo K) "is_taken") a.d_Post_is_taken ["self", "other", "number"] (spIsTaken K) := by
  refine T.F_Post_is_taken.ok sc_Post_is_taken (fun vs H Q E h => ?_) (fun cdv A outer s H vs Q E hr h => ?_)
  · obtain ⟨p, ol, nd, hd, me, ls, ns, hs, o, n, rfl, _⟩ := h
    rfl
  · obtain ⟨p, ol, nd, hd, me, ls, ns, hs, o, n, rfl, G, q⟩ := h
    obtain ⟨dx, h1⟩ := G.ob
    refine ⟨_, PSs.nox (pss_one (ps_ret (pe_call (ok_tells T) (hr.mono (by omega)) (by rfl) T.g_tells T.F_tells.kp T.b_tells .nil pass0 (pa_cons (pe_meth (pv 0) T.c_Post T.m_Post_taken (ok_Post_taken T) (hr.mono (by omega)) T.b_Post_taken .nil pass0 (pa_cons (pv 1) pa_nil)) (pa_cons (pv 2) pa_nil))))), ?_⟩
    refine ⟨_, rfl, p, dx, _, rfl, h1, fp_no (by decide +kernel), _, rfl, p, ol, nd, hd, me, ls, ns, hs, o, rfl, G, fun H1 v s1 hv => ?_⟩
    obtain ⟨b, by_, rfl, hb, hy⟩ := hv
    exact ⟨_, rfl, b, by_, _, n, _, rfl, hb, hy, q H1 s1⟩
def spOutbox (K : PySem.W.Frag) : Sp := fun vs H Q _ => ∃ (p ol nd hd : Addr) (me : Int) (ls : List V) (ns : Nums) (hs : Heard), vs = [.ref p] ∧ PostAt K H p ol nd hd me ls ns hs ∧ ∀ r, H r = none → Q (.ref r) (upd H r (.tup ls))
theorem ok_Post_outbox (T : Txt K mg w a) : FnOk P w K mg base CX0 1 (He.ma K (CPo K) "outbox") a.d_Post_outbox ["self"] (spOutbox K) := by
  refine T.F_Post_outbox.ok sc_Post_outbox (fun vs H Q E h => ?_) (fun cdv A outer s H vs Q E hr h => ?_)
  · obtain ⟨p, ol, nd, hd, me, ls, ns, hs, rfl, _⟩ := h
    rfl
  · obtain ⟨p, ol, nd, hd, me, ls, ns, hs, rfl, G, q⟩ := h
    obtain ⟨⟨dx, h1⟩, h2, _, _⟩ := id G
    refine ⟨_, PSs.nox (pss_one (ps_ret (pe_callTy call_tuple_of (by rfl) T.g_tuple boot_tuple (pa_cons (pe_fld (pv 0) rfl) pa_nil)))), ?_⟩
    exact ⟨_, rfl, p, CPo K, dx, _, _, rfl, h1, T.c_Post, T.n_Post__letters, fp_letters, ol, ls, rfl, .inl ⟨SqL.of h2, q⟩⟩
/-! ### give -/
theorem PostAt.same {H H' : Hp} {p ol nd hd : Addr} {me : Int} {ls : List V} {ns : Nums} {hs : Heard} (s : Same H H') (G : PostAt K H p ol nd hd me ls ns hs) : PostAt K H' p ol nd hd me ls ns hs := by
  obtain ⟨⟨dx, h1⟩, h2, h3, kvs, h4, h5⟩ := G
  exact ⟨⟨dx, s _ _ h1⟩, s _ _ h2, s _ _ h3, kvs, s _ _ h4, h5.keep (TK.same s)⟩
theorem PostAt.ne {H : Hp} {p ol nd hd : Addr} {me : Int} {ls : List V} {ns : Nums} {hs : Heard} (G : PostAt K H p ol nd hd me ls ns hs) : p ≠ ol ∧ p ≠ nd ∧ p ≠ hd ∧ ol ≠ nd ∧ ol ≠ hd := by
  obtain ⟨⟨dx, h1⟩, h2, h3, kvs, h4, h5⟩ := G
  refine ⟨fun z => ?_, fun z => ?_, fun z => ?_, fun z => ?_, fun z => ?_⟩
  · rw [z, h2] at h1; cases h1
  · rw [z, h3] at h1; cases h1
  · rw [z, h4] at h1; cases h1
  · rw [z, h3] at h2; cases h2
  · rw [z, h4] at h2; cases h2
def spGive (K : PySem.W.Frag) : Sp := fun vs H Q E => ∃ (p ol nd hd : Addr) (me : Int) (ls : List V) (ns : Nums) (hs : Heard) (o : Int) (b : V), vs = [.ref p, .int o, b] ∧ PostAt K H p ol nd hd me ls ns hs ∧ nd ≠ hd ∧ ls.length ≤ 1000 ∧ ns.length ≤ 1000 ∧
  (o ≠ me → 0 ≤ o → ∀ H' t, H t = none → PostAt K H' p ol nd hd me (ls ++ [.ref t]) (puA ns o (getN ns o + 1)) hs → SqT K H' t [.int me, .int o, .int (getN ns o), b] → (∀ c u, H c = some u → c ≠ ol → c ≠ nd → H' c = some u) → Q (.int (getN ns o)) H') ∧
  (¬ (o ≠ me ∧ 0 ≤ o) → E (.ref (He.ga K "NotAllowed")) none H)
theorem ok_Post_give (T : Txt K mg w a) : FnOk P w K mg base (L2.CX P w) 2 (He.ma K (CPo K) "give") a.d_Post_give ["self", "other", "body"] (spGive K) := by
  refine T.F_Post_give.ok (CX := L2.CX P w) sc_Post_give (fun vs H Q E h => ?_) (fun cdv A outer s H vs Q E hr h => ?_)
  · obtain ⟨p, ol, nd, hd, me, ls, ns, hs, o, b, rfl, _⟩ := h
    rfl
  · obtain ⟨p, ol, nd, hd, me, ls, ns, hs, o, b, rfl, G, nnh, ll, ln, ok, bad⟩ := h
    obtain ⟨⟨dx, h1⟩, h2, h3, kvs, h4, h5⟩ := id G
    obtain ⟨m1, m2, m3, m4, m5⟩ := G.ne
    refine ⟨_, (pss_cons (ps_if (PW.pt (pw_or (pt_cmpR op_eq (pv 1) (pe_fld (pv 0) rfl) (nomark _)) (pw_or1 (pt_cmpR op_lt (pv 1) pe_int (nomark _))))) (pss_one (ps_raise rfl (takes_of rfl rfl rfl rfl) (SkE.pmk_own1 PySem.F.excBase_ValueError T.x_NotAllowed T.g_NotAllowed T.k_NotAllowed (raises_own T.s_NotAllowed T.t_NotAllowed) (by rfl) pe_str))) pss_nil)
      (pss_cons (ps_set (i := 3) sc_Post_give.nd rfl (Or.inl rfl) (pe_meth (pv 0) T.c_Post T.m_Post_next_number (ok_Post_next_number T) (hr.mono (by omega)) T.b_Post_next_number .nil pass0 (pa_cons (pv 1) pa_nil)))
      (pss_cons (ps_expr (pe_bm PySem.F.plainAttrs_list PySem.F.slot_list_append PySem.F.type_list_append mt_append (pe_fld (pv 0) rfl) (pa_cons (pe_tup (pa_cons (pe_fld (pv 0) rfl) (pa_cons (pv 1) (pa_cons (pv 3) (pa_cons (pv 2) pa_nil))))) pa_nil)))
      (pss_cons (ps_dput (hu_of hr) (pe_fld (pv 0) rfl) (pv 1) (pe_op op_add (pv 3) pe_int) rfl)
      (pss_one (ps_ret (pv 3))))))), ?_⟩
    rw [show L2.start N_Post_give [.ref p, .int o, b] = [some (.ref p), some (.int o), some b, none] from rfl]
    refine ⟨_, rfl, _, rfl, p, CPo K, dx, _, _, rfl, h1, T.c_Post, T.n_Post__me, fp_me, rfl, _, rfl, Cm.itEI (fun e => ?_) fun e => ?_⟩
    · exact iteT (bad fun z => z.1 e)
    · refine ⟨_, rfl, _, _, rfl, rfl, _, rfl, Cm.itD (fun hc => ?_) fun hc => ?_⟩
      · exact bad fun z => by omega
      · refine ⟨_, rfl, p, dx, _, rfl, h1, fp_no (by decide +kernel), _, rfl, p, ol, nd, hd, me, ls, ns, hs, o, rfl, G, ?_⟩
        refine ⟨_, rfl, p, CPo K, dx, _, _, rfl, h1, T.c_Post, T.n_Post__letters, fp_letters, .inl ⟨rfl, _, SqL.of h2⟩, _, rfl, p, CPo K, dx, _, _, rfl, h1, T.c_Post, T.n_Post__me, fp_me, _, rfl, _, rfl, _, rfl, Cm.small (by show 4 ≤ 100000; decide), fun t nt => ?_⟩
        have st := Cm.same_new (o := .tup [.int me, .int o, .int (getN ns o), b]) nt
        refine ⟨ol, _, _, rfl, rfl, st _ _ h2, Cm.smallL (by omega), ?_⟩
        have n1 : p ≠ ol := m1
        have hp2 : (upd (upd H t (.tup [.int me, .int o, .int (getN ns o), b])) ol (.lst (ls ++ [.ref t]))) p = some (.ins (CPo K) dx (fldsP me ol nd hd)) := by
          rw [upd_ne n1]
          exact st _ _ h1
        have hn2 : (upd (upd H t (.tup [.int me, .int o, .int (getN ns o), b])) ol (.lst (ls ++ [.ref t]))) nd = some (.dK (NumsV ns)) := by
          rw [upd_ne m4.symm]
          exact st _ _ h3
        refine ⟨_, rfl, _, _, rfl, rfl, _, rfl, p, CPo K, dx, _, _, rfl, hp2, T.c_Post, T.n_Post__numbers, fp_numbers, _, rfl, nd, _, rfl, .inl ⟨_, Sum.inl o, hn2, rfl, Cm.smallL (by unfold NumsV; rw [List.length_map]; omega), rfl⟩, ?_⟩
        rw [numsV_put]
        refine ⟨_, rfl, ok e (by omega) _ t nt ⟨⟨dx, ?_⟩, ?_, upd_same, kvs, ?_, ?_⟩ ?_ fun c u hc c1 c2 => ?_⟩
        · rw [upd_ne m2]
          exact hp2
        · rw [upd_ne m4, upd_same]
        · rw [upd_ne nnh.symm, upd_ne m5.symm]
          exact st _ _ h4
        · have tk1 : TK K (upd H t (.tup [.int me, .int o, .int (getN ns o), b])) (upd (upd H t (.tup [.int me, .int o, .int (getN ns o), b])) ol (.lst (ls ++ [.ref t]))) := TK.upd (by rw [st _ _ h2]; exact True.intro)
          have tk2 : TK K (upd (upd H t (.tup [.int me, .int o, .int (getN ns o), b])) ol (.lst (ls ++ [.ref t]))) (upd (upd (upd H t (.tup [.int me, .int o, .int (getN ns o), b])) ol (.lst (ls ++ [.ref t]))) nd (.dK (NumsV (puA ns o (getN ns o + 1))))) := TK.upd (by rw [hn2]; exact True.intro)
          exact h5.keep (((TK.same st).trans tk1).trans tk2)
        · have e1 : t ≠ ol := (ne_of_none h2 nt).symm
          have e2 : t ≠ nd := (ne_of_none h3 nt).symm
          exact .inl (.inl (by rw [upd_ne e2, upd_ne e1, upd_same]))
        · rw [upd_ne c2, upd_ne c1]
          exact st _ _ hc
/-! ### letters that are let go -/
theorem fp_put {me : Int} {ol ol' nd hd : Addr} : putF "_letters" (.ref ol') (fldsP me ol nd hd) = fldsP me ol' nd hd := rfl
theorem fp_len {me : Int} {ol nd hd : Addr} : (fldsP me ol nd hd).length ≤ 4 := by
  have h1 := putF_len "_heard" (.ref hd) (putF "_numbers" (.ref nd) (putF "_letters" (.ref ol) (putF "_me" (.int me) [])))
  have h2 := putF_len "_numbers" (.ref nd) (putF "_letters" (.ref ol) (putF "_me" (.int me) []))
  have h3 := putF_len "_letters" (.ref ol) (putF "_me" (.int me) [])
  have h4 := putF_len "_me" (.int me) []
  simp only [List.length_nil] at h4
  unfold fldsP
  omega
theorem take_flt {α : Type} {f : α → Bool} {l : List α} {n : Nat} {x : α} (h : l[n]? = some x) : (l.take (n + 1)).filter f = (l.take n).filter f ++ (if f x = true then [x] else []) := by
  rw [List.take_succ, h, List.filter_append]
  congr 1
  show [x].filter f = _
  rw [List.filter_cons, List.filter_nil]
abbrev Lets : Type := List (Int × Int × PyData)
abbrev letD (me : Int) (x : Int × Int × PyData) : PyData := .tuple [.int me, .int x.1, .int x.2.1, x.2.2]
def keepL (o : Int) (pr : Int × List Int) (x : Int × Int × PyData) : Bool := !(decide (x.1 = o) && tellsF pr.1 pr.2 x.2.1)
def spLetGo (K : PySem.W.Frag) : Sp := fun vs H Q _ => ∃ (p ol nd hd : Addr) (me : Int) (ls : List V) (ns : Nums) (hs : Heard) (lets : Lets) (o : Int) (v : V) (pr : Int × List Int), vs = [.ref p, .int o, v] ∧ PostAt K H p ol nd hd me ls ns hs ∧ Rps K H ls (lets.map (letD me)) ∧ lets.length ≤ 1000 ∧ PairAt K H v pr ∧
  ∀ H' ol' ls', H ol' = none → PostAt K H' p ol' nd hd me ls' ns hs → Rps K H' ls' ((lets.filter (keepL o pr)).map (letD me)) → (∀ c u, H c = some u → c ≠ p → H' c = some u) → Q .non H'
theorem ok_Post_p_let_go (T : Txt K mg w a) : FnOk P w K mg base CX0 2 (He.ma K (CPo K) "_let_go") a.d_Post_p_let_go ["self", "other", "told"] (spLetGo K) := by
  refine T.F_Post_p_let_go.ok sc_Post_p_let_go (fun vs H Q E h => ?_) (fun cdv A outer s H vs Q E hr h => ?_)
  · obtain ⟨p, ol, nd, hd, me, ls, ns, hs, lets, o, v, pr, rfl, _⟩ := h
    rfl
  · obtain ⟨p, ol, nd, hd, me, ls, ns, hs, lets, o, v, pr, rfl, G, rl, llt, hv, q⟩ := h
    obtain ⟨⟨dx, h1⟩, h2, h3, kvs, h4, h5⟩ := id G
    refine ⟨_, PSs.nox (pss_one (ps_fld (pv 0) (pe_lc (own := [("letter", 3)]) (g := gName 3)   (by rfl) sc_Post_p_let_go.nd (pi_list (pe_fld (pv 0) rfl)) (blkOk_by (own := [("letter", 3)]) (N := N_Post_p_let_go) (sc := defScope s_Post_p_let_go) (by decide +kernel)) (fun _ _ _ _ _ => pg_name (i := 3) sc_Post_p_let_go.nd rfl (Or.inl rfl)) (fun _ _ _ _ _ => pts_one (PW.pt (pw_or (pt_cmpR op_ne (pe_ix (r := rIxT K) ix_tup (pv 3) pe_int (fun _ _ => rfl)) (pv 1) (nomark _)) (pw_or1 (pt_not (pt_val (pe_call (ok_tells T) (hr.mono (by omega)) (by rfl) T.g_tells T.F_tells.kp T.b_tells .nil pass0 (pa_cons (pv 2) (pa_cons (pe_ix (r := rIxT K) ix_tup (pv 3) pe_int (fun _ _ => rfl)) pa_nil))))))))) (fun _ _ _ _ _ => (pv 3))) rfl)), ?_⟩
    rw [show L2.start N_Post_p_let_go [.ref p, .int o, v] = [some (.ref p), some (.int o), some v, none] from rfl]
    obtain ⟨bv, by_, rfl, hbv, hby⟩ := hv
    obtain ⟨m1, m2, m3, _, _⟩ := G.ne
    refine ⟨_, rfl, p, CPo K, dx, _, _, rfl, h1, T.c_Post, T.n_Post__letters, fp_letters, ol, rfl, ⟨_, SqL.of h2⟩, fun D nD => ?_⟩
    refine lc_list (K := K) (a := ol) (xs := ls) (fun i Hi => Same H Hi ∧ ∃ acc, Hi D = some (.lst acc) ∧ Rps K Hi acc (((lets.take i).filter (keepL o pr)).map (letD me)) ∧ acc.length ≤ i) ⟨Cm.same_new nD, [], upd_same, .nil, Nat.le_refl _⟩ (fun i Hi _ b => SqL.of (b.1 _ _ h2)) (fun i y Hi hy b => ?_) fun Hi b => ?_
    · obtain ⟨sH, acc, hD, rD, lD⟩ := b
      refine ⟨rfl, ?_⟩
      have hl := rl.len
      rw [List.length_map] at hl
      have hn : i < lets.length := by
        rw [← hl]
        exact (List.getElem?_eq_some_iff.mp hy).1
      have hbd : lets[i]? = some lets[i] := List.getElem?_eq_getElem hn
      obtain ⟨y', hy', ry⟩ := rl.at_ (i := i) (d := letD me lets[i]) (by rw [List.getElem?_map, hbd]; rfl)
      rw [hy] at hy'
      cases hy'
      generalize lets[i] = x at hbd ry
      obtain ⟨xo, xn, xd⟩ := x
      have ryi := ry.keep (Same.tups sH)
      obtain ⟨t, vs, rfl, ht, rvs⟩ := ryi.tup_inv
      obtain ⟨v1, r1, rfl, w1, rvs⟩ := rvs.cons_inv
      obtain ⟨v2, r2, rfl, w2, rvs⟩ := rvs.cons_inv
      obtain ⟨v3, r3, rfl, w3, rvs⟩ := rvs.cons_inv
      obtain rfl := w1.int_inv
      obtain rfl := w2.int_inv
      obtain rfl := w3.int_inv
      have hD4 : ∀ u, TK K Hi (upd Hi D (.lst u)) := fun u => TK.upd (by rw [hD]; exact True.intro)
      have go : keepL o pr (xo, xn, xd) = true → ∃ acc', Hi D = some (.lst acc') ∧ acc'.length < sizeLine ∧ Same H (upd Hi D (.lst (acc' ++ [.ref t]))) ∧ ∃ acc, (upd Hi D (.lst (acc' ++ [.ref t]))) D = some (.lst acc) ∧ Rps K (upd Hi D (.lst (acc' ++ [.ref t]))) acc (((lets.take (i + 1)).filter (keepL o pr)).map (letD me)) ∧ acc.length ≤ i + 1 := fun e => by
        refine ⟨acc, hD, Cm.smallL (by omega), Cm.same_mut sH nD, acc ++ [.ref t], upd_same, ?_, by rw [List.length_append]; simp only [List.length_cons, List.length_nil]; omega⟩
        rw [take_flt hbd, if_pos e, List.map_append]
        exact rps_keep (hD4 _) (rD.app (.cons ryi .nil))
      refine ⟨_, rfl, t, _, 1, _, rfl, rfl, ht, atI_nat (j := 1) rfl, _, rfl, rfl, _, rfl, Cm.itNI (fun e => ?_) fun e => ?_⟩
      · refine iteT ⟨_, rfl, ?_⟩
        exact go (by simp [keepL, e])
      · refine ⟨_, rfl, _, rfl, t, _, 2, _, rfl, rfl, ht, atI_nat (j := 2) rfl, bv, by_, pr.1, xn, pr.2, rfl, Cm.sameT sH hbv, Cm.sameT sH hby, _, rfl, Cm.itBn (fun z => ?_) fun z => ?_⟩
        · refine ⟨_, rfl, ?_⟩
          exact go (by simp [keepL, z])
        · have e' : xo = o := e
          refine ⟨sH, acc, hD, ?_, by omega⟩
          rw [take_flt hbd, if_neg (by simp [keepL, z, e']), List.append_nil]
          exact rD
    · obtain ⟨sH, acc, hD, rD, lD⟩ := b
      have hl := rl.len
      rw [List.length_map] at hl
      rw [hl, List.take_length] at rD
      refine ⟨_, rfl, p, CPo K, dx, _, rfl, sH _ _ h1, T.c_Post, T.n_Post__letters, Nat.lt_of_le_of_lt fp_len (by decide), ?_⟩
      rw [fp_put]
      have mu : Mut (Hi p) := by rw [sH _ _ h1]; exact True.intro
      have nDp : D ≠ p := fun z => by
        have := sH _ _ h1
        rw [← z, hD] at this
        cases this
      refine q _ D acc nD ⟨⟨dx, upd_same⟩, by rw [upd_ne nDp]; exact hD, by rw [upd_ne m2.symm]; exact sH _ _ h3, kvs, by rw [upd_ne m3.symm]; exact sH _ _ h4, h5.keep ((TK.same sH).trans (TK.upd mu))⟩ (rps_keep (TK.upd mu) rD) fun c u hc hn => by
        rw [upd_ne hn]
        exact sH _ _ hc
/-! ### take -/
theorem lkA_mem {α : Type} {hs : List (Int × α)} {k : Int} {v : α} (h : lkA hs k = some v) : (k, v) ∈ hs := by
  obtain ⟨x, hx, rfl⟩ := Option.map_eq_some_iff.mp h
  have h1 := List.mem_of_find?_eq_some hx
  have h2 : x.1 = k := by simpa using List.find?_some hx
  rw [← h2]
  exact h1
theorem getH_len {hs : Heard} {k : Int} (h : ∀ x ∈ hs, x.2.2.length ≤ 1000) : (getH hs k).2.length ≤ 1000 := by
  unfold getH
  cases z : lkA hs k with
  | none => exact Nat.zero_le _
  | some v => exact h _ (lkA_mem z)
theorem heardV_any {K : PySem.W.Frag} {H : Hp} {kvs : List (Key × V)} {hs : Heard} (h : HeardV K H kvs hs) (k : Int) : (kvs.any fun kv => decide (kv.1 = Sum.inl k)) = hs.any fun x => decide (x.1 = k) := by
  induction h with
  | nil => rfl
  | @cons p q ps qs h t ih =>
    rw [List.any_cons, List.any_cons, ih]
    congr 1
    rw [decide_eq_decide, h.1]
    exact inl_eq
theorem heardV_snoc {K : PySem.W.Frag} {H : Hp} {kvs : List (Key × V)} {hs : Heard} {p : Key × V} {q : Int × (Int × List Int)} (h : HeardV K H kvs hs) (g : p.1 = Sum.inl q.1 ∧ PairAt K H p.2 q.2) : HeardV K H (kvs ++ [p]) (hs ++ [q]) := by
  induction h with
  | nil => exact .cons g .nil
  | cons h t ih => exact .cons h ih
theorem heardV_put {K : PySem.W.Frag} {H : Hp} {kvs : List (Key × V)} {hs : Heard} {v : V} {pr : Int × List Int} (h : HeardV K H kvs hs) (k : Int) (hv : PairAt K H v pr) : HeardV K H (putK kvs (Sum.inl k) v) (puA hs k pr) := by
  unfold putK puA
  rw [heardV_any h]
  split
  · rename_i hx
    clear hx
    induction h with
    | nil => exact .nil
    | @cons p q ps qs h t ih =>
      rw [List.map_cons, List.map_cons]
      refine .cons ?_ ih
      by_cases e : q.1 = k
      · rw [if_pos (h.1.trans (inl_eq.mpr e)), if_pos e]
        exact ⟨h.1, hv⟩
      · rw [if_neg (fun z => e (inl_eq.mp (h.1.symm.trans z))), if_neg e]
        exact h
  · exact heardV_snoc h ⟨rfl, hv⟩
def puH (hs : Heard) (o n : Int) : Heard := puA hs o (withF (getH hs o).1 (getH hs o).2 n)
def spTake (K : PySem.W.Frag) : Sp := fun vs H Q E => ∃ (p ol nd hd : Addr) (me : Int) (ls : List V) (ns : Nums) (hs : Heard) (lets : Lets) (t b : Addr) (s g n : Int) (w : Str) (r : List V), vs = [.ref p, .ref t] ∧ PostAt K H p ol nd hd me ls ns hs ∧ nd ≠ hd ∧ Rps K H ls (lets.map (letD me)) ∧ lets.length ≤ 1000 ∧ hs.length ≤ 1000 ∧ (∀ x ∈ hs, x.2.2.length ≤ 1000) ∧
  SqT K H t [.int s, .int g, .int n, .ref b] ∧ SqT K H b (.str w :: r) ∧
  (¬ (g = me ∧ s ≠ me) → E (.ref (He.ga K "NotAllowed")) none H) ∧
  (g = me → s ≠ me → w = "ack" → ∃ low by_ bey, r = [.int low, .ref by_] ∧ SqT K H by_ (bey.map V.int) ∧
    ∀ H' ol' ls', H ol' = none → PostAt K H' p ol' nd hd me ls' ns hs → Rps K H' ls' ((lets.filter (keepL s (low, bey))).map (letD me)) → (∀ c u, H c = some u → c ≠ p → H' c = some u) → Q (.bl false) H') ∧
  (g = me → s ≠ me → w ≠ "ack" → tellsF (getH hs s).1 (getH hs s).2 n = true → ∀ H', Same H H' → Q (.bl false) H') ∧
  (g = me → s ≠ me → w ≠ "ack" → tellsF (getH hs s).1 (getH hs s).2 n = false → ∀ H', PostAt K H' p ol nd hd me ls ns (puH hs s n) → (∀ c u, H c = some u → c ≠ hd → H' c = some u) → Q (.bl true) H')
theorem ok_Post_take (T : Txt K mg w a) : FnOk P w K mg base (L2.CX P w) 4 (He.ma K (CPo K) "take") a.d_Post_take ["self", "letter"] (spTake K) := by
  refine T.F_Post_take.ok (CX := L2.CX P w) sc_Post_take (fun vs H Q E h => ?_) (fun cdv A outer s H vs Q E hr h => ?_)
  · obtain ⟨p, ol, nd, hd, me, ls, ns, hs, lets, t, b, s, g, n, w, r, rfl, _⟩ := h
    rfl
  · obtain ⟨p, ol, nd, hd, me, ls, ns, hs, lets, t, b, s, g, n, wd, r, rfl, G, nnh, rl, llt, lhs, lbs, ht, hb, bad, ack, old, new⟩ := h
    obtain ⟨⟨dx, h1⟩, h2, h3, kvs, h4, h5⟩ := id G
    refine ⟨_, (pss_cons (ps_asg (pv 1) (pg_tup (by rfl) (pgs_cons (pg_name (i := 2) sc_Post_take.nd rfl (Or.inl rfl)) (pgs_cons (pg_name (i := 3) sc_Post_take.nd rfl (Or.inl rfl)) (pgs_cons (pg_name (i := 4) sc_Post_take.nd rfl (Or.inl rfl)) (pgs_cons (pg_name (i := 5) sc_Post_take.nd rfl (Or.inl rfl)) pgs_nil))))))
      (pss_cons (ps_if (PW.pt (pw_or (pt_cmpR op_ne (pv 3) (pe_fld (pv 0) rfl) (nomark _)) (pw_or1 (pt_cmpR op_eq (pv 2) (pe_fld (pv 0) rfl) (nomark _))))) (pss_one (ps_raise rfl (takes_of rfl rfl rfl rfl) (SkE.pmk_own1 PySem.F.excBase_ValueError T.x_NotAllowed T.g_NotAllowed T.k_NotAllowed (raises_own T.s_NotAllowed T.t_NotAllowed) (by rfl) pe_str))) pss_nil)
      (pss_cons (ps_if (pt_cmpR op_eq (pe_ix ix_tup (pv 5) pe_int (fun _ _ => rfl)) pe_str (nomark _)) (pss_cons (ps_expr (pe_meth (pv 0) T.c_Post T.m_Post_p_let_go (ok_Post_p_let_go T) (hr.mono (by omega)) T.b_Post_p_let_go .nil pass0 (pa_cons (pv 2) (pa_cons (pe_slice sl_tupA (pv 5) (po_some pe_int) po_none) pa_nil))))
      (pss_one (ps_ret pe_bl))) pss_nil)
      (pss_cons (ps_if (pt_val (pe_meth (pv 0) T.c_Post T.m_Post_is_taken (ok_Post_is_taken T) (hr.mono (by omega)) T.b_Post_is_taken .nil pass0 (pa_cons (pv 2) (pa_cons (pv 4) pa_nil)))) (pss_one (ps_ret pe_bl)) pss_nil)
      (pss_cons (ps_dput (hu_of hr) (pe_fld (pv 0) rfl) (pv 2) (pe_call (ok_with_number T) (hr.mono (by omega)) (by rfl) T.g_with_number T.F_with_number.kp T.b_with_number .nil pass0 (pa_cons (pe_meth (pv 0) T.c_Post T.m_Post_taken (ok_Post_taken T) (hr.mono (by omega)) T.b_Post_taken .nil pass0 (pa_cons (pv 2) pa_nil)) (pa_cons (pv 4) pa_nil))) rfl)
      (pss_one (ps_ret pe_bl))))))), ?_⟩
    rw [show L2.start N_Post_take [.ref p, .ref t] = [some (.ref p), some (.ref t), none, none, none, none] from rfl]
    refine ⟨_, rfl, t, _, rfl, ht, rfl, _, _, rfl, _, _, rfl, _, _, rfl, _, _, rfl, rfl, ?_⟩
    refine ⟨_, rfl, _, rfl, p, CPo K, dx, _, _, rfl, h1, T.c_Post, T.n_Post__me, fp_me, rfl, _, rfl, Cm.itNI (fun e => iteT (bad fun z => e z.1)) fun eg => ?_⟩
    refine ⟨_, rfl, _, rfl, p, CPo K, dx, _, _, rfl, h1, T.c_Post, T.n_Post__me, fp_me, rfl, _, rfl, Cm.itEI (fun e => bad fun z => z.2 e) fun es => ?_⟩
    refine ⟨_, rfl, b, _, 0, _, rfl, rfl, hb, atI_nat (j := 0) rfl, rfl, _, rfl, Cm.itES (fun ew => ?_) fun ew => ?_⟩
    · obtain ⟨low, by_, bey, rfl, hby, fin⟩ := ack eg es ew
      refine ⟨_, rfl, p, dx, _, rfl, h1, fp_no (by decide +kernel), _, rfl, _, rfl, _, rfl, b, _, rfl, hb, fun e => ?_, fun _ p2 np2 => ?_⟩
      · have z := e.1
        rw [show HT.sIx _ 0 (some (1 : Int)) = min 1 _ from HT.sIx_nat _ 0 1] at z
        simp at z
      · have ec : cutV [V.str wd, V.int low, V.ref by_] (some ((1 : Nat) : Int)) none = [V.int low, V.ref by_] := cut_from (k := 1) (by simp)
        have st := Cm.same_new (o := .tup (cutV [V.str wd, V.int low, V.ref by_] (some ((1 : Nat) : Int)) none)) np2
        have hp2 : SqT K (upd H p2 (.tup (cutV [V.str wd, V.int low, V.ref by_] (some ((1 : Nat) : Int)) none))) p2 [V.int low, V.ref by_] := by
          rw [ec]
          exact Cm.sqt_new
        refine ⟨p, ol, nd, hd, me, ls, ns, hs, lets, s, .ref p2, (low, bey), rfl, G.same st, rl.keep (Same.tups st), llt, ⟨p2, by_, rfl, hp2, Cm.sameT st hby⟩, fun H' ol' ls' ho G' rl' fr => ?_⟩
        exact fin H' ol' ls' (st.free ho) G' rl' fun c u hc hn => fr c u (st _ _ hc) hn
    · refine ⟨_, rfl, p, dx, _, rfl, h1, fp_no (by decide +kernel), _, rfl, _, rfl, p, ol, nd, hd, me, ls, ns, hs, s, n, rfl, G, fun H1 s1 => ⟨_, rfl, Cm.itB (fun e => old eg es ew e H1 s1) fun e => ?_⟩⟩
      refine ⟨_, rfl, p, dx, _, rfl, s1 _ _ h1, fp_no (by decide +kernel), _, rfl, p, ol, nd, hd, me, ls, ns, hs, s, rfl, G.same s1, fun H2 v s2 hv => ?_⟩
      refine ⟨_, rfl, v, getH hs s, n, rfl, hv, getH_len lbs, fun H3 v' s3 hv' => ?_⟩
      have s13 := (s1.trans s2).trans s3
      obtain ⟨⟨dx3, g1⟩, g2, g3, kvs3, g4, g5⟩ := G.same s13
      obtain ⟨m1, m2, m3, m4, m5⟩ := G.ne
      have mu : Mut (H3 hd) := by rw [g4]; exact True.intro
      refine ⟨_, rfl, p, CPo K, dx3, _, _, rfl, g1, T.c_Post, T.n_Post__heard, fp_heard, _, rfl, hd, _, rfl, .inl ⟨kvs3, Sum.inl s, g4, rfl, Cm.smallL (by rw [Paired.length g5]; omega), rfl⟩, ?_⟩
      refine new eg es ew e _ ⟨⟨dx3, by rw [upd_ne m3]; exact g1⟩, by rw [upd_ne m5]; exact g2, by rw [upd_ne nnh]; exact g3, _, upd_same, ?_⟩ fun c u hc hn => ?_
      · exact heardV_put (g5.keep (TK.upd mu)) s (hv'.keep (TK.upd mu))
      · rw [upd_ne hn]
        exact s13 _ _ hc
def spCopy (K : PySem.W.Frag) : Sp := fun vs H Q _ => ∃ (p ol nd hd : Addr) (me : Int) (ls : List V) (ns : Nums) (hs : Heard), vs = [.ref p] ∧ PostAt K H p ol nd hd me ls ns hs ∧
  ∀ H' p' ol' nd' hd', H p' = none → H ol' = none → H nd' = none → H hd' = none → nd' ≠ hd' → PostAt K H' p' ol' nd' hd' me ls ns hs → Same H H' → Q (.ref p') H'
/-! ### answers, image -/
def ansD (me : Int) (hs : Heard) (o : Int) : PyData := .tuple [.int me, .int o, .int (-1), .tuple [.str "ack", .int (getH hs o).1, .tuple ((getH hs o).2.map PyData.int)]]
theorem srtI_eq {l ys : List Int} (h1 : ys.Perm l) (h2 : ys.Pairwise (· ≤ ·)) : ys = srtI l := by
  have h3 : (srtI l).Pairwise (fun a b : Int => decide (a ≤ b) = true) := List.pairwise_mergeSort (le := fun a b : Int => decide (a ≤ b)) (fun a b c x y => by simp only [decide_eq_true_eq] at x y ⊢; omega) (fun a b => by simp only [Bool.or_eq_true, decide_eq_true_eq]; omega) l
  exact List.Perm.eq_of_pairwise (le := (· ≤ ·)) (fun a b _ _ x y => Int.le_antisymm x y) h2 (h3.imp fun x => of_decide_eq_true x) (h1.trans (List.mergeSort_perm l _).symm)
theorem heardV_keys {K : PySem.W.Frag} {H : Hp} {kvs : List (Key × V)} {hs : Heard} (h : HeardV K H kvs hs) : kvs.map (·.1) = (hs.map (·.1)).map Sum.inl := by
  induction h with
  | nil => rfl
  | cons h t ih => rw [List.map_cons, List.map_cons, List.map_cons, ih, h.1]
theorem lkA_key {α : Type} {k : Int} : ∀ {hs : List (Int × α)}, k ∈ hs.map (·.1) → ∃ v, lkA hs k = some v
  | (x, v) :: r, h => by
    by_cases e : x = k
    · exact ⟨v, by simp [lkA, List.find?_cons, e]⟩
    · rcases List.mem_cons.mp h with z | z
      · exact absurd z.symm e
      · obtain ⟨u, hu⟩ := lkA_key z
        refine ⟨u, ?_⟩
        rw [← hu]
        simp [lkA, List.find?_cons, e]
def spAnswers (K : PySem.W.Frag) : Sp := fun vs H Q _ => ∃ (p ol nd hd : Addr) (me : Int) (ls : List V) (ns : Nums) (hs : Heard), vs = [.ref p] ∧ PostAt K H p ol nd hd me ls ns hs ∧ hs.length < 64 ∧ ∀ H' v, Same H H' → Rp K H' v (.tuple ((srtI (hs.map (·.1))).map (ansD me hs))) → Q v H'
theorem ok_Post_answers (T : Txt K mg w a) : FnOk P w K mg base CX0 3 (He.ma K (CPo K) "answers") a.d_Post_answers ["self"] (spAnswers K) := by
  refine T.F_Post_answers.ok sc_Post_answers (fun vs H Q E h => ?_) (fun cdv A outer s H vs Q E hr h => ?_)
  · obtain ⟨p, ol, nd, hd, me, ls, ns, hs, rfl, _⟩ := h
    rfl
  · obtain ⟨p, ol, nd, hd, me, ls, ns, hs, rfl, G, lh, q⟩ := h
    obtain ⟨⟨dx, h1⟩, h2, h3, kvs, h4, h5⟩ := id G
    refine ⟨_, PSs.nox (pss_one (ps_ret (pe_callTy call_tuple_of (by rfl) T.g_tuple boot_tuple (pa_cons (pe_lc (own := [("other", 1)]) (g := gName 1) (tt := tYes) (te := (tTup (tCons (tFld K (tVar 0) "_me") (tCons (tVar 1) (tCons (tUn (rU fun i => .int (-i)) (tC (.int 1))) (tCons (tOp (rCatA K) (tTup (tCons (tC (.str "ack")) tNil)) (tDGet (tFld K (tVar 0) "_heard") (tVar 1))) tNil)))))) (by rfl) sc_Post_answers.nd (pi_list (pe_callB (call_sortedDI rfl) (by rfl) T.g_sorted boot_sorted (pa_cons (pe_fld (pv 0) rfl) pa_nil))) (blkOk_by (own := [("other", 1)]) (N := N_Post_answers) (sc := defScope s_Post_answers) (by decide +kernel)) (fun _ _ _ _ _ => pg_name (i := 1) sc_Post_answers.nd rfl (Or.inl rfl)) (fun _ _ _ _ _ => pts_nil) (fun _ _ _ _ _ => (pe_tup (pa_cons (pe_fld (pv 0) rfl) (pa_cons (pv 1) (pa_cons (pe_un un_neg pe_int) (pa_cons (pe_op op_catA (pe_tup (pa_cons pe_str pa_nil)) (pe_dget (hu_of hr) (pe_fld (pv 0) rfl) (pv 1) (fun _ _ => rfl))) pa_nil))))))) pa_nil)))), ?_⟩
    rw [show L2.start N_Post_answers [.ref p] = [some (.ref p), none] from rfl]
    refine ⟨_, rfl, p, CPo K, dx, _, _, rfl, h1, T.c_Post, T.n_Post__heard, fp_heard, hd, kvs, hs.map (·.1), rfl, .inl h4, heardV_keys h5, by rw [List.length_map]; exact lh, fun ys nl pm pw nnl => ?_⟩
    obtain rfl := srtI_eq pm pw
    have s1 := Cm.same_new (o := .lst ((srtI (hs.map (·.1))).map V.int)) nnl
    have hnl : (upd H nl (.lst ((srtI (hs.map (·.1))).map V.int))) nl = some (.lst ((srtI (hs.map (·.1))).map V.int)) := upd_same
    have hL : (srtI (hs.map (·.1))).length < 64 := by rw [List.length_mergeSort, List.length_map]; exact lh
    have hmem : ∀ o ∈ srtI (hs.map (·.1)), o ∈ hs.map (·.1) := fun o ho => (List.mergeSort_perm _ _).mem_iff.mp ho
    generalize upd H nl (.lst ((srtI (hs.map (·.1))).map V.int)) = H1 at *
    generalize srtI (hs.map (·.1)) = L at *
    refine ⟨nl, rfl, ⟨_, SqL.of hnl⟩, fun D nD => ?_⟩
    refine lc_list (K := K) (a := nl) (xs := L.map V.int) (fun i Hi => Same H1 Hi ∧ ∃ acc, Hi D = some (.lst acc) ∧ Rps K Hi acc ((L.take i).map (ansD me hs)) ∧ acc.length = i) ⟨Cm.same_new nD, [], upd_same, .nil, rfl⟩ (fun i Hi _ b => SqL.of (b.1 _ _ hnl)) (fun i y Hi hy b => ?_) fun Hi b => ?_
    · obtain ⟨sH, acc, hD, rD, lD⟩ := b
      refine ⟨rfl, ?_⟩
      rw [List.getElem?_map] at hy
      obtain ⟨o, ho, rfl⟩ := Option.map_eq_some_iff.mp hy
      have hil := (List.getElem?_eq_some_iff.mp ho).1
      obtain ⟨pr, hpr⟩ := lkA_key (hmem o (List.mem_of_getElem? ho))
      have s1i := s1.trans sH
      refine ⟨_, rfl, p, CPo K, dx, _, _, rfl, s1i _ _ h1, T.c_Post, T.n_Post__me, fp_me, _, rfl, _, rfl, Cm.small (by show 1 ≤ 100000; decide), fun t nt => ?_⟩
      have st := Cm.same_new (o := .tup [.str "ack"]) nt
      have s2 := s1i.trans st
      have hg := heardV_get (h5.keep (TK.same s2)) o
      rw [hpr] at hg
      obtain ⟨v, hv, bb, by_, rfl, hbb, hby⟩ := hg
      refine ⟨_, rfl, p, CPo K, dx, _, _, rfl, s2 _ _ h1, T.c_Post, T.n_Post__heard, fp_heard, _, rfl, hd, _, rfl, .inl ⟨kvs, Sum.inl o, .inl (s2 _ _ h4), rfl, hv.symm⟩, ?_⟩
      refine Nst.cat_sq Cm.sqt_new hbb (by show 3 ≤ 100000; decide) fun r H4 s4 hr4 => ⟨Cm.small (by show 4 ≤ 100000; decide), fun t2 nt2 => ?_⟩
      have st2 := Cm.same_new (o := .tup [.int me, .int o, .int (-1), .ref r]) nt2
      have sall := (st.trans s4).trans st2
      have hD4 := sall _ _ hD
      refine ⟨acc, hD4, Cm.smallL (by omega), Cm.same_mut (sH.trans sall) nD, acc ++ [.ref t2], upd_same, ?_, by rw [List.length_append, lD]; rfl⟩
      have tk : TK K (upd H4 t2 (.tup [.int me, .int o, .int (-1), .ref r])) (upd (upd H4 t2 (.tup [.int me, .int o, .int (-1), .ref r])) D (.lst (acc ++ [.ref t2]))) := TK.upd (by rw [hD4]; exact True.intro)
      rw [List.take_succ, ho, List.map_append]
      refine (rps_keep ((TK.same sall).trans tk) rD).app (.cons ?_ .nil)
      rw [show ansD me hs o = .tuple [.int me, .int o, .int (-1), .tuple [.str "ack", .int pr.1, .tuple (pr.2.map PyData.int)]] from by unfold ansD getH; rw [hpr]; rfl]
      exact rp_keep tk (Rp.made nt2 (.cons (.int _) (.cons (.int _) (.cons (.int _) (.cons (.tup hr4 (.cons (.str _) (.cons (.int _) (.cons (.tup (Cm.sameT s4 hby) (ints_rps _)) .nil)))) .nil)))))
    · obtain ⟨sH, acc, hD, rD, lD⟩ := b
      rw [len_map, List.take_length] at rD
      refine ⟨D, acc, rfl, .inl ⟨SqL.of hD, fun l2 nl2 => ?_⟩⟩
      exact q _ _ ((s1.trans sH).trans (Cm.same_new nl2)) (Rp.made nl2 rD)
/-! ### image -/
def rowH (hs : Heard) (o : Int) : PyData := .tuple [.int o, .int (getH hs o).1, .tuple ((getH hs o).2.map PyData.int)]
def imgP (me : Int) (lets : Lets) (ns : Nums) (hs : Heard) : PyData := .tuple [.tuple (lets.map (letD me)), .tuple (SortN.srt (ns.map ItemN.pairD)), .tuple ((srtI (hs.map (·.1))).map (rowH hs))]
def spImage (K : PySem.W.Frag) : Sp := fun vs H Q _ => ∃ (p ol nd hd : Addr) (me : Int) (ls : List V) (ns : Nums) (hs : Heard) (lets : Lets), vs = [.ref p] ∧ PostAt K H p ol nd hd me ls ns hs ∧ Rps K H ls (lets.map (letD me)) ∧ hs.length < 64 ∧ ∀ H' v, Same H H' → Rp K H' v (imgP me lets ns hs) → Q v H'
theorem ok_Post_image (T : Txt K mg w a) : FnOk P w K mg base CX0 3 (He.ma K (CPo K) "image") a.d_Post_image ["self"] (spImage K) := by
  refine T.F_Post_image.ok sc_Post_image (fun vs H Q E h => ?_) (fun cdv A outer s H vs Q E hr h => ?_)
  · obtain ⟨p, ol, nd, hd, me, ls, ns, hs, lets, rfl, _⟩ := h
    rfl
  · obtain ⟨p, ol, nd, hd, me, ls, ns, hs, lets, rfl, G, rl, lh, q⟩ := h
    obtain ⟨⟨dx, h1⟩, h2, h3, kvs, h4, h5⟩ := id G
    refine ⟨_, PSs.nox (pss_cons (ps_setLc (i := 1) (own := [("other", 2)]) (g := gName 2) (tt := tYes) (te := (tOp (rCatA K) (tTup (tCons (tVar 2) tNil)) (tDGet (tFld K (tVar 0) "_heard") (tVar 2)))) (by rfl) sc_Post_image.nd rfl rfl (sw_true rfl rfl rfl (by decide +kernel)) (pi_list (pe_callB (call_sortedDI rfl) (by rfl) T.g_sorted boot_sorted (pa_cons (pe_fld (pv 0) rfl) pa_nil))) (blkOk_by (own := [("other", 2)]) (N := N_Post_image) (sc := defScope s_Post_image) (by decide +kernel)) (fun _ _ _ _ _ => pg_name (i := 2) sc_Post_image.nd rfl (Or.inl rfl)) (fun _ _ _ _ _ => pts_nil) (fun _ _ _ _ _ => (pe_op op_catA (pe_tup (pa_cons (pv 2) pa_nil)) (pe_dget (hu_of hr) (pe_fld (pv 0) rfl) (pv 2) (fun _ _ => rfl)))))
      (pss_one (ps_ret (pe_tup (pa_cons (pe_meth0 (pv 0) T.c_Post T.m_Post_outbox (ok_Post_outbox T) (hr.mono (by omega)) T.b_Post_outbox .nil pass0) (pa_cons (pe_callTy call_tuple_of (by rfl) T.g_tuple boot_tuple (pa_cons (pe_callB (ItemN.call_sortItems rfl hr.units) (by rfl) T.g_sorted boot_sorted (pa_cons (pe_bm0 PySem.F.plainAttrs_dict PySem.F.slot_dict_items PySem.F.type_dict_items ItemN.mt_itemsK (pe_fld (pv 0) rfl)) pa_nil)) pa_nil)) (pa_cons (pe_callTy call_tuple_of (by rfl) T.g_tuple boot_tuple (pa_cons (pv 1) pa_nil)) pa_nil))))))), ?_⟩
    rw [show L2.start N_Post_image [.ref p] = [some (.ref p), none, none] from rfl]
    refine ⟨_, rfl, p, CPo K, dx, _, _, rfl, h1, T.c_Post, T.n_Post__heard, fp_heard, hd, kvs, hs.map (·.1), rfl, .inl h4, heardV_keys h5, by rw [List.length_map]; exact lh, fun ys nl pm pw nnl => ?_⟩
    obtain rfl := srtI_eq pm pw
    have s1 := Cm.same_new (o := .lst ((srtI (hs.map (·.1))).map V.int)) nnl
    have hnl : (upd H nl (.lst ((srtI (hs.map (·.1))).map V.int))) nl = some (.lst ((srtI (hs.map (·.1))).map V.int)) := upd_same
    have hL : (srtI (hs.map (·.1))).length < 64 := by rw [List.length_mergeSort, List.length_map]; exact lh
    have hmem : ∀ o ∈ srtI (hs.map (·.1)), o ∈ hs.map (·.1) := fun o ho => (List.mergeSort_perm _ _).mem_iff.mp ho
    unfold imgP at q
    generalize upd H nl (.lst ((srtI (hs.map (·.1))).map V.int)) = H1 at *
    generalize srtI (hs.map (·.1)) = L at *
    refine ⟨nl, rfl, ⟨_, SqL.of hnl⟩, fun D nD => ?_⟩
    refine lc_list (K := K) (a := nl) (xs := L.map V.int) (fun i Hi => Same H1 Hi ∧ ∃ acc, Hi D = some (.lst acc) ∧ Rps K Hi acc ((L.take i).map (rowH hs)) ∧ acc.length = i) ⟨Cm.same_new nD, [], upd_same, .nil, rfl⟩ (fun i Hi _ b => SqL.of (b.1 _ _ hnl)) (fun i y Hi hy b => ?_) fun Hi b => ?_
    · obtain ⟨sH, acc, hD, rD, lD⟩ := b
      refine ⟨rfl, ?_⟩
      rw [List.getElem?_map] at hy
      obtain ⟨o, ho, rfl⟩ := Option.map_eq_some_iff.mp hy
      have hil := (List.getElem?_eq_some_iff.mp ho).1
      obtain ⟨pr, hpr⟩ := lkA_key (hmem o (List.mem_of_getElem? ho))
      have s1i := s1.trans sH
      refine ⟨_, rfl, Cm.small (by show 1 ≤ 100000; decide), fun t nt => ?_⟩
      have st := Cm.same_new (o := .tup [.int o]) nt
      have s2 := s1i.trans st
      have hg := heardV_get (h5.keep (TK.same s2)) o
      rw [hpr] at hg
      obtain ⟨v, hv, bb, by_, rfl, hbb, hby⟩ := hg
      refine ⟨_, rfl, p, CPo K, dx, _, _, rfl, s2 _ _ h1, T.c_Post, T.n_Post__heard, fp_heard, _, rfl, hd, _, rfl, .inl ⟨kvs, Sum.inl o, .inl (s2 _ _ h4), rfl, hv.symm⟩, ?_⟩
      refine Nst.cat_sq Cm.sqt_new hbb (by show 3 ≤ 100000; decide) fun r H4 s4 hr4 => ?_
      have sall := st.trans s4
      have hD4 := sall _ _ hD
      refine ⟨acc, hD4, Cm.smallL (by omega), Cm.same_mut (sH.trans sall) nD, acc ++ [.ref r], upd_same, ?_, by rw [List.length_append, lD]; rfl⟩
      have tk : TK K H4 (upd H4 D (.lst (acc ++ [.ref r]))) := TK.upd (by rw [hD4]; exact True.intro)
      rw [List.take_succ, ho, List.map_append]
      refine (rps_keep ((TK.same sall).trans tk) rD).app (.cons ?_ .nil)
      rw [show rowH hs o = .tuple [.int o, .int pr.1, .tuple (pr.2.map PyData.int)] from by unfold rowH getH; rw [hpr]; rfl]
      exact rp_keep tk (.tup hr4 (.cons (.int _) (.cons (.int _) (.cons (.tup (Cm.sameT s4 hby) (ints_rps _)) .nil))))
    · obtain ⟨sH, acc, hD, rD, lD⟩ := b
      rw [len_map, List.take_length] at rD
      simp only [gName, List.set_cons_succ, List.set_cons_zero]
      have s1i := s1.trans sH
      clear hnl
      refine ⟨_, rfl, p, dx, _, rfl, s1i _ _ h1, fp_no (by decide +kernel), p, ol, nd, hd, me, ls, ns, hs, rfl, G.same s1i, fun r nr => ?_⟩
      have sr := Cm.same_new (o := .tup ls) nr
      have s2 := s1i.trans sr
      refine ⟨_, rfl, p, CPo K, dx, _, _, rfl, s2 _ _ h1, T.c_Post, T.n_Post__numbers, fp_numbers, .inr (.inr (.inl ⟨rfl, .inl ⟨_, s2 _ _ h3⟩⟩)), nd, _, rfl, rfl, s2 _ _ h3, fun iv niv => ?_⟩
      have si := Cm.same_new (o := L2.DX.itemsO iv nd) niv
      have s3 := s2.trans si
      refine ⟨iv, nd, ns, rfl, upd_same, s3 _ _ h3, fun H5 l ys s5 nl2 hl rys => ⟨l, ys, rfl, .inl ⟨SqL.of hl, fun t2 nt2 => ?_⟩⟩⟩
      have st2 := Cm.same_new (o := .tup ys) nt2
      have s35 := (sr.trans si).trans (s5.trans st2)
      refine ⟨_, rfl, D, acc, rfl, .inl ⟨SqL.of (s35 _ _ hD), fun t3 nt3 => ⟨Cm.small (by show 3 ≤ 100000; decide), fun t4 nt4 => ?_⟩⟩⟩
      have st3 := Cm.same_new (o := .tup acc) nt3
      have st4 := Cm.same_new (o := .tup [.ref r, .ref t2, .ref t3]) nt4
      refine q _ _ (s1i.trans (s35.trans (st3.trans st4))) (.tup Cm.sqt_new (.cons (.tup (Cm.sameT (((si.trans s5).trans st2).trans (st3.trans st4)) Cm.sqt_new) (rl.keep (Same.tups (s1i.trans (s35.trans (st3.trans st4)))))) (.cons (.tup (Cm.sameT (st3.trans st4) Cm.sqt_new) (rys.keep (Same.tups (st2.trans (st3.trans st4))))) (.cons (.tup (Cm.sameT st4 Cm.sqt_new) (rD.keep (Same.tups (s35.trans (st3.trans st4))))) .nil))))
/-! ### what is known of a post -/
def BdOk (d : PyData) : Prop := d.canLay0 = true ∧ d.depth ≤ 10
theorem bd_drop {n : Int} : BdOk (.tuple [.str "drop", .int n, .tuple []]) := by
  refine ⟨?_, ?_⟩
  · simp [PyData.canLay0, PyData.canLayAll0, show PyData.strOk "drop" = true from by decide +kernel]
  · simp [PyData.depth, PyData.depthAll]
structure PD (K : PySem.W.Frag) (H : Hp) (p ol nd hd : Addr) (me : Int) (lets : Lets) (ns : Nums) (hs : Heard) : Prop where
  g : ∃ ls, PostAt K H p ol nd hd me ls ns hs ∧ Rps K H ls (lets.map (letD me))
  e : nd ≠ hd
structure PB (m : Nat) (lets : Lets) (ns : Nums) (hs : Heard) : Prop where
  l : lets.length ≤ m
  n : ns.length ≤ m
  h : hs.length ≤ m
  b : ∀ x ∈ hs, x.2.2.length ≤ m
  k : (ns.map (·.1)).Nodup
  w : ∀ x ∈ lets, BdOk x.2.2
theorem PB.mono {m m' : Nat} {lets : Lets} {ns : Nums} {hs : Heard} (h : m ≤ m') (B : PB m lets ns hs) : PB m' lets ns hs :=
  ⟨Nat.le_trans B.l h, Nat.le_trans B.n h, Nat.le_trans B.h h, fun x hx => Nat.le_trans (B.b x hx) h, B.k, B.w⟩
section
variable {α : Type}
theorem puA_len (ns : List (Int × α)) (k : Int) (v : α) : (puA ns k v).length ≤ ns.length + 1 := by
  unfold puA
  split
  · rw [List.length_map]; omega
  · rw [List.length_append]; simp
theorem puA_mem {ns : List (Int × α)} {k : Int} {v : α} {x : Int × α} (h : x ∈ puA ns k v) : x ∈ ns ∨ x.2 = v := by
  unfold puA at h
  split at h
  · obtain ⟨y, hy, rfl⟩ := List.mem_map.mp h
    by_cases e : y.1 = k
    · rw [if_pos e]; exact .inr rfl
    · rw [if_neg e]; exact .inl hy
  · rcases List.mem_append.mp h with h | h
    · exact .inl h
    · rw [List.mem_singleton.mp h]; exact .inr rfl
theorem puA_keys {ns : List (Int × α)} {k : Int} {v : α} : (ns.map fun x => if x.1 = k then (x.1, v) else x).map (·.1) = ns.map (·.1) := by
  rw [List.map_map]
  refine List.map_congr_left fun x _ => ?_
  show (if x.1 = k then (x.1, v) else x).1 = x.1
  split <;> rfl
theorem puA_nodup {ns : List (Int × α)} (k : Int) (v : α) (h : (ns.map (·.1)).Nodup) : ((puA ns k v).map (·.1)).Nodup := by
  unfold puA
  split
  · rw [puA_keys]; exact h
  · rename_i hx
    rw [List.map_append]
    refine List.nodup_append.mpr ⟨h, by simp, fun a ha b hb e => hx ?_⟩
    obtain ⟨y, hy, rfl⟩ := List.mem_map.mp ha
    rw [List.map_cons, List.map_nil, List.mem_singleton] at hb
    exact List.any_eq_true.mpr ⟨y, hy, decide_eq_true (e.trans hb)⟩
theorem lkA_map (o k : Int) (v : α) : ∀ ns : List (Int × α), lkA (ns.map fun x => if x.1 = o then (x.1, v) else x) k = if o = k then (lkA ns k).map (fun _ => v) else lkA ns k
  | [] => by
    show none = if o = k then none else none
    split <;> rfl
  | (x, u) :: r => by
    have ih := lkA_map o k v r
    unfold lkA at ih ⊢
    rw [List.map_cons, List.find?_cons, List.find?_cons]
    by_cases e : x = k
    · subst e
      by_cases e2 : x = o
      · subst e2
        simp
      · simp [e2, Ne.symm e2]
    · rw [show decide ((if (x, u).1 = o then ((x, u).1, v) else (x, u)).1 = k) = false from by split <;> exact decide_eq_false e, show decide ((x, u).1 = k) = false from decide_eq_false e]
      exact ih
theorem lkA_app (o k : Int) (v : α) : ∀ ns : List (Int × α), ¬ (ns.any fun x => decide (x.1 = o)) = true → lkA (ns ++ [(o, v)]) k = if o = k then some v else lkA ns k
  | [], _ => by
    unfold lkA
    by_cases e : o = k
    · simp [e]
    · simp [e]
  | (x, u) :: r, h => by
    rw [List.any_cons] at h
    have ih := lkA_app o k v r (fun z => h (by rw [z, Bool.or_true]))
    have hx : ¬ x = o := fun z => h (by simp [z])
    unfold lkA at ih ⊢
    rw [List.cons_append, List.find?_cons, List.find?_cons]
    by_cases e : x = k
    · subst e
      simp [Ne.symm hx]
    · rw [show decide ((x, u).1 = k) = false from decide_eq_false e]
      exact ih
theorem lkA_any {ns : List (Int × α)} {o : Int} (h : (ns.any fun x => decide (x.1 = o)) = true) : ∃ v, lkA ns o = some v := by
  obtain ⟨y, hy, e⟩ := List.any_eq_true.mp h
  exact lkA_key (List.mem_map.mpr ⟨y, hy, of_decide_eq_true e⟩)
theorem lkA_puA (ns : List (Int × α)) (o k : Int) (v : α) : lkA (puA ns o v) k = if o = k then some v else lkA ns k := by
  unfold puA
  by_cases h : (ns.any fun x => decide (x.1 = o)) = true
  · rw [if_pos h, lkA_map]
    by_cases e : o = k
    · subst e
      obtain ⟨u, hu⟩ := lkA_any h
      rw [if_pos rfl, if_pos rfl, hu]
      rfl
    · rw [if_neg e, if_neg e]
  · rw [if_neg h, lkA_app _ _ _ _ h]
theorem lkA_of_mem {k : Int} {v : α} : ∀ {ns : List (Int × α)}, (ns.map (·.1)).Nodup → (k, v) ∈ ns → lkA ns k = some v
  | (x, u) :: r, h, hm => by
    rw [List.map_cons, List.nodup_cons] at h
    unfold lkA
    rw [List.find?_cons]
    rcases List.mem_cons.mp hm with e | hm
    · cases e
      simp
    · have ne : ¬ x = k := fun z => h.1 (by rw [z]; exact List.mem_map.mpr ⟨_, hm, rfl⟩)
      rw [show decide ((x, u).1 = k) = false from decide_eq_false ne]
      exact lkA_of_mem h.2 hm
end
theorem withF_len (low : Int) (bey : List Int) (n : Int) : (withF low bey n).2.length ≤ bey.length + 1 := by
  unfold withF
  show ((srtI (bey ++ [n])).drop _).length ≤ _
  rw [List.length_drop, List.length_mergeSort, List.length_append]
  simp only [List.length_cons, List.length_nil]
  omega
theorem getN_put (ns : Nums) (o k v : Int) : getN (puA ns o v) k = if o = k then v else getN ns k := by
  unfold getN
  rw [lkA_puA]
  split <;> rfl
theorem getN_mono (ns : Nums) (o k : Int) : getN ns k ≤ getN (puA ns o (getN ns o + 1)) k := by
  rw [getN_put]
  split
  · rename_i e
    rw [e]
    omega
  · exact Int.le_refl _
/-! ### images that differ -/
theorem eqvAll_pairs : ∀ a b : List PyData, (∀ d ∈ a, ∃ x, d = ItemN.pairD x) → (∀ d ∈ b, ∃ x, d = ItemN.pairD x) → PyData.eqvAll a b = true → a = b
  | [], [], _, _, _ => rfl
  | [], _ :: _, _, _, h => by simp [PyData.eqvAll] at h
  | _ :: _, [], _, _, h => by simp [PyData.eqvAll] at h
  | x :: a, y :: b, h1, h2, h => by
    obtain ⟨u, rfl⟩ := h1 x List.mem_cons_self
    obtain ⟨v, rfl⟩ := h2 y List.mem_cons_self
    rw [PyData.eqvAll, Bool.and_eq_true] at h
    rw [eqvAll_pairs a b (fun d hd => h1 d (List.mem_cons_of_mem _ hd)) (fun d hd => h2 d (List.mem_cons_of_mem _ hd)) h.2]
    have e := h.1
    simp only [PyData.eqv, PyData.eqvAll, Bool.and_true, Bool.and_eq_true, beq_iff_eq, decide_eq_true_eq] at e
    obtain ⟨u1, u2⟩ := u
    obtain ⟨v1, v2⟩ := v
    simp only at e
    rw [e.1, e.2]
theorem srt_pairs (ns : Nums) : ∀ d ∈ SortN.srt (ns.map ItemN.pairD), ∃ x ∈ ns, d = ItemN.pairD x := fun d hd => by
  obtain ⟨x, hx, rfl⟩ := List.mem_map.mp ((List.mergeSort_perm _ _).mem_iff.mp hd)
  exact ⟨x, hx, rfl⟩
theorem srt_eq_lk {ns ns' : Nums} (h : SortN.srt (ns.map ItemN.pairD) = SortN.srt (ns'.map ItemN.pairD)) (k : (ns.map (·.1)).Nodup) {o v : Int} (hl : lkA ns' o = some v) : lkA ns o = some v := by
  have m := lkA_mem hl
  have m2 : ItemN.pairD (o, v) ∈ SortN.srt (ns.map ItemN.pairD) := by
    rw [h]
    exact (List.mergeSort_perm _ _).mem_iff.mpr (List.mem_map.mpr ⟨_, m, rfl⟩)
  obtain ⟨⟨x, u⟩, hx, e⟩ := srt_pairs ns _ m2
  simp only [ItemN.pairD, PyData.tuple.injEq, List.cons.injEq, PyData.int.injEq] at e
  obtain ⟨rfl, rfl, _⟩ := e
  exact lkA_of_mem k hx
theorem img_ne {me : Int} {lets lets' : Lets} {ns ns' : Nums} {hs hs' : Heard} (k : (ns'.map (·.1)).Nodup) {o v : Int} (h1 : lkA ns o = some v) (h2 : lkA ns' o ≠ some v) : PyData.eqv (imgP me lets ns hs) (imgP me lets' ns' hs') = false := by
  cases e : PyData.eqv (imgP me lets ns hs) (imgP me lets' ns' hs') with
  | false => rfl
  | true =>
    unfold imgP at e
    simp only [PyData.eqv, PyData.eqvAll, Bool.and_true, Bool.and_eq_true] at e
    have e2 := eqvAll_pairs _ _ (fun d hd => let ⟨x, _, q⟩ := srt_pairs _ d hd; ⟨x, q⟩) (fun d hd => let ⟨x, _, q⟩ := srt_pairs _ d hd; ⟨x, q⟩) e.2.1
    exact absurd (srt_eq_lk e2.symm k h1) h2
/-! ### shapes -/
theorem layAll_of : ∀ {l : List PyData}, (∀ d ∈ l, d.canLay0 = true) → PyData.canLayAll0 l = true
  | [], _ => by simp [PyData.canLayAll0]
  | x :: l, h => by simp [PyData.canLayAll0, h x List.mem_cons_self, layAll_of fun d hd => h d (List.mem_cons_of_mem _ hd)]
theorem depthAll_of {n : Nat} : ∀ {l : List PyData}, (∀ d ∈ l, d.depth ≤ n) → PyData.depthAll l ≤ n
  | [], _ => by simp [PyData.depthAll]
  | x :: l, h => by
    have h1 := h x List.mem_cons_self
    have h2 := depthAll_of (n := n) fun d hd => h d (List.mem_cons_of_mem x hd)
    simp only [PyData.depthAll]
    omega
theorem lay_intsP (l : List Int) : PyData.canLayAll0 (l.map PyData.int) = true := layAll_of fun d hd => by
  obtain ⟨x, _, rfl⟩ := List.mem_map.mp hd
  simp [PyData.canLay0]
theorem depth_intsP (l : List Int) : PyData.depthAll (l.map PyData.int) ≤ 0 := depthAll_of fun d hd => by
  obtain ⟨x, _, rfl⟩ := List.mem_map.mp hd
  simp [PyData.depth]
theorem imgP_shaped {me : Int} {lets : Lets} {ns : Nums} {hs : Heard} (w : ∀ x ∈ lets, BdOk x.2.2) : SeqAt.shaped (imgP me lets ns hs) = true := by
  have a1 : PyData.canLayAll0 (lets.map (letD me)) = true := layAll_of fun d hd => by
    obtain ⟨x, hx, rfl⟩ := List.mem_map.mp hd
    simp [PyData.canLay0, PyData.canLayAll0, (w x hx).1]
  have a2 : PyData.depthAll (lets.map (letD me)) ≤ 11 := depthAll_of fun d hd => by
    obtain ⟨x, hx, rfl⟩ := List.mem_map.mp hd
    have := (w x hx).2
    simp only [PyData.depth, PyData.depthAll]
    omega
  have b1 : PyData.canLayAll0 (SortN.srt (ns.map ItemN.pairD)) = true := layAll_of fun d hd => by
    obtain ⟨x, _, rfl⟩ := srt_pairs _ d hd
    simp [PyData.canLay0, PyData.canLayAll0]
  have b2 : PyData.depthAll (SortN.srt (ns.map ItemN.pairD)) ≤ 1 := depthAll_of fun d hd => by
    obtain ⟨x, _, rfl⟩ := srt_pairs _ d hd
    simp [PyData.depth, PyData.depthAll]
  have c1 : PyData.canLayAll0 ((srtI (hs.map (·.1))).map (rowH hs)) = true := layAll_of fun d hd => by
    obtain ⟨x, _, rfl⟩ := List.mem_map.mp hd
    simp [rowH, PyData.canLay0, PyData.canLayAll0, lay_intsP]
  have c2 : PyData.depthAll ((srtI (hs.map (·.1))).map (rowH hs)) ≤ 2 := depthAll_of fun d hd => by
    obtain ⟨x, _, rfl⟩ := List.mem_map.mp hd
    have := depth_intsP (getH hs x).2
    simp only [rowH, PyData.depth, PyData.depthAll]
    omega
  refine Nst.shaped_of ?_ ?_
  · simp [imgP, PyData.canLay0, PyData.canLayAll0, a1, b1, c1]
  · simp only [imgP, PyData.depth, PyData.depthAll]
    omega
theorem ans_shaped {me : Int} {hs : Heard} {L : List Int} : SeqAt.shaped (.tuple (L.map (ansD me hs))) = true := by
  have c1 : PyData.canLayAll0 (L.map (ansD me hs)) = true := layAll_of fun d hd => by
    obtain ⟨x, _, rfl⟩ := List.mem_map.mp hd
    simp [ansD, PyData.canLay0, PyData.canLayAll0, lay_intsP, show PyData.strOk "ack" = true from by decide +kernel]
  have c2 : PyData.depthAll (L.map (ansD me hs)) ≤ 3 := depthAll_of fun d hd => by
    obtain ⟨x, _, rfl⟩ := List.mem_map.mp hd
    have := depth_intsP (getH hs x).2
    simp only [ansD, PyData.depth, PyData.depthAll]
    omega
  refine Nst.shaped_of (by simp [PyData.canLay0, c1]) ?_
  simp only [PyData.depth]
  omega
/-! ### frames -/
/-- all stays but what belongs to one post -/
def Fr (p ol nd hd : Addr) (H H' : Hp) : Prop := ∀ c u, H c = some u → c ≠ p → c ≠ ol → c ≠ nd → c ≠ hd → H' c = some u
section
variable {H H' : Hp} {p ol nd hd : Addr} {me : Int} {lets : Lets} {ns : Nums} {hs : Heard}
theorem PD.same (s : Same H H') (D : PD K H p ol nd hd me lets ns hs) : PD K H' p ol nd hd me lets ns hs := by
  obtain ⟨⟨ls, G, r⟩, e⟩ := D
  exact ⟨⟨ls, G.same s, r.keep (Same.tups s)⟩, e⟩
theorem PD.muts (D : PD K H p ol nd hd me lets ns hs) : Mut (H p) ∧ Mut (H ol) ∧ Mut (H nd) ∧ Mut (H hd) := by
  obtain ⟨⟨ls, ⟨⟨dx, h1⟩, h2, h3, kvs, h4, h5⟩, r⟩, e⟩ := D
  exact ⟨by rw [h1]; exact True.intro, by rw [h2]; exact True.intro, by rw [h3]; exact True.intro, by rw [h4]; exact True.intro⟩
theorem PD.there (D : PD K H p ol nd hd me lets ns hs) : (∃ o, H p = some o) ∧ (∃ o, H ol = some o) ∧ (∃ o, H nd = some o) ∧ ∃ o, H hd = some o := by
  obtain ⟨⟨ls, ⟨⟨dx, h1⟩, h2, h3, kvs, h4, h5⟩, r⟩, e⟩ := D
  exact ⟨⟨_, h1⟩, ⟨_, h2⟩, ⟨_, h3⟩, ⟨_, h4⟩⟩
theorem Fr.tk (f : Fr p ol nd hd H H') (D : PD K H p ol nd hd me lets ns hs) : TK K H H' := fun c xs h => by
  obtain ⟨m1, m2, m3, m4⟩ := D.muts
  have ne : ∀ {u : HO}, H c = some u → ¬ Mut (some u) → H' c = some u := fun {u} e nm => f c u e (fun z => nm (by rw [← e, z]; exact m1)) (fun z => nm (by rw [← e, z]; exact m2)) (fun z => nm (by rw [← e, z]; exact m3)) fun z => nm (by rw [← e, z]; exact m4)
  rcases h with (h | ⟨u, h⟩) | h
  · exact .inl (.inl (ne h fun z => z))
  · exact .inl (.inr ⟨u, ne h fun z => z⟩)
  · exact .inr h
theorem Fr.refl : Fr p ol nd hd H H := fun _ _ h _ _ _ _ => h
/-- another post is not touched -/
theorem PD.other {p2 ol2 nd2 hd2 : Addr} {me2 : Int} {lets2 : Lets} {ns2 : Nums} {hs2 : Heard} (D : PD K H p ol nd hd me lets ns hs) (f : Fr p ol nd hd H H') (D2 : PD K H p2 ol2 nd2 hd2 me2 lets2 ns2 hs2)
    (n : ∀ c ∈ [p2, ol2, nd2, hd2], c ≠ p ∧ c ≠ ol ∧ c ≠ nd ∧ c ≠ hd) : PD K H' p2 ol2 nd2 hd2 me2 lets2 ns2 hs2 := by
  have tk := f.tk D
  obtain ⟨⟨ls, ⟨⟨dx, h1⟩, h2, h3, kvs, h4, h5⟩, r⟩, e⟩ := D2
  have go : ∀ c ∈ [p2, ol2, nd2, hd2], ∀ u, H c = some u → H' c = some u := fun c hc u hu => f c u hu (n c hc).1 (n c hc).2.1 (n c hc).2.2.1 (n c hc).2.2.2
  exact ⟨⟨ls, ⟨⟨dx, go _ (by simp) _ h1⟩, go _ (by simp) _ h2, go _ (by simp) _ h3, kvs, go _ (by simp) _ h4, h5.keep tk⟩, rps_keep tk r⟩, e⟩
theorem PD.gave {ls : List V} {t : Addr} {o : Int} {b : V} {bd : PyData} {ns' : Nums} (tk : TK K H H') (D : Rps K H ls (lets.map (letD me))) (e : nd ≠ hd) (G : PostAt K H' p ol nd hd me (ls ++ [.ref t]) ns' hs) (ht : SqT K H' t [.int me, .int o, .int (getN ns o), b]) (rb : Rp K H b bd) :
    PD K H' p ol nd hd me (lets ++ [(o, getN ns o, bd)]) ns' hs := by
  refine ⟨⟨_, G, ?_⟩, e⟩
  rw [List.map_append]
  exact (rps_keep tk D).app (.cons (.tup ht (.cons (.int _) (.cons (.int _) (.cons (.int _) (.cons (rp_keep tk rb) .nil))))) .nil)
end
theorem PB.gave {m : Nat} {lets : Lets} {ns : Nums} {hs : Heard} {o n v : Int} {bd : PyData} (B : PB m lets ns hs) (hb : BdOk bd) : PB (m + 1) (lets ++ [(o, n, bd)]) (puA ns o v) hs := by
  have B2 := B.mono (Nat.le_succ m)
  refine ⟨by rw [List.length_append]; have := B.l; simp only [List.length_cons, List.length_nil]; omega, by have := puA_len ns o v; have := B.n; omega, B2.h, B2.b, puA_nodup _ _ B.k, fun x hx => ?_⟩
  rcases List.mem_append.mp hx with h | h
  · exact B.w x h
  · rw [List.mem_singleton.mp h]
    exact hb
theorem PB.took {m : Nat} {lets : Lets} {ns : Nums} {hs : Heard} {o n : Int} (B : PB m lets ns hs) : PB (m + 1) lets ns (puH hs o n) := by
  have B2 := B.mono (Nat.le_succ m)
  refine ⟨B2.l, B2.n, by have := puA_len hs o (withF (getH hs o).1 (getH hs o).2 n); have := B.h; unfold puH; omega, fun x hx => ?_, B.k, B.w⟩
  rcases puA_mem hx with h | h
  · exact B2.b x h
  · rw [h]
    have h1 := withF_len (getH hs o).1 (getH hs o).2 n
    have h2 : (getH hs o).2.length ≤ m := by
      unfold getH
      cases z : lkA hs o with
      | none => exact Nat.zero_le _
      | some v => exact B.b _ (lkA_mem z)
    omega
theorem PB.let_ {m : Nat} {lets : Lets} {ns : Nums} {hs : Heard} {f : Int × Int × PyData → Bool} (B : PB m lets ns hs) : PB m (lets.filter f) ns hs :=
  ⟨Nat.le_trans (List.length_filter_le _ _) B.l, B.n, B.h, B.b, B.k, fun x hx => B.w x ((List.mem_filter.mp hx).1)⟩
/-! ### the least number that was not taken -/
def mexN (L : List Int) : Nat → Int
  | 0 => 0
  | k + 1 => if mexN L k ∈ L then mexN L k + 1 else mexN L k
def mexF (L : List Int) : Int := mexN L (L.length + 1)
theorem mexN_spec (L : List Int) : ∀ k, (∀ i, 0 ≤ i → i < mexN L k → i ∈ L) ∧ 0 ≤ mexN L k ∧ (mexN L k ∉ L ∨ mexN L k = (k : Int))
  | 0 => ⟨fun i h1 h2 => by have : i < 0 := h2; omega, Int.le_refl _, .inr rfl⟩
  | k + 1 => by
    obtain ⟨h1, h2, h3⟩ := mexN_spec L k
    unfold mexN
    by_cases e : mexN L k ∈ L
    · rw [if_pos e]
      have e3 : mexN L k = (k : Int) := h3.elim (fun z => absurd e z) id
      refine ⟨fun i a b => ?_, by omega, .inr (by omega)⟩
      by_cases z : i = mexN L k
      · rw [z]; exact e
      · exact h1 i a (by omega)
    · rw [if_neg e]
      exact ⟨h1, h2, .inl e⟩
theorem cover : ∀ (n : Nat) (L : List Int), (∀ i : Nat, i < n → (i : Int) ∈ L) → n ≤ L.length
  | 0, _, _ => Nat.zero_le _
  | n + 1, L, h => by
    have m := h n (Nat.lt_succ_self n)
    have ih := cover n (L.erase (n : Int)) fun i hi => (List.mem_erase_of_ne (by omega)).mpr (h i (by omega))
    rw [List.length_erase_of_mem m] at ih
    have := List.length_pos_of_mem m
    omega
structure IsMex (L : List Int) (m : Int) : Prop where
  all : ∀ i, 0 ≤ i → i < m → i ∈ L
  pos : 0 ≤ m
  out : m ∉ L
theorem mexF_is (L : List Int) : IsMex L (mexF L) := by
  obtain ⟨h1, h2, h3⟩ := mexN_spec L (L.length + 1)
  refine ⟨h1, h2, fun z => ?_⟩
  rcases h3 with h3 | h3
  · exact h3 z
  · have := cover (L.length + 1 + 1) L fun i hi => by
      by_cases e : i = L.length + 1
      · rw [e, ← h3]
        exact z
      · exact h1 i (by omega) (by rw [h3]; omega)
    omega
theorem IsMex.uniq {L : List Int} {a b : Int} (x : IsMex L a) (y : IsMex L b) : a = b := by
  rcases Int.lt_trichotomy a b with h | h | h
  · exact absurd (y.all a x.pos h) x.out
  · exact h
  · exact absurd (x.all b y.pos h) y.out
def pairF (L : List Int) : Int × List Int := (mexF L, srtI (L.filter fun n => decide (mexF L < n)))
theorem srtI_mem {l : List Int} {x : Int} : x ∈ srtI l ↔ x ∈ l := (List.mergeSort_perm l _).mem_iff
theorem srtI_nodup {l : List Int} (h : l.Nodup) : (srtI l).Nodup := (List.mergeSort_perm l _).nodup_iff.mpr h
theorem srtI_le (l : List Int) : (srtI l).Pairwise (· ≤ ·) :=
  (List.pairwise_mergeSort (le := fun a b : Int => decide (a ≤ b)) (fun a b c x y => by simp only [decide_eq_true_eq] at x y ⊢; omega) (fun a b => by simp only [Bool.or_eq_true, decide_eq_true_eq]; omega) l).imp fun x => of_decide_eq_true x
theorem srtI_lt {l : List Int} (h : l.Nodup) : (srtI l).Pairwise (· < ·) := by
  have a := srtI_le l
  have b := srtI_nodup h
  exact (List.pairwise_and_iff.mpr ⟨a, b⟩).imp fun ⟨x, y⟩ => by omega
theorem pairF_tells {L : List Int} (h : ∀ x ∈ L, 0 ≤ x) (n : Int) : tellsF (pairF L).1 (pairF L).2 n = decide (n ∈ L) := by
  have M := mexF_is L
  show ((decide (0 ≤ n) && decide (n < mexF L)) || decide (n ∈ srtI (L.filter fun n => decide (mexF L < n)))) = _
  by_cases e : n ∈ L
  · rw [decide_eq_true e]
    rcases Int.lt_trichotomy n (mexF L) with z | z | z
    · rw [decide_eq_true (h n e), decide_eq_true z]
      rfl
    · exact absurd (z ▸ e) M.out
    · rw [decide_eq_true (srtI_mem.mpr (List.mem_filter.mpr ⟨e, decide_eq_true z⟩)), Bool.or_true]
  · rw [decide_eq_false e]
    have h1 : decide (n ∈ srtI (L.filter fun n => decide (mexF L < n))) = false := decide_eq_false fun z => e (List.mem_filter.mp (srtI_mem.mp z)).1
    rw [h1, Bool.or_false]
    by_cases a : 0 ≤ n
    · by_cases b : n < mexF L
      · exact absurd (M.all n a b) e
      · rw [decide_eq_false b, Bool.and_false]
    · rw [decide_eq_false a, Bool.false_and]
theorem run_spec : ∀ (S : List Int) (low : Int), S.Pairwise (· < ·) → (∀ x ∈ S, low ≤ x) →
    (∀ i, low ≤ i → i < low + (runF S low : Int) → i ∈ S) ∧ low + (runF S low : Int) ∉ S ∧ S.drop (runF S low) = S.filter fun n => decide (low + (runF S low : Int) < n)
  | [], low, _, _ => ⟨fun i a b => by have : i < low + 0 := b; omega, (fun z => nomatch z), rfl⟩
  | x :: r, low, hp, hge => by
    rw [List.pairwise_cons] at hp
    have hx := hge x List.mem_cons_self
    by_cases e : x = low
    · have er : runF (x :: r) low = runF r (low + 1) + 1 := if_pos e
      obtain ⟨a, b, c⟩ := run_spec r (low + 1) hp.2 fun y hy => by have := hp.1 y hy; omega
      rw [er]
      have en : low + ((runF r (low + 1) + 1 : Nat) : Int) = low + 1 + (runF r (low + 1) : Int) := by omega
      rw [en]
      refine ⟨fun i h1 h2 => ?_, fun z => ?_, ?_⟩
      · by_cases z : i = low
        · rw [z, ← e]; exact List.mem_cons_self
        · exact List.mem_cons_of_mem _ (a i (by omega) h2)
      · rcases List.mem_cons.mp z with z | z
        · omega
        · exact b z
      · rw [List.drop_succ_cons, c, List.filter_cons, if_neg (by simp only [decide_eq_true_eq]; omega)]
    · have er : runF (x :: r) low = 0 := if_neg e
      rw [er]
      refine ⟨fun i h1 h2 => by omega, fun z => ?_, ?_⟩
      · rcases List.mem_cons.mp z with z | z
        · omega
        · have := hp.1 _ z
          omega
      · symm
        refine List.filter_eq_self.mpr fun y hy => decide_eq_true ?_
        rcases List.mem_cons.mp hy with z | z
        · omega
        · have := hp.1 y z
          omega
theorem pairF_snoc {L : List Int} {n : Int} (nd : L.Nodup) (h : n ∉ L) (h0 : 0 ≤ n) : pairF (L ++ [n]) = withF (pairF L).1 (pairF L).2 n := by
  have M := mexF_is L
  show pairF (L ++ [n]) = (mexF L + (runF (srtI (srtI (L.filter fun n => decide (mexF L < n)) ++ [n])) (mexF L) : Int), (srtI (srtI (L.filter fun n => decide (mexF L < n)) ++ [n])).drop (runF (srtI (srtI (L.filter fun n => decide (mexF L < n)) ++ [n])) (mexF L)))
  generalize hS : srtI (srtI (L.filter fun n => decide (mexF L < n)) ++ [n]) = S
  generalize mexF L = low at *
  have nge : low ≤ n := by
    rcases Int.lt_or_le n low with z | z
    · exact absurd (M.all n h0 z) h
    · exact z
  have memS : ∀ x, x ∈ S ↔ x ∈ L ++ [n] ∧ low ≤ x := fun x => by
    rw [← hS, srtI_mem, List.mem_append, srtI_mem, List.mem_filter, List.mem_append, List.mem_singleton, decide_eq_true_eq]
    constructor
    · rintro (⟨a, b⟩ | a)
      · exact ⟨.inl a, by omega⟩
      · exact ⟨.inr a, by omega⟩
    · rintro ⟨a | a, b⟩
      · refine .inl ⟨a, ?_⟩
        rcases Int.lt_or_eq_of_le b with z | z
        · exact z
        · exact absurd (z ▸ a) M.out
      · exact .inr a
  have ndS : S.Nodup := by
    rw [← hS]
    refine srtI_nodup (List.nodup_append.mpr ⟨srtI_nodup (nd.filter _), by simp, fun a ha b hb e => ?_⟩)
    rw [List.mem_singleton] at hb
    rw [e, hb] at ha
    exact h (List.mem_filter.mp (srtI_mem.mp ha)).1
  have ltS : S.Pairwise (· < ·) := by
    have a : S.Pairwise (· ≤ ·) := by rw [← hS]; exact srtI_le _
    exact (List.pairwise_and_iff.mpr ⟨a, ndS⟩).imp fun ⟨x, y⟩ => by omega
  obtain ⟨a, b, c⟩ := run_spec S low ltS fun x hx => ((memS x).mp hx).2
  have M2 : IsMex (L ++ [n]) (low + (runF S low : Int)) := by
    refine ⟨fun i h1 h2 => ?_, by have := M.pos; omega, fun z => b ((memS _).mpr ⟨z, by omega⟩)⟩
    by_cases z : i < low
    · exact List.mem_append_left _ (M.all i h1 z)
    · exact ((memS i).mp (a i (by omega) h2)).1
  have e1 : mexF (L ++ [n]) = low + (runF S low : Int) := (mexF_is _).uniq M2
  unfold pairF
  rw [e1, c]
  refine congrArg (Prod.mk _) ?_
  refine (srtI_eq ?_ ((ltS.filter _).imp fun x => Int.le_of_lt x)).symm
  have nd2 : (L ++ [n]).Nodup := List.nodup_append.mpr ⟨nd, by simp, fun a ha b hb e => by
    rw [List.mem_singleton] at hb
    rw [e, hb] at ha
    exact h ha⟩
  refine (List.perm_ext_iff_of_nodup (ndS.filter _) (nd2.filter _)).mpr fun x => ?_
  rw [List.mem_filter, List.mem_filter, memS, decide_eq_true_eq]
  constructor
  · rintro ⟨⟨u, _⟩, v⟩
    exact ⟨u, v⟩
  · rintro ⟨u, v⟩
    exact ⟨⟨u, by omega⟩, v⟩
/-! ### pairs of numbers in order -/
theorem dle_tot : PySem.W.TotalLe SortN.dle := PySem.W.sortLe_total _ _ _
theorem dle_pair {x y : Int × Int} (h : x.1 ≠ y.1) : SortN.dle (ItemN.pairD x) (ItemN.pairD y) = decide (x.1 ≤ y.1) := by
  show (!PySem.W.dataLt (.tuple [.int y.1, .int y.2]) (.tuple [.int x.1, .int x.2])) = _
  rw [PySem.W.dataLt_ii]
  by_cases z : x.1 ≤ y.1
  · rw [decide_eq_true z, decide_eq_false (fun w => by omega)]
    rfl
  · rw [decide_eq_false z, decide_eq_true (Or.inl (by omega))]
    rfl
theorem srt_pairs_keys {ns : Nums} (nd : (ns.map (·.1)).Nodup) : SortN.srt (ns.map ItemN.pairD) = (srtI (ns.map (·.1))).map fun o => ItemN.pairD (o, getN ns o) := by
  have q1 := PySem.W.sort_maps (r := fun x y : Int × Int => decide (x.1 ≤ y.1)) (s := SortN.dle) ItemN.pairD (l := ns) (fun a ha b hb => by
    by_cases e : a.1 = b.1
    · have e2 : a = b := by
        have h1 := lkA_of_mem nd (k := a.1) (v := a.2) ha
        have h2 := lkA_of_mem nd (k := b.1) (v := b.2) hb
        rw [e, h2] at h1
        exact Prod.ext e (Option.some.inj h1).symm
      rw [e2, dle_tot.refl]
      exact decide_eq_true (Int.le_refl _)
    · exact (dle_pair e).symm)
  have q2 := PySem.W.sort_maps (r := fun x y : Int × Int => decide (x.1 ≤ y.1)) (s := fun a b : Int => decide (a ≤ b)) (fun x : Int × Int => x.1) (l := ns) (fun a _ b _ => rfl)
  rw [show SortN.srt (ns.map ItemN.pairD) = _ from q1.symm, show srtI (ns.map (·.1)) = _ from q2.symm, List.map_map]
  refine List.map_congr_left fun x hx => ?_
  have hx' : x ∈ ns := (List.mergeSort_perm _ _).mem_iff.mp hx
  show ItemN.pairD x = ItemN.pairD (x.1, getN ns x.1)
  unfold getN
  rw [lkA_of_mem nd (k := x.1) (v := x.2) hx']
  rfl
/-! ### _law_pair, _law_told_by -/
theorem in_lst {H : Hp} {n : Int} {l : Addr} {L : List Int} {Q : VK} (h : SqL K H l (L.map V.int) ∨ SqT K H l (L.map V.int)) (q : Q (.bl (decide (n ∈ L))) H) : rIn K false (.int n) (.ref l) H Q := by
  refine ⟨l, _, rfl, h, rfl, flat_ints, ?_⟩
  rw [show (if false = true then !inV (.int n) (L.map V.int) else inV (.int n) (L.map V.int)) = decide (n ∈ L) from in_ints]
  exact q
def spPair (K : PySem.W.Frag) : Sp := fun vs H Q _ => ∃ (l : Addr) (L : List Int), vs = [.ref l] ∧ H l = some (.lst (L.map V.int)) ∧ L.length ≤ 1000 ∧ ∀ H' v, Same H H' → PairAt K H' v (pairF L) → Q v H'
theorem ok_lw_pair (T : Txt K mg w a) : FnOk P w K mg base CX0 1 (He.ga K "_law_pair") a.d_lw_pair ["taken"] (spPair K) := by
  refine T.F_lw_pair.ok sc_lw_pair (fun vs H Q E h => ?_) (fun cdv A outer s H vs Q E hr h => ?_)
  · obtain ⟨l, L, rfl, _⟩ := h
    rfl
  · obtain ⟨l, L, rfl, hl, lL, q⟩ := h
    refine ⟨_, PSs.nox (pss_cons (ps_set (i := 1) sc_lw_pair.nd rfl (Or.inr rfl) pe_int)
      (pss_cons (ps_for PassesOwn.never rfl (pi_range1 (by rfl) T.g_range (pa_cons (pe_op op_add (pe_callB call_len_seq (by rfl) T.g_len boot_len (pa_cons (pv 0) pa_nil)) pe_int) pa_nil)) (pg_name (i := 2) sc_lw_pair.nd rfl (Or.inl rfl))
      (pss_one (ps_if (pt_cmpR op_in_seq (pv 1) (pv 0) (by rfl)) (pss_one (ps_set (i := 1) sc_lw_pair.nd rfl (Or.inr rfl) (pe_op op_add (pv 1) pe_int))) pss_nil)))
      (pss_one (ps_ret (pe_tup (pa_cons (pv 1) (pa_cons (pe_callTy call_tuple_of (by rfl) T.g_tuple boot_tuple (pa_cons (pe_callB (SortN.call_sortL rfl hr.units) (by rfl) T.g_sorted boot_sorted (pa_cons (pe_lc (own := [("number", 3)]) (g := gName 3)   (by rfl) sc_lw_pair.nd (pi_list (pv 0)) (blkOk_by (own := [("number", 3)]) (N := N_lw_pair) (sc := defScope s_lw_pair) (by decide +kernel)) (fun _ _ _ _ _ => pg_name (i := 3) sc_lw_pair.nd rfl (Or.inl rfl)) (fun _ _ _ _ _ => pts_one (pt_cmpR op_gt (pv 3) (pv 1) (nomark _))) (fun _ _ _ _ _ => (pv 3))) pa_nil)) pa_nil)) pa_nil))))))), ?_⟩
    rw [show L2.start N_lw_pair [.ref l] = [some (.ref l), none, none, none] from rfl]
    refine ⟨_, rfl, l, _, rfl, .inl (SqL.of hl), _, _, rfl, rfl, _, rfl, by omega, by rw [len_map]; omega, ?_⟩
    rw [show (((L.map V.int).length : Int) + 1).toNat = L.length + 1 by rw [len_map]; omega]
    refine for_range (n := L.length + 1) (fun i σ H2 => H2 = H ∧ ∃ x2 : Option V, σ = [some (.ref l), some (.int (mexN L i)), x2, none]) ⟨rfl, _, rfl⟩ (fun i σ H2 hi ⟨eH, x2, e⟩ => ?_) fun σ H2 ⟨eH, x2, e⟩ => ?_
    · subst eH e
      refine ⟨_, rfl, _, rfl, in_lst (.inl (SqL.of hl)) ?_⟩
      refine ⟨_, rfl, Cm.itD (fun h => ?_) fun h => ?_⟩
      · exact ⟨_, rfl, _, _, rfl, rfl, rfl, some (.int (0 + (i : Int))), by rw [show mexN L (i + 1) = mexN L i + 1 from if_pos h]; rfl⟩
      · exact ⟨rfl, some (.int (0 + (i : Int))), by rw [show mexN L (i + 1) = mexN L i from if_neg h]; rfl⟩
    · subst eH e
      refine ⟨_, rfl, _, rfl, l, rfl, ⟨_, SqL.of hl⟩, fun D nD => ?_⟩
      rw [show mexN L (L.length + 1) = mexF L from rfl]
      refine lc_list (K := K) (a := l) (xs := L.map V.int) (fun i Hi => Same H2 Hi ∧ ∃ acc : List Int, Hi D = some (.lst (acc.map V.int)) ∧ acc = (L.take i).filter fun n => decide (mexF L < n)) ⟨Cm.same_new nD, [], upd_same, rfl⟩ (fun i Hi _ b => SqL.of (b.1 _ _ hl)) (fun i y Hi hy b => ?_) fun Hi b => ?_
      · obtain ⟨sH, acc, hD, eD⟩ := b
        refine ⟨rfl, ?_⟩
        rw [List.getElem?_map] at hy
        obtain ⟨o, ho, rfl⟩ := Option.map_eq_some_iff.mp hy
        have hil := (List.getElem?_eq_some_iff.mp ho).1
        have lacc : acc.length ≤ i := by
          rw [eD]
          refine Nat.le_trans (List.length_filter_le _ _) ?_
          rw [List.length_take]
          omega
        refine ⟨_, rfl, _, rfl, _, _, rfl, rfl, _, rfl, Cm.itD (fun h => ?_) fun h => ?_⟩
        · refine ⟨_, rfl, _, hD, Cm.smallL (by rw [len_map]; omega), Cm.same_mut sH nD, acc ++ [o], by rw [upd_same, map_snoc], ?_⟩
          rw [take_flt ho, if_pos (decide_eq_true h), eD]
        · refine ⟨sH, acc, hD, ?_⟩
          rw [take_flt ho, if_neg (by simpa using h), List.append_nil, eD]
      · obtain ⟨sH, acc, hD, eD⟩ := b
        rw [len_map, List.take_length] at eD
        refine ⟨D, _, _, rfl, SqL.of hD, ints_rps _, ints_alike _, ?_, ints_depth _, fun ys p rys np => ?_⟩
        · refine .inr fun d hd => ?_
          obtain ⟨i, _, rfl⟩ := List.mem_map.mp hd
          exact ⟨fun z => (nomatch z), fun xs z => (nomatch z)⟩
        · rw [srt_ints] at rys
          obtain rfl := rps_ints rys
          have sp := Cm.same_new (o := .lst ((srtI acc).map V.int)) np
          refine ⟨p, _, rfl, .inl ⟨Cm.sql_new, fun t nt => ⟨Cm.small (by show 2 ≤ 100000; decide), fun r nr => ?_⟩⟩⟩
          have st := Cm.same_new (o := .tup ((srtI acc).map V.int)) nt
          have sr := Cm.same_new (o := .tup [.int (mexF L), .ref t]) nr
          refine q _ _ ((sH.trans sp).trans (st.trans sr)) ⟨r, t, rfl, Cm.sqt_new, ?_⟩
          show SqT K _ t ((srtI (L.filter fun n => decide (mexF L < n))).map V.int)
          rw [← eD]
          exact Cm.sameT sr Cm.sqt_new
def spToldBy (K : PySem.W.Frag) : Sp := fun vs H Q _ => ∃ (by_ : Addr) (low n : Int) (bey : List Int), vs = [.int low, .ref by_, .int n] ∧ SqT K H by_ (bey.map V.int) ∧ Q (.bl (decide (n < low) || decide (n ∈ bey))) H
theorem ok_lw_told_by (T : Txt K mg w a) : FnOk P w K mg base CX0 1 (He.ga K "_law_told_by") a.d_lw_told_by ["low", "beyond", "number"] (spToldBy K) := by
  refine T.F_lw_told_by.ok sc_lw_told_by (fun vs H Q E h => ?_) (fun cdv A outer s H vs Q E hr h => ?_)
  · obtain ⟨by_, low, n, bey, rfl, _⟩ := h
    rfl
  · obtain ⟨by_, low, n, bey, rfl, hy, q⟩ := h
    refine ⟨_, PSs.nox (pss_one (ps_ret (pe_or (pe_cmpR op_lt (pv 2) (pv 0) (nomark _)) (pe_one (pe_cmpR op_in_seq (pv 2) (pv 1) (by rfl)))))), ?_⟩
    rw [show L2.start N_lw_told_by [.int low, .ref by_, .int n] = [some (.int low), some (.ref by_), some (.int n)] from rfl]
    refine ⟨_, rfl, _, rfl, _, _, rfl, rfl, _, rfl, Cm.itD (fun h => ?_) fun h => ?_⟩
    · rw [decide_eq_true h] at q
      exact q
    · rw [decide_eq_false h, Bool.false_or] at q
      exact ⟨_, rfl, _, rfl, in_lst (.inr hy) q⟩
/-! ### the law's own record -/
abbrev AsV {α : Type} (R : V → α → Prop) : List (Key × V) → List (Int × α) → Prop := Paired fun p q => p.1 = Sum.inl q.1 ∧ R p.2 q.2
section
variable {α : Type} {R : V → α → Prop} {kvs : List (Key × V)} {ts : List (Int × α)}
theorem asV_keys (h : AsV R kvs ts) : kvs.map (·.1) = (ts.map (·.1)).map Sum.inl := by
  induction h with
  | nil => rfl
  | cons h t ih => rw [List.map_cons, List.map_cons, List.map_cons, ih, h.1]
theorem asV_get (h : AsV R kvs ts) (k : Int) : match lkA ts k with | none => valV kvs (Sum.inl k) = none | some u => ∃ v, valV kvs (Sum.inl k) = some v ∧ R v u := by
  induction h with
  | nil => exact rfl
  | @cons p q ps qs h t ih =>
    obtain ⟨e1, e2⟩ := h
    unfold valV lkA at ih ⊢
    rw [List.find?_cons, List.find?_cons]
    by_cases e : q.1 = k
    · rw [show decide (p.1 = Sum.inl k) = true from decide_eq_true (by rw [e1, e]), show decide (q.1 = k) = true from decide_eq_true e]
      exact ⟨_, rfl, e2⟩
    · rw [show decide (p.1 = Sum.inl k) = false from decide_eq_false (fun h => e (inl_eq.mp (e1.symm.trans h))), show decide (q.1 = k) = false from decide_eq_false e]
      exact ih
theorem asV_snoc {p : Key × V} {q : Int × α} (h : AsV R kvs ts) (g : p.1 = Sum.inl q.1 ∧ R p.2 q.2) : AsV R (kvs ++ [p]) (ts ++ [q]) := by
  induction h with
  | nil => exact .cons g .nil
  | cons h t ih => exact .cons h ih
theorem asV_any (h : AsV R kvs ts) (k : Int) : (kvs.any fun kv => decide (kv.1 = Sum.inl k)) = ts.any fun x => decide (x.1 = k) := by
  induction h with
  | nil => rfl
  | @cons p q ps qs h t ih =>
    rw [List.any_cons, List.any_cons, ih]
    congr 1
    rw [decide_eq_decide, h.1]
    exact inl_eq
theorem asV_put {v : V} {u : α} (h : AsV R kvs ts) (k : Int) (hv : R v u) : AsV R (putK kvs (Sum.inl k) v) (puA ts k u) := by
  unfold putK puA
  rw [asV_any h]
  split
  · rename_i hx
    clear hx
    induction h with
    | nil => exact .nil
    | @cons p q ps qs h t ih =>
      rw [List.map_cons, List.map_cons]
      refine .cons ?_ ih
      by_cases e : q.1 = k
      · rw [if_pos (h.1.trans (inl_eq.mpr e)), if_pos e]
        exact ⟨h.1, hv⟩
      · rw [if_neg (fun z => e (inl_eq.mp (h.1.symm.trans z))), if_neg e]
        exact h
  · exact asV_snoc h ⟨rfl, hv⟩
end
abbrev Taks : Type := List (Int × List Int)
def getT (ts : Taks) (o : Int) : List Int := (lkA ts o).getD []
abbrev LstI (H : Hp) (av : List Addr) (v : V) (L : List Int) : Prop := ∃ l, v = .ref l ∧ l ∉ av ∧ H l = some (.lst (L.map V.int))
abbrev TakV (H : Hp) (av : List Addr) : List (Key × V) → Taks → Prop := AsV (LstI H av)
theorem TakV.mono {H H' : Hp} {av av' : List Addr} {kvs : List (Key × V)} {ts : Taks} (h : TakV H av kvs ts) (f : ∀ l us, l ∉ av → H l = some (.lst us) → l ∉ av' ∧ H' l = some (.lst us)) : TakV H' av' kvs ts :=
  Paired.mapP h fun _ _ ⟨e, l, e2, n, hl⟩ => ⟨e, l, e2, (f l _ n hl).1, (f l _ n hl).2⟩
theorem tak_get {H : Hp} {av : List Addr} {kvs : List (Key × V)} {ts : Taks} (h : TakV H av kvs ts) (o : Int) {t0 : Addr} (ht : H t0 = some (.lst [])) : ∃ l, (valV kvs (Sum.inl o)).getD (.ref t0) = .ref l ∧ H l = some (.lst ((getT ts o).map V.int)) := by
  have g := asV_get h o
  unfold getT
  cases z : lkA ts o with
  | none =>
    rw [z] at g
    rw [g]
    exact ⟨t0, rfl, ht⟩
  | some L =>
    rw [z] at g
    obtain ⟨v, hv, l, rfl, _, hl⟩ := g
    rw [hv]
    exact ⟨l, rfl, hl⟩
abbrev RelT : Heard → Taks → Prop := Paired fun h t => h.1 = t.1 ∧ h.2 = pairF t.2 ∧ t.2.Nodup ∧ ∀ x ∈ t.2, 0 ≤ x
theorem relT_keys {hs : Heard} {ts : Taks} (h : RelT hs ts) : hs.map (·.1) = ts.map (·.1) := by
  induction h with
  | nil => rfl
  | cons h t ih => rw [List.map_cons, List.map_cons, ih, h.1]
theorem pairF_nil : pairF [] = (0, []) := by decide +kernel
theorem relT_get {hs : Heard} {ts : Taks} (h : RelT hs ts) (o : Int) : getH hs o = pairF (getT ts o) ∧ (getT ts o).Nodup ∧ ∀ x ∈ getT ts o, 0 ≤ x := by
  unfold getH getT
  induction h with
  | nil => exact ⟨pairF_nil.symm, List.nodup_nil, fun x hx => nomatch hx⟩
  | @cons p q ps qs h t ih =>
    obtain ⟨e1, e2, e3, e4⟩ := h
    unfold lkA at ih ⊢
    rw [List.find?_cons, List.find?_cons]
    by_cases e : q.1 = o
    · rw [show decide (p.1 = o) = true from decide_eq_true (by rw [e1, e]), show decide (q.1 = o) = true from decide_eq_true e]
      exact ⟨e2, e3, e4⟩
    · rw [show decide (p.1 = o) = false from decide_eq_false (fun h => e (e1.symm.trans h)), show decide (q.1 = o) = false from decide_eq_false e]
      exact ih
theorem relT_any {hs : Heard} {ts : Taks} (h : RelT hs ts) (o : Int) : (hs.any fun x => decide (x.1 = o)) = ts.any fun x => decide (x.1 = o) := by
  induction h with
  | nil => rfl
  | cons h t ih => rw [List.any_cons, List.any_cons, ih, h.1]
theorem relT_put {hs : Heard} {ts : Taks} (h : RelT hs ts) {o n : Int} (hn : n ∉ getT ts o) (h0 : 0 ≤ n) : RelT (puH hs o n) (puA ts o (getT ts o ++ [n])) := by
  obtain ⟨g1, g2, g3⟩ := relT_get h o
  have row : (withF (getH hs o).1 (getH hs o).2 n) = pairF (getT ts o ++ [n]) ∧ (getT ts o ++ [n]).Nodup ∧ ∀ x ∈ getT ts o ++ [n], 0 ≤ x := by
    refine ⟨by rw [g1, pairF_snoc g2 hn h0], List.nodup_append.mpr ⟨g2, by simp, fun a ha b hb e => ?_⟩, fun x hx => ?_⟩
    · rw [List.mem_singleton] at hb
      rw [e, hb] at ha
      exact hn ha
    · rcases List.mem_append.mp hx with z | z
      · exact g3 x z
      · rw [List.mem_singleton.mp z]; exact h0
  unfold puH puA
  rw [relT_any h]
  generalize getT ts o ++ [n] = L2 at *
  generalize withF (getH hs o).1 (getH hs o).2 n = W2 at *
  split
  · rename_i hx
    clear hx g1 g2 g3 hn
    induction h with
    | nil => exact .nil
    | @cons p q ps qs h t ih =>
      rw [List.map_cons, List.map_cons]
      refine .cons ?_ ih
      by_cases e : q.1 = o
      · rw [if_pos (h.1.trans e), if_pos e]
        exact ⟨h.1, row⟩
      · rw [if_neg (fun z => e (h.1.symm.trans z)), if_neg e]
        exact h
  · rename_i hx
    clear hx g1 g2 g3 hn
    induction h with
    | nil => exact .cons ⟨rfl, row⟩ .nil
    | cons h t ih => exact .cons h ih
theorem pair_rp {H : Hp} {v : V} {pr : Int × List Int} (h : PairAt K H v pr) : Rp K H v (.tuple [.int pr.1, .tuple (pr.2.map PyData.int)]) := by
  obtain ⟨b, by_, rfl, h1, h2⟩ := h
  exact .tup h1 (.cons (.int _) (.cons (.tup h2 (ints_rps _)) .nil))
theorem pair_shaped (pr : Int × List Int) : SeqAt.shaped (.tuple [.int pr.1, .tuple (pr.2.map PyData.int)]) = true := by
  refine Nst.shaped_of (by simp [PyData.canLay0, PyData.canLayAll0, lay_intsP]) ?_
  have := depth_intsP pr.2
  simp only [PyData.depth, PyData.depthAll]
  omega
/-- what the law keeps beside the post -/
structure Rec (K : PySem.W.Frag) (H : Hp) (bx fd td : Addr) (me : Int) (av : List Addr) (lets : Lets) (ns : Nums) (hs : Heard) (ts : Taks) : Prop where
  b : ∃ us, H bx = some (.lst us) ∧ Rps K H us (lets.map (letD me))
  f : H fd = some (.dK (NumsV ns))
  t : ∃ kvs, H td = some (.dK kvs) ∧ TakV H av kvs ts
  r : RelT hs ts
theorem Rec.same {H H' : Hp} {bx fd td : Addr} {me : Int} {av : List Addr} {lets : Lets} {ns : Nums} {hs : Heard} {ts : Taks} (s : Same H H') (R : Rec K H bx fd td me av lets ns hs ts) : Rec K H' bx fd td me av lets ns hs ts := by
  obtain ⟨⟨us, h1, h2⟩, h3, ⟨kvs, h4, h5⟩, h6⟩ := R
  exact ⟨⟨us, s _ _ h1, h2.keep (Same.tups s)⟩, s _ _ h3, ⟨kvs, s _ _ h4, h5.mono fun l us n hl => ⟨n, s _ _ hl⟩⟩, h6⟩
def spFits (K : PySem.W.Frag) : Sp := fun vs H Q _ => ∃ (p ol nd hd bx fd td : Addr) (me : Int) (av : List Addr) (lets : Lets) (ns : Nums) (hs : Heard) (ts : Taks), vs = [.ref p, .int me, .ref bx, .ref fd, .ref td] ∧ PD K H p ol nd hd me lets ns hs ∧ PB 60 lets ns hs ∧
  Rec K H bx fd td me av lets ns hs ts ∧ (∀ x ∈ ts, x.2.length ≤ 60) ∧ ∀ H', Same H H' → Q (.bl true) H'
theorem ok_lw_fits (T : Txt K mg w a) : FnOk P w K mg base CX0 4 (He.ga K "_law_fits") a.d_lw_fits ["post", "me", "box", "following", "taken"] (spFits K) := by
  refine T.F_lw_fits.ok sc_lw_fits (fun vs H Q E h => ?_) (fun cdv A outer s H vs Q E hr h => ?_)
  · obtain ⟨p, ol, nd, hd, bx, fd, td, me, av, lets, ns, hs, ts, rfl, _⟩ := h
    rfl
  · obtain ⟨p, ol, nd, hd, bx, fd, td, me, av, lets, ns, hs, ts, rfl, D, B, R, lts, q⟩ := h
    refine ⟨_, PSs.nox (pss_cons (ps_set (i := 5) sc_lw_fits.nd rfl (Or.inl rfl) (pe_lst pa_nil))
      (pss_cons (ps_set (i := 6) sc_lw_fits.nd rfl (Or.inl rfl) (pe_lst pa_nil))
      (pss_cons (ps_for PassesOwn.never rfl (pi_list (pe_callB (call_sortedDI rfl) (by rfl) T.g_sorted boot_sorted (pa_cons (pv 4) pa_nil))) (pg_name (i := 7) sc_lw_fits.nd rfl (Or.inl rfl))
      (pss_cons (ps_asg (pe_call (ok_lw_pair T) (hr.mono (by omega)) (by rfl) T.g_lw_pair T.F_lw_pair.kp T.b_lw_pair .nil pass0 (pa_cons (pe_dget (hu_of hr) (pv 4) (pv 7) (fun _ _ => rfl)) pa_nil)) (pg_tup (by rfl) (pgs_cons (pg_name (i := 8) sc_lw_fits.nd rfl (Or.inl rfl)) (pgs_cons (pg_name (i := 9) sc_lw_fits.nd rfl (Or.inl rfl)) pgs_nil))))
      (pss_cons (ps_expr (pe_bm PySem.F.plainAttrs_list PySem.F.slot_list_append PySem.F.type_list_append mt_append (pv 5) (pa_cons (pe_tup (pa_cons (pv 7) (pa_cons (pv 8) (pa_cons (pv 9) pa_nil)))) pa_nil)))
      (pss_one (ps_expr (pe_bm PySem.F.plainAttrs_list PySem.F.slot_list_append PySem.F.type_list_append mt_append (pv 6) (pa_cons (pe_tup (pa_cons (pv 1) (pa_cons (pv 7) (pa_cons (pe_un un_neg pe_int) (pa_cons (pe_tup (pa_cons pe_str (pa_cons (pv 8) (pa_cons (pv 9) pa_nil)))) pa_nil))))) pa_nil)))))))
      (pss_cons (ps_set (i := 10) sc_lw_fits.nd rfl (Or.inl rfl) (pe_callTy call_tuple_of (by rfl) T.g_tuple boot_tuple (pa_cons (pe_lc (own := [("other", 7)]) (g := gName 7) (tt := tYes)  (by rfl) sc_lw_fits.nd (pi_list (pe_callB (call_sortedDI rfl) (by rfl) T.g_sorted boot_sorted (pa_cons (pv 3) pa_nil))) (blkOk_by (own := [("other", 7)]) (N := N_lw_fits) (sc := defScope s_lw_fits) (by decide +kernel)) (fun _ _ _ _ _ => pg_name (i := 7) sc_lw_fits.nd rfl (Or.inl rfl)) (fun _ _ _ _ _ => pts_nil) (fun _ _ _ _ _ => (pe_tup (pa_cons (pv 7) (pa_cons (pe_dget (hu_of hr) (pv 3) (pv 7) (fun _ _ => rfl)) pa_nil))))) pa_nil)))
      (pss_cons (ps_if (PW.pt (pw_or (pt_cmpR (op_neD hr.units) (pe_meth0 (pv 0) T.c_Post T.m_Post_outbox (ok_Post_outbox T) (hr.mono (by omega)) T.b_Post_outbox .nil pass0) (pe_callTy call_tuple_of (by rfl) T.g_tuple boot_tuple (pa_cons (pv 2) pa_nil)) (nomark _)) (pw_or (pt_cmpR (op_neD hr.units) (pe_meth0 (pv 0) T.c_Post T.m_Post_answers (ok_Post_answers T) (hr.mono (by omega)) T.b_Post_answers .nil pass0) (pe_callTy call_tuple_of (by rfl) T.g_tuple boot_tuple (pa_cons (pv 6) pa_nil)) (nomark _)) (pw_or1 (pt_cmpR (op_neD hr.units) (pe_meth0 (pv 0) T.c_Post T.m_Post_image (ok_Post_image T) (hr.mono (by omega)) T.b_Post_image .nil pass0) (pe_tup (pa_cons (pe_callTy call_tuple_of (by rfl) T.g_tuple boot_tuple (pa_cons (pv 2) pa_nil)) (pa_cons (pv 10) (pa_cons (pe_callTy call_tuple_of (by rfl) T.g_tuple boot_tuple (pa_cons (pv 5) pa_nil)) pa_nil)))) (nomark _)))))) (pss_one (ps_ret pe_bl)) pss_nil)
      (pss_cons (ps_for PassesOwn.never rfl (pi_range1 (by rfl) T.g_range (pa_cons pe_int pa_nil)) (pg_name (i := 7) sc_lw_fits.nd rfl (Or.inl rfl))
      (pss_cons (ps_if (PW.pt (pw_or (pt_cmpR op_ne (pe_meth (pv 0) T.c_Post T.m_Post_next_number (ok_Post_next_number T) (hr.mono (by omega)) T.b_Post_next_number .nil pass0 (pa_cons (pv 7) pa_nil)) (pe_dget2 (hu_of hr) (pv 3) (pv 7) pe_int ⟨rfl, rfl, rfl, rfl⟩) (nomark _)) (pw_or1 (pt_cmpR (op_neD hr.units) (pe_meth (pv 0) T.c_Post T.m_Post_taken (ok_Post_taken T) (hr.mono (by omega)) T.b_Post_taken .nil pass0 (pa_cons (pv 7) pa_nil)) (pe_call (ok_lw_pair T) (hr.mono (by omega)) (by rfl) T.g_lw_pair T.F_lw_pair.kp T.b_lw_pair .nil pass0 (pa_cons (pe_dget2 (hu_of hr) (pv 4) (pv 7) (pe_lst pa_nil) ⟨rfl, rfl, rfl, rfl⟩) pa_nil)) (nomark _))))) (pss_one (ps_ret pe_bl)) pss_nil)
      (pss_one (ps_for PassesOwn.never rfl (pi_range1 (by rfl) T.g_range (pa_cons pe_int pa_nil)) (pg_name (i := 11) sc_lw_fits.nd rfl (Or.inl rfl))
      (pss_cons (ps_set (i := 12) sc_lw_fits.nd rfl (Or.inl rfl) (pe_meth (pv 0) T.c_Post T.m_Post_is_taken (ok_Post_is_taken T) (hr.mono (by omega)) T.b_Post_is_taken .nil pass0 (pa_cons (pv 7) (pa_cons (pv 11) pa_nil))))
      (pss_one (ps_if (PW.pt (pw_or (pt_not (pt_val (pe_callB call_isi (by rfl) T.g_isinstance boot_isinstance (pa_cons (pv 12) (pa_cons (pe_bltn (v := .ty "bool") (by rfl) T.g_bool boot_bool rfl) pa_nil))))) (pw_or1 (pt_cmpR op_ne (pv 12) (pe_cmpR op_in_seq (pv 11) (pe_dget2 (hu_of hr) (pv 4) (pv 7) (pe_lst pa_nil) ⟨rfl, rfl, rfl, rfl⟩) (by rfl)) (nomark _))))) (pss_one (ps_ret pe_bl)) pss_nil)))))))
      (pss_one (ps_ret pe_bl)))))))), ?_⟩
    rw [show L2.start N_lw_fits [.ref p, .int me, .ref bx, .ref fd, .ref td] = [some (.ref p), some (.int me), some (.ref bx), some (.ref fd), some (.ref td), none, none, none, none, none, none, none, none] from rfl]
    refine ⟨Nat.zero_le _, fun sn nsn => ⟨Nat.zero_le _, fun an nan => ?_⟩⟩
    have s1 := Cm.same_new (o := .lst []) nsn
    have s2 := Cm.same_new (o := .lst []) nan
    have hsn : (upd (upd H sn (.lst [])) an (.lst [])) sn = some (.lst []) := s2 _ _ upd_same
    have han : (upd (upd H sn (.lst [])) an (.lst [])) an = some (.lst []) := upd_same
    have nsa : sn ≠ an := ne_of_none upd_same nan
    have s12 := s1.trans s2
    have fan : H an = none := s1.free nan
    generalize upd (upd H sn (.lst [])) an (.lst []) = H2 at *
    obtain ⟨_, _, ⟨kvs, htd, htk⟩, rel⟩ := id R
    have htd2 := s12 _ _ htd
    have lhs : hs.length < 64 := by have := B.h; omega
    have ek : kvs.map (·.1) = (hs.map (·.1)).map Sum.inl := by rw [asV_keys htk, relT_keys rel]
    refine ⟨_, rfl, td, kvs, hs.map (·.1), rfl, .inl htd2, ek, by rw [List.length_map]; exact lhs, fun ys nl pm pw nnl => ?_⟩
    obtain rfl := srtI_eq pm pw
    have hmem : ∀ o ∈ srtI (hs.map (·.1)), o ∈ hs.map (·.1) := fun o ho => srtI_mem.mp ho
    have hLl : (srtI (hs.map (·.1))).length < 64 := by rw [List.length_mergeSort, List.length_map]; exact lhs
    have s3 := Cm.same_new (o := .lst ((srtI (hs.map (·.1))).map V.int)) nnl
    have hnl : (upd H2 nl (.lst ((srtI (hs.map (·.1))).map V.int))) nl = some (.lst ((srtI (hs.map (·.1))).map V.int)) := upd_same
    have hsn3 := s3 _ _ hsn
    have han3 := s3 _ _ han
    have nls : nl ≠ sn := (ne_of_none hsn nnl).symm
    have nla : nl ≠ an := (ne_of_none han nnl).symm
    have s13 := s12.trans s3
    generalize upd H2 nl (.lst ((srtI (hs.map (·.1))).map V.int)) = H3 at *
    generalize hLe : srtI (hs.map (·.1)) = L at *
    refine ⟨nl, rfl, ⟨_, SqL.of hnl⟩, for_list (K := K) (a := nl) (xs := L.map V.int) (fun i σ Hi => ∃ (x7 x8 x9 : Option V) (ss as_ : List V), σ = [some (.ref p), some (.int me), some (.ref bx), some (.ref fd), some (.ref td), some (.ref sn), some (.ref an), x7, x8, x9, none, none, none] ∧ Same H Hi ∧ Hi nl = some (.lst (L.map V.int)) ∧ Hi sn = some (.lst ss) ∧ Rps K Hi ss ((L.take i).map (rowH hs)) ∧ Hi an = some (.lst as_) ∧ Rps K Hi as_ ((L.take i).map (ansD me hs)))
      ⟨_, _, _, [], [], rfl, s13, hnl, hsn3, .nil, han3, .nil⟩ (fun i σ Hi _ ⟨_, _, _, _, _, _, _, h, _⟩ => SqL.of h) (fun i y σ Hi hy ⟨x7, x8, x9, ss, as_, e, sH, hnli, hsni, rs, hani, ra⟩ => ?_) fun σ Hi ⟨x7, x8, x9, ss, as_, e, sH, hnli, hsni, rs, hani, ra⟩ => ?_⟩
    · subst e
      rw [List.getElem?_map] at hy
      obtain ⟨o, ho, rfl⟩ := Option.map_eq_some_iff.mp hy
      have hil := (List.getElem?_eq_some_iff.mp ho).1
      obtain ⟨_, _, ⟨kvs', htd', htk'⟩, _⟩ := R.same sH
      have hg := asV_get htk' o
      obtain ⟨TL, hTL⟩ := lkA_key (hs := ts) (k := o) (by rw [← relT_keys rel]; exact hmem o (List.mem_of_getElem? ho))
      rw [hTL] at hg
      obtain ⟨v, hv, lt, rfl, _, hlt⟩ := hg
      have eT : getT ts o = TL := by unfold getT; rw [hTL]; rfl
      have eH : getH hs o = pairF TL := by rw [(relT_get rel o).1, eT]
      refine ⟨_, rfl, _, rfl, td, _, rfl, .inl ⟨kvs', Sum.inl o, .inl htd', rfl, hv.symm⟩, lt, TL, rfl, hlt, by have := lts _ (lkA_mem hTL); show TL.length ≤ 1000; have h2 : TL.length ≤ 60 := this; omega, fun H5 v5 s5 hv5 => ?_⟩
      obtain ⟨bb, by_, rfl, hbb, hby⟩ := hv5
      refine ⟨bb, _, rfl, hbb, rfl, _, _, rfl, _, _, rfl, rfl, ?_⟩
      simp only [gName, List.set_cons_succ, List.set_cons_zero]
      have hsn5 := s5 _ _ hsni
      have han5 := s5 _ _ hani
      have hnl5 := s5 _ _ hnli
      have lss : ss.length ≤ 64 := by have := rs.len; rw [List.length_map, List.length_take] at this; omega
      have las : as_.length ≤ 64 := by have := ra.len; rw [List.length_map, List.length_take] at this; omega
      refine ⟨_, rfl, .inl ⟨rfl, _, SqL.of hsn5⟩, _, rfl, _, rfl, _, rfl, Cm.small (by show 3 ≤ 100000; decide), fun t nt => ?_⟩
      have st := Cm.same_new (o := .tup [.int o, .int (pairF TL).1, .ref by_]) nt
      refine ⟨sn, ss, _, rfl, rfl, st _ _ hsn5, Cm.smallL (by omega), ?_⟩
      have tk1 : TK K (upd H5 t (.tup [.int o, .int (pairF TL).1, .ref by_])) (upd (upd H5 t (.tup [.int o, .int (pairF TL).1, .ref by_])) sn (.lst (ss ++ [.ref t]))) := TK.upd (by rw [st _ _ hsn5]; exact True.intro)
      have rt : Rp K (upd H5 t (.tup [.int o, .int (pairF TL).1, .ref by_])) (.ref t) (rowH hs o) := by
        unfold rowH
        rw [eH]
        exact Rp.made nt (.cons (.int _) (.cons (.int _) (.cons (.tup hby (ints_rps _)) .nil)))
      have muS : Mut ((upd H5 t (.tup [.int o, .int (pairF TL).1, .ref by_])) sn) := by rw [st _ _ hsn5]; exact True.intro
      have han6 : (upd (upd H5 t (.tup [.int o, .int (pairF TL).1, .ref by_])) sn (.lst (ss ++ [.ref t]))) an = some (.lst as_) := by
        rw [upd_ne nsa.symm]
        exact st _ _ han5
      have hsn6 : (upd (upd H5 t (.tup [.int o, .int (pairF TL).1, .ref by_])) sn (.lst (ss ++ [.ref t]))) sn = some (.lst (ss ++ [.ref t])) := upd_same
      have hnl6 : (upd (upd H5 t (.tup [.int o, .int (pairF TL).1, .ref by_])) sn (.lst (ss ++ [.ref t]))) nl = some (.lst (L.map V.int)) := by
        rw [upd_ne nls]
        exact st _ _ hnl5
      have hS6 : Same H (upd (upd H5 t (.tup [.int o, .int (pairF TL).1, .ref by_])) sn (.lst (ss ++ [.ref t]))) := fun c u hc => by
        rw [upd_ne (ne_of_none hc nsn)]
        exact st _ _ (s5 _ _ (sH _ _ hc))
      have tk56 := ((TK.same s5).trans (TK.same st)).trans tk1
      have rs6 : Rps K (upd (upd H5 t (.tup [.int o, .int (pairF TL).1, .ref by_])) sn (.lst (ss ++ [.ref t]))) (ss ++ [.ref t]) ((L.take (i + 1)).map (rowH hs)) := by
        rw [List.take_succ, ho, List.map_append]
        exact (rps_keep tk56 rs).app (.cons (rp_keep tk1 rt) .nil)
      have ra6 := rps_keep tk56 ra
      have hby6 := ((TK.same st).trans tk1) _ _ hby
      generalize upd (upd H5 t (.tup [.int o, .int (pairF TL).1, .ref by_])) sn (.lst (ss ++ [.ref t])) = H6 at *
      refine ⟨_, rfl, .inl ⟨rfl, _, SqL.of han6⟩, _, rfl, _, rfl, _, rfl, _, rfl, _, rfl, Cm.small (by show 3 ≤ 100000; decide), fun t2 nt2 => ⟨Cm.small (by show 4 ≤ 100000; decide), fun t3 nt3 => ?_⟩⟩
      have st2 := Cm.same_new (o := .tup [.str "ack", .int (pairF TL).1, .ref by_]) nt2
      have st3 := Cm.same_new (o := .tup [.int me, .int o, .int (-1), .ref t2]) nt3
      have r2 : Rp K (upd H6 t2 (.tup [.str "ack", .int (pairF TL).1, .ref by_])) (.ref t2) (.tuple [.str "ack", .int (pairF TL).1, .tuple ((pairF TL).2.map PyData.int)]) := Rp.made nt2 (.cons (.str _) (.cons (.int _) (.cons (.tup hby6 (ints_rps _)) .nil)))
      have r3 : Rp K (upd (upd H6 t2 (.tup [.str "ack", .int (pairF TL).1, .ref by_])) t3 (.tup [.int me, .int o, .int (-1), .ref t2])) (.ref t3) (ansD me hs o) := by
        unfold ansD
        rw [eH]
        exact Rp.made nt3 (.cons (.int _) (.cons (.int _) (.cons (.int _) (.cons r2 .nil))))
      have s67 := st2.trans st3
      generalize upd (upd H6 t2 (.tup [.str "ack", .int (pairF TL).1, .ref by_])) t3 (.tup [.int me, .int o, .int (-1), .ref t2]) = H7 at *
      have han7 := s67 _ _ han6
      refine ⟨an, as_, _, rfl, rfl, han7, Cm.smallL (by omega), ?_⟩
      have tk7 : TK K H7 (upd H7 an (.lst (as_ ++ [.ref t3]))) := TK.upd (by rw [han7]; exact True.intro)
      refine ⟨_, _, _, ss ++ [.ref t], as_ ++ [.ref t3], rfl, fun c u hc => ?_, ?_, ?_, rps_keep ((TK.same s67).trans tk7) rs6, upd_same, ?_⟩
      · rw [upd_ne (ne_of_none hc fan)]
        exact s67 _ _ (hS6 _ _ hc)
      · rw [upd_ne nla]
        exact s67 _ _ hnl6
      · rw [upd_ne nsa]
        exact s67 _ _ hsn6
      · rw [List.take_succ, ho, List.map_append]
        exact (rps_keep ((TK.same s67).trans tk7) ra6).app (.cons (rp_keep tk7 r3) .nil)
    · subst e
      rw [len_map, List.take_length] at rs ra
      -- numbers
      obtain ⟨⟨us, hbx, rbx⟩, hfd, _, _⟩ := R.same sH
      have lns : ns.length < 64 := by have := B.n; omega
      have ekn : (NumsV ns).map (·.1) = (ns.map (·.1)).map Sum.inl := by
        unfold NumsV
        rw [List.map_map, List.map_map]
        rfl
      refine ⟨_, rfl, fd, _, ns.map (·.1), rfl, .inl hfd, ekn, by rw [List.length_map]; exact lns, fun ys n2 pm pw nn2 => ?_⟩
      obtain rfl := srtI_eq pm pw
      have s4 := Cm.same_new (o := .lst ((srtI (ns.map (·.1))).map V.int)) nn2
      have hn2 : (upd Hi n2 (.lst ((srtI (ns.map (·.1))).map V.int))) n2 = some (.lst ((srtI (ns.map (·.1))).map V.int)) := upd_same
      have hmN : ∀ o ∈ srtI (ns.map (·.1)), o ∈ ns.map (·.1) := fun o ho => srtI_mem.mp ho
      have hNl : (srtI (ns.map (·.1))).length < 64 := by rw [List.length_mergeSort, List.length_map]; exact lns
      have hpk := srt_pairs_keys B.k
      generalize upd Hi n2 (.lst ((srtI (ns.map (·.1))).map V.int)) = H8 at *
      generalize srtI (ns.map (·.1)) = N at *
      have hfd8 := s4 _ _ hfd
      refine ⟨n2, rfl, ⟨_, SqL.of hn2⟩, fun DN nDN => ?_⟩
      refine lc_list (K := K) (a := n2) (xs := N.map V.int) (fun i Hj => Same H8 Hj ∧ ∃ acc, Hj DN = some (.lst acc) ∧ Rps K Hj acc ((N.take i).map fun o => ItemN.pairD (o, getN ns o)) ∧ acc.length = i) ⟨Cm.same_new nDN, [], upd_same, .nil, rfl⟩ (fun i Hj _ b => SqL.of (b.1 _ _ hn2)) (fun i y Hj hy b => ?_) fun H9 b => ?_
      · obtain ⟨sJ, acc, hD, rD, lD⟩ := b
        refine ⟨rfl, ?_⟩
        rw [List.getElem?_map] at hy
        obtain ⟨o, ho, rfl⟩ := Option.map_eq_some_iff.mp hy
        have hil := (List.getElem?_eq_some_iff.mp ho).1
        obtain ⟨v, hv⟩ := lkA_key (hs := ns) (hmN o (List.mem_of_getElem? ho))
        have gv : getN ns o = v := by unfold getN; rw [hv]; rfl
        refine ⟨_, rfl, _, rfl, _, rfl, fd, _, rfl, .inl ⟨NumsV ns, Sum.inl o, .inl (sJ _ _ hfd8), rfl, by rw [numsV_get, hv]; rfl⟩, Cm.small (by show 2 ≤ 100000; decide), fun t nt => ?_⟩
        have st := Cm.same_new (o := .tup [.int o, .int v]) nt
        have hD4 := st _ _ hD
        refine ⟨acc, hD4, Cm.smallL (by omega), Cm.same_mut (sJ.trans st) nDN, acc ++ [.ref t], upd_same, ?_, by rw [List.length_append, lD]; rfl⟩
        have tk : TK K (upd Hj t (.tup [.int o, .int v])) (upd (upd Hj t (.tup [.int o, .int v])) DN (.lst (acc ++ [.ref t]))) := TK.upd (by rw [hD4]; exact True.intro)
        rw [List.take_succ, ho, List.map_append]
        refine (rps_keep ((TK.same st).trans tk) rD).app (.cons ?_ .nil)
        show Rp K _ _ (ItemN.pairD (o, getN ns o))
        rw [gv]
        exact rp_keep tk (Rp.made nt (.cons (.int _) (.cons (.int _) .nil)))
      · obtain ⟨sJ, acc, hD, rD, lD⟩ := b
        rw [len_map, List.take_length, ← hpk] at rD
        refine ⟨DN, acc, rfl, .inl ⟨SqL.of hD, fun nt nnt => ?_⟩⟩
        have s5 := Cm.same_new (o := .tup acc) nnt
        have rN : Rp K (upd H9 nt (.tup acc)) (.ref nt) (.tuple (SortN.srt (ns.map ItemN.pairD))) := Rp.made nnt rD
        have s45 := (s4.trans sJ).trans s5
        have sX := sH.trans s45
        have hsnX := s45 _ _ hsni
        have hanX := s45 _ _ hani
        have rsX := rs.keep (Same.tups s45)
        have raX := ra.keep (Same.tups s45)
        generalize upd H9 nt (.tup acc) = HX at *
        clear hD rD lD sJ hfd8 hn2 nDN nn2 pm pw s45 s4 s5 hbx rbx hfd hnli hsni hani rs ra
        simp only [gName, List.set_cons_succ, List.set_cons_zero]
        -- the big test
        obtain ⟨⟨ls, GX, rlX⟩, _⟩ := D.same sX
        obtain ⟨⟨dxX, hoX⟩, _⟩ := id GX
        refine ⟨_, rfl, p, dxX, _, rfl, hoX, fp_no (by decide +kernel), p, ol, nd, hd, me, ls, ns, hs, rfl, GX, fun r1 nr1 => ?_⟩
        have e1 := Cm.same_new (o := .tup ls) nr1
        have ro : Rp K (upd HX r1 (.tup ls)) (.ref r1) (.tuple (lets.map (letD me))) := Rp.made nr1 rlX
        generalize upd HX r1 (.tup ls) = HA at *
        have sA := sX.trans e1
        obtain ⟨⟨ub, hbA, rbA⟩, _, _, _⟩ := R.same sA
        refine ⟨_, rfl, bx, ub, rfl, .inl ⟨SqL.of hbA, fun r2 nr2 => ?_⟩⟩
        have e2 := Cm.same_new (o := .tup ub) nr2
        have rb2 : Rp K (upd HA r2 (.tup ub)) (.ref r2) (.tuple (lets.map (letD me))) := Rp.made nr2 rbA
        generalize upd HA r2 (.tup ub) = HB at *
        have shO : SeqAt.shaped (.tuple (lets.map (letD me))) = true := by
          have a1 : PyData.canLayAll0 (lets.map (letD me)) = true := layAll_of fun d hd => by
            obtain ⟨x, hx, rfl⟩ := List.mem_map.mp hd
            simp [PyData.canLay0, PyData.canLayAll0, (B.w x hx).1]
          have a2 : PyData.depthAll (lets.map (letD me)) ≤ 11 := depthAll_of fun d hd => by
            obtain ⟨x, hx, rfl⟩ := List.mem_map.mp hd
            have := (B.w x hx).2
            simp only [PyData.depth, PyData.depthAll]
            omega
          refine Nst.shaped_of (by simp only [PyData.canLay0, a1]) ?_
          simp only [PyData.depth]
          omega
        refine ⟨_, _, (ro.keep (Same.tups e2)).dp, rb2.dp, shO, shO, _, rfl, Cm.itBn (fun e => absurd (Nst.eqv_self shO) (by rw [e]; decide)) fun _ => ?_⟩
        -- answers
        have sB := sA.trans e2
        obtain ⟨⟨lsB, GB, _⟩, _⟩ := D.same sB
        obtain ⟨⟨dxB, hoB⟩, _⟩ := id GB
        refine ⟨_, rfl, p, dxB, _, rfl, hoB, fp_no (by decide +kernel), p, ol, nd, hd, me, lsB, ns, hs, rfl, GB, lhs, fun HC v3 e3 rc => ?_⟩
        have eX := (e1.trans e2).trans e3
        refine ⟨_, rfl, an, as_, rfl, .inl ⟨SqL.of (eX _ _ hanX), fun r4 nr4 => ?_⟩⟩
        have e4 := Cm.same_new (o := .tup as_) nr4
        have ra4 : Rp K (upd HC r4 (.tup as_)) (.ref r4) (.tuple (L.map (ansD me hs))) := Rp.made nr4 (raX.keep (Same.tups eX))
        generalize upd HC r4 (.tup as_) = HD at *
        have shA := ans_shaped (me := me) (hs := hs) (L := L)
        rw [hLe] at rc
        refine ⟨_, _, (rc.keep (Same.tups e4)).dp, ra4.dp, shA, shA, _, rfl, Cm.itBn (fun e => absurd (Nst.eqv_self shA) (by rw [e]; decide)) fun _ => ?_⟩
        -- image
        have sD := (sB.trans e3).trans e4
        obtain ⟨⟨lsD, GD, rlD⟩, _⟩ := D.same sD
        obtain ⟨⟨dxD, hoD⟩, _⟩ := id GD
        refine ⟨_, rfl, p, dxD, _, rfl, hoD, fp_no (by decide +kernel), p, ol, nd, hd, me, lsD, ns, hs, lets, rfl, GD, rlD, lhs, fun HE v5 e5 re => ?_⟩
        have sE := sD.trans e5
        obtain ⟨⟨ubE, hbE, rbE⟩, _, _, _⟩ := R.same sE
        refine ⟨_, rfl, bx, ubE, rfl, .inl ⟨SqL.of hbE, fun r6 nr6 => ?_⟩⟩
        have e6 := Cm.same_new (o := .tup ubE) nr6
        have rb6 : Rp K (upd HE r6 (.tup ubE)) (.ref r6) (.tuple (lets.map (letD me))) := Rp.made nr6 rbE
        generalize upd HE r6 (.tup ubE) = HF at *
        have eF := ((eX.trans e4).trans e5).trans e6
        refine ⟨_, rfl, _, rfl, sn, ss, rfl, .inl ⟨SqL.of (eF _ _ hsnX), fun r7 nr7 => ⟨Cm.small (by show 3 ≤ 100000; decide), fun r8 nr8 => ?_⟩⟩⟩
        have e7 := Cm.same_new (o := .tup ss) nr7
        have e8 := Cm.same_new (o := .tup [.ref r6, .ref nt, .ref r7]) nr8
        have rs7 : Rp K (upd HF r7 (.tup ss)) (.ref r7) (.tuple (L.map (rowH hs))) := Rp.made nr7 (rsX.keep (Same.tups eF))
        have rimg : Rp K (upd (upd HF r7 (.tup ss)) r8 (.tup [.ref r6, .ref nt, .ref r7])) (.ref r8) (imgP me lets ns hs) := by
          unfold imgP
          rw [hLe]
          exact Rp.made nr8 (.cons (rb6.keep (Same.tups e7)) (.cons (rN.keep (Same.tups (eF.trans e7))) (.cons rs7 .nil)))
        have e78 := e7.trans e8
        generalize upd (upd HF r7 (.tup ss)) r8 (.tup [.ref r6, .ref nt, .ref r7]) = HG at *
        have shI := imgP_shaped (me := me) (ns := ns) (hs := hs) B.w
        refine ⟨_, _, (re.keep (Same.tups (e6.trans e78))).dp, rimg.dp, shI, shI, _, rfl, Cm.itBn (fun e => absurd (Nst.eqv_self shI) (by rw [e]; decide)) fun _ => ?_⟩
        have sG := (sE.trans e6).trans e78
        clear re rimg rb6 rs7 ra4 rc rb2 ro rN rsX raX
        -- for other in range(4)
        refine ⟨4, rfl, by decide, by decide, for_range (n := 4) (fun k σ Hk => Same H Hk ∧ ∃ y7 y11 y12 : Option V, σ = [some (.ref p), some (.int me), some (.ref bx), some (.ref fd), some (.ref td), some (.ref sn), some (.ref an), y7, x8, x9, some (.ref nt), y11, y12])
          ⟨sG, _, _, _, rfl⟩ (fun k σ Hk hk ⟨sK, y7, y11, y12, e⟩ => ?_) fun σ Hk ⟨sK, y7, y11, y12, e⟩ => ?_⟩
        · subst e
          generalize ho : (0 + (k : Int)) = o
          obtain ⟨⟨lsk, Gk, _⟩, _⟩ := D.same sK
          obtain ⟨⟨dxk, hok⟩, _⟩ := id Gk
          obtain ⟨_, hfk, _, _⟩ := R.same sK
          refine ⟨_, rfl, p, dxk, _, rfl, hok, fp_no (by decide +kernel), _, rfl, p, ol, nd, hd, me, lsk, ns, hs, o, rfl, Gk, ?_⟩
          refine ⟨_, rfl, fd, rfl, .inl ⟨_, .inl hfk⟩, _, rfl, _, .inl ⟨_, Sum.inl o, .inl hfk, rfl, rfl⟩, ?_⟩
          have ev : (valV (NumsV ns) (Sum.inl o)).getD (V.int 0) = .int (getN ns o) := by
            rw [numsV_get]
            unfold getN
            cases lkA ns o <;> rfl
          generalize (valV (NumsV ns) (Sum.inl o)).getD (V.int 0) = v0 at ev ⊢
          subst ev
          refine ⟨rfl, _, rfl, Cm.itNI (fun e => absurd rfl e) fun _ => ?_⟩
          -- taken
          refine ⟨_, rfl, p, dxk, _, rfl, hok, fp_no (by decide +kernel), _, rfl, p, ol, nd, hd, me, lsk, ns, hs, o, rfl, Gk, fun HL vl sl hvl => ?_⟩
          have skl := sK.trans sl
          obtain ⟨_, _, ⟨kvl, htl, htkl⟩, _⟩ := R.same skl
          refine ⟨_, rfl, td, rfl, .inl ⟨_, .inl htl⟩, _, rfl, Nat.zero_le _, fun t0 u0 => ⟨_, .inl ⟨_, Sum.inl o, .inl (Cm.same_new u0 _ _ htl), rfl, rfl⟩, ?_⟩⟩
          have s0 := Cm.same_new (o := .lst []) u0
          obtain ⟨lt, elt, hlt⟩ := tak_get (H := upd HL t0 (.lst [])) (htkl.mono fun l us n hl => ⟨n, s0 _ _ hl⟩) o (t0 := t0) upd_same
          have lgT : (getT ts o).length ≤ 60 := by
            unfold getT
            cases z : lkA ts o with
            | none => exact Nat.zero_le _
            | some u => exact lts _ (lkA_mem z)
          refine ⟨lt, getT ts o, by rw [elt]; rfl, hlt, by omega, fun HM vm sm hvm => ?_⟩
          have shp := pair_shaped (pairF (getT ts o))
          rw [(relT_get rel o).1] at hvl
          refine ⟨_, _, ((pair_rp hvl).keep (Same.tups (s0.trans sm))).dp, (pair_rp hvm).dp, shp, shp, _, rfl, Cm.itBn (fun e => absurd (Nst.eqv_self shp) (by rw [e]; decide)) fun _ => ?_⟩
          have sM := (skl.trans s0).trans sm
          clear hvl hvm htl htkl elt hlt
          -- for number in range(11)
          refine ⟨11, rfl, by decide, by decide, for_range (n := 11) (fun j σ Hn => Same H Hn ∧ ∃ z11 z12 : Option V, σ = [some (.ref p), some (.int me), some (.ref bx), some (.ref fd), some (.ref td), some (.ref sn), some (.ref an), some (.int o), x8, x9, some (.ref nt), z11, z12])
            ⟨sM, _, _, rfl⟩ (fun j σ Hn hj ⟨sN, z11, z12, e⟩ => ?_) fun σ Hn ⟨sN, z11, z12, e⟩ => ?_⟩
          · subst e
            generalize (0 + (j : Int)) = n
            obtain ⟨⟨lsn, Gn, _⟩, _⟩ := D.same sN
            obtain ⟨⟨dxn, hon⟩, _⟩ := id Gn
            refine ⟨_, rfl, p, dxn, _, rfl, hon, fp_no (by decide +kernel), _, rfl, _, rfl, p, ol, nd, hd, me, lsn, ns, hs, o, n, rfl, Gn, fun HO so => ?_⟩
            rw [(relT_get rel o).1, pairF_tells (relT_get rel o).2.2]
            simp only [gName, List.set_cons_succ, List.set_cons_zero]
            refine ⟨_, rfl, _, _, _, _, true, rfl, .ty "bool", .base (.bl _), kit_ty (by decide +kernel), _, rfl, Cm.itBn (fun z => nomatch z) fun _ => ?_⟩
            have sNo := sN.trans so
            obtain ⟨_, _, ⟨kvo, hto, htko⟩, _⟩ := R.same sNo
            refine ⟨_, rfl, _, rfl, _, rfl, td, rfl, .inl ⟨_, .inl hto⟩, _, rfl, Nat.zero_le _, fun t1 u1 => ⟨_, .inl ⟨_, Sum.inl o, .inl (Cm.same_new u1 _ _ hto), rfl, rfl⟩, ?_⟩⟩
            have s1' := Cm.same_new (o := .lst []) u1
            obtain ⟨lt1, elt1, hlt1⟩ := tak_get (H := upd HO t1 (.lst [])) (htko.mono fun l us n hl => ⟨n, s1' _ _ hl⟩) o (t0 := t1) upd_same
            generalize (valV kvo (Sum.inl o)).getD (V.ref t1) = w1 at elt1 ⊢
            subst elt1
            refine in_lst (.inl (SqL.of hlt1)) ?_
            refine ⟨rfl, _, rfl, ?_⟩
            rw [Cm.deq_bl, decide_eq_true rfl]
            exact ⟨sNo.trans s1', _, _, rfl⟩
          · subst e
            exact ⟨sN, _, _, _, rfl⟩
        · subst e
          exact q _ sK
/-! ### between two deeds -/
theorem ne_ld {H : Hp} {c d : Addr} {us : List V} {x : List (Key × V)} (h1 : H c = some (.lst us)) (h2 : H d = some (.dK x)) : c ≠ d := fun z => by
  rw [z, h2] at h1
  cases h1
theorem PD.upd {H : Hp} {p ol nd hd c : Addr} {u : HO} {me : Int} {lets : Lets} {ns : Nums} {hs : Heard} (D : PD K H p ol nd hd me lets ns hs) (m : Mut (H c)) (n : p ≠ c ∧ ol ≠ c ∧ nd ≠ c ∧ hd ≠ c) : PD K (L2.upd H c u) p ol nd hd me lets ns hs := by
  obtain ⟨⟨ls, ⟨⟨dx, h1⟩, h2, h3, kvs, h4, h5⟩, r⟩, e⟩ := D
  have tk : TK K H (L2.upd H c u) := TK.upd m
  exact ⟨⟨ls, ⟨⟨dx, by rw [upd_ne n.1]; exact h1⟩, by rw [upd_ne n.2.1]; exact h2, by rw [upd_ne n.2.2.1]; exact h3, kvs, by rw [upd_ne n.2.2.2]; exact h4, h5.keep tk⟩, rps_keep tk r⟩, e⟩
theorem PD.dicts {H : Hp} {p ol nd hd : Addr} {me : Int} {lets : Lets} {ns : Nums} {hs : Heard} (D : PD K H p ol nd hd me lets ns hs) : (∃ x, H nd = some (.dK x)) ∧ (∃ x, H hd = some (.dK x)) ∧ ∃ us, H ol = some (.lst us) := by
  obtain ⟨⟨ls, ⟨⟨dx, h1⟩, h2, h3, kvs, h4, h5⟩, r⟩, e⟩ := D
  exact ⟨⟨_, h3⟩, ⟨_, h4⟩, ⟨_, h2⟩⟩
theorem PD.nins {H : Hp} {p ol nd hd c : Addr} {me : Int} {lets : Lets} {ns : Nums} {hs : Heard} (D : PD K H p ol nd hd me lets ns hs) (h : (∃ us, H c = some (.lst us)) ∨ ∃ x, H c = some (.dK x)) : c ≠ p := fun z => by
  obtain ⟨⟨ls, ⟨⟨dx, h1⟩, _⟩, r⟩, e⟩ := D
  rw [z, h1] at h
  rcases h with ⟨_, h⟩ | ⟨_, h⟩ <;> cases h
theorem Rec.move {H H' : Hp} {bx fd td : Addr} {me : Int} {av av' : List Addr} {lets : Lets} {ns : Nums} {hs : Heard} {ts : Taks} (R : Rec K H bx fd td me av lets ns hs ts) (tk : TK K H H') (e1 : ∀ us, H bx = some (.lst us) → H' bx = some (.lst us)) (e2 : ∀ x, H fd = some (.dK x) → H' fd = some (.dK x))
    (e3 : ∀ x, H td = some (.dK x) → H' td = some (.dK x)) (e4 : ∀ l us, l ∉ av → H l = some (.lst us) → l ∉ av' ∧ H' l = some (.lst us)) : Rec K H' bx fd td me av' lets ns hs ts := by
  obtain ⟨⟨us, h1, h2⟩, h3, ⟨kvs, h4, h5⟩, h6⟩ := R
  exact ⟨⟨us, e1 _ h1, rps_keep tk h2⟩, e2 _ h3, ⟨kvs, e3 _ h4, h5.mono e4⟩, h6⟩
structure W40 (K : PySem.W.Frag) (H : Hp) (p ol nd hd bx fd td pn : Addr) (me : Int) (lets : Lets) (ns : Nums) (hs : Heard) (ts : Taks) (nums : List Int) (i : Nat) : Prop where
  D : PD K H p ol nd hd me lets ns hs
  B : PB i lets ns hs
  R : Rec K H bx fd td me [ol, bx] lets ns hs ts
  L : ∀ x ∈ ts, x.2.length ≤ i
  hp : H pn = some (.lst (nums.map V.int))
  n1 : pn ≠ ol ∧ pn ≠ bx ∧ ol ≠ bx
  n2 : fd ≠ nd ∧ fd ≠ hd ∧ td ≠ nd ∧ td ≠ hd ∧ fd ≠ td
  z : ∀ x ∈ lets, 0 ≤ x.2.1
  m : getN ns me = 0 ∧ getT ts me = []
  g : ∀ o, 0 ≤ getN ns o
theorem W40.same {H H' : Hp} {p ol nd hd bx fd td pn : Addr} {me : Int} {lets : Lets} {ns : Nums} {hs : Heard} {ts : Taks} {nums : List Int} {i : Nat} (s : Same H H') (W : W40 K H p ol nd hd bx fd td pn me lets ns hs ts nums i) : W40 K H' p ol nd hd bx fd td pn me lets ns hs ts nums i :=
  ⟨W.D.same s, W.B, W.R.same s, W.L, s _ _ W.hp, W.n1, W.n2, W.z, W.m, W.g⟩
theorem W40.mono {H : Hp} {p ol nd hd bx fd td pn : Addr} {me : Int} {lets : Lets} {ns : Nums} {hs : Heard} {ts : Taks} {nums : List Int} {i j : Nat} (h : i ≤ j) (W : W40 K H p ol nd hd bx fd td pn me lets ns hs ts nums i) : W40 K H p ol nd hd bx fd td pn me lets ns hs ts nums j :=
  ⟨W.D, W.B.mono h, W.R, fun x hx => Nat.le_trans (W.L x hx) h, W.hp, W.n1, W.n2, W.z, W.m, W.g⟩
theorem getT_put (ts : Taks) (o k : Int) (L : List Int) : getT (puA ts o L) k = if o = k then L else getT ts k := by
  unfold getT
  rw [lkA_puA]
  split <;> rfl
def spLaw (K : PySem.W.Frag) : Sp := fun vs H Q _ => ∃ (a : Addr) (ns : List Int), vs = [.ref a] ∧ SqL K H a (ns.map V.int) ∧ ns.length ≤ 63 ∧ ∀ H', Q (.bl true) H'
theorem ok_law (T : Txt K mg w a) : FnOk P w K mg base CX0 6 (He.ga K "law") a.d_law ["script"] (spLaw K) := by
  have gg := ok_Post_give (P := P) (w := w) (base := base) T
  have gt := ok_Post_take (P := P) (w := w) (base := base) T
  refine T.F_law.ok sc_law (fun vs H Q E h => ?_) (fun cdv A outer s H vs Q E hr h => ?_)
  · obtain ⟨l, ns, rfl, _⟩ := h
    rfl
  · obtain ⟨l, sc, rfl, hl, hsc, q⟩ := h
    refine ⟨_, PSs.nox (pss_cons (ps_set (i := 1) sc_law.nd rfl (Or.inl rfl) (pe_call (ok_lw_numbers T) (hr.mono (by omega)) (by rfl) T.g_lw_numbers T.F_lw_numbers.kp T.b_lw_numbers .nil pass0 (pa_cons (pv 0) (pa_cons pe_int pa_nil))))
      (pss_cons (ps_set (i := 2) sc_law.nd rfl (Or.inl rfl) (pe_op op_mod (pe_ix ix_list (pv 1) pe_int (fun _ _ => rfl)) pe_int))
      (pss_cons (ps_set (i := 3) sc_law.nd rfl (Or.inl rfl) (pe_make T.k_Post (ok_Post_init T) (hr.mono (by omega)) (by rfl) T.g_Post T.b_Post_init .nil pass0 (pa_cons (pv 2) pa_nil)))
      (pss_cons (ps_set (i := 4) sc_law.nd rfl (Or.inl rfl) (pe_lst pa_nil))
      (pss_cons (ps_set (i := 5) sc_law.nd rfl (Or.inl rfl) pe_dnewK)
      (pss_cons (ps_set (i := 6) sc_law.nd rfl (Or.inl rfl) pe_dnewK)
      (pss_cons (ps_for PassesOwn.never rfl (pi_range1 (by rfl) T.g_range (pa_cons (pe_op op_mod (pe_ix ix_list (pv 1) pe_int (fun _ _ => rfl)) pe_int) pa_nil)) (pg_name (i := 7) sc_law.nd rfl (Or.inl rfl))
      (pss_cons (ps_set (i := 8) sc_law.nd rfl (Or.inl rfl) (pe_ix ix_list (pv 1) (pe_callTy call_int1 (by rfl) T.g_int boot_int (pa_cons (pe_op op_add pe_int (pe_op op_mul pe_int (pv 7))) pa_nil)) (fun _ _ => rfl)))
      (pss_cons (ps_set (i := 9) sc_law.nd rfl (Or.inr rfl) (pe_op op_mod (pe_callTy call_int1 (by rfl) T.g_int boot_int (pa_cons (pe_op op_add (pe_op op_add (pv 2) pe_int) (pe_op op_mod (pv 8) pe_int)) pa_nil)) pe_int))
      (pss_cons (ps_set (i := 10) sc_law.nd rfl (Or.inl rfl) (pe_op op_mod (pe_op op_fdiv (pv 8) pe_int) pe_int))
      (pss_cons (ps_set (i := 11) sc_law.nd rfl (Or.inr rfl) (pe_ix ix_list (pv 1) (pe_callTy call_int1 (by rfl) T.g_int boot_int (pa_cons (pe_op op_add pe_int (pe_op op_mul pe_int (pv 7))) pa_nil)) (fun _ _ => rfl)))
      (C8.pss_cut (ps_if (pt_cmpR op_lt (pv 10) pe_int (nomark _)) (pss_cons (ps_set (i := 12) sc_law.nd rfl (Or.inl rfl) (pe_meth (pv 3) T.c_Post T.m_Post_give gg (hr.mono (by omega)) T.b_Post_give .nil MethT.passF (pa_cons (pv 9) (pa_cons (pe_tup (pa_cons pe_str (pa_cons (pv 7) (pa_cons (pe_tup pa_nil) pa_nil)))) pa_nil))))
      (pss_cons (ps_if (PW.pt (pw_or (pt_val (pe_callB call_isi (by rfl) T.g_isinstance boot_isinstance (pa_cons (pv 12) (pa_cons (pe_bltn (v := .ty "bool") (by rfl) T.g_bool boot_bool rfl) pa_nil)))) (pw_or1 (pt_cmpR op_ne (pv 12) (pe_dget2 (hu_of hr) (pv 5) (pv 9) pe_int ⟨rfl, rfl, rfl, rfl⟩) (nomark _))))) (pss_one (ps_ret pe_bl)) pss_nil)
      (pss_cons (ps_expr (pe_bm PySem.F.plainAttrs_list PySem.F.slot_list_append PySem.F.type_list_append mt_append (pv 4) (pa_cons (pe_tup (pa_cons (pv 2) (pa_cons (pv 9) (pa_cons (pv 12) (pa_cons (pe_tup (pa_cons pe_str (pa_cons (pv 7) (pa_cons (pe_tup pa_nil) pa_nil)))) pa_nil))))) pa_nil)))
      (pss_one (ps_dput (hu_of hr) (pv 5) (pv 9) (pe_op op_add (pv 12) pe_int) rfl))))) (pss_one (ps_if (pt_cmpR op_lt (pv 10) pe_int (nomark _)) (pss_cons (ps_set (i := 12) sc_law.nd rfl (Or.inl rfl) (pe_meth (pv 3) T.c_Post T.m_Post_take gt (hr.mono (by omega)) T.b_Post_take .nil MethT.passF (pa_cons (pe_tup (pa_cons (pv 9) (pa_cons (pv 2) (pa_cons (pe_op op_mod (pv 11) pe_int) (pa_cons (pe_tup (pa_cons pe_str (pa_cons (pv 11) (pa_cons (pe_tup pa_nil) pa_nil)))) pa_nil))))) pa_nil)))
      (pss_cons (ps_if (PW.pt (pw_or (pt_not (pt_val (pe_callB call_isi (by rfl) T.g_isinstance boot_isinstance (pa_cons (pv 12) (pa_cons (pe_bltn (v := .ty "bool") (by rfl) T.g_bool boot_bool rfl) pa_nil))))) (pw_or1 (pt_cmpR op_eq (pv 12) (pe_cmpR op_in_seq (pe_op op_mod (pv 11) pe_int) (pe_dget2 (hu_of hr) (pv 6) (pv 9) (pe_lst pa_nil) ⟨rfl, rfl, rfl, rfl⟩) (by rfl)) (nomark _))))) (pss_one (ps_ret pe_bl)) pss_nil)
      (pss_one (ps_if (pt_truth (pv 12) (by intro _; rfl)) (pss_one (ps_dput (hu_of hr) (pv 6) (pv 9) (pe_op op_cat (pe_dget2 (hu_of hr) (pv 6) (pv 9) (pe_lst pa_nil) ⟨rfl, rfl, rfl, rfl⟩) (pe_lst (pa_cons (pe_op op_mod (pv 11) pe_int) pa_nil))) rfl)) pss_nil)))) (pss_cons (ps_set (i := 13) sc_law.nd rfl (Or.inr rfl) (pe_op op_mod (pv 11) pe_int))
      (pss_cons (ps_set (i := 14) sc_law.nd rfl (Or.inr rfl) (pe_callTy call_tuple_of (by rfl) T.g_tuple boot_tuple (pa_cons (pe_lc (own := [("one", 16)]) (g := gName 16)   (by rfl) sc_law.nd (pi_range2 (by rfl) T.g_range (pa_cons (pe_op op_add (pv 13) pe_int) (pa_cons pe_int pa_nil))) (blkOk_by (own := [("one", 16)]) (N := N_law) (sc := defScope s_law) (by decide +kernel)) (fun _ _ _ _ _ => pg_name (i := 16) sc_law.nd rfl (Or.inl rfl)) (fun _ _ _ _ _ => pts_one (pt_cmpR op_eq (pe_op op_mod (pe_op op_fdiv (pe_op op_fdiv (pv 11) pe_int) (pe_op op_add (pv 16) pe_int)) pe_int) pe_int (nomark _))) (fun _ _ _ _ _ => (pv 16))) pa_nil)))
      (pss_cons (ps_if (pt_cmpR op_notBl (pe_meth (pv 3) T.c_Post T.m_Post_take gt (hr.mono (by omega)) T.b_Post_take .nil MethT.passF (pa_cons (pe_tup (pa_cons (pv 9) (pa_cons (pv 2) (pa_cons (pe_un un_neg pe_int) (pa_cons (pe_tup (pa_cons pe_str (pa_cons (pv 13) (pa_cons (pv 14) pa_nil)))) pa_nil))))) pa_nil)) pe_bl (nomark _)) (pss_one (ps_ret pe_bl)) pss_nil)
      (pss_one (ps_setLc (i := 4) (own := [("letter", 15)]) (g := gName 15)   (by rfl) sc_law.nd rfl rfl (sw_true rfl rfl rfl (by decide +kernel)) (pi_list (pv 4)) (blkOk_by (own := [("letter", 15)]) (N := N_law) (sc := defScope s_law) (by decide +kernel)) (fun _ _ _ _ _ => pg_name (i := 15) sc_law.nd rfl (Or.inl rfl)) (fun _ _ _ _ _ => pts_one (PW.pt (pw_or (pt_cmpR op_ne (pe_ix (r := rIxT K) ix_tup (pv 15) pe_int (fun _ _ => rfl)) (pv 9) (nomark _)) (pw_or1 (pt_not (pt_val (pe_call (ok_lw_told_by T) (hr.mono (by omega)) (by rfl) T.g_lw_told_by T.F_lw_told_by.kp T.b_lw_told_by .nil pass0 (pa_cons (pv 13) (pa_cons (pv 14) (pa_cons (pe_ix (r := rIxT K) ix_tup (pv 15) pe_int (fun _ _ => rfl)) pa_nil)))))))))) (fun _ _ _ _ _ => (pv 15))))))))))
      (pss_one (ps_if (pt_not (pt_val (pe_call (ok_lw_fits T) (hr.mono (by omega)) (by rfl) T.g_lw_fits T.F_lw_fits.kp T.b_lw_fits .nil pass0 (pa_cons (pv 3) (pa_cons (pv 2) (pa_cons (pv 4) (pa_cons (pv 5) (pa_cons (pv 6) pa_nil)))))))) (pss_one (ps_ret pe_bl)) pss_nil))))))))
      (pss_one (ps_ret (pe_and (pe_cmpR op_eq (pe_meth (pv 3) T.c_Post T.m_Post_next_number (ok_Post_next_number T) (hr.mono (by omega)) T.b_Post_next_number .nil pass0 (pa_cons (pv 2) pa_nil)) pe_int (nomark _)) (pe_one (pe_cmpR (op_eqD hr.units) (pe_meth (pv 3) T.c_Post T.m_Post_taken (ok_Post_taken T) (hr.mono (by omega)) T.b_Post_taken .nil pass0 (pa_cons (pv 2) pa_nil)) (pe_tup (pa_cons pe_int (pa_cons (pe_tup pa_nil) pa_nil))) (nomark _))))))))))))), ?_⟩
    rw [show L2.start N_law [.ref l] = [some (.ref l), none, none, none, none, none, none, none, none, none, none, none, none, none, none, none, none] from rfl]
    refine ⟨_, rfl, l, sc, 100, rfl, hl, hsc, by decide, fun H1 pn nums s1 np hp hlen hok => ?_⟩
    simp only [List.set_cons_succ, List.set_cons_zero]
    obtain ⟨n0, hn0, e0⟩ := Cm.at_int (ns := nums) (i := 0) (by omega) (by omega)
    obtain ⟨n1, hn1, e1⟩ := Cm.at_int (ns := nums) (i := 1) (by omega) (by omega)
    obtain ⟨g0, _⟩ := hok n0 hn0
    obtain ⟨g1, _⟩ := hok n1 hn1
    refine ⟨_, rfl, pn, _, _, _, rfl, rfl, SqL.of hp, e0, _, _, rfl, rfl, (by show (0 : Int) < 4; decide), ?_⟩
    have hme : 0 ≤ n0 % 4 ∧ n0 % 4 < 4 := by omega
    simp only [gName, List.set_cons_succ, List.set_cons_zero]
    generalize n0 % 4 = me at *
    obtain ⟨hme0, hme1⟩ := hme
    refine ⟨_, rfl, fun x dx nx ndx nex => ⟨x, dx, _, rfl, upd_same, fun ol nd hd H2 ho hn hh nnh G fr => ⟨rfl, ?_⟩⟩⟩
    have s2 : Same H1 H2 := fun b o hb => fr b o (by rw [upd_ne (ne_of_none hb nx), upd_ne (ne_of_none hb ndx)]; exact hb) (ne_of_none hb nx)
    have hp2 := s2 _ _ hp
    have npol : pn ≠ ol := by
      refine ne_of_none (o := .lst (nums.map V.int)) ?_ ho
      rw [upd_ne (ne_of_none hp nx), upd_ne (ne_of_none hp ndx)]
      exact hp
    have D2 : PD K H2 x ol nd hd me [] [] [] := ⟨⟨[], G, .nil⟩, nnh⟩
    clear fr ho hn hh nex ndx nx
    -- box, following, taken
    refine ⟨Nat.zero_le _, fun bx nbx fd nfd td ntd => ?_⟩
    have sb1 := Cm.same_new (o := .lst []) nbx
    have sb2 := Cm.same_new (o := .dK []) nfd
    have sb3 := Cm.same_new (o := .dK []) ntd
    have s23 := (sb1.trans sb2).trans sb3
    have hbx3 : (upd (upd (upd H2 bx (.lst [])) fd (.dK [])) td (.dK [])) bx = some (.lst []) := sb3 _ _ (sb2 _ _ upd_same)
    have hfd3 : (upd (upd (upd H2 bx (.lst [])) fd (.dK [])) td (.dK [])) fd = some (.dK (NumsV [])) := sb3 _ _ upd_same
    have htd3 : (upd (upd (upd H2 bx (.lst [])) fd (.dK [])) td (.dK [])) td = some (.dK []) := upd_same
    obtain ⟨⟨_, tnd⟩, ⟨_, thd⟩, ⟨_, tol⟩⟩ := D2.dicts
    have W0 : W40 K (upd (upd (upd H2 bx (.lst [])) fd (.dK [])) td (.dK [])) x ol nd hd bx fd td pn me [] [] [] [] nums 0 :=
      ⟨D2.same s23, ⟨Nat.le_refl _, Nat.le_refl _, Nat.le_refl _, (fun x hx => nomatch hx), List.nodup_nil, fun x hx => nomatch hx⟩, ⟨⟨[], hbx3, .nil⟩, hfd3, ⟨[], htd3, .nil⟩, .nil⟩, (fun x hx => nomatch hx), s23 _ _ hp2,
        ⟨npol, ne_of_none hp2 nbx, ne_of_none tol nbx⟩, ⟨(ne_of_none (sb1 _ _ tnd) nfd).symm, (ne_of_none (sb1 _ _ thd) nfd).symm, (ne_of_none ((sb1.trans sb2) _ _ tnd) ntd).symm, (ne_of_none ((sb1.trans sb2) _ _ thd) ntd).symm, ne_of_none upd_same ntd⟩, (fun x hx => nomatch hx), ⟨rfl, rfl⟩, fun _ => Int.le_refl _⟩
    have hp3 := s23 _ _ hp2
    generalize upd (upd (upd H2 bx (.lst [])) fd (.dK [])) td (.dK []) = H3 at *
    clear sb1 sb2 sb3 s23 hbx3 hfd3 htd3 tnd thd tol nbx nfd ntd s2
    simp only [gName, List.set_cons_succ, List.set_cons_zero]
    refine ⟨_, rfl, pn, _, _, _, rfl, rfl, SqL.of hp3, e1, _, _, rfl, rfl, (by show (0 : Int) < 31; decide), _, rfl, by omega, by omega, ?_⟩
    refine for_range (n := (n1 % 31).toNat) (fun i σ H4 => ∃ (ol' bx' : Addr) (lets : Lets) (ns : Nums) (hs : Heard) (ts : Taks) (x7 x8 x9 x10 x11 x12 x13 x14 : Option V), σ = [some (.ref l), some (.ref pn), some (.int me), some (.ref x), some (.ref bx'), some (.ref fd), some (.ref td), x7, x8, x9, x10, x11, x12, x13, x14, none, none] ∧ W40 K H4 x ol' nd hd bx' fd td pn me lets ns hs ts nums i)
      ⟨ol, bx, [], [], [], [], _, _, _, _, _, _, _, _, rfl, W0⟩ (fun i σ H4 hi ⟨ol', bx', lets, ns, hs, ts, x7, x8, x9, x10, x11, x12, x13, x14, e, W⟩ => ?_) fun σ H4 ⟨ol', bx', lets, ns, hs, ts, x7, x8, x9, x10, x11, x12, x13, x14, e, W⟩ => ?_
    · subst e
      have hp4 := W.hp
      obtain ⟨m0, hm0, em0⟩ := Cm.at_int (ns := nums) (i := 3 + 3 * (0 + (i : Int))) (by omega) (by omega)
      obtain ⟨m1, hm1, em1⟩ := Cm.at_int (ns := nums) (i := 4 + 3 * (0 + (i : Int))) (by omega) (by omega)
      obtain ⟨u0, _⟩ := hok m0 hm0
      obtain ⟨u1, _⟩ := hok m1 hm1
      refine ⟨_, rfl, _, rfl, _, _, rfl, rfl, .inl ⟨by decide, by decide⟩, _, _, rfl, rfl, .inl ⟨_, rfl, pn, _, _, _, rfl, rfl, SqL.of hp4, em0, ?_⟩⟩
      refine ⟨_, rfl, _, _, rfl, rfl, _, rfl, _, _, rfl, rfl, (by show (0 : Int) < 3; decide), _, _, rfl, rfl, .inl ⟨_, rfl, _, _, rfl, rfl, (by show (0 : Int) < 4; decide), ?_⟩⟩
      refine ⟨_, rfl, _, _, rfl, rfl, ⟨by decide, by decide⟩, _, _, rfl, rfl, (by show (0 : Int) < 5; decide), ?_⟩
      refine ⟨_, rfl, _, rfl, _, _, rfl, rfl, .inl ⟨by decide, by decide⟩, _, _, rfl, rfl, .inl ⟨_, rfl, pn, _, _, _, rfl, rfl, SqL.of hp4, em1, ?_⟩⟩
      simp only [gName, List.set_cons_succ, List.set_cons_zero]
      have ho : ∃ o, (me + 1 + m0 % 3) % 4 = o ∧ 0 ≤ o ∧ o ≠ me := ⟨_, rfl, by omega, by omega⟩
      obtain ⟨o, ho, ho0, hom⟩ := ho
      rw [ho]
      have hin : (i : Int) < 31 := by omega
      refine ⟨fun σ' H' => ∃ (ol2 bx2 : Addr) (lets2 : Lets) (ns2 : Nums) (hs2 : Heard) (ts2 : Taks) (y12 y13 y14 : Option V), σ' = [some (.ref l), some (.ref pn), some (.int me), some (.ref x), some (.ref bx2), some (.ref fd), some (.ref td), some (.int (0 + (i : Int))), some (.int m0), some (.int o), some (.int (m0 / 3 % 5)), some (.int m1), y12, y13, y14, none, none] ∧ W40 K H' x ol2 nd hd bx2 fd td pn me lets2 ns2 hs2 ts2 nums (i + 1), ?_, fun σ' H' ⟨ol2, bx2, lets2, ns2, hs2, ts2, y12, y13, y14, e, W2⟩ => ?_⟩
      · obtain ⟨⟨ls, G, rl⟩, nnh⟩ := id W.D
        have ll : ls.length = lets.length := by rw [rl.len, List.length_map]
        obtain ⟨⟨dxp, hop⟩, _⟩ := id G
        have bl := W.B.l
        have bn := W.B.n
        have bh := W.B.h
        have bb := W.B.b
        refine ⟨_, rfl, _, _, rfl, rfl, _, rfl, Cm.itD (fun _ => ?_) fun _ => ?_⟩
        · -- give
          refine ⟨_, rfl, x, dxp, _, rfl, hop, fp_no (by decide +kernel), _, rfl, _, rfl, Nat.zero_le _, fun t0 nt0 => ⟨Cm.small (by show 3 ≤ 100000; decide), fun b0 nb0 => ?_⟩⟩
          have q1 := Cm.same_new (o := .tup []) nt0
          have q2 := Cm.same_new (o := .tup [.str "drop", .int (0 + (i : Int)), .ref t0]) nb0
          have qA := q1.trans q2
          have rb : Rp K (upd (upd H4 t0 (.tup [])) b0 (.tup [.str "drop", .int (0 + (i : Int)), .ref t0])) (.ref b0) (.tuple [.str "drop", .int (0 + (i : Int)), .tuple []]) := .tup Cm.sqt_new (.cons (.str _) (.cons (.int _) (.cons (.tup (Cm.sameT q2 Cm.sqt_new) .nil) .nil)))
          generalize upd (upd H4 t0 (.tup [])) b0 (.tup [.str "drop", .int (0 + (i : Int)), .ref t0]) = HB at *
          have WB := W.same qA
          refine ⟨x, ol', nd, hd, me, ls, ns, hs, o, _, rfl, G.same qA, nnh, by omega, by omega, fun _ _ HG t nt G' ht fr' => ?_, fun bad => absurd ⟨hom, ho0⟩ bad⟩
          have fB : Fr x ol' nd hd HB HG := fun c u h _ n1 n2 _ => fr' c u h n1 n2
          have tkG := fB.tk WB.D
          have DG := PD.gave tkG (rl.keep (Same.tups qA)) nnh G' ht rb
          obtain ⟨⟨_, end_⟩, ⟨_, ehd⟩, ⟨_, eol⟩⟩ := WB.D.dicts
          have RG : Rec K HG bx' fd td me [ol', bx'] lets ns hs ts := WB.R.move tkG (fun us h => fr' _ _ h WB.n1.2.2.symm (ne_ld h end_)) (fun u h => fr' _ _ h (ne_ld eol h).symm WB.n2.1) (fun u h => fr' _ _ h (ne_ld eol h).symm WB.n2.2.2.1)
            fun c us hn h => ⟨hn, fr' _ _ h (fun z => hn (by rw [z]; exact List.mem_cons_self)) (ne_ld h end_)⟩
          have hpG : HG pn = some (.lst (nums.map V.int)) := fr' _ _ WB.hp WB.n1.1 (ne_ld WB.hp end_)
          have B' : PB (i + 1) (lets ++ [(o, getN ns o, PyData.tuple [PyData.str "drop", PyData.int (0 + (i : Int)), PyData.tuple []])]) (puA ns o (getN ns o + 1)) hs := W.B.gave bd_drop
          clear fB rb q1 q2 G' ht tkG
          simp only [gName, List.set_cons_succ, List.set_cons_zero]
          refine ⟨_, rfl, _, _, _, _, false, rfl, .ty "bool", .base (.int _), kit_ty (by decide +kernel), _, rfl, Cm.itB (fun z => nomatch z) fun _ => ?_⟩
          obtain ⟨⟨us, hbG, rbG⟩, hfG, ⟨kvG, htG, htkG⟩, rel⟩ := id RG
          refine ⟨_, rfl, _, rfl, fd, rfl, .inl ⟨_, .inl hfG⟩, _, rfl, _, .inl ⟨_, Sum.inl o, .inl hfG, rfl, rfl⟩, ?_⟩
          have ev : (valV (NumsV ns) (Sum.inl o)).getD (V.int 0) = .int (getN ns o) := by
            rw [numsV_get]
            unfold getN
            cases lkA ns o <;> rfl
          generalize (valV (NumsV ns) (Sum.inl o)).getD (V.int 0) = v0 at ev ⊢
          subst ev
          refine ⟨rfl, _, rfl, Cm.itNI (fun e => absurd rfl e) fun _ => ?_⟩
          refine ⟨_, rfl, .inl ⟨rfl, _, SqL.of hbG⟩, _, rfl, _, rfl, _, rfl, _, rfl, Nat.zero_le _, fun t1 nt1 => ⟨Cm.small (by show 3 ≤ 100000; decide), fun b1 nb1 => ⟨Cm.small (by show 4 ≤ 100000; decide), fun c1 nc1 => ?_⟩⟩⟩
          have z1 := Cm.same_new (o := .tup []) nt1
          have z2 := Cm.same_new (o := .tup [.str "drop", .int (0 + (i : Int)), .ref t1]) nb1
          have z3 := Cm.same_new (o := .tup [.int me, .int o, .int (getN ns o), .ref b1]) nc1
          have zA := (z1.trans z2).trans z3
          have rc : Rp K (upd (upd (upd HG t1 (.tup [])) b1 (.tup [.str "drop", .int (0 + (i : Int)), .ref t1])) c1 (.tup [.int me, .int o, .int (getN ns o), .ref b1])) (.ref c1) (letD me (o, getN ns o, .tuple [.str "drop", .int (0 + (i : Int)), .tuple []])) :=
            Rp.made nc1 (.cons (.int _) (.cons (.int _) (.cons (.int _) (.cons (Rp.made nb1 (.cons (.str _) (.cons (.int _) (.cons (Rp.made nt1 .nil) .nil)))) .nil))))
          generalize upd (upd (upd HG t1 (.tup [])) b1 (.tup [.str "drop", .int (0 + (i : Int)), .ref t1])) c1 (.tup [.int me, .int o, .int (getN ns o), .ref b1]) = HT at *
          have hbT := zA _ _ hbG
          have hfT := zA _ _ hfG
          have lus : us.length ≤ 60 := by
            have := rbG.len
            rw [List.length_map] at this
            omega
          refine ⟨bx', us, _, rfl, rfl, hbT, Cm.smallL (by omega), ?_⟩
          have muB : Mut (HT bx') := by rw [hbT]; exact True.intro
          have tkX : TK K HT (upd HT bx' (.lst (us ++ [.ref c1]))) := TK.upd muB
          have nfb : fd ≠ bx' := (ne_ld hbT hfT).symm
          have hfX : (upd HT bx' (.lst (us ++ [.ref c1]))) fd = some (.dK (NumsV ns)) := by
            rw [upd_ne nfb]
            exact hfT
          refine ⟨_, rfl, _, _, rfl, rfl, _, rfl, _, rfl, fd, _, rfl, .inl ⟨_, Sum.inl o, hfX, rfl, Cm.smallL (by unfold NumsV; rw [List.length_map]; omega), rfl⟩, ?_⟩
          rw [numsV_put]
          have muF : Mut ((upd HT bx' (.lst (us ++ [.ref c1]))) fd) := by rw [hfX]; exact True.intro
          have tkY : TK K (upd HT bx' (.lst (us ++ [.ref c1]))) (upd (upd HT bx' (.lst (us ++ [.ref c1]))) fd (.dK (NumsV (puA ns o (getN ns o + 1))))) := TK.upd muF
          have DT := DG.same zA
          obtain ⟨⟨_, dnd⟩, ⟨_, dhd⟩, ⟨_, dol⟩⟩ := DT.dicts
          have DY := PD.upd (u := .dK (NumsV (puA ns o (getN ns o + 1)))) (PD.upd (u := .lst (us ++ [.ref c1])) DT muB ⟨(DT.nins (.inl ⟨_, hbT⟩)).symm, W.n1.2.2, (ne_ld hbT dnd).symm, (ne_ld hbT dhd).symm⟩) muF ⟨(DT.nins (.inr ⟨_, hfT⟩)).symm, ne_ld dol hfT, W.n2.1.symm, W.n2.2.1.symm⟩
          refine ⟨ol', bx', _, _, hs, ts, _, _, _, rfl, DY, B', ⟨⟨us ++ [.ref c1], ?_, ?_⟩, upd_same, ⟨kvG, ?_, htkG.mono fun c u hn h => ⟨hn, ?_⟩⟩, rel⟩, fun y hy => Nat.le_trans (W.L y hy) (Nat.le_succ i), ?_, W.n1, W.n2, fun y hy => ?_, ⟨?_, W.m.2⟩, fun k => ?_⟩
          · rw [upd_ne nfb.symm, upd_same]
          · rw [List.map_append]
            exact rps_keep (((TK.same zA).trans tkX).trans tkY) rbG |>.app (.cons (rp_keep (tkX.trans tkY) rc) .nil)
          · rw [upd_ne W.n2.2.2.2.2.symm, upd_ne (ne_ld hbT (zA _ _ htG)).symm]
            exact zA _ _ htG
          · rw [upd_ne (ne_ld (zA _ _ h) hfT), upd_ne fun e => hn (by rw [e]; simp)]
            exact zA _ _ h
          · rw [upd_ne (ne_ld (zA _ _ hpG) hfT), upd_ne W.n1.2.1]
            exact zA _ _ hpG
          · rcases List.mem_append.mp hy with h | h
            · exact W.z y h
            · rw [List.mem_singleton.mp h]
              exact W.g o
          · rw [getN_put, if_neg hom]
            exact W.m.1
          · have := W.g k
            have := getN_mono ns o k
            omega
        · refine ⟨_, rfl, _, _, rfl, rfl, _, rfl, Cm.itD (fun _ => ?_) fun _ => ?_⟩
          · -- take
            refine ⟨_, rfl, x, dxp, _, rfl, hop, fp_no (by decide +kernel), _, rfl, _, rfl, _, rfl, _, _, rfl, rfl, (by show (0 : Int) < 10; decide), _, rfl, Nat.zero_le _, fun t0 nt0 => ⟨Cm.small (by show 3 ≤ 100000; decide), fun b0 nb0 => ⟨Cm.small (by show 4 ≤ 100000; decide), fun t nt => ?_⟩⟩⟩
            have q1 := Cm.same_new (o := .tup []) nt0
            have q2 := Cm.same_new (o := .tup [.str "drop", .int m1, .ref t0]) nb0
            have q3 := Cm.same_new (o := .tup [.int o, .int me, .int (m1 % 10), .ref b0]) nt
            have sA := (q1.trans q2).trans q3
            have ht := Cm.sqt_new (K := K) (H := upd (upd H4 t0 (.tup [])) b0 (.tup [.str "drop", .int m1, .ref t0])) (p := t) (xs := [.int o, .int me, .int (m1 % 10), .ref b0])
            have hb := Cm.sameT (K := K) q3 (Cm.sqt_new (K := K) (H := upd H4 t0 (.tup [])) (p := b0) (xs := [.str "drop", .int m1, .ref t0]))
            generalize upd (upd (upd H4 t0 (.tup [])) b0 (.tup [.str "drop", .int m1, .ref t0])) t (.tup [.int o, .int me, .int (m1 % 10), .ref b0]) = HB at *
            have WB := W.same sA
            obtain ⟨gT1, gT2, gT3⟩ := relT_get W.R.r o
            have hn0 : 0 ≤ m1 % 10 := by omega
            have tl := pairF_tells gT3 (m1 % 10)
            rw [← gT1] at tl
            refine ⟨x, ol', nd, hd, me, ls, ns, hs, lets, t, b0, o, me, m1 % 10, "drop", _, rfl, G.same sA, nnh, rl.keep (Same.tups sA), by omega, by omega, fun y hy => by have := bb y hy; omega, ht, hb, fun bad => absurd ⟨rfl, hom⟩ bad, fun _ _ e => absurd e (by decide), fun _ _ _ old H' s' => ?_, fun _ _ _ new H' G' fr' => ?_⟩
            · rw [tl] at old
              have WN := WB.same s'
              simp only [gName, List.set_cons_succ, List.set_cons_zero]
              refine ⟨_, rfl, _, _, _, _, true, rfl, .ty "bool", .base (.bl _), kit_ty (by decide +kernel), _, rfl, Cm.itBn (fun z => nomatch z) fun _ => ?_⟩
              obtain ⟨_, _, ⟨kvo, hto, htko⟩, _⟩ := id WN.R
              refine ⟨_, rfl, _, rfl, _, _, rfl, rfl, (by show (0 : Int) < 10; decide), _, rfl, td, rfl, .inl ⟨_, .inl hto⟩, _, rfl, Nat.zero_le _, fun t1 u1 => ⟨_, .inl ⟨_, Sum.inl o, .inl (Cm.same_new u1 _ _ hto), rfl, rfl⟩, ?_⟩⟩
              have s1' := Cm.same_new (o := .lst []) u1
              obtain ⟨lt1, elt1, hlt1⟩ := tak_get (H := upd H' t1 (.lst [])) (htko.mono fun l us n hl => ⟨n, s1' _ _ hl⟩) o (t0 := t1) upd_same
              generalize (valV kvo (Sum.inl o)).getD (V.ref t1) = w1 at elt1 ⊢
              subst elt1
              refine in_lst (.inl (SqL.of hlt1)) ?_
              rw [old]
              refine ⟨rfl, _, rfl, Cm.itD (fun e => nomatch e) fun _ => ?_⟩
              refine ⟨_, rfl, false, rfl, Cm.itB (fun z => nomatch z) fun _ => ?_⟩
              exact ⟨ol', bx', lets, ns, hs, ts, _, _, _, rfl, (WN.same s1').mono (Nat.le_succ i)⟩
            · rw [tl] at new
              have fB : Fr x ol' nd hd HB H' := fun c u h _ _ _ n => fr' c u h n
              have tkH := fB.tk WB.D
              have hnot : m1 % 10 ∉ getT ts o := of_decide_eq_false new
              have D' : PD K H' x ol' nd hd me lets ns (puH hs o (m1 % 10)) := ⟨⟨ls, G', rps_keep ((TK.same sA).trans tkH) rl⟩, nnh⟩
              obtain ⟨⟨_, bnd⟩, ⟨_, bhd⟩, ⟨_, bol⟩⟩ := WB.D.dicts
              have R' : Rec K H' bx' fd td me [ol', bx'] lets ns hs ts := WB.R.move tkH (fun us h => fr' _ _ h (ne_ld h bhd)) (fun u h => fr' _ _ h WB.n2.2.1) (fun u h => fr' _ _ h WB.n2.2.2.2.1)
                fun c us hn h => ⟨hn, fr' _ _ h (ne_ld h bhd)⟩
              have hp' : H' pn = some (.lst (nums.map V.int)) := fr' _ _ WB.hp (ne_ld WB.hp bhd)
              simp only [gName, List.set_cons_succ, List.set_cons_zero]
              refine ⟨_, rfl, _, _, _, _, true, rfl, .ty "bool", .base (.bl _), kit_ty (by decide +kernel), _, rfl, Cm.itBn (fun z => nomatch z) fun _ => ?_⟩
              obtain ⟨_, _, ⟨kvo, hto, htko⟩, _⟩ := id R'
              refine ⟨_, rfl, _, rfl, _, _, rfl, rfl, (by show (0 : Int) < 10; decide), _, rfl, td, rfl, .inl ⟨_, .inl hto⟩, _, rfl, Nat.zero_le _, fun t1 u1 => ⟨_, .inl ⟨_, Sum.inl o, .inl (Cm.same_new u1 _ _ hto), rfl, rfl⟩, ?_⟩⟩
              have s1' := Cm.same_new (o := .lst []) u1
              obtain ⟨lt1, elt1, hlt1⟩ := tak_get (H := upd H' t1 (.lst [])) (htko.mono fun l us n hl => ⟨n, s1' _ _ hl⟩) o (t0 := t1) upd_same
              generalize (valV kvo (Sum.inl o)).getD (V.ref t1) = w1 at elt1 ⊢
              subst elt1
              refine in_lst (.inl (SqL.of hlt1)) ?_
              rw [new]
              refine ⟨rfl, _, rfl, Cm.itD (fun e => nomatch e) fun _ => ?_⟩
              refine ⟨_, rfl, true, rfl, Cm.itB (fun _ => ?_) fun z => nomatch z⟩
              -- taken[other] = ..
              have hto1 := s1' _ _ hto
              have R1 := R'.same s1'
              have hp1 := s1' _ _ hp'
              have D1 := D'.same s1'
              clear hlt1
              generalize upd H' t1 (.lst []) = HJ at *
              refine ⟨_, rfl, td, rfl, .inl ⟨_, .inl hto1⟩, _, rfl, Nat.zero_le _, fun t2 u2 => ⟨_, .inl ⟨_, Sum.inl o, .inl (Cm.same_new u2 _ _ hto1), rfl, rfl⟩, ?_⟩⟩
              have s2' := Cm.same_new (o := .lst []) u2
              obtain ⟨lt2, elt2, hlt2⟩ := tak_get (H := upd HJ t2 (.lst [])) (htko.mono fun l us n hl => ⟨n, s2' _ _ (s1' _ _ hl)⟩) o (t0 := t2) upd_same
              generalize (valV kvo (Sum.inl o)).getD (V.ref t2) = w2 at elt2 ⊢
              subst elt2
              have s2j : Same HJ (upd HJ t2 (.lst [])) := s2'
              generalize upd HJ t2 (.lst []) = HK at *
              refine ⟨_, rfl, _, _, rfl, rfl, (by show (0 : Int) < 10; decide), Cm.small (by show 1 ≤ 100000; decide), fun t3 u3 => ?_⟩
              have s3' := Cm.same_new (o := .lst [.int (m1 % 10)]) u3
              have h3 : (upd HK t3 (.lst [.int (m1 % 10)])) t3 = some (.lst [.int (m1 % 10)]) := upd_same
              have hlt3 := s3' _ _ hlt2
              have lgT : (getT ts o).length ≤ i := by
                unfold getT
                cases z : lkA ts o with
                | none => exact Nat.zero_le _
                | some u => exact W.L _ (lkA_mem z)
              generalize upd HK t3 (.lst [.int (m1 % 10)]) = HL at *
              refine ⟨lt2, t3, _, _, rfl, rfl, hlt3, h3, Cm.small (by rw [len_map]; simp only [List.length_cons, List.length_nil]; omega), fun p5 np5 => ?_⟩
              rw [show (getT ts o).map V.int ++ [V.int (m1 % 10)] = (getT ts o ++ [m1 % 10]).map V.int from map_snoc]
              have s5' := Cm.same_new (o := .lst ((getT ts o ++ [m1 % 10]).map V.int)) np5
              have hp5 : (upd HL p5 (.lst ((getT ts o ++ [m1 % 10]).map V.int))) p5 = some (.lst ((getT ts o ++ [m1 % 10]).map V.int)) := upd_same
              have sAll := (s2j.trans s3').trans s5'
              have R5 := R1.same sAll
              have D5 := D1.same sAll
              have hpn5 := sAll _ _ hp1
              have h6 : p5 ≠ ol' ∧ p5 ≠ bx' := by
                obtain ⟨_, _, ⟨_, tol⟩⟩ := (D1.same (s2j.trans s3')).dicts
                obtain ⟨⟨_, tbx, _⟩, _, _, _⟩ := R1.same (s2j.trans s3')
                exact ⟨(ne_of_none tol np5).symm, (ne_of_none tbx np5).symm⟩
              generalize upd HL p5 (.lst ((getT ts o ++ [m1 % 10]).map V.int)) = HM at *
              obtain ⟨⟨us5, hb5, rb5⟩, hf5, ⟨kv5, ht5, htk5⟩, _⟩ := id R5
              have lts5 : ts.length ≤ 60 := by
                have e := congrArg List.length (relT_keys W.R.r)
                rw [List.length_map, List.length_map] at e
                omega
              refine ⟨_, rfl, _, rfl, td, _, rfl, .inl ⟨_, Sum.inl o, ht5, rfl, Cm.smallL (by rw [Paired.length htk5]; omega), rfl⟩, ?_⟩
              have muT : Mut (HM td) := by rw [ht5]; exact True.intro
              have tkT : TK K HM (upd HM td (.dK (putK kv5 (Sum.inl o) (.ref p5)))) := TK.upd muT
              obtain ⟨⟨_, dnd⟩, ⟨_, dhd⟩, ⟨_, dol⟩⟩ := D5.dicts
              have D6 := PD.upd (u := .dK (putK kv5 (Sum.inl o) (.ref p5))) D5 muT ⟨(D5.nins (.inr ⟨_, ht5⟩)).symm, ne_ld dol ht5, W.n2.2.2.1.symm, W.n2.2.2.2.1.symm⟩
              refine ⟨ol', bx', lets, ns, _, _, _, _, _, rfl, D6, W.B.took, ⟨⟨us5, by rw [upd_ne (ne_ld hb5 ht5)]; exact hb5, rps_keep tkT rb5⟩, by rw [upd_ne W.n2.2.2.2.2]; exact hf5, ⟨_, upd_same, asV_put (htk5.mono fun c u hn h => ⟨hn, by rw [upd_ne (ne_ld h ht5)]; exact h⟩) o ⟨p5, rfl, by simp [h6.1, h6.2], by rw [upd_ne (ne_ld hp5 ht5)]; exact hp5⟩⟩, relT_put W.R.r hnot hn0⟩, fun y hy => ?_, by rw [upd_ne (ne_ld hpn5 ht5)]; exact hpn5, W.n1, W.n2, W.z, ⟨W.m.1, by rw [getT_put, if_neg hom]; exact W.m.2⟩, W.g⟩
              rcases puA_mem hy with h | h
              · exact Nat.le_trans (W.L y h) (Nat.le_succ i)
              · rw [h, List.length_append]
                simp only [List.length_cons, List.length_nil]
                omega
          · -- an acknowledgement
            refine ⟨_, rfl, _, _, rfl, rfl, (by show (0 : Int) < 4; decide), ?_⟩
            have hlow : 0 ≤ m1 % 4 ∧ m1 % 4 < 4 := by omega
            simp only [gName, List.set_cons_succ, List.set_cons_zero]
            generalize m1 % 4 = low at *
            refine ⟨_, rfl, _, _, rfl, rfl, _, _, rfl, ⟨by omega, by omega, by omega, by omega⟩, fun DB nDB => ?_⟩
            refine lc_range (lo := low + 1) (n := (9 - (low + 1)).toNat) (fun j Hj => Same H4 Hj ∧ ∃ acc : List Int, Hj DB = some (.lst (acc.map V.int)) ∧ acc.length ≤ j) ⟨Cm.same_new nDB, [], upd_same, Nat.le_refl _⟩ (fun j Hj hj b => ?_) fun Hj b => ?_
            · obtain ⟨sH, acc, hD, lD⟩ := b
              refine ⟨rfl, ?_⟩
              simp only [List.map_cons, List.map_nil, List.set_cons_succ, List.set_cons_zero, wipe]
              refine ⟨_, rfl, _, _, rfl, rfl, ⟨by decide, by decide⟩, _, rfl, _, _, rfl, rfl, _, _, rfl, rfl, ⟨by omega, by omega⟩, _, _, rfl, rfl, (by show (0 : Int) < 3; decide), rfl, _, rfl, Cm.itEI (fun _ => ?_) fun _ => ?_⟩
              · refine ⟨_, rfl, _, hD, Cm.smallL (by rw [len_map]; omega), Cm.same_mut sH nDB, acc ++ [low + 1 + (j : Int)], by rw [upd_same, map_snoc], by rw [List.length_append]; simp only [List.length_cons, List.length_nil]; omega⟩
              · exact ⟨sH, acc, hD, by omega⟩
            obtain ⟨sJ, acc, hD, lD⟩ := b
            refine ⟨DB, _, rfl, .inl ⟨SqL.of hD, fun bt nbt => ?_⟩⟩
            have sbt := Cm.same_new (o := .tup (acc.map V.int)) nbt
            have hbt : SqT K (upd Hj bt (.tup (acc.map V.int))) bt (acc.map V.int) := Cm.sqt_new
            have s4 := sJ.trans sbt
            simp only [gName, List.set_cons_succ, List.set_cons_zero]
            refine ⟨_, rfl, x, dxp, _, rfl, s4 _ _ hop, fp_no (by decide +kernel), _, rfl, _, rfl, _, rfl, _, rfl, _, rfl, Cm.small (by show 3 ≤ 100000; decide), fun b0 nb0 => ⟨Cm.small (by show 4 ≤ 100000; decide), fun t nt => ?_⟩⟩
            have q2 := Cm.same_new (o := .tup [.str "ack", .int low, .ref bt]) nb0
            have q3 := Cm.same_new (o := .tup [.int o, .int me, .int (-1), .ref b0]) nt
            have sA := (s4.trans q2).trans q3
            have hbtA := Cm.sameT (q2.trans q3) hbt
            have ht := Cm.sqt_new (K := K) (H := upd (upd Hj bt (.tup (acc.map V.int))) b0 (.tup [.str "ack", .int low, .ref bt])) (p := t) (xs := [.int o, .int me, .int (-1), .ref b0])
            have hb := Cm.sameT (K := K) q3 (Cm.sqt_new (K := K) (H := upd Hj bt (.tup (acc.map V.int))) (p := b0) (xs := [.str "ack", .int low, .ref bt]))
            generalize upd (upd (upd Hj bt (.tup (acc.map V.int))) b0 (.tup [.str "ack", .int low, .ref bt])) t (.tup [.int o, .int me, .int (-1), .ref b0]) = HB at *
            have WB := W.same sA
            refine ⟨x, ol', nd, hd, me, ls, ns, hs, lets, t, b0, o, me, -1, "ack", _, rfl, G.same sA, nnh, rl.keep (Same.tups sA), by omega, by omega, fun y hy => by have := bb y hy; omega, ht, hb, fun bad => absurd ⟨rfl, hom⟩ bad, fun _ _ _ => ⟨low, bt, acc, rfl, hbtA, fun H' ol2 ls2 ho2 G' rl' fr' => ?_⟩, fun _ _ e => absurd rfl e, fun _ _ e => absurd rfl e⟩
            refine ⟨_, _, rfl, rfl, _, rfl, Cm.itB (fun z => nomatch z) fun _ => ?_⟩
            have fB : Fr x ol' nd hd HB H' := fun c u h n _ _ _ => fr' c u h n
            have tkH := fB.tk WB.D
            have D' : PD K H' x ol2 nd hd me (lets.filter (keepL o (low, acc))) ns hs := ⟨⟨ls2, G', rl'⟩, nnh⟩
            obtain ⟨⟨ub, hub, rub⟩, hfB, ⟨kvB, htB, htkB⟩, _⟩ := id WB.R
            have R' : Rec K H' bx' fd td me [ol2] lets ns hs ts := WB.R.move tkH (fun us h => fr' _ _ h (WB.D.nins (.inl ⟨_, h⟩))) (fun u h => fr' _ _ h (WB.D.nins (.inr ⟨_, h⟩))) (fun u h => fr' _ _ h (WB.D.nins (.inr ⟨_, h⟩)))
              fun c us hn h => ⟨by simp only [List.mem_cons, List.not_mem_nil, or_false]; exact ne_of_none h ho2, fr' _ _ h (WB.D.nins (.inl ⟨_, h⟩))⟩
            have hp' : H' pn = some (.lst (nums.map V.int)) := fr' _ _ WB.hp (WB.D.nins (.inl ⟨_, WB.hp⟩))
            have hbtH := tkH _ _ hbtA
            have npo2 : pn ≠ ol2 := ne_of_none WB.hp ho2
            clear fB rub hub hfB htB htkB ht hb q2 q3 rl' G' hbt
            obtain ⟨⟨us, hbx, rbx⟩, _, _, _⟩ := id R'
            have lus : us.length = lets.length := by rw [rbx.len, List.length_map]
            refine ⟨_, rfl, bx', rfl, ⟨_, SqL.of hbx⟩, fun D2 nD2 => ?_⟩
            refine lc_list (K := K) (a := bx') (xs := us) (fun j Hk => Same H' Hk ∧ ∃ acc2, Hk D2 = some (.lst acc2) ∧ Rps K Hk acc2 (((lets.take j).filter (keepL o (low, acc))).map (letD me)) ∧ acc2.length ≤ j) ⟨Cm.same_new nD2, [], upd_same, .nil, Nat.le_refl _⟩ (fun j Hk _ b => SqL.of (b.1 _ _ hbx)) (fun j y Hk hy b => ?_) fun Hk b => ?_
            · obtain ⟨sK, acc2, hD2, rD, lD2⟩ := b
              refine ⟨rfl, ?_⟩
              have hn : j < lets.length := by
                rw [← lus]
                exact (List.getElem?_eq_some_iff.mp hy).1
              have hbd : lets[j]? = some lets[j] := List.getElem?_eq_getElem hn
              have hz := W.z _ (List.getElem_mem hn)
              obtain ⟨y', hy', ry⟩ := rbx.at_ (i := j) (d := letD me lets[j]) (by rw [List.getElem?_map, hbd]; rfl)
              rw [hy] at hy'
              cases hy'
              generalize lets[j] = xx at hbd ry hz
              obtain ⟨xo, xn, xd⟩ := xx
              have ryi := ry.keep (Same.tups sK)
              obtain ⟨t5, vs, rfl, ht5, rvs⟩ := ryi.tup_inv
              obtain ⟨v1, r1, rfl, w1, rvs⟩ := rvs.cons_inv
              obtain ⟨v2, r2, rfl, w2, rvs⟩ := rvs.cons_inv
              obtain ⟨v3, r3, rfl, w3, rvs⟩ := rvs.cons_inv
              obtain rfl := w1.int_inv
              obtain rfl := w2.int_inv
              obtain rfl := w3.int_inv
              have hz' : 0 ≤ xn := hz
              have go : keepL o (low, acc) (xo, xn, xd) = true → ∃ acc', Hk D2 = some (.lst acc') ∧ acc'.length < sizeLine ∧ Same H' (upd Hk D2 (.lst (acc' ++ [.ref t5]))) ∧ ∃ acc2, (upd Hk D2 (.lst (acc' ++ [.ref t5]))) D2 = some (.lst acc2) ∧ Rps K (upd Hk D2 (.lst (acc' ++ [.ref t5]))) acc2 (((lets.take (j + 1)).filter (keepL o (low, acc))).map (letD me)) ∧ acc2.length ≤ j + 1 := fun e => by
                refine ⟨acc2, hD2, Cm.smallL (by omega), Cm.same_mut sK nD2, acc2 ++ [.ref t5], upd_same, ?_, by rw [List.length_append]; simp only [List.length_cons, List.length_nil]; omega⟩
                rw [take_flt hbd, if_pos e, List.map_append]
                exact rps_keep (TK.upd (by rw [hD2]; exact True.intro)) (rD.app (.cons ryi .nil))
              refine ⟨_, rfl, t5, _, 1, _, rfl, rfl, ht5, atI_nat (j := 1) rfl, _, rfl, rfl, _, rfl, Cm.itNI (fun e => ?_) fun e => ?_⟩
              · refine iteT ⟨_, rfl, ?_⟩
                exact go (by simp [keepL, e])
              · have et : (decide (xn < low) || decide (xn ∈ acc)) = tellsF low acc xn := by
                  unfold tellsF
                  rw [decide_eq_true hz', Bool.true_and]
                refine ⟨_, rfl, _, rfl, _, rfl, t5, _, 2, _, rfl, rfl, ht5, atI_nat (j := 2) rfl, bt, low, xn, acc, rfl, Cm.sameT sK hbtH, _, rfl, Cm.itBn (fun z => ?_) fun z => ?_⟩
                · rw [et] at z
                  refine ⟨_, rfl, ?_⟩
                  exact go (by simp [keepL, z])
                · rw [et] at z
                  have e' : xo = o := e
                  refine ⟨sK, acc2, hD2, ?_, by omega⟩
                  rw [take_flt hbd, if_neg (by simp [keepL, z, e']), List.append_nil]
                  exact rD
            · obtain ⟨sK, acc2, hD2, rD, lD2⟩ := b
              rw [lus, List.take_length] at rD
              simp only [gName, List.set_cons_succ, List.set_cons_zero]
              have RK := R'.same sK
              obtain ⟨_, hfK, ⟨kvK, htK, htkK⟩, _⟩ := id RK
              obtain ⟨_, _, ⟨_, tol2⟩⟩ := D'.dicts
              refine ⟨ol2, D2, _, ns, hs, ts, _, _, _, rfl, D'.same sK, W.B.let_.mono (Nat.le_succ i), ⟨⟨acc2, hD2, rD⟩, hfK, ⟨kvK, htK, ?_⟩, W.R.r⟩, fun y hy => Nat.le_trans (W.L y hy) (Nat.le_succ i), sK _ _ hp', ⟨npo2, ne_of_none hp' nD2, ne_of_none tol2 nD2⟩, W.n2, fun y hy => W.z y (List.mem_filter.mp hy).1, W.m, W.g⟩
              obtain ⟨_, _, ⟨kv', ht', htk'⟩, _⟩ := id R'
              have ekv : kvK = kv' := by
                have := sK _ _ ht'
                rw [htK] at this
                injection this with this
                injection this
              subst ekv
              refine htk'.mono fun c u hn h => ⟨?_, sK _ _ h⟩
              simp only [List.mem_cons, List.not_mem_nil, or_false, not_or] at hn ⊢
              exact ⟨hn, ne_of_none h nD2⟩
      · subst e
        refine ⟨_, rfl, _, rfl, _, rfl, _, rfl, _, rfl, x, ol2, nd, hd, bx2, fd, td, me, [ol2, bx2], lets2, ns2, hs2, ts2, rfl, W2.D, W2.B.mono (by omega), W2.R, fun y hy => Nat.le_trans (W2.L y hy) (by omega), fun H5 s5 => ⟨_, rfl, ?_⟩⟩
        exact ⟨ol2, bx2, lets2, ns2, hs2, ts2, _, _, _, _, _, _, _, _, rfl, W2.same s5⟩
    · subst e
      obtain ⟨⟨ls, G, rl⟩, nnh⟩ := id W.D
      obtain ⟨⟨dxp, hop⟩, _⟩ := id G
      refine ⟨_, rfl, x, dxp, _, rfl, hop, fp_no (by decide +kernel), _, rfl, x, ol', nd, hd, me, ls, ns, hs, me, rfl, G, ?_⟩
      rw [W.m.1]
      refine ⟨rfl, _, rfl, ?_⟩
      rw [if_pos (by decide)]
      refine ⟨_, rfl, x, dxp, _, rfl, hop, fp_no (by decide +kernel), _, rfl, x, ol', nd, hd, me, ls, ns, hs, me, rfl, G, fun H5 v s5 hv => ?_⟩
      refine ⟨Nat.zero_le _, fun t0 u0 => ⟨Cm.small (by show 2 ≤ 100000; decide), fun t1 u1 => ?_⟩⟩
      rw [(relT_get W.R.r me).1, W.m.2, pairF_nil] at hv
      have st0 := Cm.same_new (o := .tup []) u0
      have st1 := Cm.same_new (o := .tup [.int 0, .ref t0]) u1
      have shp := pair_shaped (0, [])
      refine ⟨_, _, ((pair_rp hv).keep (Same.tups (st0.trans st1))).dp, (Rp.made u1 (.cons (.int _) (.cons (Rp.made u0 .nil) .nil))).dp, shp, shp, ?_⟩
      rw [show PyData.eqv (PyData.tuple [PyData.int (0, ([] : List Int)).1, PyData.tuple ((0, ([] : List Int)).2.map PyData.int)]) (PyData.tuple [PyData.int 0, PyData.tuple []]) = true from by decide +kernel]
      exact q _
def fn : List He.DefD := [⟨("Post", some "__init__"), "__init__", "Post.__init__", defArgs s_Post_init, defBody s_Post_init, defScope s_Post_init, [], []⟩,
  ⟨("Post", some "give"), "give", "Post.give", defArgs s_Post_give, defBody s_Post_give, defScope s_Post_give, [], []⟩,
  ⟨("Post", some "take"), "take", "Post.take", defArgs s_Post_take, defBody s_Post_take, defScope s_Post_take, [], []⟩,
  ⟨("Post", some "_let_go"), "_let_go", "Post._let_go", defArgs s_Post_p_let_go, defBody s_Post_p_let_go, defScope s_Post_p_let_go, [], []⟩,
  ⟨("Post", some "is_taken"), "is_taken", "Post.is_taken", defArgs s_Post_is_taken, defBody s_Post_is_taken, defScope s_Post_is_taken, [], []⟩,
  ⟨("Post", some "taken"), "taken", "Post.taken", defArgs s_Post_taken, defBody s_Post_taken, defScope s_Post_taken, [], []⟩,
  ⟨("Post", some "next_number"), "next_number", "Post.next_number", defArgs s_Post_next_number, defBody s_Post_next_number, defScope s_Post_next_number, [], []⟩,
  ⟨("Post", some "outbox"), "outbox", "Post.outbox", defArgs s_Post_outbox, defBody s_Post_outbox, defScope s_Post_outbox, [], []⟩,
  ⟨("Post", some "answers"), "answers", "Post.answers", defArgs s_Post_answers, defBody s_Post_answers, defScope s_Post_answers, [], []⟩,
  ⟨("Post", some "image"), "image", "Post.image", defArgs s_Post_image, defBody s_Post_image, defScope s_Post_image, [], []⟩,
  ⟨("_tells", none), "_tells", "_tells", defArgs s_tells, defBody s_tells, defScope s_tells, [], []⟩,
  ⟨("_with_number", none), "_with_number", "_with_number", defArgs s_with_number, defBody s_with_number, defScope s_with_number, [], []⟩,
  ⟨("_law_numbers", none), "_law_numbers", "_law_numbers", defArgs s_lw_numbers, defBody s_lw_numbers, defScope s_lw_numbers, [], []⟩,
  ⟨("_law_pair", none), "_law_pair", "_law_pair", defArgs s_lw_pair, defBody s_lw_pair, defScope s_lw_pair, [], []⟩,
  ⟨("_law_fits", none), "_law_fits", "_law_fits", defArgs s_lw_fits, defBody s_lw_fits, defScope s_lw_fits, [], []⟩,
  ⟨("_law_told_by", none), "_law_told_by", "_law_told_by", defArgs s_lw_told_by, defBody s_lw_told_by, defScope s_lw_told_by, [], []⟩,
  ⟨("law", none), "law", "law", defArgs s_law, defBody s_law, defScope s_law, [], []⟩]
def fas : List He.Fa := [.mkr "Post", .meth "Post" "give", .meth "Post" "take", .meth "Post" "_let_go", .meth "Post" "is_taken", .meth "Post" "taken", .meth "Post" "next_number", .meth "Post" "outbox", .meth "Post" "answers", .meth "Post" "image", .glo "_tells", .glo "_with_number", .glo "_law_numbers", .glo "_law_pair", .glo "_law_fits", .glo "_law_told_by", .glo "law", .glo "PortError", .glo "NotAllowed", .glo "Post", .cls "Post", .noat "Post" "_me", .noat "Post" "_letters", .noat "Post" "_numbers", .noat "Post" "_heard", .free "tuple", .free "sorted", .free "len", .free "range", .free "abs", .free "max", .free "int", .free "isinstance", .free "bool"]
def tabs : List He.Tab := []
def okX (K : PySem.W.Frag) : Bool := PySem.W.excIn K (He.ga K "NotAllowed") [.type "ValueError", .type "Exception", .type "BaseException", .type "object"] "ValueError.__new__" && (PySem.W.keepIn K (.ref (He.ga K "NotAllowed")) && ((PySem.W.subIn K (.ref (He.ga K "NotAllowed")) (.type "BaseException") == some true) && ((PySem.W.typeIn K (.ref (He.ga K "NotAllowed")) == some (.type "type")))))
abbrev R : PySem.W.OpenRow := PySem.W.OpenLaw.row PySem.Challenge.rw_portage_k40_numbers_and_new_letters
abbrev hk : PySem.W.Hook := Cm.hookX 5 fas fn tabs okX
def ob (s : PySem.W.SharedT) : Cm.AlX := Cm.obsXG 5 fas fn tabs okX (HandSHeadRun.getT s)
theorem ob_eq (s : PySem.W.SharedT) : ob s = hk.obs s.abs := Cm.obsXG_eq (HandSHeadRun.getT_eq s)
abbrev loose : List Str := (["_wall", "PortError", "NotAllowed", "Post", "_tells", "_with_number", "_law_numbers", "_law_pair", "_law_fits", "_law_told_by"] : List Str)
theorem run (w : World) : HandSHeadRun.RunEq R (PySem.W.view R.prog [13]) hk ob 4000 loose w := by
  intro os
  kernel_rfl
theorem facts {P : Program} {w : World} {K : PySem.W.Frag} {h : Heap} {mg : Str → Option Value} {f : Addr} (X : K.In h) (G : h.Ns mainGlobals mg) (hfa : mg ("law" : Str) = some (.ref f)) (ok : okX K = true) (c : He.SaysT fas fn tabs w K) :
    ∃ fd : FuncData, (∀ (s : Shared) (v : Value), BindsTo s fd ⟨[v], []⟩ [("script", v)]) ∧ ∀ base : Heap, K.In base → base.Ns mainGlobals mg → FnOk P w K mg base CX0 6 f fd ["script"] (spLaw K) := by
  obtain ⟨d_Post_init, F_Post_init⟩ := c.d.def_ 0 rfl
  obtain ⟨d_Post_give, F_Post_give⟩ := c.d.def_ 1 rfl
  obtain ⟨d_Post_take, F_Post_take⟩ := c.d.def_ 2 rfl
  obtain ⟨d_Post_p_let_go, F_Post_p_let_go⟩ := c.d.def_ 3 rfl
  obtain ⟨d_Post_is_taken, F_Post_is_taken⟩ := c.d.def_ 4 rfl
  obtain ⟨d_Post_taken, F_Post_taken⟩ := c.d.def_ 5 rfl
  obtain ⟨d_Post_next_number, F_Post_next_number⟩ := c.d.def_ 6 rfl
  obtain ⟨d_Post_outbox, F_Post_outbox⟩ := c.d.def_ 7 rfl
  obtain ⟨d_Post_answers, F_Post_answers⟩ := c.d.def_ 8 rfl
  obtain ⟨d_Post_image, F_Post_image⟩ := c.d.def_ 9 rfl
  obtain ⟨d_tells, F_tells⟩ := c.d.def_ 10 rfl
  obtain ⟨d_with_number, F_with_number⟩ := c.d.def_ 11 rfl
  obtain ⟨d_lw_numbers, F_lw_numbers⟩ := c.d.def_ 12 rfl
  obtain ⟨d_lw_pair, F_lw_pair⟩ := c.d.def_ 13 rfl
  obtain ⟨d_lw_fits, F_lw_fits⟩ := c.d.def_ 14 rfl
  obtain ⟨d_lw_told_by, F_lw_told_by⟩ := c.d.def_ 15 rfl
  obtain ⟨d_law, F_law⟩ := c.d.def_ 16 rfl
  have e := hfa.symm.trans (He.glo_ok X G (c.d.fact 16 (f := .glo "law") rfl))
  cases e
  unfold okX at ok
  simp only [Bool.and_eq_true] at ok
  obtain ⟨o0, o1, o2, o3⟩ := ok
  have T : Txt K mg w ⟨d_Post_init, d_Post_give, d_Post_take, d_Post_p_let_go, d_Post_is_taken, d_Post_taken, d_Post_next_number, d_Post_outbox, d_Post_answers, d_Post_image, d_tells, d_with_number, d_lw_numbers, d_lw_pair, d_lw_fits, d_lw_told_by, d_law⟩ := {
    F_Post_init := F_Post_init
    b_Post_init := F_Post_init.bindsN (ps := ["self", "me"]) fun _ _ _ _ _ _ us hl => match us, hl with | [_, _], _ => rfl
    k_Post := He.mkr_ok (c.d.fact 0 (f := .mkr "Post") rfl)
    F_Post_give := F_Post_give
    b_Post_give := F_Post_give.bindsN (ps := ["self", "other", "body"]) fun _ _ _ _ _ _ us hl => match us, hl with | [_, _, _], _ => rfl
    m_Post_give := He.meth_ok (c.d.fact 1 (f := .meth "Post" "give") rfl)
    F_Post_take := F_Post_take
    b_Post_take := F_Post_take.bindsN (ps := ["self", "letter"]) fun _ _ _ _ _ _ us hl => match us, hl with | [_, _], _ => rfl
    m_Post_take := He.meth_ok (c.d.fact 2 (f := .meth "Post" "take") rfl)
    F_Post_p_let_go := F_Post_p_let_go
    b_Post_p_let_go := F_Post_p_let_go.bindsN (ps := ["self", "other", "told"]) fun _ _ _ _ _ _ us hl => match us, hl with | [_, _, _], _ => rfl
    m_Post_p_let_go := He.meth_ok (c.d.fact 3 (f := .meth "Post" "_let_go") rfl)
    F_Post_is_taken := F_Post_is_taken
    b_Post_is_taken := F_Post_is_taken.bindsN (ps := ["self", "other", "number"]) fun _ _ _ _ _ _ us hl => match us, hl with | [_, _, _], _ => rfl
    m_Post_is_taken := He.meth_ok (c.d.fact 4 (f := .meth "Post" "is_taken") rfl)
    F_Post_taken := F_Post_taken
    b_Post_taken := F_Post_taken.bindsN (ps := ["self", "other"]) fun _ _ _ _ _ _ us hl => match us, hl with | [_, _], _ => rfl
    m_Post_taken := He.meth_ok (c.d.fact 5 (f := .meth "Post" "taken") rfl)
    F_Post_next_number := F_Post_next_number
    b_Post_next_number := F_Post_next_number.bindsN (ps := ["self", "other"]) fun _ _ _ _ _ _ us hl => match us, hl with | [_, _], _ => rfl
    m_Post_next_number := He.meth_ok (c.d.fact 6 (f := .meth "Post" "next_number") rfl)
    F_Post_outbox := F_Post_outbox
    b_Post_outbox := F_Post_outbox.bindsN (ps := ["self"]) fun _ _ _ _ _ _ us hl => match us, hl with | [_], _ => rfl
    m_Post_outbox := He.meth_ok (c.d.fact 7 (f := .meth "Post" "outbox") rfl)
    F_Post_answers := F_Post_answers
    b_Post_answers := F_Post_answers.bindsN (ps := ["self"]) fun _ _ _ _ _ _ us hl => match us, hl with | [_], _ => rfl
    m_Post_answers := He.meth_ok (c.d.fact 8 (f := .meth "Post" "answers") rfl)
    F_Post_image := F_Post_image
    b_Post_image := F_Post_image.bindsN (ps := ["self"]) fun _ _ _ _ _ _ us hl => match us, hl with | [_], _ => rfl
    m_Post_image := He.meth_ok (c.d.fact 9 (f := .meth "Post" "image") rfl)
    F_tells := F_tells
    b_tells := F_tells.bindsN (ps := ["told", "number"]) fun _ _ _ _ _ _ us hl => match us, hl with | [_, _], _ => rfl
    g_tells := He.glo_ok X G (c.d.fact 10 (f := .glo "_tells") rfl)
    F_with_number := F_with_number
    b_with_number := F_with_number.bindsN (ps := ["told", "number"]) fun _ _ _ _ _ _ us hl => match us, hl with | [_, _], _ => rfl
    g_with_number := He.glo_ok X G (c.d.fact 11 (f := .glo "_with_number") rfl)
    F_lw_numbers := F_lw_numbers
    b_lw_numbers := F_lw_numbers.bindsN (ps := ["script", "many"]) fun _ _ _ _ _ _ us hl => match us, hl with | [_, _], _ => rfl
    g_lw_numbers := He.glo_ok X G (c.d.fact 12 (f := .glo "_law_numbers") rfl)
    F_lw_pair := F_lw_pair
    b_lw_pair := F_lw_pair.bindsN (ps := ["taken"]) fun _ _ _ _ _ _ us hl => match us, hl with | [_], _ => rfl
    g_lw_pair := He.glo_ok X G (c.d.fact 13 (f := .glo "_law_pair") rfl)
    F_lw_fits := F_lw_fits
    b_lw_fits := F_lw_fits.bindsN (ps := ["post", "me", "box", "following", "taken"]) fun _ _ _ _ _ _ us hl => match us, hl with | [_, _, _, _, _], _ => rfl
    g_lw_fits := He.glo_ok X G (c.d.fact 14 (f := .glo "_law_fits") rfl)
    F_lw_told_by := F_lw_told_by
    b_lw_told_by := F_lw_told_by.bindsN (ps := ["low", "beyond", "number"]) fun _ _ _ _ _ _ us hl => match us, hl with | [_, _, _], _ => rfl
    g_lw_told_by := He.glo_ok X G (c.d.fact 15 (f := .glo "_law_told_by") rfl)
    F_law := F_law
    b_law := F_law.bindsN (ps := ["script"]) fun _ _ _ _ _ _ us hl => match us, hl with | [_], _ => rfl
    g_law := He.glo_ok X G (c.d.fact 16 (f := .glo "law") rfl)
    g_PortError := He.glo_ok X G (c.d.fact 17 (f := .glo "PortError") rfl)
    g_NotAllowed := He.glo_ok X G (c.d.fact 18 (f := .glo "NotAllowed") rfl)
    g_Post := He.glo_ok X G (c.d.fact 19 (f := .glo "Post") rfl)
    c_Post := He.cls_ok (c.d.fact 20 (f := .cls "Post") rfl)
    n_Post__me := He.noat_ok (c.d.fact 21 (f := .noat "Post" "_me") rfl)
    n_Post__letters := He.noat_ok (c.d.fact 22 (f := .noat "Post" "_letters") rfl)
    n_Post__numbers := He.noat_ok (c.d.fact 23 (f := .noat "Post" "_numbers") rfl)
    n_Post__heard := He.noat_ok (c.d.fact 24 (f := .noat "Post" "_heard") rfl)
    g_tuple := He.free_ok X G (c.d.fact 25 (f := .free "tuple") rfl)
    g_sorted := He.free_ok X G (c.d.fact 26 (f := .free "sorted") rfl)
    g_len := He.free_ok X G (c.d.fact 27 (f := .free "len") rfl)
    g_range := He.free_ok X G (c.d.fact 28 (f := .free "range") rfl)
    g_abs := He.free_ok X G (c.d.fact 29 (f := .free "abs") rfl)
    g_max := He.free_ok X G (c.d.fact 30 (f := .free "max") rfl)
    g_int := He.free_ok X G (c.d.fact 31 (f := .free "int") rfl)
    g_isinstance := He.free_ok X G (c.d.fact 32 (f := .free "isinstance") rfl)
    g_bool := He.free_ok X G (c.d.fact 33 (f := .free "bool") rfl)
    x_NotAllowed := o0
    k_NotAllowed := o1
    s_NotAllowed := eq_of_beq o2
    t_NotAllowed := eq_of_beq o3
  }
  have b := Cm.bindsA_of (x := "law") (st := s_law) (ps := ["script"]) F_law fun _ _ _ _ _ _ us hl => match us, hl with | [_], _ => rfl
  exact ⟨d_law, fun s v => b s [v] rfl, fun base _ _ => ok_law T⟩
end K40
open PySem PySem.W PySem.Calls PyProof.Rows
set_option maxHeartbeats 0 in
theorem PySem.Challenge.cw_portage_k40_numbers_and_new_letters_holds : PySem.Challenge.rw_portage_k40_numbers_and_new_letters.Holds := by
  w_on; o_law
  refine HandSHeadRun.head_any (r := OpenLaw.row PySem.Challenge.rw_portage_k40_numbers_and_new_letters) (q := view (OpenLaw.row PySem.Challenge.rw_portage_k40_numbers_and_new_letters).prog [13]) (H := K40.hk) (ob := K40.ob) (M := 4000) (loose := K40.loose) (d := HandSHeadRun.topDef (OpenLaw.row PySem.Challenge.rw_portage_k40_numbers_and_new_letters).prog 13) (kwd := []) K40.ob_eq
    (by kernel_rfl) (fun s => by kernel_rfl) K40.run (by kernel_rfl) (by kernel_rfl) (by kernel_rfl) (by rfl) (by first | assumption | decide +kernel) (by decide +kernel) ⟨rfl, rfl, rfl, rfl, rfl, by decide +kernel⟩ ?hw ?hc
  case hw => w_witness2
  case hc =>
    refine L2.walk_ofE (l := PySem.Challenge.rw_portage_k40_numbers_and_new_letters) (n := 63) (k := 6) (x := "script") (CX := L2.CX0) rfl (by decide) (by kernel_rfl) ⟨rfl, by decide, by decide⟩ ?F (fun _ _ _ _ z => z)
    intro w mg fa h Y G hmg0
    obtain ⟨K, KX, ok, c⟩ := Y
    have hmg : mg ("law" : PySem.Str) = some (.ref fa) := by
      have e : (HandSHeadRun.topDef (OpenLaw.row PySem.Challenge.rw_portage_k40_numbers_and_new_letters).prog 13).name = ("law" : PySem.Str) := by kernel_rfl
      rw [← e]
      exact hmg0
    obtain ⟨fd, hb, hF⟩ := K40.facts (P := (PySem.Challenge.rw_portage_k40_numbers_and_new_letters).prog) (w := w) KX G hmg ok c
    exact ⟨K, fd, K40.spLaw K, KX, hb, fun H a ns hl _ hS => ⟨a, ns, rfl, hS, hl, fun _ => rfl⟩, hF⟩

