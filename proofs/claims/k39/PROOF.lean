import PyProof.Rows.All
import Wide.All
import OpenK.AllK
import Wide.FinOn
import KE.KStateDown
import Lean
import HandS.ForMost
import HandS.Defaults
import HandS.More
import HandS.Flow
import HandS.Style
import HandS.StrMore
import HandS.IsInst
import HandS.TupAny
import HandS.TupMul
import HandS.Head0
import HandS.Head1
import HandS.Head2
import HandS.HeadEnd
import HandS.HeadHook1
import HandS.HeadHook2
import HandS.HeadHook3
import KE.KeyNested
import PyProof.DictMoreH
import KE.KTupSum
import HandS.ExcOwn
import HandS.WordsExc
import KE.SortCalls
import KE.SortKeyed
import KE.KDictCopyH
import KE.KDictSum
import HandS.Codes
import HandS.ExcIs
import HandS.RaiseMore
import PySem.Challenge.RW_portage_k39_bodies_of_letters
set_option Elab.async false
set_option linter.all false
set_option maxRecDepth 100000
set_option maxHeartbeats 4000000
/-! What my proofs have in common: a Hook with one more test, and small words. -/
namespace Cm
open PySem PySem.Spec PyProof.Rows L2 He

abbrev FnP (K : PySem.W.Frag) (x : Str) (st : Stmt) (f : Addr) (fd : FuncData) : Prop := FunD K x x (defArgs st) (defBody st) (defScope st) [] [] f fd
theorem bindsA_of {K : PySem.W.Frag} {x : Str} {st : Stmt} {f : Addr} {fd : FuncData} {ps : List Str} (F : FnP K x st f fd)
    (h : ∀ (kV doc pm : Value) (an : Option Addr) (cdv ct : Value) (us : List Value), us.length = ps.length → bindArgs (PySem.W.fnOf x x (defArgs st) (defBody st) (defScope st) .none kV doc pm an cdv ct) ⟨us, []⟩ = pure (ps.zip us)) (s : Shared) (us : List Value) (hl : us.length = ps.length) : BindsTo s fd ⟨us, []⟩ (ps.zip us) := FunD.bindsA F h s us hl

/-! ### heaps that grow -/
theorem same_new {H : Hp} {p : Addr} {o : HO} (h : H p = none) : Same H (upd H p o) := fun b x e => by
  rw [upd_ne (ne_of_none e h)]
  exact e
theorem same_mut {H H' : Hp} {p : Addr} {o : HO} (s : Same H H') (h : H p = none) : Same H (upd H' p o) := fun b x e => by
  rw [upd_ne (ne_of_none e h)]
  exact s b x e
theorem sameT {K : PySem.W.Frag} {H H' : Hp} {a : Addr} {xs : List V} (s : Same H H') (h : SqT K H a xs) : SqT K H' a xs := by
  rcases h with (h | ⟨o, h⟩) | h
  · exact .inl (.inl (s _ _ h))
  · exact .inl (.inr ⟨o, s _ _ h⟩)
  · exact .inr h
theorem sqt_new {K : PySem.W.Frag} {H : Hp} {p : Addr} {xs : List V} : SqT K (upd H p (.tup xs)) p xs := .inl (.inl upd_same)
theorem sql_new {K : PySem.W.Frag} {H : Hp} {p : Addr} {xs : List V} : SqL K (upd H p (.lst xs)) p xs := .inl (.inl upd_same)
theorem small {n : Nat} (h : n ≤ 100000) : n ≤ sizeLine := by
  rw [sizeLine_eq]
  omega
theorem smallL {n : Nat} (h : n ≤ 100000) : n < sizeLine := by
  rw [sizeLine_eq]
  omega
/-! ### tests -/
theorem itV {x : Bool} {A B : Prop} (h1 : x = true → A) (h2 : x = false → B) : if (if false = true then !x else x) = true then A else B := by
  cases x
  · exact h2 rfl
  · exact h1 rfl
theorem itVn {x : Bool} {A B : Prop} (h1 : x = false → A) (h2 : x = true → B) : if (if true = true then !x else x) = true then A else B := by
  cases x
  · exact h1 rfl
  · exact h2 rfl
theorem itB {x : Bool} {A B : Prop} (h1 : x = true → A) (h2 : x = false → B) : if x = true then A else B := by
  cases x
  · exact h2 rfl
  · exact h1 rfl
theorem itBn {x : Bool} {A B : Prop} (h1 : x = false → A) (h2 : x = true → B) : if (!x) = true then A else B := by
  cases x
  · exact h1 rfl
  · exact h2 rfl
theorem itD {c : Prop} [Decidable c] {A B : Prop} (h1 : c → A) (h2 : ¬ c → B) : if decide c = true then A else B := by
  by_cases h : c
  · rw [if_pos (decide_eq_true h)]
    exact h1 h
  · rw [if_neg (by rw [decide_eq_false h]; decide)]
    exact h2 h
theorem itDn {c : Prop} [Decidable c] {A B : Prop} (h1 : ¬ c → A) (h2 : c → B) : if (!decide c) = true then A else B := by
  by_cases h : c
  · rw [if_neg (by rw [decide_eq_true h]; decide)]
    exact h2 h
  · rw [if_pos (by rw [decide_eq_false h]; rfl)]
    exact h1 h
theorem deq_int {i j : Int} : decide (V.int i = V.int j) = decide (i = j) := by
  by_cases h : i = j
  · rw [h, decide_eq_true rfl, decide_eq_true rfl]
  · rw [decide_eq_false h, decide_eq_false fun e => h (V.int.inj e)]
theorem deq_str {x y : Str} : decide (V.str x = V.str y) = decide (x = y) := by
  by_cases h : x = y
  · rw [h, decide_eq_true rfl, decide_eq_true rfl]
  · rw [decide_eq_false h, decide_eq_false fun e => h (V.str.inj e)]
theorem deq_bl {x y : Bool} : decide (V.bl x = V.bl y) = decide (x = y) := by
  by_cases h : x = y
  · rw [h, decide_eq_true rfl, decide_eq_true rfl]
  · rw [decide_eq_false h, decide_eq_false fun e => h (V.bl.inj e)]
theorem itEI {x y : Int} {A B : Prop} (h1 : x = y → A) (h2 : ¬ x = y → B) : if decide (V.int x = V.int y) = true then A else B := by
  rw [deq_int]
  exact itD h1 h2
theorem itES {x y : Str} {A B : Prop} (h1 : x = y → A) (h2 : ¬ x = y → B) : if decide (V.str x = V.str y) = true then A else B := by
  rw [deq_str]
  exact itD h1 h2
theorem itNI {x y : Int} {A B : Prop} (h1 : ¬ x = y → A) (h2 : x = y → B) : if (!decide (V.int x = V.int y)) = true then A else B := by
  rw [deq_int]
  exact itDn h1 h2
theorem itNS {x y : Str} {A B : Prop} (h1 : ¬ x = y → A) (h2 : x = y → B) : if (!decide (V.str x = V.str y)) = true then A else B := by
  rw [deq_str]
  exact itDn h1 h2
theorem str_nil {z : Str} (h : z.cps.toList = []) : z = ⟨#[]⟩ := by
  obtain ⟨c⟩ := z
  have e : c = #[] := by simpa using h
  rw [e]
/-! ### items -/
theorem at_in {xs : List V} {i : Int} (h0 : 0 ≤ i) (h1 : i < (xs.length : Int)) : ∃ v, v ∈ xs ∧ atI xs i = some v := by
  obtain ⟨j, rfl⟩ := Int.eq_ofNat_of_zero_le h0
  have h2 : j < xs.length := by omega
  exact ⟨xs[j], List.getElem_mem h2, atI_nat (List.getElem?_eq_getElem h2)⟩
theorem at_str {ws : List Str} {i : Int} (h0 : 0 ≤ i) (h1 : i < (ws.length : Int)) : ∃ w, w ∈ ws ∧ atI (ws.map V.str) i = some (.str w) := by
  obtain ⟨v, hv, e⟩ := at_in (xs := ws.map V.str) h0 (by rw [List.length_map]; exact h1)
  obtain ⟨w, hw, rfl⟩ := List.mem_map.mp hv
  exact ⟨w, hw, e⟩
theorem at_int {ns : List Int} {i : Int} (h0 : 0 ≤ i) (h1 : i < (ns.length : Int)) : ∃ n, n ∈ ns ∧ atI (ns.map V.int) i = some (.int n) := by
  obtain ⟨v, hv, e⟩ := at_in (xs := ns.map V.int) h0 (by rw [List.length_map]; exact h1)
  obtain ⟨n, hn, rfl⟩ := List.mem_map.mp hv
  exact ⟨n, hn, e⟩
/-! ### a Hook with one more test -/
abbrev AlX : Type := Bool × AlT
def obsX (fa : List Fa) (fn : List DefD) (ts : List Tab) (ok : PySem.W.Frag → Bool) (K : PySem.W.Frag) : AlX := (ok K, obsT fa fn ts K)
def obsXG (n : Nat) (fa : List Fa) (fn : List DefD) (ts : List Tab) (ok : PySem.W.Frag → Bool) (g : Addr → Option Obj) : AlX := obsX fa fn ts ok (frG g (asD g n))
def hookX (n : Nat) (fa : List Fa) (fn : List DefD) (ts : List Tab) (ok : PySem.W.Frag → Bool) : PySem.W.Hook where
  α := AlX
  obs := fun s => obsXG n fa fn ts ok s.heap.get?
  val := fun w => (true, valT fn ts w)
  says := fun w h => ∃ K : PySem.W.Frag, K.In h ∧ ok K = true ∧ SaysT fa fn ts w K
  of := fun w s e => ⟨frG s.heap.get? (asD s.heap.get? n), frG_in, congrArg (fun z : AlX => z.1) e, congrArg (fun z : AlX => z.2) e⟩
  keeps := fun _ _ _ ⟨K, hK, o, c⟩ k => ⟨K, PySem.W.Frag.In.keeps hK k, o, c⟩
theorem obsXG_eq {n : Nat} {fa : List Fa} {fn : List DefD} {ts : List Tab} {ok : PySem.W.Frag → Bool} {g : Addr → Option Obj} {s : Shared} (h : ∀ a, g a = s.heap.get? a) : obsXG n fa fn ts ok g = (hookX n fa fn ts ok).obs s := by
  have e : g = s.heap.get? := funext h
  rw [e] <;> rfl
end Cm

set_option Elab.async false
set_option linter.all false
set_option maxRecDepth 100000
set_option maxHeartbeats 4000000
/-! Program trees: expressions, statements, what they are as data, their code. No word of any one statement here. -/
namespace Pt
open PySem PySem.Spec PyProof.Rows L2

/-! ### data that never changes: numbers, texts, truth values, tuples of such -/
mutual
inductive Rp (K : PySem.W.Frag) (H : Hp) : V → PyData → Prop
  | non : Rp K H .non .none
  | bl (b : Bool) : Rp K H (.bl b) (.bool b)
  | int (i : Int) : Rp K H (.int i) (.int i)
  | str (x : Str) : Rp K H (.str x) (.str x)
  | tup {a : Addr} {xs : List V} {ds : List PyData} : SqT K H a xs → Rps K H xs ds → Rp K H (.ref a) (.tuple ds)
inductive Rps (K : PySem.W.Frag) (H : Hp) : List V → List PyData → Prop
  | nil : Rps K H [] []
  | cons {v : V} {vs : List V} {d : PyData} {ds : List PyData} : Rp K H v d → Rps K H vs ds → Rps K H (v :: vs) (d :: ds)
end
/-- all that was tracked stays, but what stands at c -/
def Keep (c : Addr) (H H' : Hp) : Prop := ∀ b o, H b = some o → b ≠ c → H' b = some o
theorem Keep.refl (c : Addr) (H : Hp) : Keep c H H := fun _ _ h _ => h
theorem Keep.trans {c : Addr} {H H1 H2 : Hp} (a : Keep c H H1) (b : Keep c H1 H2) : Keep c H H2 := fun x o h n => b x o (a x o h n) n
theorem Keep.of {c : Addr} {H H' : Hp} (s : Same H H') : Keep c H H' := fun b o h _ => s b o h
/-- what was tracked and is no list stays -/
def Tups (H H' : Hp) : Prop := ∀ b o, H b = some o → (∀ xs, o ≠ .lst xs) → H' b = some o
theorem Same.tups {H H' : Hp} (s : Same H H') : Tups H H' := fun b o h _ => s b o h
theorem Keep.tups {c : Addr} {H H' : Hp} {xs : List V} (k : Keep c H H') (h : H c = some (.lst xs)) : Tups H H' := fun b o hb no => k b o hb fun e => by
  subst e
  rw [h] at hb
  exact no xs (Option.some.inj hb).symm
section
variable {K : PySem.W.Frag} {H H' : Hp}
theorem Tups.sqt (k : Tups H H') {a : Addr} {xs : List V} (h : SqT K H a xs) : SqT K H' a xs := by
  rcases h with (h | ⟨o, h⟩) | h
  · exact .inl (.inl (k _ _ h fun _ e => by cases e))
  · exact .inl (.inr ⟨o, k _ _ h fun _ e => by cases e⟩)
  · exact .inr h
mutual
theorem Rp.keep (k : Tups H H') : ∀ {v : V} {d : PyData}, Rp K H v d → Rp K H' v d
  | _, _, .non => .non
  | _, _, .bl b => .bl b
  | _, _, .int i => .int i
  | _, _, .str x => .str x
  | _, _, .tup h r => .tup (k.sqt h) (Rps.keep k r)
theorem Rps.keep (k : Tups H H') : ∀ {vs : List V} {ds : List PyData}, Rps K H vs ds → Rps K H' vs ds
  | _, _, .nil => .nil
  | _, _, .cons h r => .cons (Rp.keep k h) (Rps.keep k r)
end
mutual
theorem Rp.dp : ∀ {v : V} {d : PyData}, Rp K H v d → Dp K H v d
  | _, _, .non => .non
  | _, _, .bl b => .bl b
  | _, _, .int i => .int i
  | _, _, .str x => .str x
  | _, _, .tup h r => .tup h (Rps.dp r)
theorem Rps.dp : ∀ {vs : List V} {ds : List PyData}, Rps K H vs ds → DpAll K H vs ds
  | _, _, .nil => .nil
  | _, _, .cons h r => .cons (Rp.dp h) (Rps.dp r)
end
theorem Rps.len : ∀ {vs : List V} {ds : List PyData}, Rps K H vs ds → vs.length = ds.length
  | _, _, .nil => rfl
  | _, _, .cons _ r => congrArg (· + 1) (Rps.len r)
theorem Rps.app : ∀ {vs us : List V} {ds es : List PyData}, Rps K H vs ds → Rps K H us es → Rps K H (vs ++ us) (ds ++ es)
  | _, _, _, _, .nil, r => r
  | _, _, _, _, .cons h r, s => .cons h (Rps.app r s)
theorem Rps.at_ : ∀ {vs : List V} {ds : List PyData} {i : Nat} {d : PyData}, Rps K H vs ds → ds[i]? = some d → ∃ v, vs[i]? = some v ∧ Rp K H v d
  | _, _, 0, _, .cons h _, e => ⟨_, rfl, by cases e; exact h⟩
  | _, _, i + 1, _, .cons _ r, e => Rps.at_ (i := i) r e
theorem Rps.drop : ∀ {vs : List V} {ds : List PyData} (n : Nat), Rps K H vs ds → Rps K H (vs.drop n) (ds.drop n)
  | _, _, 0, r => r
  | _, _, _ + 1, .nil => .nil
  | _, _, n + 1, .cons _ r => Rps.drop n r
theorem Rps.take : ∀ {vs : List V} {ds : List PyData} (n : Nat), Rps K H vs ds → Rps K H (vs.take n) (ds.take n)
  | _, _, 0, _ => .nil
  | _, _, _ + 1, .nil => .nil
  | _, _, n + 1, .cons h r => .cons h (Rps.take n r)
theorem Rps.one {v : V} {d : PyData} (h : Rp K H v d) : Rps K H [v] [d] := .cons h .nil
theorem Rp.tup_inv {v : V} {ds : List PyData} (h : Rp K H v (.tuple ds)) : ∃ a vs, v = .ref a ∧ SqT K H a vs ∧ Rps K H vs ds := by
  cases h with
  | tup h r => exact ⟨_, _, rfl, h, r⟩
theorem Rp.str_inv {v : V} {x : Str} (h : Rp K H v (.str x)) : v = .str x := by
  cases h
  rfl
theorem Rp.int_inv {v : V} {i : Int} (h : Rp K H v (.int i)) : v = .int i := by
  cases h
  rfl
theorem Rp.bl_inv {v : V} {b : Bool} (h : Rp K H v (.bool b)) : v = .bl b := by
  cases h
  rfl
theorem Rps.cons_inv {vs : List V} {d : PyData} {ds : List PyData} (h : Rps K H vs (d :: ds)) : ∃ v r, vs = v :: r ∧ Rp K H v d ∧ Rps K H r ds := by
  cases h with
  | cons a b => exact ⟨_, _, rfl, a, b⟩
theorem Rps.nil_inv {vs : List V} (h : Rps K H vs []) : vs = [] := by
  cases h
  rfl
theorem Rp.new {p : Addr} {vs : List V} {ds : List PyData} (h : H' p = some (.tup vs)) (r : Rps K H' vs ds) : Rp K H' (.ref p) (.tuple ds) := .tup (.inl (.inl h)) r
/-- a new tuple of what stood before -/
theorem Rp.made {p : Addr} {vs : List V} {ds : List PyData} (hp : H p = none) (r : Rps K H vs ds) : Rp K (upd H p (.tup vs)) (.ref p) (.tuple ds) := .tup (.inl (.inl upd_same)) (r.keep (Same.tups (Cm.same_new hp)))
/-- a list stays where its content is another than c's -/
theorem Keep.seq {c a : Addr} {xs ys : List V} (k : Keep c H H') (hc : H c = some (.lst ys)) (ne : xs ≠ ys) (h : SqL K H a xs) : SqL K H' a xs := by
  rcases h with (h | ⟨o, h⟩) | h
  · refine .inl (.inl (k _ _ h fun e => ?_))
    rw [e, hc] at h
    cases h
    exact ne rfl
  · refine .inl (.inr ⟨o, k _ _ h fun e => ?_⟩)
    rw [e, hc] at h
    cases h
  · exact .inr h
end

/-- tuple + tuple -/
theorem cat_rp {K : PySem.W.Frag} {H : Hp} {x y : V} {ds es : List PyData} {Q : VK} (hx : Rp K H x (.tuple ds)) (hy : Rp K H y (.tuple es)) (hl : ds.length + es.length ≤ 10000000) (h : ∀ (v : V) (H' : Hp), Same H H' → Rp K H' v (.tuple (ds ++ es)) → Q v H') : rCatA K x y H Q := by
  obtain ⟨a, xs, rfl, ha, hxs⟩ := hx.tup_inv
  obtain ⟨b, ys, rfl, hb, hys⟩ := hy.tup_inv
  refine ⟨a, b, xs, ys, rfl, rfl, ha, hb, ?_, fun e => ?_, fun _ e => ?_, fun _ _ p np => ?_⟩
  · rw [hxs.len, hys.len, sizeLine_eq]
    omega
  · subst e
    cases hxs
    exact h _ _ (Same.refl H) hy
  · subst e
    cases hys
    rw [List.append_nil] at h
    exact h _ _ (Same.refl H) hx
  · exact h _ _ (Cm.same_new np) (Rp.made np (hxs.app hys))
/-- a tuple from a place on -/
theorem from_rp {K : PySem.W.Frag} {H : Hp} {x : V} {ds : List PyData} {k : Nat} {Q : VK} (hx : Rp K H x (.tuple ds)) (hk : k ≤ ds.length) (h : ∀ (v : V) (H' : Hp), Same H H' → Rp K H' v (.tuple (ds.drop k)) → Q v H') : rSlA K x (some (k : Int)) none H Q := by
  obtain ⟨a, xs, rfl, ha, hxs⟩ := hx.tup_inv
  have hl := hxs.len
  have e0 : HT.sIx xs.length 0 (some (k : Int)) = k := by
    rw [show HT.sIx xs.length 0 (some (k : Int)) = min k xs.length from HT.sIx_nat _ 0 k]
    omega
  refine ⟨a, xs, rfl, ha, fun e => ?_, fun _ p np => ?_⟩
  · have z := e.1
    rw [e0] at z
    subst z
    exact h _ _ (Same.refl H) hx
  · have ec : cutV xs (some (k : Int)) none = xs.drop k := by
      unfold cutV
      rw [e0, HT.sIx_none]
      exact List.take_of_length_le (by rw [List.length_drop]; exact Nat.le_refl _)
    rw [ec]
    exact h _ _ (Cm.same_new np) (Rp.made np (hxs.drop k))
/-! ### equality of data is reflexive; its form -/
/-- numbers, texts, truth values, None -/
def leafD : PyData → Bool
  | .none => true
  | .bool _ => true
  | .int _ => true
  | .str _ => true
  | _ => false

/-! ### expressions and statements -/
mutual
inductive E where
  | int (n : Int)
  | name (x : Str)
  | choice (o : Bool) (l r : E)
  | call (r : E) (f : Str) (as : Es)
  | new (m : Str) (as : Es)
  | plain (w : Str) (as : Es)
inductive Es where
  | nil
  | cons (e : E) (es : Es)
end
mutual
inductive S where
  | letS (x k : Str) (e : E)
  | setS (x : Str) (e : E)
  | ifS (e : E) (b c : Ss)
  | whileS (e : E) (b : Ss)
  | doS (e : E)
  | fork (r : E) (f : Str) (as : Es)
  | plain (w : Str) (as : Es)
inductive Ss where
  | nil
  | cons (s : S) (ss : Ss)
end
def cw (o : Bool) : Str := if o then "or" else "and"
mutual
def E.d : E → PyData
  | .int n => .tuple [.str "int", .int n]
  | .name x => .tuple [.str "name", .str x]
  | .choice o l r => .tuple [.str (cw o), l.d, r.d]
  | .call r f as => .tuple [.str "call", r.d, .str f, .tuple as.ds]
  | .new m as => .tuple [.str "new", .str m, .tuple as.ds]
  | .plain w as => .tuple (.str w :: as.ds)
def Es.ds : Es → List PyData
  | .nil => []
  | .cons e es => e.d :: es.ds
end
mutual
def S.d : S → PyData
  | .letS x k e => .tuple [.str "let", .str x, .str k, e.d]
  | .setS x e => .tuple [.str "set", .str x, e.d]
  | .ifS e b c => .tuple [.str "if", e.d, .tuple b.ds, .tuple c.ds]
  | .whileS e b => .tuple [.str "while", e.d, .tuple b.ds]
  | .doS e => .tuple [.str "do", e.d]
  | .fork r f as => .tuple [.str "fork", r.d, .str f, .tuple as.ds]
  | .plain w as => .tuple (.str w :: as.ds)
def Ss.ds : Ss → List PyData
  | .nil => []
  | .cons s ss => s.d :: ss.ds
end
def Es.list : Es → List E
  | .nil => []
  | .cons e es => e :: es.list
def Ss.list : Ss → List S
  | .nil => []
  | .cons s ss => s :: ss.list
def Ss.of : List S → Ss
  | [] => .nil
  | s :: ss => .cons s (Ss.of ss)
def Ss.app : Ss → Ss → Ss
  | .nil, c => c
  | .cons s b, c => .cons s (b.app c)
def Es.len : Es → Nat
  | .nil => 0
  | .cons _ es => es.len + 1
theorem Es.ds_len : ∀ es : Es, es.ds.length = es.len
  | .nil => rfl
  | .cons _ es => congrArg (· + 1) (Es.ds_len es)
theorem Es.list_ds : ∀ es : Es, es.ds = es.list.map E.d
  | .nil => rfl
  | .cons _ es => congrArg (_ :: ·) (Es.list_ds es)
theorem Ss.list_ds : ∀ es : Ss, es.ds = es.list.map S.d
  | .nil => rfl
  | .cons _ es => congrArg (_ :: ·) (Ss.list_ds es)
theorem Ss.app_ds : ∀ b c : Ss, (b.app c).ds = b.ds ++ c.ds
  | .nil, _ => rfl
  | .cons _ b, c => congrArg (_ :: ·) (Ss.app_ds b c)
theorem Ss.app_list : ∀ b c : Ss, (b.app c).list = b.list ++ c.list
  | .nil, _ => rfl
  | .cons _ b, c => congrArg (_ :: ·) (Ss.app_list b c)
theorem Ss.of_list : ∀ l : List S, (Ss.of l).list = l
  | [] => rfl
  | _ :: l => congrArg (_ :: ·) (Ss.of_list l)
/-! ### the names that are used; the names of lets -/
mutual
def E.uses : E → List Str
  | .int _ => []
  | .name x => [x]
  | .choice _ l r => l.uses ++ r.uses
  | .call r _ as => r.uses ++ as.uses
  | .new _ as => as.uses
  | .plain _ as => as.uses
def Es.uses : Es → List Str
  | .nil => []
  | .cons e es => e.uses ++ es.uses
end
mutual
def S.uses : S → List Str
  | .letS x _ e => x :: e.uses
  | .setS x e => x :: e.uses
  | .ifS e b c => e.uses ++ (b.uses ++ c.uses)
  | .whileS e b => e.uses ++ b.uses
  | .doS e => e.uses
  | .fork r _ as => r.uses ++ as.uses
  | .plain _ as => as.uses
def Ss.uses : Ss → List Str
  | .nil => []
  | .cons s ss => s.uses ++ ss.uses
end
mutual
def S.lets : S → List Str
  | .letS x _ _ => [x]
  | .ifS _ b c => b.lets ++ c.lets
  | .whileS _ b => b.lets
  | _ => []
def Ss.lets : Ss → List Str
  | .nil => []
  | .cons s ss => s.lets ++ ss.lets
end
theorem Ss.app_lets : ∀ b c : Ss, (b.app c).lets = b.lets ++ c.lets
  | .nil, _ => rfl
  | .cons s b, c => by
    show s.lets ++ (b.app c).lets = (s.lets ++ b.lets) ++ c.lets
    rw [Ss.app_lets b c, List.append_assoc]
theorem Ss.app_uses : ∀ b c : Ss, (b.app c).uses = b.uses ++ c.uses
  | .nil, _ => rfl
  | .cons s b, c => by
    show s.uses ++ (b.app c).uses = (s.uses ++ b.uses) ++ c.uses
    rw [Ss.app_uses b c, List.append_assoc]
/-! ### words in their places -/
abbrev plainE : List Str := ["nil", "self", "add", "sub", "mul", "less", "most", "same", "not"]
abbrev leafE : List Str := ["nil", "self"]
def Es.isNil : Es → Bool
  | .nil => true
  | .cons _ _ => false
abbrev plainB : List Str := ["return", "print", "move"]
/-- how many parts stand behind a word -/
def arE (w : Str) : Nat := if w ∈ leafE then 0 else if w = "not" then 1 else 2
def arB (w : Str) : Nat := if w = "move" then 2 else 1
mutual
def E.wf : E → Bool
  | .int _ => true
  | .name _ => true
  | .choice _ l r => l.wf && r.wf
  | .call r _ as => r.wf && as.wf
  | .new _ as => as.wf
  | .plain w as => (decide (w ∈ plainE) && decide (as.len = arE w)) && as.wf
def Es.wf : Es → Bool
  | .nil => true
  | .cons e es => e.wf && es.wf
end
mutual
def S.wf : S → Bool
  | .letS _ _ e => e.wf
  | .setS _ e => e.wf
  | .ifS e b c => e.wf && (b.wf && c.wf)
  | .whileS e b => e.wf && b.wf
  | .doS e => e.wf
  | .fork r _ as => r.wf && as.wf
  | .plain w as => (decide (w ∈ plainB) && decide (as.len = arB w)) && as.wf
def Ss.wf : Ss → Bool
  | .nil => true
  | .cons s ss => s.wf && ss.wf
end
theorem Ss.app_wf : ∀ b c : Ss, (b.app c).wf = (b.wf && c.wf)
  | .nil, _ => rfl
  | .cons s b, c => by
    show (s.wf && (b.app c).wf) = ((s.wf && b.wf) && c.wf)
    rw [Ss.app_wf b c, Bool.and_assoc]
theorem and2 {a b : Bool} (h1 : a = true) (h2 : b = true) : (a && b) = true := by rw [h1, h2]; rfl
theorem wfP {w : Str} {e : E} {as : Es} (h1 : decide (w ∈ plainB) = true) (h3 : (Es.cons e as).len = arB w) (h2 : (Es.cons e as).wf = true) : (S.plain w (.cons e as)).wf = true := and2 (and2 h1 (decide_eq_true h3)) h2
theorem ar_nil {w : Str} (h : decide (0 = arE w) = true) : w ∈ leafE := by
  by_cases e : w ∈ leafE
  · exact e
  · have h' := of_decide_eq_true h
    unfold arE at h'
    rw [if_neg e] at h'
    split at h' <;> omega
theorem ar_some {w : Str} {n : Nat} (h : decide (n + 1 = arE w) = true) : ¬ w ∈ leafE := fun e => by
  have h' := of_decide_eq_true h
  unfold arE at h'
  rw [if_pos e] at h'
  omega
theorem wfW {e : E} {b : Ss} (h1 : e.wf = true) (h2 : b.wf = true) : (S.whileS e b).wf = true := and2 h1 h2
theorem wfC {e : E} {es : Es} (h1 : e.wf = true) (h2 : es.wf = true) : (Es.cons e es).wf = true := and2 h1 h2
theorem wfSs {e : S} {es : Ss} (h1 : e.wf = true) (h2 : es.wf = true) : (Ss.cons e es).wf = true := and2 h1 h2
/-! ### depth -/
mutual
def E.dep : E → Nat
  | .int _ => 0
  | .name _ => 0
  | .choice _ l r => max l.dep r.dep + 1
  | .call r _ as => max r.dep as.dep + 1
  | .new _ as => as.dep + 1
  | .plain _ as => as.dep + 1
def Es.dep : Es → Nat
  | .nil => 0
  | .cons e es => max e.dep es.dep
end
mutual
def S.dep : S → Nat
  | .letS _ _ e => e.dep + 1
  | .setS _ e => e.dep + 1
  | .ifS e b c => max e.dep (max b.dep c.dep) + 1
  | .whileS e b => max e.dep b.dep + 1
  | .doS e => e.dep + 1
  | .fork r _ as => max r.dep as.dep + 1
  | .plain _ as => as.dep + 1
def Ss.dep : Ss → Nat
  | .nil => 0
  | .cons s ss => max s.dep ss.dep
end
/-! ### the number of instructions -/
mutual
def E.sz : E → Nat
  | .int _ => 1
  | .name _ => 1
  | .choice o l r => l.sz + r.sz + (if o then 2 else 0) + 5
  | .call r _ as => r.sz + as.sz + 1
  | .new _ as => as.sz + 1
  | .plain _ as => as.sz + 1
def Es.sz : Es → Nat
  | .nil => 0
  | .cons e es => e.sz + es.sz
end
mutual
def S.sz : S → Nat
  | .letS _ _ e => e.sz + 1
  | .setS _ e => e.sz + 1
  | .ifS e b c => e.sz + 1 + b.sz + (match c with | .nil => 0 | .cons _ _ => 1) + c.sz
  | .whileS e b => e.sz + b.sz + 2
  | .doS e => e.sz + 1
  | .fork r _ as => r.sz + as.sz + 1
  | .plain _ as => as.sz + 1
def Ss.sz : Ss → Nat
  | .nil => 0
  | .cons s ss => s.sz + ss.sz
end
theorem Ss.app_dep : ∀ b c : Ss, (b.app c).dep = max b.dep c.dep
  | .nil, _ => (Nat.zero_max _).symm
  | .cons s b, c => by
    show max s.dep (b.app c).dep = max (max s.dep b.dep) c.dep
    rw [Ss.app_dep b c, Nat.max_assoc]
theorem Ss.app_sz : ∀ b c : Ss, (b.app c).sz = b.sz + c.sz
  | .nil, _ => (Nat.zero_add _).symm
  | .cons s b, c => by
    show s.sz + (b.app c).sz = (s.sz + b.sz) + c.sz
    rw [Ss.app_sz b c, Nat.add_assoc]
/-! ### code -/
def I1 (x : Str) : PyData := .tuple [.str x]
def I2 (x : Str) (n : Int) : PyData := .tuple [.str x, .int n]
def I3 (x y : Str) (n : Int) : PyData := .tuple [.str x, .str y, .int n]
/-- what turns the parts of an or -/
def tn (o : Bool) : List PyData := if o then [I1 "not"] else []
def kn (o : Bool) : Nat := if o then 1 else 0
def ends (o : Bool) (d : Nat) : List PyData := [I2 "push" (if o then 0 else 1), I2 "jump" ((d : Int) + 1), I2 "push" (if o then 1 else 0)]
abbrev Plc := Str → Str × Int
mutual
def E.code (pl : Plc) : E → Nat → List PyData
  | .int n, _ => [I2 "push" n]
  | .name x, _ => [I2 (pl x).1 (pl x).2]
  | .choice o l r, at_ => (l.code pl at_ ++ tn o) ++ [I2 "unless" ((at_ + l.sz + kn o + 1 + r.sz + kn o + 3 : Nat) : Int)] ++ (r.code pl (at_ + l.sz + kn o + 1) ++ tn o) ++ [I2 "unless" ((at_ + l.sz + kn o + 1 + r.sz + kn o + 3 : Nat) : Int)] ++ ends o (at_ + l.sz + kn o + 1 + r.sz + kn o + 3)
  | .call r f as, at_ => (r.code pl at_ ++ as.code pl (at_ + r.sz)) ++ [I3 "call" f as.len]
  | .new m as, at_ => as.code pl at_ ++ [I3 "new" m as.len]
  | .plain w as, at_ => as.code pl at_ ++ [I1 w]
def Es.code (pl : Plc) : Es → Nat → List PyData
  | .nil, _ => []
  | .cons e es, at_ => e.code pl at_ ++ es.code pl (at_ + e.sz)
end
mutual
def S.code (pl : Plc) : S → Nat → List PyData
  | .letS x _ e, at_ => e.code pl at_ ++ [I2 ("set" ++ (pl x).1) (pl x).2]
  | .setS x e, at_ => e.code pl at_ ++ [I2 ("set" ++ (pl x).1) (pl x).2]
  | .ifS e b .nil, at_ => e.code pl at_ ++ [I2 "unless" ((at_ + e.sz + 1 + b.sz : Nat) : Int)] ++ b.code pl (at_ + e.sz + 1)
  | .ifS e b (.cons s ss), at_ => e.code pl at_ ++ [I2 "unless" ((at_ + e.sz + 1 + b.sz + 1 : Nat) : Int)] ++ b.code pl (at_ + e.sz + 1) ++ [I2 "jump" ((at_ + e.sz + 1 + b.sz + 1 + (s.sz + ss.sz) : Nat) : Int)] ++
      (s.code pl (at_ + e.sz + 1 + b.sz + 1) ++ ss.code pl (at_ + e.sz + 1 + b.sz + 1 + s.sz))
  | .whileS e b, at_ => e.code pl at_ ++ [I2 "unless" ((at_ + e.sz + 1 + b.sz + 1 : Nat) : Int)] ++ b.code pl (at_ + e.sz + 1) ++ [I2 "jump" (at_ : Nat)]
  | .doS e, at_ => e.code pl at_ ++ [I1 "drop"]
  | .fork r f as, at_ => (r.code pl at_ ++ as.code pl (at_ + r.sz)) ++ [I3 "fork" f as.len]
  | .plain w as, at_ => as.code pl at_ ++ [I1 w]
def Ss.code (pl : Plc) : Ss → Nat → List PyData
  | .nil, _ => []
  | .cons s ss, at_ => s.code pl at_ ++ ss.code pl (at_ + s.sz)
end
theorem tn_len (o : Bool) : (tn o).length = kn o := by cases o <;> rfl
mutual
theorem E.code_len (pl : Plc) : ∀ (e : E) (a : Nat), (e.code pl a).length = e.sz
  | .int _, _ => rfl
  | .name _, _ => rfl
  | .choice o l r, a => by
    have h1 := E.code_len pl l a
    have h2 := E.code_len pl r (a + l.sz + kn o + 1)
    simp only [E.code, List.length_append, List.length_cons, List.length_nil, h1, h2, tn_len, ends, E.sz]
    cases o <;> simp [kn] <;> omega
  | .call r f as, a => by
    have h1 := E.code_len pl r a
    have h2 := Es.code_len pl as (a + r.sz)
    simp only [E.code, List.length_append, List.length_cons, List.length_nil, h1, h2, E.sz]
  | .new m as, a => by
    have h2 := Es.code_len pl as a
    simp only [E.code, List.length_append, List.length_cons, List.length_nil, h2, E.sz]
  | .plain w as, a => by
    have h2 := Es.code_len pl as a
    simp only [E.code, List.length_append, List.length_cons, List.length_nil, h2, E.sz]
theorem Es.code_len (pl : Plc) : ∀ (es : Es) (a : Nat), (es.code pl a).length = es.sz
  | .nil, _ => rfl
  | .cons e es, a => by
    have h1 := E.code_len pl e a
    have h2 := Es.code_len pl es (a + e.sz)
    simp only [Es.code, List.length_append, h1, h2, Es.sz]
end
mutual
theorem S.code_len (pl : Plc) : ∀ (s : S) (a : Nat), (s.code pl a).length = s.sz
  | .letS x k e, a => by simp only [S.code, List.length_append, List.length_cons, List.length_nil, E.code_len, S.sz]
  | .setS x e, a => by simp only [S.code, List.length_append, List.length_cons, List.length_nil, E.code_len, S.sz]
  | .ifS e b .nil, a => by
    have h := Ss.code_len pl b (a + e.sz + 1)
    simp only [S.code, List.length_append, List.length_cons, List.length_nil, E.code_len, h, S.sz, Ss.sz]
    omega
  | .ifS e b (.cons s ss), a => by
    have h := Ss.code_len pl b (a + e.sz + 1)
    have h1 := S.code_len pl s (a + e.sz + 1 + b.sz + 1)
    have h2 := Ss.code_len pl ss (a + e.sz + 1 + b.sz + 1 + s.sz)
    simp only [S.code, List.length_append, List.length_cons, List.length_nil, E.code_len, h, h1, h2, S.sz, Ss.sz]
  | .whileS e b, a => by
    have h := Ss.code_len pl b (a + e.sz + 1)
    simp only [S.code, List.length_append, List.length_cons, List.length_nil, E.code_len, h, S.sz]
    omega
  | .doS e, a => by simp only [S.code, List.length_append, List.length_cons, List.length_nil, E.code_len, S.sz]
  | .fork r f as, a => by simp only [S.code, List.length_append, List.length_cons, List.length_nil, E.code_len, Es.code_len, S.sz]
  | .plain w as, a => by simp only [S.code, List.length_append, List.length_cons, List.length_nil, Es.code_len, S.sz]
theorem Ss.code_len (pl : Plc) : ∀ (ss : Ss) (a : Nat), (ss.code pl a).length = ss.sz
  | .nil, _ => rfl
  | .cons s ss, a => by
    have h1 := S.code_len pl s a
    have h2 := Ss.code_len pl ss (a + s.sz)
    simp only [Ss.code, List.length_append, h1, h2, Ss.sz]
end
/-! ### rows of expressions, of statements, taken to a place -/
def Es.take : Es → Nat → Es
  | _, 0 => .nil
  | .nil, _ + 1 => .nil
  | .cons e es, n + 1 => .cons e (es.take n)
def Ss.take : Ss → Nat → Ss
  | _, 0 => .nil
  | .nil, _ + 1 => .nil
  | .cons e es, n + 1 => .cons e (es.take n)
theorem Es.take_next {pl : Plc} : ∀ {es : Es} {i : Nat} {e : E} (a : Nat), es.list[i]? = some e → (es.take (i + 1)).code pl a = (es.take i).code pl a ++ e.code pl (a + (es.take i).sz) ∧ (es.take (i + 1)).sz = (es.take i).sz + e.sz
  | .cons e es, 0, _, a, h => by
    cases h
    constructor
    · show e.code pl a ++ (es.take 0).code pl (a + e.sz) = [] ++ e.code pl (a + 0)
      cases es <;> simp [Es.take, Es.code]
    · show e.sz + (es.take 0).sz = 0 + e.sz
      cases es <;> simp [Es.take, Es.sz]
  | .cons e es, i + 1, f, a, h => by
    have ih := Es.take_next (pl := pl) (es := es) (i := i) (e := f) (a + e.sz) h
    constructor
    · show e.code pl a ++ (es.take (i + 1)).code pl (a + e.sz) = (e.code pl a ++ (es.take i).code pl (a + e.sz)) ++ f.code pl (a + (e.sz + (es.take i).sz))
      rw [ih.1, List.append_assoc, Nat.add_assoc a]
    · show e.sz + (es.take (i + 1)).sz = e.sz + (es.take i).sz + f.sz
      rw [ih.2]
      omega
  | .nil, i, _, _, h => by cases h
theorem Es.take_all : ∀ es : Es, es.take es.list.length = es
  | .nil => rfl
  | .cons e es => congrArg (Es.cons e) (Es.take_all es)
theorem Es.take_sz : ∀ (es : Es) (i : Nat), (es.take i).sz ≤ es.sz
  | es, 0 => by cases es <;> exact Nat.zero_le _
  | .nil, _ + 1 => Nat.le_refl _
  | .cons e es, i + 1 => Nat.add_le_add_left (Es.take_sz es i) _
theorem Ss.take_next {pl : Plc} : ∀ {es : Ss} {i : Nat} {e : S} (a : Nat), es.list[i]? = some e → (es.take (i + 1)).code pl a = (es.take i).code pl a ++ e.code pl (a + (es.take i).sz) ∧ (es.take (i + 1)).sz = (es.take i).sz + e.sz
  | .cons e es, 0, _, a, h => by
    cases h
    constructor
    · show e.code pl a ++ (es.take 0).code pl (a + e.sz) = [] ++ e.code pl (a + 0)
      cases es <;> simp [Ss.take, Ss.code]
    · show e.sz + (es.take 0).sz = 0 + e.sz
      cases es <;> simp [Ss.take, Ss.sz]
  | .cons e es, i + 1, f, a, h => by
    have ih := Ss.take_next (pl := pl) (es := es) (i := i) (e := f) (a + e.sz) h
    constructor
    · show e.code pl a ++ (es.take (i + 1)).code pl (a + e.sz) = (e.code pl a ++ (es.take i).code pl (a + e.sz)) ++ f.code pl (a + (e.sz + (es.take i).sz))
      rw [ih.1, List.append_assoc, Nat.add_assoc a]
    · show e.sz + (es.take (i + 1)).sz = e.sz + (es.take i).sz + f.sz
      rw [ih.2]
      omega
  | .nil, i, _, _, h => by cases h
theorem Ss.take_all : ∀ es : Ss, es.take es.list.length = es
  | .nil => rfl
  | .cons e es => congrArg (Ss.cons e) (Ss.take_all es)
theorem Ss.take_sz : ∀ (es : Ss) (i : Nat), (es.take i).sz ≤ es.sz
  | es, 0 => by cases es <;> exact Nat.zero_le _
  | .nil, _ + 1 => Nat.le_refl _
  | .cons e es, i + 1 => Nat.add_le_add_left (Ss.take_sz es i) _
/-- the parts of a row -/
theorem Es.part : ∀ {es : Es} {e : E}, e ∈ es.list → (es.wf = true → e.wf = true) ∧ (∀ x ∈ e.uses, x ∈ es.uses) ∧ e.dep ≤ es.dep ∧ e.sz ≤ es.sz
  | .cons f fs, e, h => by
    rcases List.mem_cons.mp (show e ∈ f :: fs.list from h) with rfl | h
    · exact ⟨fun w => (Bool.and_eq_true_iff.mp w).1, fun x hx => List.mem_append_left _ hx, Nat.le_max_left _ _, Nat.le_add_right _ _⟩
    · obtain ⟨h1, h2, h3, h4⟩ := Es.part h
      exact ⟨fun w => h1 (Bool.and_eq_true_iff.mp w).2, fun x hx => List.mem_append_right _ (h2 x hx), Nat.le_trans h3 (Nat.le_max_right _ _), Nat.le_trans h4 (Nat.le_add_left _ _)⟩
  | .nil, _, h => by cases h
theorem Ss.part : ∀ {es : Ss} {e : S}, e ∈ es.list → (es.wf = true → e.wf = true) ∧ (∀ x ∈ e.uses, x ∈ es.uses) ∧ e.dep ≤ es.dep ∧ e.sz ≤ es.sz
  | .cons f fs, e, h => by
    rcases List.mem_cons.mp (show e ∈ f :: fs.list from h) with rfl | h
    · exact ⟨fun w => (Bool.and_eq_true_iff.mp w).1, fun x hx => List.mem_append_left _ hx, Nat.le_max_left _ _, Nat.le_add_right _ _⟩
    · obtain ⟨h1, h2, h3, h4⟩ := Ss.part h
      exact ⟨fun w => h1 (Bool.and_eq_true_iff.mp w).2, fun x hx => List.mem_append_right _ (h2 x hx), Nat.le_trans h3 (Nat.le_max_right _ _), Nat.le_trans h4 (Nat.le_add_left _ _)⟩
  | .nil, _, h => by cases h
theorem Rps.at_E {K : PySem.W.Frag} {H : Hp} {vs : List V} {es : Es} {i : Nat} {v : V} (r : Rps K H vs es.ds) (h : vs[i]? = some v) : ∃ e, es.list[i]? = some e ∧ Rp K H v e.d := by
  rw [Es.list_ds] at r
  have hl := r.len
  rw [List.length_map] at hl
  have hi : i < es.list.length := by
    rw [← hl]
    exact (List.getElem?_eq_some_iff.mp h).1
  have e1 : es.list[i]? = some es.list[i] := List.getElem?_eq_getElem hi
  obtain ⟨u, hu, ru⟩ := r.at_ (i := i) (d := es.list[i].d) (by rw [List.getElem?_map, e1]; rfl)
  rw [h] at hu
  cases hu
  exact ⟨_, e1, ru⟩
theorem Rps.at_S {K : PySem.W.Frag} {H : Hp} {vs : List V} {es : Ss} {i : Nat} {v : V} (r : Rps K H vs es.ds) (h : vs[i]? = some v) : ∃ e, es.list[i]? = some e ∧ Rp K H v e.d := by
  rw [Ss.list_ds] at r
  have hl := r.len
  rw [List.length_map] at hl
  have hi : i < es.list.length := by
    rw [← hl]
    exact (List.getElem?_eq_some_iff.mp h).1
  have e1 : es.list[i]? = some es.list[i] := List.getElem?_eq_getElem hi
  obtain ⟨u, hu, ru⟩ := r.at_ (i := i) (d := es.list[i].d) (by rw [List.getElem?_map, e1]; rfl)
  rw [h] at hu
  cases hu
  exact ⟨_, e1, ru⟩
/-- an item of a tuple of data -/
theorem ix_rp {K : PySem.W.Frag} {H : Hp} {x : V} {ds : List PyData} {i : Nat} {d : PyData} {Q : VK} (hx : Rp K H x (.tuple ds)) (hi : ds[i]? = some d) (h : ∀ v, Rp K H v d → Q v H) : rIxT K x (.int (i : Nat)) H Q := by
  obtain ⟨a, xs, rfl, ha, hxs⟩ := hx.tup_inv
  obtain ⟨v, hv, rv⟩ := hxs.at_ hi
  exact ⟨a, xs, _, v, rfl, rfl, ha, atI_nat hv, h v rv⟩
theorem len_rp {K : PySem.W.Frag} {H : Hp} {x : V} {ds : List PyData} (hx : Rp K H x (.tuple ds)) : ∃ a xs, x = .ref a ∧ SqT K H a xs ∧ xs.length = ds.length := by
  obtain ⟨a, xs, rfl, ha, hxs⟩ := hx.tup_inv
  exact ⟨a, xs, rfl, ha, hxs.len⟩
/-- where the names are kept: a dict of places -/
def PlAt (K : PySem.W.Frag) (H : Hp) (nd : Addr) (pl : Plc) (N : List Str) : Prop := ∃ kvs, H nd = some (.dK kvs) ∧ ∀ x ∈ N, (pl x).1.length ≤ 1000 ∧ ∃ v, valV kvs (.inr x : Key) = some v ∧ Rp K H v (.tuple [.str (pl x).1, .int (pl x).2])
theorem PlAt.same {K : PySem.W.Frag} {H H' : Hp} {nd : Addr} {pl : Plc} {N : List Str} (p : PlAt K H nd pl N) (s : Same H H') : PlAt K H' nd pl N := by
  obtain ⟨kvs, h, q⟩ := p
  exact ⟨kvs, s _ _ h, fun x hx => ⟨(q x hx).1, by
    obtain ⟨v, h1, h2⟩ := (q x hx).2
    exact ⟨v, h1, h2.keep (Same.tups s)⟩⟩⟩
end Pt

set_option Elab.async false
set_option linter.all false
set_option maxRecDepth 100000
set_option maxHeartbeats 4000000
/-! Dicts whose keys are tuples of any depth (names of processes, of objects): {}, d[k], d[k] = v, del d[k], k in d, d.get. -/
namespace ND
open PySem PySem.W PySem.Spec PyProof.Rows L2 Pt

/-- tuples stay -/
abbrev TK (K : PySem.W.Frag) (H H' : Hp) : Prop := ∀ c xs, SqT K H c xs → SqT K H' c xs
theorem TK.refl {K : PySem.W.Frag} {H : Hp} : TK K H H := fun _ _ h => h
theorem TK.trans {K : PySem.W.Frag} {H H1 H2 : Hp} (a : TK K H H1) (b : TK K H1 H2) : TK K H H2 := fun c xs h => b c xs (a c xs h)
theorem TK.same {K : PySem.W.Frag} {H H' : Hp} (s : Same H H') : TK K H H' := fun _ _ h => Cm.sameT s h
theorem TK.of {K : PySem.W.Frag} {H H' : Hp} (t : Tups H H') : TK K H H' := fun _ _ h => t.sqt h
/-- what may be written is no tuple -/
theorem TK.upd {K : PySem.W.Frag} {H : Hp} {a : Addr} {o : HO} (m : Mut (H a)) : TK K H (upd H a o) := fun c xs h => by
  rcases h with (h | ⟨u, h⟩) | h
  · refine .inl (.inl ?_)
    rw [upd_ne fun z => by subst z; rw [h] at m; exact m]
    exact h
  · refine .inl (.inr ⟨u, ?_⟩)
    rw [upd_ne fun z => by subst z; rw [h] at m; exact m]
    exact h
  · exact .inr h
mutual
theorem rp_keep {K : PySem.W.Frag} {H H' : Hp} (k : TK K H H') : ∀ {v : V} {d : PyData}, Rp K H v d → Rp K H' v d
  | _, _, .non => .non
  | _, _, .bl b => .bl b
  | _, _, .int i => .int i
  | _, _, .str x => .str x
  | _, _, .tup h r => .tup (k _ _ h) (rps_keep k r)
theorem rps_keep {K : PySem.W.Frag} {H H' : Hp} (k : TK K H H') : ∀ {vs : List V} {ds : List PyData}, Rps K H vs ds → Rps K H' vs ds
  | _, _, .nil => .nil
  | _, _, .cons h r => .cons (rp_keep k h) (rps_keep k r)
end
/-- the value v is the key k -/
def KeyAt (K : PySem.W.Frag) (H : Hp) (v : V) (k : NestedKey) : Prop := Rp K H v k.data ∧ k.depth ≤ 8 ∧ ∃ ks, k = .tup ks
theorem KeyAt.keep {K : PySem.W.Frag} {H H' : Hp} {v : V} {k : NestedKey} (t : TK K H H') (h : KeyAt K H v k) : KeyAt K H' v k := ⟨rp_keep t h.1, h.2⟩
theorem KeyAt.ref {K : PySem.W.Frag} {H : Hp} {v : V} {k : NestedKey} (h : KeyAt K H v k) : ∃ b, v = .ref b := by
  obtain ⟨r, _, ks, rfl⟩ := h
  obtain ⟨a, xs, rfl, _⟩ := r.tup_inv
  exact ⟨a, rfl⟩
section
variable {X : Cx} {pins : List (Addr × Obj)} {σ : L2.St} {H : Hp} {s : Shared}
mutual
theorem is_of (I : Inv X pins σ H s) : ∀ (k : NestedKey) (v : V) (u : Value), Rp X.K H v k.data → RelV v u → NestedIs s.heap k u
  | .none, v, u, r, ru => by
    simp only [NestedKey.data] at r
    cases r
    cases ru
    exact .none
  | .num i, v, u, r, ru => by
    simp only [NestedKey.data] at r
    cases r
    obtain ⟨t, rfl⟩ := ru
    exact .int _ _
  | .text x, v, u, r, ru => by
    simp only [NestedKey.data] at r
    cases r
    obtain ⟨t, rfl⟩ := ru
    exact .text _ _
  | .tup ks, v, u, r, ru => by
    simp only [NestedKey.data] at r
    obtain ⟨a, vs, rfl, ha, hvs⟩ := r.tup_inv
    cases ru
    obtain ⟨its, rv, ⟨o, ho, hc, n, hd⟩, hz⟩ := I.tuple ha
    exact .tup ho hc hd (by simpa using all_of I ks vs its hvs rv)
theorem all_of (I : Inv X pins σ H s) : ∀ (ks : List NestedKey) (vs : List V) (us : List Value), Rps X.K H vs (NestedKey.datas ks) → Vals vs us → NestedAll s.heap ks us
  | [], vs, us, r, ru => by
    simp only [NestedKey.datas] at r
    cases r
    cases ru
    exact .nil
  | k :: ks, vs, us, r, ru => by
    simp only [NestedKey.datas] at r
    cases r with
    | cons h t =>
      cases ru with
      | cons h' t' => exact .cons (is_of I k _ _ h h') (all_of I ks _ _ t t')
end
theorem key_of (I : Inv X pins σ H s) {b : Addr} {k : NestedKey} (h : KeyAt X.K H (.ref b) k) : (nestedKind X.prog X.w).is s.heap k b := ⟨is_of I k _ _ h.1 rfl, h.2.1⟩
end

/-- the dict at a holds xs -/
def ndO (P : Program) (w : World) (xs : List (NestedKey × Addr × Value)) (a : Addr) : HO := .ext fun h => (a == sysModules) = false ∧ xs.length ≤ sizeLine ∧
  ∃ o es ep, h.get? a = some o ∧ o.ExactDict ∧ o.data = .dict es ep ∧ es.toList = xs.map (entryOfKey (nestedKind P w)) ∧ (xs.map (·.1)).Nodup
abbrev KN (K : PySem.W.Frag) (H : Hp) : List (NestedKey × V) → List (NestedKey × Addr × Value) → Prop := Paired fun p q => p.1 = q.1 ∧ KeyAt K H (.ref q.2.1) p.1 ∧ RelV p.2 q.2.2
/-- at a stands a dict with these entries -/
def NDct (P : Program) (w : World) (K : PySem.W.Frag) (H : Hp) (a : Addr) (kvs : List (NestedKey × V)) : Prop := ∃ xs, H a = some (ndO P w xs a) ∧ KN K H kvs xs
section
variable {P : Program} {w : World} {K : PySem.W.Frag} {H H' : Hp} {a : Addr} {kvs : List (NestedKey × V)}
theorem KN.keep (t : TK K H H') {xs : List (NestedKey × Addr × Value)} (h : KN K H kvs xs) : KN K H' kvs xs := Paired.mapP h fun _ _ z => ⟨z.1, z.2.1.keep t, z.2.2⟩
theorem NDct.keep (t : TK K H H') (e : H' a = H a) (h : NDct P w K H a kvs) : NDct P w K H' a kvs := by
  obtain ⟨xs, h1, h2⟩ := h
  exact ⟨xs, e.trans h1, KN.keep t h2⟩
theorem NDct.same (t : Same H H') (h : NDct P w K H a kvs) : NDct P w K H' a kvs := by
  obtain ⟨xs, h1, h2⟩ := h
  exact ⟨xs, t _ _ h1, KN.keep (TK.same t) h2⟩
theorem NDct.some (h : NDct P w K H a kvs) : ∃ o, H a = some o ∧ (∀ xs, o ≠ .lst xs) ∧ (∀ xs, o ≠ .tup xs) ∧ Mut (H a) := by
  obtain ⟨xs, h1, h2⟩ := h
  exact ⟨_, h1, (fun _ z => nomatch z), (fun _ z => nomatch z), by rw [h1]; exact True.intro⟩
theorem KN.val {xs : List (NestedKey × Addr × Value)} (r : KN K H kvs xs) (k : NestedKey) : RelO (valV kvs k) ((atKey xs k).map (·.2)) := by
  induction r with
  | nil => exact True.intro
  | @cons p q ps qs h t ih =>
    obtain ⟨h1, _, h2⟩ := h
    by_cases e : p.1 = k
    · have e' : q.1 = k := h1.symm.trans e
      have b : atKey (q :: qs) k = some q.2 := by simp [atKey, List.find?_cons, e']
      rw [valV_pos e, b]; exact h2
    · have e' : ¬ q.1 = k := fun z => e (h1.trans z)
      have b : atKey (q :: qs) k = atKey qs k := by simp [atKey, List.find?_cons, e']
      rw [valV_neg e, b]; exact ih
theorem KN.repl {xs : List (NestedKey × Addr × Value)} (r : KN K H kvs xs) (k : NestedKey) {y : V} {u : Value} (ry : RelV y u) :
    KN K H (kvs.map fun kv => if kv.1 = k then (kv.1, y) else kv) (xs.map (putAt k u)) := by
  induction r with
  | nil => exact .nil
  | @cons p q ps qs h t ih =>
    rw [List.map_cons, List.map_cons]
    refine .cons ?_ ih
    obtain ⟨h1, h2, h3⟩ := h
    unfold putAt
    by_cases e : p.1 = k
    · rw [if_pos e, if_pos (h1.symm.trans e)]; exact ⟨h1, h2, ry⟩
    · rw [if_neg e, if_neg (fun z => e (h1.trans z))]; exact ⟨h1, h2, h3⟩
theorem KN.put {xs : List (NestedKey × Addr × Value)} (r : KN K H kvs xs) (k : NestedKey) {b : Addr} {y : V} {u : Value} (hb : KeyAt K H (.ref b) k) (ry : RelV y u) :
    KN K H (putK kvs k y) (storedH xs k b u) := by
  have e : (kvs.any fun kv => decide (kv.1 = k)) = (atKey xs k).isSome := by
    rw [valV_any, (r.val k).isSome_eq, Option.isSome_map]
  unfold putK storedH
  rw [e]
  by_cases q : (atKey xs k).isSome = true
  · rw [if_pos q, if_pos q]; exact r.repl k ry
  · rw [if_neg q, if_neg q]; exact Paired.snoc r ⟨rfl, hb, ry⟩
theorem KN.drop {xs : List (NestedKey × Addr × Value)} (r : KN K H kvs xs) (k : NestedKey) : KN K H (dropK kvs k) (withoutH xs k) := by
  induction r with
  | nil => exact .nil
  | @cons p q ps qs h t ih =>
    obtain ⟨h1, h2, h3⟩ := h
    unfold dropK withoutH at ih ⊢
    rw [List.filter_cons, List.filter_cons]
    by_cases e : p.1 = k
    · have e' : q.1 = k := h1.symm.trans e
      simp only [e, e', decide_true, Bool.not_true, ne_eq, not_true_eq_false, decide_false, Bool.false_eq_true, if_false]
      exact ih
    · have e' : ¬ q.1 = k := fun z => e (h1.trans z)
      simp only [e, e', decide_false, Bool.not_false, ne_eq, not_false_eq_true, decide_true, if_true]
      exact .cons ⟨h1, h2, h3⟩ ih
end

section
variable {X : Cx} {pins : List (Addr × Obj)} {σ : L2.St} {H : Hp} {s : Shared} {a b : Addr} {v : V} {u r : Value} {k : NestedKey} {kvs : List (NestedKey × V)} {A : Around} {E : Value → Shared → Prop}
theorem nd_of (I : Inv X pins σ H s) (g : NDct X.prog X.w X.K H a kvs) : kvs.length ≤ sizeLine ∧ (a == sysModules) = false ∧ ∃ xs, H a = some (ndO X.prog X.w xs a) ∧ KN X.K H kvs xs ∧ s.heap.DictOfH (nestedKind X.prog X.w) a xs := by
  obtain ⟨xs, e, r⟩ := g
  obtain ⟨⟨hd, hz, o, es, ep, h1, h2, h3, h4, h5⟩, _⟩ := (show ObjOk X.prog X.w H s.heap a (ndO X.prog X.w xs a) from I.hok a _ e)
  refine ⟨by rw [Paired.length r]; exact hz, hd, xs, e, r, o, es, ep, h1, h2, h3, h4, fun x hx => ?_, h5⟩
  have all : ∀ {l : List (NestedKey × V)} {m : List (NestedKey × Addr × Value)}, KN X.K H l m → ∀ x ∈ m, (nestedKind X.prog X.w).is s.heap x.1 x.2.1 := by
    intro l m q
    induction q with
    | nil => intro x hx; exact nomatch hx
    | @cons p q ps qs hq t ih =>
      intro x hx
      rcases List.mem_cons.mp hx with e | hx
      · subst e
        exact key_of I (by rw [← hq.1]; exact hq.2.1)
      · exact ih x hx
  exact all r x hx
theorem nd_ok {P : Program} {w : World} {H' : Hp} {h' : Heap} {xs : List (NestedKey × Addr × Value)} (hd : (a == sysModules) = false) (hz : xs.length ≤ sizeLine) (dd : h'.DictOfH (nestedKind P w) a xs) :
    ObjOk P w H' h' a (ndO P w xs a) := by
  obtain ⟨o, es, ep, h1, h2, h3, h4, _, h5⟩ := dd
  exact ⟨⟨hd, hz, o, es, ep, h1, h2, h3, h4, h5⟩, ⟨o, h1⟩, fun g1 g2 ⟨q1, q2, o', es', ep', p1, p⟩ k => ⟨q1, q2, o', es', ep', k _ p1, p⟩⟩
theorem nd_type (I : Inv X pins σ H s) (g : NDct X.prog X.w X.K H a kvs) : s.TypeIs (.ref a) "dict" ∧ (∀ b, Value.ref a = .ref b → ∃ ob, s.heap.get? b = some ob ∧ ob.dict = none) := by
  obtain ⟨_, _, xs, _, _, dd⟩ := nd_of I g
  refine ⟨dd.typeIs, fun b q => ?_⟩
  cases q
  obtain ⟨ob, _, _, h1, h2, _⟩ := dd
  exact ⟨ob, h1, h2.2.1⟩
theorem nd_getItem {Q : Value → Shared → Prop} (hu : A.units + 9 < cLine) (I : Inv X pins σ H s) (g : NDct X.prog X.w X.K H a kvs) (ky : KeyAt X.K H (.ref b) k) (l : valV kvs k = some v) (h : ∀ w' s', Inv X pins σ H s' → RelV v w' → Q w' s') :
    wpAny (model X.prog X.w) A (getItem (.ref a) (.ref b)) Q E s := by
  obtain ⟨_, _, xs, _, rel, dd⟩ := nd_of I g
  obtain ⟨w', hw, rw'⟩ := RelO.some_of (v := v) (o := (atKey xs k).map (·.2)) (by rw [← l]; exact rel.val k)
  obtain ⟨p, hp, hp2⟩ := Option.map_eq_some_iff.mp hw
  refine wpAny_getItem_heap (show A.in1.units + 8 < cLine by rw [Around.in1_units]; omega) (key_of I ky) dd hp ?_
  rw [hp2]
  exact h w' _ (I.tok _) rw'
theorem nd_in {Q : Value → Shared → Prop} (hu : A.units + 9 < cLine) (I : Inv X pins σ H s) (g : NDct X.prog X.w X.K H a kvs) (ky : KeyAt X.K H (.ref b) k) (h : ∀ s', Inv X pins σ H s' → Q (.bool (valV kvs k).isSome) s') :
    wpAny (model X.prog X.w) A (compareOp .In (.ref b) (.ref a)) Q E s := by
  obtain ⟨_, hd, xs, _, rel, dd⟩ := nd_of I g
  refine wpAny_in_heap (show A.in1.units + 8 < cLine by rw [Around.in1_units]; omega) (key_of I ky) hd dd ?_
  have q := (rel.val k).isSome_eq
  rw [Option.isSome_map] at q
  rw [← q]
  exact h _ (I.tok _)
theorem nd_notIn {Q : Value → Shared → Prop} (hu : A.units + 9 < cLine) (I : Inv X pins σ H s) (g : NDct X.prog X.w X.K H a kvs) (ky : KeyAt X.K H (.ref b) k) (h : ∀ s', Inv X pins σ H s' → Q (.bool (!(valV kvs k).isSome)) s') :
    wpAny (model X.prog X.w) A (compareOp .NotIn (.ref b) (.ref a)) Q E s := by
  obtain ⟨_, hd, xs, _, rel, dd⟩ := nd_of I g
  refine wpAny_notIn_heap (show A.in1.units + 8 < cLine by rw [Around.in1_units]; omega) (key_of I ky) hd dd ?_
  have q := (rel.val k).isSome_eq
  rw [Option.isSome_map] at q
  rw [← q]
  exact h _ (I.tok _)
theorem nd_get1 {Q : Value → Shared → Prop} (hu : A.units + 9 < cLine) (I : Inv X pins σ H s) (g : NDct X.prog X.w X.K H a kvs) (ky : KeyAt X.K H (.ref b) k) (h : ∀ w' s', Inv X pins σ H s' → RelV ((valV kvs k).getD .non) w' → Q w' s') :
    wpAny (model X.prog X.w) A (call (.builtin "dict.get") [.ref a, .ref b]) Q E s := by
  obtain ⟨_, hd, xs, _, rel, dd⟩ := nd_of I g
  refine call_meetsIn PySem.F.slot_dict_get dd.typeIs PySem.F.entry_dict_get (PySem.F.args_dict_get_2 _ _) (meetsH_dict_get (nestedKind X.prog X.w) a b hd) ⟨show A.in1.units + 8 < cLine by rw [Around.in1_units]; omega, k, xs, key_of I ky, dd, h _ _ (I.tok _) ?_⟩
  exact (rel.val k).getD rfl
theorem nd_get2 {d : V} {Q : Value → Shared → Prop} (hu : A.units + 9 < cLine) (I : Inv X pins σ H s) (g : NDct X.prog X.w X.K H a kvs) (ky : KeyAt X.K H (.ref b) k) (rd : RelV d r) (h : ∀ w' s', Inv X pins σ H s' → RelV ((valV kvs k).getD d) w' → Q w' s') :
    wpAny (model X.prog X.w) A (call (.builtin "dict.get") [.ref a, .ref b, r]) Q E s := by
  obtain ⟨_, hd, xs, _, rel, dd⟩ := nd_of I g
  refine call_meetsIn PySem.F.slot_dict_get dd.typeIs PySem.F.entry_dict_get (PySem.F.args_dict_get_3 _ _ _) (meetsH_dict_get_default (nestedKind X.prog X.w) a b hd r) ⟨show A.in1.units + 8 < cLine by rw [Around.in1_units]; omega, k, xs, key_of I ky, dd, h _ _ (I.tok _) ?_⟩
  exact (rel.val k).getD rd
/-- d[k] = v -/
theorem nd_setItem {Q : Unit → Shared → Prop} (hu : A.units + 9 < cLine) (I : Inv X pins σ H s) (g : NDct X.prog X.w X.K H a kvs) (ky : KeyAt X.K H (.ref b) k) (hl : kvs.length < sizeLine) (rv : RelV v r)
    (h : ∀ o s', NDct X.prog X.w X.K (upd H a o) a (putK kvs k v) → Inv X pins σ (upd H a o) s' → Q () s') :
    wpAny (model X.prog X.w) A (setItem (.ref a) (.ref b) r) Q E s := by
  obtain ⟨_, hd, xs, e, rel, dd⟩ := nd_of I g
  have hz : xs.length ≤ sizeLine := by rw [← Paired.length rel]; omega
  refine wpAny_setItem_heap (hsz := hz) (show A.in1.units + 8 < cLine by rw [Around.in1_units]; omega) (key_of I ky) dd fun h' dd' hs => ?_
  have rel' := rel.put k ky rv
  have hz' : (storedH xs k b r).length ≤ sizeLine := by
    rw [← Paired.length rel']
    have := length_putK kvs k v
    omega
  have he : ∃ q, h'.get? a = some q := let ⟨q, _, _, hq, _⟩ := dd'; ⟨q, hq⟩
  exact h (ndO X.prog X.w (storedH xs k b r) a) _ ⟨_, upd_same, KN.keep (TK.upd (H := H) (a := a) (by rw [e]; exact True.intro)) rel'⟩ (d_write I (by rw [e]; exact True.intro) hs he (nd_ok hd hz' dd'))
/-- del d[k] -/
theorem nd_delItem {Q : Unit → Shared → Prop} (hu : A.units + 9 < cLine) (I : Inv X pins σ H s) (g : NDct X.prog X.w X.K H a kvs) (ky : KeyAt X.K H (.ref b) k) (l : (valV kvs k).isSome = true)
    (h : ∀ o s', NDct X.prog X.w X.K (upd H a o) a (dropK kvs k) → Inv X pins σ (upd H a o) s' → Q () s') :
    wpAny (model X.prog X.w) A (delItem (.ref a) (.ref b)) Q E s := by
  obtain ⟨hl, hd, xs, e, rel, dd⟩ := nd_of I g
  have hz : xs.length ≤ sizeLine := by rw [← Paired.length rel]; exact hl
  have q := (rel.val k).isSome_eq
  rw [Option.isSome_map, l] at q
  obtain ⟨p, hp⟩ := Option.isSome_iff_exists.mp q.symm
  refine wpAny_delItem_heap (hsz := hz) (show A.in1.units + 8 < cLine by rw [Around.in1_units]; omega) (key_of I ky) hd dd hp fun h' dd' hs => ?_
  have rel' := rel.drop k
  have hz' : (withoutH xs k).length ≤ sizeLine := Nat.le_trans (by unfold withoutH; exact List.length_filter_le _ _) hz
  have he : ∃ q, h'.get? a = some q := let ⟨q, _, _, hq, _⟩ := dd'; ⟨q, hq⟩
  exact h (ndO X.prog X.w (withoutH xs k) a) _ ⟨_, upd_same, KN.keep (TK.upd (H := H) (a := a) (by rw [e]; exact True.intro)) rel'⟩ (d_write I (by rw [e]; exact True.intro) hs he (nd_ok hd hz' dd'))
end

/-! ### readings and rules -/
section
variable (P : Program) (w : World) (K : PySem.W.Frag)
/-- {} -/
def tNNew : TE := fun _ H Q => ∀ p o, H p = none → NDct P w K (upd H p o) p [] → Q (.ref p) (upd H p o)
/-- d[y] -/
def tNGet (td ty : TE) : TE := fun σ H Q => td σ H fun x H1 => ty σ H1 fun y H2 => ∃ a kvs k v, x = .ref a ∧ NDct P w K H2 a kvs ∧ KeyAt K H2 y k ∧ valV kvs k = some v ∧ Q v H2
/-- y in d, y not in d -/
def tNIn (neg : Bool) (ty td : TE) : TE := fun σ H Q => ty σ H fun y H1 => td σ H1 fun x H2 => ∃ a kvs k, x = .ref a ∧ NDct P w K H2 a kvs ∧ KeyAt K H2 y k ∧ Q (.bl (if neg then !(valV kvs k).isSome else (valV kvs k).isSome)) H2
/-- d.get(y), d.get(y, z) -/
def tNGet1 (td ty : TE) : TE := fun σ H Q => td σ H fun x H1 => ∃ a kvs, x = .ref a ∧ NDct P w K H1 a kvs ∧ ty σ H1 fun y H2 => ∃ kvs k, NDct P w K H2 a kvs ∧ KeyAt K H2 y k ∧ Q ((valV kvs k).getD .non) H2
def tNGet2 (td ty tz : TE) : TE := fun σ H Q => td σ H fun x H1 => ∃ a kvs, x = .ref a ∧ NDct P w K H1 a kvs ∧ ty σ H1 fun y H2 => tz σ H2 fun z H3 => ∃ kvs k, NDct P w K H3 a kvs ∧ KeyAt K H3 y k ∧ Q ((valV kvs k).getD z) H3
/-- d[y] = v -/
def sNPut (td ty tv : TE) : TS := fun D σ H => tv σ H fun v H1 => td σ H1 fun x H2 => ty σ H2 fun y H3 => ∃ a kvs k, x = .ref a ∧ NDct P w K H3 a kvs ∧ KeyAt K H3 y k ∧ kvs.length < sizeLine ∧
  ∀ o, NDct P w K (upd H3 a o) a (putK kvs k v) → D.nx σ (upd H3 a o)
/-- del d[y] -/
def sNDel (td ty : TE) : TS := fun D σ H => td σ H fun x H1 => ty σ H1 fun y H2 => ∃ a kvs k, x = .ref a ∧ NDct P w K H2 a kvs ∧ KeyAt K H2 y k ∧ (valV kvs k).isSome = true ∧
  ∀ o, NDct P w K (upd H2 a o) a (dropK kvs k) → D.nx σ (upd H2 a o)
end
section
variable {X : Cx} {o i e f value : Expr} {pos pos' tpos apos cpos : Pos} {td ty tv tz : TE}
theorem pe_nnew : PE X (.Dict [] [] pos) (tNNew X.prog X.w X.K) := ⟨fun pins s σ H Q I h => by
  have hb := I.big
  have ok : ObjOk X.prog X.w (upd H s.heap.objs.size (ndO X.prog X.w [] s.heap.objs.size)) (s.heap.push { cls := .type "dict", data := .dict #[] }) s.heap.objs.size (ndO X.prog X.w [] s.heap.objs.size) :=
    nd_ok (beq_eq_false_iff_ne.mpr (Ne.symm (Nat.ne_of_lt hb))) (Nat.zero_le _) ⟨_, #[], 0, Heap.get?_push_size _ rfl, ⟨rfl, rfl, rfl⟩, rfl, rfl, (fun x hx => nomatch hx), List.nodup_nil⟩
  exact wpAny_Dict_empty ⟨.ref s.heap.objs.size, _, I.laid (a := s.heap.objs.size) (o := ndO X.prog X.w [] s.heap.objs.size) (t' := s.toks) (fun _ _ q => Heap.get?_push_of_some _ q) (Nat.le_refl _) ok, rfl, h _ _ (I.hok.fresh (Nat.le_refl _)) ⟨[], upd_same, .nil⟩⟩⟩
theorem pe_nget (hu : X.A.units + 9 < cLine) (ho : PE X o td) (hi : PE X i ty) (hs : NoSl i) : PE X (.Subscript o i pos) (tNGet X.prog X.w X.K td ty) := by
  refine ⟨fun pins s σ H Q I h => ?_⟩
  refine subD_of PySem.F.slot_dict_getitem.lookup hs (thn (ho.run pins s σ H _ I h) fun u s1 ⟨x, H1, I1, rx, q1⟩ => thn (hi.run pins s1 σ H1 _ I1 q1) fun iv s2 ⟨y, H2, I2, ry, a, kvs, k, v, ex, g, ky, l, q2⟩ => ?_)
  subst ex
  obtain rfl : u = Value.ref a := rx
  obtain ⟨b, rfl⟩ := ky.ref
  obtain rfl : iv = Value.ref b := ry
  exact ⟨(nd_type I2 g).1, nd_getItem hu I2 g ky l fun w' s3 I3 rw' => ⟨v, H2, I3, rw', q2⟩⟩
theorem pc_nin (hu : X.A.units + 9 < cLine) (hi : PE X i ty) (ho : PE X o td) : PC X .In i o (tNIn X.prog X.w X.K false ty td) := by
  refine ⟨fun pins s σ H Q I h => ?_⟩
  refine thn (hi.run pins s σ H _ I h) fun iv s1 ⟨y, H1, I1, ry, q1⟩ => thn (ho.run pins s1 σ H1 _ I1 q1) fun u s2 ⟨x, H2, I2, rx, a, kvs, k, ex, g, ky, q2⟩ => ?_
  subst ex
  obtain rfl : u = Value.ref a := rx
  obtain ⟨b, rfl⟩ := ky.ref
  obtain rfl : iv = Value.ref b := ry
  exact nd_in hu I2 g ky fun s3 I3 => ⟨.bl (valV kvs k).isSome, H2, I3, rfl, q2⟩
theorem pc_nnotin (hu : X.A.units + 9 < cLine) (hi : PE X i ty) (ho : PE X o td) : PC X .NotIn i o (tNIn X.prog X.w X.K true ty td) := by
  refine ⟨fun pins s σ H Q I h => ?_⟩
  refine thn (hi.run pins s σ H _ I h) fun iv s1 ⟨y, H1, I1, ry, q1⟩ => thn (ho.run pins s1 σ H1 _ I1 q1) fun u s2 ⟨x, H2, I2, rx, a, kvs, k, ex, g, ky, q2⟩ => ?_
  subst ex
  obtain rfl : u = Value.ref a := rx
  obtain ⟨b, rfl⟩ := ky.ref
  obtain rfl : iv = Value.ref b := ry
  exact nd_notIn hu I2 g ky fun s3 I3 => ⟨.bl (!(valV kvs k).isSome), H2, I3, rfl, q2⟩
theorem ps_nput (hu : X.A.units + 9 < cLine) (ho : PE X o td) (hi : PE X i ty) (hv : PE X value tv) (hs : swapsWith value (some (.Subscript o i pos')) pos.line X.env = pure false) :
    PS X (.Assign [.Subscript o i pos'] value pos) (sNPut X.prog X.w X.K td ty tv) := by
  refine ⟨fun pins s σ H D I h => ?_⟩
  refine wpAny_Assign_Subscript (thn (hv.run pins s σ H _ I h) fun r s1 ⟨v, H1, I1, rv, q1⟩ => thn (ho.run pins s1 σ H1 _ I1 q1) fun u s2 ⟨x, H2, I2, rx, q2⟩ => thn (hi.run pins s2 σ H2 _ I2 q2) fun iv s3 ⟨y, H3, I3, ry, a, kvs, k, ex, g, ky, hl, q3⟩ => ?_) hs
  subst ex
  obtain rfl : u = Value.ref a := rx
  obtain ⟨b, rfl⟩ := ky.ref
  obtain rfl : iv = Value.ref b := ry
  exact nd_setItem hu I3 g ky hl rv fun o s4 g4 I4 => ⟨σ, _, I4, q3 o g4⟩
theorem ps_ndel (hu : X.A.units + 9 < cLine) (ho : PE X o td) (hi : PE X i ty) : PS X (.Delete [.Subscript o i tpos] pos) (sNDel X.prog X.w X.K td ty) := by
  refine ⟨fun pins s σ H D I h => ?_⟩
  refine wpAny_Delete (wpAny_deleteEach_cons (wpAny_delete_Subscript (thn (ho.run pins s σ H _ I h) fun u s1 ⟨x, H1, I1, rx, q1⟩ => thn (hi.run pins s1 σ H1 _ I1 q1) fun iv s2 ⟨y, H2, I2, ry, a, kvs, k, ex, g, ky, l, q2⟩ => ?_)))
  subst ex
  obtain rfl : u = Value.ref a := rx
  obtain ⟨b, rfl⟩ := ky.ref
  obtain rfl : iv = Value.ref b := ry
  exact nd_delItem hu I2 g ky l fun o s3 g3 I3 => wpAny_deleteEach_nil ⟨σ, _, I3, q2 o g3⟩
theorem pe_nget1 (hu : X.A.units + 9 < cLine) (ho : PE X o td) (he : PE X e ty) (m : M1 X o "get" apos e cpos) : PE X (.Call (.Attribute o "get" apos) [e] [] cpos) (tNGet1 X.prog X.w X.K td ty) := by
  refine ⟨fun pins s σ H Q I h => ?_⟩
  refine wpAny_Call_method m.base m.few m.line PySem.F.plainAttrs_dict PySem.F.slot_dict_get PySem.F.type_dict_get (thn (ho.run pins s σ H _ I h) fun u s1 ⟨x, H1, I1, rx, a, kvs0, ex, d, q1⟩ => ?_)
  subst ex
  obtain rfl : u = Value.ref a := rx
  obtain ⟨t1, t2⟩ := nd_type I1 d
  refine ⟨t1, t2, ?_⟩
  rw [m.trees]
  refine Calls.callWith_builtin rfl (Calls.evalArgs_plain (Calls.spliced_cons (thn (he.run pins s1 σ H1 _ I1 q1) fun iv s2 ⟨y, H2, I2, ry, kvs, k, g, ky, q2⟩ => Calls.spliced_nil ?_)))
  obtain ⟨b, rfl⟩ := ky.ref
  obtain rfl : iv = Value.ref b := ry
  exact nd_get1 hu I2 g ky fun w' s3 I3 rw' => ⟨_, H2, I3, rw', q2⟩
theorem pe_nget2 (hu : X.A.units + 9 < cLine) (ho : PE X o td) (he : PE X e ty) (hf : PE X f tz) (m : M2 X o "get" apos e f cpos) : PE X (.Call (.Attribute o "get" apos) [e, f] [] cpos) (tNGet2 X.prog X.w X.K td ty tz) := by
  refine ⟨fun pins s σ H Q I h => ?_⟩
  refine wpAny_Call_method m.base m.few m.line PySem.F.plainAttrs_dict PySem.F.slot_dict_get PySem.F.type_dict_get (thn (ho.run pins s σ H _ I h) fun u s1 ⟨x, H1, I1, rx, a, kvs0, ex, d, q1⟩ => ?_)
  subst ex
  obtain rfl : u = Value.ref a := rx
  obtain ⟨t1, t2⟩ := nd_type I1 d
  refine ⟨t1, t2, ?_⟩
  rw [m.trees]
  refine Calls.callWith_builtin rfl (Calls.evalArgs_plain (Calls.spliced_cons (thn (he.run pins s1 σ H1 _ I1 q1) fun iv s2 ⟨y, H2, I2, ry, q2⟩ =>
    Calls.spliced_cons (thn (hf.run pins s2 σ H2 _ I2 q2) fun fv s3 ⟨z, H3, I3, rz, kvs, k, g, ky, q3⟩ => Calls.spliced_nil ?_))))
  obtain ⟨b, rfl⟩ := ky.ref
  obtain rfl : iv = Value.ref b := ry
  exact nd_get2 hu I3 g ky rz fun w' s4 I4 rw' => ⟨_, H3, I4, rw', q3⟩
end
theorem nu_of {A : Around} {k : Nat} (hr : Room k A) : A.units + 9 < cLine := Nat.lt_of_le_of_lt (Nat.add_le_add_left (by decide : 9 ≤ 64) _) hr.units
end ND

set_option Elab.async false
set_option linter.all false
set_option maxRecDepth 100000
set_option maxHeartbeats 4000000
/-! sum(t), t a tuple of ints -/
namespace SumT
open PySem PySem.W PySem.Calls PyProof.Rows PyProof.V PySem.Spec L2
section
variable {X : Cx}
def rSumT (K : PySem.W.Frag) : List V → Hp → VK → Prop := fun vs H Q => ∃ (a : Addr) (ns : List Int), vs = [V.ref a] ∧ SqT K H a (ns.map V.int) ∧ Q (.int ns.sum) H
theorem cr_sumT (hc : X.calm = true) : CallR X (.builtin "sum") (rSumT X.K) := by
  intro pins s σ H vs us Q I r h
  obtain ⟨a, ns, rfl, hs, q⟩ := h
  obtain ⟨its, rv, pl, hz⟩ := I.tuple hs
  rw [Vals.ref1 r]
  obtain ⟨xs, e⟩ := rv.ints.allInts.items
  have hn : numsOf (intItems xs).toList = ns := by rw [← e]; exact rv.ints.numsOf
  rw [nums_intItems] at hn
  rw [e] at pl
  refine ktm_sumG (I.ok.hd hc) pl fun h' tk t' hk => ⟨.int _, H, I.kept hk, ⟨_, by rw [preSum_eq, List.take_of_length_le (by simp), hn]⟩, q⟩
end
end SumT

set_option Elab.async false
set_option linter.all false
set_option maxRecDepth 100000
set_option maxHeartbeats 4000000
/-! Rules whose readings name K, for the inside of comprehensions. -/
namespace Nst
open PySem PySem.Spec PyProof.Rows L2
def rLen (K : PySem.W.Frag) : List V → Hp → VK → Prop := fun xs H Q => ∃ p ys, xs = [V.ref p] ∧ (SqL K H p ys ∨ SqT K H p ys) ∧ Q (.int ys.length) H
theorem len_seq {X : Cx} (K : PySem.W.Frag) (h : X.K = K) : CallR X (.builtin "len") (rLen K) := by
  subst h
  exact call_len_seq
def rTupOf (K : PySem.W.Frag) : List V → Hp → VK → Prop := fun xs H Q => ∃ p ys, xs = [.ref p] ∧ ((SqL K H p ys ∧ ∀ l, H l = none → Q (.ref l) (upd H l (.tup ys))) ∨ (SqT K H p ys ∧ Q (.ref p) H))
theorem tuple_of {X : Cx} (K : PySem.W.Frag) (h : X.K = K) : CallR X (.type "tuple") (rTupOf K) := by
  subst h
  exact call_tuple_of
theorem at_item {xs : List V} {i : Int} (h0 : 0 ≤ i) (h1 : i < (xs.length : Int)) : ∃ y, xs[i.toNat]? = some y ∧ atI xs i = some y := by
  obtain ⟨j, rfl⟩ := Int.eq_ofNat_of_zero_le h0
  have h2 : j < xs.length := by omega
  exact ⟨xs[j], by rw [Int.toNat_natCast]; exact List.getElem?_eq_getElem h2, atI_nat (List.getElem?_eq_getElem h2)⟩
/-- tuple + tuple, whatever they hold -/
theorem cat_sq {K : PySem.W.Frag} {H : Hp} {a b : Addr} {xs ys : List V} {Q : VK} (ha : SqT K H a xs) (hb : SqT K H b ys) (hl : xs.length + ys.length ≤ 100000) (h : ∀ (r : Addr) (H' : Hp), Same H H' → SqT K H' r (xs ++ ys) → Q (.ref r) H') : rCatA K (.ref a) (.ref b) H Q := by
  refine ⟨a, b, xs, ys, rfl, rfl, ha, hb, Cm.small hl, fun e => ?_, fun _ e => ?_, fun _ _ p np => ?_⟩
  · subst e
    exact h b H (Same.refl H) hb
  · subst e
    exact h a H (Same.refl H) (by rw [List.append_nil]; exact ha)
  · exact h p _ (Cm.same_new np) Cm.sqt_new
theorem shaped_of {d : PyData} (h1 : d.canLay0 = true) (h2 : d.depth ≤ 64) : SeqAt.shaped d = true := by
  show (d.canLay0 && decide (d.depth ≤ 64)) = true
  rw [Bool.and_eq_true]
  exact ⟨h1, decide_eq_true h2⟩
theorem eqv_self {d : PyData} (h : SeqAt.shaped d = true) : PyData.eqv d d = true := SeqAt.eqv_refl _ (SeqAt.canLay_of_shaped h)
/-- a tuple of a text and two numbers -/
theorem shaped_w2 {x : Str} (h : PyData.strOk x = true) (i j : Int) : SeqAt.shaped (.tuple [.str x, .int i, .int j]) = true :=
  shaped_of (by simp [PyData.canLay0, PyData.canLayAll0, h]) (by simp [PyData.depth, PyData.depthAll])
end Nst

set_option Elab.async false
set_option linter.all false
set_option maxRecDepth 100000
set_option maxHeartbeats 4000000
/-! Calls of methods that may raise: within a try (pe_methT), and where it is known that nothing is raised (passF). -/
namespace MethT
open PySem PySem.Spec PyProof.Rows L2
theorem passF {X : Cx} : Passes (L2.CX X.prog X.w) X E0 := fun _ _ _ _ _ _ _ h => by
  obtain ⟨_, _, _, _, _, _, _, _, _, _, _, _, e⟩ := h
  exact e.elim
section
variable {X : Cx} {CX : CXT} {k : Nat} {f C : Addr} {fd : FuncData} {ps : List Str} {sp : Sp} {E : L2.St → XK} {x m : Str} {p pos apos : Pos} {e o : Expr} {es : List Expr} {ta : TE} {t : TA}
def tMethT (C : Addr) (m : Str) (sp : Sp) (E : L2.St → XK) (ta : TE) (t : TA) : TE := fun σ H Q => ta σ H fun x H1 => ∃ a dx fs, x = .ref a ∧ H1 a = some (.ins C dx fs) ∧ fs.lookup m = none ∧ t σ H1 fun vs H2 => sp (x :: vs) H2 Q (E σ)
theorem pe_methT {pl : Sem Bool} (he : PE X o ta) (c : Cls X.K C) (hm : Meth X.K C m f) (F : FnOk X.prog X.w X.K X.mg X.base CX k f fd ps sp) (hr : Room k X.A) (hb : Binds X.K fd ps []) (hx : ∀ σ, PassesAt CX X σ (E σ)) (ha : PA X (e :: es) t)
    (hst : starEach (e :: es) X.env = (false, eval e X.env) :: starEach es X.env := by rfl) (hpl : (backTo pos (starEach es X.env)).any (·.1) = false := by rfl)
    (ht : eval (.Call (.Attribute o m apos) (e :: es) [] pos) X.env = (do
      let ov ← eval o X.env
      standAt apos.atName
      let (f, first) ← holding [ov] (getMethod ov m pl)
      callWith pos f first (backTo pos (starEach (e :: es) X.env)) (backToKw pos (keywordEach [] X.env))) := by rfl) :
    PE X (.Call (.Attribute o m apos) (e :: es) [] pos) (tMethT C m sp E ta t) := by
  refine ⟨fun pins s σ H Q I h => ?_⟩
  refine PySem.W.methodCall_KW (pl := pl) (thn (he.run pins s σ H _ I h) fun u s1 ⟨x, H1, I1, rx, a, dx, fs, ex, ea, l, q⟩ => ?_) ht
  subst ex
  obtain rfl : u = Value.ref a := rx
  refine getmeth_ok I1 ea c hm l ?_
  refine PySem.W.callWith_K (first := [.ref a]) (h₀ := X.base) I.ok.mod.kin hm.kp (thn (ha.run pos pins s1 σ H1 _ I1 q) fun us s2 ⟨vs, H2, I2, r, q2⟩ => ⟨I2.kIn, ?_⟩) hst hpl
  exact run_fnS (us := .ref a :: us) (vs := .ref a :: vs) F hr hb (hx σ) I2 (.cons rfl r) q2
theorem pe_methT0 {pl : Sem Bool} (he : PE X o ta) (c : Cls X.K C) (hm : Meth X.K C m f) (F : FnOk X.prog X.w X.K X.mg X.base CX k f fd ps sp) (hr : Room k X.A) (hb : Binds X.K fd ps []) (hx : ∀ σ, PassesAt CX X σ (E σ))
    (ht : eval (.Call (.Attribute o m apos) [] [] pos) X.env = (do
      let ov ← eval o X.env
      standAt apos.atName
      let (f, first) ← holding [ov] (getMethod ov m pl)
      callWith pos f first (backTo pos (starEach [] X.env)) (backToKw pos (keywordEach [] X.env))) := by rfl) :
    PE X (.Call (.Attribute o m apos) [] [] pos) (tMethT C m sp E ta tNil) := by
  refine ⟨fun pins s σ H Q I h => ?_⟩
  refine PySem.W.methodCall_KW (pl := pl) (thn (he.run pins s σ H _ I h) fun u s1 ⟨x, H1, I1, rx, a, dx, fs, ex, ea, l, q⟩ => ?_) ht
  subst ex
  obtain rfl : u = Value.ref a := rx
  refine getmeth_ok I1 ea c hm l ?_
  exact PySem.W.callWith_K0 (first := [.ref a]) I1.kIn hm.kp (run_fnS (us := [.ref a]) (vs := [.ref a]) F hr hb (hx σ) I1 (.cons rfl .nil) q)
end
end MethT

set_option Elab.async false
set_option linter.all false
set_option maxRecDepth 100000
set_option maxHeartbeats 4000000
/-! sorted(xs), sorted(d): items that are data, nested tuples; what comes out is the merge sort of the data. -/
namespace SortN
open PySem PySem.W PySem.Calls PyProof.Rows PyProof.V PySem.Spec L2 Pt ND

/-- the order of data -/
abbrev dle : PyData → PyData → Bool := dataLe false id
abbrev srt (ds : List PyData) : List PyData := ds.mergeSort dle
section
variable {X : Cx} {pins : List (Addr × Obj)} {σ : L2.St} {H : Hp} {s : Shared}
theorem each_reads (I : Inv X pins σ H s) : ∀ {xs : List V} {ds : List PyData} {us : List Value}, Rps X.K H xs ds → Vals xs us → EachIs (fun v d => ∃ as, Reads s.heap v d as) us ds
  | _, _, _, .nil, .nil => .nil
  | _, _, _, .cons h t, .cons h' t' => .cons (Dp.reads I _ _ _ h.dp h') (each_reads I t t')
theorem each_both {K : PySem.W.Frag} : ∀ {xs : List V} {ds : List PyData} {us : List Value}, Rps K H xs ds → Vals xs us → EachIs (fun v (b : V × PyData) => RelV b.1 v ∧ Rp K H b.1 b.2) us (xs.zip ds)
  | _, _, _, .nil, .nil => .nil
  | _, _, _, .cons h t, .cons h' t' => .cons ⟨h', h⟩ (each_both t t')
theorem each_snd {R : Value → PyData → Prop} : ∀ {xs : List V} {ds : List PyData} {us : List Value}, xs.length = ds.length → EachIs R us ds → EachIs (fun v (b : V × PyData) => R v b.2) us (xs.zip ds)
  | [], [], _, _, .nil => .nil
  | x :: xs, d :: ds, _, hl, .cons h t => .cons h (each_snd (Nat.succ.inj hl) t)
theorem out_of {K : PySem.W.Frag} : ∀ {bs : List (V × PyData)} {out : List Value}, EachIs (fun v (b : V × PyData) => RelV b.1 v ∧ Rp K H b.1 b.2) out bs → Vals (bs.map (·.1)) out ∧ Rps K H (bs.map (·.1)) (bs.map (·.2))
  | _, _, .nil => ⟨.nil, .nil⟩
  | _, _, .cons h t => ⟨.cons h.1 (out_of t).1, .cons h.2 (out_of t).2⟩
theorem zip_snd : ∀ {xs : List V} {ds : List PyData}, xs.length = ds.length → (xs.zip ds).map (·.2) = ds
  | [], [], _ => rfl
  | x :: xs, d :: ds, hl => congrArg (d :: ·) (zip_snd (Nat.succ.inj hl))
/-- what the sort gives -/
theorem sorted_out {K : PySem.W.Frag} {h : Heap} {xs : List V} {ds : List PyData} {us : List Value} (hal : AllAlike ds) (r : Rps K H xs ds) (rv : Vals xs us) (e : EachIs (fun v d => ∃ as, Reads h v d as) us ds) :
    ∃ ys, Vals ys (sortVals (dataKind h ds) false us us) ∧ Rps K H ys (srt ds) ∧ ys.length = xs.length := by
  have hl := r.len
  have e3 := sortVals_each (κ := dataKind h ds) (rev := false) (k := fun b : V × PyData => keyToks b.2) (each_both r rv) (each_snd hl (each_keys hal e))
  obtain ⟨v1, r1⟩ := out_of e3
  refine ⟨_, v1, ?_, ?_⟩
  · have em : ((xs.zip ds).mergeSort (sortLe (dataKind h ds).toKeyOrd false fun b : V × PyData => keyToks b.2)).map (·.2) = srt ds := by
      have q := sort_maps (r := sortLe (dataKind h ds).toKeyOrd false fun b : V × PyData => keyToks b.2) (s := dle) (fun b : V × PyData => b.2) (l := xs.zip ds) (fun a _ b _ => rfl)
      rw [q, zip_snd hl]
    rw [← em]
    exact r1
  · rw [List.length_map, List.length_mergeSort, List.length_zip, hl, Nat.min_self]
end
section
variable {X : Cx}
/-- sorted(xs) of a list -/
def rSortL (K : PySem.W.Frag) : List V → Hp → VK → Prop := fun vs H Q => ∃ (a : Addr) (xs : List V) (ds : List PyData), vs = [.ref a] ∧ SqL K H a xs ∧ Rps K H xs ds ∧ AllAlike ds ∧ Sortable ds ∧ (∀ d ∈ ds, d.depth ≤ 50) ∧
  ∀ (ys : List V) (p : Addr), Rps K H ys (srt ds) → H p = none → Q (.ref p) (upd H p (.lst ys))
theorem call_sortL (hc : X.calm = true) (hu : X.A.units + 64 < cLine) : CallR X (.builtin "sorted") (rSortL X.K) := by
  intro pins s σ H vs us Q I r q
  obtain ⟨a, xs, ds, rfl, hl, hr, hal, hk, hdp, q⟩ := q
  rw [Vals.ref1 r]
  obtain ⟨its, rv, pl, hz⟩ := I.list hl
  have hzi : its.length ≤ sizeLine := by rw [← rv.length]; exact hz
  have I1 : Inv X pins σ H { s with heap := sortingHeap (copyHeap s.heap its) (s.heap.objs.size + 1) its, toks := s.toks } := I.kept fun b o e => sorting_copy_old e
  have ea : EachIs (fun v d => ∃ as, Reads (sortingHeap (copyHeap s.heap its) (s.heap.objs.size + 1) its) v d as) its ds := each_reads I1 hr rv
  refine sorted_vals (κ := dataKind (sortingHeap (copyHeap s.heap its) (s.heap.objs.size + 1) its) ds) pl.isList (SortsAt.data (s := { s with heap := sortingHeap (copyHeap s.heap its) (s.heap.objs.size + 1) its }) ea hal hk fun d hd => ?_) hzi ?_
  · have := hdp d hd
    simp only [Around.in1_units]
    omega
  · obtain ⟨ys, v1, r1, l1⟩ := sorted_out (K := X.K) hal hr rv ea
    obtain ⟨e', he'⟩ := sortedAll_at s.heap its (sortVals (dataKind (sortingHeap (copyHeap s.heap its) (s.heap.objs.size + 1) its) ds) false its its).toArray
    refine ⟨.ref (s.heap.objs.size + 1), upd H (s.heap.objs.size + 1) (.lst ys), I.laid (t' := s.toks) (fun b u e => sortedAll_old e) (Nat.le_succ _) ?_, rfl, q ys _ r1 (I.hok.fresh (Nat.le_succ _))⟩
    exact ⟨by rw [l1]; exact hz, _, e', v1, he'⟩
/-- sorted(t) of a tuple -/
def rSortTup (K : PySem.W.Frag) : List V → Hp → VK → Prop := fun vs H Q => ∃ (a : Addr) (xs : List V) (ds : List PyData), vs = [.ref a] ∧ SqT K H a xs ∧ Rps K H xs ds ∧ AllAlike ds ∧ Sortable ds ∧ (∀ d ∈ ds, d.depth ≤ 50) ∧
  ∀ (ys : List V) (p : Addr), Rps K H ys (srt ds) → H p = none → Q (.ref p) (upd H p (.lst ys))
theorem call_sortTup (hc : X.calm = true) (hu : X.A.units + 64 < cLine) : CallR X (.builtin "sorted") (rSortTup X.K) := by
  intro pins s σ H vs us Q I r q
  obtain ⟨a, xs, ds, rfl, hl, hr, hal, hk, hdp, q⟩ := q
  rw [Vals.ref1 r]
  obtain ⟨its, rv, ⟨o, ho, hcl, n, hd⟩, hz⟩ := I.tuple hl
  have hzi : its.length ≤ sizeLine := by rw [← rv.length]; exact hz
  refine Calls.call_function_entry PyProof.Rows.kind_sorted PyProof.Rows.plain_sorted PyProof.Rows.entry_sorted (PyProof.Rows.args_sorted1 _) ?_
  unfold Builtin.«sorted»
  refine wpAny_bind (m := checkCount "sorted" 1 1 _) (wpAny_pure ?_)
  refine wpAny_bind (wpAny_collect_seq a (.inr rfl) ho hcl hd (fun h' hkp => ?_) (by rw [List.size_toArray]; exact hzi))
  have I1 : Inv X pins σ H { s with heap := h' } := I.kept (t' := s.toks) hkp
  rw [show its.toArray.toList = its from rfl]
  refine wpAny_bind (wpAny_newList ?_ hzi)
  have hoL : (h'.push (seqObj "list" its.toArray 0)).get? h'.objs.size = some (seqObj "list" its.toArray 0) := Heap.get?_push_size _ rfl
  show wpAny _ _ _ _ _ { s with heap := h'.push (seqObj "list" its.toArray 0) }
  have old : ∀ b u, h'.get? b = some u → (sortingHeap (h'.push (seqObj "list" its.toArray 0)) h'.objs.size its).get? b = some u := fun b u q1 =>
    sortingHeap_old (Nat.ne_of_lt (Heap.lt_size q1)) (Heap.get?_push_of_some _ q1)
  have I2 : Inv X pins σ H { s with heap := sortingHeap (h'.push (seqObj "list" its.toArray 0)) h'.objs.size its } := I1.kept (t' := s.toks) old
  have ea := each_reads I2 hr rv
  refine wpAny_bind (wpAny_holding (wpAny_call_entry PyProof.Rows.slot_list_sort ⟨_, hoL, rfl⟩ PyProof.Rows.entry_list_sort
    (list_sort_vals (κ := dataKind (sortingHeap (h'.push (seqObj "list" its.toArray 0)) h'.objs.size its) ds) (s := { s with heap := h'.push (seqObj "list" its.toArray 0) }) hoL
      (SortsAt.data (s := { s with heap := sortingHeap (h'.push (seqObj "list" its.toArray 0)) h'.objs.size its }) ea hal hk fun d hd => ?_) hzi ⟨_, rfl, ?_⟩) (PyProof.Rows.args_list_sort _)))
  · have := hdp d hd
    simp only [Around.in1_units]
    omega
  · obtain ⟨ys, v1, r1, l1⟩ := sorted_out (K := X.K) hal hr rv ea
    obtain ⟨e', he'⟩ := PyProof.Rows.sortedHeap_at (vs := its) (out := (sortVals (dataKind (sortingHeap (h'.push (seqObj "list" its.toArray 0)) h'.objs.size its) ds) false its its).toArray) hoL
    refine wpAny_pure ⟨_, rfl, .ref h'.objs.size, upd H h'.objs.size (.lst ys), I1.laid (t' := s.toks) (fun b u e => ?_) (Nat.le_refl _)
      (show ObjOk X.prog X.w _ _ _ (.lst ys) from ⟨by rw [l1]; exact hz, _, e', v1, he'⟩), rfl, q ys _ r1 (I1.hok.fresh (Nat.le_refl _))⟩
    have hb : b < h'.objs.size := Heap.lt_size e
    rw [PyProof.Rows.sortedHeap_old (Nat.ne_of_lt hb) (by rw [size_push']; exact Nat.lt_succ_of_lt hb)]
    exact Heap.get?_push_of_some _ e
theorem vals_keys {K : PySem.W.Frag} {H : Hp} {w : World} {P : Program} : ∀ {kvs : List (NestedKey × V)} {xs : List (NestedKey × Addr × Value)}, KN K H kvs xs → Rps K H (xs.map fun x => V.ref x.2.1) (kvs.map (·.1.data))
  | _, _, .nil => .nil
  | _, _, .cons h t => .cons h.2.1.1 (vals_keys (w := w) (P := P) t)
theorem vals_refs : ∀ xs : List (NestedKey × Addr × Value), Vals (xs.map fun x => V.ref x.2.1) (xs.map fun x => Value.ref x.2.1)
  | [] => .nil
  | _ :: xs => .cons rfl (vals_refs xs)
/-- sorted(d) of a dict with keys of any depth -/
def rSortD (P : Program) (w : World) (K : PySem.W.Frag) : List V → Hp → VK → Prop := fun vs H Q => ∃ (a : Addr) (kvs : List (NestedKey × V)), vs = [.ref a] ∧ NDct P w K H a kvs ∧ AllAlike (kvs.map (·.1.data)) ∧ Sortable (kvs.map (·.1.data)) ∧
  (∀ d ∈ kvs.map (·.1.data), d.depth ≤ 50) ∧ ∀ (ys : List V) (p : Addr), Rps K H ys (srt (kvs.map (·.1.data))) → H p = none → Q (.ref p) (upd H p (.lst ys))
theorem call_sortD (hc : X.calm = true) (hu : X.A.units + 64 < cLine) : CallR X (.builtin "sorted") (rSortD X.prog X.w X.K) := by
  intro pins s σ H vs us Q I r q
  obtain ⟨a, kvs, rfl, g, hal, hk, hdp, q⟩ := q
  rw [Vals.ref1 r]
  obtain ⟨z, lo, xs, e, rel, dd⟩ := nd_of I g
  obtain ⟨o, es, ep, h1, h2, h3, h4, h5, h6⟩ := dd
  have hl : es.size = kvs.length := by
    have q1 := congrArg List.length h4
    rw [List.length_map, Array.length_toList] at q1
    rw [q1, Paired.length rel]
  refine Calls.call_function_entry PyProof.Rows.kind_sorted PyProof.Rows.plain_sorted PyProof.Rows.entry_sorted (PyProof.Rows.args_sorted1 _) ?_
  unfold Builtin.«sorted»
  refine wpAny_bind (m := checkCount "sorted" 1 1 _) (wpAny_pure ?_)
  refine wpAny_bind (PySem.W.kdu_collect (A := X.A.in1) (KdlSrc.rawDict (d := a) (es := es) (ep := ep) lo) (I.ok.hd hc) ⟨o, h1, h2, h3⟩ (by rw [hl]; exact z) fun h' tk acc hkp hacc => ?_)
  have hav : acc.toList = xs.map fun x => Value.ref x.2.1 := by
    refine List.ext_getElem? fun j => ?_
    by_cases hj : j < es.size
    · have hja : j < acc.size := by rw [hacc.1]; exact hj
      obtain ⟨hi, ev⟩ := hacc.2 j acc[j] (Array.getElem?_eq_getElem hja)
      have ex : es.toList[j]? = (xs.map (entryOfKey (nestedKind X.prog X.w)))[j]? := by rw [h4]
      rw [Array.getElem?_toList, Array.getElem?_eq_getElem hj, List.getElem?_map] at ex
      rw [Array.getElem?_toList, Array.getElem?_eq_getElem hja, List.getElem?_map, ev]
      cases hx : xs[j]? with
      | none =>
        rw [hx] at ex
        cases ex
      | some x =>
        rw [hx] at ex
        have e2 : es[j] = entryOfKey (nestedKind X.prog X.w) x := Option.some.inj ex
        rw [e2]
        rfl
    · have hn : es.size = xs.length := by rw [hl, Paired.length rel]
      rw [List.getElem?_eq_none (by rw [Array.length_toList, hacc.1]; omega), List.getElem?_eq_none (by rw [List.length_map]; omega)]
  have I1 : Inv X pins σ H { s with heap := h', toks := tk } := I.kept hkp
  have hzi : acc.toList.length ≤ sizeLine := by
    rw [Array.length_toList, hacc.1, hl]
    exact z
  refine wpAny_bind (wpAny_newList ?_ hzi)
  have hoL : (h'.push (seqObj "list" acc.toList.toArray 0)).get? h'.objs.size = some (seqObj "list" acc.toList.toArray 0) := Heap.get?_push_size _ rfl
  show wpAny _ _ _ _ _ { s with heap := h'.push (seqObj "list" acc.toList.toArray 0), toks := tk }
  have rk := vals_keys (K := X.K) (w := X.w) (P := X.prog) rel
  have rv : Vals (xs.map fun x => V.ref x.2.1) acc.toList := by
    rw [hav]
    exact vals_refs xs
  have old : ∀ b u, h'.get? b = some u → (sortingHeap (h'.push (seqObj "list" acc.toList.toArray 0)) h'.objs.size acc.toList).get? b = some u := fun b u q1 =>
    sortingHeap_old (Nat.ne_of_lt (Heap.lt_size q1)) (Heap.get?_push_of_some _ q1)
  have I2 : Inv X pins σ H { s with heap := sortingHeap (h'.push (seqObj "list" acc.toList.toArray 0)) h'.objs.size acc.toList, toks := tk } := I1.kept old
  have ea := each_reads I2 rk rv
  refine wpAny_bind (wpAny_holding (wpAny_call_entry PyProof.Rows.slot_list_sort ⟨_, hoL, rfl⟩ PyProof.Rows.entry_list_sort
    (list_sort_vals (κ := dataKind (sortingHeap (h'.push (seqObj "list" acc.toList.toArray 0)) h'.objs.size acc.toList) (kvs.map (·.1.data))) (s := { s with heap := h'.push (seqObj "list" acc.toList.toArray 0), toks := tk }) hoL
      (SortsAt.data (s := { s with heap := sortingHeap (h'.push (seqObj "list" acc.toList.toArray 0)) h'.objs.size acc.toList, toks := tk }) ea hal hk fun d hd => ?_) hzi ⟨_, rfl, ?_⟩) (PyProof.Rows.args_list_sort _)))
  · have := hdp d hd
    simp only [Around.in1_units]
    omega
  · obtain ⟨ys, v1, r1, l1⟩ := sorted_out (K := X.K) hal rk rv ea
    obtain ⟨e', he'⟩ := PyProof.Rows.sortedHeap_at (vs := acc.toList) (out := (sortVals (dataKind (sortingHeap (h'.push (seqObj "list" acc.toList.toArray 0)) h'.objs.size acc.toList) (kvs.map (·.1.data))) false acc.toList acc.toList).toArray) hoL
    refine wpAny_pure ⟨_, rfl, .ref h'.objs.size, upd H h'.objs.size (.lst ys), I1.laid (t' := tk) (fun b u e => ?_) (Nat.le_refl _)
      (show ObjOk X.prog X.w _ _ _ (.lst ys) from ⟨by rw [l1, List.length_map, ← Paired.length rel]; exact z, _, e', v1, he'⟩), rfl, q ys _ r1 (I1.hok.fresh (Nat.le_refl _))⟩
    have hb : b < h'.objs.size := Heap.lt_size e
    rw [PyProof.Rows.sortedHeap_old (Nat.ne_of_lt hb) (by rw [size_push']; exact Nat.lt_succ_of_lt hb)]
    exact Heap.get?_push_of_some _ e
end
end SortN

set_option Elab.async false
set_option linter.all false
set_option maxRecDepth 100000
set_option maxHeartbeats 4000000
--%OPEN Cm Pt ND
--%VAR variable {P : Program} {w : World} {K : PySem.W.Frag} {mg : Str → Option Value} {base : Heap} {a : Fds}
namespace K39
open PySem PySem.Spec PyProof.Rows L2 Pt
open PySem PySem.Spec PyProof.Rows L2
def topS (i : Nat) : Stmt := PySem.Challenge.pw_portage_k39_bodies_of_letters.main.body.getD i (.Pass ⟨0, 0, 0, 0⟩)
abbrev s_is_working : Stmt := topS 7
abbrev N_is_working : List Str := ["body"]
theorem sc_is_working : FnScope N_is_working ["body"] (defScope s_is_working) := ⟨rfl, rfl, rfl, by decide +kernel, rfl, by decide +kernel, by decide +kernel⟩
abbrev s_is_on_the_way : Stmt := topS 8
abbrev N_is_on_the_way : List Str := ["body"]
theorem sc_is_on_the_way : FnScope N_is_on_the_way ["body"] (defScope s_is_on_the_way) := ⟨rfl, rfl, rfl, by decide +kernel, rfl, by decide +kernel, by decide +kernel⟩
abbrev s_object_of : Stmt := topS 9
abbrev N_object_of : List Str := ["body"]
theorem sc_object_of : FnScope N_object_of ["body"] (defScope s_object_of) := ⟨rfl, rfl, rfl, by decide +kernel, rfl, by decide +kernel, by decide +kernel⟩
abbrev s_count_of : Stmt := topS 10
abbrev N_count_of : List Str := ["body"]
theorem sc_count_of : FnScope N_count_of ["body"] (defScope s_count_of) := ⟨rfl, rfl, rfl, by decide +kernel, rfl, by decide +kernel, by decide +kernel⟩
abbrev s_with_count : Stmt := topS 11
abbrev N_with_count : List Str := ["body", "count"]
theorem sc_with_count : FnScope N_with_count ["body", "count"] (defScope s_with_count) := ⟨rfl, rfl, rfl, by decide +kernel, rfl, by decide +kernel, by decide +kernel⟩
abbrev s_check_way : Stmt := topS 12
abbrev N_check_way : List Str := ["body"]
theorem sc_check_way : FnScope N_check_way ["body"] (defScope s_check_way) := ⟨rfl, rfl, rfl, by decide +kernel, rfl, by decide +kernel, by decide +kernel⟩
abbrev s_lw_numbers : Stmt := topS 14
abbrev N_lw_numbers : List Str := ["script", "many", "numbers", "k", "cell", "j", "mixed", "base", "last"]
theorem sc_lw_numbers : FnScope N_lw_numbers ["script", "many"] (defScope s_lw_numbers) := ⟨rfl, rfl, rfl, by decide +kernel, rfl, by decide +kernel, by decide +kernel⟩
abbrev s_lw_object : Stmt := topS 15
abbrev N_lw_object : List Str := ["number", "process"]
theorem sc_lw_object : FnScope N_lw_object ["number"] (defScope s_lw_object) := ⟨rfl, rfl, rfl, by decide +kernel, rfl, by decide +kernel, by decide +kernel⟩
abbrev s_lw_value : Stmt := topS 16
abbrev N_lw_value : List Str := ["number", "way"]
theorem sc_lw_value : FnScope N_lw_value ["number"] (defScope s_lw_value) := ⟨rfl, rfl, rfl, by decide +kernel, rfl, by decide +kernel, by decide +kernel⟩
abbrev s_lw_values : Stmt := topS 17
abbrev N_lw_values : List Str := ["numbers", "at", "most", "k"]
theorem sc_lw_values : FnScope N_lw_values ["numbers", "at", "most"] (defScope s_lw_values) := ⟨rfl, rfl, rfl, by decide +kernel, rfl, by decide +kernel, by decide +kernel⟩
abbrev s_lw_entry : Stmt := topS 18
abbrev N_lw_entry : List Str := ["numbers", "at", "number", "process", "k", "depth", "back", "word", "token", "operation", "frame"]
theorem sc_lw_entry : FnScope N_lw_entry ["numbers", "at"] (defScope s_lw_entry) := ⟨rfl, rfl, rfl, by decide +kernel, rfl, by decide +kernel, by decide +kernel⟩
abbrev s_lw_bundle : Stmt := topS 19
abbrev N_lw_bundle : List Str := ["numbers", "at", "entries", "k", "entry", "number", "maker", "order", "rows", "one"]
theorem sc_lw_bundle : FnScope N_lw_bundle ["numbers", "at"] (defScope s_lw_bundle) := ⟨rfl, rfl, rfl, by decide +kernel, rfl, by decide +kernel, by decide +kernel⟩
abbrev s_lw_bodies : Stmt := topS 20
abbrev N_lw_bodies : List Str := ["numbers", "name", "other", "count", "found"]
theorem sc_lw_bodies : FnScope N_lw_bodies ["numbers"] (defScope s_lw_bodies) := ⟨rfl, rfl, rfl, by decide +kernel, rfl, by decide +kernel, by decide +kernel⟩
abbrev s_lw_told : Stmt := topS 21
abbrev N_lw_told : List Str := ["kind", "body", "why"]
theorem sc_lw_told : FnScope N_lw_told ["kind", "body"] (defScope s_lw_told) := ⟨rfl, rfl, rfl, by decide +kernel, rfl, by decide +kernel, by decide +kernel⟩
abbrev s_law : Stmt := topS 22
abbrev N_law : List Str := ["script", "numbers", "refused", "body", "word", "on_way", "told", "due", "kind"]
theorem sc_law : FnScope N_law ["script"] (defScope s_law) := ⟨rfl, rfl, rfl, by decide +kernel, rfl, by decide +kernel, by decide +kernel⟩
abbrev v_WORKING : List He.Dv := [.str "call", .str "return", .str "please", .str "carry", .str "at"]
abbrev v_ON_THE_WAY : List He.Dv := [.str "call", .str "return", .str "please"]
/-- the function objects that the top has made -/
structure Fds where
  d_is_working : FuncData
  d_is_on_the_way : FuncData
  d_object_of : FuncData
  d_count_of : FuncData
  d_with_count : FuncData
  d_check_way : FuncData
  d_lw_numbers : FuncData
  d_lw_object : FuncData
  d_lw_value : FuncData
  d_lw_values : FuncData
  d_lw_entry : FuncData
  d_lw_bundle : FuncData
  d_lw_bodies : FuncData
  d_lw_told : FuncData
  d_law : FuncData
/-- what the walks ask of the top -/
structure Txt (K : PySem.W.Frag) (mg : Str → Option Value) (w : World) (a : Fds) : Prop where
  F_is_working : Cm.FnP K "is_working" s_is_working (He.ga K "is_working") a.d_is_working
  b_is_working : Binds K a.d_is_working ["body"] []
  g_is_working : mg "is_working" = some (.ref (He.ga K "is_working"))
  F_is_on_the_way : Cm.FnP K "is_on_the_way" s_is_on_the_way (He.ga K "is_on_the_way") a.d_is_on_the_way
  b_is_on_the_way : Binds K a.d_is_on_the_way ["body"] []
  g_is_on_the_way : mg "is_on_the_way" = some (.ref (He.ga K "is_on_the_way"))
  F_object_of : Cm.FnP K "object_of" s_object_of (He.ga K "object_of") a.d_object_of
  b_object_of : Binds K a.d_object_of ["body"] []
  g_object_of : mg "object_of" = some (.ref (He.ga K "object_of"))
  F_count_of : Cm.FnP K "count_of" s_count_of (He.ga K "count_of") a.d_count_of
  b_count_of : Binds K a.d_count_of ["body"] []
  g_count_of : mg "count_of" = some (.ref (He.ga K "count_of"))
  F_with_count : Cm.FnP K "with_count" s_with_count (He.ga K "with_count") a.d_with_count
  b_with_count : Binds K a.d_with_count ["body", "count"] []
  g_with_count : mg "with_count" = some (.ref (He.ga K "with_count"))
  F_check_way : Cm.FnP K "_check_way" s_check_way (He.ga K "_check_way") a.d_check_way
  b_check_way : Binds K a.d_check_way ["body"] []
  g_check_way : mg "_check_way" = some (.ref (He.ga K "_check_way"))
  F_lw_numbers : Cm.FnP K "_law_numbers" s_lw_numbers (He.ga K "_law_numbers") a.d_lw_numbers
  b_lw_numbers : Binds K a.d_lw_numbers ["script", "many"] []
  g_lw_numbers : mg "_law_numbers" = some (.ref (He.ga K "_law_numbers"))
  F_lw_object : Cm.FnP K "_law_object" s_lw_object (He.ga K "_law_object") a.d_lw_object
  b_lw_object : Binds K a.d_lw_object ["number"] []
  g_lw_object : mg "_law_object" = some (.ref (He.ga K "_law_object"))
  F_lw_value : Cm.FnP K "_law_value" s_lw_value (He.ga K "_law_value") a.d_lw_value
  b_lw_value : Binds K a.d_lw_value ["number"] []
  g_lw_value : mg "_law_value" = some (.ref (He.ga K "_law_value"))
  F_lw_values : Cm.FnP K "_law_values" s_lw_values (He.ga K "_law_values") a.d_lw_values
  b_lw_values : Binds K a.d_lw_values ["numbers", "at", "most"] []
  g_lw_values : mg "_law_values" = some (.ref (He.ga K "_law_values"))
  F_lw_entry : Cm.FnP K "_law_entry" s_lw_entry (He.ga K "_law_entry") a.d_lw_entry
  b_lw_entry : Binds K a.d_lw_entry ["numbers", "at"] []
  g_lw_entry : mg "_law_entry" = some (.ref (He.ga K "_law_entry"))
  F_lw_bundle : Cm.FnP K "_law_bundle" s_lw_bundle (He.ga K "_law_bundle") a.d_lw_bundle
  b_lw_bundle : Binds K a.d_lw_bundle ["numbers", "at"] []
  g_lw_bundle : mg "_law_bundle" = some (.ref (He.ga K "_law_bundle"))
  F_lw_bodies : Cm.FnP K "_law_bodies" s_lw_bodies (He.ga K "_law_bodies") a.d_lw_bodies
  b_lw_bodies : Binds K a.d_lw_bodies ["numbers"] []
  g_lw_bodies : mg "_law_bodies" = some (.ref (He.ga K "_law_bodies"))
  F_lw_told : Cm.FnP K "_law_told" s_lw_told (He.ga K "_law_told") a.d_lw_told
  b_lw_told : Binds K a.d_lw_told ["kind", "body"] []
  g_lw_told : mg "_law_told" = some (.ref (He.ga K "_law_told"))
  F_law : Cm.FnP K "law" s_law (He.ga K "law") a.d_law
  b_law : Binds K a.d_law ["script"] []
  g_law : mg "law" = some (.ref (He.ga K "law"))
  g_WORKING : mg "WORKING" = some (.ref (He.ga K "WORKING"))
  k_WORKING : ∀ H, SqT K H (He.ga K "WORKING") (v_WORKING.map (He.Dv.v K))
  g_ON_THE_WAY : mg "ON_THE_WAY" = some (.ref (He.ga K "ON_THE_WAY"))
  k_ON_THE_WAY : ∀ H, SqT K H (He.ga K "ON_THE_WAY") (v_ON_THE_WAY.map (He.Dv.v K))
  g_PortError : mg "PortError" = some (.ref (He.ga K "PortError"))
  g_NotAllowed : mg "NotAllowed" = some (.ref (He.ga K "NotAllowed"))
  g_Missing : mg "Missing" = some (.ref (He.ga K "Missing"))
  g_range : mg "range" = none
  g_len : mg "len" = none
  g_abs : mg "abs" = none
  g_max : mg "max" = none
  g_int : mg "int" = none
  g_tuple : mg "tuple" = none
  g_sorted : mg "sorted" = none
  g_isinstance : mg "isinstance" = none
  g_bool : mg "bool" = none
  x_NotAllowed : PySem.W.excIn K (He.ga K "NotAllowed") [.type "ValueError", .type "Exception", .type "BaseException", .type "object"] "ValueError.__new__" = true
  k_NotAllowed : PySem.W.keepIn K (.ref (He.ga K "NotAllowed")) = true
  s_NotAllowed : PySem.W.subIn K (.ref (He.ga K "NotAllowed")) (.type "BaseException") = some true
  t_NotAllowed : PySem.W.typeIn K (.ref (He.ga K "NotAllowed")) = some (.type "type")
  m1_ : PySem.W.findIn K (.ref (He.ga K "NotAllowed")) "__getattribute__" = some (some (.builtin "BaseException.__getattribute__"))
  m2_ : PySem.W.findIn K (.ref (He.ga K "NotAllowed")) "__getattr__" = some none
  m4_ : PySem.W.hasDictIn K (He.ga K "NotAllowed") = true
  m5_ : PySem.W.findIn K (.ref (He.ga K "NotAllowed")) "__class__" = some (some (.builtin "object.__class__"))
  m6_ : PySem.W.specialIn K (.builtin "object.__class__") "__get__" = some (some (.builtin "getset_descriptor.__get__"))
  m7_ : PySem.W.takesIn K (.builtin "object.__class__") = some true
  m8_ : PySem.W.mroIn K (He.ga K "NotAllowed") (.type "object") = some true
  e1_ : PySem.W.exmOne K (.ref (He.ga K "NotAllowed")) (.ref (He.ga K "NotAllowed")) = some true
  e2_ : PySem.W.kitOne K (.ref (He.ga K "NotAllowed")) (.ref (He.ga K "PortError")) = some true
  e3_ : PySem.W.kitOne K (.ref (He.ga K "NotAllowed")) (.ref (He.ga K "Missing")) = some false
variable {P : Program} {w : World} {K : PySem.W.Frag} {mg : Str → Option Value} {base : Heap} {a : Fds}
/-! ### the numbers of a script (the family with % 10007) -/
abbrev NumOk (ns : List Int) : Prop := ∀ n ∈ ns, 0 ≤ n ∧ n < 2147483647
def spNum2 (K : PySem.W.Frag) : Sp := fun vs H Q _ => ∃ (l : Addr) (ns : List Int) (many : Nat), vs = [.ref l, .int many] ∧ SqL K H l (ns.map V.int) ∧ ns.length ≤ 63 ∧ many ≤ 1000 ∧
  ∀ (H' : Hp) (p : Addr) (ms : List Int), Same H H' → H p = none → H' p = some (.lst (ms.map V.int)) → ms.length = many → NumOk ms → Q (.ref p) H'
theorem num_snoc {ns : List Int} {n : Int} (h : NumOk ns) (h0 : 0 ≤ n) (h1 : n < 2147483647) : NumOk (ns ++ [n]) := fun m hm => by
  rcases List.mem_append.mp hm with hm | hm
  · exact h m hm
  · rw [List.mem_singleton.mp hm]
    exact ⟨h0, h1⟩
theorem map_snoc {ns : List Int} {n : Int} : ns.map V.int ++ [V.int n] = (ns ++ [n]).map V.int := by
  rw [List.map_append]
  rfl
theorem len_map {ns : List Int} : (ns.map V.int).length = ns.length := List.length_map ..
theorem pMod : (0 : Int) < 10007 := by decide
theorem pMersenne : (0 : Int) < 2147483647 := by decide
theorem mersenne (z : Int) : 0 ≤ z % 2147483647 ∧ z % 2147483647 < 2147483647 := by omega
theorem cut_all {xs : List V} {n : Nat} (h : xs.length = n) : cutV xs none (some (n : Int)) = xs := by
  unfold cutV
  rw [HT.sIx_nat, show HT.sIx xs.length 0 none = 0 from rfl]
  rw [← h, Nat.min_self]
  simp
theorem ok_lw_numbers (T : Txt K mg w a) : FnOk P w K mg base CX0 1 (He.ga K "_law_numbers") a.d_lw_numbers ["script", "many"] (spNum2 K) := by
  refine T.F_lw_numbers.ok sc_lw_numbers (fun vs H Q E h => ?_) (fun cdv A outer s H vs Q E hr h => ?_)
  · obtain ⟨l, ns, many, rfl, _⟩ := h
    rfl
  · obtain ⟨l, sc, many, rfl, hl, hsc, hm, q⟩ := h
    refine ⟨_, PSs.nox (pss_cons (ps_set (i := 2) sc_lw_numbers.nd rfl (Or.inl rfl) (pe_lst pa_nil))
      (pss_cons (ps_for PassesOwn.never rfl (pi_range1 (by rfl) T.g_range (pa_cons (pe_callB call_len_seq (by rfl) T.g_len boot_len (pa_cons (pv 0) pa_nil)) pa_nil)) (pg_name (i := 3) sc_lw_numbers.nd rfl (Or.inl rfl))
      (pss_cons (ps_set (i := 4) sc_lw_numbers.nd rfl (Or.inl rfl) (pe_callB call_abs (by rfl) T.g_abs boot_abs (pa_cons (pe_callTy call_int1 (by rfl) T.g_int boot_int (pa_cons (pe_ix ix_list (pv 0) (pv 3) (fun _ _ => rfl)) pa_nil)) pa_nil)))
      (pss_one (ps_if (pt_cmpR op_ge (pv 4) (pe_op op_pow pe_int pe_int) (nomark _)) (pss_one (ps_for PassesOwn.never rfl (pi_range1 (by rfl) T.g_range (pa_cons pe_int pa_nil)) (pg_name (i := 5) sc_lw_numbers.nd rfl (Or.inl rfl))
      (pss_one (ps_if (PW.pt (pw_and (pt_cmpR op_gt (pv 4) pe_int (nomark _)) (pw_and1 (pt_cmpR op_lt (pe_callB call_len_seq (by rfl) T.g_len boot_len (pa_cons (pv 2) pa_nil)) (pv 1) (nomark _))))) (pss_cons (ps_expr (pe_bm PySem.F.plainAttrs_list PySem.F.slot_list_append PySem.F.type_list_append mt_append (pv 2) (pa_cons (pe_op op_mod (pv 4) pe_int) pa_nil)))
      (pss_one (ps_set (i := 4) sc_lw_numbers.nd rfl (Or.inl rfl) (pe_op op_fdiv (pv 4) pe_int)))) pss_nil)))) (pss_one (ps_if (pt_cmpR op_lt (pe_callB call_len_seq (by rfl) T.g_len boot_len (pa_cons (pv 2) pa_nil)) (pv 1) (nomark _)) (pss_cons (ps_set (i := 6) sc_lw_numbers.nd rfl (Or.inl rfl) (pe_op op_mod (pe_callTy call_int1 (by rfl) T.g_int boot_int (pa_cons (pe_op op_add (pe_op op_add (pe_op op_mul (pv 4) pe_int) (pe_op op_mul (pv 3) pe_int)) pe_int) pa_nil)) pe_int))
      (pss_one (ps_expr (pe_bm PySem.F.plainAttrs_list PySem.F.slot_list_append PySem.F.type_list_append mt_append (pv 2) (pa_cons (pe_op op_fdiv (pe_op op_mod (pe_callTy call_int1 (by rfl) T.g_int boot_int (pa_cons (pe_op op_add (pe_op op_add (pe_op op_mul (pv 6) pe_int) (pe_op op_mul pe_int (pv 3))) pe_int) pa_nil)) pe_int) pe_int) pa_nil))))) pss_nil))))))
      (pss_cons (ps_set (i := 7) sc_lw_numbers.nd rfl (Or.inl rfl) (pe_callB call_len_seq (by rfl) T.g_len boot_len (pa_cons (pv 2) pa_nil)))
      (pss_cons (ps_set (i := 8) sc_lw_numbers.nd rfl (Or.inl rfl) (pe_op op_add pe_int (pe_callB call_len_seq (by rfl) T.g_len boot_len (pa_cons (pv 0) pa_nil))))
      (pss_cons (ps_for PassesOwn.never rfl (pi_range1 (by rfl) T.g_range (pa_cons (pe_callB (call_max2 rfl) (by rfl) T.g_max boot_max (pa_cons pe_int (pa_cons (pe_op op_sub (pv 1) (pv 7)) pa_nil))) pa_nil)) (pg_name (i := 3) sc_lw_numbers.nd rfl (Or.inl rfl))
      (pss_cons (ps_if (pt_cmpR op_gt (pv 7) pe_int (nomark _)) (pss_one (ps_set (i := 8) sc_lw_numbers.nd rfl (Or.inl rfl) (pe_op op_add (pv 8) (pe_ix ix_list (pv 2) (pe_op op_mod (pv 3) (pv 7)) (fun _ _ => rfl))))) pss_nil)
      (pss_cons (ps_set (i := 8) sc_lw_numbers.nd rfl (Or.inl rfl) (pe_op op_mod (pe_callTy call_int1 (by rfl) T.g_int boot_int (pa_cons (pe_op op_add (pe_op op_mul (pv 8) pe_int) (pv 3)) pa_nil)) pe_int))
      (pss_one (ps_expr (pe_bm PySem.F.plainAttrs_list PySem.F.slot_list_append PySem.F.type_list_append mt_append (pv 2) (pa_cons (pe_op op_fdiv (pv 8) pe_int) pa_nil)))))))
      (pss_one (ps_ret (pe_slice sl_list (pv 2) po_none (po_some (pv 1)))))))))), ?_⟩
    -- numbers = []
    refine ⟨Nat.zero_le _, fun p np => ?_⟩
    have s0 : Same H (upd H p (.lst [])) := Cm.same_new np
    -- for k in range(len(script))
    refine ⟨_, rfl, l, _, rfl, .inl (s0.seq hl), ((sc.map V.int).length : Int), rfl, by omega, by rw [len_map]; omega, ?_⟩
    rw [Int.toNat_natCast]
    refine for_range (fun i σ H2 => ∃ (ms : List Int) (x3 x4 x5 x6 : Option V), σ = [some (.ref l), some (.int many), some (.ref p), x3, x4, x5, x6, none, none] ∧ Same H H2 ∧ H2 p = some (.lst (ms.map V.int)) ∧ ms.length ≤ many ∧ NumOk ms)
      ⟨[], none, none, none, none, rfl, s0, upd_same, Nat.zero_le _, fun n h => nomatch h⟩ (fun i σ H2 hi ⟨ms, x3, x4, x5, x6, e, s2, hp, hn, ha⟩ => ?_) fun σ H2 ⟨ms, x3, x4, x5, x6, e, s2, hp, hn, ha⟩ => ?_
    · subst e
      rw [len_map] at hi
      obtain ⟨c, _, ec⟩ := Cm.at_int (ns := sc) (i := (0 + (i : Int))) (by omega) (by omega)
      refine ⟨_, rfl, _, rfl, l, _, _, _, rfl, rfl, s2.seq hl, ec, .inl ⟨_, rfl, _, rfl, ?_⟩⟩
      generalize (if c < 0 then -c else c) = c0
      refine ⟨_, rfl, _, _, rfl, rfl, ⟨by decide, by decide, by decide⟩, _, _, rfl, rfl, _, rfl, Cm.itD (fun _ => ?_) fun _ => ?_⟩
      · refine ⟨60, rfl, by decide, by decide, for_range (n := 60) (fun j σ H2 => ∃ (ms : List Int) (c : Int) (x5 : Option V), σ = [some (.ref l), some (.int many), some (.ref p), some (.int (0 + (i : Int))), some (.int c), x5, x6, none, none] ∧ Same H H2 ∧ H2 p = some (.lst (ms.map V.int)) ∧ ms.length ≤ many ∧ NumOk ms)
          ⟨ms, c0, x5, rfl, s2, hp, hn, ha⟩ (fun j σ H2 hj ⟨ms, c, x5, e, s2, hp, hn, ha⟩ => ?_) fun σ H2 ⟨ms, c, x5, e, s2, hp, hn, ha⟩ => ?_⟩
        · subst e
          refine ⟨_, rfl, _, _, rfl, rfl, _, rfl, Cm.itD (fun h1 => ?_) fun h1 => ?_⟩
          · refine ⟨_, rfl, p, _, rfl, .inl (SqL.of hp), _, rfl, _, _, rfl, rfl, _, rfl, Cm.itD (fun h2 => ?_) fun h2 => ?_⟩
            · rw [len_map] at h2
              refine ⟨_, rfl, .inl ⟨rfl, _, SqL.of hp⟩, _, rfl, _, _, rfl, rfl, pMod, p, _, _, rfl, rfl, hp, Cm.smallL (by rw [len_map]; omega), ?_⟩
              refine ⟨_, rfl, _, _, rfl, rfl, ⟨by decide, by decide⟩, ?_⟩
              exact ⟨ms ++ [c % 10007], _, _, rfl, Cm.same_mut s2 np, by rw [upd_same, map_snoc], by rw [List.length_append]; simp only [List.length_cons, List.length_nil]; omega, num_snoc ha (by omega) (by omega)⟩
            · exact ⟨ms, c, _, rfl, s2, hp, hn, ha⟩
          · exact ⟨ms, c, _, rfl, s2, hp, hn, ha⟩
        · subst e
          exact ⟨ms, _, _, _, _, rfl, s2, hp, hn, ha⟩
      · refine ⟨_, rfl, p, _, rfl, .inl (SqL.of hp), _, rfl, _, _, rfl, rfl, _, rfl, Cm.itD (fun h2 => ?_) fun h2 => ?_⟩
        · rw [len_map] at h2
          refine ⟨_, rfl, _, _, rfl, rfl, .inr ⟨by decide, by decide⟩, _, rfl, _, _, rfl, rfl, .inr ⟨by decide, by decide⟩, _, _, rfl, rfl, _, _, rfl, rfl, .inl ⟨_, rfl, _, _, rfl, rfl, pMersenne, ?_⟩⟩
          refine ⟨_, rfl, .inl ⟨rfl, _, SqL.of hp⟩, _, rfl, _, _, rfl, rfl, .inr ⟨by decide, by decide⟩, _, rfl, _, _, rfl, rfl, .inl ⟨by decide, by decide⟩, _, _, rfl, rfl, _, _, rfl, rfl, .inl ⟨_, rfl, _, _, rfl, rfl, pMersenne, _, _, rfl, rfl, ⟨by decide, by decide⟩, p, _, _, rfl, rfl, hp, Cm.smallL (by rw [len_map]; omega), ?_⟩⟩
          have hy := mersenne ((c0 * 48271 + (0 + (i : Int)) * 69621 + 11) % 2147483647 * 16807 + 7 * (0 + (i : Int)) + 3)
          exact ⟨ms ++ [((c0 * 48271 + (0 + (i : Int)) * 69621 + 11) % 2147483647 * 16807 + 7 * (0 + (i : Int)) + 3) % 2147483647 / 3], _, _, _, _, rfl, Cm.same_mut s2 np, by rw [upd_same, map_snoc], by rw [List.length_append]; simp only [List.length_cons, List.length_nil]; omega, num_snoc ha (by omega) (by omega)⟩
        · exact ⟨ms, _, _, _, _, rfl, s2, hp, hn, ha⟩
    · subst e
      -- base = len(numbers)
      refine ⟨_, rfl, p, _, rfl, .inl (SqL.of hp), ?_⟩
      rw [len_map]
      refine ⟨_, rfl, l, _, rfl, .inl (s2.seq hl), _, _, rfl, rfl, ?_⟩
      rw [len_map]
      -- for k in range(max(0, many - base))
      refine ⟨_, rfl, _, rfl, _, _, rfl, rfl, _, _, rfl, _, rfl, by split <;> omega, by split <;> omega, ?_⟩
      rw [show (if (many : Int) - (ms.length : Int) > 0 then (many : Int) - (ms.length : Int) else 0).toNat = many - ms.length by split <;> omega]
      have nb : NumOk ms := ha
      refine for_range (n := many - ms.length) (fun i σ H2 => ∃ (m2 : List Int) (L : Int) (x3 : Option V), σ = [some (.ref l), some (.int many), some (.ref p), x3, x4, x5, x6, some (.int ms.length), some (.int L)] ∧ (0 ≤ L ∧ L < 2147483647) ∧ Same H H2 ∧ H2 p = some (.lst (m2.map V.int)) ∧ m2.length = ms.length + i ∧ NumOk m2)
        ⟨ms, _, _, rfl, ⟨by omega, by omega⟩, s2, hp, rfl, ha⟩ (fun i σ H2 hi ⟨m2, L, x3, e, hL, s2, hp, hn2, ha⟩ => ?_) fun σ H2 ⟨m2, L, x3, e, hL, s2, hp, hn2, ha⟩ => ?_
      · subst e
        refine ⟨_, rfl, _, _, rfl, rfl, _, rfl, Cm.itD (fun hb => ?_) fun hb => ?_⟩
        · have hb0 : (0 : Int) < (ms.length : Int) := hb
          have g0 := Int.emod_nonneg (0 + (i : Int)) (show (ms.length : Int) ≠ 0 by omega)
          have g1 := Int.emod_lt_of_pos (0 + (i : Int)) hb0
          obtain ⟨v, hv, ev⟩ := Cm.at_int (ns := m2) (i := (0 + (i : Int)) % (ms.length : Int)) g0 (by omega)
          obtain ⟨hv0, hv1⟩ := ha v hv
          refine ⟨_, rfl, _, rfl, _, rfl, _, rfl, _, _, rfl, rfl, hb0, p, _, _, _, rfl, rfl, SqL.of hp, ev, _, _, rfl, rfl, ?_⟩
          refine ⟨_, rfl, _, _, rfl, rfl, .inr ⟨by decide, by decide⟩, _, rfl, _, _, rfl, rfl, .inl ⟨_, rfl, _, _, rfl, rfl, pMersenne, ?_⟩⟩
          have hy := mersenne ((L + v) * 48271 + (0 + (i : Int)))
          refine ⟨_, rfl, .inl ⟨rfl, _, SqL.of hp⟩, _, rfl, _, _, rfl, rfl, ⟨by decide, by decide⟩, p, _, _, rfl, rfl, hp, Cm.smallL (by rw [len_map]; omega), ?_⟩
          exact ⟨m2 ++ [((L + v) * 48271 + (0 + (i : Int))) % 2147483647 / 7], _, _, rfl, hy, Cm.same_mut s2 np, by rw [upd_same, map_snoc], by rw [List.length_append]; simp only [List.length_cons, List.length_nil]; omega, num_snoc ha (by omega) (by omega)⟩
        · refine ⟨_, rfl, _, _, rfl, rfl, .inr ⟨by decide, by decide⟩, _, rfl, _, _, rfl, rfl, .inl ⟨_, rfl, _, _, rfl, rfl, pMersenne, ?_⟩⟩
          have hy := mersenne (L * 48271 + (0 + (i : Int)))
          refine ⟨_, rfl, .inl ⟨rfl, _, SqL.of hp⟩, _, rfl, _, _, rfl, rfl, ⟨by decide, by decide⟩, p, _, _, rfl, rfl, hp, Cm.smallL (by rw [len_map]; omega), ?_⟩
          exact ⟨m2 ++ [(L * 48271 + (0 + (i : Int))) % 2147483647 / 7], _, _, rfl, hy, Cm.same_mut s2 np, by rw [upd_same, map_snoc], by rw [List.length_append]; simp only [List.length_cons, List.length_nil]; omega, num_snoc ha (by omega) (by omega)⟩
      · subst e
        have hl2 : m2.length = many := by omega
        refine ⟨_, rfl, _, rfl, _, rfl, p, _, rfl, SqL.of hp, fun p2 np2 => ?_⟩
        rw [cut_all (by rw [len_map]; exact hl2)]
        exact q _ p2 m2 (s2.trans (Cm.same_new np2)) (s2.free np2) upd_same hl2 ha
/-- numbers[x % len(numbers)] -/
theorem at_mod {ns : List Int} (x : Int) (h : 0 < ns.length) : (0 : Int) < ((ns.map V.int).length : Int) ∧ ∃ v, v ∈ ns ∧ atI (ns.map V.int) (x % ((ns.map V.int).length : Int)) = some (.int v) := by
  have hp : (0 : Int) < ((ns.map V.int).length : Int) := by
    rw [len_map]
    omega
  have h0 := Int.emod_nonneg x (show ((ns.map V.int).length : Int) ≠ 0 by omega)
  have h1 := Int.emod_lt_of_pos x hp
  obtain ⟨v, hv, ev⟩ := Cm.at_int (ns := ns) h0 (by rw [len_map] at h1 ⊢; exact h1)
  exact ⟨hp, v, hv, ev⟩
open ND
/-! ### drawn objects, values, entries, bundles -/
def ProcD (d : PyData) : Prop := ∃ ns : List Int, d = .tuple (ns.map PyData.int) ∧ ns.length ≤ 3 ∧ ∀ n ∈ ns, 0 ≤ n ∧ n ≤ 12
def ObjD (d : PyData) : Prop := ∃ (pd : PyData) (j : Int), d = .tuple [pd, .int j] ∧ ProcD pd ∧ 0 ≤ j ∧ j ≤ 13
def ValD (d : PyData) : Prop := d = .tuple [.str "nil"] ∨ (∃ o, ObjD o ∧ d = .tuple [.str "ref", o]) ∨ ∃ i : Int, d = .int i ∧ -1000000000000 ≤ i ∧ i ≤ 1000000000000
def ValsD (m : Nat) (d : PyData) : Prop := ∃ ds, d = .tuple ds ∧ ds.length ≤ m ∧ ∀ x ∈ ds, ValD x
/-- numbers of a script in a list -/
def NumAt (K : PySem.W.Frag) (H : Hp) (nu : Addr) (ns : List Int) : Prop := H nu = some (.lst (ns.map V.int)) ∧ NumOk ns ∧ ns.length = 70
theorem NumAt.same {H H' : Hp} {nu : Addr} {ns : List Int} (s : Same H H') (h : NumAt K H nu ns) : NumAt K H' nu ns := ⟨s _ _ h.1, h.2⟩
def spObjN (K : PySem.W.Frag) : Sp := fun vs H Q _ => ∃ n : Int, vs = [.int n] ∧ 0 ≤ n ∧ ∀ H' v pd j pv, Same H H' → Rp K H' v (.tuple [pd, .int j]) → ProcD pd → 0 ≤ j → j ≤ 13 → (v = .ref pv → True) → Q v H'
theorem ok_lw_object (T : Txt K mg w a) : FnOk P w K mg base CX0 1 (He.ga K "_law_object") a.d_lw_object ["number"] (spObjN K) := by
  refine T.F_lw_object.ok sc_lw_object (fun vs H Q E h => ?_) (fun cdv A outer s H vs Q E hr h => ?_)
  · obtain ⟨n, rfl, _⟩ := h
    rfl
  · obtain ⟨n, rfl, hn, q⟩ := h
    refine ⟨_, PSs.nox (pss_cons (ps_set (i := 1) sc_lw_object.nd rfl (Or.inl rfl) (pe_ix ix_list (pe_lst (pa_cons (pe_tup pa_nil) (pa_cons (pe_tup (pa_cons pe_int pa_nil)) (pa_cons (pe_tup (pa_cons pe_int pa_nil)) (pa_cons (pe_tup (pa_cons pe_int (pa_cons pe_int pa_nil))) (pa_cons (pe_tup (pa_cons pe_int pa_nil)) (pa_cons (pe_tup (pa_cons pe_int (pa_cons pe_int (pa_cons pe_int pa_nil)))) pa_nil))))))) (pe_op op_mod (pv 0) pe_int) (fun _ _ => rfl)))
      (pss_one (ps_ret (pe_tup (pa_cons (pv 1) (pa_cons (pe_op op_mod (pe_op op_fdiv (pv 0) pe_int) pe_int) pa_nil)))))), ?_⟩
    rw [show L2.start N_lw_object [.int n] = [some (.int n), none] from rfl]
    refine ⟨Nat.zero_le _, fun a0 h0 => ⟨Cm.small (by show 1 ≤ 100000; decide), fun a1 h1 => ⟨Cm.small (by show 1 ≤ 100000; decide), fun a2 h2 => ⟨Cm.small (by show 2 ≤ 100000; decide), fun a3 h3 => ⟨Cm.small (by show 1 ≤ 100000; decide), fun a4 h4 => ⟨Cm.small (by show 3 ≤ 100000; decide), fun a5 h5 => ⟨Cm.small (by show 6 ≤ 100000; decide), fun al hal => ?_⟩⟩⟩⟩⟩⟩⟩
    have s6 := Cm.same_new (o := .lst [.ref a0, .ref a1, .ref a2, .ref a3, .ref a4, .ref a5]) hal
    have s5 := (Cm.same_new (o := .tup [.int 0, .int 0, .int 1]) h5).trans s6
    have s4 := (Cm.same_new (o := .tup [.int 12]) h4).trans s5
    have s3 := (Cm.same_new (o := .tup [.int 0, .int 2]) h3).trans s4
    have s2 := (Cm.same_new (o := .tup [.int 1]) h2).trans s3
    have s1 := (Cm.same_new (o := .tup [.int 0]) h1).trans s2
    have s0 := (Cm.same_new (o := .tup []) h0).trans s1
    have r0 := (Rp.made (K := K) h0 .nil).keep (Same.tups s1)
    have r1 := (Rp.made (K := K) h1 (.cons (.int 0) .nil)).keep (Same.tups s2)
    have r2 := (Rp.made (K := K) h2 (.cons (.int 1) .nil)).keep (Same.tups s3)
    have r3 := (Rp.made (K := K) h3 (.cons (.int 0) (.cons (.int 2) .nil))).keep (Same.tups s4)
    have r4 := (Rp.made (K := K) h4 (.cons (.int 12) .nil)).keep (Same.tups s5)
    have r5 := (Rp.made (K := K) h5 (.cons (.int 0) (.cons (.int 0) (.cons (.int 1) .nil)))).keep (Same.tups s6)
    have hl : (upd (upd (upd (upd (upd (upd (upd H a0 (.tup [])) a1 (.tup [.int 0])) a2 (.tup [.int 1])) a3 (.tup [.int 0, .int 2])) a4 (.tup [.int 12])) a5 (.tup [.int 0, .int 0, .int 1])) al (.lst [.ref a0, .ref a1, .ref a2, .ref a3, .ref a4, .ref a5])) al = some (.lst [.ref a0, .ref a1, .ref a2, .ref a3, .ref a4, .ref a5]) := upd_same
    generalize upd (upd (upd (upd (upd (upd (upd H a0 (.tup [])) a1 (.tup [.int 0])) a2 (.tup [.int 1])) a3 (.tup [.int 0, .int 2])) a4 (.tup [.int 12])) a5 (.tup [.int 0, .int 0, .int 1])) al (.lst [.ref a0, .ref a1, .ref a2, .ref a3, .ref a4, .ref a5]) = HL at *
    obtain ⟨v, hv, ev⟩ := Cm.at_in (xs := [V.ref a0, V.ref a1, V.ref a2, V.ref a3, V.ref a4, V.ref a5]) (i := n % 6) (by omega) (by show n % 6 < 6; omega)
    obtain ⟨pd, rp, hpd⟩ : ∃ pd, Rp K HL v pd ∧ ProcD pd := by
      simp only [List.mem_cons, List.not_mem_nil, or_false] at hv
      rcases hv with rfl | rfl | rfl | rfl | rfl | rfl
      · exact ⟨_, r0, [], rfl, by decide, by decide⟩
      · exact ⟨_, r1, [0], rfl, by decide, by decide⟩
      · exact ⟨_, r2, [1], rfl, by decide, by decide⟩
      · exact ⟨_, r3, [0, 2], rfl, by decide, by decide⟩
      · exact ⟨_, r4, [12], rfl, by decide, by decide⟩
      · exact ⟨_, r5, [0, 0, 1], rfl, by decide, by decide⟩
    refine ⟨_, rfl, _, _, rfl, rfl, (by show (0 : Int) < 6; decide), al, _, _, _, rfl, rfl, SqL.of hl, ev, ?_⟩
    refine ⟨_, rfl, _, rfl, _, _, rfl, rfl, ⟨by decide, by decide⟩, _, _, rfl, rfl, (by show (0 : Int) < 14; decide), Cm.small (by show 2 ≤ 100000; decide), fun t nt => ?_⟩
    exact q _ _ pd (n / 6 % 14) 0 (s0.trans (Cm.same_new nt)) (Rp.made nt (.cons rp (.cons (.int _) .nil))) hpd (by omega) (by omega) fun _ => trivial
def spValN (K : PySem.W.Frag) : Sp := fun vs H Q _ => ∃ n : Int, vs = [.int n] ∧ 0 ≤ n ∧ ∀ H' v d, Same H H' → Rp K H' v d → ValD d → Q v H'
theorem ok_lw_value (T : Txt K mg w a) : FnOk P w K mg base CX0 2 (He.ga K "_law_value") a.d_lw_value ["number"] (spValN K) := by
  refine T.F_lw_value.ok sc_lw_value (fun vs H Q E h => ?_) (fun cdv A outer s H vs Q E hr h => ?_)
  · obtain ⟨n, rfl, _⟩ := h
    rfl
  · obtain ⟨n, rfl, hn, q⟩ := h
    refine ⟨_, PSs.nox (pss_cons (ps_set (i := 1) sc_lw_value.nd rfl (Or.inl rfl) (pe_op op_mod (pv 0) pe_int))
      (pss_cons (ps_if (pt_cmpR op_eq (pv 1) pe_int (nomark _)) (pss_one (ps_ret (pe_tup (pa_cons pe_str pa_nil)))) pss_nil)
      (pss_cons (ps_if (pt_cmpR op_eq (pv 1) pe_int (nomark _)) (pss_one (ps_ret (pe_tup (pa_cons pe_str (pa_cons (pe_call (ok_lw_object T) (hr.mono (by omega)) (by rfl) T.g_lw_object T.F_lw_object.kp T.b_lw_object .nil pass0 (pa_cons (pe_op op_fdiv (pv 0) pe_int) pa_nil)) pa_nil))))) pss_nil)
      (pss_cons (ps_if (pt_cmpR op_eq (pv 1) pe_int (nomark _)) (pss_one (ps_ret (pe_ix ix_list (pe_lst (pa_cons (pe_op op_pow pe_int pe_int) (pa_cons (pe_op op_sub pe_int (pe_op op_pow pe_int pe_int)) (pa_cons pe_int pa_nil)))) (pe_op op_mod (pe_op op_fdiv (pv 0) pe_int) pe_int) (fun _ _ => rfl)))) pss_nil)
      (pss_one (ps_ret (pe_op op_sub (pe_op op_mod (pe_op op_fdiv (pv 0) pe_int) pe_int) pe_int))))))), ?_⟩
    rw [show L2.start N_lw_value [.int n] = [some (.int n), none] from rfl]
    refine ⟨_, rfl, _, _, rfl, rfl, (by show (0 : Int) < 5; decide), ?_⟩
    refine ⟨_, rfl, rfl, _, rfl, Cm.itEI (fun e1 => ?_) fun e1 => ?_⟩
    · refine ⟨Cm.small (by show 1 ≤ 100000; decide), fun t nt => ?_⟩
      exact q _ _ _ (Cm.same_new nt) (Rp.made nt (.cons (.str "nil") .nil)) (.inl rfl)
    refine ⟨_, rfl, rfl, _, rfl, Cm.itEI (fun e2 => ?_) fun e2 => ?_⟩
    · refine ⟨_, rfl, _, _, rfl, rfl, ⟨by decide, by decide⟩, n / 5, rfl, by omega, fun H' v pd j _ s1 rv hpd hj0 hj1 _ => ?_⟩
      refine ⟨Cm.small (by show 2 ≤ 100000; decide), fun t nt => ?_⟩
      exact q _ _ _ (s1.trans (Cm.same_new nt)) (Rp.made nt (.cons (.str "ref") (.cons rv .nil))) (.inr (.inl ⟨_, ⟨pd, j, rfl, hpd, hj0, hj1⟩, rfl⟩))
    refine ⟨_, rfl, rfl, _, rfl, Cm.itEI (fun e3 => ?_) fun e3 => ?_⟩
    · refine ⟨_, _, rfl, rfl, ⟨by decide, by decide, by decide⟩, _, _, rfl, rfl, ⟨by decide, by decide, by decide⟩, _, _, rfl, rfl, Cm.small (by show 3 ≤ 100000; decide), fun t nt => ?_⟩
      obtain ⟨i, hi, ei⟩ := Cm.at_int (ns := [10 ^ (12 : Int).toNat, 0 - 10 ^ (12 : Int).toNat, 0]) (i := n / 5 % 3) (by omega) (by show n / 5 % 3 < 3; omega)
      refine ⟨_, rfl, _, _, rfl, rfl, ⟨by decide, by decide⟩, _, _, rfl, rfl, (by show (0 : Int) < 3; decide), t, _, _, _, rfl, rfl, Cm.sql_new, ei, ?_⟩
      refine q _ _ _ (Cm.same_new nt) (.int i) (.inr (.inr ⟨i, rfl, ?_⟩))
      simp only [List.mem_cons, List.not_mem_nil, or_false] at hi
      rcases hi with rfl | rfl | rfl <;> decide +kernel
    refine ⟨_, rfl, _, _, rfl, rfl, ⟨by decide, by decide⟩, _, _, rfl, rfl, (by show (0 : Int) < 61; decide), _, _, rfl, rfl, ?_⟩
    exact q _ _ _ (Same.refl H) (.int _) (.inr (.inr ⟨_, rfl, by omega, by omega⟩))
def spValsN (K : PySem.W.Frag) : Sp := fun vs H Q _ => ∃ (nu : Addr) (ns : List Int) (at_ : Int) (most : Nat), vs = [.ref nu, .int at_, .int most] ∧ NumAt K H nu ns ∧ most ≤ 10 ∧ ∀ H' v ds, Same H H' → Rp K H' v (.tuple ds) → ds.length ≤ most → (∀ x ∈ ds, ValD x) → Q v H'
theorem ok_lw_values (T : Txt K mg w a) : FnOk P w K mg base CX0 3 (He.ga K "_law_values") a.d_lw_values ["numbers", "at", "most"] (spValsN K) := by
  refine T.F_lw_values.ok sc_lw_values (fun vs H Q E h => ?_) (fun cdv A outer s H vs Q E hr h => ?_)
  · obtain ⟨nu, ns, at_, most, rfl, _⟩ := h
    rfl
  · obtain ⟨nu, ns, at_, most, rfl, ⟨hnu, hok, hlen⟩, hm, q⟩ := h
    refine ⟨_, PSs.nox (pss_one (ps_ret (pe_callTy call_tuple_of (by rfl) T.g_tuple boot_tuple (pa_cons (pe_lc (own := [("k", 3)]) (g := gName 3) (tt := tYes)  (by rfl) sc_lw_values.nd (pi_range1 (by rfl) T.g_range (pa_cons (pe_op op_mod (pe_op op_fdiv (pe_ix ix_list (pv 0) (pe_op op_mod (pe_callTy call_int1 (by rfl) T.g_int boot_int (pa_cons (pv 1) pa_nil)) (pe_callB call_len_seq (by rfl) T.g_len boot_len (pa_cons (pv 0) pa_nil))) (fun _ _ => rfl)) pe_int) (pe_op op_add (pv 2) pe_int)) pa_nil)) (blkOk_by (own := [("k", 3)]) (N := N_lw_values) (sc := defScope s_lw_values) (by decide +kernel)) (fun _ _ _ _ _ => pg_name (i := 3) sc_lw_values.nd rfl (Or.inl rfl)) (fun _ _ _ _ _ => pts_nil) (fun _ _ _ _ _ => (pe_call (ok_lw_value T) (hr.mono (by omega)) (by rfl) T.g_lw_value T.F_lw_value.kp T.b_lw_value .nil pass0 (pa_cons (pe_ix (r := rIxL K) ix_list (pv 0) (pe_op op_mod (pe_callTy call_int1 (by rfl) T.g_int boot_int (pa_cons (pe_op op_add (pv 1) (pv 3)) pa_nil)) (pe_callB (Nst.len_seq K rfl) (by rfl) T.g_len boot_len (pa_cons (pv 0) pa_nil))) (fun _ _ => rfl)) pa_nil)))) pa_nil)))), ?_⟩
    rw [show L2.start N_lw_values [.ref nu, .int at_, .int most] = [some (.ref nu), some (.int at_), some (.int most), none] from rfl]
    obtain ⟨p0, n0, hn0, e0⟩ := at_mod (ns := ns) at_ (by omega)
    obtain ⟨g0, _⟩ := hok n0 hn0
    refine ⟨_, rfl, _, rfl, .inl ⟨_, rfl, _, rfl, nu, _, rfl, .inl (SqL.of hnu), _, _, rfl, rfl, p0, nu, _, _, _, rfl, rfl, SqL.of hnu, e0, _, _, rfl, rfl, ⟨by decide, by decide⟩, ?_⟩⟩
    have hm1 : (0 : Int) < (most : Int) + 1 := by omega
    have b0 := Int.emod_nonneg (n0 / 7) (show (most : Int) + 1 ≠ 0 by omega)
    have b1 := Int.emod_lt_of_pos (n0 / 7) hm1
    refine ⟨_, rfl, _, _, rfl, rfl, _, _, rfl, rfl, hm1, _, rfl, by omega, by omega, fun D nD => ?_⟩
    refine lc_range (n := (n0 / 7 % ((most : Int) + 1)).toNat) (fun k Hi => Same H Hi ∧ ∃ acc ds, Hi D = some (.lst acc) ∧ Rps K Hi acc ds ∧ ds.length = k ∧ ∀ x ∈ ds, ValD x) ⟨Cm.same_new nD, [], [], upd_same, .nil, rfl, fun _ h => nomatch h⟩ (fun k Hi hk ⟨sH, acc, ds, hD, rD, lD, vD⟩ => ?_) fun Hi ⟨sH, acc, ds, hD, rD, lD, vD⟩ => ?_
    · refine ⟨rfl, ?_⟩
      simp only [List.map_cons, List.map_nil, List.set_cons_succ, List.set_cons_zero, wipe]
      obtain ⟨p1, n1, hn1, e1⟩ := at_mod (ns := ns) (at_ + (0 + (k : Int))) (by omega)
      obtain ⟨g1, _⟩ := hok n1 hn1
      have hni := sH _ _ hnu
      refine ⟨_, rfl, _, rfl, _, rfl, _, _, rfl, rfl, .inl ⟨_, rfl, _, rfl, nu, _, rfl, .inl (SqL.of hni), _, _, rfl, rfl, p1, nu, _, _, _, rfl, rfl, SqL.of hni, e1, ?_⟩⟩
      refine ⟨n1, rfl, g1, fun H' v d s' rv hv => ?_⟩
      have hD' := s' _ _ hD
      have la := rD.len
      have tk : TK K H' (upd H' D (.lst (acc ++ [v]))) := TK.upd (by rw [hD']; exact True.intro)
      refine ⟨acc, hD', Cm.smallL (by omega), Cm.same_mut (sH.trans s') nD, acc ++ [v], ds ++ [d], upd_same, rps_keep tk ((rD.keep (Same.tups s')).app (.cons rv .nil)), by rw [List.length_append, lD]; rfl, fun x hx => ?_⟩
      rcases List.mem_append.mp hx with hx | hx
      · exact vD x hx
      · rw [List.mem_singleton.mp hx]
        exact hv
    · refine ⟨D, acc, rfl, .inl ⟨SqL.of hD, fun l nl => ?_⟩⟩
      exact q _ _ ds (sH.trans (Cm.same_new nl)) (Rp.made nl rD) (by omega) vD
def FrD (d : PyData) : Prop := ∃ (op : Str) (i : Int) (ls st : List PyData), d = .tuple [.str op, .int i, .tuple ls, .tuple st] ∧ op ∈ (["start", "get", "f2", "Put"] : List Str) ∧ 0 ≤ i ∧ i ≤ 11 ∧ ls.length ≤ 3 ∧ st.length ≤ 3 ∧ (∀ x ∈ ls, ValD x) ∧ ∀ x ∈ st, ValD x
def TokD (tok : PyData) (wd : Str) : Prop := (∃ x y : Int, tok = .tuple [.int x, .int y] ∧ 0 ≤ x ∧ x ≤ 4 ∧ 0 ≤ y ∧ y ≤ 3) ∨ (tok = .none ∧ wd = "")
abbrev wordsF : List Str := ["", "", "", "number", "large", "nil"]
def EntD (d : PyData) : Prop := ∃ (pd : PyData) (dep : Int) (fr back tok : PyData) (wd : Str), d = .tuple [pd, .int dep, fr, back, tok, .str wd] ∧ ProcD pd ∧ 0 ≤ dep ∧ dep ≤ 3 ∧ FrD fr ∧ (dep = 0 → back = .tuple []) ∧ (dep ≠ 0 → ObjD back) ∧ TokD tok wd ∧ wd ∈ wordsF
def spEntN (K : PySem.W.Frag) : Sp := fun vs H Q _ => ∃ (nu : Addr) (ns : List Int) (at_ : Int), vs = [.ref nu, .int at_] ∧ NumAt K H nu ns ∧ ∀ H' v d, Same H H' → Rp K H' v d → EntD d → Q v H'
theorem ok_lw_entry (T : Txt K mg w a) : FnOk P w K mg base CX0 4 (He.ga K "_law_entry") a.d_lw_entry ["numbers", "at"] (spEntN K) := by
  refine T.F_lw_entry.ok sc_lw_entry (fun vs H Q E h => ?_) (fun cdv A outer s H vs Q E hr h => ?_)
  · obtain ⟨nu, ns, at_, rfl, _⟩ := h
    rfl
  · obtain ⟨nu, ns, at_, rfl, N, q⟩ := h
    obtain ⟨hnu, hok, hlen⟩ := id N
    refine ⟨_, PSs.nox (pss_cons (ps_set (i := 2) sc_lw_entry.nd rfl (Or.inl rfl) (pe_ix ix_list (pv 0) (pe_op op_mod (pe_callTy call_int1 (by rfl) T.g_int boot_int (pa_cons (pv 1) pa_nil)) (pe_callB call_len_seq (by rfl) T.g_len boot_len (pa_cons (pv 0) pa_nil))) (fun _ _ => rfl)))
      (pss_cons (ps_asg (pe_call (ok_lw_object T) (hr.mono (by omega)) (by rfl) T.g_lw_object T.F_lw_object.kp T.b_lw_object .nil pass0 (pa_cons (pv 2) pa_nil)) (pg_tup (by rfl) (pgs_cons (pg_name (i := 3) sc_lw_entry.nd rfl (Or.inl rfl)) (pgs_cons (pg_name (i := 4) sc_lw_entry.nd rfl (Or.inl rfl)) pgs_nil))))
      (pss_cons (ps_set (i := 5) sc_lw_entry.nd rfl (Or.inl rfl) (pe_op op_mod (pe_op op_fdiv (pv 2) pe_int) pe_int))
      (pss_cons (ps_set (i := 6) sc_lw_entry.nd rfl (Or.inl rfl) (pe_tup pa_nil))
      (C8.pss_cut (ps_if (pt_cmpR op_gt (pv 5) pe_int (nomark _)) (pss_one (ps_set (i := 6) sc_lw_entry.nd rfl (Or.inl rfl) (pe_call (ok_lw_object T) (hr.mono (by omega)) (by rfl) T.g_lw_object T.F_lw_object.kp T.b_lw_object .nil pass0 (pa_cons (pe_ix ix_list (pv 0) (pe_op op_mod (pe_callTy call_int1 (by rfl) T.g_int boot_int (pa_cons (pe_op op_add (pv 1) pe_int) pa_nil)) (pe_callB call_len_seq (by rfl) T.g_len boot_len (pa_cons (pv 0) pa_nil))) (fun _ _ => rfl)) pa_nil)))) pss_nil)
      (pss_cons (ps_set (i := 7) sc_lw_entry.nd rfl (Or.inl rfl) (pe_ix ix_list (pe_lst (pa_cons pe_str (pa_cons pe_str (pa_cons pe_str (pa_cons pe_str (pa_cons pe_str (pa_cons pe_str pa_nil))))))) (pe_op op_mod (pe_ix ix_list (pv 0) (pe_op op_mod (pe_callTy call_int1 (by rfl) T.g_int boot_int (pa_cons (pe_op op_add (pv 1) pe_int) pa_nil)) (pe_callB call_len_seq (by rfl) T.g_len boot_len (pa_cons (pv 0) pa_nil))) (fun _ _ => rfl)) pe_int) (fun _ _ => rfl)))
      (pss_cons (ps_set (i := 8) sc_lw_entry.nd rfl (Or.inl rfl) (pe_tup (pa_cons (pe_op op_mod (pe_op op_fdiv (pv 2) pe_int) pe_int) (pa_cons (pe_op op_mod (pe_op op_fdiv (pv 2) pe_int) pe_int) pa_nil))))
      (C8.pss_cut (ps_if (PW.pt (pw_and (pt_cmpR op_eq (pv 7) pe_str (nomark _)) (pw_and1 (pt_cmpR op_eq (pe_op op_mod (pe_op op_fdiv (pe_ix ix_list (pv 0) (pe_op op_mod (pe_callTy call_int1 (by rfl) T.g_int boot_int (pa_cons (pe_op op_add (pv 1) pe_int) pa_nil)) (pe_callB call_len_seq (by rfl) T.g_len boot_len (pa_cons (pv 0) pa_nil))) (fun _ _ => rfl)) pe_int) pe_int) pe_int (nomark _))))) (pss_one (ps_set (i := 8) sc_lw_entry.nd rfl (Or.inl rfl) pe_non)) pss_nil)
      (pss_cons (ps_set (i := 9) sc_lw_entry.nd rfl (Or.inl rfl) (pe_ix ix_list (pe_lst (pa_cons pe_str (pa_cons pe_str (pa_cons pe_str (pa_cons pe_str pa_nil))))) (pe_op op_mod (pe_ix ix_list (pv 0) (pe_op op_mod (pe_callTy call_int1 (by rfl) T.g_int boot_int (pa_cons (pe_op op_add (pv 1) pe_int) pa_nil)) (pe_callB call_len_seq (by rfl) T.g_len boot_len (pa_cons (pv 0) pa_nil))) (fun _ _ => rfl)) pe_int) (fun _ _ => rfl)))
      (pss_cons (ps_set (i := 10) sc_lw_entry.nd rfl (Or.inl rfl) (pe_tup (pa_cons (pv 9) (pa_cons (pe_op op_mod (pe_op op_fdiv (pv 2) pe_int) pe_int) (pa_cons (pe_call (ok_lw_values T) (hr.mono (by omega)) (by rfl) T.g_lw_values T.F_lw_values.kp T.b_lw_values .nil pass0 (pa_cons (pv 0) (pa_cons (pe_op op_add (pv 1) pe_int) (pa_cons pe_int pa_nil)))) (pa_cons (pe_call (ok_lw_values T) (hr.mono (by omega)) (by rfl) T.g_lw_values T.F_lw_values.kp T.b_lw_values .nil pass0 (pa_cons (pv 0) (pa_cons (pe_op op_add (pv 1) pe_int) (pa_cons pe_int pa_nil)))) pa_nil))))))
      (pss_one (ps_ret (pe_tup (pa_cons (pv 3) (pa_cons (pv 5) (pa_cons (pv 10) (pa_cons (pv 6) (pa_cons (pv 8) (pa_cons (pv 7) pa_nil))))))))))))))))))), ?_⟩
    rw [show L2.start N_lw_entry [.ref nu, .int at_] = [some (.ref nu), some (.int at_), none, none, none, none, none, none, none, none, none] from rfl]
    -- number
    obtain ⟨p0, n0, hn0, e0⟩ := at_mod (ns := ns) at_ (by omega)
    obtain ⟨g0, _⟩ := hok n0 hn0
    refine ⟨_, rfl, _, rfl, .inl ⟨_, rfl, _, rfl, nu, _, rfl, .inl (SqL.of hnu), _, _, rfl, rfl, p0, nu, _, _, _, rfl, rfl, SqL.of hnu, e0, ?_⟩⟩
    -- process, k
    refine ⟨_, rfl, n0, rfl, g0, fun H1 v pd j _ s1 rv hpd hj0 hj1 _ => ?_⟩
    obtain ⟨a1, vs1, rfl, ha1, hvs1⟩ := rv.tup_inv
    obtain ⟨v1, r1, rfl, rpd, hr1⟩ := hvs1.cons_inv
    obtain ⟨v2, r2, rfl, rj, hr2⟩ := hr1.cons_inv
    obtain rfl := hr2.nil_inv
    obtain rfl := rj.int_inv
    refine ⟨a1, _, rfl, ha1, rfl, _, _, rfl, _, _, rfl, rfl, ?_⟩
    -- depth, back
    refine ⟨_, rfl, _, _, rfl, rfl, ⟨by decide, by decide⟩, _, _, rfl, rfl, (by show (0 : Int) < 4; decide), ?_⟩
    refine ⟨Nat.zero_le _, fun t0 nt0 => ?_⟩
    have s2 := Cm.same_new (o := .tup []) nt0
    have rb0 := Rp.made (K := K) nt0 (.nil : Rps K H1 [] [])
    have rpd := rpd.keep (Same.tups s2)
    have N2 := (N.same s1).same s2
    have s12 := s1.trans s2
    generalize upd H1 t0 (.tup []) = H2 at *
    simp only [gName, List.set_cons_succ, List.set_cons_zero]
    refine ⟨fun σ' H3 => ∃ (bv : V) (bd : PyData), σ' = [some (.ref nu), some (.int at_), some (.int n0), some v1, some (.int j), some (.int (n0 / 90 % 4)), some bv, none, none, none, none] ∧ Same H2 H3 ∧ Rp K H3 bv bd ∧ (n0 / 90 % 4 = 0 → bd = .tuple []) ∧ (n0 / 90 % 4 ≠ 0 → ObjD bd), ?_, fun σ' H3 ⟨bv, bd, e, s3, rb, hb0, hb1⟩ => ?_⟩
    · refine ⟨_, rfl, _, _, rfl, rfl, _, rfl, Cm.itD (fun e1 => ?_) fun e1 => ?_⟩
      · obtain ⟨p1, m1, hm1, em1⟩ := at_mod (ns := ns) (at_ + 1) (by omega)
        obtain ⟨gm1, _⟩ := hok m1 hm1
        refine ⟨_, rfl, _, rfl, _, _, rfl, rfl, .inl ⟨_, rfl, _, rfl, nu, _, rfl, .inl (SqL.of N2.1), _, _, rfl, rfl, p1, nu, _, _, _, rfl, rfl, SqL.of N2.1, em1, m1, rfl, gm1, fun H3 v3 pd3 j3 _ s3 rv3 hpd3 h30 h31 _ => ?_⟩⟩
        exact ⟨_, _, rfl, s3, rv3, (fun z => absurd e1 (by omega)), fun _ => ⟨pd3, j3, rfl, hpd3, h30, h31⟩⟩
      · exact ⟨_, _, rfl, Same.refl _, rb0, (fun _ => rfl), fun z => absurd e1 (by omega)⟩
    · subst e
      have N3 := N2.same s3
      have rpd := rpd.keep (Same.tups s3)
      have s13 := s12.trans s3
      -- word
      refine ⟨Cm.small (by show 6 ≤ 100000; decide), fun tw ntw => ?_⟩
      have s4 := Cm.same_new (o := .lst [.str "", .str "", .str "", .str "number", .str "large", .str "nil"]) ntw
      obtain ⟨p2, m2, hm2, em2⟩ := at_mod (ns := ns) (at_ + 2) (by omega)
      obtain ⟨gm2, _⟩ := hok m2 hm2
      obtain ⟨wd, hwd, ewd⟩ := Cm.at_str (ws := wordsF) (i := m2 % 6) (by omega) (by show m2 % 6 < 6; omega)
      have N4 := N3.same s4
      have rb := rb.keep (Same.tups s4)
      have rpd := rpd.keep (Same.tups s4)
      have s14 := s13.trans s4
      have htw : (upd H3 tw (.lst [.str "", .str "", .str "", .str "number", .str "large", .str "nil"])) tw = some (.lst (wordsF.map V.str)) := upd_same
      generalize upd H3 tw (.lst [.str "", .str "", .str "", .str "number", .str "large", .str "nil"]) = H4 at *
      refine ⟨_, rfl, _, rfl, _, _, rfl, rfl, .inl ⟨_, rfl, _, rfl, nu, _, rfl, .inl (SqL.of N4.1), _, _, rfl, rfl, p2, nu, _, _, _, rfl, rfl, SqL.of N4.1, em2, _, _, rfl, rfl, (by show (0 : Int) < 6; decide), tw, _, _, _, rfl, rfl, SqL.of htw, ewd, ?_⟩⟩
      -- token
      refine ⟨_, rfl, _, _, rfl, rfl, ⟨by decide, by decide⟩, _, _, rfl, rfl, (by show (0 : Int) < 5; decide), _, rfl, _, _, rfl, rfl, ⟨by decide, by decide⟩, _, _, rfl, rfl, (by show (0 : Int) < 4; decide), Cm.small (by show 2 ≤ 100000; decide), fun tt ntt => ?_⟩
      have s5 := Cm.same_new (o := .tup [.int (n0 / 3 % 5), .int (n0 / 11 % 4)]) ntt
      have rt := Rp.made (K := K) ntt (.cons (.int (n0 / 3 % 5)) (.cons (.int (n0 / 11 % 4)) .nil))
      have N5 := N4.same s5
      have rb := rb.keep (Same.tups s5)
      have rpd := rpd.keep (Same.tups s5)
      have s15 := s14.trans s5
      generalize upd H4 tt (.tup [.int (n0 / 3 % 5), .int (n0 / 11 % 4)]) = H5 at *
      simp only [gName, List.set_cons_succ, List.set_cons_zero]
      refine ⟨fun σ' H6 => H6 = H5 ∧ ∃ (tv : V) (td : PyData), σ' = [some (.ref nu), some (.int at_), some (.int n0), some v1, some (.int j), some (.int (n0 / 90 % 4)), some bv, some (.str wd), some tv, none, none] ∧ Rp K H5 tv td ∧ TokD td wd, ?_, fun σ' H6 ⟨eH, tv, td, e, rtv, htd⟩ => ?_⟩
      · have tk0 : TokD (.tuple [.int (n0 / 3 % 5), .int (n0 / 11 % 4)]) wd := .inl ⟨_, _, rfl, by omega, by omega, by omega, by omega⟩
        refine ⟨_, rfl, rfl, _, rfl, Cm.itES (fun e1 => ?_) fun e1 => ?_⟩
        · refine ⟨_, rfl, _, rfl, _, _, rfl, rfl, .inl ⟨_, rfl, _, rfl, nu, _, rfl, .inl (SqL.of N5.1), _, _, rfl, rfl, p2, nu, _, _, _, rfl, rfl, SqL.of N5.1, em2, _, _, rfl, rfl, ⟨by decide, by decide⟩, _, _, rfl, rfl, (by show (0 : Int) < 2; decide), rfl, _, rfl, Cm.itEI (fun e2 => ?_) fun e2 => ?_⟩⟩
          · exact ⟨rfl, _, _, rfl, .non, .inr ⟨rfl, e1⟩⟩
          · exact ⟨rfl, _, _, rfl, rt, tk0⟩
        · exact ⟨rfl, _, _, rfl, rt, tk0⟩
      · subst eH e
        -- operation
        refine ⟨Cm.small (by show 4 ≤ 100000; decide), fun to nto => ?_⟩
        have s7 := Cm.same_new (o := .lst [.str "start", .str "get", .str "f2", .str "Put"]) nto
        obtain ⟨p3, m3, hm3, em3⟩ := at_mod (ns := ns) (at_ + 3) (by omega)
        obtain ⟨gm3, _⟩ := hok m3 hm3
        obtain ⟨op, hop, eop⟩ := Cm.at_str (ws := ["start", "get", "f2", "Put"]) (i := m3 % 4) (by omega) (by show m3 % 4 < 4; omega)
        have N7 := N5.same s7
        have rb := rb.keep (Same.tups s7)
        have rpd := rpd.keep (Same.tups s7)
        have rtv := rtv.keep (Same.tups s7)
        have s17 := s15.trans s7
        have hto : (upd H6 to (.lst [.str "start", .str "get", .str "f2", .str "Put"])) to = some (.lst ((["start", "get", "f2", "Put"] : List Str).map V.str)) := upd_same
        generalize upd H6 to (.lst [.str "start", .str "get", .str "f2", .str "Put"]) = H7 at *
        refine ⟨_, rfl, _, rfl, _, _, rfl, rfl, .inl ⟨_, rfl, _, rfl, nu, _, rfl, .inl (SqL.of N7.1), _, _, rfl, rfl, p3, nu, _, _, _, rfl, rfl, SqL.of N7.1, em3, _, _, rfl, rfl, (by show (0 : Int) < 4; decide), to, _, _, _, rfl, rfl, SqL.of hto, eop, ?_⟩⟩
        -- frame
        refine ⟨_, rfl, _, rfl, _, _, rfl, rfl, ⟨by decide, by decide⟩, _, _, rfl, rfl, (by show (0 : Int) < 12; decide), ?_⟩
        refine ⟨_, rfl, _, rfl, _, _, rfl, rfl, nu, ns, _, 3, rfl, N7, by decide, fun H8 lv ls s8 rls lls vls => ?_⟩
        refine ⟨_, rfl, _, rfl, _, _, rfl, rfl, nu, ns, _, 3, rfl, N7.same s8, by decide, fun H9 sv st s9 rst lst vst => ?_⟩
        refine ⟨Cm.small (by show 4 ≤ 100000; decide), fun tf ntf => ?_⟩
        have s10 := Cm.same_new (o := .tup [.str op, .int (n0 / 5 % 12), lv, sv]) ntf
        have rf := Rp.made ntf (.cons (.str op) (.cons (.int (n0 / 5 % 12)) (.cons (rls.keep (Same.tups s9)) (.cons rst .nil))))
        have s89 := (s8.trans s9).trans s10
        refine ⟨_, rfl, _, rfl, _, rfl, _, rfl, _, rfl, _, rfl, Cm.small (by show 6 ≤ 100000; decide), fun te nte => ?_⟩
        have s11 := Cm.same_new (o := .tup [v1, .int (n0 / 90 % 4), .ref tf, bv, tv, .str wd]) nte
        refine q _ _ _ ((s17.trans s89).trans s11) (Rp.made nte (.cons (rpd.keep (Same.tups s89)) (.cons (.int _) (.cons rf (.cons (rb.keep (Same.tups s89)) (.cons (rtv.keep (Same.tups s89)) (.cons (.str wd) .nil))))))) ?_
        exact ⟨pd, _, _, bd, td, wd, rfl, hpd, by omega, by omega, ⟨op, _, ls, st, rfl, hop, by omega, by omega, lls, lst, vls, vst⟩, hb0, hb1, htd, hwd⟩
/-! ### bundles -/
theorem lay_intsB : ∀ ns : List Int, PyData.canLayAll0 (ns.map PyData.int) = true
  | [] => by simp [PyData.canLayAll0]
  | n :: ns => by simp [PyData.canLayAll0, PyData.canLay0, lay_intsB ns]
theorem depth_intsB : ∀ ns : List Int, PyData.depthAll (ns.map PyData.int) = 0
  | [] => rfl
  | n :: ns => by simp [PyData.depthAll, PyData.depth, depth_intsB ns]
/-- it can be compared; so deep at most -/
def Lo (n : Nat) (d : PyData) : Prop := d.canLay0 = true ∧ d.depth ≤ n
theorem Lo.mono {m n : Nat} {d : PyData} (h : Lo m d) (e : m ≤ n) : Lo n d := ⟨h.1, Nat.le_trans h.2 e⟩
theorem lo_all {n : Nat} : ∀ {ds : List PyData}, (∀ d ∈ ds, Lo n d) → PyData.canLayAll0 ds = true ∧ PyData.depthAll ds ≤ n
  | [], _ => by simp [PyData.canLayAll0, PyData.depthAll]
  | d :: ds, h => by
    have h1 := h d List.mem_cons_self
    have h2 := lo_all fun x hx => h x (List.mem_cons_of_mem _ hx)
    simp only [PyData.canLayAll0, PyData.depthAll, h1.1, h2.1, Bool.and_self, true_and]
    have := h1.2
    omega
theorem lo_tup {n : Nat} {ds : List PyData} (h : ∀ d ∈ ds, Lo n d) : Lo (n + 1) (.tuple ds) := by
  obtain ⟨h1, h2⟩ := lo_all h
  exact ⟨by simp [PyData.canLay0, h1], by simp only [PyData.depth]; omega⟩
theorem lo_int {n : Nat} {i : Int} : Lo n (.int i) := ⟨by simp [PyData.canLay0], by simp [PyData.depth]⟩
theorem lo_non {n : Nat} : Lo n .none := ⟨by simp [PyData.canLay0], by simp [PyData.depth]⟩
theorem lo_str {n : Nat} {x : Str} (h : PyData.strOk x = true) : Lo n (.str x) := ⟨by simp [PyData.canLay0, h], by simp [PyData.depth]⟩
theorem lo_proc {d : PyData} (h : ProcD d) : Lo 1 d := by
  obtain ⟨ns, rfl, _⟩ := h
  exact ⟨by simp [PyData.canLay0, lay_intsB], by simp [PyData.depth, depth_intsB]⟩
theorem lo_two {n : Nat} {x y : PyData} (h1 : Lo n x) (h2 : Lo n y) : Lo (n + 1) (.tuple [x, y]) := lo_tup fun d hd => by
  simp only [List.mem_cons, List.not_mem_nil, or_false] at hd
  rcases hd with rfl | rfl
  · exact h1
  · exact h2
theorem lo_obj {d : PyData} (h : ObjD d) : Lo 2 d := by
  obtain ⟨pd, j, rfl, hp, _⟩ := h
  exact lo_two (lo_proc hp) lo_int
theorem lo_val {d : PyData} (h : ValD d) : Lo 3 d := by
  rcases h with rfl | ⟨o, ho, rfl⟩ | ⟨i, rfl, _⟩
  · exact Lo.mono (show Lo 1 (.tuple [.str "nil"]) from ⟨by decide +kernel, by decide +kernel⟩) (by decide)
  · exact lo_two (lo_str (by decide +kernel)) (lo_obj ho)
  · exact lo_int
theorem lo_vals {ds : List PyData} (h : ∀ x ∈ ds, ValD x) : Lo 4 (.tuple ds) := lo_tup fun d hd => lo_val (h d hd)
theorem so_ops : ∀ x ∈ (["start", "get", "f2", "Put", "", "number", "large", "nil", "Box", "a1", "Z"] : List Str), PyData.strOk x = true := by decide +kernel
theorem lo_fr {d : PyData} (h : FrD d) : Lo 5 d := by
  obtain ⟨op, i, ls, st, rfl, hop, _, _, _, _, h1, h2⟩ := h
  refine lo_tup fun d hd => ?_
  simp only [List.mem_cons, List.not_mem_nil, or_false] at hd
  rcases hd with rfl | rfl | rfl | rfl
  · refine lo_str (so_ops _ ?_)
    simp only [List.mem_cons, List.not_mem_nil, or_false] at hop ⊢
    rcases hop with rfl | rfl | rfl | rfl <;> simp
  · exact lo_int
  · exact lo_vals h1
  · exact lo_vals h2
theorem lo_ent {d : PyData} (h : EntD d) : Lo 6 d := by
  obtain ⟨pd, dep, fr, back, tok, wd, rfl, hp, _, _, hf, h0, h1, ht, hw⟩ := h
  refine lo_tup fun d hd => ?_
  simp only [List.mem_cons, List.not_mem_nil, or_false] at hd
  rcases hd with rfl | rfl | rfl | rfl | rfl | rfl
  · exact (lo_proc hp).mono (by decide)
  · exact lo_int
  · exact lo_fr hf
  · by_cases e : dep = 0
    · rw [h0 e]
      exact Lo.mono (show Lo 1 (.tuple []) from ⟨by decide +kernel, by decide +kernel⟩) (by decide)
    · exact (lo_obj (h1 e)).mono (by decide)
  · rcases ht with ⟨x, y, rfl, _⟩ | ⟨rfl, _⟩
    · exact (lo_two (n := 0) lo_int lo_int).mono (by decide)
    · exact lo_non
  · refine lo_str (so_ops _ ?_)
    simp only [List.mem_cons, List.not_mem_nil, or_false] at hw ⊢
    rcases hw with rfl | rfl | rfl | rfl | rfl | rfl <;> simp
theorem lo_shaped {n : Nat} {d : PyData} (h : Lo n d) (hn : n ≤ 64) : SeqAt.shaped d = true := Nst.shaped_of h.1 (Nat.le_trans h.2 hn)
/-- t[:k] -/
theorem upto_rp {H : Hp} {x : V} {ds : List PyData} {k : Nat} {Q : VK} (hx : Rp K H x (.tuple ds)) (hk : k ≤ ds.length) (h : ∀ (v : V) (H' : Hp), Same H H' → Rp K H' v (.tuple (ds.take k)) → Q v H') : rSlA K x none (some (k : Int)) H Q := by
  obtain ⟨c, xs, rfl, hc, hxs⟩ := hx.tup_inv
  have hl := hxs.len
  have e0 : HT.sIx xs.length xs.length (some (k : Int)) = k := by
    rw [show HT.sIx xs.length xs.length (some (k : Int)) = min k xs.length from HT.sIx_nat _ _ k]
    omega
  have e1 : HT.sIx xs.length 0 none = 0 := rfl
  have ec : cutV xs none (some (k : Int)) = xs.take k := by
    unfold cutV
    rw [e0, e1]
    simp
  refine ⟨c, xs, rfl, hc, fun e => ?_, fun _ p np => ?_⟩
  · have z := e.2
    rw [e0] at z
    refine h _ _ (Same.refl H) ?_
    rw [List.take_of_length_le (by omega)]
    exact hx
  · rw [ec]
    exact h _ _ (Cm.same_new np) (Rp.made np (hxs.take k))
def key2 : PyData → PyData
  | .tuple (x :: y :: _) => .tuple [x, y]
  | _ => .none
def BundD (d : PyData) : Prop := ∃ (o : PyData) (mk : Str) (vs es : List PyData) (c : Int), d = .tuple [o, .str mk, .tuple vs, .tuple es, .int c] ∧ ObjD o ∧ mk ∈ (["start", "Box", "a1", "Z"] : List Str) ∧ vs.length ≤ 4 ∧ (∀ x ∈ vs, ValD x) ∧ es.length ≤ 4 ∧ (∀ x ∈ es, EntD x) ∧ 0 ≤ c ∧ c ≤ 1000000000000
theorem lo_bund {d : PyData} (h : BundD d) : Lo 8 d := by
  obtain ⟨o, mk, vs, es, c, rfl, ho, hm, _, hv, _, he, _⟩ := h
  refine (lo_tup (n := 7) fun d hd => ?_)
  simp only [List.mem_cons, List.not_mem_nil, or_false] at hd
  rcases hd with rfl | rfl | rfl | rfl | rfl
  · exact (lo_obj ho).mono (by decide)
  · refine lo_str (so_ops _ ?_)
    simp only [List.mem_cons, List.not_mem_nil, or_false] at hm ⊢
    rcases hm with rfl | rfl | rfl | rfl <;> simp
  · exact (lo_vals hv).mono (by decide)
  · exact lo_tup fun d hd => lo_ent (he d hd)
  · exact lo_int
theorem alike_intsB : ∀ ns zs : List Int, PySem.W.alikeAll (ns.map PyData.int) (zs.map PyData.int) = true
  | [], _ => by simp [PySem.W.alikeAll]
  | _ :: _, [] => by simp [PySem.W.alikeAll]
  | n :: ns, z :: zs => by simp [PySem.W.alikeAll, PySem.W.alike, alike_intsB ns zs]
def TriD (m : Nat) (d : PyData) : Prop := ∃ (pd : PyData) (dep : Int) (k : Nat), d = .tuple [pd, .int dep, .int (k : Int)] ∧ ProcD pd ∧ k < m
theorem tri_alike {m : Nat} {ts : List PyData} (h : ∀ t ∈ ts, TriD m t) : PySem.W.AllAlike ts := fun d hd d' hd' => by
  obtain ⟨pd, dep, k, rfl, ⟨ns, rfl, _⟩, _⟩ := h d hd
  obtain ⟨pd', dep', k', rfl, ⟨ns', rfl, _⟩, _⟩ := h d' hd'
  simp [PySem.W.alike, PySem.W.alikeAll, alike_intsB]
theorem tri_sortable {m : Nat} {ts : List PyData} (h : ∀ t ∈ ts, TriD m t) : PySem.W.Sortable ts := .inl fun d hd => by
  obtain ⟨pd, dep, k, rfl, _⟩ := h d hd
  exact ⟨_, _, rfl⟩
theorem tri_depth {m : Nat} {ts : List PyData} (h : ∀ t ∈ ts, TriD m t) : ∀ d ∈ ts, d.depth ≤ 50 := fun d hd => by
  obtain ⟨pd, dep, k, rfl, hp, _⟩ := h d hd
  have h2 : Lo 2 (.tuple [pd, .int dep, .int (k : Int)]) := lo_tup fun x hx => by
    simp only [List.mem_cons, List.not_mem_nil, or_false] at hx
    rcases hx with rfl | rfl | rfl
    · exact lo_proc hp
    · exact lo_int
    · exact lo_int
  exact Nat.le_trans h2.2 (by decide)
def spBundN (K : PySem.W.Frag) : Sp := fun vs H Q _ => ∃ (nu : Addr) (ns : List Int) (at_ : Int), vs = [.ref nu, .int at_] ∧ NumAt K H nu ns ∧ ∀ H' v d, Same H H' → Rp K H' v d → BundD d → Q v H'
theorem ok_lw_bundle (T : Txt K mg w a) : FnOk P w K mg base CX0 5 (He.ga K "_law_bundle") a.d_lw_bundle ["numbers", "at"] (spBundN K) := by
  refine T.F_lw_bundle.ok sc_lw_bundle (fun vs H Q E h => ?_) (fun cdv A outer s H vs Q E hr h => ?_)
  · obtain ⟨nu, ns, at_, rfl, _⟩ := h
    rfl
  · obtain ⟨nu, ns, at_, rfl, N, q⟩ := h
    obtain ⟨hnu, hok, hlen⟩ := id N
    refine ⟨_, PSs.nox (pss_cons (ps_set (i := 2) sc_lw_bundle.nd rfl (Or.inr rfl) (pe_lst pa_nil))
      (pss_cons (ps_for PassesOwn.never rfl (pi_range1 (by rfl) T.g_range (pa_cons (pe_op op_mod (pe_ix ix_list (pv 0) (pe_op op_mod (pe_callTy call_int1 (by rfl) T.g_int boot_int (pa_cons (pv 1) pa_nil)) (pe_callB call_len_seq (by rfl) T.g_len boot_len (pa_cons (pv 0) pa_nil))) (fun _ _ => rfl)) pe_int) pa_nil)) (pg_name (i := 3) sc_lw_bundle.nd rfl (Or.inl rfl))
      (pss_cons (ps_set (i := 4) sc_lw_bundle.nd rfl (Or.inr rfl) (pe_call (ok_lw_entry T) (hr.mono (by omega)) (by rfl) T.g_lw_entry T.F_lw_entry.kp T.b_lw_entry .nil pass0 (pa_cons (pv 0) (pa_cons (pe_callTy call_int1 (by rfl) T.g_int boot_int (pa_cons (pe_op op_add (pe_op op_add (pv 1) pe_int) (pe_op op_mul pe_int (pv 3))) pa_nil)) pa_nil))))
      (pss_one (ps_if (pt_cmpR op_eq (pe_callB call_len_seq (by rfl) T.g_len boot_len (pa_cons (pe_lc (own := [("one", 9)]) (g := gName 9) (tt := (tTest (tOp (rEqD K) (tSl (rSlA K) (tVar 9) tNoPart (tPart (tC (.int 2)))) (tSl (rSlA K) (tVar 4) tNoPart (tPart (tC (.int 2)))))))  (by rfl) sc_lw_bundle.nd (pi_list (pv 2)) (blkOk_by (own := [("one", 9)]) (N := N_lw_bundle) (sc := defScope s_lw_bundle) (by decide +kernel)) (fun _ _ _ _ _ => pg_name (i := 9) sc_lw_bundle.nd rfl (Or.inl rfl)) (fun _ _ _ _ _ => pts_one (pt_cmpR (op_eqD hr.units) (pe_slice sl_tupA (pv 9) po_none (po_some pe_int)) (pe_slice sl_tupA (pv 4) po_none (po_some pe_int)) (nomark _))) (fun _ _ _ _ _ => (pv 9))) pa_nil)) pe_int (nomark _)) (pss_one (ps_expr (pe_bm PySem.F.plainAttrs_list PySem.F.slot_list_append PySem.F.type_list_append mt_append (pv 2) (pa_cons (pv 4) pa_nil)))) pss_nil))))
      (pss_cons (ps_set (i := 5) sc_lw_bundle.nd rfl (Or.inl rfl) (pe_ix ix_list (pv 0) (pe_op op_mod (pe_callTy call_int1 (by rfl) T.g_int boot_int (pa_cons (pe_op op_add (pv 1) pe_int) pa_nil)) (pe_callB call_len_seq (by rfl) T.g_len boot_len (pa_cons (pv 0) pa_nil))) (fun _ _ => rfl)))
      (pss_cons (ps_set (i := 6) sc_lw_bundle.nd rfl (Or.inl rfl) (pe_ix ix_list (pe_lst (pa_cons pe_str (pa_cons pe_str (pa_cons pe_str (pa_cons pe_str pa_nil))))) (pe_op op_mod (pv 5) pe_int) (fun _ _ => rfl)))
      (pss_cons (ps_set (i := 7) sc_lw_bundle.nd rfl (Or.inl rfl) (pe_callB (SortN.call_sortL rfl hr.units) (by rfl) T.g_sorted boot_sorted (pa_cons (pe_lc (own := [("k", 3)]) (g := gName 3) (tt := tYes) (te := (tTup (tCons (tOp (rIxT K) (tOp (rIxL K) (tVar 2) (tVar 3)) (tC (.int 0))) (tCons (tOp (rIxT K) (tOp (rIxL K) (tVar 2) (tVar 3)) (tC (.int 1))) (tCons (tVar 3) tNil))))) (by rfl) sc_lw_bundle.nd (pi_range1 (by rfl) T.g_range (pa_cons (pe_callB call_len_seq (by rfl) T.g_len boot_len (pa_cons (pv 2) pa_nil)) pa_nil)) (blkOk_by (own := [("k", 3)]) (N := N_lw_bundle) (sc := defScope s_lw_bundle) (by decide +kernel)) (fun _ _ _ _ _ => pg_name (i := 3) sc_lw_bundle.nd rfl (Or.inl rfl)) (fun _ _ _ _ _ => pts_nil) (fun _ _ _ _ _ => (pe_tup (pa_cons (pe_ix (r := rIxT K) ix_tup (pe_ix (r := rIxL K) ix_list (pv 2) (pv 3) (fun _ _ => rfl)) pe_int (fun _ _ => rfl)) (pa_cons (pe_ix (r := rIxT K) ix_tup (pe_ix (r := rIxL K) ix_list (pv 2) (pv 3) (fun _ _ => rfl)) pe_int (fun _ _ => rfl)) (pa_cons (pv 3) pa_nil)))))) pa_nil)))
      (pss_cons (ps_set (i := 8) sc_lw_bundle.nd rfl (Or.inl rfl) (pe_callTy call_tuple_of (by rfl) T.g_tuple boot_tuple (pa_cons (pe_lc (own := [("one", 9)]) (g := gName 9) (tt := tYes) (te := (tOp (rIxL K) (tVar 2) (tOp (rIxT K) (tVar 9) (tC (.int 2))))) (by rfl) sc_lw_bundle.nd (pi_list (pv 7)) (blkOk_by (own := [("one", 9)]) (N := N_lw_bundle) (sc := defScope s_lw_bundle) (by decide +kernel)) (fun _ _ _ _ _ => pg_name (i := 9) sc_lw_bundle.nd rfl (Or.inl rfl)) (fun _ _ _ _ _ => pts_nil) (fun _ _ _ _ _ => (pe_ix (r := rIxL K) ix_list (pv 2) (pe_ix (r := rIxT K) ix_tup (pv 9) pe_int (fun _ _ => rfl)) (fun _ _ => rfl)))) pa_nil)))
      (pss_one (ps_ret (pe_tup (pa_cons (pe_call (ok_lw_object T) (hr.mono (by omega)) (by rfl) T.g_lw_object T.F_lw_object.kp T.b_lw_object .nil pass0 (pa_cons (pe_op op_fdiv (pv 5) pe_int) pa_nil)) (pa_cons (pv 6) (pa_cons (pe_call (ok_lw_values T) (hr.mono (by omega)) (by rfl) T.g_lw_values T.F_lw_values.kp T.b_lw_values .nil pass0 (pa_cons (pv 0) (pa_cons (pe_op op_add (pv 1) pe_int) (pa_cons pe_int pa_nil)))) (pa_cons (pv 8) (pa_cons (pe_ix ix_list (pe_lst (pa_cons pe_int (pa_cons pe_int (pa_cons pe_int (pa_cons (pe_op op_pow pe_int pe_int) pa_nil))))) (pe_op op_mod (pe_op op_fdiv (pv 5) pe_int) pe_int) (fun _ _ => rfl)) pa_nil)))))))))))))), ?_⟩
    rw [show L2.start N_lw_bundle [.ref nu, .int at_] = [some (.ref nu), some (.int at_), none, none, none, none, none, none, none, none] from rfl]
    refine ⟨Nat.zero_le _, fun en nen => ?_⟩
    have s0 := Cm.same_new (o := .lst []) nen
    obtain ⟨p0, n0, hn0, e0⟩ := at_mod (ns := ns) at_ (by omega)
    obtain ⟨g0, _⟩ := hok n0 hn0
    have N0 := N.same s0
    refine ⟨_, rfl, _, rfl, .inl ⟨_, rfl, _, rfl, nu, _, rfl, .inl (SqL.of N0.1), _, _, rfl, rfl, p0, nu, _, _, _, rfl, rfl, SqL.of N0.1, e0, _, _, rfl, rfl, (by show (0 : Int) < 5; decide), _, rfl, by omega, by omega, ?_⟩⟩
    refine for_range (n := (n0 % 5).toNat) (fun i σ H2 => ∃ (x3 x4 : Option V) (acc : List V) (ds : List PyData), σ = [some (.ref nu), some (.int at_), some (.ref en), x3, x4, none, none, none, none, none] ∧ Same H H2 ∧ H2 en = some (.lst acc) ∧ Rps K H2 acc ds ∧ (∀ d ∈ ds, EntD d) ∧ ds.length ≤ i)
      ⟨_, _, [], [], rfl, s0, upd_same, .nil, (fun _ h => nomatch h), Nat.le_refl _⟩ (fun i σ H2 hi ⟨x3, x4, acc, ds, e, s2, hen, rD, hE, lD⟩ => ?_) fun σ H2 ⟨x3, x4, acc, ds, e, s2, hen, rD, hE, lD⟩ => ?_
    · subst e
      refine ⟨_, rfl, _, rfl, _, _, rfl, rfl, _, rfl, _, _, rfl, rfl, .inl ⟨by decide, by decide⟩, _, _, rfl, rfl, .inl ⟨_, rfl, nu, ns, _, rfl, N.same s2, fun H3 v d s3 rv hd => ?_⟩⟩
      have hen3 := s3 _ _ hen
      have la := rD.len
      simp only [gName, List.set_cons_succ, List.set_cons_zero]
      refine ⟨_, rfl, en, rfl, ⟨_, SqL.of hen3⟩, fun D nD => ?_⟩
      simp only [List.map_cons, List.map_nil]
      refine lc_list (K := K) (a := en) (xs := acc) (fun n Hi => Same H3 Hi ∧ ∃ l, Hi D = some (.lst l) ∧ l.length ≤ n) ⟨Cm.same_new nD, [], upd_same, Nat.le_refl _⟩ (fun n Hi _ b => SqL.of (b.1 _ _ hen3)) (fun n y Hi hy b => ?_) fun Hi b => ?_
      · obtain ⟨sH, l, hDD, lD'⟩ := b
        refine ⟨rfl, ?_⟩
        simp only [List.map_cons, List.map_nil, List.set_cons_succ, List.set_cons_zero, wipe]
        have hn : n < ds.length := by
          rw [← la]
          exact (List.getElem?_eq_some_iff.mp hy).1
        obtain ⟨y', hy', ry⟩ := rD.at_ (List.getElem?_eq_getElem hn)
        rw [hy] at hy'
        cases hy'
        have h1 := hE _ (List.getElem_mem hn)
        generalize ds[n] = bd at ry h1
        have sh : ∀ {x : PyData}, EntD x → ∃ r, x = .tuple r ∧ 2 ≤ r.length ∧ SeqAt.shaped (.tuple (r.take 2)) = true := fun {x} hx => by
          obtain ⟨pd, dep, fr, back, tok, wd, rfl, hp, _⟩ := hx
          exact ⟨_, rfl, by show 2 ≤ 6; decide, lo_shaped (lo_two (lo_proc hp) lo_int) (by decide)⟩
        obtain ⟨r1, e1, l1, sh1⟩ := sh h1
        obtain ⟨r2, e2, l2, sh2⟩ := sh hd
        subst e1 e2
        refine ⟨_, rfl, _, rfl, upto_rp (k := 2) (ry.keep (Same.tups (s3.trans sH))) l1 fun v1 H5 s5 rv1 => ?_⟩
        refine ⟨_, rfl, _, rfl, upto_rp (k := 2) (rv.keep (Same.tups (sH.trans s5))) l2 fun v2 H6 s6 rv2 => ?_⟩
        have hD6 := s6 _ _ (s5 _ _ hDD)
        refine ⟨_, _, (rv1.keep (Same.tups s6)).dp, rv2.dp, sh1, sh2, _, rfl, Cm.itB (fun _ => ?_) fun _ => ?_⟩
        · exact ⟨_, rfl, l, hD6, Cm.smallL (by omega), Cm.same_mut (sH.trans (s5.trans s6)) nD, _, upd_same, by rw [List.length_append]; simp only [List.length_cons, List.length_nil]; omega⟩
        · exact ⟨sH.trans (s5.trans s6), l, hD6, by omega⟩
      · obtain ⟨sH, l, hDD, _⟩ := b
        have hen4 := sH _ _ hen3
        have s24 := s2.trans (s3.trans sH)
        refine ⟨D, _, rfl, .inl (SqL.of hDD), rfl, _, rfl, Cm.itEI (fun _ => ?_) fun _ => ?_⟩
        · refine ⟨_, rfl, .inl ⟨rfl, _, SqL.of hen4⟩, _, rfl, en, acc, _, rfl, rfl, hen4, Cm.smallL (by omega), ?_⟩
          have tk : TK K Hi (upd Hi en (.lst (acc ++ [v]))) := TK.upd (by rw [hen4]; exact True.intro)
          refine ⟨_, _, acc ++ [v], ds ++ [d], rfl, Cm.same_mut s24 nen, upd_same, rps_keep tk ((rD.keep (Same.tups (s3.trans sH))).app (.cons (rv.keep (Same.tups sH)) .nil)), fun x hx => ?_, by rw [List.length_append]; simp only [List.length_cons, List.length_nil]; omega⟩
          rcases List.mem_append.mp hx with hx | hx
          · exact hE x hx
          · rw [List.mem_singleton.mp hx]
            exact hd
        · exact ⟨_, _, acc, ds, rfl, s24, hen4, rD.keep (Same.tups (s3.trans sH)), hE, by omega⟩
    · subst e
      have N2 := N.same s2
      obtain ⟨p1, n1, hn1, e1⟩ := at_mod (ns := ns) (at_ + 1) (by omega)
      obtain ⟨g1, _⟩ := hok n1 hn1
      refine ⟨_, rfl, _, rfl, _, _, rfl, rfl, .inl ⟨_, rfl, _, rfl, nu, _, rfl, .inl (SqL.of N2.1), _, _, rfl, rfl, p1, nu, _, _, _, rfl, rfl, SqL.of N2.1, e1, ?_⟩⟩
      refine ⟨Cm.small (by show 4 ≤ 100000; decide), fun tm ntm => ?_⟩
      have s3 := Cm.same_new (o := .lst [.str "start", .str "Box", .str "a1", .str "Z"]) ntm
      obtain ⟨mk, hmk, emk⟩ := Cm.at_str (ws := ["start", "Box", "a1", "Z"]) (i := n1 % 4) (by omega) (by show n1 % 4 < 4; omega)
      have htm : (upd H2 tm (.lst [.str "start", .str "Box", .str "a1", .str "Z"])) tm = some (.lst ((["start", "Box", "a1", "Z"] : List Str).map V.str)) := upd_same
      have hen3 := s3 _ _ hen
      have rD3 := rD.keep (Same.tups s3)
      have s23 := s2.trans s3
      generalize upd H2 tm (.lst [.str "start", .str "Box", .str "a1", .str "Z"]) = H3 at *
      refine ⟨_, rfl, _, _, rfl, rfl, (by show (0 : Int) < 4; decide), tm, _, _, _, rfl, rfl, SqL.of htm, emk, ?_⟩
      have la := rD3.len
      simp only [gName, List.set_cons_succ, List.set_cons_zero]
      refine ⟨_, rfl, en, _, rfl, .inl (SqL.of hen3), _, rfl, by omega, by omega, fun D nD => ?_⟩
      simp only [List.map_cons, List.map_nil]
      refine lc_range (n := acc.length) (fun k Hi => Same H3 Hi ∧ ∃ l ts, Hi D = some (.lst l) ∧ Rps K Hi l ts ∧ (∀ t ∈ ts, TriD ds.length t) ∧ ts.length = k) ⟨Cm.same_new nD, [], [], upd_same, .nil, (fun _ h => nomatch h), rfl⟩ (fun k Hi hk ⟨sH, l, ts, hDD, rT, hT, lT⟩ => ?_) fun Hi ⟨sH, l, ts, hDD, rT, hT, lT⟩ => ?_
      · refine ⟨rfl, ?_⟩
        simp only [List.map_cons, List.map_nil, List.set_cons_succ, List.set_cons_zero, wipe]
        have hn : k < ds.length := by omega
        obtain ⟨y, hy, ry⟩ := rD3.at_ (List.getElem?_eq_getElem hn)
        have h1 := hE _ (List.getElem_mem hn)
        generalize ds[k] = bd at ry h1
        obtain ⟨pd, dep, fr, back, tok, wd, rfl, hp, _⟩ := h1
        obtain ⟨ca, vv, vr, rfl, hca, rp1, hvr⟩ := (show ∃ a' v' vs', y = .ref a' ∧ SqT K Hi a' (v' :: vs') ∧ Rp K Hi v' pd ∧ Rps K Hi vs' [.int dep, fr, back, tok, .str wd] from by
          obtain ⟨a', vs', e', h', r'⟩ := (ry.keep (Same.tups sH)).tup_inv
          obtain ⟨v', vs'', e'', h'', r''⟩ := r'.cons_inv
          subst e''
          exact ⟨a', v', vs'', e', h', h'', r''⟩)
        obtain ⟨v2, vr2, rfl, hv2, _⟩ := hvr.cons_inv
        obtain rfl := hv2.int_inv
        have heni := sH _ _ hen3
        have ek : atI acc (0 + (k : Int)) = some (.ref ca) := by
          rw [Int.zero_add]
          exact atI_nat hy
        refine ⟨_, rfl, _, rfl, en, _, _, _, rfl, rfl, SqL.of heni, ek, ca, _, 0, _, rfl, rfl, hca, atI_nat (j := 0) rfl, ?_⟩
        refine ⟨_, rfl, _, rfl, en, _, _, _, rfl, rfl, SqL.of heni, ek, ca, _, 1, _, rfl, rfl, hca, atI_nat (j := 1) rfl, _, rfl, Cm.small (by show 3 ≤ 100000; decide), fun t nt => ?_⟩
        have st := Cm.same_new (o := .tup [vv, .int dep, .int (0 + (k : Int))]) nt
        have hDt := st _ _ hDD
        have rt := Rp.made nt (.cons rp1 (.cons (.int dep) (.cons (.int (0 + (k : Int))) .nil)))
        have tk : TK K (upd Hi t (.tup [vv, .int dep, .int (0 + (k : Int))])) (upd (upd Hi t (.tup [vv, .int dep, .int (0 + (k : Int))])) D (.lst (l ++ [.ref t]))) := TK.upd (by rw [hDt]; exact True.intro)
        have ll := rT.len
        refine ⟨l, hDt, Cm.smallL (by omega), Cm.same_mut (sH.trans st) nD, l ++ [.ref t], _, upd_same, rps_keep tk ((rT.keep (Same.tups st)).app (.cons rt .nil)), fun x hx => ?_, by rw [List.length_append, lT]; rfl⟩
        rcases List.mem_append.mp hx with hx | hx
        · exact hT x hx
        · rw [List.mem_singleton.mp hx, Int.zero_add]
          exact ⟨pd, dep, k, rfl, hp, hn⟩
      · refine ⟨D, l, ts, rfl, SqL.of hDD, rT, tri_alike hT, tri_sortable hT, tri_depth hT, fun ys po rys npo => ?_⟩
        have s4 := Cm.same_new (o := .lst ys) npo
        have hpo : (upd Hi po (.lst ys)) po = some (.lst ys) := upd_same
        have rys := rys.keep (Same.tups s4)
        have s34 := sH.trans s4
        have hen4 := s34 _ _ hen3
        have rD4 := rD3.keep (Same.tups s34)
        generalize upd Hi po (.lst ys) = H4 at *
        have lys : ys.length = ts.length := by rw [rys.len, List.length_mergeSort]
        refine ⟨_, rfl, po, rfl, ⟨_, SqL.of hpo⟩, fun D2 nD2 => ?_⟩
        simp only [List.map_cons, List.map_nil]
        refine lc_list (K := K) (a := po) (xs := ys) (fun n Hj => Same H4 Hj ∧ ∃ l es, Hj D2 = some (.lst l) ∧ Rps K Hj l es ∧ (∀ x ∈ es, EntD x) ∧ es.length = n) ⟨Cm.same_new nD2, [], [], upd_same, .nil, (fun _ h => nomatch h), rfl⟩ (fun n Hj _ b => SqL.of (b.1 _ _ hpo)) (fun n y Hj hy b => ?_) fun Hj b => ?_
        · obtain ⟨sJ, l2, es, hD2, rE, hE2, lE⟩ := b
          refine ⟨rfl, ?_⟩
          simp only [List.map_cons, List.map_nil, List.set_cons_succ, List.set_cons_zero, wipe]
          have hn : n < (SortN.srt ts).length := by
            rw [← rys.len]
            exact (List.getElem?_eq_some_iff.mp hy).1
          have lsr : (SortN.srt ts).length = ts.length := List.length_mergeSort ..
          obtain ⟨y', hy', ry⟩ := rys.at_ (List.getElem?_eq_getElem hn)
          rw [hy] at hy'
          cases hy'
          have hmem := (List.mergeSort_perm ts SortN.dle).mem_iff.mp (List.getElem_mem hn)
          have h1 := hT _ hmem
          generalize (SortN.srt ts)[n] = bd at ry h1
          obtain ⟨pd, dep, kk, rfl, hp, hkk⟩ := h1
          obtain ⟨ct, cs, rfl, hct, hcs⟩ := (ry.keep (Same.tups sJ)).tup_inv
          obtain ⟨c1, r1, rfl, _, hr1⟩ := hcs.cons_inv
          obtain ⟨c2, r2, rfl, _, hr2⟩ := hr1.cons_inv
          obtain ⟨c3, r3, rfl, hc3, hr3⟩ := hr2.cons_inv
          obtain rfl := hc3.int_inv
          obtain ⟨z, hz, rz⟩ := rD4.at_ (List.getElem?_eq_getElem hkk)
          have hZ := hE _ (List.getElem_mem hkk)
          have henj := sJ _ _ hen4
          have ll := rE.len
          refine ⟨_, rfl, _, rfl, ct, _, 2, _, rfl, rfl, hct, atI_nat (j := 2) rfl, en, _, _, z, rfl, rfl, SqL.of henj, atI_nat hz, ?_⟩
          have tk : TK K Hj (upd Hj D2 (.lst (l2 ++ [z]))) := TK.upd (by rw [hD2]; exact True.intro)
          refine ⟨l2, hD2, Cm.smallL (by omega), Cm.same_mut sJ nD2, l2 ++ [z], _, upd_same, rps_keep tk (rE.app (.cons (rz.keep (Same.tups sJ)) .nil)), fun x hx => ?_, by rw [List.length_append, lE]; rfl⟩
          rcases List.mem_append.mp hx with hx | hx
          · exact hE2 x hx
          · rw [List.mem_singleton.mp hx]
            exact hZ
        · obtain ⟨sJ, l2, es, hD2, rE, hE2, lE⟩ := b
          have s3J := s34.trans sJ
          refine ⟨D2, l2, rfl, .inl ⟨SqL.of hD2, fun tr ntr => ?_⟩⟩
          have s5 := Cm.same_new (o := .tup l2) ntr
          have rr := Rp.made ntr rE
          have sA := (s23.trans s3J).trans s5
          have N5 := N.same sA
          generalize upd Hj tr (.tup l2) = H5 at *
          refine ⟨_, rfl, _, _, rfl, rfl, ⟨by decide, by decide⟩, n1 / 4, rfl, by omega, fun H6 v pd j _ s6 rv hpd hj0 hj1 _ => ?_⟩
          refine ⟨_, rfl, _, rfl, _, rfl, _, _, rfl, rfl, nu, ns, _, 4, rfl, N5.same s6, by decide, fun H7 lv ls s7 rls lls vls => ?_⟩
          refine ⟨_, rfl, _, _, rfl, rfl, ⟨by decide, by decide, by decide⟩, Cm.small (by show 4 ≤ 100000; decide), fun tc ntc => ?_⟩
          have s8 := Cm.same_new (o := .lst [.int 0, .int 1, .int 7, .int (10 ^ (12 : Int).toNat)]) ntc
          obtain ⟨c, hc, ec⟩ := Cm.at_int (ns := [0, 1, 7, 10 ^ (12 : Int).toNat]) (i := n1 / 16 % 4) (by omega) (by show n1 / 16 % 4 < 4; omega)
          refine ⟨_, rfl, _, _, rfl, rfl, ⟨by decide, by decide⟩, _, _, rfl, rfl, (by show (0 : Int) < 4; decide), tc, _, _, _, rfl, rfl, Cm.sql_new, ec, Cm.small (by show 5 ≤ 100000; decide), fun tb ntb => ?_⟩
          have hcb : 0 ≤ c ∧ c ≤ 1000000000000 := by
            simp only [List.mem_cons, List.not_mem_nil, or_false] at hc
            rcases hc with rfl | rfl | rfl | rfl <;> decide +kernel
          have s78 := s7.trans s8
          refine q _ _ _ ((sA.trans s6).trans (s78.trans (Cm.same_new ntb))) (Rp.made ntb (.cons (rv.keep (Same.tups s78)) (.cons (.str mk) (.cons (rls.keep (Same.tups s8)) (.cons (rr.keep (Same.tups (s6.trans s78))) (.cons (.int c) .nil)))))) ?_
          exact ⟨_, mk, ls, es, c, rfl, ⟨pd, j, rfl, hpd, hj0, hj1⟩, hmk, lls, vls, by omega, hE2, hcb.1, hcb.2⟩
/-! ### bodies: is_on_the_way, object_of -/
def wayS : List V := [.str "call", .str "return", .str "please"]
def onWay (x : Str) : Bool := inV (.str x) wayS
def spOnWay (K : PySem.W.Frag) : Sp := fun vs H Q _ => ∃ (b : V) (x : Str) (r : List PyData), vs = [b] ∧ Rp K H b (.tuple (.str x :: r)) ∧ Q (.bl (onWay x)) H
theorem head_rp {H : Hp} {b : V} {x : PyData} {r : List PyData} (h : Rp K H b (.tuple (x :: r))) : ∃ a v vs, b = .ref a ∧ SqT K H a (v :: vs) ∧ Rp K H v x ∧ Rps K H vs r := by
  obtain ⟨a, vs, rfl, ha, hvs⟩ := h.tup_inv
  obtain ⟨v, rest, rfl, h1, h2⟩ := hvs.cons_inv
  exact ⟨a, v, rest, rfl, ha, h1, h2⟩
theorem ok_is_on_the_way (T : Txt K mg w a) : FnOk P w K mg base CX0 1 (He.ga K "is_on_the_way") a.d_is_on_the_way ["body"] (spOnWay K) := by
  refine T.F_is_on_the_way.ok sc_is_on_the_way (fun vs H Q E h => ?_) (fun cdv A outer s H vs Q E hr h => ?_)
  · obtain ⟨b, x, r, rfl, _⟩ := h
    rfl
  · obtain ⟨b, x, r, rfl, hb, q⟩ := h
    obtain ⟨c, v, vs, rfl, hc, hv, _⟩ := head_rp hb
    obtain rfl := hv.str_inv
    refine ⟨_, PSs.nox (pss_one (ps_ret (pe_cmpR op_in_seq (pe_ix ix_tup (pv 0) pe_int (fun _ _ => rfl)) (pe_glob (v := .ref (He.ga K "ON_THE_WAY")) (by rfl) T.g_ON_THE_WAY rfl) (by rfl)))), ?_⟩
    exact ⟨_, rfl, c, _, 0, _, rfl, rfl, hc, atI_nat (j := 0) rfl, _, wayS, rfl, .inr (T.k_ON_THE_WAY H), rfl, rfl, q⟩
def spCheckWay (K : PySem.W.Frag) : Sp := fun vs H Q E => ∃ (b : V) (x : Str) (r : List PyData), vs = [b] ∧ Rp K H b (.tuple (.str x :: r)) ∧ (onWay x = true → Q .non H) ∧ (onWay x = false → E (.ref (He.ga K "NotAllowed")) none H)
theorem ok_check_way (T : Txt K mg w a) : FnOk P w K mg base (L2.CX P w) 2 (He.ga K "_check_way") a.d_check_way ["body"] (spCheckWay K) := by
  refine T.F_check_way.ok (CX := L2.CX P w) sc_check_way (fun vs H Q E h => ?_) (fun cdv A outer s H vs Q E hr h => ?_)
  · obtain ⟨b, x, r, rfl, _⟩ := h
    rfl
  · obtain ⟨b, x, r, rfl, hb, q, qe⟩ := h
    refine ⟨_, (pss_one (ps_if (pt_not (pt_val (pe_call (ok_is_on_the_way T) (hr.mono (by omega)) (by rfl) T.g_is_on_the_way T.F_is_on_the_way.kp T.b_is_on_the_way .nil pass0 (pa_cons (pv 0) pa_nil)))) (pss_one (ps_raise rfl (takes_of rfl rfl rfl rfl) (SkE.pmk_own1 PySem.F.excBase_ValueError T.x_NotAllowed T.g_NotAllowed T.k_NotAllowed (raises_own T.s_NotAllowed T.t_NotAllowed) (by rfl) pe_str))) pss_nil)), ?_⟩
    exact ⟨_, rfl, b, x, r, rfl, hb, _, rfl, Cm.itBn (fun e => qe e) fun e => q e⟩
def spObjOf (K : PySem.W.Frag) : Sp := fun vs H Q E => ∃ (b : V) (x : Str) (nd : PyData) (r : List PyData), vs = [b] ∧ Rp K H b (.tuple (.str x :: nd :: r)) ∧ ((x = "at" ∨ onWay x = true) → ∀ v, Rp K H v nd → Q v H) ∧ (¬ (x = "at" ∨ onWay x = true) → E (.ref (He.ga K "NotAllowed")) none H)
theorem ok_object_of (T : Txt K mg w a) : FnOk P w K mg base (L2.CX P w) 3 (He.ga K "object_of") a.d_object_of ["body"] (spObjOf K) := by
  have gc := ok_check_way (P := P) (w := w) (base := base) T
  refine T.F_object_of.ok (CX := L2.CX P w) sc_object_of (fun vs H Q E h => ?_) (fun cdv A outer s H vs Q E hr h => ?_)
  · obtain ⟨b, x, nd, r, rfl, _⟩ := h
    rfl
  · obtain ⟨b, x, nd, r, rfl, hb, q, qe⟩ := h
    obtain ⟨c, v, vs, rfl, hc, hv, hvs⟩ := head_rp hb
    obtain rfl := hv.str_inv
    obtain ⟨v1, rest, rfl, h1, _⟩ := hvs.cons_inv
    refine ⟨_, (pss_cons (ps_if (pt_cmpR op_ne (pe_ix ix_tup (pv 0) pe_int (fun _ _ => rfl)) pe_str (nomark _)) (pss_one (ps_expr (pe_callS gc (hr.mono (by omega)) (by rfl) T.g_check_way T.F_check_way.kp T.b_check_way (fun σ => passAt (takes_of rfl rfl rfl rfl) σ) (pa_cons (pv 0) pa_nil)))) pss_nil)
      (pss_one (ps_ret (pe_ix ix_tup (pv 0) pe_int (fun _ _ => rfl))))), ?_⟩
    refine ⟨_, rfl, c, _, 0, _, rfl, rfl, hc, atI_nat (j := 0) rfl, rfl, _, rfl, Cm.itNS (fun e1 => ?_) fun e1 => ?_⟩
    · refine ⟨_, rfl, .ref c, x, _, rfl, hb, fun e2 => ?_, fun e2 => qe fun z => z.elim e1 (by rw [e2]; exact fun z => nomatch z)⟩
      exact ⟨_, rfl, c, _, 1, _, rfl, rfl, hc, atI_nat (j := 1) rfl, q (.inr e2) v1 h1⟩
    · exact ⟨_, rfl, c, _, 1, _, rfl, rfl, hc, atI_nat (j := 1) rfl, q (.inl e1) v1 h1⟩
def workS : List V := [.str "call", .str "return", .str "please", .str "carry", .str "at"]
def isWk (x : Str) : Bool := inV (.str x) workS
def spWorking (K : PySem.W.Frag) : Sp := fun vs H Q _ => ∃ (b : V) (x : Str) (r : List PyData), vs = [b] ∧ Rp K H b (.tuple (.str x :: r)) ∧ Q (.bl (isWk x)) H
theorem ok_is_working (T : Txt K mg w a) : FnOk P w K mg base CX0 1 (He.ga K "is_working") a.d_is_working ["body"] (spWorking K) := by
  refine T.F_is_working.ok sc_is_working (fun vs H Q E h => ?_) (fun cdv A outer s H vs Q E hr h => ?_)
  · obtain ⟨b, x, r, rfl, _⟩ := h
    rfl
  · obtain ⟨b, x, r, rfl, hb, q⟩ := h
    obtain ⟨c, v, vs, rfl, hc, hv, _⟩ := head_rp hb
    obtain rfl := hv.str_inv
    refine ⟨_, PSs.nox (pss_one (ps_ret (pe_cmpR op_in_seq (pe_ix ix_tup (pv 0) pe_int (fun _ _ => rfl)) (pe_glob (v := .ref (He.ga K "WORKING")) (by rfl) T.g_WORKING rfl) (by rfl)))), ?_⟩
    exact ⟨_, rfl, c, _, 0, _, rfl, rfl, hc, atI_nat (j := 0) rfl, _, workS, rfl, .inr (T.k_WORKING H), rfl, rfl, q⟩
def spCountOf (K : PySem.W.Frag) : Sp := fun vs H Q E => ∃ (b : V) (x : Str) (r : List PyData), vs = [b] ∧ Rp K H b (.tuple (.str x :: r)) ∧ (onWay x = true → ∃ nd cd r', r = nd :: cd :: r' ∧ ∀ v, Rp K H v cd → Q v H) ∧ (onWay x = false → E (.ref (He.ga K "NotAllowed")) none H)
theorem ok_count_of (T : Txt K mg w a) : FnOk P w K mg base (L2.CX P w) 3 (He.ga K "count_of") a.d_count_of ["body"] (spCountOf K) := by
  have gc := ok_check_way (P := P) (w := w) (base := base) T
  refine T.F_count_of.ok (CX := L2.CX P w) sc_count_of (fun vs H Q E h => ?_) (fun cdv A outer s H vs Q E hr h => ?_)
  · obtain ⟨b, x, r, rfl, _⟩ := h
    rfl
  · obtain ⟨b, x, r, rfl, hb, q, qe⟩ := h
    refine ⟨_, (pss_cons (ps_expr (pe_callS gc (hr.mono (by omega)) (by rfl) T.g_check_way T.F_check_way.kp T.b_check_way (fun σ => passAt (takes_of rfl rfl rfl rfl) σ) (pa_cons (pv 0) pa_nil)))
      (pss_one (ps_ret (pe_ix ix_tup (pv 0) pe_int (fun _ _ => rfl))))), ?_⟩
    refine ⟨_, rfl, b, x, r, rfl, hb, fun e => ?_, fun e => qe e⟩
    obtain ⟨nd, cd, r', rfl, q2⟩ := q e
    obtain ⟨c, v, vs, rfl, hc, hv, hvs⟩ := head_rp hb
    obtain ⟨v1, rest, rfl, h1, hr1⟩ := hvs.cons_inv
    obtain ⟨v2, rest, rfl, h2, _⟩ := hr1.cons_inv
    exact ⟨_, rfl, c, _, 2, _, rfl, rfl, hc, atI_nat (j := 2) rfl, q2 v2 h2⟩
def spWithCount (K : PySem.W.Frag) : Sp := fun vs H Q E => ∃ (b : V) (x : Str) (r : List PyData) (n : Int), vs = [b, .int n] ∧ Rp K H b (.tuple (.str x :: r)) ∧ r.length ≤ 20 ∧ (onWay x = true → ∃ nd cd r', r = nd :: cd :: r' ∧ ∀ v H', Same H H' → Rp K H' v (.tuple (.str x :: nd :: .int n :: r')) → Q v H') ∧ (onWay x = false → E (.ref (He.ga K "NotAllowed")) none H)
theorem ok_with_count (T : Txt K mg w a) : FnOk P w K mg base (L2.CX P w) 3 (He.ga K "with_count") a.d_with_count ["body", "count"] (spWithCount K) := by
  have gc := ok_check_way (P := P) (w := w) (base := base) T
  refine T.F_with_count.ok (CX := L2.CX P w) sc_with_count (fun vs H Q E h => ?_) (fun cdv A outer s H vs Q E hr h => ?_)
  · obtain ⟨b, x, r, n, rfl, _⟩ := h
    rfl
  · obtain ⟨b, x, r, n, rfl, hb, hl, q, qe⟩ := h
    refine ⟨_, (pss_cons (ps_expr (pe_callS gc (hr.mono (by omega)) (by rfl) T.g_check_way T.F_check_way.kp T.b_check_way (fun σ => passAt (takes_of rfl rfl rfl rfl) σ) (pa_cons (pv 0) pa_nil)))
      (pss_one (ps_ret (pe_op op_catA (pe_op op_catA (pe_slice sl_tupA (pv 0) po_none (po_some pe_int)) (pe_tup (pa_cons (pv 1) pa_nil))) (pe_slice sl_tupA (pv 0) (po_some pe_int) po_none))))), ?_⟩
    refine ⟨_, rfl, b, x, r, rfl, hb, fun e => ?_, fun e => qe e⟩
    obtain ⟨nd, cd, r', rfl, q2⟩ := q e
    have hl' : r'.length ≤ 20 := by
      simp only [List.length_cons] at hl
      omega
    refine ⟨_, rfl, _, rfl, upto_rp (k := 2) hb (by show 2 ≤ r'.length + 3; omega) fun v1 H1 s1 r1 => ⟨_, rfl, Cm.small (by show 1 ≤ 100000; decide), fun p np => ?_⟩⟩
    have s2 := Cm.same_new (o := .tup [.int n]) np
    refine cat_rp (r1.keep (Same.tups s2)) (Rp.made (K := K) np (.cons (.int n) .nil)) (by show 2 + 1 ≤ 10000000; decide) fun v2 H2 s3 r3 => ?_
    refine ⟨_, rfl, _, rfl, ?_⟩
    simp only [tNoPart]
    refine from_rp (k := 3) (hb.keep (Same.tups ((s1.trans s2).trans s3))) (by show 3 ≤ r'.length + 3; omega) fun v3 H3 s4 r4 => ?_
    refine cat_rp (r3.keep (Same.tups s4)) r4 (by show 3 + r'.length ≤ 10000000; omega) fun v4 H4 s5 r5 => ?_
    exact q2 v4 H4 ((((s1.trans s2).trans s3).trans s4).trans s5) r5
/-! ### what the law draws and is told -/
abbrev words9 : List Str := ["call", "return", "please", "carry", "at", "stop", "told", "drop", "ack"]
/-- the bodies of the nine kinds -/
def BodD (d : PyData) : Prop := ∃ (x : Str) (y : PyData) (r : List PyData), d = .tuple (.str x :: y :: r) ∧ x ∈ words9 ∧ r.length ≤ 10 ∧ (onWay x = true → ∃ c r', r = c :: r') ∧ Lo 11 y ∧ ∀ d ∈ r, Lo 11 d
theorem so_9 : ∀ x ∈ words9, PyData.strOk x = true := by decide +kernel
theorem wk9 : ∀ x ∈ words9, isWk x = (onWay x || decide (x = "carry") || decide (x = "at")) := by decide +kernel
theorem at9 : ∀ x ∈ words9, onWay x = true → x ≠ "at" := by decide +kernel
theorem way9 : ∀ x ∈ words9, onWay x = decide (x ∈ (["call", "return", "please"] : List Str)) ∧ isWk x = decide (x ∈ (["call", "return", "please", "carry", "at"] : List Str)) := by decide +kernel
theorem bod {x : Str} {y : PyData} {r : List PyData} (hx : x ∈ words9) (hl : r.length ≤ 10) (hw : onWay x = true → ∃ c r', r = c :: r') (hy : Lo 11 y) (hr : ∀ d ∈ r, Lo 11 d) : BodD (.tuple (.str x :: y :: r)) :=
  ⟨x, y, r, rfl, hx, hl, hw, hy, hr⟩
theorem lo1 {n : Nat} {d : PyData} (h : Lo n d) : ∀ x ∈ [d], Lo n x := fun x hx => by rw [List.mem_singleton.mp hx]; exact h
theorem lo_c {n : Nat} {d : PyData} {ds : List PyData} (h : Lo n d) (h2 : ∀ x ∈ ds, Lo n x) : ∀ x ∈ d :: ds, Lo n x := fun x hx => by
  rcases List.mem_cons.mp hx with rfl | hx
  · exact h
  · exact h2 x hx
theorem lo_n {n : Nat} : ∀ x ∈ ([] : List PyData), Lo n x := fun x hx => nomatch hx
theorem lo_ii {n : Nat} {i j : Int} : Lo (n + 1) (.tuple [.int i, .int j]) := lo_tup (lo_c lo_int (lo_c lo_int lo_n))
theorem lo_nil {n : Nat} : Lo (n + 1) (.tuple []) := lo_tup lo_n
def spBods (K : PySem.W.Frag) : Sp := fun vs H Q _ => ∃ (nu : Addr) (ns : List Int), vs = [.ref nu] ∧ NumAt K H nu ns ∧ ∀ H' p acc ds, Same H H' → H' p = some (.lst acc) → Rps K H' acc ds → (∀ d ∈ ds, BodD d) → Q (.ref p) H'
theorem ok_lw_bodies (T : Txt K mg w a) : FnOk P w K mg base CX0 6 (He.ga K "_law_bodies") a.d_lw_bodies ["numbers"] (spBods K) := by
  refine T.F_lw_bodies.ok sc_lw_bodies (fun vs H Q E h => ?_) (fun cdv A outer s H vs Q E hr h => ?_)
  · obtain ⟨nu, ns, rfl, _⟩ := h
    rfl
  · obtain ⟨nu, ns, rfl, N, q⟩ := h
    obtain ⟨hnu, hok, hlen⟩ := id N
    refine ⟨_, PSs.nox (pss_cons (ps_set (i := 1) sc_lw_bodies.nd rfl (Or.inl rfl) (pe_call (ok_lw_object T) (hr.mono (by omega)) (by rfl) T.g_lw_object T.F_lw_object.kp T.b_lw_object .nil pass0 (pa_cons (pe_ix ix_list (pv 0) pe_int (fun _ _ => rfl)) pa_nil)))
      (pss_cons (ps_set (i := 2) sc_lw_bodies.nd rfl (Or.inl rfl) (pe_call (ok_lw_object T) (hr.mono (by omega)) (by rfl) T.g_lw_object T.F_lw_object.kp T.b_lw_object .nil pass0 (pa_cons (pe_ix ix_list (pv 0) pe_int (fun _ _ => rfl)) pa_nil)))
      (pss_cons (ps_set (i := 3) sc_lw_bodies.nd rfl (Or.inl rfl) (pe_op op_sub (pe_op op_mod (pe_ix ix_list (pv 0) pe_int (fun _ _ => rfl)) pe_int) pe_int))
      (pss_cons (ps_set (i := 4) sc_lw_bodies.nd rfl (Or.inl rfl) (pe_lst (pa_cons (pe_tup (pa_cons pe_str (pa_cons (pv 1) (pa_cons (pv 3) (pa_cons (pe_ix ix_tup (pv 2) pe_int (fun _ _ => rfl)) (pa_cons pe_int (pa_cons (pv 2) (pa_cons pe_str (pa_cons (pe_call (ok_lw_values T) (hr.mono (by omega)) (by rfl) T.g_lw_values T.F_lw_values.kp T.b_lw_values .nil pass0 (pa_cons (pv 0) (pa_cons pe_int (pa_cons pe_int pa_nil)))) (pa_cons (pe_tup (pa_cons pe_int (pa_cons pe_int pa_nil))) pa_nil)))))))))) (pa_cons (pe_tup (pa_cons pe_str (pa_cons (pv 1) (pa_cons (pv 3) (pa_cons (pe_ix ix_tup (pv 2) pe_int (fun _ _ => rfl)) (pa_cons pe_int (pa_cons (pe_call (ok_lw_value T) (hr.mono (by omega)) (by rfl) T.g_lw_value T.F_lw_value.kp T.b_lw_value .nil pass0 (pa_cons (pe_ix ix_list (pv 0) pe_int (fun _ _ => rfl)) pa_nil)) (pa_cons (pe_tup (pa_cons pe_int (pa_cons pe_int pa_nil))) pa_nil)))))))) pa_nil))))
      (pss_cons (ps_set (i := 4) sc_lw_bodies.nd rfl (Or.inl rfl) (pe_op op_cat (pv 4) (pe_lst (pa_cons (pe_tup (pa_cons pe_str (pa_cons (pv 1) (pa_cons (pv 3) (pa_cons (pe_op op_mod (pe_ix ix_list (pv 0) pe_int (fun _ _ => rfl)) pe_int) pa_nil))))) (pa_cons (pe_tup (pa_cons pe_str (pa_cons (pe_tup (pa_cons (pe_call (ok_lw_bundle T) (hr.mono (by omega)) (by rfl) T.g_lw_bundle T.F_lw_bundle.kp T.b_lw_bundle .nil pass0 (pa_cons (pv 0) (pa_cons pe_int pa_nil))) pa_nil)) pa_nil))) (pa_cons (pe_tup (pa_cons pe_str (pa_cons (pv 1) (pa_cons (pe_op op_mod (pe_ix ix_list (pv 0) pe_int (fun _ _ => rfl)) pe_int) (pa_cons (pe_callB call_abs (by rfl) T.g_abs boot_abs (pa_cons (pv 3) pa_nil)) pa_nil))))) pa_nil))))))
      (pss_one (ps_ret (pe_op op_cat (pv 4) (pe_lst (pa_cons (pe_tup (pa_cons pe_str (pa_cons pe_int (pa_cons pe_int pa_nil)))) (pa_cons (pe_tup (pa_cons pe_str (pa_cons pe_int (pa_cons pe_int (pa_cons pe_int (pa_cons (pe_tup pa_nil) pa_nil)))))) (pa_cons (pe_tup (pa_cons pe_str (pa_cons pe_int (pa_cons (pe_tup (pa_cons (pv 1) pa_nil)) pa_nil)))) (pa_cons (pe_tup (pa_cons pe_str (pa_cons pe_int (pa_cons (pe_tup (pa_cons pe_int (pa_cons pe_int pa_nil))) pa_nil)))) pa_nil))))))))))))), ?_⟩
    rw [show L2.start N_lw_bodies [.ref nu] = [some (.ref nu), none, none, none, none] from rfl]
    obtain ⟨n0, hn0, e0⟩ := Cm.at_int (ns := ns) (i := 0) (by omega) (by omega)
    obtain ⟨n1, hn1, e1⟩ := Cm.at_int (ns := ns) (i := 1) (by omega) (by omega)
    obtain ⟨n2, hn2, e2⟩ := Cm.at_int (ns := ns) (i := 2) (by omega) (by omega)
    obtain ⟨n3, hn3, e3⟩ := Cm.at_int (ns := ns) (i := 3) (by omega) (by omega)
    obtain ⟨n4, hn4, e4⟩ := Cm.at_int (ns := ns) (i := 4) (by omega) (by omega)
    refine ⟨_, rfl, nu, _, _, _, rfl, rfl, SqL.of hnu, e0, n0, rfl, (hok n0 hn0).1, fun H1 nv npd nj _ s1 rn hnp hn0' hn1' _ => ?_⟩
    have N1 := N.same s1
    refine ⟨_, rfl, nu, _, _, _, rfl, rfl, SqL.of N1.1, e1, n1, rfl, (hok n1 hn1).1, fun H2 ov opd oj _ s2 ro hop ho0 ho1 _ => ?_⟩
    have N2 := N1.same s2
    have rn2 := rn.keep (Same.tups s2)
    have ln : Lo 11 (.tuple [npd, .int nj]) := (lo_obj ⟨npd, nj, rfl, hnp, hn0', hn1'⟩).mono (by decide)
    have lo' : Lo 11 (.tuple [opd, .int oj]) := (lo_obj ⟨opd, oj, rfl, hop, ho0, ho1⟩).mono (by decide)
    have lop : Lo 11 opd := (lo_proc hop).mono (by decide)
    refine ⟨_, rfl, nu, _, _, _, rfl, rfl, SqL.of N2.1, e2, _, _, rfl, rfl, (by show (0 : Int) < 9; decide), _, _, rfl, rfl, ?_⟩
    obtain ⟨oa, ovs, rfl, hoa, rovs⟩ := ro.tup_inv
    obtain ⟨op, or', rfl, rop, ror⟩ := rovs.cons_inv
    obtain ⟨oj', or2, rfl, roj, ror2⟩ := ror.cons_inv
    obtain rfl := ror2.nil_inv
    obtain rfl := roj.int_inv
    simp only [gName, List.set_cons_succ, List.set_cons_zero]
    -- the call
    refine ⟨_, rfl, _, rfl, _, rfl, oa, _, 0, _, rfl, rfl, hoa, atI_nat (j := 0) rfl, _, rfl, _, rfl, nu, ns, 5, 3, rfl, N2, by decide, fun H3 av as s3 ras las vas => ?_⟩
    refine ⟨Cm.small (by show 2 ≤ 100000; decide), fun t1 nt1 => ⟨Cm.small (by show 9 ≤ 100000; decide), fun B1 nB1 => ?_⟩⟩
    have s4 := Cm.same_new (o := .tup [.int 2, .int 1]) nt1
    have rt1 := Rp.made (K := K) nt1 (.cons (.int 2) (.cons (.int 1) .nil))
    have s34 := s3.trans s4
    have rB1 := Rp.made nB1 (.cons (.str "call") (.cons (rn2.keep (Same.tups s34)) (.cons (.int (n2 % 9 - 1)) (.cons (rop.keep (Same.tups s34)) (.cons (.int 1) (.cons (ro.keep (Same.tups s34)) (.cons (.str "get") (.cons (ras.keep (Same.tups s4)) (.cons rt1 .nil)))))))))
    have s5 := Cm.same_new (o := .tup [.str "call", nv, .int (n2 % 9 - 1), op, .int 1, .ref oa, .str "get", av, .ref t1]) nB1
    have s25 := s34.trans s5
    have hb1 : BodD (.tuple [.str "call", .tuple [npd, .int nj], .int (n2 % 9 - 1), opd, .int 1, .tuple [opd, .int oj], .str "get", .tuple as, .tuple [.int 2, .int 1]]) :=
      bod (by simp) (by simp) (fun _ => ⟨_, _, rfl⟩) ln (lo_c lo_int (lo_c lop (lo_c lo_int (lo_c lo' (lo_c (lo_str (by decide +kernel)) (lo_c ((lo_vals vas).mono (by decide)) (lo_c lo_ii lo_n)))))))
    generalize upd (upd H3 t1 (.tup [.int 2, .int 1])) B1 (.tup [.str "call", nv, .int (n2 % 9 - 1), op, .int 1, .ref oa, .str "get", av, .ref t1]) = H5 at *
    have N5 := N2.same s25
    have rn5 := rn2.keep (Same.tups s25)
    have ro5 := ro.keep (Same.tups s25)
    have rop5 := rop.keep (Same.tups s25)
    have hoa5 := Cm.sameT s25 hoa
    -- the return
    refine ⟨_, rfl, _, rfl, _, rfl, oa, _, 0, _, rfl, rfl, hoa5, atI_nat (j := 0) rfl, _, rfl, nu, _, _, _, rfl, rfl, SqL.of N5.1, e3, n3, rfl, (hok n3 hn3).1, fun H6 rv rd s6 rrv hrv => ?_⟩
    refine ⟨Cm.small (by show 2 ≤ 100000; decide), fun t2 nt2 => ⟨Cm.small (by show 7 ≤ 100000; decide), fun B2 nB2 => ⟨Cm.small (by show 2 ≤ 100000; decide), fun L1 nL1 => ?_⟩⟩⟩
    have s7 := Cm.same_new (o := .tup [.int 0, .int 4]) nt2
    have rt2 := Rp.made (K := K) nt2 (.cons (.int 0) (.cons (.int 4) .nil))
    have s67 := s6.trans s7
    have rB2 := Rp.made nB2 (.cons (.str "return") (.cons (rn5.keep (Same.tups s67)) (.cons (.int (n2 % 9 - 1)) (.cons (rop5.keep (Same.tups s67)) (.cons (.int 0) (.cons (rrv.keep (Same.tups s7)) (.cons rt2 .nil)))))))
    have s8 := Cm.same_new (o := .tup [.str "return", nv, .int (n2 % 9 - 1), op, .int 0, rv, .ref t2]) nB2
    have hb2 : BodD (.tuple [.str "return", .tuple [npd, .int nj], .int (n2 % 9 - 1), opd, .int 0, rd, .tuple [.int 0, .int 4]]) :=
      bod (by simp) (by simp) (fun _ => ⟨_, _, rfl⟩) ln (lo_c lo_int (lo_c lop (lo_c lo_int (lo_c ((lo_val hrv).mono (by decide)) (lo_c lo_ii lo_n)))))
    have rB1' := rB1.keep (Same.tups (s67.trans s8))
    have s58 := s67.trans s8
    generalize upd (upd H6 t2 (.tup [.int 0, .int 4])) B2 (.tup [.str "return", nv, .int (n2 % 9 - 1), op, .int 0, rv, .ref t2]) = H8 at *
    have s9 := Cm.same_new (o := .lst [.ref B1, .ref B2]) nL1
    have hL1 : (upd H8 L1 (.lst [.ref B1, .ref B2])) L1 = some (.lst [.ref B1, .ref B2]) := upd_same
    have rL1 : Rps K (upd H8 L1 (.lst [.ref B1, .ref B2])) [.ref B1, .ref B2] _ := .cons (rB1'.keep (Same.tups s9)) (.cons (rB2.keep (Same.tups s9)) .nil)
    have s29 := (s25.trans s58).trans s9
    generalize upd H8 L1 (.lst [.ref B1, .ref B2]) = H9 at *
    have N9 := N2.same s29
    have rn9 := rn2.keep (Same.tups s29)
    simp only [gName, List.set_cons_succ, List.set_cons_zero]
    -- please, carry, at
    refine ⟨_, rfl, _, rfl, _, rfl, _, rfl, nu, _, _, _, rfl, rfl, SqL.of N9.1, e4, _, _, rfl, rfl, (by show (0 : Int) < 5; decide), Cm.small (by show 4 ≤ 100000; decide), fun B3 nB3 => ?_⟩
    have sa := Cm.same_new (o := .tup [.str "please", nv, .int (n2 % 9 - 1), .int (n4 % 5)]) nB3
    have rB3 := Rp.made nB3 (.cons (.str "please") (.cons rn9 (.cons (.int (n2 % 9 - 1)) (.cons (.int (n4 % 5)) .nil))))
    have hb3 : BodD (.tuple [.str "please", .tuple [npd, .int nj], .int (n2 % 9 - 1), .int (n4 % 5)]) := bod (by simp) (by simp) (fun _ => ⟨_, _, rfl⟩) ln (lo_c lo_int (lo_c lo_int lo_n))
    generalize upd H9 B3 (.tup [.str "please", nv, .int (n2 % 9 - 1), .int (n4 % 5)]) = Ha at *
    refine ⟨_, rfl, nu, ns, 10, rfl, N9.same sa, fun Hb bv bd sb rbv hbd => ?_⟩
    refine ⟨Cm.small (by show 1 ≤ 100000; decide), fun t3 nt3 => ⟨Cm.small (by show 2 ≤ 100000; decide), fun B4 nB4 => ?_⟩⟩
    have sc := Cm.same_new (o := .tup [bv]) nt3
    have rt3 := Rp.made nt3 (.cons rbv .nil)
    have sd := Cm.same_new (o := .tup [.str "carry", .ref t3]) nB4
    have rB4 := Rp.made nB4 (.cons (.str "carry") (.cons rt3 .nil))
    have hb4 : BodD (.tuple [.str "carry", .tuple [bd]]) := bod (by simp) (by simp) (fun e => absurd e (by decide +kernel)) (Lo.mono (lo_tup (lo1 (lo_bund hbd))) (by decide)) lo_n
    have sbd := (sb.trans sc).trans sd
    have rB3' := rB3.keep (Same.tups sbd)
    have s9d := sa.trans sbd
    generalize upd (upd Hb t3 (.tup [bv])) B4 (.tup [.str "carry", .ref t3]) = Hd at *
    have Nd := N9.same s9d
    refine ⟨_, rfl, _, rfl, nu, _, _, _, rfl, rfl, SqL.of Nd.1, e4, _, _, rfl, rfl, (by show (0 : Int) < 5; decide), _, rfl, _, rfl, Cm.small (by show 4 ≤ 100000; decide), fun B5 nB5 => ⟨Cm.small (by show 3 ≤ 100000; decide), fun L2' nL2 => ?_⟩⟩
    generalize (if n2 % 9 - 1 < 0 then -(n2 % 9 - 1) else n2 % 9 - 1) = ac at *
    have se := Cm.same_new (o := .tup [.str "at", nv, .int (n4 % 5), .int ac]) nB5
    have rB5 := Rp.made nB5 (.cons (.str "at") (.cons (rn9.keep (Same.tups s9d)) (.cons (.int (n4 % 5)) (.cons (.int ac) .nil))))
    have hb5 : BodD (.tuple [.str "at", .tuple [npd, .int nj], .int (n4 % 5), .int ac]) := bod (by simp) (by simp) (fun e => absurd e (by decide +kernel)) ln (lo_c lo_int (lo_c lo_int lo_n))
    have rB3'' := rB3'.keep (Same.tups se)
    have rB4' := rB4.keep (Same.tups se)
    have s9e := s9d.trans se
    generalize upd Hd B5 (.tup [.str "at", nv, .int (n4 % 5), .int ac]) = He' at *
    have sf := Cm.same_new (o := .lst [.ref B3, .ref B4, .ref B5]) nL2
    have rL2 : Rps K (upd He' L2' (.lst [.ref B3, .ref B4, .ref B5])) [.ref B3, .ref B4, .ref B5] _ := .cons (rB3''.keep (Same.tups sf)) (.cons (rB4'.keep (Same.tups sf)) (.cons (rB5.keep (Same.tups sf)) .nil))
    have s9f := s9e.trans sf
    have hL2 : (upd He' L2' (.lst [.ref B3, .ref B4, .ref B5])) L2' = some (.lst [.ref B3, .ref B4, .ref B5]) := upd_same
    generalize upd He' L2' (.lst [.ref B3, .ref B4, .ref B5]) = Hf at *
    refine ⟨L1, L2', _, _, rfl, rfl, s9f _ _ hL1, hL2, Cm.small (by show 5 ≤ 100000; decide), fun L3 nL3 => ?_⟩
    have sg := Cm.same_new (o := .lst ([.ref B1, .ref B2] ++ [.ref B3, .ref B4, .ref B5])) nL3
    have rL3 := ((rL1.keep (Same.tups s9f)).app rL2).keep (Same.tups sg)
    have hL3 : (upd Hf L3 (.lst ([.ref B1, .ref B2] ++ [.ref B3, .ref B4, .ref B5]))) L3 = some (.lst ([.ref B1, .ref B2] ++ [.ref B3, .ref B4, .ref B5])) := upd_same
    have s9g := s9f.trans sg
    generalize upd Hf L3 (.lst ([.ref B1, .ref B2] ++ [.ref B3, .ref B4, .ref B5])) = Hg at *
    -- stop, told, drop, ack
    have rng := rn9.keep (Same.tups s9g)
    refine ⟨_, rfl, Cm.small (by show 3 ≤ 100000; decide), fun B6 nB6 => ⟨Nat.zero_le _, fun t6 nt6 => ⟨Cm.small (by show 5 ≤ 100000; decide), fun B7 nB7 => ⟨_, rfl, Cm.small (by show 1 ≤ 100000; decide), fun t7 nt7 => ⟨Cm.small (by show 3 ≤ 100000; decide), fun B8 nB8 => ⟨Cm.small (by show 2 ≤ 100000; decide), fun t8 nt8 => ⟨Cm.small (by show 3 ≤ 100000; decide), fun B9 nB9 => ⟨Cm.small (by show 4 ≤ 100000; decide), fun L4 nL4 => ?_⟩⟩⟩⟩⟩⟩⟩⟩
    have z1 := Cm.same_new (o := .tup [.str "stop", .int 3, .int 1]) nB6
    have rB6 := Rp.made (K := K) nB6 (.cons (.str "stop") (.cons (.int 3) (.cons (.int 1) .nil)))
    generalize upd Hg B6 (.tup [.str "stop", .int 3, .int 1]) = K1 at *
    have z2 := Cm.same_new (o := .tup []) nt6
    have rt6 := Rp.made (K := K) nt6 (.nil : Rps K K1 [] [])
    generalize upd K1 t6 (.tup []) = K2 at *
    have z3 := Cm.same_new (o := .tup [.str "told", .int 3, .int 1, .int 0, .ref t6]) nB7
    have rB7 := Rp.made nB7 (.cons (.str "told") (.cons (.int 3) (.cons (.int 1) (.cons (.int 0) (.cons rt6 .nil)))))
    generalize upd K2 B7 (.tup [.str "told", .int 3, .int 1, .int 0, .ref t6]) = K3 at *
    have z4 := Cm.same_new (o := .tup [nv]) nt7
    have rt7 := Rp.made nt7 (.cons (rng.keep (Same.tups ((z1.trans z2).trans z3))) .nil)
    generalize upd K3 t7 (.tup [nv]) = K4 at *
    have z5 := Cm.same_new (o := .tup [.str "drop", .int 3, .ref t7]) nB8
    have rB8 := Rp.made nB8 (.cons (.str "drop") (.cons (.int 3) (.cons rt7 .nil)))
    generalize upd K4 B8 (.tup [.str "drop", .int 3, .ref t7]) = K5 at *
    have z6 := Cm.same_new (o := .tup [.int 6, .int 9]) nt8
    have rt8 := Rp.made (K := K) nt8 (.cons (.int 6) (.cons (.int 9) .nil))
    generalize upd K5 t8 (.tup [.int 6, .int 9]) = K6 at *
    have z7 := Cm.same_new (o := .tup [.str "ack", .int 4, .ref t8]) nB9
    have rB9 := Rp.made nB9 (.cons (.str "ack") (.cons (.int 4) (.cons rt8 .nil)))
    generalize upd K6 B9 (.tup [.str "ack", .int 4, .ref t8]) = K7 at *
    have z8 := Cm.same_new (o := .lst [.ref B6, .ref B7, .ref B8, .ref B9]) nL4
    have hL4 : (upd K7 L4 (.lst [.ref B6, .ref B7, .ref B8, .ref B9])) L4 = some (.lst [.ref B6, .ref B7, .ref B8, .ref B9]) := upd_same
    generalize upd K7 L4 (.lst [.ref B6, .ref B7, .ref B8, .ref B9]) = K8 at *
    have w7 := z8
    have w6 := z7.trans w7
    have w5 := z6.trans w6
    have w4 := z5.trans w5
    have w3 := z4.trans w4
    have w2 := z3.trans w3
    have w1 := z2.trans w2
    have w0 := z1.trans w1
    have rL4 : Rps K K8 [.ref B6, .ref B7, .ref B8, .ref B9] _ := .cons (rB6.keep (Same.tups w1)) (.cons (rB7.keep (Same.tups w3)) (.cons (rB8.keep (Same.tups w5)) (.cons (rB9.keep (Same.tups w7)) .nil)))
    have hb6 : BodD (.tuple [.str "stop", .int 3, .int 1]) := bod (by simp) (by simp) (fun e => absurd e (by decide +kernel)) lo_int (lo_c lo_int lo_n)
    have hb7 : BodD (.tuple [.str "told", .int 3, .int 1, .int 0, .tuple []]) := bod (by simp) (by simp) (fun e => absurd e (by decide +kernel)) lo_int (lo_c lo_int (lo_c lo_int (lo_c lo_nil lo_n)))
    have hb8 : BodD (.tuple [.str "drop", .int 3, .tuple [.tuple [npd, .int nj]]]) := bod (by simp) (by simp) (fun e => absurd e (by decide +kernel)) lo_int (lo_c (Lo.mono (lo_tup (lo1 (lo_obj ⟨npd, nj, rfl, hnp, hn0', hn1'⟩))) (by decide)) lo_n)
    have hb9 : BodD (.tuple [.str "ack", .int 4, .tuple [.int 6, .int 9]]) := bod (by simp) (by simp) (fun e => absurd e (by decide +kernel)) lo_int (lo_c lo_ii lo_n)
    refine ⟨L3, L4, _, _, rfl, rfl, w0 _ _ hL3, hL4, Cm.small (by show 9 ≤ 100000; decide), fun L5 nL5 => ?_⟩
    have s5' := Cm.same_new (o := .lst (([.ref B1, .ref B2] ++ [.ref B3, .ref B4, .ref B5]) ++ [.ref B6, .ref B7, .ref B8, .ref B9])) nL5
    refine q _ L5 _ _ ((((s1.trans s2).trans s29).trans s9g).trans (w0.trans s5')) upd_same (((rL3.keep (Same.tups w0)).app rL4).keep (Same.tups s5')) fun d hd => ?_
    simp only [List.cons_append, List.nil_append, List.mem_cons, List.not_mem_nil, or_false] at hd
    rcases hd with rfl | rfl | rfl | rfl | rfl | rfl | rfl | rfl | rfl
    · exact hb1
    · exact hb2
    · exact hb3
    · exact hb4
    · exact hb5
    · exact hb6
    · exact hb7
    · exact hb8
    · exact hb9
def refD : PyData := .tuple [.str "refused", .bool true]
/-- what _law_told gives -/
def toldD (k : Int) (x : Str) (y : PyData) (r : List PyData) : PyData :=
  if k = 0 then (if x = "at" ∨ onWay x = true then y else refD)
  else if onWay x = true then (if k = 1 then r.headD refD else .tuple (.str x :: y :: .int 77 :: r.tail)) else refD
theorem told0 {x : Str} {y : PyData} {r : List PyData} (e : x = "at" ∨ onWay x = true) : toldD 0 x y r = y := (if_pos rfl).trans (if_pos e)
theorem told0n {x : Str} {y : PyData} {r : List PyData} (e : ¬(x = "at" ∨ onWay x = true)) : toldD 0 x y r = refD := (if_pos rfl).trans (if_neg e)
theorem told1 {x : Str} {y c : PyData} {r : List PyData} (e : onWay x = true) : toldD 1 x y (c :: r) = c := (if_neg (by decide)).trans ((if_pos e).trans (if_pos rfl))
theorem told2 {k : Int} (h0 : k ≠ 0) (h1 : k ≠ 1) {x : Str} {y c : PyData} {r : List PyData} (e : onWay x = true) : toldD k x y (c :: r) = .tuple (.str x :: y :: .int 77 :: r) := (if_neg h0).trans ((if_pos e).trans (if_neg h1))
theorem toldn {k : Int} (h0 : k ≠ 0) {x : Str} {y : PyData} {r : List PyData} (e : onWay x = false) : toldD k x y r = refD := (if_neg h0).trans (if_neg (fun z => by rw [e] at z; exact absurd z (by decide)))
theorem Txt.e_NotAllowed (T : Txt K mg w a) : ExcC K (He.ga K "NotAllowed") := ⟨T.m1_, T.m2_, T.s_NotAllowed, T.m4_, T.m5_, T.m6_, T.m7_, T.m8_⟩
theorem pss_cls {X : Cx} {cls cls' : Value} {d d' : Option Addr} {ss : List Stmt} {t : TS} (h : cls = cls' → d = d' → PSs X ss t) : PSs X ss (fun D σ H => cls = cls' ∧ d = d' ∧ t D σ H) :=
  ⟨fun pins s σ H D I hh => (h hh.1 hh.2.1).run pins s σ H D I hh.2.2⟩
theorem zc_of {cls cls' : Value} {d d' : Option Addr} {o : Obj} (h1 : cls = cls') (h2 : d = d') (hz : Zc cls d o) : Zc cls' d' o := by
  subst h1 h2
  exact hz
def spTold (K : PySem.W.Frag) : Sp := fun vs H Q _ => ∃ (k : Int) (b : V) (x : Str) (y : PyData) (r : List PyData), vs = [.int k, b] ∧ Rp K H b (.tuple (.str x :: y :: r)) ∧ r.length ≤ 10 ∧ (onWay x = true → ∃ c r', r = c :: r') ∧ ∀ H' v, Same H H' → Rp K H' v (toldD k x y r) → Q v H'
theorem ok_lw_told (T : Txt K mg w a) : FnOk P w K mg base CX0 4 (He.ga K "_law_told") a.d_lw_told ["kind", "body"] (spTold K) := by
  have go := ok_object_of (P := P) (w := w) (base := base) T
  have gc := ok_count_of (P := P) (w := w) (base := base) T
  have gw := ok_with_count (P := P) (w := w) (base := base) T
  refine T.F_lw_told.ok sc_lw_told (fun vs H Q E h => ?_) (fun cdv A outer s H vs Q E hr h => ?_)
  · obtain ⟨k, b, x, y, r, rfl, _⟩ := h
    rfl
  · obtain ⟨k, b, x, y, r, rfl, rb, hl, hw, q⟩ := h
    refine ⟨_, PSs.nox (pss_one (ps_try_as (i := 2) rfl rfl sc_lw_told.nd rfl rfl ⟨rfl, by decide, .inl T.g_NotAllowed⟩ takes0 (fun W pn xe tk _ => (pss_cons (ps_if (pt_cmpR op_eq (pv 0) pe_int (nomark _)) (pss_one (ps_ret (pe_callS go (hr.mono (by omega)) (by rfl) T.g_object_of T.F_object_of.kp T.b_object_of (fun σ => passAt tk σ) (pa_cons (pv 1) pa_nil)))) pss_nil)
      (pss_cons (ps_if (pt_cmpR op_eq (pv 0) pe_int (nomark _)) (pss_one (ps_ret (pe_callS gc (hr.mono (by omega)) (by rfl) T.g_count_of T.F_count_of.kp T.b_count_of (fun σ => passAt tk σ) (pa_cons (pv 1) pa_nil)))) pss_nil)
      (pss_one (ps_ret (pe_callS gw (hr.mono (by omega)) (by rfl) T.g_with_count T.F_with_count.kp T.b_with_count (fun σ => passAt tk σ) (pa_cons (pv 1) (pa_cons pe_int pa_nil))))))))
      (fun a oe cls d pn hz hf => pss_cls (cls' := .ref (He.ga K "NotAllowed")) (d' := none) fun z1 z2 => (pss_one (ps_ret (pe_tup (pa_cons pe_str (pa_cons (pe_and (pe_callB (call_isE T.e_NotAllowed (zc_of z1 z2 hz) hf) (by rfl) T.g_isinstance boot_isinstance (pa_cons (pv 2) (pa_cons (pe_glob (v := .ref (He.ga K "PortError")) (by rfl) T.g_PortError rfl) pa_nil))) (pe_one (pe_not (pe_callB (call_isE T.e_NotAllowed (zc_of z1 z2 hz) hf) (by rfl) T.g_isinstance boot_isinstance (pa_cons (pv 2) (pa_cons (pe_glob (v := .ref (He.ga K "Missing")) (by rfl) T.g_Missing rfl) pa_nil)))))) pa_nil)))))))), ?_⟩
    rw [show L2.start N_lw_told [.int k, b] = [some (.int k), some b, none] from rfl]
    refine ⟨_, rfl, rfl, _, rfl, Cm.itEI (fun e0 => ?_) fun e0 => ?_⟩
    · subst e0
      refine ⟨_, rfl, b, x, y, r, rfl, rb, fun e v rv => ?_, fun e => ⟨true, T.e1_, fun _ e' ha => ⟨rfl, rfl, ?_⟩, fun z => nomatch z⟩⟩
      · refine q _ v (Same.refl H) ?_
        rw [told0 e]
        exact rv
      · refine ⟨_, rfl, _, .ref (He.ga K "PortError"), true, rfl, (fun u h => h), T.e2_, true, rfl, ?_⟩
        rw [if_pos rfl]
        refine ⟨_, rfl, _, .ref (He.ga K "Missing"), false, rfl, (fun u h => h), T.e3_, ?_⟩
        refine ⟨false, rfl, Cm.small (by show 2 ≤ 100000; decide), fun t nt => q _ _ (Cm.same_new nt) ?_⟩
        rw [told0n e]
        exact Rp.made nt (.cons (.str "refused") (.cons (.bl true) .nil))
    · have e0' : k ≠ 0 := e0
      refine ⟨_, rfl, rfl, _, rfl, Cm.itEI (fun e1 => ?_) fun e1 => ?_⟩
      · subst e1
        refine ⟨_, rfl, b, x, y :: r, rfl, rb, fun e => ?_, fun e => ⟨true, T.e1_, fun _ e' ha => ⟨rfl, rfl, ?_⟩, fun z => nomatch z⟩⟩
        · obtain ⟨c, r', rfl⟩ := hw e
          refine ⟨y, c, r', rfl, fun v rv => q _ v (Same.refl H) ?_⟩
          rw [told1 e]
          exact rv
        · refine ⟨_, rfl, _, .ref (He.ga K "PortError"), true, rfl, (fun u h => h), T.e2_, true, rfl, ?_⟩
          rw [if_pos rfl]
          refine ⟨_, rfl, _, .ref (He.ga K "Missing"), false, rfl, (fun u h => h), T.e3_, ?_⟩
          refine ⟨false, rfl, Cm.small (by show 2 ≤ 100000; decide), fun t nt => q _ _ (Cm.same_new nt) ?_⟩
          rw [toldn e0' e]
          exact Rp.made nt (.cons (.str "refused") (.cons (.bl true) .nil))
      · have e1' : k ≠ 1 := e1
        refine ⟨_, rfl, b, x, y :: r, 77, rfl, rb, by simp only [List.length_cons]; omega, fun e => ?_, fun e => ⟨true, T.e1_, fun _ e' ha => ⟨rfl, rfl, ?_⟩, fun z => nomatch z⟩⟩
        · obtain ⟨c, r', rfl⟩ := hw e
          refine ⟨y, c, r', rfl, fun v H' s' rv => q _ v s' ?_⟩
          rw [told2 e0' e1' e]
          exact rv
        · refine ⟨_, rfl, _, .ref (He.ga K "PortError"), true, rfl, (fun u h => h), T.e2_, true, rfl, ?_⟩
          rw [if_pos rfl]
          refine ⟨_, rfl, _, .ref (He.ga K "Missing"), false, rfl, (fun u h => h), T.e3_, ?_⟩
          refine ⟨false, rfl, Cm.small (by show 2 ≤ 100000; decide), fun t nt => q _ _ (Cm.same_new nt) ?_⟩
          rw [toldn e0' e]
          exact Rp.made nt (.cons (.str "refused") (.cons (.bl true) .nil))
def spLaw (K : PySem.W.Frag) : Sp := fun vs H Q _ => ∃ (a : Addr) (ns : List Int), vs = [.ref a] ∧ SqL K H a (ns.map V.int) ∧ ns.length ≤ 63 ∧ ∀ H', Q (.bl true) H'
theorem lo_bool {n : Nat} {b : Bool} : Lo n (.bool b) := ⟨by simp [PyData.canLay0], by simp [PyData.depth]⟩
theorem lo_lst {n : Nat} {ds : List PyData} (h : ∀ d ∈ ds, Lo n d) : Lo (n + 1) (.list ds) := by
  obtain ⟨h1, h2⟩ := lo_all h
  exact ⟨by simp [PyData.canLay0, h1], by simp only [PyData.depth]; omega⟩
theorem lo_ref {n : Nat} : Lo (n + 1) refD := lo_tup (lo_c (lo_str (by decide +kernel)) (lo_c lo_bool lo_n))
theorem lo_told {k : Int} {x : Str} {y : PyData} {r : List PyData} (hx : x ∈ words9) (hw : onWay x = true → ∃ c r', r = c :: r') (hy : Lo 11 y) (hr : ∀ d ∈ r, Lo 11 d) : Lo 12 (toldD k x y r) := by
  unfold toldD
  split
  · split
    · exact hy.mono (by decide)
    · exact lo_ref
  · split
    · rename_i e
      obtain ⟨c, r', rfl⟩ := hw e
      split
      · exact (hr c List.mem_cons_self).mono (by decide)
      · exact lo_tup (lo_c (lo_str (so_9 x hx)) (lo_c hy (lo_c lo_int fun d hd => hr d (List.mem_cons_of_mem _ hd))))
    · exact lo_ref
def dueD (x : Str) (y : PyData) (r : List PyData) : List PyData := if onWay x = true then [y, r.headD refD, .tuple (.str x :: y :: .int 77 :: r.tail)] else [refD, refD, refD]
def told3 (x : Str) (y : PyData) (r : List PyData) : List PyData := [toldD 0 x y r, toldD 1 x y r, toldD 2 x y r]
theorem orv3 {b : Bool} {x c1 c2 : Str} {a0 a1 a2 a3 a6 a7 a8 : Option V} {H : Hp} {Q : VK} (q : Q (.bl (b || decide (x = c1) || decide (x = c2))) H) :
    tOrV (tVar 5) (tOrV (tOp rEq (tVar 4) (tC (.str c1))) (tOp rEq (tVar 4) (tC (.str c2)))) [a0, a1, a2, a3, some (.str x), some (.bl b), a6, a7, a8] H Q := by
  have e : ∀ c : Str, decide (V.str x = V.str c) = decide (x = c) := fun c => by
    rw [decide_eq_decide]
    exact ⟨fun z => V.str.inj z, fun z => by rw [z]⟩
  refine ⟨_, rfl, b, rfl, ?_⟩
  cases b with
  | true =>
    rw [if_pos rfl]
    simpa using q
  | false =>
    rw [if_neg (by decide)]
    refine ⟨_, rfl, rfl, _, rfl, ?_⟩
    rw [e]
    by_cases h : x = c1
    · rw [if_pos (by simp [h])]
      simpa [h] using q
    · rw [if_neg (by simp [h])]
      refine ⟨_, rfl, rfl, ?_⟩
      rw [e]
      simpa [h] using q
theorem ok_law (T : Txt K mg w a) : FnOk P w K mg base CX0 7 (He.ga K "law") a.d_law ["script"] (spLaw K) := by
  refine T.F_law.ok sc_law (fun vs H Q E h => ?_) (fun cdv A outer s H vs Q E hr h => ?_)
  · obtain ⟨l, ns, rfl, _⟩ := h
    rfl
  · obtain ⟨l, sc, rfl, hl, hsc, q⟩ := h
    refine ⟨_, PSs.nox (pss_cons (ps_set (i := 1) sc_law.nd rfl (Or.inl rfl) (pe_call (ok_lw_numbers T) (hr.mono (by omega)) (by rfl) T.g_lw_numbers T.F_lw_numbers.kp T.b_lw_numbers .nil pass0 (pa_cons (pv 0) (pa_cons pe_int pa_nil))))
      (pss_cons (ps_set (i := 2) sc_law.nd rfl (Or.inl rfl) (pe_tup (pa_cons pe_str (pa_cons pe_bl pa_nil))))
      (pss_cons (ps_for PassesOwn.never rfl (pi_list (pe_call (ok_lw_bodies T) (hr.mono (by omega)) (by rfl) T.g_lw_bodies T.F_lw_bodies.kp T.b_lw_bodies .nil pass0 (pa_cons (pv 1) pa_nil))) (pg_name (i := 3) sc_law.nd rfl (Or.inr rfl))
      (pss_cons (ps_set (i := 4) sc_law.nd rfl (Or.inl rfl) (pe_ix ix_tup (pv 3) pe_int (fun _ _ => rfl)))
      (pss_cons (ps_set (i := 5) sc_law.nd rfl (Or.inl rfl) (pe_cmpR op_in_seq (pv 4) (pe_tup (pa_cons pe_str (pa_cons pe_str (pa_cons pe_str pa_nil)))) (by rfl)))
      (pss_cons (ps_set (i := 6) sc_law.nd rfl (Or.inl rfl) (pe_lst (pa_cons (pe_call (ok_is_working T) (hr.mono (by omega)) (by rfl) T.g_is_working T.F_is_working.kp T.b_is_working .nil pass0 (pa_cons (pv 3) pa_nil)) (pa_cons (pe_call (ok_is_on_the_way T) (hr.mono (by omega)) (by rfl) T.g_is_on_the_way T.F_is_on_the_way.kp T.b_is_on_the_way .nil pass0 (pa_cons (pv 3) pa_nil)) pa_nil))))
      (pss_cons (ps_if (PW.pt (pw_or (pt_not (pt_val (pe_callB call_isi (by rfl) T.g_isinstance boot_isinstance (pa_cons (pe_ix ix_list (pv 6) pe_int (fun _ _ => rfl)) (pa_cons (pe_bltn (v := .ty "bool") (by rfl) T.g_bool boot_bool rfl) pa_nil))))) (pw_or1 (pt_cmpR (op_neD hr.units) (pv 6) (pe_lst (pa_cons (pe_or (pv 5) (pe_or (pe_cmpR op_eq (pv 4) pe_str (nomark _)) (pe_one (pe_cmpR op_eq (pv 4) pe_str (nomark _))))) (pa_cons (pv 5) pa_nil))) (nomark _))))) (pss_one (ps_ret pe_bl)) pss_nil)
      (pss_cons (ps_set (i := 7) sc_law.nd rfl (Or.inl rfl) (pe_lst (pa_cons (pv 2) (pa_cons (pv 2) (pa_cons (pv 2) pa_nil)))))
      (C8.pss_cut (ps_if (pt_val (pv 5)) (pss_one (ps_set (i := 7) sc_law.nd rfl (Or.inl rfl) (pe_lst (pa_cons (pe_ix ix_tup (pv 3) pe_int (fun _ _ => rfl)) (pa_cons (pe_ix ix_tup (pv 3) pe_int (fun _ _ => rfl)) (pa_cons (pe_op op_catA (pe_op op_catA (pe_slice sl_tupA (pv 3) po_none (po_some pe_int)) (pe_tup (pa_cons pe_int pa_nil))) (pe_slice sl_tupA (pv 3) (po_some pe_int) po_none)) pa_nil)))))) pss_nil)
      (C8.pss_cut (ps_if (pt_cmpR op_eq (pv 4) pe_str (nomark _)) (pss_one (ps_asg (pe_ix ix_tup (pv 3) pe_int (fun _ _ => rfl)) (pg_sub (pv 7) pe_int set_list))) pss_nil)
      (pss_one (ps_if (pt_cmpR (op_neD hr.units) (pe_lc (own := [("kind", 8)]) (g := gName 8) (tt := tYes)  (by rfl) sc_law.nd (pi_range1 (by rfl) T.g_range (pa_cons pe_int pa_nil)) (blkOk_by (own := [("kind", 8)]) (N := N_law) (sc := defScope s_law) (by decide +kernel)) (fun _ _ _ _ _ => pg_name (i := 8) sc_law.nd rfl (Or.inl rfl)) (fun _ _ _ _ _ => pts_nil) (fun _ _ _ _ _ => (pe_call (ok_lw_told T) (hr.mono (by omega)) (by rfl) T.g_lw_told T.F_lw_told.kp T.b_lw_told .nil pass0 (pa_cons (pv 8) (pa_cons (pv 3) pa_nil))))) (pv 7) (nomark _)) (pss_one (ps_ret pe_bl)) pss_nil))))))))))
      (pss_one (ps_ret (pe_and (pe_cmpR (op_eqD hr.units) (pe_glob (v := .ref (He.ga K "WORKING")) (by rfl) T.g_WORKING rfl) (pe_tup (pa_cons pe_str (pa_cons pe_str (pa_cons pe_str (pa_cons pe_str (pa_cons pe_str pa_nil)))))) (nomark _)) (pe_one (pe_cmpR (op_eqD hr.units) (pe_glob (v := .ref (He.ga K "ON_THE_WAY")) (by rfl) T.g_ON_THE_WAY rfl) (pe_tup (pa_cons pe_str (pa_cons pe_str (pa_cons pe_str pa_nil)))) (nomark _))))))))), ?_⟩
    rw [show L2.start N_law [.ref l] = [some (.ref l), none, none, none, none, none, none, none, none] from rfl]
    refine ⟨_, rfl, l, sc, 70, rfl, hl, hsc, by decide, fun H1 p ns s1 np hp hlen hok => ?_⟩
    have N1 : NumAt K H1 p ns := ⟨hp, hok, hlen⟩
    simp only [gName, List.set_cons_succ, List.set_cons_zero]
    refine ⟨Cm.small (by show 2 ≤ 100000; decide), fun ra nra => ?_⟩
    have s2 := Cm.same_new (o := .tup [.str "refused", .bl true]) nra
    have rra := Rp.made (K := K) nra (.cons (.str "refused") (.cons (.bl true) .nil))
    have N2 := N1.same s2
    generalize upd H1 ra (.tup [.str "refused", .bl true]) = H2 at *
    refine ⟨_, rfl, p, ns, rfl, N2, fun H3 L acc ds s3 hL rL hds => ⟨L, rfl, ⟨_, SqL.of hL⟩, for_list (K := K) (a := L) (xs := acc) (fun i σ H4 => ∃ (x3 x4 x5 x6 x7 x8 : Option V), σ = [some (.ref l), some (.ref p), some (.ref ra), x3, x4, x5, x6, x7, x8] ∧ Same H3 H4)
      ⟨_, _, _, _, _, _, rfl, Same.refl _⟩ (fun i σ H4 _ ⟨_, _, _, _, _, _, _, s4⟩ => SqL.of (s4 _ _ hL)) (fun i b σ H4 hb ⟨x3, x4, x5, x6, x7, x8, e, s4⟩ => ?_) fun σ H4 ⟨x3, x4, x5, x6, x7, x8, e, s4⟩ => ?_⟩⟩
    · subst e
      obtain ⟨dd, hdd⟩ : ∃ dd, ds[i]? = some dd := by
        have h1 := (List.getElem?_eq_some_iff.mp hb).1
        rw [rL.len] at h1
        exact ⟨_, List.getElem?_eq_getElem h1⟩
      obtain ⟨b', hb', rb⟩ := rL.at_ hdd
      rw [hb] at hb'
      cases hb'
      obtain ⟨x, y, r, rfl, hx9, hl, hw, loy, lor⟩ := hds _ (List.mem_of_getElem? hdd)
      have rb4 := rb.keep (Same.tups s4)
      obtain ⟨ew, ek⟩ := way9 x hx9
      obtain ⟨c, xv, vs, rfl, hc, hxv, hvs⟩ := head_rp rb4
      obtain rfl := hxv.str_inv
      obtain ⟨yv, vs', rfl, hyv, hvs'⟩ := hvs.cons_inv
      refine ⟨_, rfl, c, _, 0, _, rfl, rfl, hc, atI_nat (j := 0) rfl, ?_⟩
      refine ⟨_, rfl, Cm.small (by show 3 ≤ 100000; decide), fun t1 nt1 => ⟨_, wayS, rfl, .inr Cm.sqt_new, rfl, rfl, ?_⟩⟩
      have hS1 := Cm.same_new (o := .tup [.str "call", .str "return", .str "please"]) nt1
      have s5 := s4.trans (Cm.same_new (o := .tup [.str "call", .str "return", .str "please"]) nt1)
      have rb5 := rb.keep (Same.tups s5)
      refine ⟨_, rfl, _, x, _, rfl, rb5, _, rfl, _, x, _, rfl, rb5, Cm.small (by show 2 ≤ 100000; decide), fun t2 nt2 => ?_⟩
      have hS2 := hS1.trans (Cm.same_new (o := .lst [.bl (isWk x), .bl (onWay x)]) nt2)
      have s6 := s5.trans (Cm.same_new (o := .lst [.bl (isWk x), .bl (onWay x)]) nt2)
      have ht2 : (upd (upd H4 t1 (.tup [.str "call", .str "return", .str "please"])) t2 (.lst [.bl (isWk x), .bl (onWay x)])) t2 = some (.lst [.bl (isWk x), .bl (onWay x)]) := upd_same
      simp only [gName, List.set_cons_succ, List.set_cons_zero]
      rw [show (if false = true then !inV (V.str x) wayS else inV (V.str x) wayS) = onWay x from rfl]
      generalize upd (upd H4 t1 (.tup [.str "call", .str "return", .str "please"])) t2 (.lst [.bl (isWk x), .bl (onWay x)]) = H6 at *
      refine ⟨_, rfl, t2, _, 0, _, rfl, rfl, SqL.of ht2, atI_nat (j := 0) rfl, _, _, _, _, true, rfl, .ty "bool", .base (.bl _), kit_ty (by decide +kernel), _, rfl, iteF ?_⟩
      refine ⟨_, rfl, orv3 ?_⟩
      rw [← wk9 x hx9]
      refine ⟨_, rfl, Cm.small (by show 2 ≤ 100000; decide), fun t3 nt3 => ?_⟩
      have shb : SeqAt.shaped (.list [.bool (isWk x), .bool (onWay x)]) = true := lo_shaped (n := 1) (lo_lst (lo_c lo_bool (lo_c lo_bool lo_n))) (by decide)
      have s7 := s6.trans (Cm.same_new (o := .lst [.bl (isWk x), .bl (onWay x)]) nt3)
      have hS := hS2.trans (Cm.same_new (o := .lst [.bl (isWk x), .bl (onWay x)]) nt3)
      refine ⟨.list [.bool (isWk x), .bool (onWay x)], .list [.bool (isWk x), .bool (onWay x)], .lst (SqL.of (Cm.same_new nt3 _ _ ht2)) (.cons (.bl _) (.cons (.bl _) .nil)), .lst Cm.sql_new (.cons (.bl _) (.cons (.bl _) .nil)), shb, shb, _, rfl, Cm.itBn (fun e => absurd (Nst.eqv_self shb) (by rw [e]; decide)) fun _ => ?_⟩
      generalize upd H6 t3 (.lst [.bl (isWk x), .bl (onWay x)]) = H7 at *
      refine ⟨_, rfl, _, rfl, _, rfl, Cm.small (by show 3 ≤ 100000; decide), fun dl ndl => ?_⟩
      have rb7 := rb.keep (Same.tups s7)
      have rra7 := rra.keep (Same.tups (s3.trans s7))
      refine ⟨fun σ' H8 => ∃ (du : Addr) (us : List V), σ' = [some (.ref l), some (.ref p), some (.ref ra), some (.ref c), some (.str x), some (.bl (onWay x)), some (.ref t2), some (.ref du), x8] ∧ Same H7 H8 ∧ H7 du = none ∧ H8 du = some (.lst us) ∧ Rps K H8 us (dueD x y r), ?_, fun σ' H8 ⟨du, us, e, s8, ndu, hdu, ru⟩ => ?_⟩
      · have s8 := Cm.same_new (o := .lst [.ref ra, .ref ra, .ref ra]) ndl
        have r3 := rra7.keep (Same.tups s8)
        refine ⟨_, rfl, _, rfl, Cm.itB (fun e => ?_) fun e => ?_⟩
        · obtain ⟨cc, r', rfl⟩ := hw e
          have hl' : r'.length ≤ 9 := by
            simp only [List.length_cons] at hl
            omega
          obtain ⟨cv, vs2, rfl, hcv, hvs2⟩ := hvs'.cons_inv
          have hc8 := Cm.sameT (hS.trans s8) hc
          have rb8 := rb7.keep (Same.tups s8)
          refine ⟨_, rfl, c, _, 1, _, rfl, rfl, hc8, atI_nat (j := 1) rfl, _, rfl, c, _, 2, _, rfl, rfl, hc8, atI_nat (j := 2) rfl, _, rfl, _, rfl, upto_rp (k := 2) rb8 (by show 2 ≤ r'.length + 3; omega) fun v1 G1 q1 r1 => ?_⟩
          refine ⟨Cm.small (by show 1 ≤ 100000; decide), fun t4 nt4 => ?_⟩
          have q2 := Cm.same_new (o := .tup [.int 77]) nt4
          refine cat_rp (r1.keep (Same.tups q2)) (Rp.made (K := K) nt4 (.cons (.int 77) .nil)) (by show 2 + 1 ≤ 10000000; decide) fun v2 G2 q3 r2 => ?_
          refine ⟨_, rfl, _, rfl, ?_⟩
          simp only [tNoPart]
          refine from_rp (k := 3) (rb8.keep (Same.tups ((q1.trans q2).trans q3))) (by show 3 ≤ r'.length + 3; omega) fun v3 G3 q4 r3' => ?_
          refine cat_rp (r2.keep (Same.tups q4)) r3' (by show 3 + r'.length ≤ 10000000; omega) fun v4 G4 q5 r4 => ?_
          have q15 := (((q1.trans q2).trans q3).trans q4).trans q5
          refine ⟨Cm.small (by show 3 ≤ 100000; decide), fun d2 nd2 => ?_⟩
          have q6 := Cm.same_new (o := .lst [yv, cv, v4]) nd2
          have q16 := (s8.trans q15).trans q6
          refine ⟨d2, _, rfl, q16, ?_, upd_same, ?_⟩
          · cases z : H7 d2 with
            | none => rfl
            | some o =>
              have := (s8.trans q15) _ _ z
              rw [nd2] at this
              cases this
          · rw [show dueD x y (cc :: r') = [y, cc, .tuple (.str x :: y :: .int 77 :: r')] from if_pos e]
            exact .cons (hyv.keep (Same.tups (hS.trans q16))) (.cons (hcv.keep (Same.tups (hS.trans q16))) (.cons (r4.keep (Same.tups q6)) .nil))
        · refine ⟨dl, _, rfl, s8, ndl, upd_same, ?_⟩
          rw [show dueD x y r = [refD, refD, refD] from if_neg (by rw [e]; decide)]
          exact .cons r3 (.cons r3 (.cons r3 .nil))
      · subst e
        refine ⟨fun σ' H9 => ∃ (us : List V), σ' = [some (.ref l), some (.ref p), some (.ref ra), some (.ref c), some (.str x), some (.bl (onWay x)), some (.ref t2), some (.ref du), x8] ∧ Same H7 H9 ∧ H9 du = some (.lst us) ∧ Rps K H9 us (told3 x y r), ?_, fun σ' H9 ⟨us, e, s9, hdu, ru⟩ => ?_⟩
        · refine ⟨_, rfl, rfl, _, rfl, Cm.itES (fun e => ?_) fun e => ?_⟩
          · have hon : onWay x = false := by
              cases h : onWay x with
              | false => rfl
              | true => exact absurd e (at9 x hx9 h)
            rw [show dueD x y r = [refD, refD, refD] from if_neg (by rw [hon]; decide)] at ru
            obtain ⟨u0, us', rfl, ru0, ru'⟩ := ru.cons_inv
            have l2 := ru'.len
            refine ⟨_, rfl, c, _, 1, _, rfl, rfl, Cm.sameT (hS.trans s8) hc, atI_nat (j := 1) rfl, _, rfl, du, u0 :: us', 0, 0, rfl, rfl, hdu, (by rw [List.length_cons, l2]; rfl), ?_⟩
            have kp : Keep du H8 (upd H8 du (.lst ((u0 :: us').set 0 yv))) := fun b o hb n => by rw [upd_ne n]; exact hb
            have tp := Keep.tups kp hdu
            refine ⟨_, rfl, fun b o hb => kp _ _ (s8 _ _ hb) (ne_of_none hb ndu), upd_same, ?_⟩
            rw [show told3 x y r = [y, refD, refD] from by unfold told3; rw [told0 (.inl e), toldn (by decide) hon, toldn (by decide) hon]]
            exact .cons ((hyv.keep (Same.tups (hS.trans s8))).keep tp) (ru'.keep tp)
          · refine ⟨us, rfl, s8, hdu, ?_⟩
            cases hon : onWay x with
            | true =>
              obtain ⟨cc, r', rfl⟩ := hw hon
              rw [show told3 x y (cc :: r') = dueD x y (cc :: r') from by unfold told3; rw [told0 (.inr hon), told1 hon, told2 (by decide) (by decide) hon]; exact (if_pos hon).symm]
              exact ru
            | false =>
              rw [show told3 x y r = dueD x y r from by unfold told3; rw [told0n (by rw [hon]; simp [e]), toldn (by decide) hon, toldn (by decide) hon]; exact (if_neg (by rw [hon]; decide)).symm]
              exact ru
        · subst e
          have rb9 := rb7.keep (Same.tups s9)
          refine ⟨3, rfl, by decide, by decide, fun D nD => ?_⟩
          refine lc_range (n := 3) (fun j G => Same H9 G ∧ ∃ ys : List V, G D = some (.lst ys) ∧ Rps K G ys ((told3 x y r).take j)) ⟨Cm.same_new nD, [], upd_same, .nil⟩ (fun j G hj ⟨g, ys, hD, rys⟩ => ?_) fun G ⟨g, ys, hD, rys⟩ => ?_
          · refine ⟨rfl, ?_⟩
            refine ⟨_, rfl, _, rfl, _, _, x, y, r, rfl, rb9.keep (Same.tups g), hl, hw, fun G2 v g2 rv => ?_⟩
            have hD2 := g2 _ _ hD
            refine ⟨_, hD2, Cm.smallL (by rw [rys.len, List.length_take]; show min j 3 ≤ 100000; omega), Cm.same_mut (g.trans g2) nD, ys ++ [v], upd_same, ?_⟩
            have tp := Keep.tups (c := D) (H' := upd G2 D (.lst (ys ++ [v]))) (fun b o hb n => by rw [upd_ne n]; exact hb) hD2
            have e1 : (told3 x y r).take (j + 1) = (told3 x y r).take j ++ [toldD (0 + (j : Int)) x y r] := by
              match j, hj with
              | 0, _ => rfl
              | 1, _ => rfl
              | 2, _ => rfl
            rw [e1]
            exact ((rys.keep (Same.tups g2)).keep tp).app (.cons (rv.keep tp) .nil)
          · have sh : SeqAt.shaped (.list (told3 x y r)) = true := lo_shaped (lo_lst (lo_c (lo_told hx9 hw loy lor) (lo_c (lo_told hx9 hw loy lor) (lo_c (lo_told hx9 hw loy lor) lo_n)))) (by decide)
            refine ⟨_, rfl, .list (told3 x y r), .list (told3 x y r), .lst (SqL.of hD) rys.dp, .lst (SqL.of (g _ _ hdu)) (ru.keep (Same.tups g)).dp, sh, sh, _, rfl, Cm.itBn (fun e => absurd (Nst.eqv_self sh) (by rw [e]; decide)) fun _ => ?_⟩
            exact ⟨_, _, _, _, _, _, rfl, s7.trans (s9.trans g)⟩
    · subst e
      refine ⟨Cm.small (by show 5 ≤ 100000; decide), fun t1 nt1 => ⟨_, _, (Rp.tup (T.k_WORKING _) (.cons (.str _) (.cons (.str _) (.cons (.str _) (.cons (.str _) (.cons (.str _) .nil)))))).dp, (Rp.made (K := K) nt1 (.cons (.str _) (.cons (.str _) (.cons (.str _) (.cons (.str _) (.cons (.str _) .nil)))))).dp, by decide +kernel, by decide +kernel, _, rfl, ?_⟩⟩
      rw [if_pos (by decide +kernel)]
      refine ⟨Cm.small (by show 3 ≤ 100000; decide), fun t2 nt2 => ⟨_, _, (Rp.tup (T.k_ON_THE_WAY _) (.cons (.str _) (.cons (.str _) (.cons (.str _) .nil)))).dp, (Rp.made (K := K) nt2 (.cons (.str _) (.cons (.str _) (.cons (.str _) .nil)))).dp, by decide +kernel, by decide +kernel, ?_⟩⟩
      exact q _
def fn : List He.DefD := [⟨("is_working", none), "is_working", "is_working", defArgs s_is_working, defBody s_is_working, defScope s_is_working, [], []⟩,
  ⟨("is_on_the_way", none), "is_on_the_way", "is_on_the_way", defArgs s_is_on_the_way, defBody s_is_on_the_way, defScope s_is_on_the_way, [], []⟩,
  ⟨("object_of", none), "object_of", "object_of", defArgs s_object_of, defBody s_object_of, defScope s_object_of, [], []⟩,
  ⟨("count_of", none), "count_of", "count_of", defArgs s_count_of, defBody s_count_of, defScope s_count_of, [], []⟩,
  ⟨("with_count", none), "with_count", "with_count", defArgs s_with_count, defBody s_with_count, defScope s_with_count, [], []⟩,
  ⟨("_check_way", none), "_check_way", "_check_way", defArgs s_check_way, defBody s_check_way, defScope s_check_way, [], []⟩,
  ⟨("_law_numbers", none), "_law_numbers", "_law_numbers", defArgs s_lw_numbers, defBody s_lw_numbers, defScope s_lw_numbers, [], []⟩,
  ⟨("_law_object", none), "_law_object", "_law_object", defArgs s_lw_object, defBody s_lw_object, defScope s_lw_object, [], []⟩,
  ⟨("_law_value", none), "_law_value", "_law_value", defArgs s_lw_value, defBody s_lw_value, defScope s_lw_value, [], []⟩,
  ⟨("_law_values", none), "_law_values", "_law_values", defArgs s_lw_values, defBody s_lw_values, defScope s_lw_values, [], []⟩,
  ⟨("_law_entry", none), "_law_entry", "_law_entry", defArgs s_lw_entry, defBody s_lw_entry, defScope s_lw_entry, [], []⟩,
  ⟨("_law_bundle", none), "_law_bundle", "_law_bundle", defArgs s_lw_bundle, defBody s_lw_bundle, defScope s_lw_bundle, [], []⟩,
  ⟨("_law_bodies", none), "_law_bodies", "_law_bodies", defArgs s_lw_bodies, defBody s_lw_bodies, defScope s_lw_bodies, [], []⟩,
  ⟨("_law_told", none), "_law_told", "_law_told", defArgs s_lw_told, defBody s_lw_told, defScope s_lw_told, [], []⟩,
  ⟨("law", none), "law", "law", defArgs s_law, defBody s_law, defScope s_law, [], []⟩]
def fas : List He.Fa := [.glo "is_working", .glo "is_on_the_way", .glo "object_of", .glo "count_of", .glo "with_count", .glo "_check_way", .glo "_law_numbers", .glo "_law_object", .glo "_law_value", .glo "_law_values", .glo "_law_entry", .glo "_law_bundle", .glo "_law_bodies", .glo "_law_told", .glo "law", .glo "WORKING", .glo "ON_THE_WAY", .glo "PortError", .glo "NotAllowed", .glo "Missing", .free "range", .free "len", .free "abs", .free "max", .free "int", .free "tuple", .free "sorted", .free "isinstance", .free "bool"]
def tabs : List He.Tab := []
def okX (K : PySem.W.Frag) : Bool := He.tupB K "WORKING" v_WORKING && (He.tupB K "ON_THE_WAY" v_ON_THE_WAY && (PySem.W.excIn K (He.ga K "NotAllowed") [.type "ValueError", .type "Exception", .type "BaseException", .type "object"] "ValueError.__new__" && (PySem.W.keepIn K (.ref (He.ga K "NotAllowed")) && ((PySem.W.subIn K (.ref (He.ga K "NotAllowed")) (.type "BaseException") == some true) && ((PySem.W.typeIn K (.ref (He.ga K "NotAllowed")) == some (.type "type")) && ((PySem.W.findIn K (.ref (He.ga K "NotAllowed")) "__getattribute__" == some (some (.builtin "BaseException.__getattribute__"))) && ((PySem.W.findIn K (.ref (He.ga K "NotAllowed")) "__getattr__" == some none) && (PySem.W.hasDictIn K (He.ga K "NotAllowed") && ((PySem.W.findIn K (.ref (He.ga K "NotAllowed")) "__class__" == some (some (.builtin "object.__class__"))) && ((PySem.W.specialIn K (.builtin "object.__class__") "__get__" == some (some (.builtin "getset_descriptor.__get__"))) && ((PySem.W.takesIn K (.builtin "object.__class__") == some true) && ((PySem.W.mroIn K (He.ga K "NotAllowed") (.type "object") == some true) && ((PySem.W.exmOne K (.ref (He.ga K "NotAllowed")) (.ref (He.ga K "NotAllowed")) == some true) && ((PySem.W.kitOne K (.ref (He.ga K "NotAllowed")) (.ref (He.ga K "PortError")) == some true) && ((PySem.W.kitOne K (.ref (He.ga K "NotAllowed")) (.ref (He.ga K "Missing")) == some false))))))))))))))))
abbrev R : PySem.W.OpenRow := PySem.W.OpenLaw.row PySem.Challenge.rw_portage_k39_bodies_of_letters
abbrev hk : PySem.W.Hook := Cm.hookX 4 fas fn tabs okX
def ob (s : PySem.W.SharedT) : Cm.AlX := Cm.obsXG 4 fas fn tabs okX (HandSHeadRun.getT s)
theorem ob_eq (s : PySem.W.SharedT) : ob s = hk.obs s.abs := Cm.obsXG_eq (HandSHeadRun.getT_eq s)
abbrev loose : List Str := (["PortError", "NotAllowed", "Missing", "WORKING", "ON_THE_WAY", "is_working", "is_on_the_way", "object_of", "count_of", "with_count", "_check_way", "_law_numbers", "_law_object", "_law_value", "_law_values", "_law_entry", "_law_bundle", "_law_bodies", "_law_told"] : List Str)
theorem run (w : World) : HandSHeadRun.RunEq R (PySem.W.view R.prog [22]) hk ob 4000 loose w := by
  intro os
  kernel_rfl
theorem facts {P : Program} {w : World} {K : PySem.W.Frag} {h : Heap} {mg : Str → Option Value} {f : Addr} (X : K.In h) (G : h.Ns mainGlobals mg) (hfa : mg ("law" : Str) = some (.ref f)) (ok : okX K = true) (c : He.SaysT fas fn tabs w K) :
    ∃ fd : FuncData, (∀ (s : Shared) (v : Value), BindsTo s fd ⟨[v], []⟩ [("script", v)]) ∧ ∀ base : Heap, K.In base → base.Ns mainGlobals mg → FnOk P w K mg base CX0 7 f fd ["script"] (spLaw K) := by
  obtain ⟨d_is_working, F_is_working⟩ := c.d.def_ 0 rfl
  obtain ⟨d_is_on_the_way, F_is_on_the_way⟩ := c.d.def_ 1 rfl
  obtain ⟨d_object_of, F_object_of⟩ := c.d.def_ 2 rfl
  obtain ⟨d_count_of, F_count_of⟩ := c.d.def_ 3 rfl
  obtain ⟨d_with_count, F_with_count⟩ := c.d.def_ 4 rfl
  obtain ⟨d_check_way, F_check_way⟩ := c.d.def_ 5 rfl
  obtain ⟨d_lw_numbers, F_lw_numbers⟩ := c.d.def_ 6 rfl
  obtain ⟨d_lw_object, F_lw_object⟩ := c.d.def_ 7 rfl
  obtain ⟨d_lw_value, F_lw_value⟩ := c.d.def_ 8 rfl
  obtain ⟨d_lw_values, F_lw_values⟩ := c.d.def_ 9 rfl
  obtain ⟨d_lw_entry, F_lw_entry⟩ := c.d.def_ 10 rfl
  obtain ⟨d_lw_bundle, F_lw_bundle⟩ := c.d.def_ 11 rfl
  obtain ⟨d_lw_bodies, F_lw_bodies⟩ := c.d.def_ 12 rfl
  obtain ⟨d_lw_told, F_lw_told⟩ := c.d.def_ 13 rfl
  obtain ⟨d_law, F_law⟩ := c.d.def_ 14 rfl
  have e := hfa.symm.trans (He.glo_ok X G (c.d.fact 14 (f := .glo "law") rfl))
  cases e
  unfold okX at ok
  simp only [Bool.and_eq_true] at ok
  obtain ⟨o0, o1, o2, o3, o4, o5, o6, o7, o8, o9, o10, o11, o12, o13, o14, o15⟩ := ok
  have T : Txt K mg w ⟨d_is_working, d_is_on_the_way, d_object_of, d_count_of, d_with_count, d_check_way, d_lw_numbers, d_lw_object, d_lw_value, d_lw_values, d_lw_entry, d_lw_bundle, d_lw_bodies, d_lw_told, d_law⟩ := {
    F_is_working := F_is_working
    b_is_working := F_is_working.bindsN (ps := ["body"]) fun _ _ _ _ _ _ us hl => match us, hl with | [_], _ => rfl
    g_is_working := He.glo_ok X G (c.d.fact 0 (f := .glo "is_working") rfl)
    F_is_on_the_way := F_is_on_the_way
    b_is_on_the_way := F_is_on_the_way.bindsN (ps := ["body"]) fun _ _ _ _ _ _ us hl => match us, hl with | [_], _ => rfl
    g_is_on_the_way := He.glo_ok X G (c.d.fact 1 (f := .glo "is_on_the_way") rfl)
    F_object_of := F_object_of
    b_object_of := F_object_of.bindsN (ps := ["body"]) fun _ _ _ _ _ _ us hl => match us, hl with | [_], _ => rfl
    g_object_of := He.glo_ok X G (c.d.fact 2 (f := .glo "object_of") rfl)
    F_count_of := F_count_of
    b_count_of := F_count_of.bindsN (ps := ["body"]) fun _ _ _ _ _ _ us hl => match us, hl with | [_], _ => rfl
    g_count_of := He.glo_ok X G (c.d.fact 3 (f := .glo "count_of") rfl)
    F_with_count := F_with_count
    b_with_count := F_with_count.bindsN (ps := ["body", "count"]) fun _ _ _ _ _ _ us hl => match us, hl with | [_, _], _ => rfl
    g_with_count := He.glo_ok X G (c.d.fact 4 (f := .glo "with_count") rfl)
    F_check_way := F_check_way
    b_check_way := F_check_way.bindsN (ps := ["body"]) fun _ _ _ _ _ _ us hl => match us, hl with | [_], _ => rfl
    g_check_way := He.glo_ok X G (c.d.fact 5 (f := .glo "_check_way") rfl)
    F_lw_numbers := F_lw_numbers
    b_lw_numbers := F_lw_numbers.bindsN (ps := ["script", "many"]) fun _ _ _ _ _ _ us hl => match us, hl with | [_, _], _ => rfl
    g_lw_numbers := He.glo_ok X G (c.d.fact 6 (f := .glo "_law_numbers") rfl)
    F_lw_object := F_lw_object
    b_lw_object := F_lw_object.bindsN (ps := ["number"]) fun _ _ _ _ _ _ us hl => match us, hl with | [_], _ => rfl
    g_lw_object := He.glo_ok X G (c.d.fact 7 (f := .glo "_law_object") rfl)
    F_lw_value := F_lw_value
    b_lw_value := F_lw_value.bindsN (ps := ["number"]) fun _ _ _ _ _ _ us hl => match us, hl with | [_], _ => rfl
    g_lw_value := He.glo_ok X G (c.d.fact 8 (f := .glo "_law_value") rfl)
    F_lw_values := F_lw_values
    b_lw_values := F_lw_values.bindsN (ps := ["numbers", "at", "most"]) fun _ _ _ _ _ _ us hl => match us, hl with | [_, _, _], _ => rfl
    g_lw_values := He.glo_ok X G (c.d.fact 9 (f := .glo "_law_values") rfl)
    F_lw_entry := F_lw_entry
    b_lw_entry := F_lw_entry.bindsN (ps := ["numbers", "at"]) fun _ _ _ _ _ _ us hl => match us, hl with | [_, _], _ => rfl
    g_lw_entry := He.glo_ok X G (c.d.fact 10 (f := .glo "_law_entry") rfl)
    F_lw_bundle := F_lw_bundle
    b_lw_bundle := F_lw_bundle.bindsN (ps := ["numbers", "at"]) fun _ _ _ _ _ _ us hl => match us, hl with | [_, _], _ => rfl
    g_lw_bundle := He.glo_ok X G (c.d.fact 11 (f := .glo "_law_bundle") rfl)
    F_lw_bodies := F_lw_bodies
    b_lw_bodies := F_lw_bodies.bindsN (ps := ["numbers"]) fun _ _ _ _ _ _ us hl => match us, hl with | [_], _ => rfl
    g_lw_bodies := He.glo_ok X G (c.d.fact 12 (f := .glo "_law_bodies") rfl)
    F_lw_told := F_lw_told
    b_lw_told := F_lw_told.bindsN (ps := ["kind", "body"]) fun _ _ _ _ _ _ us hl => match us, hl with | [_, _], _ => rfl
    g_lw_told := He.glo_ok X G (c.d.fact 13 (f := .glo "_law_told") rfl)
    F_law := F_law
    b_law := F_law.bindsN (ps := ["script"]) fun _ _ _ _ _ _ us hl => match us, hl with | [_], _ => rfl
    g_law := He.glo_ok X G (c.d.fact 14 (f := .glo "law") rfl)
    g_WORKING := He.glo_ok X G (c.d.fact 15 (f := .glo "WORKING") rfl)
    k_WORKING := fun H => He.tupB_ok o0 H
    g_ON_THE_WAY := He.glo_ok X G (c.d.fact 16 (f := .glo "ON_THE_WAY") rfl)
    k_ON_THE_WAY := fun H => He.tupB_ok o1 H
    g_PortError := He.glo_ok X G (c.d.fact 17 (f := .glo "PortError") rfl)
    g_NotAllowed := He.glo_ok X G (c.d.fact 18 (f := .glo "NotAllowed") rfl)
    g_Missing := He.glo_ok X G (c.d.fact 19 (f := .glo "Missing") rfl)
    g_range := He.free_ok X G (c.d.fact 20 (f := .free "range") rfl)
    g_len := He.free_ok X G (c.d.fact 21 (f := .free "len") rfl)
    g_abs := He.free_ok X G (c.d.fact 22 (f := .free "abs") rfl)
    g_max := He.free_ok X G (c.d.fact 23 (f := .free "max") rfl)
    g_int := He.free_ok X G (c.d.fact 24 (f := .free "int") rfl)
    g_tuple := He.free_ok X G (c.d.fact 25 (f := .free "tuple") rfl)
    g_sorted := He.free_ok X G (c.d.fact 26 (f := .free "sorted") rfl)
    g_isinstance := He.free_ok X G (c.d.fact 27 (f := .free "isinstance") rfl)
    g_bool := He.free_ok X G (c.d.fact 28 (f := .free "bool") rfl)
    x_NotAllowed := o2
    k_NotAllowed := o3
    s_NotAllowed := eq_of_beq o4
    t_NotAllowed := eq_of_beq o5
    m1_ := eq_of_beq o6
    m2_ := eq_of_beq o7
    m4_ := o8
    m5_ := eq_of_beq o9
    m6_ := eq_of_beq o10
    m7_ := eq_of_beq o11
    m8_ := eq_of_beq o12
    e1_ := eq_of_beq o13
    e2_ := eq_of_beq o14
    e3_ := eq_of_beq o15
  }
  have b := Cm.bindsA_of (x := "law") (st := s_law) (ps := ["script"]) F_law fun _ _ _ _ _ _ us hl => match us, hl with | [_], _ => rfl
  exact ⟨d_law, fun s v => b s [v] rfl, fun base _ _ => ok_law T⟩
end K39
open PySem PySem.W PySem.Calls PyProof.Rows
set_option maxHeartbeats 0 in
theorem PySem.Challenge.cw_portage_k39_bodies_of_letters_holds : PySem.Challenge.rw_portage_k39_bodies_of_letters.Holds := by
  w_on; o_law
  refine HandSHeadRun.head_any (r := OpenLaw.row PySem.Challenge.rw_portage_k39_bodies_of_letters) (q := view (OpenLaw.row PySem.Challenge.rw_portage_k39_bodies_of_letters).prog [22]) (H := K39.hk) (ob := K39.ob) (M := 4000) (loose := K39.loose) (d := HandSHeadRun.topDef (OpenLaw.row PySem.Challenge.rw_portage_k39_bodies_of_letters).prog 22) (kwd := []) K39.ob_eq
    (by kernel_rfl) (fun s => by kernel_rfl) K39.run (by kernel_rfl) (by kernel_rfl) (by kernel_rfl) (by rfl) (by first | assumption | decide +kernel) (by decide +kernel) ⟨rfl, rfl, rfl, rfl, rfl, by decide +kernel⟩ ?hw ?hc
  case hw => w_witness2
  case hc =>
    refine L2.walk_ofE (l := PySem.Challenge.rw_portage_k39_bodies_of_letters) (n := 63) (k := 7) (x := "script") (CX := L2.CX0) rfl (by decide) (by kernel_rfl) ⟨rfl, by decide, by decide⟩ ?F (fun _ _ _ _ z => z)
    intro w mg fa h Y G hmg0
    obtain ⟨K, KX, ok, c⟩ := Y
    have hmg : mg ("law" : PySem.Str) = some (.ref fa) := by
      have e : (HandSHeadRun.topDef (OpenLaw.row PySem.Challenge.rw_portage_k39_bodies_of_letters).prog 22).name = ("law" : PySem.Str) := by kernel_rfl
      rw [← e]
      exact hmg0
    obtain ⟨fd, hb, hF⟩ := K39.facts (P := (PySem.Challenge.rw_portage_k39_bodies_of_letters).prog) (w := w) KX G hmg ok c
    exact ⟨K, fd, K39.spLaw K, KX, hb, fun H a ns hl _ hS => ⟨a, ns, rfl, hS, hl, fun _ => rfl⟩, hF⟩

