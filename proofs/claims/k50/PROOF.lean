import PyProof.Rows.All
import Wide.All
import OpenK.AllK
import Wide.FinOn
import KE.KStateDown
import Lean
import HandS.ForMost
import HandS.Defaults
import HandS.More
import HandS.Flow
import HandS.Style
import HandS.StrMore
import HandS.IsInst
import HandS.TupAny
import HandS.TupMul
import HandS.Head0
import HandS.Head1
import HandS.Head2
import HandS.HeadEnd
import HandS.HeadHook1
import HandS.HeadHook2
import HandS.HeadHook3
import KE.KeyNested
import PyProof.DictMoreH
import KE.KTupSum
import HandS.ExcOwn
import HandS.WordsExc
import KE.SortCalls
import KE.SortKeyed
import KE.KDictCopyH
import KE.KDictSum
import HandS.Walk
import HandS.DictComp
import HandS.Codes
import HandS.ExcIs
import HandS.RaiseMore
import PySem.Challenge.RW_portage_k50_finders_copied
set_option Elab.async false
set_option linter.all false
set_option maxRecDepth 100000
set_option maxHeartbeats 4000000
/-! What my proofs have in common: a Hook with one more test, and small words. -/
namespace Cm
open PySem PySem.Spec PyProof.Rows L2 He

abbrev FnP (K : PySem.W.Frag) (x : Str) (st : Stmt) (f : Addr) (fd : FuncData) : Prop := FunD K x x (defArgs st) (defBody st) (defScope st) [] [] f fd
theorem bindsA_of {K : PySem.W.Frag} {x : Str} {st : Stmt} {f : Addr} {fd : FuncData} {ps : List Str} (F : FnP K x st f fd)
    (h : ∀ (kV doc pm : Value) (an : Option Addr) (cdv ct : Value) (us : List Value), us.length = ps.length → bindArgs (PySem.W.fnOf x x (defArgs st) (defBody st) (defScope st) .none kV doc pm an cdv ct) ⟨us, []⟩ = pure (ps.zip us)) (s : Shared) (us : List Value) (hl : us.length = ps.length) : BindsTo s fd ⟨us, []⟩ (ps.zip us) := FunD.bindsA F h s us hl

/-! ### heaps that grow -/
theorem same_new {H : Hp} {p : Addr} {o : HO} (h : H p = none) : Same H (upd H p o) := fun b x e => by
  rw [upd_ne (ne_of_none e h)]
  exact e
theorem same_mut {H H' : Hp} {p : Addr} {o : HO} (s : Same H H') (h : H p = none) : Same H (upd H' p o) := fun b x e => by
  rw [upd_ne (ne_of_none e h)]
  exact s b x e
theorem sameT {K : PySem.W.Frag} {H H' : Hp} {a : Addr} {xs : List V} (s : Same H H') (h : SqT K H a xs) : SqT K H' a xs := by
  rcases h with (h | ⟨o, h⟩) | h
  · exact .inl (.inl (s _ _ h))
  · exact .inl (.inr ⟨o, s _ _ h⟩)
  · exact .inr h
theorem sqt_new {K : PySem.W.Frag} {H : Hp} {p : Addr} {xs : List V} : SqT K (upd H p (.tup xs)) p xs := .inl (.inl upd_same)
theorem sql_new {K : PySem.W.Frag} {H : Hp} {p : Addr} {xs : List V} : SqL K (upd H p (.lst xs)) p xs := .inl (.inl upd_same)
theorem small {n : Nat} (h : n ≤ 100000) : n ≤ sizeLine := by
  rw [sizeLine_eq]
  omega
theorem smallL {n : Nat} (h : n ≤ 100000) : n < sizeLine := by
  rw [sizeLine_eq]
  omega
/-! ### tests -/
theorem itV {x : Bool} {A B : Prop} (h1 : x = true → A) (h2 : x = false → B) : if (if false = true then !x else x) = true then A else B := by
  cases x
  · exact h2 rfl
  · exact h1 rfl
theorem itVn {x : Bool} {A B : Prop} (h1 : x = false → A) (h2 : x = true → B) : if (if true = true then !x else x) = true then A else B := by
  cases x
  · exact h1 rfl
  · exact h2 rfl
theorem itB {x : Bool} {A B : Prop} (h1 : x = true → A) (h2 : x = false → B) : if x = true then A else B := by
  cases x
  · exact h2 rfl
  · exact h1 rfl
theorem itBn {x : Bool} {A B : Prop} (h1 : x = false → A) (h2 : x = true → B) : if (!x) = true then A else B := by
  cases x
  · exact h1 rfl
  · exact h2 rfl
theorem itD {c : Prop} [Decidable c] {A B : Prop} (h1 : c → A) (h2 : ¬ c → B) : if decide c = true then A else B := by
  by_cases h : c
  · rw [if_pos (decide_eq_true h)]
    exact h1 h
  · rw [if_neg (by rw [decide_eq_false h]; decide)]
    exact h2 h
theorem itDn {c : Prop} [Decidable c] {A B : Prop} (h1 : ¬ c → A) (h2 : c → B) : if (!decide c) = true then A else B := by
  by_cases h : c
  · rw [if_neg (by rw [decide_eq_true h]; decide)]
    exact h2 h
  · rw [if_pos (by rw [decide_eq_false h]; rfl)]
    exact h1 h
theorem deq_int {i j : Int} : decide (V.int i = V.int j) = decide (i = j) := by
  by_cases h : i = j
  · rw [h, decide_eq_true rfl, decide_eq_true rfl]
  · rw [decide_eq_false h, decide_eq_false fun e => h (V.int.inj e)]
theorem deq_str {x y : Str} : decide (V.str x = V.str y) = decide (x = y) := by
  by_cases h : x = y
  · rw [h, decide_eq_true rfl, decide_eq_true rfl]
  · rw [decide_eq_false h, decide_eq_false fun e => h (V.str.inj e)]
theorem deq_bl {x y : Bool} : decide (V.bl x = V.bl y) = decide (x = y) := by
  by_cases h : x = y
  · rw [h, decide_eq_true rfl, decide_eq_true rfl]
  · rw [decide_eq_false h, decide_eq_false fun e => h (V.bl.inj e)]
theorem itEI {x y : Int} {A B : Prop} (h1 : x = y → A) (h2 : ¬ x = y → B) : if decide (V.int x = V.int y) = true then A else B := by
  rw [deq_int]
  exact itD h1 h2
theorem itES {x y : Str} {A B : Prop} (h1 : x = y → A) (h2 : ¬ x = y → B) : if decide (V.str x = V.str y) = true then A else B := by
  rw [deq_str]
  exact itD h1 h2
theorem itNI {x y : Int} {A B : Prop} (h1 : ¬ x = y → A) (h2 : x = y → B) : if (!decide (V.int x = V.int y)) = true then A else B := by
  rw [deq_int]
  exact itDn h1 h2
theorem itNS {x y : Str} {A B : Prop} (h1 : ¬ x = y → A) (h2 : x = y → B) : if (!decide (V.str x = V.str y)) = true then A else B := by
  rw [deq_str]
  exact itDn h1 h2
theorem str_nil {z : Str} (h : z.cps.toList = []) : z = ⟨#[]⟩ := by
  obtain ⟨c⟩ := z
  have e : c = #[] := by simpa using h
  rw [e]
/-! ### items -/
theorem at_in {xs : List V} {i : Int} (h0 : 0 ≤ i) (h1 : i < (xs.length : Int)) : ∃ v, v ∈ xs ∧ atI xs i = some v := by
  obtain ⟨j, rfl⟩ := Int.eq_ofNat_of_zero_le h0
  have h2 : j < xs.length := by omega
  exact ⟨xs[j], List.getElem_mem h2, atI_nat (List.getElem?_eq_getElem h2)⟩
theorem at_str {ws : List Str} {i : Int} (h0 : 0 ≤ i) (h1 : i < (ws.length : Int)) : ∃ w, w ∈ ws ∧ atI (ws.map V.str) i = some (.str w) := by
  obtain ⟨v, hv, e⟩ := at_in (xs := ws.map V.str) h0 (by rw [List.length_map]; exact h1)
  obtain ⟨w, hw, rfl⟩ := List.mem_map.mp hv
  exact ⟨w, hw, e⟩
theorem at_int {ns : List Int} {i : Int} (h0 : 0 ≤ i) (h1 : i < (ns.length : Int)) : ∃ n, n ∈ ns ∧ atI (ns.map V.int) i = some (.int n) := by
  obtain ⟨v, hv, e⟩ := at_in (xs := ns.map V.int) h0 (by rw [List.length_map]; exact h1)
  obtain ⟨n, hn, rfl⟩ := List.mem_map.mp hv
  exact ⟨n, hn, e⟩
/-! ### a Hook with one more test -/
abbrev AlX : Type := Bool × AlT
def obsX (fa : List Fa) (fn : List DefD) (ts : List Tab) (ok : PySem.W.Frag → Bool) (K : PySem.W.Frag) : AlX := (ok K, obsT fa fn ts K)
def obsXG (n : Nat) (fa : List Fa) (fn : List DefD) (ts : List Tab) (ok : PySem.W.Frag → Bool) (g : Addr → Option Obj) : AlX := obsX fa fn ts ok (frG g (asD g n))
def hookX (n : Nat) (fa : List Fa) (fn : List DefD) (ts : List Tab) (ok : PySem.W.Frag → Bool) : PySem.W.Hook where
  α := AlX
  obs := fun s => obsXG n fa fn ts ok s.heap.get?
  val := fun w => (true, valT fn ts w)
  says := fun w h => ∃ K : PySem.W.Frag, K.In h ∧ ok K = true ∧ SaysT fa fn ts w K
  of := fun w s e => ⟨frG s.heap.get? (asD s.heap.get? n), frG_in, congrArg (fun z : AlX => z.1) e, congrArg (fun z : AlX => z.2) e⟩
  keeps := fun _ _ _ ⟨K, hK, o, c⟩ k => ⟨K, PySem.W.Frag.In.keeps hK k, o, c⟩
theorem obsXG_eq {n : Nat} {fa : List Fa} {fn : List DefD} {ts : List Tab} {ok : PySem.W.Frag → Bool} {g : Addr → Option Obj} {s : Shared} (h : ∀ a, g a = s.heap.get? a) : obsXG n fa fn ts ok g = (hookX n fa fn ts ok).obs s := by
  have e : g = s.heap.get? := funext h
  rw [e] <;> rfl
end Cm

set_option Elab.async false
set_option linter.all false
set_option maxRecDepth 100000
set_option maxHeartbeats 4000000
/-! Program trees: expressions, statements, what they are as data, their code. No word of any one statement here. -/
namespace Pt
open PySem PySem.Spec PyProof.Rows L2

/-! ### data that never changes: numbers, texts, truth values, tuples of such -/
mutual
inductive Rp (K : PySem.W.Frag) (H : Hp) : V → PyData → Prop
  | non : Rp K H .non .none
  | bl (b : Bool) : Rp K H (.bl b) (.bool b)
  | int (i : Int) : Rp K H (.int i) (.int i)
  | str (x : Str) : Rp K H (.str x) (.str x)
  | tup {a : Addr} {xs : List V} {ds : List PyData} : SqT K H a xs → Rps K H xs ds → Rp K H (.ref a) (.tuple ds)
inductive Rps (K : PySem.W.Frag) (H : Hp) : List V → List PyData → Prop
  | nil : Rps K H [] []
  | cons {v : V} {vs : List V} {d : PyData} {ds : List PyData} : Rp K H v d → Rps K H vs ds → Rps K H (v :: vs) (d :: ds)
end
/-- all that was tracked stays, but what stands at c -/
def Keep (c : Addr) (H H' : Hp) : Prop := ∀ b o, H b = some o → b ≠ c → H' b = some o
theorem Keep.refl (c : Addr) (H : Hp) : Keep c H H := fun _ _ h _ => h
theorem Keep.trans {c : Addr} {H H1 H2 : Hp} (a : Keep c H H1) (b : Keep c H1 H2) : Keep c H H2 := fun x o h n => b x o (a x o h n) n
theorem Keep.of {c : Addr} {H H' : Hp} (s : Same H H') : Keep c H H' := fun b o h _ => s b o h
/-- what was tracked and is no list stays -/
def Tups (H H' : Hp) : Prop := ∀ b o, H b = some o → (∀ xs, o ≠ .lst xs) → H' b = some o
theorem Same.tups {H H' : Hp} (s : Same H H') : Tups H H' := fun b o h _ => s b o h
theorem Keep.tups {c : Addr} {H H' : Hp} {xs : List V} (k : Keep c H H') (h : H c = some (.lst xs)) : Tups H H' := fun b o hb no => k b o hb fun e => by
  subst e
  rw [h] at hb
  exact no xs (Option.some.inj hb).symm
section
variable {K : PySem.W.Frag} {H H' : Hp}
theorem Tups.sqt (k : Tups H H') {a : Addr} {xs : List V} (h : SqT K H a xs) : SqT K H' a xs := by
  rcases h with (h | ⟨o, h⟩) | h
  · exact .inl (.inl (k _ _ h fun _ e => by cases e))
  · exact .inl (.inr ⟨o, k _ _ h fun _ e => by cases e⟩)
  · exact .inr h
mutual
theorem Rp.keep (k : Tups H H') : ∀ {v : V} {d : PyData}, Rp K H v d → Rp K H' v d
  | _, _, .non => .non
  | _, _, .bl b => .bl b
  | _, _, .int i => .int i
  | _, _, .str x => .str x
  | _, _, .tup h r => .tup (k.sqt h) (Rps.keep k r)
theorem Rps.keep (k : Tups H H') : ∀ {vs : List V} {ds : List PyData}, Rps K H vs ds → Rps K H' vs ds
  | _, _, .nil => .nil
  | _, _, .cons h r => .cons (Rp.keep k h) (Rps.keep k r)
end
mutual
theorem Rp.dp : ∀ {v : V} {d : PyData}, Rp K H v d → Dp K H v d
  | _, _, .non => .non
  | _, _, .bl b => .bl b
  | _, _, .int i => .int i
  | _, _, .str x => .str x
  | _, _, .tup h r => .tup h (Rps.dp r)
theorem Rps.dp : ∀ {vs : List V} {ds : List PyData}, Rps K H vs ds → DpAll K H vs ds
  | _, _, .nil => .nil
  | _, _, .cons h r => .cons (Rp.dp h) (Rps.dp r)
end
theorem Rps.len : ∀ {vs : List V} {ds : List PyData}, Rps K H vs ds → vs.length = ds.length
  | _, _, .nil => rfl
  | _, _, .cons _ r => congrArg (· + 1) (Rps.len r)
theorem Rps.app : ∀ {vs us : List V} {ds es : List PyData}, Rps K H vs ds → Rps K H us es → Rps K H (vs ++ us) (ds ++ es)
  | _, _, _, _, .nil, r => r
  | _, _, _, _, .cons h r, s => .cons h (Rps.app r s)
theorem Rps.at_ : ∀ {vs : List V} {ds : List PyData} {i : Nat} {d : PyData}, Rps K H vs ds → ds[i]? = some d → ∃ v, vs[i]? = some v ∧ Rp K H v d
  | _, _, 0, _, .cons h _, e => ⟨_, rfl, by cases e; exact h⟩
  | _, _, i + 1, _, .cons _ r, e => Rps.at_ (i := i) r e
theorem Rps.drop : ∀ {vs : List V} {ds : List PyData} (n : Nat), Rps K H vs ds → Rps K H (vs.drop n) (ds.drop n)
  | _, _, 0, r => r
  | _, _, _ + 1, .nil => .nil
  | _, _, n + 1, .cons _ r => Rps.drop n r
theorem Rps.take : ∀ {vs : List V} {ds : List PyData} (n : Nat), Rps K H vs ds → Rps K H (vs.take n) (ds.take n)
  | _, _, 0, _ => .nil
  | _, _, _ + 1, .nil => .nil
  | _, _, n + 1, .cons h r => .cons h (Rps.take n r)
theorem Rps.one {v : V} {d : PyData} (h : Rp K H v d) : Rps K H [v] [d] := .cons h .nil
theorem Rp.tup_inv {v : V} {ds : List PyData} (h : Rp K H v (.tuple ds)) : ∃ a vs, v = .ref a ∧ SqT K H a vs ∧ Rps K H vs ds := by
  cases h with
  | tup h r => exact ⟨_, _, rfl, h, r⟩
theorem Rp.str_inv {v : V} {x : Str} (h : Rp K H v (.str x)) : v = .str x := by
  cases h
  rfl
theorem Rp.int_inv {v : V} {i : Int} (h : Rp K H v (.int i)) : v = .int i := by
  cases h
  rfl
theorem Rp.bl_inv {v : V} {b : Bool} (h : Rp K H v (.bool b)) : v = .bl b := by
  cases h
  rfl
theorem Rps.cons_inv {vs : List V} {d : PyData} {ds : List PyData} (h : Rps K H vs (d :: ds)) : ∃ v r, vs = v :: r ∧ Rp K H v d ∧ Rps K H r ds := by
  cases h with
  | cons a b => exact ⟨_, _, rfl, a, b⟩
theorem Rps.nil_inv {vs : List V} (h : Rps K H vs []) : vs = [] := by
  cases h
  rfl
theorem Rp.new {p : Addr} {vs : List V} {ds : List PyData} (h : H' p = some (.tup vs)) (r : Rps K H' vs ds) : Rp K H' (.ref p) (.tuple ds) := .tup (.inl (.inl h)) r
/-- a new tuple of what stood before -/
theorem Rp.made {p : Addr} {vs : List V} {ds : List PyData} (hp : H p = none) (r : Rps K H vs ds) : Rp K (upd H p (.tup vs)) (.ref p) (.tuple ds) := .tup (.inl (.inl upd_same)) (r.keep (Same.tups (Cm.same_new hp)))
/-- a list stays where its content is another than c's -/
theorem Keep.seq {c a : Addr} {xs ys : List V} (k : Keep c H H') (hc : H c = some (.lst ys)) (ne : xs ≠ ys) (h : SqL K H a xs) : SqL K H' a xs := by
  rcases h with (h | ⟨o, h⟩) | h
  · refine .inl (.inl (k _ _ h fun e => ?_))
    rw [e, hc] at h
    cases h
    exact ne rfl
  · refine .inl (.inr ⟨o, k _ _ h fun e => ?_⟩)
    rw [e, hc] at h
    cases h
  · exact .inr h
end

/-- tuple + tuple -/
theorem cat_rp {K : PySem.W.Frag} {H : Hp} {x y : V} {ds es : List PyData} {Q : VK} (hx : Rp K H x (.tuple ds)) (hy : Rp K H y (.tuple es)) (hl : ds.length + es.length ≤ 10000000) (h : ∀ (v : V) (H' : Hp), Same H H' → Rp K H' v (.tuple (ds ++ es)) → Q v H') : rCatA K x y H Q := by
  obtain ⟨a, xs, rfl, ha, hxs⟩ := hx.tup_inv
  obtain ⟨b, ys, rfl, hb, hys⟩ := hy.tup_inv
  refine ⟨a, b, xs, ys, rfl, rfl, ha, hb, ?_, fun e => ?_, fun _ e => ?_, fun _ _ p np => ?_⟩
  · rw [hxs.len, hys.len, sizeLine_eq]
    omega
  · subst e
    cases hxs
    exact h _ _ (Same.refl H) hy
  · subst e
    cases hys
    rw [List.append_nil] at h
    exact h _ _ (Same.refl H) hx
  · exact h _ _ (Cm.same_new np) (Rp.made np (hxs.app hys))
/-- a tuple from a place on -/
theorem from_rp {K : PySem.W.Frag} {H : Hp} {x : V} {ds : List PyData} {k : Nat} {Q : VK} (hx : Rp K H x (.tuple ds)) (hk : k ≤ ds.length) (h : ∀ (v : V) (H' : Hp), Same H H' → Rp K H' v (.tuple (ds.drop k)) → Q v H') : rSlA K x (some (k : Int)) none H Q := by
  obtain ⟨a, xs, rfl, ha, hxs⟩ := hx.tup_inv
  have hl := hxs.len
  have e0 : HT.sIx xs.length 0 (some (k : Int)) = k := by
    rw [show HT.sIx xs.length 0 (some (k : Int)) = min k xs.length from HT.sIx_nat _ 0 k]
    omega
  refine ⟨a, xs, rfl, ha, fun e => ?_, fun _ p np => ?_⟩
  · have z := e.1
    rw [e0] at z
    subst z
    exact h _ _ (Same.refl H) hx
  · have ec : cutV xs (some (k : Int)) none = xs.drop k := by
      unfold cutV
      rw [e0, HT.sIx_none]
      exact List.take_of_length_le (by rw [List.length_drop]; exact Nat.le_refl _)
    rw [ec]
    exact h _ _ (Cm.same_new np) (Rp.made np (hxs.drop k))
/-! ### equality of data is reflexive; its form -/
/-- numbers, texts, truth values, None -/
def leafD : PyData → Bool
  | .none => true
  | .bool _ => true
  | .int _ => true
  | .str _ => true
  | _ => false

/-! ### expressions and statements -/
mutual
inductive E where
  | int (n : Int)
  | name (x : Str)
  | choice (o : Bool) (l r : E)
  | call (r : E) (f : Str) (as : Es)
  | new (m : Str) (as : Es)
  | plain (w : Str) (as : Es)
inductive Es where
  | nil
  | cons (e : E) (es : Es)
end
mutual
inductive S where
  | letS (x k : Str) (e : E)
  | setS (x : Str) (e : E)
  | ifS (e : E) (b c : Ss)
  | whileS (e : E) (b : Ss)
  | doS (e : E)
  | fork (r : E) (f : Str) (as : Es)
  | plain (w : Str) (as : Es)
inductive Ss where
  | nil
  | cons (s : S) (ss : Ss)
end
def cw (o : Bool) : Str := if o then "or" else "and"
mutual
def E.d : E → PyData
  | .int n => .tuple [.str "int", .int n]
  | .name x => .tuple [.str "name", .str x]
  | .choice o l r => .tuple [.str (cw o), l.d, r.d]
  | .call r f as => .tuple [.str "call", r.d, .str f, .tuple as.ds]
  | .new m as => .tuple [.str "new", .str m, .tuple as.ds]
  | .plain w as => .tuple (.str w :: as.ds)
def Es.ds : Es → List PyData
  | .nil => []
  | .cons e es => e.d :: es.ds
end
mutual
def S.d : S → PyData
  | .letS x k e => .tuple [.str "let", .str x, .str k, e.d]
  | .setS x e => .tuple [.str "set", .str x, e.d]
  | .ifS e b c => .tuple [.str "if", e.d, .tuple b.ds, .tuple c.ds]
  | .whileS e b => .tuple [.str "while", e.d, .tuple b.ds]
  | .doS e => .tuple [.str "do", e.d]
  | .fork r f as => .tuple [.str "fork", r.d, .str f, .tuple as.ds]
  | .plain w as => .tuple (.str w :: as.ds)
def Ss.ds : Ss → List PyData
  | .nil => []
  | .cons s ss => s.d :: ss.ds
end
def Es.list : Es → List E
  | .nil => []
  | .cons e es => e :: es.list
def Ss.list : Ss → List S
  | .nil => []
  | .cons s ss => s :: ss.list
def Ss.of : List S → Ss
  | [] => .nil
  | s :: ss => .cons s (Ss.of ss)
def Ss.app : Ss → Ss → Ss
  | .nil, c => c
  | .cons s b, c => .cons s (b.app c)
def Es.len : Es → Nat
  | .nil => 0
  | .cons _ es => es.len + 1
theorem Es.ds_len : ∀ es : Es, es.ds.length = es.len
  | .nil => rfl
  | .cons _ es => congrArg (· + 1) (Es.ds_len es)
theorem Es.list_ds : ∀ es : Es, es.ds = es.list.map E.d
  | .nil => rfl
  | .cons _ es => congrArg (_ :: ·) (Es.list_ds es)
theorem Ss.list_ds : ∀ es : Ss, es.ds = es.list.map S.d
  | .nil => rfl
  | .cons _ es => congrArg (_ :: ·) (Ss.list_ds es)
theorem Ss.app_ds : ∀ b c : Ss, (b.app c).ds = b.ds ++ c.ds
  | .nil, _ => rfl
  | .cons _ b, c => congrArg (_ :: ·) (Ss.app_ds b c)
theorem Ss.app_list : ∀ b c : Ss, (b.app c).list = b.list ++ c.list
  | .nil, _ => rfl
  | .cons _ b, c => congrArg (_ :: ·) (Ss.app_list b c)
theorem Ss.of_list : ∀ l : List S, (Ss.of l).list = l
  | [] => rfl
  | _ :: l => congrArg (_ :: ·) (Ss.of_list l)
/-! ### the names that are used; the names of lets -/
mutual
def E.uses : E → List Str
  | .int _ => []
  | .name x => [x]
  | .choice _ l r => l.uses ++ r.uses
  | .call r _ as => r.uses ++ as.uses
  | .new _ as => as.uses
  | .plain _ as => as.uses
def Es.uses : Es → List Str
  | .nil => []
  | .cons e es => e.uses ++ es.uses
end
mutual
def S.uses : S → List Str
  | .letS x _ e => x :: e.uses
  | .setS x e => x :: e.uses
  | .ifS e b c => e.uses ++ (b.uses ++ c.uses)
  | .whileS e b => e.uses ++ b.uses
  | .doS e => e.uses
  | .fork r _ as => r.uses ++ as.uses
  | .plain _ as => as.uses
def Ss.uses : Ss → List Str
  | .nil => []
  | .cons s ss => s.uses ++ ss.uses
end
mutual
def S.lets : S → List Str
  | .letS x _ _ => [x]
  | .ifS _ b c => b.lets ++ c.lets
  | .whileS _ b => b.lets
  | _ => []
def Ss.lets : Ss → List Str
  | .nil => []
  | .cons s ss => s.lets ++ ss.lets
end
theorem Ss.app_lets : ∀ b c : Ss, (b.app c).lets = b.lets ++ c.lets
  | .nil, _ => rfl
  | .cons s b, c => by
    show s.lets ++ (b.app c).lets = (s.lets ++ b.lets) ++ c.lets
    rw [Ss.app_lets b c, List.append_assoc]
theorem Ss.app_uses : ∀ b c : Ss, (b.app c).uses = b.uses ++ c.uses
  | .nil, _ => rfl
  | .cons s b, c => by
    show s.uses ++ (b.app c).uses = (s.uses ++ b.uses) ++ c.uses
    rw [Ss.app_uses b c, List.append_assoc]
/-! ### words in their places -/
abbrev plainE : List Str := ["nil", "self", "add", "sub", "mul", "less", "most", "same", "not"]
abbrev leafE : List Str := ["nil", "self"]
def Es.isNil : Es → Bool
  | .nil => true
  | .cons _ _ => false
abbrev plainB : List Str := ["return", "print", "move"]
/-- how many parts stand behind a word -/
def arE (w : Str) : Nat := if w ∈ leafE then 0 else if w = "not" then 1 else 2
def arB (w : Str) : Nat := if w = "move" then 2 else 1
mutual
def E.wf : E → Bool
  | .int _ => true
  | .name _ => true
  | .choice _ l r => l.wf && r.wf
  | .call r _ as => r.wf && as.wf
  | .new _ as => as.wf
  | .plain w as => (decide (w ∈ plainE) && decide (as.len = arE w)) && as.wf
def Es.wf : Es → Bool
  | .nil => true
  | .cons e es => e.wf && es.wf
end
mutual
def S.wf : S → Bool
  | .letS _ _ e => e.wf
  | .setS _ e => e.wf
  | .ifS e b c => e.wf && (b.wf && c.wf)
  | .whileS e b => e.wf && b.wf
  | .doS e => e.wf
  | .fork r _ as => r.wf && as.wf
  | .plain w as => (decide (w ∈ plainB) && decide (as.len = arB w)) && as.wf
def Ss.wf : Ss → Bool
  | .nil => true
  | .cons s ss => s.wf && ss.wf
end
theorem Ss.app_wf : ∀ b c : Ss, (b.app c).wf = (b.wf && c.wf)
  | .nil, _ => rfl
  | .cons s b, c => by
    show (s.wf && (b.app c).wf) = ((s.wf && b.wf) && c.wf)
    rw [Ss.app_wf b c, Bool.and_assoc]
theorem and2 {a b : Bool} (h1 : a = true) (h2 : b = true) : (a && b) = true := by rw [h1, h2]; rfl
theorem wfP {w : Str} {e : E} {as : Es} (h1 : decide (w ∈ plainB) = true) (h3 : (Es.cons e as).len = arB w) (h2 : (Es.cons e as).wf = true) : (S.plain w (.cons e as)).wf = true := and2 (and2 h1 (decide_eq_true h3)) h2
theorem ar_nil {w : Str} (h : decide (0 = arE w) = true) : w ∈ leafE := by
  by_cases e : w ∈ leafE
  · exact e
  · have h' := of_decide_eq_true h
    unfold arE at h'
    rw [if_neg e] at h'
    split at h' <;> omega
theorem ar_some {w : Str} {n : Nat} (h : decide (n + 1 = arE w) = true) : ¬ w ∈ leafE := fun e => by
  have h' := of_decide_eq_true h
  unfold arE at h'
  rw [if_pos e] at h'
  omega
theorem wfW {e : E} {b : Ss} (h1 : e.wf = true) (h2 : b.wf = true) : (S.whileS e b).wf = true := and2 h1 h2
theorem wfC {e : E} {es : Es} (h1 : e.wf = true) (h2 : es.wf = true) : (Es.cons e es).wf = true := and2 h1 h2
theorem wfSs {e : S} {es : Ss} (h1 : e.wf = true) (h2 : es.wf = true) : (Ss.cons e es).wf = true := and2 h1 h2
/-! ### depth -/
mutual
def E.dep : E → Nat
  | .int _ => 0
  | .name _ => 0
  | .choice _ l r => max l.dep r.dep + 1
  | .call r _ as => max r.dep as.dep + 1
  | .new _ as => as.dep + 1
  | .plain _ as => as.dep + 1
def Es.dep : Es → Nat
  | .nil => 0
  | .cons e es => max e.dep es.dep
end
mutual
def S.dep : S → Nat
  | .letS _ _ e => e.dep + 1
  | .setS _ e => e.dep + 1
  | .ifS e b c => max e.dep (max b.dep c.dep) + 1
  | .whileS e b => max e.dep b.dep + 1
  | .doS e => e.dep + 1
  | .fork r _ as => max r.dep as.dep + 1
  | .plain _ as => as.dep + 1
def Ss.dep : Ss → Nat
  | .nil => 0
  | .cons s ss => max s.dep ss.dep
end
/-! ### the number of instructions -/
mutual
def E.sz : E → Nat
  | .int _ => 1
  | .name _ => 1
  | .choice o l r => l.sz + r.sz + (if o then 2 else 0) + 5
  | .call r _ as => r.sz + as.sz + 1
  | .new _ as => as.sz + 1
  | .plain _ as => as.sz + 1
def Es.sz : Es → Nat
  | .nil => 0
  | .cons e es => e.sz + es.sz
end
mutual
def S.sz : S → Nat
  | .letS _ _ e => e.sz + 1
  | .setS _ e => e.sz + 1
  | .ifS e b c => e.sz + 1 + b.sz + (match c with | .nil => 0 | .cons _ _ => 1) + c.sz
  | .whileS e b => e.sz + b.sz + 2
  | .doS e => e.sz + 1
  | .fork r _ as => r.sz + as.sz + 1
  | .plain _ as => as.sz + 1
def Ss.sz : Ss → Nat
  | .nil => 0
  | .cons s ss => s.sz + ss.sz
end
theorem Ss.app_dep : ∀ b c : Ss, (b.app c).dep = max b.dep c.dep
  | .nil, _ => (Nat.zero_max _).symm
  | .cons s b, c => by
    show max s.dep (b.app c).dep = max (max s.dep b.dep) c.dep
    rw [Ss.app_dep b c, Nat.max_assoc]
theorem Ss.app_sz : ∀ b c : Ss, (b.app c).sz = b.sz + c.sz
  | .nil, _ => (Nat.zero_add _).symm
  | .cons s b, c => by
    show s.sz + (b.app c).sz = (s.sz + b.sz) + c.sz
    rw [Ss.app_sz b c, Nat.add_assoc]
/-! ### code -/
def I1 (x : Str) : PyData := .tuple [.str x]
def I2 (x : Str) (n : Int) : PyData := .tuple [.str x, .int n]
def I3 (x y : Str) (n : Int) : PyData := .tuple [.str x, .str y, .int n]
/-- what turns the parts of an or -/
def tn (o : Bool) : List PyData := if o then [I1 "not"] else []
def kn (o : Bool) : Nat := if o then 1 else 0
def ends (o : Bool) (d : Nat) : List PyData := [I2 "push" (if o then 0 else 1), I2 "jump" ((d : Int) + 1), I2 "push" (if o then 1 else 0)]
abbrev Plc := Str → Str × Int
mutual
def E.code (pl : Plc) : E → Nat → List PyData
  | .int n, _ => [I2 "push" n]
  | .name x, _ => [I2 (pl x).1 (pl x).2]
  | .choice o l r, at_ => (l.code pl at_ ++ tn o) ++ [I2 "unless" ((at_ + l.sz + kn o + 1 + r.sz + kn o + 3 : Nat) : Int)] ++ (r.code pl (at_ + l.sz + kn o + 1) ++ tn o) ++ [I2 "unless" ((at_ + l.sz + kn o + 1 + r.sz + kn o + 3 : Nat) : Int)] ++ ends o (at_ + l.sz + kn o + 1 + r.sz + kn o + 3)
  | .call r f as, at_ => (r.code pl at_ ++ as.code pl (at_ + r.sz)) ++ [I3 "call" f as.len]
  | .new m as, at_ => as.code pl at_ ++ [I3 "new" m as.len]
  | .plain w as, at_ => as.code pl at_ ++ [I1 w]
def Es.code (pl : Plc) : Es → Nat → List PyData
  | .nil, _ => []
  | .cons e es, at_ => e.code pl at_ ++ es.code pl (at_ + e.sz)
end
mutual
def S.code (pl : Plc) : S → Nat → List PyData
  | .letS x _ e, at_ => e.code pl at_ ++ [I2 ("set" ++ (pl x).1) (pl x).2]
  | .setS x e, at_ => e.code pl at_ ++ [I2 ("set" ++ (pl x).1) (pl x).2]
  | .ifS e b .nil, at_ => e.code pl at_ ++ [I2 "unless" ((at_ + e.sz + 1 + b.sz : Nat) : Int)] ++ b.code pl (at_ + e.sz + 1)
  | .ifS e b (.cons s ss), at_ => e.code pl at_ ++ [I2 "unless" ((at_ + e.sz + 1 + b.sz + 1 : Nat) : Int)] ++ b.code pl (at_ + e.sz + 1) ++ [I2 "jump" ((at_ + e.sz + 1 + b.sz + 1 + (s.sz + ss.sz) : Nat) : Int)] ++
      (s.code pl (at_ + e.sz + 1 + b.sz + 1) ++ ss.code pl (at_ + e.sz + 1 + b.sz + 1 + s.sz))
  | .whileS e b, at_ => e.code pl at_ ++ [I2 "unless" ((at_ + e.sz + 1 + b.sz + 1 : Nat) : Int)] ++ b.code pl (at_ + e.sz + 1) ++ [I2 "jump" (at_ : Nat)]
  | .doS e, at_ => e.code pl at_ ++ [I1 "drop"]
  | .fork r f as, at_ => (r.code pl at_ ++ as.code pl (at_ + r.sz)) ++ [I3 "fork" f as.len]
  | .plain w as, at_ => as.code pl at_ ++ [I1 w]
def Ss.code (pl : Plc) : Ss → Nat → List PyData
  | .nil, _ => []
  | .cons s ss, at_ => s.code pl at_ ++ ss.code pl (at_ + s.sz)
end
theorem tn_len (o : Bool) : (tn o).length = kn o := by cases o <;> rfl
mutual
theorem E.code_len (pl : Plc) : ∀ (e : E) (a : Nat), (e.code pl a).length = e.sz
  | .int _, _ => rfl
  | .name _, _ => rfl
  | .choice o l r, a => by
    have h1 := E.code_len pl l a
    have h2 := E.code_len pl r (a + l.sz + kn o + 1)
    simp only [E.code, List.length_append, List.length_cons, List.length_nil, h1, h2, tn_len, ends, E.sz]
    cases o <;> simp [kn] <;> omega
  | .call r f as, a => by
    have h1 := E.code_len pl r a
    have h2 := Es.code_len pl as (a + r.sz)
    simp only [E.code, List.length_append, List.length_cons, List.length_nil, h1, h2, E.sz]
  | .new m as, a => by
    have h2 := Es.code_len pl as a
    simp only [E.code, List.length_append, List.length_cons, List.length_nil, h2, E.sz]
  | .plain w as, a => by
    have h2 := Es.code_len pl as a
    simp only [E.code, List.length_append, List.length_cons, List.length_nil, h2, E.sz]
theorem Es.code_len (pl : Plc) : ∀ (es : Es) (a : Nat), (es.code pl a).length = es.sz
  | .nil, _ => rfl
  | .cons e es, a => by
    have h1 := E.code_len pl e a
    have h2 := Es.code_len pl es (a + e.sz)
    simp only [Es.code, List.length_append, h1, h2, Es.sz]
end
mutual
theorem S.code_len (pl : Plc) : ∀ (s : S) (a : Nat), (s.code pl a).length = s.sz
  | .letS x k e, a => by simp only [S.code, List.length_append, List.length_cons, List.length_nil, E.code_len, S.sz]
  | .setS x e, a => by simp only [S.code, List.length_append, List.length_cons, List.length_nil, E.code_len, S.sz]
  | .ifS e b .nil, a => by
    have h := Ss.code_len pl b (a + e.sz + 1)
    simp only [S.code, List.length_append, List.length_cons, List.length_nil, E.code_len, h, S.sz, Ss.sz]
    omega
  | .ifS e b (.cons s ss), a => by
    have h := Ss.code_len pl b (a + e.sz + 1)
    have h1 := S.code_len pl s (a + e.sz + 1 + b.sz + 1)
    have h2 := Ss.code_len pl ss (a + e.sz + 1 + b.sz + 1 + s.sz)
    simp only [S.code, List.length_append, List.length_cons, List.length_nil, E.code_len, h, h1, h2, S.sz, Ss.sz]
  | .whileS e b, a => by
    have h := Ss.code_len pl b (a + e.sz + 1)
    simp only [S.code, List.length_append, List.length_cons, List.length_nil, E.code_len, h, S.sz]
    omega
  | .doS e, a => by simp only [S.code, List.length_append, List.length_cons, List.length_nil, E.code_len, S.sz]
  | .fork r f as, a => by simp only [S.code, List.length_append, List.length_cons, List.length_nil, E.code_len, Es.code_len, S.sz]
  | .plain w as, a => by simp only [S.code, List.length_append, List.length_cons, List.length_nil, Es.code_len, S.sz]
theorem Ss.code_len (pl : Plc) : ∀ (ss : Ss) (a : Nat), (ss.code pl a).length = ss.sz
  | .nil, _ => rfl
  | .cons s ss, a => by
    have h1 := S.code_len pl s a
    have h2 := Ss.code_len pl ss (a + s.sz)
    simp only [Ss.code, List.length_append, h1, h2, Ss.sz]
end
/-! ### rows of expressions, of statements, taken to a place -/
def Es.take : Es → Nat → Es
  | _, 0 => .nil
  | .nil, _ + 1 => .nil
  | .cons e es, n + 1 => .cons e (es.take n)
def Ss.take : Ss → Nat → Ss
  | _, 0 => .nil
  | .nil, _ + 1 => .nil
  | .cons e es, n + 1 => .cons e (es.take n)
theorem Es.take_next {pl : Plc} : ∀ {es : Es} {i : Nat} {e : E} (a : Nat), es.list[i]? = some e → (es.take (i + 1)).code pl a = (es.take i).code pl a ++ e.code pl (a + (es.take i).sz) ∧ (es.take (i + 1)).sz = (es.take i).sz + e.sz
  | .cons e es, 0, _, a, h => by
    cases h
    constructor
    · show e.code pl a ++ (es.take 0).code pl (a + e.sz) = [] ++ e.code pl (a + 0)
      cases es <;> simp [Es.take, Es.code]
    · show e.sz + (es.take 0).sz = 0 + e.sz
      cases es <;> simp [Es.take, Es.sz]
  | .cons e es, i + 1, f, a, h => by
    have ih := Es.take_next (pl := pl) (es := es) (i := i) (e := f) (a + e.sz) h
    constructor
    · show e.code pl a ++ (es.take (i + 1)).code pl (a + e.sz) = (e.code pl a ++ (es.take i).code pl (a + e.sz)) ++ f.code pl (a + (e.sz + (es.take i).sz))
      rw [ih.1, List.append_assoc, Nat.add_assoc a]
    · show e.sz + (es.take (i + 1)).sz = e.sz + (es.take i).sz + f.sz
      rw [ih.2]
      omega
  | .nil, i, _, _, h => by cases h
theorem Es.take_all : ∀ es : Es, es.take es.list.length = es
  | .nil => rfl
  | .cons e es => congrArg (Es.cons e) (Es.take_all es)
theorem Es.take_sz : ∀ (es : Es) (i : Nat), (es.take i).sz ≤ es.sz
  | es, 0 => by cases es <;> exact Nat.zero_le _
  | .nil, _ + 1 => Nat.le_refl _
  | .cons e es, i + 1 => Nat.add_le_add_left (Es.take_sz es i) _
theorem Ss.take_next {pl : Plc} : ∀ {es : Ss} {i : Nat} {e : S} (a : Nat), es.list[i]? = some e → (es.take (i + 1)).code pl a = (es.take i).code pl a ++ e.code pl (a + (es.take i).sz) ∧ (es.take (i + 1)).sz = (es.take i).sz + e.sz
  | .cons e es, 0, _, a, h => by
    cases h
    constructor
    · show e.code pl a ++ (es.take 0).code pl (a + e.sz) = [] ++ e.code pl (a + 0)
      cases es <;> simp [Ss.take, Ss.code]
    · show e.sz + (es.take 0).sz = 0 + e.sz
      cases es <;> simp [Ss.take, Ss.sz]
  | .cons e es, i + 1, f, a, h => by
    have ih := Ss.take_next (pl := pl) (es := es) (i := i) (e := f) (a + e.sz) h
    constructor
    · show e.code pl a ++ (es.take (i + 1)).code pl (a + e.sz) = (e.code pl a ++ (es.take i).code pl (a + e.sz)) ++ f.code pl (a + (e.sz + (es.take i).sz))
      rw [ih.1, List.append_assoc, Nat.add_assoc a]
    · show e.sz + (es.take (i + 1)).sz = e.sz + (es.take i).sz + f.sz
      rw [ih.2]
      omega
  | .nil, i, _, _, h => by cases h
theorem Ss.take_all : ∀ es : Ss, es.take es.list.length = es
  | .nil => rfl
  | .cons e es => congrArg (Ss.cons e) (Ss.take_all es)
theorem Ss.take_sz : ∀ (es : Ss) (i : Nat), (es.take i).sz ≤ es.sz
  | es, 0 => by cases es <;> exact Nat.zero_le _
  | .nil, _ + 1 => Nat.le_refl _
  | .cons e es, i + 1 => Nat.add_le_add_left (Ss.take_sz es i) _
/-- the parts of a row -/
theorem Es.part : ∀ {es : Es} {e : E}, e ∈ es.list → (es.wf = true → e.wf = true) ∧ (∀ x ∈ e.uses, x ∈ es.uses) ∧ e.dep ≤ es.dep ∧ e.sz ≤ es.sz
  | .cons f fs, e, h => by
    rcases List.mem_cons.mp (show e ∈ f :: fs.list from h) with rfl | h
    · exact ⟨fun w => (Bool.and_eq_true_iff.mp w).1, fun x hx => List.mem_append_left _ hx, Nat.le_max_left _ _, Nat.le_add_right _ _⟩
    · obtain ⟨h1, h2, h3, h4⟩ := Es.part h
      exact ⟨fun w => h1 (Bool.and_eq_true_iff.mp w).2, fun x hx => List.mem_append_right _ (h2 x hx), Nat.le_trans h3 (Nat.le_max_right _ _), Nat.le_trans h4 (Nat.le_add_left _ _)⟩
  | .nil, _, h => by cases h
theorem Ss.part : ∀ {es : Ss} {e : S}, e ∈ es.list → (es.wf = true → e.wf = true) ∧ (∀ x ∈ e.uses, x ∈ es.uses) ∧ e.dep ≤ es.dep ∧ e.sz ≤ es.sz
  | .cons f fs, e, h => by
    rcases List.mem_cons.mp (show e ∈ f :: fs.list from h) with rfl | h
    · exact ⟨fun w => (Bool.and_eq_true_iff.mp w).1, fun x hx => List.mem_append_left _ hx, Nat.le_max_left _ _, Nat.le_add_right _ _⟩
    · obtain ⟨h1, h2, h3, h4⟩ := Ss.part h
      exact ⟨fun w => h1 (Bool.and_eq_true_iff.mp w).2, fun x hx => List.mem_append_right _ (h2 x hx), Nat.le_trans h3 (Nat.le_max_right _ _), Nat.le_trans h4 (Nat.le_add_left _ _)⟩
  | .nil, _, h => by cases h
theorem Rps.at_E {K : PySem.W.Frag} {H : Hp} {vs : List V} {es : Es} {i : Nat} {v : V} (r : Rps K H vs es.ds) (h : vs[i]? = some v) : ∃ e, es.list[i]? = some e ∧ Rp K H v e.d := by
  rw [Es.list_ds] at r
  have hl := r.len
  rw [List.length_map] at hl
  have hi : i < es.list.length := by
    rw [← hl]
    exact (List.getElem?_eq_some_iff.mp h).1
  have e1 : es.list[i]? = some es.list[i] := List.getElem?_eq_getElem hi
  obtain ⟨u, hu, ru⟩ := r.at_ (i := i) (d := es.list[i].d) (by rw [List.getElem?_map, e1]; rfl)
  rw [h] at hu
  cases hu
  exact ⟨_, e1, ru⟩
theorem Rps.at_S {K : PySem.W.Frag} {H : Hp} {vs : List V} {es : Ss} {i : Nat} {v : V} (r : Rps K H vs es.ds) (h : vs[i]? = some v) : ∃ e, es.list[i]? = some e ∧ Rp K H v e.d := by
  rw [Ss.list_ds] at r
  have hl := r.len
  rw [List.length_map] at hl
  have hi : i < es.list.length := by
    rw [← hl]
    exact (List.getElem?_eq_some_iff.mp h).1
  have e1 : es.list[i]? = some es.list[i] := List.getElem?_eq_getElem hi
  obtain ⟨u, hu, ru⟩ := r.at_ (i := i) (d := es.list[i].d) (by rw [List.getElem?_map, e1]; rfl)
  rw [h] at hu
  cases hu
  exact ⟨_, e1, ru⟩
/-- an item of a tuple of data -/
theorem ix_rp {K : PySem.W.Frag} {H : Hp} {x : V} {ds : List PyData} {i : Nat} {d : PyData} {Q : VK} (hx : Rp K H x (.tuple ds)) (hi : ds[i]? = some d) (h : ∀ v, Rp K H v d → Q v H) : rIxT K x (.int (i : Nat)) H Q := by
  obtain ⟨a, xs, rfl, ha, hxs⟩ := hx.tup_inv
  obtain ⟨v, hv, rv⟩ := hxs.at_ hi
  exact ⟨a, xs, _, v, rfl, rfl, ha, atI_nat hv, h v rv⟩
theorem len_rp {K : PySem.W.Frag} {H : Hp} {x : V} {ds : List PyData} (hx : Rp K H x (.tuple ds)) : ∃ a xs, x = .ref a ∧ SqT K H a xs ∧ xs.length = ds.length := by
  obtain ⟨a, xs, rfl, ha, hxs⟩ := hx.tup_inv
  exact ⟨a, xs, rfl, ha, hxs.len⟩
/-- where the names are kept: a dict of places -/
def PlAt (K : PySem.W.Frag) (H : Hp) (nd : Addr) (pl : Plc) (N : List Str) : Prop := ∃ kvs, H nd = some (.dK kvs) ∧ ∀ x ∈ N, (pl x).1.length ≤ 1000 ∧ ∃ v, valV kvs (.inr x : Key) = some v ∧ Rp K H v (.tuple [.str (pl x).1, .int (pl x).2])
theorem PlAt.same {K : PySem.W.Frag} {H H' : Hp} {nd : Addr} {pl : Plc} {N : List Str} (p : PlAt K H nd pl N) (s : Same H H') : PlAt K H' nd pl N := by
  obtain ⟨kvs, h, q⟩ := p
  exact ⟨kvs, s _ _ h, fun x hx => ⟨(q x hx).1, by
    obtain ⟨v, h1, h2⟩ := (q x hx).2
    exact ⟨v, h1, h2.keep (Same.tups s)⟩⟩⟩
end Pt

set_option Elab.async false
set_option linter.all false
set_option maxRecDepth 100000
set_option maxHeartbeats 4000000
/-! Dicts whose keys are tuples of any depth (names of processes, of objects): {}, d[k], d[k] = v, del d[k], k in d, d.get. -/
namespace ND
open PySem PySem.W PySem.Spec PyProof.Rows L2 Pt

/-- tuples stay -/
abbrev TK (K : PySem.W.Frag) (H H' : Hp) : Prop := ∀ c xs, SqT K H c xs → SqT K H' c xs
theorem TK.refl {K : PySem.W.Frag} {H : Hp} : TK K H H := fun _ _ h => h
theorem TK.trans {K : PySem.W.Frag} {H H1 H2 : Hp} (a : TK K H H1) (b : TK K H1 H2) : TK K H H2 := fun c xs h => b c xs (a c xs h)
theorem TK.same {K : PySem.W.Frag} {H H' : Hp} (s : Same H H') : TK K H H' := fun _ _ h => Cm.sameT s h
theorem TK.of {K : PySem.W.Frag} {H H' : Hp} (t : Tups H H') : TK K H H' := fun _ _ h => t.sqt h
/-- what may be written is no tuple -/
theorem TK.upd {K : PySem.W.Frag} {H : Hp} {a : Addr} {o : HO} (m : Mut (H a)) : TK K H (upd H a o) := fun c xs h => by
  rcases h with (h | ⟨u, h⟩) | h
  · refine .inl (.inl ?_)
    rw [upd_ne fun z => by subst z; rw [h] at m; exact m]
    exact h
  · refine .inl (.inr ⟨u, ?_⟩)
    rw [upd_ne fun z => by subst z; rw [h] at m; exact m]
    exact h
  · exact .inr h
mutual
theorem rp_keep {K : PySem.W.Frag} {H H' : Hp} (k : TK K H H') : ∀ {v : V} {d : PyData}, Rp K H v d → Rp K H' v d
  | _, _, .non => .non
  | _, _, .bl b => .bl b
  | _, _, .int i => .int i
  | _, _, .str x => .str x
  | _, _, .tup h r => .tup (k _ _ h) (rps_keep k r)
theorem rps_keep {K : PySem.W.Frag} {H H' : Hp} (k : TK K H H') : ∀ {vs : List V} {ds : List PyData}, Rps K H vs ds → Rps K H' vs ds
  | _, _, .nil => .nil
  | _, _, .cons h r => .cons (rp_keep k h) (rps_keep k r)
end
/-- the value v is the key k -/
def KeyAt (K : PySem.W.Frag) (H : Hp) (v : V) (k : NestedKey) : Prop := Rp K H v k.data ∧ k.depth ≤ 8 ∧ ∃ ks, k = .tup ks
theorem KeyAt.keep {K : PySem.W.Frag} {H H' : Hp} {v : V} {k : NestedKey} (t : TK K H H') (h : KeyAt K H v k) : KeyAt K H' v k := ⟨rp_keep t h.1, h.2⟩
theorem KeyAt.ref {K : PySem.W.Frag} {H : Hp} {v : V} {k : NestedKey} (h : KeyAt K H v k) : ∃ b, v = .ref b := by
  obtain ⟨r, _, ks, rfl⟩ := h
  obtain ⟨a, xs, rfl, _⟩ := r.tup_inv
  exact ⟨a, rfl⟩
section
variable {X : Cx} {pins : List (Addr × Obj)} {σ : L2.St} {H : Hp} {s : Shared}
mutual
theorem is_of (I : Inv X pins σ H s) : ∀ (k : NestedKey) (v : V) (u : Value), Rp X.K H v k.data → RelV v u → NestedIs s.heap k u
  | .none, v, u, r, ru => by
    simp only [NestedKey.data] at r
    cases r
    cases ru
    exact .none
  | .num i, v, u, r, ru => by
    simp only [NestedKey.data] at r
    cases r
    obtain ⟨t, rfl⟩ := ru
    exact .int _ _
  | .text x, v, u, r, ru => by
    simp only [NestedKey.data] at r
    cases r
    obtain ⟨t, rfl⟩ := ru
    exact .text _ _
  | .tup ks, v, u, r, ru => by
    simp only [NestedKey.data] at r
    obtain ⟨a, vs, rfl, ha, hvs⟩ := r.tup_inv
    cases ru
    obtain ⟨its, rv, ⟨o, ho, hc, n, hd⟩, hz⟩ := I.tuple ha
    exact .tup ho hc hd (by simpa using all_of I ks vs its hvs rv)
theorem all_of (I : Inv X pins σ H s) : ∀ (ks : List NestedKey) (vs : List V) (us : List Value), Rps X.K H vs (NestedKey.datas ks) → Vals vs us → NestedAll s.heap ks us
  | [], vs, us, r, ru => by
    simp only [NestedKey.datas] at r
    cases r
    cases ru
    exact .nil
  | k :: ks, vs, us, r, ru => by
    simp only [NestedKey.datas] at r
    cases r with
    | cons h t =>
      cases ru with
      | cons h' t' => exact .cons (is_of I k _ _ h h') (all_of I ks _ _ t t')
end
theorem key_of (I : Inv X pins σ H s) {b : Addr} {k : NestedKey} (h : KeyAt X.K H (.ref b) k) : (nestedKind X.prog X.w).is s.heap k b := ⟨is_of I k _ _ h.1 rfl, h.2.1⟩
end

/-- the dict at a holds xs -/
def ndO (P : Program) (w : World) (xs : List (NestedKey × Addr × Value)) (a : Addr) : HO := .ext fun h => (a == sysModules) = false ∧ xs.length ≤ sizeLine ∧
  ∃ o es ep, h.get? a = some o ∧ o.ExactDict ∧ o.data = .dict es ep ∧ es.toList = xs.map (entryOfKey (nestedKind P w)) ∧ (xs.map (·.1)).Nodup
abbrev KN (K : PySem.W.Frag) (H : Hp) : List (NestedKey × V) → List (NestedKey × Addr × Value) → Prop := Paired fun p q => p.1 = q.1 ∧ KeyAt K H (.ref q.2.1) p.1 ∧ RelV p.2 q.2.2
/-- at a stands a dict with these entries -/
def NDct (P : Program) (w : World) (K : PySem.W.Frag) (H : Hp) (a : Addr) (kvs : List (NestedKey × V)) : Prop := ∃ xs, H a = some (ndO P w xs a) ∧ KN K H kvs xs
section
variable {P : Program} {w : World} {K : PySem.W.Frag} {H H' : Hp} {a : Addr} {kvs : List (NestedKey × V)}
theorem KN.keep (t : TK K H H') {xs : List (NestedKey × Addr × Value)} (h : KN K H kvs xs) : KN K H' kvs xs := Paired.mapP h fun _ _ z => ⟨z.1, z.2.1.keep t, z.2.2⟩
theorem NDct.keep (t : TK K H H') (e : H' a = H a) (h : NDct P w K H a kvs) : NDct P w K H' a kvs := by
  obtain ⟨xs, h1, h2⟩ := h
  exact ⟨xs, e.trans h1, KN.keep t h2⟩
theorem NDct.same (t : Same H H') (h : NDct P w K H a kvs) : NDct P w K H' a kvs := by
  obtain ⟨xs, h1, h2⟩ := h
  exact ⟨xs, t _ _ h1, KN.keep (TK.same t) h2⟩
theorem NDct.some (h : NDct P w K H a kvs) : ∃ o, H a = some o ∧ (∀ xs, o ≠ .lst xs) ∧ (∀ xs, o ≠ .tup xs) ∧ Mut (H a) := by
  obtain ⟨xs, h1, h2⟩ := h
  exact ⟨_, h1, (fun _ z => nomatch z), (fun _ z => nomatch z), by rw [h1]; exact True.intro⟩
theorem KN.val {xs : List (NestedKey × Addr × Value)} (r : KN K H kvs xs) (k : NestedKey) : RelO (valV kvs k) ((atKey xs k).map (·.2)) := by
  induction r with
  | nil => exact True.intro
  | @cons p q ps qs h t ih =>
    obtain ⟨h1, _, h2⟩ := h
    by_cases e : p.1 = k
    · have e' : q.1 = k := h1.symm.trans e
      have b : atKey (q :: qs) k = some q.2 := by simp [atKey, List.find?_cons, e']
      rw [valV_pos e, b]; exact h2
    · have e' : ¬ q.1 = k := fun z => e (h1.trans z)
      have b : atKey (q :: qs) k = atKey qs k := by simp [atKey, List.find?_cons, e']
      rw [valV_neg e, b]; exact ih
theorem KN.repl {xs : List (NestedKey × Addr × Value)} (r : KN K H kvs xs) (k : NestedKey) {y : V} {u : Value} (ry : RelV y u) :
    KN K H (kvs.map fun kv => if kv.1 = k then (kv.1, y) else kv) (xs.map (putAt k u)) := by
  induction r with
  | nil => exact .nil
  | @cons p q ps qs h t ih =>
    rw [List.map_cons, List.map_cons]
    refine .cons ?_ ih
    obtain ⟨h1, h2, h3⟩ := h
    unfold putAt
    by_cases e : p.1 = k
    · rw [if_pos e, if_pos (h1.symm.trans e)]; exact ⟨h1, h2, ry⟩
    · rw [if_neg e, if_neg (fun z => e (h1.trans z))]; exact ⟨h1, h2, h3⟩
theorem KN.put {xs : List (NestedKey × Addr × Value)} (r : KN K H kvs xs) (k : NestedKey) {b : Addr} {y : V} {u : Value} (hb : KeyAt K H (.ref b) k) (ry : RelV y u) :
    KN K H (putK kvs k y) (storedH xs k b u) := by
  have e : (kvs.any fun kv => decide (kv.1 = k)) = (atKey xs k).isSome := by
    rw [valV_any, (r.val k).isSome_eq, Option.isSome_map]
  unfold putK storedH
  rw [e]
  by_cases q : (atKey xs k).isSome = true
  · rw [if_pos q, if_pos q]; exact r.repl k ry
  · rw [if_neg q, if_neg q]; exact Paired.snoc r ⟨rfl, hb, ry⟩
theorem KN.drop {xs : List (NestedKey × Addr × Value)} (r : KN K H kvs xs) (k : NestedKey) : KN K H (dropK kvs k) (withoutH xs k) := by
  induction r with
  | nil => exact .nil
  | @cons p q ps qs h t ih =>
    obtain ⟨h1, h2, h3⟩ := h
    unfold dropK withoutH at ih ⊢
    rw [List.filter_cons, List.filter_cons]
    by_cases e : p.1 = k
    · have e' : q.1 = k := h1.symm.trans e
      simp only [e, e', decide_true, Bool.not_true, ne_eq, not_true_eq_false, decide_false, Bool.false_eq_true, if_false]
      exact ih
    · have e' : ¬ q.1 = k := fun z => e (h1.trans z)
      simp only [e, e', decide_false, Bool.not_false, ne_eq, not_false_eq_true, decide_true, if_true]
      exact .cons ⟨h1, h2, h3⟩ ih
end

section
variable {X : Cx} {pins : List (Addr × Obj)} {σ : L2.St} {H : Hp} {s : Shared} {a b : Addr} {v : V} {u r : Value} {k : NestedKey} {kvs : List (NestedKey × V)} {A : Around} {E : Value → Shared → Prop}
theorem nd_of (I : Inv X pins σ H s) (g : NDct X.prog X.w X.K H a kvs) : kvs.length ≤ sizeLine ∧ (a == sysModules) = false ∧ ∃ xs, H a = some (ndO X.prog X.w xs a) ∧ KN X.K H kvs xs ∧ s.heap.DictOfH (nestedKind X.prog X.w) a xs := by
  obtain ⟨xs, e, r⟩ := g
  obtain ⟨⟨hd, hz, o, es, ep, h1, h2, h3, h4, h5⟩, _⟩ := (show ObjOk X.prog X.w H s.heap a (ndO X.prog X.w xs a) from I.hok a _ e)
  refine ⟨by rw [Paired.length r]; exact hz, hd, xs, e, r, o, es, ep, h1, h2, h3, h4, fun x hx => ?_, h5⟩
  have all : ∀ {l : List (NestedKey × V)} {m : List (NestedKey × Addr × Value)}, KN X.K H l m → ∀ x ∈ m, (nestedKind X.prog X.w).is s.heap x.1 x.2.1 := by
    intro l m q
    induction q with
    | nil => intro x hx; exact nomatch hx
    | @cons p q ps qs hq t ih =>
      intro x hx
      rcases List.mem_cons.mp hx with e | hx
      · subst e
        exact key_of I (by rw [← hq.1]; exact hq.2.1)
      · exact ih x hx
  exact all r x hx
theorem nd_ok {P : Program} {w : World} {H' : Hp} {h' : Heap} {xs : List (NestedKey × Addr × Value)} (hd : (a == sysModules) = false) (hz : xs.length ≤ sizeLine) (dd : h'.DictOfH (nestedKind P w) a xs) :
    ObjOk P w H' h' a (ndO P w xs a) := by
  obtain ⟨o, es, ep, h1, h2, h3, h4, _, h5⟩ := dd
  exact ⟨⟨hd, hz, o, es, ep, h1, h2, h3, h4, h5⟩, ⟨o, h1⟩, fun g1 g2 ⟨q1, q2, o', es', ep', p1, p⟩ k => ⟨q1, q2, o', es', ep', k _ p1, p⟩⟩
theorem nd_type (I : Inv X pins σ H s) (g : NDct X.prog X.w X.K H a kvs) : s.TypeIs (.ref a) "dict" ∧ (∀ b, Value.ref a = .ref b → ∃ ob, s.heap.get? b = some ob ∧ ob.dict = none) := by
  obtain ⟨_, _, xs, _, _, dd⟩ := nd_of I g
  refine ⟨dd.typeIs, fun b q => ?_⟩
  cases q
  obtain ⟨ob, _, _, h1, h2, _⟩ := dd
  exact ⟨ob, h1, h2.2.1⟩
theorem nd_getItem {Q : Value → Shared → Prop} (hu : A.units + 9 < cLine) (I : Inv X pins σ H s) (g : NDct X.prog X.w X.K H a kvs) (ky : KeyAt X.K H (.ref b) k) (l : valV kvs k = some v) (h : ∀ w' s', Inv X pins σ H s' → RelV v w' → Q w' s') :
    wpAny (model X.prog X.w) A (getItem (.ref a) (.ref b)) Q E s := by
  obtain ⟨_, _, xs, _, rel, dd⟩ := nd_of I g
  obtain ⟨w', hw, rw'⟩ := RelO.some_of (v := v) (o := (atKey xs k).map (·.2)) (by rw [← l]; exact rel.val k)
  obtain ⟨p, hp, hp2⟩ := Option.map_eq_some_iff.mp hw
  refine wpAny_getItem_heap (show A.in1.units + 8 < cLine by rw [Around.in1_units]; omega) (key_of I ky) dd hp ?_
  rw [hp2]
  exact h w' _ (I.tok _) rw'
theorem nd_in {Q : Value → Shared → Prop} (hu : A.units + 9 < cLine) (I : Inv X pins σ H s) (g : NDct X.prog X.w X.K H a kvs) (ky : KeyAt X.K H (.ref b) k) (h : ∀ s', Inv X pins σ H s' → Q (.bool (valV kvs k).isSome) s') :
    wpAny (model X.prog X.w) A (compareOp .In (.ref b) (.ref a)) Q E s := by
  obtain ⟨_, hd, xs, _, rel, dd⟩ := nd_of I g
  refine wpAny_in_heap (show A.in1.units + 8 < cLine by rw [Around.in1_units]; omega) (key_of I ky) hd dd ?_
  have q := (rel.val k).isSome_eq
  rw [Option.isSome_map] at q
  rw [← q]
  exact h _ (I.tok _)
theorem nd_notIn {Q : Value → Shared → Prop} (hu : A.units + 9 < cLine) (I : Inv X pins σ H s) (g : NDct X.prog X.w X.K H a kvs) (ky : KeyAt X.K H (.ref b) k) (h : ∀ s', Inv X pins σ H s' → Q (.bool (!(valV kvs k).isSome)) s') :
    wpAny (model X.prog X.w) A (compareOp .NotIn (.ref b) (.ref a)) Q E s := by
  obtain ⟨_, hd, xs, _, rel, dd⟩ := nd_of I g
  refine wpAny_notIn_heap (show A.in1.units + 8 < cLine by rw [Around.in1_units]; omega) (key_of I ky) hd dd ?_
  have q := (rel.val k).isSome_eq
  rw [Option.isSome_map] at q
  rw [← q]
  exact h _ (I.tok _)
theorem nd_get1 {Q : Value → Shared → Prop} (hu : A.units + 9 < cLine) (I : Inv X pins σ H s) (g : NDct X.prog X.w X.K H a kvs) (ky : KeyAt X.K H (.ref b) k) (h : ∀ w' s', Inv X pins σ H s' → RelV ((valV kvs k).getD .non) w' → Q w' s') :
    wpAny (model X.prog X.w) A (call (.builtin "dict.get") [.ref a, .ref b]) Q E s := by
  obtain ⟨_, hd, xs, _, rel, dd⟩ := nd_of I g
  refine call_meetsIn PySem.F.slot_dict_get dd.typeIs PySem.F.entry_dict_get (PySem.F.args_dict_get_2 _ _) (meetsH_dict_get (nestedKind X.prog X.w) a b hd) ⟨show A.in1.units + 8 < cLine by rw [Around.in1_units]; omega, k, xs, key_of I ky, dd, h _ _ (I.tok _) ?_⟩
  exact (rel.val k).getD rfl
theorem nd_get2 {d : V} {Q : Value → Shared → Prop} (hu : A.units + 9 < cLine) (I : Inv X pins σ H s) (g : NDct X.prog X.w X.K H a kvs) (ky : KeyAt X.K H (.ref b) k) (rd : RelV d r) (h : ∀ w' s', Inv X pins σ H s' → RelV ((valV kvs k).getD d) w' → Q w' s') :
    wpAny (model X.prog X.w) A (call (.builtin "dict.get") [.ref a, .ref b, r]) Q E s := by
  obtain ⟨_, hd, xs, _, rel, dd⟩ := nd_of I g
  refine call_meetsIn PySem.F.slot_dict_get dd.typeIs PySem.F.entry_dict_get (PySem.F.args_dict_get_3 _ _ _) (meetsH_dict_get_default (nestedKind X.prog X.w) a b hd r) ⟨show A.in1.units + 8 < cLine by rw [Around.in1_units]; omega, k, xs, key_of I ky, dd, h _ _ (I.tok _) ?_⟩
  exact (rel.val k).getD rd
/-- d[k] = v -/
theorem nd_setItem {Q : Unit → Shared → Prop} (hu : A.units + 9 < cLine) (I : Inv X pins σ H s) (g : NDct X.prog X.w X.K H a kvs) (ky : KeyAt X.K H (.ref b) k) (hl : kvs.length < sizeLine) (rv : RelV v r)
    (h : ∀ o s', NDct X.prog X.w X.K (upd H a o) a (putK kvs k v) → Inv X pins σ (upd H a o) s' → Q () s') :
    wpAny (model X.prog X.w) A (setItem (.ref a) (.ref b) r) Q E s := by
  obtain ⟨_, hd, xs, e, rel, dd⟩ := nd_of I g
  have hz : xs.length ≤ sizeLine := by rw [← Paired.length rel]; omega
  refine wpAny_setItem_heap (hsz := hz) (show A.in1.units + 8 < cLine by rw [Around.in1_units]; omega) (key_of I ky) dd fun h' dd' hs => ?_
  have rel' := rel.put k ky rv
  have hz' : (storedH xs k b r).length ≤ sizeLine := by
    rw [← Paired.length rel']
    have := length_putK kvs k v
    omega
  have he : ∃ q, h'.get? a = some q := let ⟨q, _, _, hq, _⟩ := dd'; ⟨q, hq⟩
  exact h (ndO X.prog X.w (storedH xs k b r) a) _ ⟨_, upd_same, KN.keep (TK.upd (H := H) (a := a) (by rw [e]; exact True.intro)) rel'⟩ (d_write I (by rw [e]; exact True.intro) hs he (nd_ok hd hz' dd'))
/-- del d[k] -/
theorem nd_delItem {Q : Unit → Shared → Prop} (hu : A.units + 9 < cLine) (I : Inv X pins σ H s) (g : NDct X.prog X.w X.K H a kvs) (ky : KeyAt X.K H (.ref b) k) (l : (valV kvs k).isSome = true)
    (h : ∀ o s', NDct X.prog X.w X.K (upd H a o) a (dropK kvs k) → Inv X pins σ (upd H a o) s' → Q () s') :
    wpAny (model X.prog X.w) A (delItem (.ref a) (.ref b)) Q E s := by
  obtain ⟨hl, hd, xs, e, rel, dd⟩ := nd_of I g
  have hz : xs.length ≤ sizeLine := by rw [← Paired.length rel]; exact hl
  have q := (rel.val k).isSome_eq
  rw [Option.isSome_map, l] at q
  obtain ⟨p, hp⟩ := Option.isSome_iff_exists.mp q.symm
  refine wpAny_delItem_heap (hsz := hz) (show A.in1.units + 8 < cLine by rw [Around.in1_units]; omega) (key_of I ky) hd dd hp fun h' dd' hs => ?_
  have rel' := rel.drop k
  have hz' : (withoutH xs k).length ≤ sizeLine := Nat.le_trans (by unfold withoutH; exact List.length_filter_le _ _) hz
  have he : ∃ q, h'.get? a = some q := let ⟨q, _, _, hq, _⟩ := dd'; ⟨q, hq⟩
  exact h (ndO X.prog X.w (withoutH xs k) a) _ ⟨_, upd_same, KN.keep (TK.upd (H := H) (a := a) (by rw [e]; exact True.intro)) rel'⟩ (d_write I (by rw [e]; exact True.intro) hs he (nd_ok hd hz' dd'))
end

/-! ### readings and rules -/
section
variable (P : Program) (w : World) (K : PySem.W.Frag)
/-- {} -/
def tNNew : TE := fun _ H Q => ∀ p o, H p = none → NDct P w K (upd H p o) p [] → Q (.ref p) (upd H p o)
/-- d[y] -/
def tNGet (td ty : TE) : TE := fun σ H Q => td σ H fun x H1 => ty σ H1 fun y H2 => ∃ a kvs k v, x = .ref a ∧ NDct P w K H2 a kvs ∧ KeyAt K H2 y k ∧ valV kvs k = some v ∧ Q v H2
/-- y in d, y not in d -/
def tNIn (neg : Bool) (ty td : TE) : TE := fun σ H Q => ty σ H fun y H1 => td σ H1 fun x H2 => ∃ a kvs k, x = .ref a ∧ NDct P w K H2 a kvs ∧ KeyAt K H2 y k ∧ Q (.bl (if neg then !(valV kvs k).isSome else (valV kvs k).isSome)) H2
/-- d.get(y), d.get(y, z) -/
def tNGet1 (td ty : TE) : TE := fun σ H Q => td σ H fun x H1 => ∃ a kvs, x = .ref a ∧ NDct P w K H1 a kvs ∧ ty σ H1 fun y H2 => ∃ kvs k, NDct P w K H2 a kvs ∧ KeyAt K H2 y k ∧ Q ((valV kvs k).getD .non) H2
def tNGet2 (td ty tz : TE) : TE := fun σ H Q => td σ H fun x H1 => ∃ a kvs, x = .ref a ∧ NDct P w K H1 a kvs ∧ ty σ H1 fun y H2 => tz σ H2 fun z H3 => ∃ kvs k, NDct P w K H3 a kvs ∧ KeyAt K H3 y k ∧ Q ((valV kvs k).getD z) H3
/-- d[y] = v -/
def sNPut (td ty tv : TE) : TS := fun D σ H => tv σ H fun v H1 => td σ H1 fun x H2 => ty σ H2 fun y H3 => ∃ a kvs k, x = .ref a ∧ NDct P w K H3 a kvs ∧ KeyAt K H3 y k ∧ kvs.length < sizeLine ∧
  ∀ o, NDct P w K (upd H3 a o) a (putK kvs k v) → D.nx σ (upd H3 a o)
/-- del d[y] -/
def sNDel (td ty : TE) : TS := fun D σ H => td σ H fun x H1 => ty σ H1 fun y H2 => ∃ a kvs k, x = .ref a ∧ NDct P w K H2 a kvs ∧ KeyAt K H2 y k ∧ (valV kvs k).isSome = true ∧
  ∀ o, NDct P w K (upd H2 a o) a (dropK kvs k) → D.nx σ (upd H2 a o)
end
section
variable {X : Cx} {o i e f value : Expr} {pos pos' tpos apos cpos : Pos} {td ty tv tz : TE}
theorem pe_nnew : PE X (.Dict [] [] pos) (tNNew X.prog X.w X.K) := ⟨fun pins s σ H Q I h => by
  have hb := I.big
  have ok : ObjOk X.prog X.w (upd H s.heap.objs.size (ndO X.prog X.w [] s.heap.objs.size)) (s.heap.push { cls := .type "dict", data := .dict #[] }) s.heap.objs.size (ndO X.prog X.w [] s.heap.objs.size) :=
    nd_ok (beq_eq_false_iff_ne.mpr (Ne.symm (Nat.ne_of_lt hb))) (Nat.zero_le _) ⟨_, #[], 0, Heap.get?_push_size _ rfl, ⟨rfl, rfl, rfl⟩, rfl, rfl, (fun x hx => nomatch hx), List.nodup_nil⟩
  exact wpAny_Dict_empty ⟨.ref s.heap.objs.size, _, I.laid (a := s.heap.objs.size) (o := ndO X.prog X.w [] s.heap.objs.size) (t' := s.toks) (fun _ _ q => Heap.get?_push_of_some _ q) (Nat.le_refl _) ok, rfl, h _ _ (I.hok.fresh (Nat.le_refl _)) ⟨[], upd_same, .nil⟩⟩⟩
theorem pe_nget (hu : X.A.units + 9 < cLine) (ho : PE X o td) (hi : PE X i ty) (hs : NoSl i) : PE X (.Subscript o i pos) (tNGet X.prog X.w X.K td ty) := by
  refine ⟨fun pins s σ H Q I h => ?_⟩
  refine subD_of PySem.F.slot_dict_getitem.lookup hs (thn (ho.run pins s σ H _ I h) fun u s1 ⟨x, H1, I1, rx, q1⟩ => thn (hi.run pins s1 σ H1 _ I1 q1) fun iv s2 ⟨y, H2, I2, ry, a, kvs, k, v, ex, g, ky, l, q2⟩ => ?_)
  subst ex
  obtain rfl : u = Value.ref a := rx
  obtain ⟨b, rfl⟩ := ky.ref
  obtain rfl : iv = Value.ref b := ry
  exact ⟨(nd_type I2 g).1, nd_getItem hu I2 g ky l fun w' s3 I3 rw' => ⟨v, H2, I3, rw', q2⟩⟩
theorem pc_nin (hu : X.A.units + 9 < cLine) (hi : PE X i ty) (ho : PE X o td) : PC X .In i o (tNIn X.prog X.w X.K false ty td) := by
  refine ⟨fun pins s σ H Q I h => ?_⟩
  refine thn (hi.run pins s σ H _ I h) fun iv s1 ⟨y, H1, I1, ry, q1⟩ => thn (ho.run pins s1 σ H1 _ I1 q1) fun u s2 ⟨x, H2, I2, rx, a, kvs, k, ex, g, ky, q2⟩ => ?_
  subst ex
  obtain rfl : u = Value.ref a := rx
  obtain ⟨b, rfl⟩ := ky.ref
  obtain rfl : iv = Value.ref b := ry
  exact nd_in hu I2 g ky fun s3 I3 => ⟨.bl (valV kvs k).isSome, H2, I3, rfl, q2⟩
theorem pc_nnotin (hu : X.A.units + 9 < cLine) (hi : PE X i ty) (ho : PE X o td) : PC X .NotIn i o (tNIn X.prog X.w X.K true ty td) := by
  refine ⟨fun pins s σ H Q I h => ?_⟩
  refine thn (hi.run pins s σ H _ I h) fun iv s1 ⟨y, H1, I1, ry, q1⟩ => thn (ho.run pins s1 σ H1 _ I1 q1) fun u s2 ⟨x, H2, I2, rx, a, kvs, k, ex, g, ky, q2⟩ => ?_
  subst ex
  obtain rfl : u = Value.ref a := rx
  obtain ⟨b, rfl⟩ := ky.ref
  obtain rfl : iv = Value.ref b := ry
  exact nd_notIn hu I2 g ky fun s3 I3 => ⟨.bl (!(valV kvs k).isSome), H2, I3, rfl, q2⟩
theorem ps_nput (hu : X.A.units + 9 < cLine) (ho : PE X o td) (hi : PE X i ty) (hv : PE X value tv) (hs : swapsWith value (some (.Subscript o i pos')) pos.line X.env = pure false) :
    PS X (.Assign [.Subscript o i pos'] value pos) (sNPut X.prog X.w X.K td ty tv) := by
  refine ⟨fun pins s σ H D I h => ?_⟩
  refine wpAny_Assign_Subscript (thn (hv.run pins s σ H _ I h) fun r s1 ⟨v, H1, I1, rv, q1⟩ => thn (ho.run pins s1 σ H1 _ I1 q1) fun u s2 ⟨x, H2, I2, rx, q2⟩ => thn (hi.run pins s2 σ H2 _ I2 q2) fun iv s3 ⟨y, H3, I3, ry, a, kvs, k, ex, g, ky, hl, q3⟩ => ?_) hs
  subst ex
  obtain rfl : u = Value.ref a := rx
  obtain ⟨b, rfl⟩ := ky.ref
  obtain rfl : iv = Value.ref b := ry
  exact nd_setItem hu I3 g ky hl rv fun o s4 g4 I4 => ⟨σ, _, I4, q3 o g4⟩
theorem ps_ndel (hu : X.A.units + 9 < cLine) (ho : PE X o td) (hi : PE X i ty) : PS X (.Delete [.Subscript o i tpos] pos) (sNDel X.prog X.w X.K td ty) := by
  refine ⟨fun pins s σ H D I h => ?_⟩
  refine wpAny_Delete (wpAny_deleteEach_cons (wpAny_delete_Subscript (thn (ho.run pins s σ H _ I h) fun u s1 ⟨x, H1, I1, rx, q1⟩ => thn (hi.run pins s1 σ H1 _ I1 q1) fun iv s2 ⟨y, H2, I2, ry, a, kvs, k, ex, g, ky, l, q2⟩ => ?_)))
  subst ex
  obtain rfl : u = Value.ref a := rx
  obtain ⟨b, rfl⟩ := ky.ref
  obtain rfl : iv = Value.ref b := ry
  exact nd_delItem hu I2 g ky l fun o s3 g3 I3 => wpAny_deleteEach_nil ⟨σ, _, I3, q2 o g3⟩
theorem pe_nget1 (hu : X.A.units + 9 < cLine) (ho : PE X o td) (he : PE X e ty) (m : M1 X o "get" apos e cpos) : PE X (.Call (.Attribute o "get" apos) [e] [] cpos) (tNGet1 X.prog X.w X.K td ty) := by
  refine ⟨fun pins s σ H Q I h => ?_⟩
  refine wpAny_Call_method m.base m.few m.line PySem.F.plainAttrs_dict PySem.F.slot_dict_get PySem.F.type_dict_get (thn (ho.run pins s σ H _ I h) fun u s1 ⟨x, H1, I1, rx, a, kvs0, ex, d, q1⟩ => ?_)
  subst ex
  obtain rfl : u = Value.ref a := rx
  obtain ⟨t1, t2⟩ := nd_type I1 d
  refine ⟨t1, t2, ?_⟩
  rw [m.trees]
  refine Calls.callWith_builtin rfl (Calls.evalArgs_plain (Calls.spliced_cons (thn (he.run pins s1 σ H1 _ I1 q1) fun iv s2 ⟨y, H2, I2, ry, kvs, k, g, ky, q2⟩ => Calls.spliced_nil ?_)))
  obtain ⟨b, rfl⟩ := ky.ref
  obtain rfl : iv = Value.ref b := ry
  exact nd_get1 hu I2 g ky fun w' s3 I3 rw' => ⟨_, H2, I3, rw', q2⟩
theorem pe_nget2 (hu : X.A.units + 9 < cLine) (ho : PE X o td) (he : PE X e ty) (hf : PE X f tz) (m : M2 X o "get" apos e f cpos) : PE X (.Call (.Attribute o "get" apos) [e, f] [] cpos) (tNGet2 X.prog X.w X.K td ty tz) := by
  refine ⟨fun pins s σ H Q I h => ?_⟩
  refine wpAny_Call_method m.base m.few m.line PySem.F.plainAttrs_dict PySem.F.slot_dict_get PySem.F.type_dict_get (thn (ho.run pins s σ H _ I h) fun u s1 ⟨x, H1, I1, rx, a, kvs0, ex, d, q1⟩ => ?_)
  subst ex
  obtain rfl : u = Value.ref a := rx
  obtain ⟨t1, t2⟩ := nd_type I1 d
  refine ⟨t1, t2, ?_⟩
  rw [m.trees]
  refine Calls.callWith_builtin rfl (Calls.evalArgs_plain (Calls.spliced_cons (thn (he.run pins s1 σ H1 _ I1 q1) fun iv s2 ⟨y, H2, I2, ry, q2⟩ =>
    Calls.spliced_cons (thn (hf.run pins s2 σ H2 _ I2 q2) fun fv s3 ⟨z, H3, I3, rz, kvs, k, g, ky, q3⟩ => Calls.spliced_nil ?_))))
  obtain ⟨b, rfl⟩ := ky.ref
  obtain rfl : iv = Value.ref b := ry
  exact nd_get2 hu I3 g ky rz fun w' s4 I4 rw' => ⟨_, H3, I4, rw', q3⟩
end
theorem nu_of {A : Around} {k : Nat} (hr : Room k A) : A.units + 9 < cLine := Nat.lt_of_le_of_lt (Nat.add_le_add_left (by decide : 9 ≤ 64) _) hr.units
end ND

set_option Elab.async false
set_option linter.all false
set_option maxRecDepth 100000
set_option maxHeartbeats 4000000
/-! sum(t), t a tuple of ints -/
namespace SumT
open PySem PySem.W PySem.Calls PyProof.Rows PyProof.V PySem.Spec L2
section
variable {X : Cx}
def rSumT (K : PySem.W.Frag) : List V → Hp → VK → Prop := fun vs H Q => ∃ (a : Addr) (ns : List Int), vs = [V.ref a] ∧ SqT K H a (ns.map V.int) ∧ Q (.int ns.sum) H
theorem cr_sumT (hc : X.calm = true) : CallR X (.builtin "sum") (rSumT X.K) := by
  intro pins s σ H vs us Q I r h
  obtain ⟨a, ns, rfl, hs, q⟩ := h
  obtain ⟨its, rv, pl, hz⟩ := I.tuple hs
  rw [Vals.ref1 r]
  obtain ⟨xs, e⟩ := rv.ints.allInts.items
  have hn : numsOf (intItems xs).toList = ns := by rw [← e]; exact rv.ints.numsOf
  rw [nums_intItems] at hn
  rw [e] at pl
  refine ktm_sumG (I.ok.hd hc) pl fun h' tk t' hk => ⟨.int _, H, I.kept hk, ⟨_, by rw [preSum_eq, List.take_of_length_le (by simp), hn]⟩, q⟩
end
end SumT

set_option Elab.async false
set_option linter.all false
set_option maxRecDepth 100000
set_option maxHeartbeats 4000000
/-! Rules whose readings name K, for the inside of comprehensions. -/
namespace Nst
open PySem PySem.Spec PyProof.Rows L2
def rLen (K : PySem.W.Frag) : List V → Hp → VK → Prop := fun xs H Q => ∃ p ys, xs = [V.ref p] ∧ (SqL K H p ys ∨ SqT K H p ys) ∧ Q (.int ys.length) H
theorem len_seq {X : Cx} (K : PySem.W.Frag) (h : X.K = K) : CallR X (.builtin "len") (rLen K) := by
  subst h
  exact call_len_seq
def rTupOf (K : PySem.W.Frag) : List V → Hp → VK → Prop := fun xs H Q => ∃ p ys, xs = [.ref p] ∧ ((SqL K H p ys ∧ ∀ l, H l = none → Q (.ref l) (upd H l (.tup ys))) ∨ (SqT K H p ys ∧ Q (.ref p) H))
theorem tuple_of {X : Cx} (K : PySem.W.Frag) (h : X.K = K) : CallR X (.type "tuple") (rTupOf K) := by
  subst h
  exact call_tuple_of
theorem at_item {xs : List V} {i : Int} (h0 : 0 ≤ i) (h1 : i < (xs.length : Int)) : ∃ y, xs[i.toNat]? = some y ∧ atI xs i = some y := by
  obtain ⟨j, rfl⟩ := Int.eq_ofNat_of_zero_le h0
  have h2 : j < xs.length := by omega
  exact ⟨xs[j], by rw [Int.toNat_natCast]; exact List.getElem?_eq_getElem h2, atI_nat (List.getElem?_eq_getElem h2)⟩
/-- tuple + tuple, whatever they hold -/
theorem cat_sq {K : PySem.W.Frag} {H : Hp} {a b : Addr} {xs ys : List V} {Q : VK} (ha : SqT K H a xs) (hb : SqT K H b ys) (hl : xs.length + ys.length ≤ 100000) (h : ∀ (r : Addr) (H' : Hp), Same H H' → SqT K H' r (xs ++ ys) → Q (.ref r) H') : rCatA K (.ref a) (.ref b) H Q := by
  refine ⟨a, b, xs, ys, rfl, rfl, ha, hb, Cm.small hl, fun e => ?_, fun _ e => ?_, fun _ _ p np => ?_⟩
  · subst e
    exact h b H (Same.refl H) hb
  · subst e
    exact h a H (Same.refl H) (by rw [List.append_nil]; exact ha)
  · exact h p _ (Cm.same_new np) Cm.sqt_new
theorem shaped_of {d : PyData} (h1 : d.canLay0 = true) (h2 : d.depth ≤ 64) : SeqAt.shaped d = true := by
  show (d.canLay0 && decide (d.depth ≤ 64)) = true
  rw [Bool.and_eq_true]
  exact ⟨h1, decide_eq_true h2⟩
theorem eqv_self {d : PyData} (h : SeqAt.shaped d = true) : PyData.eqv d d = true := SeqAt.eqv_refl _ (SeqAt.canLay_of_shaped h)
/-- a tuple of a text and two numbers -/
theorem shaped_w2 {x : Str} (h : PyData.strOk x = true) (i j : Int) : SeqAt.shaped (.tuple [.str x, .int i, .int j]) = true :=
  shaped_of (by simp [PyData.canLay0, PyData.canLayAll0, h]) (by simp [PyData.depth, PyData.depthAll])
end Nst

set_option Elab.async false
set_option linter.all false
set_option maxRecDepth 100000
set_option maxHeartbeats 4000000
/-! Calls of methods that may raise: within a try (pe_methT), and where it is known that nothing is raised (passF). -/
namespace MethT
open PySem PySem.Spec PyProof.Rows L2
theorem passF {X : Cx} : Passes (L2.CX X.prog X.w) X E0 := fun _ _ _ _ _ _ _ h => by
  obtain ⟨_, _, _, _, _, _, _, _, _, _, _, _, e⟩ := h
  exact e.elim
section
variable {X : Cx} {CX : CXT} {k : Nat} {f C : Addr} {fd : FuncData} {ps : List Str} {sp : Sp} {E : L2.St → XK} {x m : Str} {p pos apos : Pos} {e o : Expr} {es : List Expr} {ta : TE} {t : TA}
def tMethT (C : Addr) (m : Str) (sp : Sp) (E : L2.St → XK) (ta : TE) (t : TA) : TE := fun σ H Q => ta σ H fun x H1 => ∃ a dx fs, x = .ref a ∧ H1 a = some (.ins C dx fs) ∧ fs.lookup m = none ∧ t σ H1 fun vs H2 => sp (x :: vs) H2 Q (E σ)
theorem pe_methT {pl : Sem Bool} (he : PE X o ta) (c : Cls X.K C) (hm : Meth X.K C m f) (F : FnOk X.prog X.w X.K X.mg X.base CX k f fd ps sp) (hr : Room k X.A) (hb : Binds X.K fd ps []) (hx : ∀ σ, PassesAt CX X σ (E σ)) (ha : PA X (e :: es) t)
    (hst : starEach (e :: es) X.env = (false, eval e X.env) :: starEach es X.env := by rfl) (hpl : (backTo pos (starEach es X.env)).any (·.1) = false := by rfl)
    (ht : eval (.Call (.Attribute o m apos) (e :: es) [] pos) X.env = (do
      let ov ← eval o X.env
      standAt apos.atName
      let (f, first) ← holding [ov] (getMethod ov m pl)
      callWith pos f first (backTo pos (starEach (e :: es) X.env)) (backToKw pos (keywordEach [] X.env))) := by rfl) :
    PE X (.Call (.Attribute o m apos) (e :: es) [] pos) (tMethT C m sp E ta t) := by
  refine ⟨fun pins s σ H Q I h => ?_⟩
  refine PySem.W.methodCall_KW (pl := pl) (thn (he.run pins s σ H _ I h) fun u s1 ⟨x, H1, I1, rx, a, dx, fs, ex, ea, l, q⟩ => ?_) ht
  subst ex
  obtain rfl : u = Value.ref a := rx
  refine getmeth_ok I1 ea c hm l ?_
  refine PySem.W.callWith_K (first := [.ref a]) (h₀ := X.base) I.ok.mod.kin hm.kp (thn (ha.run pos pins s1 σ H1 _ I1 q) fun us s2 ⟨vs, H2, I2, r, q2⟩ => ⟨I2.kIn, ?_⟩) hst hpl
  exact run_fnS (us := .ref a :: us) (vs := .ref a :: vs) F hr hb (hx σ) I2 (.cons rfl r) q2
theorem pe_methT0 {pl : Sem Bool} (he : PE X o ta) (c : Cls X.K C) (hm : Meth X.K C m f) (F : FnOk X.prog X.w X.K X.mg X.base CX k f fd ps sp) (hr : Room k X.A) (hb : Binds X.K fd ps []) (hx : ∀ σ, PassesAt CX X σ (E σ))
    (ht : eval (.Call (.Attribute o m apos) [] [] pos) X.env = (do
      let ov ← eval o X.env
      standAt apos.atName
      let (f, first) ← holding [ov] (getMethod ov m pl)
      callWith pos f first (backTo pos (starEach [] X.env)) (backToKw pos (keywordEach [] X.env))) := by rfl) :
    PE X (.Call (.Attribute o m apos) [] [] pos) (tMethT C m sp E ta tNil) := by
  refine ⟨fun pins s σ H Q I h => ?_⟩
  refine PySem.W.methodCall_KW (pl := pl) (thn (he.run pins s σ H _ I h) fun u s1 ⟨x, H1, I1, rx, a, dx, fs, ex, ea, l, q⟩ => ?_) ht
  subst ex
  obtain rfl : u = Value.ref a := rx
  refine getmeth_ok I1 ea c hm l ?_
  exact PySem.W.callWith_K0 (first := [.ref a]) I1.kIn hm.kp (run_fnS (us := [.ref a]) (vs := [.ref a]) F hr hb (hx σ) I1 (.cons rfl .nil) q)
end
end MethT

set_option Elab.async false
set_option linter.all false
set_option maxRecDepth 100000
set_option maxHeartbeats 4000000
/-! sorted(xs), sorted(d): items that are data, nested tuples; what comes out is the merge sort of the data. -/
namespace SortN
open PySem PySem.W PySem.Calls PyProof.Rows PyProof.V PySem.Spec L2 Pt ND

/-- the order of data -/
abbrev dle : PyData → PyData → Bool := dataLe false id
abbrev srt (ds : List PyData) : List PyData := ds.mergeSort dle
section
variable {X : Cx} {pins : List (Addr × Obj)} {σ : L2.St} {H : Hp} {s : Shared}
theorem each_reads (I : Inv X pins σ H s) : ∀ {xs : List V} {ds : List PyData} {us : List Value}, Rps X.K H xs ds → Vals xs us → EachIs (fun v d => ∃ as, Reads s.heap v d as) us ds
  | _, _, _, .nil, .nil => .nil
  | _, _, _, .cons h t, .cons h' t' => .cons (Dp.reads I _ _ _ h.dp h') (each_reads I t t')
theorem each_both {K : PySem.W.Frag} : ∀ {xs : List V} {ds : List PyData} {us : List Value}, Rps K H xs ds → Vals xs us → EachIs (fun v (b : V × PyData) => RelV b.1 v ∧ Rp K H b.1 b.2) us (xs.zip ds)
  | _, _, _, .nil, .nil => .nil
  | _, _, _, .cons h t, .cons h' t' => .cons ⟨h', h⟩ (each_both t t')
theorem each_snd {R : Value → PyData → Prop} : ∀ {xs : List V} {ds : List PyData} {us : List Value}, xs.length = ds.length → EachIs R us ds → EachIs (fun v (b : V × PyData) => R v b.2) us (xs.zip ds)
  | [], [], _, _, .nil => .nil
  | x :: xs, d :: ds, _, hl, .cons h t => .cons h (each_snd (Nat.succ.inj hl) t)
theorem out_of {K : PySem.W.Frag} : ∀ {bs : List (V × PyData)} {out : List Value}, EachIs (fun v (b : V × PyData) => RelV b.1 v ∧ Rp K H b.1 b.2) out bs → Vals (bs.map (·.1)) out ∧ Rps K H (bs.map (·.1)) (bs.map (·.2))
  | _, _, .nil => ⟨.nil, .nil⟩
  | _, _, .cons h t => ⟨.cons h.1 (out_of t).1, .cons h.2 (out_of t).2⟩
theorem zip_snd : ∀ {xs : List V} {ds : List PyData}, xs.length = ds.length → (xs.zip ds).map (·.2) = ds
  | [], [], _ => rfl
  | x :: xs, d :: ds, hl => congrArg (d :: ·) (zip_snd (Nat.succ.inj hl))
/-- what the sort gives -/
theorem sorted_out {K : PySem.W.Frag} {h : Heap} {xs : List V} {ds : List PyData} {us : List Value} (hal : AllAlike ds) (r : Rps K H xs ds) (rv : Vals xs us) (e : EachIs (fun v d => ∃ as, Reads h v d as) us ds) :
    ∃ ys, Vals ys (sortVals (dataKind h ds) false us us) ∧ Rps K H ys (srt ds) ∧ ys.length = xs.length := by
  have hl := r.len
  have e3 := sortVals_each (κ := dataKind h ds) (rev := false) (k := fun b : V × PyData => keyToks b.2) (each_both r rv) (each_snd hl (each_keys hal e))
  obtain ⟨v1, r1⟩ := out_of e3
  refine ⟨_, v1, ?_, ?_⟩
  · have em : ((xs.zip ds).mergeSort (sortLe (dataKind h ds).toKeyOrd false fun b : V × PyData => keyToks b.2)).map (·.2) = srt ds := by
      have q := sort_maps (r := sortLe (dataKind h ds).toKeyOrd false fun b : V × PyData => keyToks b.2) (s := dle) (fun b : V × PyData => b.2) (l := xs.zip ds) (fun a _ b _ => rfl)
      rw [q, zip_snd hl]
    rw [← em]
    exact r1
  · rw [List.length_map, List.length_mergeSort, List.length_zip, hl, Nat.min_self]
end
section
variable {X : Cx}
/-- sorted(xs) of a list -/
def rSortL (K : PySem.W.Frag) : List V → Hp → VK → Prop := fun vs H Q => ∃ (a : Addr) (xs : List V) (ds : List PyData), vs = [.ref a] ∧ SqL K H a xs ∧ Rps K H xs ds ∧ AllAlike ds ∧ Sortable ds ∧ (∀ d ∈ ds, d.depth ≤ 50) ∧
  ∀ (ys : List V) (p : Addr), Rps K H ys (srt ds) → H p = none → Q (.ref p) (upd H p (.lst ys))
theorem call_sortL (hc : X.calm = true) (hu : X.A.units + 64 < cLine) : CallR X (.builtin "sorted") (rSortL X.K) := by
  intro pins s σ H vs us Q I r q
  obtain ⟨a, xs, ds, rfl, hl, hr, hal, hk, hdp, q⟩ := q
  rw [Vals.ref1 r]
  obtain ⟨its, rv, pl, hz⟩ := I.list hl
  have hzi : its.length ≤ sizeLine := by rw [← rv.length]; exact hz
  have I1 : Inv X pins σ H { s with heap := sortingHeap (copyHeap s.heap its) (s.heap.objs.size + 1) its, toks := s.toks } := I.kept fun b o e => sorting_copy_old e
  have ea : EachIs (fun v d => ∃ as, Reads (sortingHeap (copyHeap s.heap its) (s.heap.objs.size + 1) its) v d as) its ds := each_reads I1 hr rv
  refine sorted_vals (κ := dataKind (sortingHeap (copyHeap s.heap its) (s.heap.objs.size + 1) its) ds) pl.isList (SortsAt.data (s := { s with heap := sortingHeap (copyHeap s.heap its) (s.heap.objs.size + 1) its }) ea hal hk fun d hd => ?_) hzi ?_
  · have := hdp d hd
    simp only [Around.in1_units]
    omega
  · obtain ⟨ys, v1, r1, l1⟩ := sorted_out (K := X.K) hal hr rv ea
    obtain ⟨e', he'⟩ := sortedAll_at s.heap its (sortVals (dataKind (sortingHeap (copyHeap s.heap its) (s.heap.objs.size + 1) its) ds) false its its).toArray
    refine ⟨.ref (s.heap.objs.size + 1), upd H (s.heap.objs.size + 1) (.lst ys), I.laid (t' := s.toks) (fun b u e => sortedAll_old e) (Nat.le_succ _) ?_, rfl, q ys _ r1 (I.hok.fresh (Nat.le_succ _))⟩
    exact ⟨by rw [l1]; exact hz, _, e', v1, he'⟩
/-- sorted(t) of a tuple -/
def rSortTup (K : PySem.W.Frag) : List V → Hp → VK → Prop := fun vs H Q => ∃ (a : Addr) (xs : List V) (ds : List PyData), vs = [.ref a] ∧ SqT K H a xs ∧ Rps K H xs ds ∧ AllAlike ds ∧ Sortable ds ∧ (∀ d ∈ ds, d.depth ≤ 50) ∧
  ∀ (ys : List V) (p : Addr), Rps K H ys (srt ds) → H p = none → Q (.ref p) (upd H p (.lst ys))
theorem call_sortTup (hc : X.calm = true) (hu : X.A.units + 64 < cLine) : CallR X (.builtin "sorted") (rSortTup X.K) := by
  intro pins s σ H vs us Q I r q
  obtain ⟨a, xs, ds, rfl, hl, hr, hal, hk, hdp, q⟩ := q
  rw [Vals.ref1 r]
  obtain ⟨its, rv, ⟨o, ho, hcl, n, hd⟩, hz⟩ := I.tuple hl
  have hzi : its.length ≤ sizeLine := by rw [← rv.length]; exact hz
  refine Calls.call_function_entry PyProof.Rows.kind_sorted PyProof.Rows.plain_sorted PyProof.Rows.entry_sorted (PyProof.Rows.args_sorted1 _) ?_
  unfold Builtin.«sorted»
  refine wpAny_bind (m := checkCount "sorted" 1 1 _) (wpAny_pure ?_)
  refine wpAny_bind (wpAny_collect_seq a (.inr rfl) ho hcl hd (fun h' hkp => ?_) (by rw [List.size_toArray]; exact hzi))
  have I1 : Inv X pins σ H { s with heap := h' } := I.kept (t' := s.toks) hkp
  rw [show its.toArray.toList = its from rfl]
  refine wpAny_bind (wpAny_newList ?_ hzi)
  have hoL : (h'.push (seqObj "list" its.toArray 0)).get? h'.objs.size = some (seqObj "list" its.toArray 0) := Heap.get?_push_size _ rfl
  show wpAny _ _ _ _ _ { s with heap := h'.push (seqObj "list" its.toArray 0) }
  have old : ∀ b u, h'.get? b = some u → (sortingHeap (h'.push (seqObj "list" its.toArray 0)) h'.objs.size its).get? b = some u := fun b u q1 =>
    sortingHeap_old (Nat.ne_of_lt (Heap.lt_size q1)) (Heap.get?_push_of_some _ q1)
  have I2 : Inv X pins σ H { s with heap := sortingHeap (h'.push (seqObj "list" its.toArray 0)) h'.objs.size its } := I1.kept (t' := s.toks) old
  have ea := each_reads I2 hr rv
  refine wpAny_bind (wpAny_holding (wpAny_call_entry PyProof.Rows.slot_list_sort ⟨_, hoL, rfl⟩ PyProof.Rows.entry_list_sort
    (list_sort_vals (κ := dataKind (sortingHeap (h'.push (seqObj "list" its.toArray 0)) h'.objs.size its) ds) (s := { s with heap := h'.push (seqObj "list" its.toArray 0) }) hoL
      (SortsAt.data (s := { s with heap := sortingHeap (h'.push (seqObj "list" its.toArray 0)) h'.objs.size its }) ea hal hk fun d hd => ?_) hzi ⟨_, rfl, ?_⟩) (PyProof.Rows.args_list_sort _)))
  · have := hdp d hd
    simp only [Around.in1_units]
    omega
  · obtain ⟨ys, v1, r1, l1⟩ := sorted_out (K := X.K) hal hr rv ea
    obtain ⟨e', he'⟩ := PyProof.Rows.sortedHeap_at (vs := its) (out := (sortVals (dataKind (sortingHeap (h'.push (seqObj "list" its.toArray 0)) h'.objs.size its) ds) false its its).toArray) hoL
    refine wpAny_pure ⟨_, rfl, .ref h'.objs.size, upd H h'.objs.size (.lst ys), I1.laid (t' := s.toks) (fun b u e => ?_) (Nat.le_refl _)
      (show ObjOk X.prog X.w _ _ _ (.lst ys) from ⟨by rw [l1]; exact hz, _, e', v1, he'⟩), rfl, q ys _ r1 (I1.hok.fresh (Nat.le_refl _))⟩
    have hb : b < h'.objs.size := Heap.lt_size e
    rw [PyProof.Rows.sortedHeap_old (Nat.ne_of_lt hb) (by rw [size_push']; exact Nat.lt_succ_of_lt hb)]
    exact Heap.get?_push_of_some _ e
theorem vals_keys {K : PySem.W.Frag} {H : Hp} {w : World} {P : Program} : ∀ {kvs : List (NestedKey × V)} {xs : List (NestedKey × Addr × Value)}, KN K H kvs xs → Rps K H (xs.map fun x => V.ref x.2.1) (kvs.map (·.1.data))
  | _, _, .nil => .nil
  | _, _, .cons h t => .cons h.2.1.1 (vals_keys (w := w) (P := P) t)
theorem vals_refs : ∀ xs : List (NestedKey × Addr × Value), Vals (xs.map fun x => V.ref x.2.1) (xs.map fun x => Value.ref x.2.1)
  | [] => .nil
  | _ :: xs => .cons rfl (vals_refs xs)
/-- sorted(d) of a dict with keys of any depth -/
def rSortD (P : Program) (w : World) (K : PySem.W.Frag) : List V → Hp → VK → Prop := fun vs H Q => ∃ (a : Addr) (kvs : List (NestedKey × V)), vs = [.ref a] ∧ NDct P w K H a kvs ∧ AllAlike (kvs.map (·.1.data)) ∧ Sortable (kvs.map (·.1.data)) ∧
  (∀ d ∈ kvs.map (·.1.data), d.depth ≤ 50) ∧ ∀ (ys : List V) (p : Addr), Rps K H ys (srt (kvs.map (·.1.data))) → H p = none → Q (.ref p) (upd H p (.lst ys))
theorem call_sortD (hc : X.calm = true) (hu : X.A.units + 64 < cLine) : CallR X (.builtin "sorted") (rSortD X.prog X.w X.K) := by
  intro pins s σ H vs us Q I r q
  obtain ⟨a, kvs, rfl, g, hal, hk, hdp, q⟩ := q
  rw [Vals.ref1 r]
  obtain ⟨z, lo, xs, e, rel, dd⟩ := nd_of I g
  obtain ⟨o, es, ep, h1, h2, h3, h4, h5, h6⟩ := dd
  have hl : es.size = kvs.length := by
    have q1 := congrArg List.length h4
    rw [List.length_map, Array.length_toList] at q1
    rw [q1, Paired.length rel]
  refine Calls.call_function_entry PyProof.Rows.kind_sorted PyProof.Rows.plain_sorted PyProof.Rows.entry_sorted (PyProof.Rows.args_sorted1 _) ?_
  unfold Builtin.«sorted»
  refine wpAny_bind (m := checkCount "sorted" 1 1 _) (wpAny_pure ?_)
  refine wpAny_bind (PySem.W.kdu_collect (A := X.A.in1) (KdlSrc.rawDict (d := a) (es := es) (ep := ep) lo) (I.ok.hd hc) ⟨o, h1, h2, h3⟩ (by rw [hl]; exact z) fun h' tk acc hkp hacc => ?_)
  have hav : acc.toList = xs.map fun x => Value.ref x.2.1 := by
    refine List.ext_getElem? fun j => ?_
    by_cases hj : j < es.size
    · have hja : j < acc.size := by rw [hacc.1]; exact hj
      obtain ⟨hi, ev⟩ := hacc.2 j acc[j] (Array.getElem?_eq_getElem hja)
      have ex : es.toList[j]? = (xs.map (entryOfKey (nestedKind X.prog X.w)))[j]? := by rw [h4]
      rw [Array.getElem?_toList, Array.getElem?_eq_getElem hj, List.getElem?_map] at ex
      rw [Array.getElem?_toList, Array.getElem?_eq_getElem hja, List.getElem?_map, ev]
      cases hx : xs[j]? with
      | none =>
        rw [hx] at ex
        cases ex
      | some x =>
        rw [hx] at ex
        have e2 : es[j] = entryOfKey (nestedKind X.prog X.w) x := Option.some.inj ex
        rw [e2]
        rfl
    · have hn : es.size = xs.length := by rw [hl, Paired.length rel]
      rw [List.getElem?_eq_none (by rw [Array.length_toList, hacc.1]; omega), List.getElem?_eq_none (by rw [List.length_map]; omega)]
  have I1 : Inv X pins σ H { s with heap := h', toks := tk } := I.kept hkp
  have hzi : acc.toList.length ≤ sizeLine := by
    rw [Array.length_toList, hacc.1, hl]
    exact z
  refine wpAny_bind (wpAny_newList ?_ hzi)
  have hoL : (h'.push (seqObj "list" acc.toList.toArray 0)).get? h'.objs.size = some (seqObj "list" acc.toList.toArray 0) := Heap.get?_push_size _ rfl
  show wpAny _ _ _ _ _ { s with heap := h'.push (seqObj "list" acc.toList.toArray 0), toks := tk }
  have rk := vals_keys (K := X.K) (w := X.w) (P := X.prog) rel
  have rv : Vals (xs.map fun x => V.ref x.2.1) acc.toList := by
    rw [hav]
    exact vals_refs xs
  have old : ∀ b u, h'.get? b = some u → (sortingHeap (h'.push (seqObj "list" acc.toList.toArray 0)) h'.objs.size acc.toList).get? b = some u := fun b u q1 =>
    sortingHeap_old (Nat.ne_of_lt (Heap.lt_size q1)) (Heap.get?_push_of_some _ q1)
  have I2 : Inv X pins σ H { s with heap := sortingHeap (h'.push (seqObj "list" acc.toList.toArray 0)) h'.objs.size acc.toList, toks := tk } := I1.kept old
  have ea := each_reads I2 rk rv
  refine wpAny_bind (wpAny_holding (wpAny_call_entry PyProof.Rows.slot_list_sort ⟨_, hoL, rfl⟩ PyProof.Rows.entry_list_sort
    (list_sort_vals (κ := dataKind (sortingHeap (h'.push (seqObj "list" acc.toList.toArray 0)) h'.objs.size acc.toList) (kvs.map (·.1.data))) (s := { s with heap := h'.push (seqObj "list" acc.toList.toArray 0), toks := tk }) hoL
      (SortsAt.data (s := { s with heap := sortingHeap (h'.push (seqObj "list" acc.toList.toArray 0)) h'.objs.size acc.toList, toks := tk }) ea hal hk fun d hd => ?_) hzi ⟨_, rfl, ?_⟩) (PyProof.Rows.args_list_sort _)))
  · have := hdp d hd
    simp only [Around.in1_units]
    omega
  · obtain ⟨ys, v1, r1, l1⟩ := sorted_out (K := X.K) hal rk rv ea
    obtain ⟨e', he'⟩ := PyProof.Rows.sortedHeap_at (vs := acc.toList) (out := (sortVals (dataKind (sortingHeap (h'.push (seqObj "list" acc.toList.toArray 0)) h'.objs.size acc.toList) (kvs.map (·.1.data))) false acc.toList acc.toList).toArray) hoL
    refine wpAny_pure ⟨_, rfl, .ref h'.objs.size, upd H h'.objs.size (.lst ys), I1.laid (t' := tk) (fun b u e => ?_) (Nat.le_refl _)
      (show ObjOk X.prog X.w _ _ _ (.lst ys) from ⟨by rw [l1, List.length_map, ← Paired.length rel]; exact z, _, e', v1, he'⟩), rfl, q ys _ r1 (I1.hok.fresh (Nat.le_refl _))⟩
    have hb : b < h'.objs.size := Heap.lt_size e
    rw [PyProof.Rows.sortedHeap_old (Nat.ne_of_lt hb) (by rw [size_push']; exact Nat.lt_succ_of_lt hb)]
    exact Heap.get?_push_of_some _ e
end
end SortN

set_option Elab.async false
set_option linter.all false
set_option maxRecDepth 100000
set_option maxHeartbeats 4000000
/-! walking the keys of a dict with keys of any depth, while it is locked; d[k] of the locked dict. -/
namespace NKey
open PySem PySem.W PySem.Spec PyProof.Rows L2 Pt ND

/-- the locked dict at a -/
def NDctF (P : Program) (w : World) (K : PySem.W.Frag) (H : Hp) (a : Addr) (o : Obj) (kvs : List (NestedKey × V)) : Prop := ∃ xs, H a = some (.frz o (ndO P w xs a)) ∧ KN K H kvs xs
section
variable {X : Cx} {pins : List (Addr × Obj)} {σ : L2.St} {H : Hp} {s : Shared} {a b : Addr} {v : V} {k : NestedKey} {kvs : List (NestedKey × V)} {A : Around} {E : Value → Shared → Prop} {o : Obj}
theorem nf_of (I : Inv X pins σ H s) (g : NDctF X.prog X.w X.K H a o kvs) : ∃ xs es ep, KN X.K H kvs xs ∧ (a == sysModules) = false ∧ s.heap.get? a = some o ∧ o.ExactDict ∧ o.data = .dict es ep ∧ es.toList = xs.map (entryOfKey (nestedKind X.prog X.w)) ∧ s.heap.DictOfH (nestedKind X.prog X.w) a xs := by
  obtain ⟨xs, e, r⟩ := g
  obtain ⟨h0, ⟨hd, hz, o', es, ep, h1, h2, h3, h4, h5⟩, _⟩ := (show ObjOk X.prog X.w H s.heap a (.frz o (ndO X.prog X.w xs a)) from I.hok a _ e)
  rw [h0] at h1
  cases h1
  refine ⟨xs, es, ep, r, hd, h0, h2, h3, h4, o, es, ep, h0, h2, h3, h4, fun x hx => ?_, h5⟩
  have all : ∀ {l : List (NestedKey × V)} {m : List (NestedKey × Addr × Value)}, KN X.K H l m → ∀ x ∈ m, (nestedKind X.prog X.w).is s.heap x.1 x.2.1 := by
    intro l m q
    induction q with
    | nil => intro x hx; exact nomatch hx
    | @cons p q ps qs hq t ih =>
      intro x hx
      rcases List.mem_cons.mp hx with e | hx
      · subst e
        exact key_of I (by rw [← hq.1]; exact hq.2.1)
      · exact ih x hx
  exact all r x hx
theorem nf_getItem {Q : Value → Shared → Prop} (hu : A.units + 9 < cLine) (I : Inv X pins σ H s) (g : NDctF X.prog X.w X.K H a o kvs) (ky : KeyAt X.K H (.ref b) k) (l : valV kvs k = some v) (h : ∀ w' s', Inv X pins σ H s' → RelV v w' → Q w' s') :
    wpAny (model X.prog X.w) A (getItem (.ref a) (.ref b)) Q E s := by
  obtain ⟨xs, _, _, rel, _, _, _, _, _, dd⟩ := nf_of I g
  obtain ⟨w', hw, rw'⟩ := RelO.some_of (v := v) (o := (atKey xs k).map (·.2)) (by rw [← l]; exact rel.val k)
  obtain ⟨p, hp, hp2⟩ := Option.map_eq_some_iff.mp hw
  refine wpAny_getItem_heap (show A.in1.units + 8 < cLine by rw [Around.in1_units]; omega) (key_of I ky) dd hp ?_
  rw [hp2]
  exact h w' _ (I.tok _) rw'
end
section
variable {X : Cx} {o i : Expr} {td ty : TE} {pos : Pos}
/-- d[y] of a locked dict -/
def tNGetF (P : Program) (w : World) (K : PySem.W.Frag) (td ty : TE) : TE := fun σ H Q => td σ H fun x H1 => ty σ H1 fun y H2 => ∃ a ob kvs k v, x = .ref a ∧ NDctF P w K H2 a ob kvs ∧ KeyAt K H2 y k ∧ valV kvs k = some v ∧ Q v H2
theorem pe_ngetF (hu : X.A.units + 9 < cLine) (ho : PE X o td) (hi : PE X i ty) (hs : NoSl i) : PE X (.Subscript o i pos) (tNGetF X.prog X.w X.K td ty) := by
  refine ⟨fun pins s σ H Q I h => ?_⟩
  refine subD_of PySem.F.slot_dict_getitem.lookup hs (thn (ho.run pins s σ H _ I h) fun u s1 ⟨x, H1, I1, rx, q1⟩ => thn (hi.run pins s1 σ H1 _ I1 q1) fun iv s2 ⟨y, H2, I2, ry, a, ob, kvs, k, v, ex, g, ky, l, q2⟩ => ?_)
  subst ex
  obtain rfl : u = Value.ref a := rx
  obtain ⟨b, rfl⟩ := ky.ref
  obtain rfl : iv = Value.ref b := ry
  obtain ⟨_, _, _, _, _, _, _, _, _, dd⟩ := nf_of I2 g
  exact ⟨dd.typeIs, nf_getItem hu I2 g ky l fun w' s3 I3 rw' => ⟨v, H2, I3, rw', q2⟩⟩
end
/-- the keys of the locked dict at d, in their order -/
def Itn (P : Program) (w : World) (K : PySem.W.Frag) (d : Addr) (o : Obj) (kvs : List (NestedKey × V)) : It :=
  ⟨fun i H => NDctF P w K H d o kvs ∧ i < kvs.length, fun i H x H' => H' = H ∧ ∃ (k : NestedKey) (v : V), kvs[i]? = some (k, v) ∧ KeyAt K H x k, fun i H => NDctF P w K H d o kvs ∧ kvs.length ≤ i⟩
theorem kn_get {K : PySem.W.Frag} {H : Hp} : ∀ {kvs : List (NestedKey × V)} {xs : List (NestedKey × Addr × Value)} {i : Nat} {p : NestedKey × V}, KN K H kvs xs → kvs[i]? = some p → ∃ q, xs[i]? = some q ∧ p.1 = q.1 ∧ KeyAt K H (.ref q.2.1) p.1
  | _, _, 0, _, .cons h _, e => by
    cases e
    exact ⟨_, rfl, h.1, h.2.1⟩
  | _, _, i + 1, _, .cons _ t, e => kn_get (i := i) t (by simpa using e)
section
variable {P : Program} {w : World} {K : PySem.W.Frag} {tg : Expr} {d : Addr} {o : Obj} {es : Array DictEntry} {ep : Nat}
theorem turn_nkeys {kvs : List (NestedKey × V)} (it : Addr) (hod : o.data = .dict es ep) : Turn P w K tg (Itn P w K d o kvs) [it] it (fun i h => h.IsKeyIter it d i kvs.length ep) where
  mem := by simp
  obj := fun i h st b hb => by
    have e : b = it := by simpa using hb
    subst e
    obtain ⟨oi, e, c, dd⟩ := st
    exact ⟨oi, e, fun v z => by rw [dd] at z; cases z⟩
  keep := fun i h h' st k => st.at fun oi e => k it (by simp) oi e
  item := by
    intro X hP hw hK hc i pins s σ H E I hf st hg
    subst hP hw hK
    obtain ⟨g, hi⟩ := hg
    obtain ⟨f0, f1, f2, f3, f4, f5⟩ := hf it (by simp)
    obtain ⟨xs, es', ep', rel, hs, hgd, hx, hdt, hes, dd⟩ := nf_of I g
    obtain ⟨rfl, rfl⟩ := dict_ep hod hdt
    have hl : es'.size = kvs.length := by
      have q1 := congrArg List.length hes
      rw [List.length_map, Array.length_toList] at q1
      rw [q1, Paired.length rel]
    obtain ⟨⟨k, v⟩, hkv⟩ : ∃ p, kvs[i]? = some p := ⟨kvs[i], List.getElem?_eq_getElem hi⟩
    obtain ⟨q, hq, e1, ky⟩ := kn_get rel hkv
    have hen : es'[i]? = some (entryOfKey (nestedKind X.prog X.w) q) := by
      have z : es'.toList[i]? = (xs.map (entryOfKey (nestedKind X.prog X.w)))[i]? := by rw [hes]
      rw [Array.getElem?_toList, List.getElem?_map, hq] at z
      exact z
    refine next_key_item st hgd hdt hl hen fun h' st' sb => ?_
    have I1 : Inv X pins σ H { s with heap := h' } := I.turned (t' := s.toks) (fun b ob hb e => (sb.2 b hb).trans e) f0 f1 f3 f4 f5
    obtain ⟨oi, e, c, dd⟩ := id st'
    exact ⟨_, rfl, go_of (s := { s with heap := h' }) e c dd (by decide) ⟨.ref q.2.1, H, I1, rfl, ⟨rfl, k, v, hkv, ky⟩, st', fun b hb => (hf b hb).1⟩⟩
  done := by
    intro X hP hw hK hc i pins s σ H E I hf st hg
    subst hP hw hK
    obtain ⟨g, hi⟩ := hg
    obtain ⟨f0, f1, f2, f3, f4, f5⟩ := hf it (by simp)
    obtain ⟨xs, es', ep', rel, hs, hgd, hx, hdt, hes, dd⟩ := nf_of I g
    obtain ⟨rfl, rfl⟩ := dict_ep hod hdt
    have hl : es'.size = kvs.length := by
      have q1 := congrArg List.length hes
      rw [List.length_map, Array.length_toList] at q1
      rw [q1, Paired.length rel]
    exact next_key_end (I.ok.hd hc) st hgd hdt hl hi fun h' eb => ⟨rfl, I.turned (t' := s.toks) (fun b ob hb e => eb b ob hb e) f0 f1 f3 f4 f5⟩
  self := fun A i s Q E st h => wpAny_pyIter_keyiter st h
end
section
variable {X : Cx} {tg e : Expr} {td : TE}
def iNKeys (P : Program) (w : World) (K : PySem.W.Frag) (td : TE) : TI := fun σ H R => td σ H fun x H1 => ∃ d o kvs, x = .ref d ∧ NDctF P w K H1 d o kvs ∧ R (Itn P w K d o kvs) H1
theorem pi_nkeys (he : PE X e td) : PI X tg e (iNKeys X.prog X.w X.K td) := by
  refine ⟨fun pins s σ H R I h => ?_⟩
  refine thn (he.run pins s σ H _ I h) fun u s1 ⟨x, H1, I1, rx, d, o, kvs, ex, g, q⟩ => ?_
  subst ex
  obtain rfl : u = Value.ref d := rx
  obtain ⟨xs, es, ep, rel, hs, hgd, hx, hdt, hes, dd⟩ := nf_of I1 g
  have hl : es.size = kvs.length := by
    have q1 := congrArg List.length hes
    rw [List.length_map, Array.length_toList] at q1
    rw [q1, Paired.length rel]
  refine iter_keys hs hgd hx hdt (pi_one (tk := s1.toks) I1 _ (turn_nkeys _ hdt) ⟨_, Heap.get?_push_size _ rfl, rfl, ?_⟩ q)
  rw [hl] <;> rfl
end
theorem walk_nkeys {P : Program} {w : World} {K : PySem.W.Frag} {d : Addr} {o : Obj} {kvs : List (NestedKey × V)} : Walk (Itn P w K d o kvs) kvs.length (fun H => NDctF P w K H d o kvs) (fun i H x H' => H' = H ∧ ∃ (k : NestedKey) (v : V), kvs[i]? = some (k, v) ∧ KeyAt K H x k) :=
  ⟨fun _ _ hi q => ⟨q, hi⟩, fun _ q => ⟨q, Nat.le_refl _⟩, fun _ _ _ _ _ _ y => y⟩
end NKey

set_option Elab.async false
set_option linter.all false
set_option maxRecDepth 100000
set_option maxHeartbeats 4000000
/-! {k: v for x in ..}, the keys of any depth: the new dict is one of NDict. -/
namespace NDc
open PySem PySem.W PySem.Spec PyProof.Rows L2 Pt ND

section
variable {X : Cx} {pins : List (Addr × Obj)} {σ : L2.St} {H : Hp} {s : Shared}
/-- a turn's store -/
theorem set_nd {A : Around} {D b : Addr} {kvs : List (NestedKey × V)} {k : NestedKey} {v : V} {r : Value} {E : Value → Shared → Prop} {Q : Unit → Shared → Prop} (room : A.units + 9 < cLine)
    (I : Inv X pins σ H s) (g : NDct X.prog X.w X.K H D kvs) (ky : KeyAt X.K H (.ref b) k) (few : kvs.length < sizeLine) (rv : RelV v r)
    (go : ∀ o s', NDct X.prog X.w X.K (upd H D o) D (putK kvs k v) → Inv X pins σ (upd H D o) s' → Q () s') : wpAny (model X.prog X.w) A (dictSet D (.ref b) r) Q E s := by
  obtain ⟨_, nsys, xs, here, rel, dd⟩ := nd_of I g
  have many : xs.length ≤ sizeLine := by
    rw [← Paired.length rel]
    omega
  refine wpAny_dictSet_heap (hsz := many) (show A.units + 8 < cLine by omega) (key_of I ky) dd fun h1 dd1 only => ?_
  have rel1 := rel.put k ky rv
  have many1 : (storedH xs k b r).length ≤ sizeLine := by
    rw [← Paired.length rel1]
    have := length_putK kvs k v
    omega
  have still : ∃ q, h1.get? D = some q := by
    obtain ⟨q, _, _, hq, _⟩ := dd1
    exact ⟨q, hq⟩
  have mu : Mut (H D) := by
    rw [here]
    exact True.intro
  exact go _ _ ⟨_, upd_same, KN.keep (TK.upd mu) rel1⟩ (d_write I mu only still (nd_ok nsys many1 dd1))
end
section
variable (P : Program) (w : World) (K : PySem.W.Frag)
/-- what is left of a turn: key, value, the dict with both -/
def tTurn (D : Addr) (tk tv : TE) (Nx : Hp → Prop) (σ : L2.St) (G : Hp) : Prop := tk σ G fun y G1 => tv σ G1 fun z G2 => ∃ kvs k, NDct P w K G2 D kvs ∧ KeyAt K G2 y k ∧ kvs.length < sizeLine ∧
  ∀ o, NDct P w K (upd G2 D o) D (putK kvs k z) → Nx (upd G2 D o)
/-- all turns: W is what stands ahead of each -/
def Turns (J : It) (g : TG) (tk tv : TE) (own : List Nat) (σ : L2.St) (D : Addr) (Z : Hp → Prop) (W : Nat → Nat → Hp → Prop) : Prop := ∀ i m G, W i m G →
  (J.stop i G ∧ Z G) ∨ (J.go i G ∧ ∃ Nx : Hp → Prop, (∀ G', Nx G' → ∃ m', m' < m ∧ W (i + 1) m' G') ∧
    ∀ x G', J.yld i G x G' → g x (wipe σ own) G' fun σ2 G2 => wipe σ2 own = wipe σ own ∧ tTurn P w K D tk tv Nx σ2 G2)
def tNDc (wi : TI) (g : TG) (tk tv : TE) (own : List Nat) : TE := fun σ H Q => wi σ H fun J H1 => ∀ D o, H1 D = none → NDct P w K (upd H1 D o) D [] →
  ∃ W : Nat → Nat → Hp → Prop, (∃ m, W 0 m (upd H1 D o)) ∧ Turns P w K J g tk tv own σ D (fun G => Q (.ref D) G) W
end
section
variable {X : Cx} {kx vx tg iter : Expr} {scope : Scope} {own : List (Str × Nat)} {pos : Pos} {wi : TI} {g : TG} {tk tv : TE}
abbrev Blk (X : Cx) (scope : Scope) (f : Cx → Prop) : Prop := ∀ (s : Shared) (H : Hp) (C : Addr) (cl : List (Str × Addr)) (fp : List Addr), f (X.blk s H scope (compEnvC scope cl C X.env) fp)
theorem pe_ndc (hc : X.calm = true) (hN : X.N.Nodup) (hu : X.A.units + 9 < cLine) (hi : PI X tg iter wi) (ok : BlkOk X.N X.env.scope scope own)
    (hg : Blk X scope fun Y => PG Y tg g) (hk : Blk X scope fun Y => PE Y kx tk) (he : Blk X scope fun Y => PE Y vx tv)
    (hs : ∀ x, foldedSetIterable iter X.env x = pure x := by intro _; rfl) :
    PE X (.DictComp kx vx [⟨tg, iter, [], 0⟩] scope pos) (tNDc X.prog X.w X.K wi g tk tv (own.map (·.2))) := by
  refine ⟨fun pins s σ H Q I h => ?_⟩
  rw [arm_eval_DictComp]
  have known : ∀ y ∈ scope.names, y.2 = .free → ∃ c, X.env.cells.lookup y.1 = some c := by
    intro y hy e
    rcases ok.free y hy e with z | z
    · exact I.ok.has _ (.inl z)
    · exact I.ok.has _ (.inr z)
  refine wpAny_comprehension_free (use := none) rfl hs (closure_ok known) ok.kind (fun y hy e => by rw [ok.uniq y hy, e]) ?_
  refine thn (hi.run pins s σ H _ I h) fun xv s1 hx => thn hx fun itv s2 hit => ?_
  obtain ⟨it, fp, tn, J, H2, rfl, I2, T, at2, fr2, q⟩ := hit
  refine wpAny_newObj_type (newEnv_comp ?_)
  -- the new dict
  have fresh := I2.hok.fresh (Nat.le_refl s2.heap.objs.size)
  have okD : ∀ H' : Hp, ObjOk X.prog X.w H' (s2.heap.push { cls := .type "dict", data := .dict #[] }) s2.heap.objs.size (ndO X.prog X.w [] s2.heap.objs.size) := fun H' =>
    nd_ok (beq_eq_false_iff_ne.mpr (Ne.symm (Nat.ne_of_lt I2.big))) (Nat.zero_le _)
      ⟨_, #[], 0, Heap.get?_push_size _ rfl, ⟨rfl, rfl, rfl⟩, rfl, rfl, (fun _ z => nomatch z), List.nodup_nil⟩
  have I3 : Inv X pins σ (upd H2 s2.heap.objs.size (ndO X.prog X.w [] s2.heap.objs.size)) { s2 with heap := s2.heap.push { cls := .type "dict", data := .dict #[] } } :=
    I2.laid (t' := s2.toks) (fun _ _ z => Heap.get?_push_of_some _ z) (Nat.le_refl _) (okD _)
  have gD : NDct X.prog X.w X.K (upd H2 s2.heap.objs.size (ndO X.prog X.w [] s2.heap.objs.size)) s2.heap.objs.size [] := ⟨[], upd_same, .nil⟩
  obtain ⟨W, ⟨m0, w0⟩, turns⟩ := q _ _ fresh gD
  have small : ∀ b ∈ fp, b < s2.heap.objs.size := fun b hb => by
    obtain ⟨o, e, _⟩ := T.obj _ _ at2 b hb
    exact Heap.lt_size e
  have fr3 : ∀ b ∈ fp, FpOk X pins (upd H2 s2.heap.objs.size (ndO X.prog X.w [] s2.heap.objs.size)) b ∧ b < (s2.heap.push { cls := .type "dict", data := .dict #[] }).objs.size := by
    intro b hb
    have lt := small b hb
    obtain ⟨z1, z2⟩ := fr2 b hb
    refine ⟨⟨?_, z2⟩, ?_⟩
    · rw [upd_ne (Nat.ne_of_lt lt)]
      exact z1
    · rw [Heap.size_push]
      exact Nat.lt_succ_of_lt lt
  have at3 : tn 0 (s2.heap.push { cls := .type "dict", data := .dict #[] }) := T.keep _ _ _ at2 fun b _ o e => Heap.get?_push_of_some _ e
  clear okD fresh small
  generalize s2.heap.objs.size = D at *
  generalize upd H2 D (ndO X.prog X.w [] D) = H3 at *
  generalize hs3 : ({ s2 with heap := s2.heap.push { cls := .type "dict", data := .dict #[] } } : Shared) = s3 at *
  have e3 : s2.heap.push { cls := .type "dict", data := .dict #[] } = s3.heap := by rw [← hs3]
  rw [e3] at at3 fr3
  -- the block
  have I4 := block_start I3 ok hN fr3
  have pg := hg s3 H3 s3.heap.objs.size (cellsFrom (s3.heap.objs.size + 1) scope.names (cloFrom X.env.cells scope.names [])) fp
  have pk := hk s3 H3 s3.heap.objs.size (cellsFrom (s3.heap.objs.size + 1) scope.names (cloFrom X.env.cells scope.names [])) fp
  have pv := he s3 H3 s3.heap.objs.size (cellsFrom (s3.heap.objs.size + 1) scope.names (cloFrom X.env.cells scope.names [])) fp
  show codeAny _ _ (.compStart (.DictComp kx vx [⟨tg, iter, [], 0⟩] scope pos) 0 (.ref it) (.ref D) (compEnvC scope (cellsFrom (s3.heap.objs.size + 1) scope.names (cloFrom X.env.cells scope.names [])) s3.heap.objs.size X.env)) _ _
  have none3 : ∀ b ∈ fp, H3 b = none := fun b hb => (fr3 b hb).1.1
  generalize hce : compEnvC scope (cellsFrom (s3.heap.objs.size + 1) scope.names (cloFrom X.env.cells scope.names [])) s3.heap.objs.size X.env = ce at I4 pg pk pv ⊢
  have loc : ce.locals = s3.heap.objs.size := by
    subst hce
    rfl
  generalize hs4 : ({ s3 with heap := pushCells (s3.heap.push { cls := .type "dict", data := .dict #[] }) scope.names } : Shared) = s4 at I4 ⊢
  have at4 : tn 0 s4.heap := T.keep _ _ _ at3 fun b _ o e => by
    rw [← hs4]
    exact pushCells_keeps _ _ _ _ (Heap.get?_push_of_some _ e)
  -- what holds of the places of the walk, within the block
  have places : ∀ {σ' : L2.St} {G : Hp} {s' : Shared}, Inv (X.blk s3 H3 scope ce fp) [] σ' G s' → (∀ b ∈ fp, G b = none) → ∀ b ∈ fp, FpOk (X.blk s3 H3 scope ce fp) [] G b := by
    intro σ' G s' J1 no b hb
    have z := J1.ok.exf b hb
    refine ⟨no b hb, z.1, J1.ok.exfs b hb, .inl hb, fun x c e => z.2 x c e, fun p hp => ?_⟩
    exact absurd (show p ∈ ([] : List (Addr × Obj)) ++ [] from hp) (by simp)
  suffices walk : codeAny (model X.prog X.w) X.A (.compLoop (.DictComp kx vx [⟨tg, iter, [], 0⟩] scope pos) 0 (.ref it) (.ref D) ce)
      (compPost (model X.prog X.w) X.A X.xe none (EP X pins σ Q) (.ref D) s3.heap.objs.size) s4 by
    exact codeAny_compStart_dict walk (T.self X.A 0 _ _ _ at4 walk)
  refine compLoop_anyD (fun n s' => ∃ i G, Inv (X.blk s3 H3 scope ce fp) [] (wipe σ (own.map (·.2))) G s' ∧ tn i s'.heap ∧ (∀ b ∈ fp, G b = none) ∧ W i n G)
    (fun n s5 ahead => ?_) m0 ⟨0, H3, I4, at4, none3, w0⟩
  obtain ⟨i, H5, I5, at5, none5, w5⟩ := ahead
  rcases turns i n H5 w5 with ⟨stop, fin⟩ | ⟨more, Nx, back, turn⟩
  · -- no more keys
    refine thnF (T.done (X.blk s3 H3 scope ce fp) rfl rfl rfl hc i [] s5 _ H5 (fun _ _ => False) I5 (places I5 none5) at5 stop) fun r s6 ⟨er, I6⟩ => ?_
    subst er
    have I7 : Inv X pins σ H5 s6 := by
      refine I3.call' (ch := fp) I6.os I6.base I6.hok I6.bare fun b hb => ?_
      obtain ⟨_, z1, z2, z3, z4, z5⟩ := (fr3 b hb).1
      exact ⟨z3, z1, z4, z5⟩
    have noC : H5 s3.heap.objs.size = none := by
      have z : H5 ce.locals = none := I6.free
      rwa [loc] at z
    obtain ⟨m, names, _⟩ := I6.loc
    have names' : s6.heap.Ns ce.locals m := names
    rw [loc] at names'
    obtain ⟨f0, f1, f2, f3, f4, f5⟩ := I3.fpOk (Nat.le_refl _) noC
    exact ⟨m, names', fun h2 sb => ⟨.ref D, H5, I7.turned (t' := s6.toks) (fun b o hb e => (sb.2 b hb).trans e) noC f1 f3 f4 f5, rfl, fin⟩⟩
  · -- a turn
    refine thnF (T.item (X.blk s3 H3 scope ce fp) rfl rfl rfl hc i [] s5 _ H5 (fun _ _ => False) I5 (places I5 none5) at5 more) fun r s6 ⟨u, er, h6⟩ => ?_
    subst er
    refine thnF h6 fun _ s7 ⟨x, H7, I7, rx, yld, at7, none7⟩ => ?_
    have objs7 := T.obj _ _ at7
    have pinned := I7.pinned (places I7 none7) objs7
    refine thnF (pg.run _ s7 _ H7 x u _ pinned rx (turn x H7 yld)) fun _ s8 ⟨σ8, H8, I8, hw, rest⟩ => ?_
    have no : PTs (X.blk s3 H3 scope ce fp) [] tYes := pts_nil
    refine thnF (no.run _ s8 σ8 H8 (fun b G => b = true ∧ tTurn X.prog X.w X.K D tk tv Nx σ8 G) I8 ⟨rfl, rest⟩) fun b s9 ⟨H9, I9, eb, rest⟩ => ?_
    subst eb
    simp only [if_true]
    refine thnF (pk.run _ s9 σ8 H9 _ I9 rest) fun kv s10 ⟨y, H10, I10, ry, rest⟩ => ?_
    refine thnF (pv.run _ s10 σ8 H10 _ I10 rest) fun vv s11 ⟨z, H11, I11, rz, kvs, k, g11, ky, few, put⟩ => ?_
    obtain ⟨kb, rfl⟩ := ky.ref
    obtain rfl : kv = Value.ref kb := ry
    refine set_nd (X := X.blk s3 H3 scope ce fp) hu I11 g11 ky few rz fun o s12 g12 I12 => ?_
    obtain ⟨m', less, w'⟩ := back _ (put o g12)
    have pins' : ∀ b ∈ fp, ∀ ob, s7.heap.get? b = some ob → s12.heap.get? b = some ob ∧ (upd H11 D o) b = none := fun b hb ob e => by
      have z := I12.pin (b, ob) (List.mem_append_right _ (List.mem_append_right _ (mem_pinsAt hb e)))
      exact ⟨z.1, z.2.1⟩
    have len : (wipe σ (own.map (·.2))).length = σ8.length := by
      rw [← hw, wipe_length]
    refine ⟨m', less, i + 1, _, (I12.unpinned (pins := [])).weak len (fun j v e => ?_), T.keep _ _ _ at7 (fun b hb ob e => (pins' b hb ob e).1), fun b hb => ?_, w'⟩
    · rw [← hw] at e
      exact (wipe_some e).1
    · obtain ⟨ob, e, _⟩ := objs7 b hb
      exact (pins' b hb ob e).2
end
end NDc
namespace NDc
open PySem PySem.W PySem.Spec PyProof.Rows L2 Pt ND
section
variable {P : Program} {w : World} {K : PySem.W.Frag} {J : It} {n : Nat} {G : Hp → Prop} {Y : Nat → Hp → V → Hp → Prop}
/-- such a comprehension over a walk: Pv by the turn and the heap -/
theorem ndc_it (wk : Walk J n G Y) {g : TG} {tk tv : TE} {own : List Nat} {σ : L2.St} {H1 : Hp} {D : Addr} {o : HO} {Z : Hp → Prop} (Pv : Nat → Hp → Prop) (start : Pv 0 (upd H1 D o)) (stays : ∀ i H, i ≤ n → Pv i H → G H)
    (turn : ∀ i x H H', i < n → Pv i H → Y i H x H' → g x (wipe σ own) H' fun σ2 G2 => wipe σ2 own = wipe σ own ∧ tTurn P w K D tk tv (Pv (i + 1)) σ2 G2) (after : ∀ H, Pv n H → Z H) :
    ∃ W : Nat → Nat → Hp → Prop, (∃ m, W 0 m (upd H1 D o)) ∧ Turns P w K J g tk tv own σ D Z W := by
  refine ⟨fun i m H => m + i = n ∧ Pv i H, ⟨n, Nat.add_zero n, start⟩, fun i m H ⟨e, p⟩ => ?_⟩
  have le : i ≤ n := by omega
  have gh := stays i H le p
  rcases Nat.lt_or_ge i n with lt | ge
  · exact .inr ⟨wk.goes i H lt gh, Pv (i + 1), fun G' p' => ⟨n - (i + 1), by omega, by omega, p'⟩, fun x G' y => turn i x H G' lt p (wk.yields i H x G' lt gh y)⟩
  · have ei : i = n := by omega
    rw [ei] at p ⊢
    exact .inl ⟨wk.stops H (stays n H (Nat.le_refl n) p), after H p⟩
end
end NDc

set_option Elab.async false
set_option linter.all false
set_option maxRecDepth 100000
set_option maxHeartbeats 4000000
--%OPEN Cm Pt ND
--%VAR variable {P : Program} {w : World} {K : PySem.W.Frag} {mg : Str → Option Value} {base : Heap} {a : Fds}
namespace K50
open PySem PySem.Spec PyProof.Rows L2 Cm Pt ND
open PySem PySem.Spec PyProof.Rows L2
def topS (i : Nat) : Stmt := PySem.Challenge.pw_portage_k50_finders_copied.main.body.getD i (.Pass ⟨0, 0, 0, 0⟩)
abbrev s_is_on_the_way : Stmt := topS 5
abbrev N_is_on_the_way : List Str := ["body"]
theorem sc_is_on_the_way : FnScope N_is_on_the_way ["body"] (defScope s_is_on_the_way) := ⟨rfl, rfl, rfl, by decide +kernel, rfl, by decide +kernel, by decide +kernel⟩
abbrev s_object_of : Stmt := topS 6
abbrev N_object_of : List Str := ["body"]
theorem sc_object_of : FnScope N_object_of ["body"] (defScope s_object_of) := ⟨rfl, rfl, rfl, by decide +kernel, rfl, by decide +kernel, by decide +kernel⟩
abbrev s_check_way : Stmt := topS 7
abbrev N_check_way : List Str := ["body"]
theorem sc_check_way : FnScope N_check_way ["body"] (defScope s_check_way) := ⟨rfl, rfl, rfl, by decide +kernel, rfl, by decide +kernel, by decide +kernel⟩
abbrev s_home_of : Stmt := topS 9
abbrev N_home_of : List Str := ["name", "places", "process", "k"]
theorem sc_home_of : FnScope N_home_of ["name", "places"] (defScope s_home_of) := ⟨rfl, rfl, rfl, by decide +kernel, rfl, by decide +kernel, by decide +kernel⟩
abbrev s_Finder_init : Stmt := inClass (topS 10) 0
abbrev N_Finder_init : List Str := ["self", "me", "places"]
theorem sc_Finder_init : FnScope N_Finder_init ["self", "me", "places"] (defScope s_Finder_init) := ⟨rfl, rfl, rfl, by decide +kernel, rfl, by decide +kernel, by decide +kernel⟩
abbrev s_Finder_hear : Stmt := inClass (topS 10) 1
abbrev N_Finder_hear : List Str := ["self", "name", "place", "count", "mark"]
theorem sc_Finder_hear : FnScope N_Finder_hear ["self", "name", "place", "count"] (defScope s_Finder_hear) := ⟨rfl, rfl, rfl, by decide +kernel, rfl, by decide +kernel, by decide +kernel⟩
abbrev s_Finder_mark : Stmt := inClass (topS 10) 2
abbrev N_Finder_mark : List Str := ["self", "name"]
theorem sc_Finder_mark : FnScope N_Finder_mark ["self", "name"] (defScope s_Finder_mark) := ⟨rfl, rfl, rfl, by decide +kernel, rfl, by decide +kernel, by decide +kernel⟩
abbrev s_Finder_forget : Stmt := inClass (topS 10) 3
abbrev N_Finder_forget : List Str := ["self", "name"]
theorem sc_Finder_forget : FnScope N_Finder_forget ["self", "name"] (defScope s_Finder_forget) := ⟨rfl, rfl, rfl, by decide +kernel, rfl, by decide +kernel, by decide +kernel⟩
abbrev s_Finder_way : Stmt := inClass (topS 10) 4
abbrev N_Finder_way : List Str := ["self", "name", "count", "here", "mark", "home"]
theorem sc_Finder_way : FnScope N_Finder_way ["self", "name", "count", "here"] (defScope s_Finder_way) := ⟨rfl, rfl, rfl, by decide +kernel, rfl, by decide +kernel, by decide +kernel⟩
abbrev s_Finder_park : Stmt := inClass (topS 10) 5
abbrev N_Finder_park : List Str := ["self", "body"]
theorem sc_Finder_park : FnScope N_Finder_park ["self", "body"] (defScope s_Finder_park) := ⟨rfl, rfl, rfl, by decide +kernel, rfl, by decide +kernel, by decide +kernel⟩
abbrev s_Finder_unpark : Stmt := inClass (topS 10) 6
abbrev N_Finder_unpark : List Str := ["self", "name", "found", "body"]
theorem sc_Finder_unpark : FnScope N_Finder_unpark ["self", "name"] (defScope s_Finder_unpark) := ⟨rfl, rfl, rfl, by decide +kernel, rfl, by decide +kernel, by decide +kernel⟩
abbrev s_Finder_parked : Stmt := inClass (topS 10) 7
abbrev N_Finder_parked : List Str := ["self"]
theorem sc_Finder_parked : FnScope N_Finder_parked ["self"] (defScope s_Finder_parked) := ⟨rfl, rfl, rfl, by decide +kernel, rfl, by decide +kernel, by decide +kernel⟩
abbrev s_Finder_image : Stmt := inClass (topS 10) 8
abbrev N_Finder_image : List Str := ["self", "name"]
theorem sc_Finder_image : FnScope N_Finder_image ["self"] (defScope s_Finder_image) := ⟨rfl, rfl, rfl, by decide +kernel, rfl, by decide +kernel, by decide +kernel⟩
abbrev s_Finder_copy : Stmt := inClass (topS 10) 9
abbrev N_Finder_copy : List Str := ["self", "twin", "name"]
theorem sc_Finder_copy : FnScope N_Finder_copy ["self"] (defScope s_Finder_copy) := ⟨rfl, rfl, rfl, by decide +kernel, rfl, by decide +kernel, by decide +kernel⟩
abbrev s_lw_numbers : Stmt := topS 12
abbrev N_lw_numbers : List Str := ["script", "many", "numbers", "k", "cell", "j", "mixed", "base", "last"]
theorem sc_lw_numbers : FnScope N_lw_numbers ["script", "many"] (defScope s_lw_numbers) := ⟨rfl, rfl, rfl, by decide +kernel, rfl, by decide +kernel, by decide +kernel⟩
abbrev s_lw_go : Stmt := topS 13
abbrev N_lw_go : List Str := ["finder", "numbers", "at", "many", "places", "names", "k", "number", "name", "way"]
theorem sc_lw_go : FnScope N_lw_go ["finder", "numbers", "at", "many", "places"] (defScope s_lw_go) := ⟨rfl, rfl, rfl, by decide +kernel, rfl, by decide +kernel, by decide +kernel⟩
abbrev s_lw_ways : Stmt := topS 14
abbrev N_lw_ways : List Str := ["finder", "names", "rows", "name", "count"]
theorem sc_lw_ways : FnScope N_lw_ways ["finder"] (defScope s_lw_ways) := ⟨rfl, rfl, rfl, by decide +kernel, rfl, by decide +kernel, by decide +kernel⟩
abbrev s_law : Stmt := topS 15
abbrev N_law : List Str := ["script", "numbers", "places", "finder", "image", "name", "place", "count", "ways", "twin", "later", "one"]
theorem sc_law : FnScope N_law ["script"] (defScope s_law) := ⟨rfl, rfl, rfl, by decide +kernel, rfl, by decide +kernel, by decide +kernel⟩
abbrev v_ON_THE_WAY : List He.Dv := [.str "call", .str "return", .str "please"]
/-- the function objects that the top has made -/
structure Fds where
  d_is_on_the_way : FuncData
  d_object_of : FuncData
  d_check_way : FuncData
  d_home_of : FuncData
  d_Finder_init : FuncData
  d_Finder_hear : FuncData
  d_Finder_mark : FuncData
  d_Finder_forget : FuncData
  d_Finder_way : FuncData
  d_Finder_park : FuncData
  d_Finder_unpark : FuncData
  d_Finder_parked : FuncData
  d_Finder_image : FuncData
  d_Finder_copy : FuncData
  d_lw_numbers : FuncData
  d_lw_go : FuncData
  d_lw_ways : FuncData
  d_law : FuncData
/-- what the walks ask of the top -/
structure Txt (K : PySem.W.Frag) (mg : Str → Option Value) (w : World) (a : Fds) : Prop where
  F_is_on_the_way : Cm.FnP K "is_on_the_way" s_is_on_the_way (He.ga K "is_on_the_way") a.d_is_on_the_way
  b_is_on_the_way : Binds K a.d_is_on_the_way ["body"] []
  g_is_on_the_way : mg "is_on_the_way" = some (.ref (He.ga K "is_on_the_way"))
  F_object_of : Cm.FnP K "object_of" s_object_of (He.ga K "object_of") a.d_object_of
  b_object_of : Binds K a.d_object_of ["body"] []
  g_object_of : mg "object_of" = some (.ref (He.ga K "object_of"))
  F_check_way : Cm.FnP K "_check_way" s_check_way (He.ga K "_check_way") a.d_check_way
  b_check_way : Binds K a.d_check_way ["body"] []
  g_check_way : mg "_check_way" = some (.ref (He.ga K "_check_way"))
  F_home_of : Cm.FnP K "home_of" s_home_of (He.ga K "home_of") a.d_home_of
  b_home_of : Binds K a.d_home_of ["name", "places"] []
  g_home_of : mg "home_of" = some (.ref (He.ga K "home_of"))
  F_Finder_init : FunD K "__init__" "Finder.__init__" (defArgs s_Finder_init) (defBody s_Finder_init) (defScope s_Finder_init) [] [] (He.ma K (He.ga K "Finder") "__init__") a.d_Finder_init
  b_Finder_init : Binds K a.d_Finder_init ["self", "me", "places"] []
  k_Finder : Mk K (He.ga K "Finder") (He.ma K (He.ga K "Finder") "__init__")
  F_Finder_hear : FunD K "hear" "Finder.hear" (defArgs s_Finder_hear) (defBody s_Finder_hear) (defScope s_Finder_hear) [] [] (He.ma K (He.ga K "Finder") "hear") a.d_Finder_hear
  b_Finder_hear : Binds K a.d_Finder_hear ["self", "name", "place", "count"] []
  m_Finder_hear : Meth K (He.ga K "Finder") "hear" (He.ma K (He.ga K "Finder") "hear")
  F_Finder_mark : FunD K "mark" "Finder.mark" (defArgs s_Finder_mark) (defBody s_Finder_mark) (defScope s_Finder_mark) [] [] (He.ma K (He.ga K "Finder") "mark") a.d_Finder_mark
  b_Finder_mark : Binds K a.d_Finder_mark ["self", "name"] []
  m_Finder_mark : Meth K (He.ga K "Finder") "mark" (He.ma K (He.ga K "Finder") "mark")
  F_Finder_forget : FunD K "forget" "Finder.forget" (defArgs s_Finder_forget) (defBody s_Finder_forget) (defScope s_Finder_forget) [] [] (He.ma K (He.ga K "Finder") "forget") a.d_Finder_forget
  b_Finder_forget : Binds K a.d_Finder_forget ["self", "name"] []
  m_Finder_forget : Meth K (He.ga K "Finder") "forget" (He.ma K (He.ga K "Finder") "forget")
  F_Finder_way : FunD K "way" "Finder.way" (defArgs s_Finder_way) (defBody s_Finder_way) (defScope s_Finder_way) [] [] (He.ma K (He.ga K "Finder") "way") a.d_Finder_way
  b_Finder_way : Binds K a.d_Finder_way ["self", "name", "count", "here"] []
  m_Finder_way : Meth K (He.ga K "Finder") "way" (He.ma K (He.ga K "Finder") "way")
  F_Finder_park : FunD K "park" "Finder.park" (defArgs s_Finder_park) (defBody s_Finder_park) (defScope s_Finder_park) [] [] (He.ma K (He.ga K "Finder") "park") a.d_Finder_park
  b_Finder_park : Binds K a.d_Finder_park ["self", "body"] []
  m_Finder_park : Meth K (He.ga K "Finder") "park" (He.ma K (He.ga K "Finder") "park")
  F_Finder_unpark : FunD K "unpark" "Finder.unpark" (defArgs s_Finder_unpark) (defBody s_Finder_unpark) (defScope s_Finder_unpark) [] [] (He.ma K (He.ga K "Finder") "unpark") a.d_Finder_unpark
  b_Finder_unpark : Binds K a.d_Finder_unpark ["self", "name"] []
  m_Finder_unpark : Meth K (He.ga K "Finder") "unpark" (He.ma K (He.ga K "Finder") "unpark")
  F_Finder_parked : FunD K "parked" "Finder.parked" (defArgs s_Finder_parked) (defBody s_Finder_parked) (defScope s_Finder_parked) [] [] (He.ma K (He.ga K "Finder") "parked") a.d_Finder_parked
  b_Finder_parked : Binds K a.d_Finder_parked ["self"] []
  m_Finder_parked : Meth K (He.ga K "Finder") "parked" (He.ma K (He.ga K "Finder") "parked")
  F_Finder_image : FunD K "image" "Finder.image" (defArgs s_Finder_image) (defBody s_Finder_image) (defScope s_Finder_image) [] [] (He.ma K (He.ga K "Finder") "image") a.d_Finder_image
  b_Finder_image : Binds K a.d_Finder_image ["self"] []
  m_Finder_image : Meth K (He.ga K "Finder") "image" (He.ma K (He.ga K "Finder") "image")
  F_Finder_copy : FunD K "copy" "Finder.copy" (defArgs s_Finder_copy) (defBody s_Finder_copy) (defScope s_Finder_copy) [] [] (He.ma K (He.ga K "Finder") "copy") a.d_Finder_copy
  b_Finder_copy : Binds K a.d_Finder_copy ["self"] []
  m_Finder_copy : Meth K (He.ga K "Finder") "copy" (He.ma K (He.ga K "Finder") "copy")
  F_lw_numbers : Cm.FnP K "_law_numbers" s_lw_numbers (He.ga K "_law_numbers") a.d_lw_numbers
  b_lw_numbers : Binds K a.d_lw_numbers ["script", "many"] []
  g_lw_numbers : mg "_law_numbers" = some (.ref (He.ga K "_law_numbers"))
  F_lw_go : Cm.FnP K "_law_go" s_lw_go (He.ga K "_law_go") a.d_lw_go
  b_lw_go : Binds K a.d_lw_go ["finder", "numbers", "at", "many", "places"] []
  g_lw_go : mg "_law_go" = some (.ref (He.ga K "_law_go"))
  F_lw_ways : Cm.FnP K "_law_ways" s_lw_ways (He.ga K "_law_ways") a.d_lw_ways
  b_lw_ways : Binds K a.d_lw_ways ["finder"] []
  g_lw_ways : mg "_law_ways" = some (.ref (He.ga K "_law_ways"))
  F_law : Cm.FnP K "law" s_law (He.ga K "law") a.d_law
  b_law : Binds K a.d_law ["script"] []
  g_law : mg "law" = some (.ref (He.ga K "law"))
  g_ON_THE_WAY : mg "ON_THE_WAY" = some (.ref (He.ga K "ON_THE_WAY"))
  k_ON_THE_WAY : ∀ H, SqT K H (He.ga K "ON_THE_WAY") (v_ON_THE_WAY.map (He.Dv.v K))
  g_PortError : mg "PortError" = some (.ref (He.ga K "PortError"))
  g_NotAllowed : mg "NotAllowed" = some (.ref (He.ga K "NotAllowed"))
  g_Finder : mg "Finder" = some (.ref (He.ga K "Finder"))
  c_Finder : Cls K (He.ga K "Finder")
  n_Finder__me : NoAttr K (He.ga K "Finder") "_me"
  n_Finder__places : NoAttr K (He.ga K "Finder") "_places"
  n_Finder__marks : NoAttr K (He.ga K "Finder") "_marks"
  n_Finder__waiting : NoAttr K (He.ga K "Finder") "_waiting"
  g_sum : mg "sum" = none
  g_len : mg "len" = none
  g_tuple : mg "tuple" = none
  g_sorted : mg "sorted" = none
  g_list : mg "list" = none
  g_range : mg "range" = none
  g_abs : mg "abs" = none
  g_max : mg "max" = none
  g_int : mg "int" = none
  x_NotAllowed : PySem.W.excIn K (He.ga K "NotAllowed") [.type "ValueError", .type "Exception", .type "BaseException", .type "object"] "ValueError.__new__" = true
  k_NotAllowed : PySem.W.keepIn K (.ref (He.ga K "NotAllowed")) = true
  s_NotAllowed : PySem.W.subIn K (.ref (He.ga K "NotAllowed")) (.type "BaseException") = some true
  t_NotAllowed : PySem.W.typeIn K (.ref (He.ga K "NotAllowed")) = some (.type "type")
variable {P : Program} {w : World} {K : PySem.W.Frag} {mg : Str → Option Value} {base : Heap} {a : Fds}
/-! ### the numbers of a script (the family with % 10007) -/
abbrev NumOk (ns : List Int) : Prop := ∀ n ∈ ns, 0 ≤ n ∧ n < 2147483647
def spNum2 (K : PySem.W.Frag) : Sp := fun vs H Q _ => ∃ (l : Addr) (ns : List Int) (many : Nat), vs = [.ref l, .int many] ∧ SqL K H l (ns.map V.int) ∧ ns.length ≤ 63 ∧ many ≤ 1000 ∧
  ∀ (H' : Hp) (p : Addr) (ms : List Int), Same H H' → H p = none → H' p = some (.lst (ms.map V.int)) → ms.length = many → NumOk ms → Q (.ref p) H'
theorem num_snoc {ns : List Int} {n : Int} (h : NumOk ns) (h0 : 0 ≤ n) (h1 : n < 2147483647) : NumOk (ns ++ [n]) := fun m hm => by
  rcases List.mem_append.mp hm with hm | hm
  · exact h m hm
  · rw [List.mem_singleton.mp hm]
    exact ⟨h0, h1⟩
theorem map_snoc {ns : List Int} {n : Int} : ns.map V.int ++ [V.int n] = (ns ++ [n]).map V.int := by
  rw [List.map_append]
  rfl
theorem len_map {ns : List Int} : (ns.map V.int).length = ns.length := List.length_map ..
theorem pMod : (0 : Int) < 10007 := by decide
theorem pMersenne : (0 : Int) < 2147483647 := by decide
theorem mersenne (z : Int) : 0 ≤ z % 2147483647 ∧ z % 2147483647 < 2147483647 := by omega
theorem cut_all {xs : List V} {n : Nat} (h : xs.length = n) : cutV xs none (some (n : Int)) = xs := by
  unfold cutV
  rw [HT.sIx_nat, show HT.sIx xs.length 0 none = 0 from rfl]
  rw [← h, Nat.min_self]
  simp
theorem ok_lw_numbers (T : Txt K mg w a) : FnOk P w K mg base CX0 1 (He.ga K "_law_numbers") a.d_lw_numbers ["script", "many"] (spNum2 K) := by
  refine T.F_lw_numbers.ok sc_lw_numbers (fun vs H Q E h => ?_) (fun cdv A outer s H vs Q E hr h => ?_)
  · obtain ⟨l, ns, many, rfl, _⟩ := h
    rfl
  · obtain ⟨l, sc, many, rfl, hl, hsc, hm, q⟩ := h
    refine ⟨_, PSs.nox (pss_cons (ps_set (i := 2) sc_lw_numbers.nd rfl (Or.inl rfl) (pe_lst pa_nil))
      (pss_cons (ps_for PassesOwn.never rfl (pi_range1 (by rfl) T.g_range (pa_cons (pe_callB call_len_seq (by rfl) T.g_len boot_len (pa_cons (pv 0) pa_nil)) pa_nil)) (pg_name (i := 3) sc_lw_numbers.nd rfl (Or.inl rfl))
      (pss_cons (ps_set (i := 4) sc_lw_numbers.nd rfl (Or.inl rfl) (pe_callB call_abs (by rfl) T.g_abs boot_abs (pa_cons (pe_callTy call_int1 (by rfl) T.g_int boot_int (pa_cons (pe_ix ix_list (pv 0) (pv 3) (fun _ _ => rfl)) pa_nil)) pa_nil)))
      (pss_one (ps_if (pt_cmpR op_ge (pv 4) (pe_op op_pow pe_int pe_int) (nomark _)) (pss_one (ps_for PassesOwn.never rfl (pi_range1 (by rfl) T.g_range (pa_cons pe_int pa_nil)) (pg_name (i := 5) sc_lw_numbers.nd rfl (Or.inl rfl))
      (pss_one (ps_if (PW.pt (pw_and (pt_cmpR op_gt (pv 4) pe_int (nomark _)) (pw_and1 (pt_cmpR op_lt (pe_callB call_len_seq (by rfl) T.g_len boot_len (pa_cons (pv 2) pa_nil)) (pv 1) (nomark _))))) (pss_cons (ps_expr (pe_bm PySem.F.plainAttrs_list PySem.F.slot_list_append PySem.F.type_list_append mt_append (pv 2) (pa_cons (pe_op op_mod (pv 4) pe_int) pa_nil)))
      (pss_one (ps_set (i := 4) sc_lw_numbers.nd rfl (Or.inl rfl) (pe_op op_fdiv (pv 4) pe_int)))) pss_nil)))) (pss_one (ps_if (pt_cmpR op_lt (pe_callB call_len_seq (by rfl) T.g_len boot_len (pa_cons (pv 2) pa_nil)) (pv 1) (nomark _)) (pss_cons (ps_set (i := 6) sc_lw_numbers.nd rfl (Or.inl rfl) (pe_op op_mod (pe_callTy call_int1 (by rfl) T.g_int boot_int (pa_cons (pe_op op_add (pe_op op_add (pe_op op_mul (pv 4) pe_int) (pe_op op_mul (pv 3) pe_int)) pe_int) pa_nil)) pe_int))
      (pss_one (ps_expr (pe_bm PySem.F.plainAttrs_list PySem.F.slot_list_append PySem.F.type_list_append mt_append (pv 2) (pa_cons (pe_op op_fdiv (pe_op op_mod (pe_callTy call_int1 (by rfl) T.g_int boot_int (pa_cons (pe_op op_add (pe_op op_add (pe_op op_mul (pv 6) pe_int) (pe_op op_mul pe_int (pv 3))) pe_int) pa_nil)) pe_int) pe_int) pa_nil))))) pss_nil))))))
      (pss_cons (ps_set (i := 7) sc_lw_numbers.nd rfl (Or.inl rfl) (pe_callB call_len_seq (by rfl) T.g_len boot_len (pa_cons (pv 2) pa_nil)))
      (pss_cons (ps_set (i := 8) sc_lw_numbers.nd rfl (Or.inl rfl) (pe_op op_add pe_int (pe_callB call_len_seq (by rfl) T.g_len boot_len (pa_cons (pv 0) pa_nil))))
      (pss_cons (ps_for PassesOwn.never rfl (pi_range1 (by rfl) T.g_range (pa_cons (pe_callB (call_max2 rfl) (by rfl) T.g_max boot_max (pa_cons pe_int (pa_cons (pe_op op_sub (pv 1) (pv 7)) pa_nil))) pa_nil)) (pg_name (i := 3) sc_lw_numbers.nd rfl (Or.inl rfl))
      (pss_cons (ps_if (pt_cmpR op_gt (pv 7) pe_int (nomark _)) (pss_one (ps_set (i := 8) sc_lw_numbers.nd rfl (Or.inl rfl) (pe_op op_add (pv 8) (pe_ix ix_list (pv 2) (pe_op op_mod (pv 3) (pv 7)) (fun _ _ => rfl))))) pss_nil)
      (pss_cons (ps_set (i := 8) sc_lw_numbers.nd rfl (Or.inl rfl) (pe_op op_mod (pe_callTy call_int1 (by rfl) T.g_int boot_int (pa_cons (pe_op op_add (pe_op op_mul (pv 8) pe_int) (pv 3)) pa_nil)) pe_int))
      (pss_one (ps_expr (pe_bm PySem.F.plainAttrs_list PySem.F.slot_list_append PySem.F.type_list_append mt_append (pv 2) (pa_cons (pe_op op_fdiv (pv 8) pe_int) pa_nil)))))))
      (pss_one (ps_ret (pe_slice sl_list (pv 2) po_none (po_some (pv 1)))))))))), ?_⟩
    -- numbers = []
    refine ⟨Nat.zero_le _, fun p np => ?_⟩
    have s0 : Same H (upd H p (.lst [])) := Cm.same_new np
    -- for k in range(len(script))
    refine ⟨_, rfl, l, _, rfl, .inl (s0.seq hl), ((sc.map V.int).length : Int), rfl, by omega, by rw [len_map]; omega, ?_⟩
    rw [Int.toNat_natCast]
    refine for_range (fun i σ H2 => ∃ (ms : List Int) (x3 x4 x5 x6 : Option V), σ = [some (.ref l), some (.int many), some (.ref p), x3, x4, x5, x6, none, none] ∧ Same H H2 ∧ H2 p = some (.lst (ms.map V.int)) ∧ ms.length ≤ many ∧ NumOk ms)
      ⟨[], none, none, none, none, rfl, s0, upd_same, Nat.zero_le _, fun n h => nomatch h⟩ (fun i σ H2 hi ⟨ms, x3, x4, x5, x6, e, s2, hp, hn, ha⟩ => ?_) fun σ H2 ⟨ms, x3, x4, x5, x6, e, s2, hp, hn, ha⟩ => ?_
    · subst e
      rw [len_map] at hi
      obtain ⟨c, _, ec⟩ := Cm.at_int (ns := sc) (i := (0 + (i : Int))) (by omega) (by omega)
      refine ⟨_, rfl, _, rfl, l, _, _, _, rfl, rfl, s2.seq hl, ec, .inl ⟨_, rfl, _, rfl, ?_⟩⟩
      generalize (if c < 0 then -c else c) = c0
      refine ⟨_, rfl, _, _, rfl, rfl, ⟨by decide, by decide, by decide⟩, _, _, rfl, rfl, _, rfl, Cm.itD (fun _ => ?_) fun _ => ?_⟩
      · refine ⟨60, rfl, by decide, by decide, for_range (n := 60) (fun j σ H2 => ∃ (ms : List Int) (c : Int) (x5 : Option V), σ = [some (.ref l), some (.int many), some (.ref p), some (.int (0 + (i : Int))), some (.int c), x5, x6, none, none] ∧ Same H H2 ∧ H2 p = some (.lst (ms.map V.int)) ∧ ms.length ≤ many ∧ NumOk ms)
          ⟨ms, c0, x5, rfl, s2, hp, hn, ha⟩ (fun j σ H2 hj ⟨ms, c, x5, e, s2, hp, hn, ha⟩ => ?_) fun σ H2 ⟨ms, c, x5, e, s2, hp, hn, ha⟩ => ?_⟩
        · subst e
          refine ⟨_, rfl, _, _, rfl, rfl, _, rfl, Cm.itD (fun h1 => ?_) fun h1 => ?_⟩
          · refine ⟨_, rfl, p, _, rfl, .inl (SqL.of hp), _, rfl, _, _, rfl, rfl, _, rfl, Cm.itD (fun h2 => ?_) fun h2 => ?_⟩
            · rw [len_map] at h2
              refine ⟨_, rfl, .inl ⟨rfl, _, SqL.of hp⟩, _, rfl, _, _, rfl, rfl, pMod, p, _, _, rfl, rfl, hp, Cm.smallL (by rw [len_map]; omega), ?_⟩
              refine ⟨_, rfl, _, _, rfl, rfl, ⟨by decide, by decide⟩, ?_⟩
              exact ⟨ms ++ [c % 10007], _, _, rfl, Cm.same_mut s2 np, by rw [upd_same, map_snoc], by rw [List.length_append]; simp only [List.length_cons, List.length_nil]; omega, num_snoc ha (by omega) (by omega)⟩
            · exact ⟨ms, c, _, rfl, s2, hp, hn, ha⟩
          · exact ⟨ms, c, _, rfl, s2, hp, hn, ha⟩
        · subst e
          exact ⟨ms, _, _, _, _, rfl, s2, hp, hn, ha⟩
      · refine ⟨_, rfl, p, _, rfl, .inl (SqL.of hp), _, rfl, _, _, rfl, rfl, _, rfl, Cm.itD (fun h2 => ?_) fun h2 => ?_⟩
        · rw [len_map] at h2
          refine ⟨_, rfl, _, _, rfl, rfl, .inr ⟨by decide, by decide⟩, _, rfl, _, _, rfl, rfl, .inr ⟨by decide, by decide⟩, _, _, rfl, rfl, _, _, rfl, rfl, .inl ⟨_, rfl, _, _, rfl, rfl, pMersenne, ?_⟩⟩
          refine ⟨_, rfl, .inl ⟨rfl, _, SqL.of hp⟩, _, rfl, _, _, rfl, rfl, .inr ⟨by decide, by decide⟩, _, rfl, _, _, rfl, rfl, .inl ⟨by decide, by decide⟩, _, _, rfl, rfl, _, _, rfl, rfl, .inl ⟨_, rfl, _, _, rfl, rfl, pMersenne, _, _, rfl, rfl, ⟨by decide, by decide⟩, p, _, _, rfl, rfl, hp, Cm.smallL (by rw [len_map]; omega), ?_⟩⟩
          have hy := mersenne ((c0 * 48271 + (0 + (i : Int)) * 69621 + 11) % 2147483647 * 16807 + 7 * (0 + (i : Int)) + 3)
          exact ⟨ms ++ [((c0 * 48271 + (0 + (i : Int)) * 69621 + 11) % 2147483647 * 16807 + 7 * (0 + (i : Int)) + 3) % 2147483647 / 3], _, _, _, _, rfl, Cm.same_mut s2 np, by rw [upd_same, map_snoc], by rw [List.length_append]; simp only [List.length_cons, List.length_nil]; omega, num_snoc ha (by omega) (by omega)⟩
        · exact ⟨ms, _, _, _, _, rfl, s2, hp, hn, ha⟩
    · subst e
      -- base = len(numbers)
      refine ⟨_, rfl, p, _, rfl, .inl (SqL.of hp), ?_⟩
      rw [len_map]
      refine ⟨_, rfl, l, _, rfl, .inl (s2.seq hl), _, _, rfl, rfl, ?_⟩
      rw [len_map]
      -- for k in range(max(0, many - base))
      refine ⟨_, rfl, _, rfl, _, _, rfl, rfl, _, _, rfl, _, rfl, by split <;> omega, by split <;> omega, ?_⟩
      rw [show (if (many : Int) - (ms.length : Int) > 0 then (many : Int) - (ms.length : Int) else 0).toNat = many - ms.length by split <;> omega]
      have nb : NumOk ms := ha
      refine for_range (n := many - ms.length) (fun i σ H2 => ∃ (m2 : List Int) (L : Int) (x3 : Option V), σ = [some (.ref l), some (.int many), some (.ref p), x3, x4, x5, x6, some (.int ms.length), some (.int L)] ∧ (0 ≤ L ∧ L < 2147483647) ∧ Same H H2 ∧ H2 p = some (.lst (m2.map V.int)) ∧ m2.length = ms.length + i ∧ NumOk m2)
        ⟨ms, _, _, rfl, ⟨by omega, by omega⟩, s2, hp, rfl, ha⟩ (fun i σ H2 hi ⟨m2, L, x3, e, hL, s2, hp, hn2, ha⟩ => ?_) fun σ H2 ⟨m2, L, x3, e, hL, s2, hp, hn2, ha⟩ => ?_
      · subst e
        refine ⟨_, rfl, _, _, rfl, rfl, _, rfl, Cm.itD (fun hb => ?_) fun hb => ?_⟩
        · have hb0 : (0 : Int) < (ms.length : Int) := hb
          have g0 := Int.emod_nonneg (0 + (i : Int)) (show (ms.length : Int) ≠ 0 by omega)
          have g1 := Int.emod_lt_of_pos (0 + (i : Int)) hb0
          obtain ⟨v, hv, ev⟩ := Cm.at_int (ns := m2) (i := (0 + (i : Int)) % (ms.length : Int)) g0 (by omega)
          obtain ⟨hv0, hv1⟩ := ha v hv
          refine ⟨_, rfl, _, rfl, _, rfl, _, rfl, _, _, rfl, rfl, hb0, p, _, _, _, rfl, rfl, SqL.of hp, ev, _, _, rfl, rfl, ?_⟩
          refine ⟨_, rfl, _, _, rfl, rfl, .inr ⟨by decide, by decide⟩, _, rfl, _, _, rfl, rfl, .inl ⟨_, rfl, _, _, rfl, rfl, pMersenne, ?_⟩⟩
          have hy := mersenne ((L + v) * 48271 + (0 + (i : Int)))
          refine ⟨_, rfl, .inl ⟨rfl, _, SqL.of hp⟩, _, rfl, _, _, rfl, rfl, ⟨by decide, by decide⟩, p, _, _, rfl, rfl, hp, Cm.smallL (by rw [len_map]; omega), ?_⟩
          exact ⟨m2 ++ [((L + v) * 48271 + (0 + (i : Int))) % 2147483647 / 7], _, _, rfl, hy, Cm.same_mut s2 np, by rw [upd_same, map_snoc], by rw [List.length_append]; simp only [List.length_cons, List.length_nil]; omega, num_snoc ha (by omega) (by omega)⟩
        · refine ⟨_, rfl, _, _, rfl, rfl, .inr ⟨by decide, by decide⟩, _, rfl, _, _, rfl, rfl, .inl ⟨_, rfl, _, _, rfl, rfl, pMersenne, ?_⟩⟩
          have hy := mersenne (L * 48271 + (0 + (i : Int)))
          refine ⟨_, rfl, .inl ⟨rfl, _, SqL.of hp⟩, _, rfl, _, _, rfl, rfl, ⟨by decide, by decide⟩, p, _, _, rfl, rfl, hp, Cm.smallL (by rw [len_map]; omega), ?_⟩
          exact ⟨m2 ++ [(L * 48271 + (0 + (i : Int))) % 2147483647 / 7], _, _, rfl, hy, Cm.same_mut s2 np, by rw [upd_same, map_snoc], by rw [List.length_append]; simp only [List.length_cons, List.length_nil]; omega, num_snoc ha (by omega) (by omega)⟩
      · subst e
        have hl2 : m2.length = many := by omega
        refine ⟨_, rfl, _, rfl, _, rfl, p, _, rfl, SqL.of hp, fun p2 np2 => ?_⟩
        rw [cut_all (by rw [len_map]; exact hl2)]
        exact q _ p2 m2 (s2.trans (Cm.same_new np2)) (s2.free np2) upd_same hl2 ha
/-- numbers[x % len(numbers)] -/
theorem at_mod {ns : List Int} (x : Int) (h : 0 < ns.length) : (0 : Int) < ((ns.map V.int).length : Int) ∧ ∃ v, v ∈ ns ∧ atI (ns.map V.int) (x % ((ns.map V.int).length : Int)) = some (.int v) := by
  have hp : (0 : Int) < ((ns.map V.int).length : Int) := by
    rw [len_map]
    omega
  have h0 := Int.emod_nonneg x (show ((ns.map V.int).length : Int) ≠ 0 by omega)
  have h1 := Int.emod_lt_of_pos x hp
  obtain ⟨v, hv, ev⟩ := Cm.at_int (ns := ns) h0 (by rw [len_map] at h1 ⊢; exact h1)
  exact ⟨hp, v, hv, ev⟩
/-! ### homes -/
def homeF (ns : List Int) (k pl : Int) : Int := (ns.sum + 3 * (ns.length : Int) + k) % pl
def spHome (K : PySem.W.Frag) : Sp := fun vs H Q _ => ∃ (b pr : Addr) (ns : List Int) (k pl : Int), vs = [.ref b, .int pl] ∧ SqT K H b [.ref pr, .int k] ∧ SqT K H pr (ns.map V.int) ∧ 0 < pl ∧ Q (.int (homeF ns k pl)) H
theorem ok_home_of (T : Txt K mg w a) : FnOk P w K mg base CX0 1 (He.ga K "home_of") a.d_home_of ["name", "places"] (spHome K) := by
  refine T.F_home_of.ok sc_home_of (fun vs H Q E h => ?_) (fun cdv A outer s H vs Q E hr h => ?_)
  · obtain ⟨b, pr, ns, k, pl, rfl, _⟩ := h
    rfl
  · obtain ⟨b, pr, ns, k, pl, rfl, hb, hp, h0, q⟩ := h
    refine ⟨_, PSs.nox (pss_cons (ps_asg (pv 0) (pg_tup (by rfl) (pgs_cons (pg_name (i := 2) sc_home_of.nd rfl (Or.inl rfl)) (pgs_cons (pg_name (i := 3) sc_home_of.nd rfl (Or.inl rfl)) pgs_nil))))
      (pss_one (ps_ret (pe_op op_mod (pe_op op_add (pe_op op_add (pe_callB (SumT.cr_sumT rfl) (by rfl) T.g_sum boot_sum (pa_cons (pv 2) pa_nil)) (pe_op op_mul pe_int (pe_callB call_len_seq (by rfl) T.g_len boot_len (pa_cons (pv 2) pa_nil)))) (pv 3)) (pv 1))))), ?_⟩
    refine ⟨_, rfl, b, _, rfl, hb, rfl, _, _, rfl, _, _, rfl, rfl, ?_⟩
    refine ⟨_, rfl, pr, ns, rfl, hp, _, rfl, pr, _, rfl, .inr hp, _, _, rfl, rfl, .inl ⟨by decide, by decide⟩, _, _, rfl, rfl, _, rfl, _, _, rfl, rfl, _, rfl, _, _, rfl, rfl, h0, ?_⟩
    rw [List.length_map]
    exact q
/-! ### a finder: its attributes, its marks -/
open ND
abbrev CF (K : PySem.W.Frag) : Addr := He.ga K "Finder"
def fldsF (me pl : Int) (d wl : Addr) : List (Str × V) := putF "_waiting" (.ref wl) (putF "_marks" (.ref d) (putF "_places" (.int pl) (putF "_me" (.int me) [])))
theorem fl_wait {me pl : Int} {d wl : Addr} : (fldsF me pl d wl).lookup ("_waiting" : Str) = some (.ref wl) := by
  unfold fldsF
  rw [lookup_putF, if_pos rfl]
theorem fl_marks {me pl : Int} {d wl : Addr} : (fldsF me pl d wl).lookup ("_marks" : Str) = some (.ref d) := by
  unfold fldsF
  rw [lookup_putF, if_neg (by decide +kernel), lookup_putF, if_pos rfl]
theorem fl_places {me pl : Int} {d wl : Addr} : (fldsF me pl d wl).lookup ("_places" : Str) = some (.int pl) := by
  unfold fldsF
  rw [lookup_putF, if_neg (by decide +kernel), lookup_putF, if_neg (by decide +kernel), lookup_putF, if_pos rfl]
theorem fl_me {me pl : Int} {d wl : Addr} : (fldsF me pl d wl).lookup ("_me" : Str) = some (.int me) := by
  unfold fldsF
  rw [lookup_putF, if_neg (by decide +kernel), lookup_putF, if_neg (by decide +kernel), lookup_putF, if_neg (by decide +kernel), lookup_putF, if_pos rfl]
theorem fl_no {me pl : Int} {d wl : Addr} {m : Str} (h : m ∉ (["_waiting", "_marks", "_places", "_me"] : List Str)) : (fldsF me pl d wl).lookup m = none := by
  simp only [List.mem_cons, List.not_mem_nil, or_false, not_or] at h
  obtain ⟨h1, h2, h3, h4⟩ := h
  unfold fldsF
  rw [lookup_putF, if_neg h1, lookup_putF, if_neg h2, lookup_putF, if_neg h3, lookup_putF, if_neg h4]
  rfl
theorem putF_len (f : Str) (v : V) : ∀ fs : List (Str × V), (putF f v fs).length ≤ fs.length + 1
  | [] => Nat.le_refl _
  | (g, u) :: r => by
    have ih := putF_len f v r
    unfold putF
    split <;> simp only [List.length_cons] <;> omega
theorem fl_len {me pl : Int} {d wl : Addr} : (fldsF me pl d wl).length ≤ 4 := by
  unfold fldsF
  have h1 := putF_len "_waiting" (.ref wl) (putF "_marks" (.ref d) (putF "_places" (.int pl) (putF "_me" (.int me) [])))
  have h2 := putF_len "_marks" (.ref d) (putF "_places" (.int pl) (putF "_me" (.int me) []))
  have h3 := putF_len "_places" (.int pl) (putF "_me" (.int me) [])
  have h4 := putF_len "_me" (.int me) []
  simp only [List.length_nil] at h4
  omega
abbrev Marks : Type := List (NestedKey × (Int × Int))
def MVal (K : PySem.W.Frag) (H : Hp) (v : V) (m : Int × Int) : Prop := ∃ b, v = .ref b ∧ SqT K H b [.int m.1, .int m.2]
abbrev MksV (K : PySem.W.Frag) (H : Hp) : List (NestedKey × V) → Marks → Prop := Paired fun p q => p.1 = q.1 ∧ MVal K H p.2 q.2
def lookM : Marks → NestedKey → Option (Int × Int)
  | [], _ => none
  | (x, m) :: r, k => if x = k then some m else lookM r k
def putM : Marks → NestedKey → (Int × Int) → Marks
  | [], k, m => [(k, m)]
  | (x, n) :: r, k, m => if x = k then (x, m) :: r else (x, n) :: putM r k m
def MOpt (K : PySem.W.Frag) (H : Hp) (v : V) : Option (Int × Int) → Prop
  | none => v = .non
  | some m => MVal K H v m
theorem putM_len (k : NestedKey) (m : Int × Int) : ∀ ms : Marks, (putM ms k m).length ≤ ms.length + 1
  | [] => Nat.le_refl _
  | (x, n) :: r => by
    have ih := putM_len k m r
    unfold putM
    split <;> simp only [List.length_cons] <;> omega
theorem lookM_putM (k k' : NestedKey) (m : Int × Int) : ∀ ms : Marks, lookM (putM ms k m) k' = if k = k' then some m else lookM ms k'
  | [] => by
    unfold putM lookM
    rfl
  | (x, n) :: r => by
    have ih := lookM_putM k k' m r
    unfold putM
    by_cases e : x = k
    · rw [if_pos e]
      subst e
      unfold lookM
      split <;> rfl
    · rw [if_neg e]
      unfold lookM
      by_cases e2 : x = k'
      · rw [if_pos e2, if_pos e2, if_neg fun z => e (e2.trans z.symm)]
      · rw [if_neg e2, if_neg e2, ih]
section
variable {H H' : Hp}
theorem MVal.keep (t : TK K H H') {v : V} {m : Int × Int} (h : MVal K H v m) : MVal K H' v m := by
  obtain ⟨b, e, hb⟩ := h
  exact ⟨b, e, t _ _ hb⟩
theorem MksV.keep (t : TK K H H') {kvs : List (NestedKey × V)} {ms : Marks} (h : MksV K H kvs ms) : MksV K H' kvs ms := Paired.mapP h fun _ _ z => ⟨z.1, z.2.keep t⟩
theorem MksV.look {kvs : List (NestedKey × V)} {ms : Marks} (h : MksV K H kvs ms) (k : NestedKey) : MOpt K H ((valV kvs k).getD .non) (lookM ms k) := by
  induction h with
  | nil => exact rfl
  | @cons p q ps qs h t ih =>
    obtain ⟨x, m⟩ := q
    obtain ⟨h1, h2⟩ := h
    unfold lookM
    by_cases e : x = k
    · rw [if_pos e, valV_pos (h1.trans e)]
      exact h2
    · rw [if_neg e, valV_neg (fun z => e (h1.symm.trans z))]
      exact ih
theorem MksV.none_of {kvs : List (NestedKey × V)} {ms : Marks} (h : MksV K H kvs ms) (k : NestedKey) : (valV kvs k).isSome = (lookM ms k).isSome := by
  induction h with
  | nil => exact rfl
  | @cons p q ps qs h t ih =>
    obtain ⟨x, m⟩ := q
    obtain ⟨h1, h2⟩ := h
    unfold lookM
    by_cases e : x = k
    · rw [if_pos e, valV_pos (h1.trans e)]
      rfl
    · rw [if_neg e, valV_neg (fun z => e (h1.symm.trans z))]
      exact ih
theorem putK_cons {p : NestedKey × V} {r : List (NestedKey × V)} {k : NestedKey} {v : V} (e : ¬ p.1 = k) : putK (p :: r) k v = p :: putK r k v := by
  unfold putK
  rw [List.any_cons, decide_eq_false e, Bool.false_or]
  by_cases h : (r.any fun kv => decide (kv.1 = k)) = true
  · rw [if_pos h, if_pos h, List.map_cons, if_neg e]
  · rw [if_neg h, if_neg h, List.cons_append]
theorem map_same {k : NestedKey} {v : V} : ∀ r : List (NestedKey × V), (∀ p ∈ r, p.1 ≠ k) → (r.map fun kv => if kv.1 = k then (kv.1, v) else kv) = r
  | [], _ => rfl
  | p :: r, h => by
    rw [List.map_cons, if_neg (h p List.mem_cons_self), map_same r fun x hx => h x (List.mem_cons_of_mem _ hx)]
theorem putK_head {p : NestedKey × V} {r : List (NestedKey × V)} {k : NestedKey} {v : V} (e : p.1 = k) (h : ∀ x ∈ r, x.1 ≠ k) : putK (p :: r) k v = (p.1, v) :: r := by
  unfold putK
  rw [List.any_cons, decide_eq_true e, Bool.true_or, if_pos rfl, List.map_cons, if_pos e, map_same r h]
theorem MksV.put {kvs : List (NestedKey × V)} {ms : Marks} (h : MksV K H kvs ms) (nd : (ms.map (·.1)).Nodup) {k : NestedKey} {v : V} {m : Int × Int} (hv : MVal K H v m) : MksV K H (putK kvs k v) (putM ms k m) := by
  induction h with
  | nil => exact .cons ⟨rfl, hv⟩ .nil
  | @cons p q ps qs h t ih =>
    obtain ⟨x, n⟩ := q
    obtain ⟨h1, h2⟩ := h
    rw [List.map_cons, List.nodup_cons] at nd
    unfold putM
    by_cases e : x = k
    · subst e
      have ne : ∀ y ∈ ps, y.1 ≠ x := by
        intro y hy z
        have all : ∀ {l : List (NestedKey × V)} {l' : Marks}, MksV K H l l' → ∀ y ∈ l, y.1 ∈ l'.map (·.1) := by
          intro l l' r
          induction r with
          | nil => intro y hy; cases hy
          | @cons a b as bs h0 t0 ih0 =>
            intro y hy
            rw [List.map_cons]
            rcases List.mem_cons.mp hy with e | hy
            · rw [e, h0.1]
              exact List.mem_cons_self
            · exact List.mem_cons_of_mem _ (ih0 y hy)
        exact nd.1 (z ▸ all t y hy)
      rw [if_pos rfl, putK_head h1 ne]
      exact .cons ⟨h1, hv⟩ t
    · rw [if_neg e, putK_cons fun z => e (h1.symm.trans z)]
      exact .cons ⟨h1, h2⟩ (ih nd.2)
end
theorem putM_keys (k : NestedKey) (m : Int × Int) : ∀ ms : Marks, ∀ x ∈ (putM ms k m).map (·.1), x = k ∨ x ∈ ms.map (·.1)
  | [], x, h => by
    unfold putM at h
    exact .inl (List.mem_singleton.mp h)
  | (y, n) :: r, x, h => by
    unfold putM at h
    by_cases e : y = k
    · rw [if_pos e] at h
      exact .inr h
    · rw [if_neg e, List.map_cons] at h
      rcases List.mem_cons.mp h with z | h
      · exact .inr (z ▸ List.mem_cons_self)
      · rcases putM_keys k m r x h with z | z
        · exact .inl z
        · exact .inr (List.mem_cons_of_mem _ z)
theorem putM_nodup (k : NestedKey) (m : Int × Int) : ∀ ms : Marks, (ms.map (·.1)).Nodup → ((putM ms k m).map (·.1)).Nodup
  | [], _ => by
    unfold putM
    simp
  | (y, n) :: r, h => by
    rw [List.map_cons, List.nodup_cons] at h
    unfold putM
    by_cases e : y = k
    · rw [if_pos e, List.map_cons, List.nodup_cons]
      exact h
    · rw [if_neg e, List.map_cons, List.nodup_cons]
      exact ⟨fun z => (putM_keys k m r y z).elim (fun z => e z) h.1, putM_nodup k m r h.2⟩
/-- a finder stands at p -/
structure FindAt (P : Program) (w : World) (K : PySem.W.Frag) (H : Hp) (p d wl : Addr) (me pl : Int) (ms : Marks) (ws : List V) : Prop where
  ob : ∃ dx, H p = some (.ins (CF K) dx (fldsF me pl d wl))
  dc : ∃ kvs, NDct P w K H d kvs ∧ MksV K H kvs ms
  wt : H wl = some (.lst ws)
  nd : (ms.map (·.1)).Nodup
theorem FindAt.same {H H' : Hp} {p d wl : Addr} {me pl : Int} {ms : Marks} {ws : List V} (s : Same H H') (F : FindAt P w K H p d wl me pl ms ws) : FindAt P w K H' p d wl me pl ms ws := by
  obtain ⟨⟨dx, h1⟩, ⟨kvs, h2, h3⟩, h4, h5⟩ := F
  exact ⟨⟨dx, s _ _ h1⟩, ⟨kvs, h2.same s, MksV.keep (TK.same s) h3⟩, s _ _ h4, h5⟩
/-- one other object is written -/
theorem FindAt.other {H : Hp} {c : Addr} {o : HO} {p d wl : Addr} {me pl : Int} {ms : Marks} {ws : List V} (m : Mut (H c)) (n1 : p ≠ c) (n2 : d ≠ c) (n3 : wl ≠ c) (F : FindAt P w K H p d wl me pl ms ws) :
    FindAt P w K (upd H c o) p d wl me pl ms ws := by
  obtain ⟨⟨dx, h1⟩, ⟨kvs, h2, h3⟩, h4, h5⟩ := F
  exact ⟨⟨dx, by rw [upd_ne n1]; exact h1⟩, ⟨kvs, h2.keep (TK.upd m) (upd_ne n2), MksV.keep (TK.upd m) h3⟩, by rw [upd_ne n3]; exact h4, h5⟩
/-! ### Finder(me, places) -/
def spFInit (P : Program) (w : World) (K : PySem.W.Frag) : Sp := fun vs H Q _ => ∃ (p dx : Addr) (me pl : Int), vs = [.ref p, .int me, .int pl] ∧ H p = some (.ins (CF K) dx []) ∧
  ∀ (d wl : Addr) (H' : Hp), H d = none → H wl = none → FindAt P w K H' p d wl me pl [] [] → (∀ b o, H b = some o → b ≠ p → H' b = some o) → Q .non H'
theorem ok_Finder_init (T : Txt K mg w a) : FnOk P w K mg base CX0 1 (He.ma K (CF K) "__init__") a.d_Finder_init ["self", "me", "places"] (spFInit P w K) := by
  refine T.F_Finder_init.ok sc_Finder_init (fun vs H Q E h => ?_) (fun cdv A outer s H vs Q E hr h => ?_)
  · obtain ⟨p, dx, me, pl, rfl, _⟩ := h
    rfl
  · obtain ⟨p, dx, me, pl, rfl, hp, q⟩ := h
    refine ⟨_, PSs.nox (pss_cons (ps_fld (pv 0) (pv 1) rfl)
      (pss_cons (ps_fld (pv 0) (pv 2) rfl)
      (pss_cons (ps_fld (pv 0) ND.pe_nnew rfl)
      (pss_one (ps_fld (pv 0) (pe_lst pa_nil) rfl))))), ?_⟩
    refine ⟨_, rfl, _, rfl, p, CF K, dx, [], rfl, hp, T.c_Finder, T.n_Finder__me, by decide, ?_⟩
    refine ⟨_, rfl, _, rfl, p, CF K, dx, _, rfl, upd_same, T.c_Finder, T.n_Finder__places, by have := putF_len "_me" (.int me) []; simp only [List.length_nil] at this; omega, ?_⟩
    intro d o hd g
    have np : p ≠ d := ne_of_none upd_same hd
    refine ⟨_, rfl, p, CF K, dx, _, rfl, by rw [upd_ne np]; exact upd_same, T.c_Finder, T.n_Finder__marks, by have h1 := putF_len "_places" (.int pl) (putF "_me" (.int me) []); have h2 := putF_len "_me" (.int me) []; simp only [List.length_nil] at h2; omega, ?_⟩
    refine ⟨Nat.zero_le _, fun wl hw => ?_⟩
    have np2 : p ≠ wl := ne_of_none upd_same hw
    have nd2 : d ≠ wl := by
      obtain ⟨u, hu, _⟩ := g.some
      refine ne_of_none (o := u) ?_ hw
      rw [upd_ne np.symm]
      exact hu
    refine ⟨_, rfl, p, CF K, dx, _, rfl, by rw [upd_ne np2]; exact upd_same, T.c_Finder, T.n_Finder__waiting, by have h0 := putF_len "_marks" (.ref d) (putF "_places" (.int pl) (putF "_me" (.int me) [])); have h1 := putF_len "_places" (.int pl) (putF "_me" (.int me) []); have h2 := putF_len "_me" (.int me) []; simp only [List.length_nil] at h2; omega, ?_⟩
    have hdn : H d = none := by
      rw [upd_ne np.symm, upd_ne np.symm] at hd
      exact hd
    have hwn : H wl = none := by
      rw [upd_ne np2.symm, upd_ne nd2.symm, upd_ne np2.symm, upd_ne np2.symm] at hw
      exact hw
    refine q d wl _ hdn hwn ⟨⟨dx, upd_same⟩, ⟨[], ?_, .nil⟩, ?_, List.nodup_nil⟩ fun b u hb hn => ?_
    · obtain ⟨xs, h1, h2⟩ := g
      refine ⟨xs, ?_, ?_⟩
      · rw [upd_ne np.symm, upd_ne nd2, upd_ne np.symm]
        exact h1
      · cases h2
        exact .nil
    · rw [upd_ne np2.symm, upd_same]
    · rw [upd_ne hn, upd_ne (ne_of_none hb hwn), upd_ne hn, upd_ne (ne_of_none hb hdn), upd_ne hn, upd_ne hn]
      exact hb
/-! ### finder.mark(name) -/
def spFMark (P : Program) (w : World) (K : PySem.W.Frag) : Sp := fun vs H Q _ => ∃ (p d wl : Addr) (me pl : Int) (ms : Marks) (ws : List V) (nm : V) (k : NestedKey), vs = [.ref p, nm] ∧ FindAt P w K H p d wl me pl ms ws ∧ KeyAt K H nm k ∧
  ∀ v, MOpt K H v (lookM ms k) → Q v H
theorem ok_Finder_mark (T : Txt K mg w a) : FnOk P w K mg base CX0 1 (He.ma K (CF K) "mark") a.d_Finder_mark ["self", "name"] (spFMark P w K) := by
  refine T.F_Finder_mark.ok sc_Finder_mark (fun vs H Q E h => ?_) (fun cdv A outer s H vs Q E hr h => ?_)
  · obtain ⟨p, d, wl, me, pl, ms, ws, nm, k, rfl, _⟩ := h
    rfl
  · obtain ⟨p, d, wl, me, pl, ms, ws, nm, k, rfl, F, hk, q⟩ := h
    obtain ⟨⟨dx, h1⟩, ⟨kvs, h2, h3⟩, h4, h5⟩ := id F
    refine ⟨_, PSs.nox (pss_one (ps_ret (ND.pe_nget1 (ND.nu_of hr) (pe_fld (pv 0) rfl) (pv 1) ⟨rfl, rfl, rfl, rfl⟩))), ?_⟩
    exact ⟨_, rfl, p, CF K, dx, _, _, rfl, h1, T.c_Finder, T.n_Finder__marks, fl_marks, d, kvs, rfl, h2, _, rfl, kvs, k, h2, hk, q _ (h3.look k)⟩
/-- a mark is stored -/
theorem FindAt.put {H : Hp} {p d wl t : Addr} {me pl : Int} {ms : Marks} {ws : List V} {k : NestedKey} {q c : Int} {o : HO} {kvs : List (NestedKey × V)} (F : FindAt P w K H p d wl me pl ms ws) (h3 : MksV K H kvs ms) (hd : Mut (H d)) (nt : H t = none)
    (g : NDct P w K (upd (upd H t (.tup [.int q, .int c])) d o) d (putK kvs k (.ref t))) : FindAt P w K (upd (upd H t (.tup [.int q, .int c])) d o) p d wl me pl (putM ms k (q, c)) ws := by
  obtain ⟨⟨dx, h1⟩, ⟨kvs', h2, h3'⟩, h4, h5⟩ := F
  have s1 : Same H (upd H t (.tup [.int q, .int c])) := Cm.same_new nt
  obtain ⟨u, hu, nl, nt', mu⟩ := h2.some
  have np : p ≠ d := fun e => by
    subst e
    obtain ⟨xs, e2, _⟩ := h2
    rw [h1] at e2
    cases e2
  have nw : wl ≠ d := fun e => by
    subst e
    rw [h4] at hu
    cases hu
    exact nl _ rfl
  have nd1 : d ≠ t := ne_of_none hu nt
  have tk : TK K (upd H t (.tup [.int q, .int c])) (upd (upd H t (.tup [.int q, .int c])) d o) := TK.upd (by rw [upd_ne nd1]; exact hd)
  refine ⟨⟨dx, by rw [upd_ne np]; exact s1 _ _ h1⟩, ⟨_, g, ?_⟩, by rw [upd_ne nw]; exact s1 _ _ h4, putM_nodup _ _ _ h5⟩
  exact MksV.put (MksV.keep ((TK.same s1).trans tk) h3) h5 ⟨t, rfl, tk _ _ (.inl (.inl upd_same))⟩
/-! ### finder.hear(name, place, count) -/
def hearM (ms : Marks) (k : NestedKey) (q c : Int) : Marks := match lookM ms k with
  | none => putM ms k (q, c)
  | some m => if c > m.2 then putM ms k (q, c) else ms
def spFHear (P : Program) (w : World) (K : PySem.W.Frag) : Sp := fun vs H Q E => ∃ (p d wl : Addr) (me pl : Int) (ms : Marks) (ws : List V) (nm : V) (k : NestedKey) (q c : Int), vs = [.ref p, nm, .int q, .int c] ∧ FindAt P w K H p d wl me pl ms ws ∧ KeyAt K H nm k ∧ ms.length ≤ 1000 ∧
  ((0 ≤ q ∧ q < pl) → 0 ≤ c → ∀ H', FindAt P w K H' p d wl me pl (hearM ms k q c) ws → (∀ b o, H b = some o → b ≠ d → H' b = some o) → Q .non H') ∧
  (¬ ((0 ≤ q ∧ q < pl) ∧ 0 ≤ c) → E (.ref (He.ga K "NotAllowed")) none H)
theorem ok_Finder_hear (T : Txt K mg w a) : FnOk P w K mg base (L2.CX P w) 2 (He.ma K (CF K) "hear") a.d_Finder_hear ["self", "name", "place", "count"] (spFHear P w K) := by
  refine T.F_Finder_hear.ok (CX := L2.CX P w) sc_Finder_hear (fun vs H Q E h => ?_) (fun cdv A outer s H vs Q E hr h => ?_)
  · obtain ⟨p, d, wl, me, pl, ms, ws, nm, k, q, c, rfl, _⟩ := h
    rfl
  · obtain ⟨p, d, wl, me, pl, ms, ws, nm, k, q, c, rfl, F, hk, hl, ok, bad⟩ := h
    obtain ⟨⟨dx, h1⟩, ⟨kvs, h2, h3⟩, h4, h5⟩ := id F
    refine ⟨_, (pss_cons (ps_if (PW.pt (pw_or (pt_not (pt_chain op_le op_lt pe_int (pv 2) (pe_fld (pv 0) rfl))) (pw_or1 (pt_cmpR op_lt (pv 3) pe_int (nomark _))))) (pss_one (ps_raise rfl (takes_of rfl rfl rfl rfl) (SkE.pmk_own1 PySem.F.excBase_ValueError T.x_NotAllowed T.g_NotAllowed T.k_NotAllowed (raises_own T.s_NotAllowed T.t_NotAllowed) (by rfl) pe_str))) pss_nil)
      (pss_cons (ps_set (i := 4) sc_Finder_hear.nd rfl (Or.inl rfl) (pe_meth (pv 0) T.c_Finder T.m_Finder_mark (ok_Finder_mark T) (hr.mono (by omega)) T.b_Finder_mark .nil pass0 (pa_cons (pv 1) pa_nil)))
      (pss_one (ps_if (PW.pt (pw_or (pt_cmpR op_isN (pv 4) pe_non (nomark _)) (pw_or1 (pt_cmpR op_gt (pv 3) (pe_ix ix_tup (pv 4) pe_int (fun _ _ => rfl)) (nomark _))))) (pss_one (ND.ps_nput (ND.nu_of hr) (pe_fld (pv 0) rfl) (pv 1) (pe_tup (pa_cons (pv 2) (pa_cons (pv 3) pa_nil))) rfl)) pss_nil)))), ?_⟩
    rw [show L2.start N_Finder_hear [.ref p, nm, .int q, .int c] = [some (.ref p), some nm, some (.int q), some (.int c), none] from rfl]
    refine ⟨_, rfl, _, _, rfl, rfl, _, rfl, Cm.itD (fun hq => ?_) fun hq => ?_⟩
    · refine ⟨_, rfl, p, CF K, dx, _, _, rfl, h1, T.c_Finder, T.n_Finder__places, fl_places, _, _, rfl, rfl, _, rfl, Cm.itDn (fun hq1 => ?_) fun hq1 => ?_⟩
      · exact iteT (bad fun z => hq1 z.1.2)
      refine ⟨_, rfl, _, _, rfl, rfl, _, rfl, Cm.itD (fun hc => ?_) fun hc => ?_⟩
      · exact bad fun z => by omega
      refine ⟨_, rfl, p, dx, _, rfl, h1, fl_no (by decide +kernel), _, rfl, p, d, wl, me, pl, ms, ws, nm, k, rfl, F, hk, fun v hv => ?_⟩
      cases hm : lookM ms k with
      | none =>
        rw [hm] at hv
        obtain rfl : v = .non := hv
        have eh : hearM ms k q c = putM ms k (q, c) := by
          unfold hearM
          rw [hm]
        refine ⟨_, rfl, rfl, _, rfl, Cm.itD (fun _ => ?_) fun e => absurd rfl e⟩
        refine ⟨_, rfl, _, rfl, Cm.small (by show 2 ≤ 100000; decide), fun t nt => ?_⟩
        have s1 : Same H (upd H t (.tup [.int q, .int c])) := Cm.same_new nt
        refine ⟨_, rfl, p, CF K, dx, _, _, rfl, s1 _ _ h1, T.c_Finder, T.n_Finder__marks, fl_marks, _, rfl, d, kvs, k, rfl, h2.same s1, hk.keep (TK.same s1), Cm.smallL (by rw [Paired.length h3]; omega), fun o g => ?_⟩
        have hq2 := ok ⟨hq, hq1⟩ (by omega)
        rw [eh] at hq2
        exact hq2 _ (F.put h3 (h2.some.choose_spec.2.2.2) nt g)
          fun b u hb hn => by rw [upd_ne hn]; exact s1 b u hb
      | some m =>
        rw [hm] at hv
        obtain ⟨b, rfl, hb⟩ := hv
        refine ⟨_, rfl, rfl, _, rfl, Cm.itD (fun e => nomatch e) fun _ => ?_⟩
        refine ⟨_, rfl, _, rfl, b, _, 1, _, rfl, rfl, hb, atI_nat (j := 1) rfl, _, _, rfl, rfl, _, rfl, Cm.itD (fun e2 => ?_) fun e2 => ?_⟩
        · have eh : hearM ms k q c = putM ms k (q, c) := by
            unfold hearM
            rw [hm]
            exact if_pos e2
          refine ⟨_, rfl, _, rfl, Cm.small (by show 2 ≤ 100000; decide), fun t nt => ?_⟩
          have s1 : Same H (upd H t (.tup [.int q, .int c])) := Cm.same_new nt
          refine ⟨_, rfl, p, CF K, dx, _, _, rfl, s1 _ _ h1, T.c_Finder, T.n_Finder__marks, fl_marks, _, rfl, d, kvs, k, rfl, h2.same s1, hk.keep (TK.same s1), Cm.smallL (by rw [Paired.length h3]; omega), fun o g => ?_⟩
          have hq2 := ok ⟨hq, hq1⟩ (by omega)
          rw [eh] at hq2
          exact hq2 _ (F.put h3 (h2.some.choose_spec.2.2.2) nt g)
            fun b u hb hn => by rw [upd_ne hn]; exact s1 b u hb
        · have eh : hearM ms k q c = ms := by
            unfold hearM
            rw [hm]
            exact if_neg e2
          have hq2 := ok ⟨hq, hq1⟩ (by omega)
          rw [eh] at hq2
          exact hq2 H F fun b u hb _ => hb
    · exact ⟨_, rfl, iteT (bad fun z => hq z.1.1)⟩
/-! ### finder.way(name, count, here) -/
def wayF (me home : Int) (m : Option (Int × Int)) (c : Int) : Option (Int × Int) :=
  let rest : Option (Int × Int) := if c ≥ 0 ∨ home = me then none else some (home, -1)
  match m with
  | some (q, n) => if n > c ∧ q ≠ me then some (q, n) else rest
  | none => rest
def nameK (ns : List Int) (j : Int) : NestedKey := .tup [.tup (ns.map .num), .num j]
theorem datas_num : ∀ ns : List Int, NestedKey.datas (ns.map .num) = ns.map PyData.int
  | [] => rfl
  | n :: ns => by
    rw [List.map_cons, NestedKey.datas, List.map_cons, datas_num ns]
    rfl
theorem rps_ints {H : Hp} : ∀ {vs : List V} {ns : List Int}, Rps K H vs (ns.map PyData.int) → vs = ns.map V.int
  | vs, [], r => by
    cases r
    rfl
  | vs, n :: ns, r => by
    rw [List.map_cons] at r
    cases r with
    | cons h t =>
      cases h
      rw [rps_ints t]
      rfl
theorem ints_rps {H : Hp} : ∀ ns : List Int, Rps K H (ns.map V.int) (ns.map PyData.int)
  | [] => .nil
  | n :: ns => .cons (.int n) (ints_rps ns)
/-- the parts of a name -/
theorem key_parts {H : Hp} {v : V} {ns : List Int} {j : Int} (h : KeyAt K H v (nameK ns j)) : ∃ b pr, v = .ref b ∧ SqT K H b [.ref pr, .int j] ∧ SqT K H pr (ns.map V.int) := by
  obtain ⟨r, _⟩ := h
  have r' : Rp K H v (.tuple [.tuple (ns.map PyData.int), .int j]) := by
    have e : (nameK ns j).data = .tuple [.tuple (ns.map PyData.int), .int j] := by
      simp only [nameK, NestedKey.data, NestedKey.datas, datas_num]
    rw [← e]
    exact r
  obtain ⟨b, vs, rfl, hb, hvs⟩ := r'.tup_inv
  obtain ⟨v1, r1, rfl, h1, h2⟩ := hvs.cons_inv
  obtain ⟨v2, r2, rfl, h3, h4⟩ := h2.cons_inv
  obtain rfl := h4.nil_inv
  obtain rfl := h3.int_inv
  obtain ⟨pr, us, rfl, hp, hus⟩ := h1.tup_inv
  rw [rps_ints hus] at hp
  exact ⟨b, pr, rfl, hb, hp⟩
theorem key_make {H : Hp} {b pr : Addr} {ns : List Int} {j : Int} (hb : SqT K H b [.ref pr, .int j]) (hp : SqT K H pr (ns.map V.int)) : KeyAt K H (.ref b) (nameK ns j) := by
  refine ⟨?_, ?_, _, rfl⟩
  · have e : (nameK ns j).data = .tuple [.tuple (ns.map PyData.int), .int j] := by
      simp only [nameK, NestedKey.data, NestedKey.datas, datas_num]
    rw [e]
    exact .tup hb (.cons (.tup hp (ints_rps ns)) (.cons (.int j) .nil))
  · have e : ∀ l : List Int, NestedKey.depthAll (l.map .num) = 0 := by
      intro l
      induction l with
      | nil => rfl
      | cons n l ih => simp only [List.map_cons, NestedKey.depthAll, NestedKey.depth, ih, Nat.max_self]
    simp only [nameK, NestedKey.depth, NestedKey.depthAll, e]
    decide
def spFWay (P : Program) (w : World) (K : PySem.W.Frag) : Sp := fun vs H Q _ => ∃ (p d wl : Addr) (me pl : Int) (ms : Marks) (ws : List V) (nm : V) (ns : List Int) (j c : Int) (here : Bool), vs = [.ref p, nm, .int c, .bl here] ∧ FindAt P w K H p d wl me pl ms ws ∧ KeyAt K H nm (nameK ns j) ∧ 0 < pl ∧
  (here = true → Q (.str "here") H) ∧ (here = false → (wayF me (homeF ns j pl) (lookM ms (nameK ns j)) c = none → Q (.str "park") H) ∧
    ∀ q n, wayF me (homeF ns j pl) (lookM ms (nameK ns j)) c = some (q, n) → ∀ H' r, Same H H' → SqT K H' r [.str "go", .int q, .int n] → Q (.ref r) H')
theorem ok_Finder_way (T : Txt K mg w a) : FnOk P w K mg base CX0 2 (He.ma K (CF K) "way") a.d_Finder_way ["self", "name", "count", "here"] (spFWay P w K) := by
  refine T.F_Finder_way.ok sc_Finder_way (fun vs H Q E h => ?_) (fun cdv A outer s H vs Q E hr h => ?_)
  · obtain ⟨p, d, wl, me, pl, ms, ws, nm, ns, j, c, here, rfl, _⟩ := h
    rfl
  · obtain ⟨p, d, wl, me, pl, ms, ws, nm, ns, j, c, here, rfl, F, hk, hpl, q1, q2⟩ := h
    obtain ⟨⟨dx, h1⟩, ⟨kvs, h2, h3⟩, h4, h5⟩ := id F
    refine ⟨_, PSs.nox (pss_cons (ps_if (pt_val (pv 3)) (pss_one (ps_ret pe_str)) pss_nil)
      (pss_cons (ps_set (i := 4) sc_Finder_way.nd rfl (Or.inl rfl) (pe_meth (pv 0) T.c_Finder T.m_Finder_mark (ok_Finder_mark T) (hr.mono (by omega)) T.b_Finder_mark .nil pass0 (pa_cons (pv 1) pa_nil)))
      (pss_cons (ps_if (PW.pt (pw_and (pt_cmpR op_notN (pv 4) pe_non (nomark _)) (pw_and (pt_cmpR op_gt (pe_ix ix_tup (pv 4) pe_int (fun _ _ => rfl)) (pv 2) (nomark _)) (pw_and1 (pt_cmpR op_ne (pe_ix ix_tup (pv 4) pe_int (fun _ _ => rfl)) (pe_fld (pv 0) rfl) (nomark _)))))) (pss_one (ps_ret (pe_op op_catA (pe_tup (pa_cons pe_str pa_nil)) (pv 4)))) pss_nil)
      (pss_cons (ps_set (i := 5) sc_Finder_way.nd rfl (Or.inl rfl) (pe_call (ok_home_of T) (hr.mono (by omega)) (by rfl) T.g_home_of T.F_home_of.kp T.b_home_of .nil pass0 (pa_cons (pv 1) (pa_cons (pe_fld (pv 0) rfl) pa_nil))))
      (pss_cons (ps_if (PW.pt (pw_or (pt_cmpR op_ge (pv 2) pe_int (nomark _)) (pw_or1 (pt_cmpR op_eq (pv 5) (pe_fld (pv 0) rfl) (nomark _))))) (pss_one (ps_ret pe_str)) pss_nil)
      (pss_one (ps_ret (pe_tup (pa_cons pe_str (pa_cons (pv 5) (pa_cons (pe_un un_neg pe_int) pa_nil))))))))))), ?_⟩
    rw [show L2.start N_Finder_way [.ref p, nm, .int c, .bl here] = [some (.ref p), some nm, some (.int c), some (.bl here), none, none] from rfl]
    refine ⟨_, rfl, _, rfl, Cm.itB (fun e => ?_) fun e => ?_⟩
    · exact q1 e
    obtain ⟨q2, q3⟩ := q2 e
    refine ⟨_, rfl, p, dx, _, rfl, h1, fl_no (by decide +kernel), _, rfl, p, d, wl, me, pl, ms, ws, nm, _, rfl, F, hk, fun v hv => ?_⟩
    obtain ⟨b0, pr, rfl, hb0, hp0⟩ := key_parts hk
    cases hm : lookM ms (nameK ns j) with
    | none =>
      rw [hm] at hv q2 q3
      obtain rfl : v = .non := hv
      have ew : wayF me (homeF ns j pl) none c = if c ≥ 0 ∨ homeF ns j pl = me then none else some (homeF ns j pl, -1) := rfl
      refine ⟨_, rfl, rfl, _, rfl, Cm.itDn (fun e => absurd rfl e) fun _ => ?_⟩
      refine ⟨_, rfl, _, rfl, p, CF K, dx, _, _, rfl, h1, T.c_Finder, T.n_Finder__places, fl_places, b0, pr, ns, j, pl, rfl, hb0, hp0, hpl, ?_⟩
      refine ⟨_, rfl, _, _, rfl, rfl, _, rfl, Cm.itD (fun e1 => ?_) fun e1 => ?_⟩
      · exact q2 (ew.trans (if_pos (.inl e1)))
      refine ⟨_, rfl, _, rfl, p, CF K, dx, _, _, rfl, h1, T.c_Finder, T.n_Finder__me, fl_me, rfl, _, rfl, Cm.itEI (fun e2 => ?_) fun e2 => ?_⟩
      · exact q2 (ew.trans (if_pos (.inr e2)))
      refine ⟨_, rfl, _, rfl, Cm.small (by show 3 ≤ 100000; decide), fun t nt => ?_⟩
      exact q3 _ _ (ew.trans (if_neg fun z => z.elim e1 e2)) _ t (Cm.same_new nt) Cm.sqt_new
    | some m =>
      obtain ⟨mq, mn⟩ := m
      rw [hm] at hv q2 q3
      obtain ⟨b, rfl, hb⟩ := hv
      refine ⟨_, rfl, rfl, _, rfl, Cm.itDn (fun _ => ?_) fun e => nomatch e⟩
      refine ⟨_, rfl, b, _, 1, _, rfl, rfl, hb, atI_nat (j := 1) rfl, _, rfl, _, _, rfl, rfl, _, rfl, Cm.itD (fun f1 => ?_) fun f1 => ?_⟩
      · refine ⟨_, rfl, b, _, 0, _, rfl, rfl, hb, atI_nat (j := 0) rfl, _, rfl, p, CF K, dx, _, _, rfl, h1, T.c_Finder, T.n_Finder__me, fl_me, rfl, _, rfl, Cm.itNI (fun f2 => ?_) fun f2 => ?_⟩
        · refine ⟨Cm.small (by show 1 ≤ 100000; decide), fun t nt => ⟨_, rfl, Nst.cat_sq Cm.sqt_new (Cm.sameT (Cm.same_new nt) hb) (by show 3 ≤ 100000; decide) fun r H' s' hr' => ?_⟩⟩
          exact q3 mq mn (if_pos ⟨f1, f2⟩) _ r ((Cm.same_new nt).trans s') hr'
        · have ew : wayF me (homeF ns j pl) (some (mq, mn)) c = if c ≥ 0 ∨ homeF ns j pl = me then none else some (homeF ns j pl, -1) := if_neg fun z => z.2 f2
          refine ⟨_, rfl, _, rfl, p, CF K, dx, _, _, rfl, h1, T.c_Finder, T.n_Finder__places, fl_places, b0, pr, ns, j, pl, rfl, hb0, hp0, hpl, ?_⟩
          refine ⟨_, rfl, _, _, rfl, rfl, _, rfl, Cm.itD (fun e1 => ?_) fun e1 => ?_⟩
          · exact q2 (ew.trans (if_pos (.inl e1)))
          refine ⟨_, rfl, _, rfl, p, CF K, dx, _, _, rfl, h1, T.c_Finder, T.n_Finder__me, fl_me, rfl, _, rfl, Cm.itEI (fun e2 => ?_) fun e2 => ?_⟩
          · exact q2 (ew.trans (if_pos (.inr e2)))
          refine ⟨_, rfl, _, rfl, Cm.small (by show 3 ≤ 100000; decide), fun t nt => ?_⟩
          exact q3 _ _ (ew.trans (if_neg fun z => z.elim e1 e2)) _ t (Cm.same_new nt) Cm.sqt_new
      · have ew : wayF me (homeF ns j pl) (some (mq, mn)) c = if c ≥ 0 ∨ homeF ns j pl = me then none else some (homeF ns j pl, -1) := if_neg fun z => f1 z.1
        refine ⟨_, rfl, _, rfl, p, CF K, dx, _, _, rfl, h1, T.c_Finder, T.n_Finder__places, fl_places, b0, pr, ns, j, pl, rfl, hb0, hp0, hpl, ?_⟩
        refine ⟨_, rfl, _, _, rfl, rfl, _, rfl, Cm.itD (fun e1 => ?_) fun e1 => ?_⟩
        · exact q2 (ew.trans (if_pos (.inl e1)))
        refine ⟨_, rfl, _, rfl, p, CF K, dx, _, _, rfl, h1, T.c_Finder, T.n_Finder__me, fl_me, rfl, _, rfl, Cm.itEI (fun e2 => ?_) fun e2 => ?_⟩
        · exact q2 (ew.trans (if_pos (.inr e2)))
        refine ⟨_, rfl, _, rfl, Cm.small (by show 3 ≤ 100000; decide), fun t nt => ?_⟩
        exact q3 _ _ (ew.trans (if_neg fun z => z.elim e1 e2)) _ t (Cm.same_new nt) Cm.sqt_new
/-! ### finder.parked(), finder.image() -/
def spFParked (P : Program) (w : World) (K : PySem.W.Frag) : Sp := fun vs H Q _ => ∃ (p d wl : Addr) (me pl : Int) (ms : Marks) (ws : List V), vs = [.ref p] ∧ FindAt P w K H p d wl me pl ms ws ∧
  ∀ r, H r = none → Q (.ref r) (upd H r (.tup ws))
theorem ok_Finder_parked (T : Txt K mg w a) : FnOk P w K mg base CX0 1 (He.ma K (CF K) "parked") a.d_Finder_parked ["self"] (spFParked P w K) := by
  refine T.F_Finder_parked.ok sc_Finder_parked (fun vs H Q E h => ?_) (fun cdv A outer s H vs Q E hr h => ?_)
  · obtain ⟨p, d, wl, me, pl, ms, ws, rfl, _⟩ := h
    rfl
  · obtain ⟨p, d, wl, me, pl, ms, ws, rfl, F, q⟩ := h
    obtain ⟨⟨dx, h1⟩, ⟨kvs, h2, h3⟩, h4, h5⟩ := id F
    refine ⟨_, PSs.nox (pss_one (ps_ret (pe_callTy call_tuple_of (by rfl) T.g_tuple boot_tuple (pa_cons (pe_fld (pv 0) rfl) pa_nil)))), ?_⟩
    exact ⟨_, rfl, p, CF K, dx, _, _, rfl, h1, T.c_Finder, T.n_Finder__waiting, fl_wait, wl, ws, rfl, .inl ⟨SqL.of h4, q⟩⟩
abbrev kle (x y : NestedKey) : Bool := SortN.dle x.data y.data
def srtK (ms : Marks) : List NestedKey := (ms.map (·.1)).mergeSort kle
def rowD (ms : Marks) (k : NestedKey) : PyData := match lookM ms k with
  | some m => .tuple [k.data, .int m.1, .int m.2]
  | none => .none
def imgD (ms : Marks) (wd : List PyData) : PyData := .tuple [.tuple ((srtK ms).map (rowD ms)), .tuple wd]
theorem srtK_data (ms : Marks) : SortN.srt (ms.map (·.1.data)) = (srtK ms).map (·.data) := by
  have q := PySem.W.sort_maps (r := kle) (s := SortN.dle) (fun k : NestedKey => k.data) (l := ms.map (·.1)) (fun a _ b _ => rfl)
  unfold srtK
  rw [q, List.map_map]
  rfl
theorem srtK_mem {ms : Marks} {k : NestedKey} (h : k ∈ srtK ms) : k ∈ ms.map (·.1) := (List.mergeSort_perm _ _).mem_iff.mp h
abbrev NamesOk (ms : Marks) : Prop := ∀ k ∈ ms.map (·.1), ∃ ns j, k = nameK ns j
theorem nameK_data (ns : List Int) (j : Int) : (nameK ns j).data = .tuple [.tuple (ns.map PyData.int), .int j] := by simp only [nameK, NestedKey.data, NestedKey.datas, datas_num]
theorem alike_ints : ∀ ns zs : List Int, PySem.W.alikeAll (ns.map PyData.int) (zs.map PyData.int) = true
  | [], _ => by simp [PySem.W.alikeAll]
  | _ :: _, [] => by simp [PySem.W.alikeAll]
  | n :: ns, z :: zs => by simp [PySem.W.alikeAll, PySem.W.alike, alike_ints ns zs]
theorem names_alike {ms : Marks} (h : NamesOk ms) : PySem.W.AllAlike (ms.map (·.1.data)) := by
  intro d hd d' hd'
  rw [show (ms.map (·.1.data)) = (ms.map (·.1)).map (·.data) by rw [List.map_map]; rfl] at hd hd'
  obtain ⟨k, hk, rfl⟩ := List.mem_map.mp hd
  obtain ⟨k', hk', rfl⟩ := List.mem_map.mp hd'
  obtain ⟨ns, j, rfl⟩ := h k hk
  obtain ⟨ns', j', rfl⟩ := h k' hk'
  rw [nameK_data, nameK_data]
  simp [PySem.W.alike, PySem.W.alikeAll, alike_ints]
theorem names_sortable {ms : Marks} (h : NamesOk ms) : PySem.W.Sortable (ms.map (·.1.data)) := by
  refine .inl fun d hd => ?_
  rw [show (ms.map (·.1.data)) = (ms.map (·.1)).map (·.data) by rw [List.map_map]; rfl] at hd
  obtain ⟨k, hk, rfl⟩ := List.mem_map.mp hd
  obtain ⟨ns, j, rfl⟩ := h k hk
  exact ⟨_, _, nameK_data ns j⟩
theorem depth_ints : ∀ ns : List Int, PyData.depthAll (ns.map PyData.int) = 0
  | [] => rfl
  | n :: ns => by simp [PyData.depthAll, PyData.depth, depth_ints ns]
theorem names_depth {ms : Marks} (h : NamesOk ms) : ∀ d ∈ ms.map (·.1.data), d.depth ≤ 50 := by
  intro d hd
  rw [show (ms.map (·.1.data)) = (ms.map (·.1)).map (·.data) by rw [List.map_map]; rfl] at hd
  obtain ⟨k, hk, rfl⟩ := List.mem_map.mp hd
  obtain ⟨ns, j, rfl⟩ := h k hk
  rw [nameK_data]
  simp [PyData.depth, PyData.depthAll, depth_ints]
theorem mksV_keys {H : Hp} {kvs : List (NestedKey × V)} {ms : Marks} (h : MksV K H kvs ms) : kvs.map (·.1.data) = ms.map (·.1.data) := by
  induction h with
  | nil => rfl
  | cons h t ih => rw [List.map_cons, List.map_cons, ih, h.1]
theorem lookM_some {k : NestedKey} : ∀ {ms : Marks}, k ∈ ms.map (·.1) → ∃ m, lookM ms k = some m
  | (x, m) :: r, h => by
    unfold lookM
    by_cases e : x = k
    · exact ⟨m, if_pos e⟩
    · rw [if_neg e]
      rw [List.map_cons] at h
      rcases List.mem_cons.mp h with z | h
      · exact absurd z.symm e
      · exact lookM_some h
theorem rps_append {H : Hp} {vs us : List V} {ds es : List PyData} (h1 : Rps K H vs ds) (h2 : Rps K H us es) : Rps K H (vs ++ us) (ds ++ es) := h1.app h2
theorem nameK_key {H : Hp} {v : V} {k : NestedKey} (hk : ∃ ns j, k = nameK ns j) (r : Rp K H v k.data) : KeyAt K H v k := by
  obtain ⟨ns, j, rfl⟩ := hk
  rw [nameK_data] at r
  obtain ⟨b, vs, rfl, hb, hvs⟩ := r.tup_inv
  obtain ⟨v1, r1, rfl, h1, h2⟩ := hvs.cons_inv
  obtain ⟨v2, r2, rfl, h3, h4⟩ := h2.cons_inv
  obtain rfl := h4.nil_inv
  obtain rfl := h3.int_inv
  obtain ⟨pr, us, rfl, hp, hus⟩ := h1.tup_inv
  rw [rps_ints hus] at hp
  exact key_make hb hp
def spFImage (P : Program) (w : World) (K : PySem.W.Frag) : Sp := fun vs H Q _ => ∃ (p d wl : Addr) (me pl : Int) (ms : Marks) (ws : List V) (wd : List PyData), vs = [.ref p] ∧ FindAt P w K H p d wl me pl ms ws ∧ NamesOk ms ∧ ms.length ≤ 1000 ∧ Rps K H ws wd ∧
  ∀ H' v, Same H H' → Rp K H' v (imgD ms wd) → Q v H'
theorem ok_Finder_image (T : Txt K mg w a) : FnOk P w K mg base CX0 2 (He.ma K (CF K) "image") a.d_Finder_image ["self"] (spFImage P w K) := by
  refine T.F_Finder_image.ok sc_Finder_image (fun vs H Q E h => ?_) (fun cdv A outer s H vs Q E hr h => ?_)
  · obtain ⟨p, d, wl, me, pl, ms, ws, wd, rfl, _⟩ := h
    rfl
  · obtain ⟨p, d, wl, me, pl, ms, ws, wd, rfl, F, no, lm, rw0, q⟩ := h
    obtain ⟨⟨dx, h1⟩, ⟨kvs, h2, h3⟩, h4, h5⟩ := id F
    refine ⟨_, PSs.nox (pss_one (ps_ret (pe_tup (pa_cons (pe_callTy call_tuple_of (by rfl) T.g_tuple boot_tuple (pa_cons (pe_lc (own := [("name", 1)]) (g := gName 1) (tt := tYes) (te := (tOp (rCatA K) (tTup (tCons (tVar 1) tNil)) (ND.tNGet P w K (tFld K (tVar 0) "_marks") (tVar 1)))) (by rfl) sc_Finder_image.nd (pi_list (pe_callB (SortN.call_sortD rfl hr.units) (by rfl) T.g_sorted boot_sorted (pa_cons (pe_fld (pv 0) rfl) pa_nil))) (blkOk_by (own := [("name", 1)]) (N := N_Finder_image) (sc := defScope s_Finder_image) (by decide +kernel)) (fun _ _ _ _ _ => pg_name (i := 1) sc_Finder_image.nd rfl (Or.inl rfl)) (fun _ _ _ _ _ => pts_nil) (fun _ _ _ _ _ => (pe_op op_catA (pe_tup (pa_cons (pv 1) pa_nil)) (ND.pe_nget (ND.nu_of hr) (pe_fld (pv 0) rfl) (pv 1) (fun _ _ => rfl))))) pa_nil)) (pa_cons (pe_meth0 (pv 0) T.c_Finder T.m_Finder_parked (ok_Finder_parked T) (hr.mono (by omega)) T.b_Finder_parked .nil pass0) pa_nil))))), ?_⟩
    have ek := mksV_keys h3
    refine ⟨_, rfl, p, CF K, dx, _, _, rfl, h1, T.c_Finder, T.n_Finder__marks, fl_marks, d, kvs, rfl, h2, by rw [ek]; exact names_alike no, by rw [ek]; exact names_sortable no, by rw [ek]; exact names_depth no, fun ys q0 ry nq => ?_⟩
    rw [ek, srtK_data] at ry
    have s1 : Same H (upd H q0 (.lst ys)) := Cm.same_new nq
    refine ⟨q0, rfl, ⟨_, Cm.sql_new⟩, fun D nD => ?_⟩
    have ry1 := ry.keep (Same.tups s1)
    have hq0 : (upd H q0 (.lst ys)) q0 = some (.lst ys) := upd_same
    generalize upd H q0 (.lst ys) = H1 at *
    refine lc_list (K := K) (a := q0) (xs := ys) (fun n Hi => Same H1 Hi ∧ ∃ acc, Hi D = some (.lst acc) ∧ Rps K Hi acc (((srtK ms).take n).map (rowD ms)) ∧ acc.length = n) ⟨Cm.same_new nD, [], upd_same, .nil, rfl⟩ (fun n Hi _ b => SqL.of (b.1 _ _ hq0)) (fun n y Hi hy b => ?_) fun Hi b => ?_
    · obtain ⟨sH, acc, hD, rD, lD⟩ := b
      refine ⟨rfl, ?_⟩
      simp only [List.map_cons, List.map_nil, List.set_cons_succ, List.set_cons_zero, wipe]
      have hlen : ys.length = (srtK ms).length := by rw [ry1.len, List.length_map]
      have hn : n < (srtK ms).length := by
        rw [← hlen]
        exact (List.getElem?_eq_some_iff.mp hy).1
      have hkn : (srtK ms)[n]? = some (srtK ms)[n] := List.getElem?_eq_getElem hn
      obtain ⟨y', hy', ryk⟩ := ry1.at_ (i := n) (d := ((srtK ms)[n]).data) (by rw [List.getElem?_map, hkn]; rfl)
      rw [hy] at hy'
      cases hy'
      have hmem := srtK_mem (List.getElem_mem hn)
      generalize (srtK ms)[n] = k at hkn ryk hmem
      obtain ⟨m, hm⟩ := lookM_some hmem
      have hlk := h3.look k
      have hsm := h3.none_of k
      rw [hm] at hlk hsm
      obtain ⟨v, hv⟩ := Option.isSome_iff_exists.mp hsm
      rw [hv] at hlk
      obtain ⟨b0, rfl, hb0⟩ := hlk
      have s1i := s1.trans sH
      refine ⟨_, rfl, Cm.small (by show 1 ≤ 100000; decide), fun t nt => ?_⟩
      have st := s1i.trans (Cm.same_new (o := .tup [y]) nt)
      have rk2 : KeyAt K (upd Hi t (.tup [y])) y k := nameK_key (no k hmem) ((ryk.keep (Same.tups (sH.trans (Cm.same_new nt)))))
      refine ⟨_, rfl, p, CF K, dx, _, _, rfl, st _ _ h1, T.c_Finder, T.n_Finder__marks, fl_marks, _, rfl, d, kvs, k, _, rfl, h2.same st, rk2, hv, ?_⟩
      refine Nst.cat_sq Cm.sqt_new (Cm.sameT st hb0) (by show 3 ≤ 100000; decide) fun r H4 s4 hr4 => ?_
      have sD := (Cm.same_new (o := .tup [y]) nt).trans s4
      have hD4 := sD _ _ hD
      refine ⟨acc, hD4, Cm.smallL ?_, Cm.same_mut (sH.trans sD) nD, acc ++ [.ref r], upd_same, ?_, by rw [List.length_append, lD]; rfl⟩
      · have : (srtK ms).length = ms.length := by
          unfold srtK
          rw [List.length_mergeSort, List.length_map]
        omega
      · have tk : TK K H4 (upd H4 D (.lst (acc ++ [.ref r]))) := TK.upd (by rw [hD4]; exact True.intro)
        rw [List.take_succ, hkn, List.map_append]
        refine (rps_keep ((TK.same sD).trans tk) rD).app (.cons ?_ .nil)
        show Rp K _ _ (rowD ms k)
        unfold rowD
        rw [hm]
        refine rp_keep tk (.tup hr4 (.cons ?_ (.cons (.int _) (.cons (.int _) .nil))))
        exact ryk.keep (Same.tups (sH.trans sD))
    · obtain ⟨sH, acc, hD, rD, lD⟩ := b
      refine ⟨D, acc, rfl, .inl ⟨SqL.of hD, fun l nl => ?_⟩⟩
      have sl := (s1.trans sH).trans (Cm.same_new (o := .tup acc) nl)
      have rl : Rp K (upd Hi l (.tup acc)) (.ref l) (.tuple ((srtK ms).map (rowD ms))) := by
        have hlen : ys.length = (srtK ms).length := by rw [ry1.len, List.length_map]
        rw [hlen, List.take_length] at rD
        exact Rp.made nl rD
      refine ⟨_, rfl, p, dx, _, rfl, sl _ _ h1, fl_no (by decide +kernel), p, d, wl, _, _, ms, ws, rfl, F.same sl, fun r nr => ?_⟩
      have sr := sl.trans (Cm.same_new (o := .tup ws) nr)
      refine ⟨Cm.small (by show 2 ≤ 100000; decide), fun t nt => ?_⟩
      have stt := sr.trans (Cm.same_new (o := .tup [.ref l, .ref r]) nt)
      refine q _ _ stt (Rp.made nt (.cons (rl.keep (Same.tups (Cm.same_new nr))) (.cons ?_ .nil)))
      exact Rp.made nr (rw0.keep (Same.tups sl))
theorem lay_ints : ∀ ns : List Int, PyData.canLayAll0 (ns.map PyData.int) = true
  | [] => by simp [PyData.canLayAll0]
  | n :: ns => by simp [PyData.canLayAll0, PyData.canLay0, lay_ints ns]
theorem rowD_lay {ms : Marks} {k : NestedKey} (h : ∃ ns j, k = nameK ns j) : (rowD ms k).canLay0 = true ∧ (rowD ms k).depth ≤ 4 := by
  obtain ⟨ns, j, rfl⟩ := h
  unfold rowD
  split
  · rw [nameK_data]
    simp [PyData.canLay0, PyData.canLayAll0, lay_ints, PyData.depth, PyData.depthAll, depth_ints]
  · simp [PyData.canLay0, PyData.depth]
theorem rows_lay {ms : Marks} : ∀ {l : List NestedKey}, (∀ k ∈ l, ∃ ns j, k = nameK ns j) → PyData.canLayAll0 (l.map (rowD ms)) = true ∧ PyData.depthAll (l.map (rowD ms)) ≤ 4
  | [], _ => by simp [PyData.canLayAll0, PyData.depthAll]
  | k :: l, h => by
    have h1 := rowD_lay (ms := ms) (h k List.mem_cons_self)
    have h2 := rows_lay (ms := ms) (l := l) fun x hx => h x (List.mem_cons_of_mem _ hx)
    simp only [List.map_cons, PyData.canLayAll0, PyData.depthAll, h1.1, h2.1, Bool.and_self, true_and]
    omega
theorem imgD_shaped {ms : Marks} {wd : List PyData} (h : NamesOk ms) (h1 : PyData.canLayAll0 wd = true) (h2 : PyData.depthAll wd ≤ 60) : SeqAt.shaped (imgD ms wd) = true := by
  obtain ⟨g1, g2⟩ := rows_lay (ms := ms) (l := srtK ms) fun k hk => h k (srtK_mem hk)
  refine Nst.shaped_of ?_ ?_
  · unfold imgD
    simp [PyData.canLay0, PyData.canLayAll0, g1, h1]
  · unfold imgD
    simp only [PyData.depth, PyData.depthAll]
    omega
/-! ### bodies: is_on_the_way, object_of -/
def wayS : List V := [.str "call", .str "return", .str "please"]
def onWay (x : Str) : Bool := inV (.str x) wayS
def spOnWay (K : PySem.W.Frag) : Sp := fun vs H Q _ => ∃ (b : V) (x : Str) (r : List PyData), vs = [b] ∧ Rp K H b (.tuple (.str x :: r)) ∧ Q (.bl (onWay x)) H
theorem head_rp {H : Hp} {b : V} {x : PyData} {r : List PyData} (h : Rp K H b (.tuple (x :: r))) : ∃ a v vs, b = .ref a ∧ SqT K H a (v :: vs) ∧ Rp K H v x ∧ Rps K H vs r := by
  obtain ⟨a, vs, rfl, ha, hvs⟩ := h.tup_inv
  obtain ⟨v, rest, rfl, h1, h2⟩ := hvs.cons_inv
  exact ⟨a, v, rest, rfl, ha, h1, h2⟩
theorem ok_is_on_the_way (T : Txt K mg w a) : FnOk P w K mg base CX0 1 (He.ga K "is_on_the_way") a.d_is_on_the_way ["body"] (spOnWay K) := by
  refine T.F_is_on_the_way.ok sc_is_on_the_way (fun vs H Q E h => ?_) (fun cdv A outer s H vs Q E hr h => ?_)
  · obtain ⟨b, x, r, rfl, _⟩ := h
    rfl
  · obtain ⟨b, x, r, rfl, hb, q⟩ := h
    obtain ⟨c, v, vs, rfl, hc, hv, _⟩ := head_rp hb
    obtain rfl := hv.str_inv
    refine ⟨_, PSs.nox (pss_one (ps_ret (pe_cmpR op_in_seq (pe_ix ix_tup (pv 0) pe_int (fun _ _ => rfl)) (pe_glob (v := .ref (He.ga K "ON_THE_WAY")) (by rfl) T.g_ON_THE_WAY rfl) (by rfl)))), ?_⟩
    exact ⟨_, rfl, c, _, 0, _, rfl, rfl, hc, atI_nat (j := 0) rfl, _, wayS, rfl, .inr (T.k_ON_THE_WAY H), rfl, rfl, q⟩
def spCheckWay (K : PySem.W.Frag) : Sp := fun vs H Q E => ∃ (b : V) (x : Str) (r : List PyData), vs = [b] ∧ Rp K H b (.tuple (.str x :: r)) ∧ (onWay x = true → Q .non H) ∧ (onWay x = false → E (.ref (He.ga K "NotAllowed")) none H)
theorem ok_check_way (T : Txt K mg w a) : FnOk P w K mg base (L2.CX P w) 2 (He.ga K "_check_way") a.d_check_way ["body"] (spCheckWay K) := by
  refine T.F_check_way.ok (CX := L2.CX P w) sc_check_way (fun vs H Q E h => ?_) (fun cdv A outer s H vs Q E hr h => ?_)
  · obtain ⟨b, x, r, rfl, _⟩ := h
    rfl
  · obtain ⟨b, x, r, rfl, hb, q, qe⟩ := h
    refine ⟨_, (pss_one (ps_if (pt_not (pt_val (pe_call (ok_is_on_the_way T) (hr.mono (by omega)) (by rfl) T.g_is_on_the_way T.F_is_on_the_way.kp T.b_is_on_the_way .nil pass0 (pa_cons (pv 0) pa_nil)))) (pss_one (ps_raise rfl (takes_of rfl rfl rfl rfl) (SkE.pmk_own1 PySem.F.excBase_ValueError T.x_NotAllowed T.g_NotAllowed T.k_NotAllowed (raises_own T.s_NotAllowed T.t_NotAllowed) (by rfl) pe_str))) pss_nil)), ?_⟩
    exact ⟨_, rfl, b, x, r, rfl, hb, _, rfl, Cm.itBn (fun e => qe e) fun e => q e⟩
def spObjOf (K : PySem.W.Frag) : Sp := fun vs H Q E => ∃ (b : V) (x : Str) (nd : PyData) (r : List PyData), vs = [b] ∧ Rp K H b (.tuple (.str x :: nd :: r)) ∧ ((x = "at" ∨ onWay x = true) → ∀ v, Rp K H v nd → Q v H) ∧ (¬ (x = "at" ∨ onWay x = true) → E (.ref (He.ga K "NotAllowed")) none H)
theorem ok_object_of (T : Txt K mg w a) : FnOk P w K mg base (L2.CX P w) 3 (He.ga K "object_of") a.d_object_of ["body"] (spObjOf K) := by
  have gc := ok_check_way (P := P) (w := w) (base := base) T
  refine T.F_object_of.ok (CX := L2.CX P w) sc_object_of (fun vs H Q E h => ?_) (fun cdv A outer s H vs Q E hr h => ?_)
  · obtain ⟨b, x, nd, r, rfl, _⟩ := h
    rfl
  · obtain ⟨b, x, nd, r, rfl, hb, q, qe⟩ := h
    obtain ⟨c, v, vs, rfl, hc, hv, hvs⟩ := head_rp hb
    obtain rfl := hv.str_inv
    obtain ⟨v1, rest, rfl, h1, _⟩ := hvs.cons_inv
    refine ⟨_, (pss_cons (ps_if (pt_cmpR op_ne (pe_ix ix_tup (pv 0) pe_int (fun _ _ => rfl)) pe_str (nomark _)) (pss_one (ps_expr (pe_callS gc (hr.mono (by omega)) (by rfl) T.g_check_way T.F_check_way.kp T.b_check_way (fun σ => passAt (takes_of rfl rfl rfl rfl) σ) (pa_cons (pv 0) pa_nil)))) pss_nil)
      (pss_one (ps_ret (pe_ix ix_tup (pv 0) pe_int (fun _ _ => rfl))))), ?_⟩
    refine ⟨_, rfl, c, _, 0, _, rfl, rfl, hc, atI_nat (j := 0) rfl, rfl, _, rfl, Cm.itNS (fun e1 => ?_) fun e1 => ?_⟩
    · refine ⟨_, rfl, .ref c, x, _, rfl, hb, fun e2 => ?_, fun e2 => qe fun z => z.elim e1 (by rw [e2]; exact fun z => nomatch z)⟩
      exact ⟨_, rfl, c, _, 1, _, rfl, rfl, hc, atI_nat (j := 1) rfl, q (.inr e2) v1 h1⟩
    · exact ⟨_, rfl, c, _, 1, _, rfl, rfl, hc, atI_nat (j := 1) rfl, q (.inl e1) v1 h1⟩
/-! ### finder.park(body), finder.unpark(name) -/
theorem putF_putF (f : Str) (v u : V) : ∀ fs : List (Str × V), putF f v (putF f u fs) = putF f v fs
  | [] => by
    show (if f = f then [(f, v)] else _) = _
    rw [if_pos rfl]
    rfl
  | (g, z) :: r => by
    have ih := putF_putF f v u r
    show putF f v (if g = f then (g, u) :: r else (g, z) :: putF f u r) = (if g = f then (g, v) :: r else (g, z) :: putF f v r)
    by_cases e : g = f
    · rw [if_pos e, if_pos e]
      show (if g = f then _ else _) = _
      rw [if_pos e]
    · rw [if_neg e, if_neg e]
      show (if g = f then _ else (g, z) :: putF f v (putF f u r)) = _
      rw [if_neg e, ih]
theorem fl_put {me pl : Int} {d wl wl' : Addr} : putF "_waiting" (.ref wl') (fldsF me pl d wl) = fldsF me pl d wl' := by
  unfold fldsF
  exact putF_putF ..
def spFPark (P : Program) (w : World) (K : PySem.W.Frag) : Sp := fun vs H Q E => ∃ (p d wl : Addr) (me pl : Int) (ms : Marks) (ws : List V) (b : V) (x : Str) (r : List PyData), vs = [.ref p, b] ∧ FindAt P w K H p d wl me pl ms ws ∧ Rp K H b (.tuple (.str x :: r)) ∧ ws.length ≤ 1000 ∧
  (onWay x = true → FindAt P w K (upd H wl (.lst (ws ++ [b]))) p d wl me pl ms (ws ++ [b]) → Q .non (upd H wl (.lst (ws ++ [b])))) ∧ (onWay x = false → E (.ref (He.ga K "NotAllowed")) none H)
theorem ok_Finder_park (T : Txt K mg w a) : FnOk P w K mg base (L2.CX P w) 2 (He.ma K (CF K) "park") a.d_Finder_park ["self", "body"] (spFPark P w K) := by
  refine T.F_Finder_park.ok (CX := L2.CX P w) sc_Finder_park (fun vs H Q E h => ?_) (fun cdv A outer s H vs Q E hr h => ?_)
  · obtain ⟨p, d, wl, me, pl, ms, ws, b, x, r, rfl, _⟩ := h
    rfl
  · obtain ⟨p, d, wl, me, pl, ms, ws, b, x, r, rfl, F, hb, hl, q, qe⟩ := h
    obtain ⟨⟨dx, h1⟩, ⟨kvs, h2, h3⟩, h4, h5⟩ := id F
    refine ⟨_, (pss_cons (ps_if (pt_not (pt_val (pe_call (ok_is_on_the_way T) (hr.mono (by omega)) (by rfl) T.g_is_on_the_way T.F_is_on_the_way.kp T.b_is_on_the_way .nil pass0 (pa_cons (pv 1) pa_nil)))) (pss_one (ps_raise rfl (takes_of rfl rfl rfl rfl) (SkE.pmk_own1 PySem.F.excBase_ValueError T.x_NotAllowed T.g_NotAllowed T.k_NotAllowed (raises_own T.s_NotAllowed T.t_NotAllowed) (by rfl) pe_str))) pss_nil)
      (pss_one (ps_expr (pe_bm PySem.F.plainAttrs_list PySem.F.slot_list_append PySem.F.type_list_append mt_append (pe_fld (pv 0) rfl) (pa_cons (pv 1) pa_nil))))), ?_⟩
    refine ⟨_, rfl, b, x, r, rfl, hb, _, rfl, Cm.itBn (fun e => qe e) fun e => ?_⟩
    refine ⟨_, rfl, p, CF K, dx, _, _, rfl, h1, T.c_Finder, T.n_Finder__waiting, fl_wait, .inl ⟨rfl, _, SqL.of h4⟩, _, rfl, wl, ws, _, rfl, rfl, h4, Cm.smallL (by omega), ?_⟩
    have mu : Mut (H wl) := by rw [h4]; exact True.intro
    have n1 : p ≠ wl := fun z => by rw [z, h4] at h1; cases h1
    have n2 : d ≠ wl := fun z => by
      obtain ⟨u, hu, nu, _⟩ := h2.some
      rw [z, h4] at hu
      cases hu
      exact nu _ rfl
    exact q e ⟨⟨dx, by rw [upd_ne n1]; exact h1⟩, ⟨kvs, h2.keep (TK.upd mu) (upd_ne n2), MksV.keep (TK.upd mu) h3⟩, upd_same, h5⟩
/-- the object that a body is for -/
def objD : PyData → PyData
  | .tuple (_ :: x :: _) => x
  | _ => .none
/-- a body that may be parked -/
def BOk (d : PyData) : Prop := (∃ x nd r, d = .tuple (.str x :: nd :: r) ∧ onWay x = true ∧ SeqAt.shaped nd = true) ∧ d.canLay0 = true ∧ d.depth ≤ 20
abbrev forD (nd : PyData) (d : PyData) : Bool := PyData.eqv (objD d) nd
theorem take_flt {α : Type} {f : α → Bool} {l : List α} {n : Nat} {x : α} (h : l[n]? = some x) : (l.take (n + 1)).filter f = (l.take n).filter f ++ (if f x = true then [x] else []) := by
  rw [List.take_succ, h, List.filter_append]
  congr 1
  show [x].filter f = _
  rw [List.filter_cons, List.filter_nil]
def spFUnpark (P : Program) (w : World) (K : PySem.W.Frag) : Sp := fun vs H Q _ => ∃ (p d wl : Addr) (me pl : Int) (ms : Marks) (ws : List V) (wd : List PyData) (nm : V) (nd : PyData), vs = [.ref p, nm] ∧ FindAt P w K H p d wl me pl ms ws ∧ Rps K H ws wd ∧ (∀ b ∈ wd, BOk b) ∧ wd.length ≤ 1000 ∧ Rp K H nm nd ∧ SeqAt.shaped nd = true ∧
  ∀ (D wl' : Addr) (fv ws' : List V) (H' : Hp), H D = none → H wl' = none → D ≠ wl' → H' D = some (.lst fv) → Rps K H' fv (wd.filter (forD nd)) → FindAt P w K H' p d wl' me pl ms ws' → Rps K H' ws' (wd.filter fun b => !forD nd b) → (∀ c o, H c = some o → c ≠ p → H' c = some o) → Q (.ref D) H'
theorem ok_Finder_unpark (T : Txt K mg w a) : FnOk P w K mg base CX0 4 (He.ma K (CF K) "unpark") a.d_Finder_unpark ["self", "name"] (spFUnpark P w K) := by
  have go := ok_object_of (P := P) (w := w) (base := base) T
  refine T.F_Finder_unpark.ok sc_Finder_unpark (fun vs H Q E h => ?_) (fun cdv A outer s H vs Q E hr h => ?_)
  · obtain ⟨p, d, wl, me, pl, ms, ws, wd, nm, nd, rfl, _⟩ := h
    rfl
  · obtain ⟨p, d, wl, me, pl, ms, ws, wd, nm, nd, rfl, F, rw0, hB, lw, rn, shn, q⟩ := h
    obtain ⟨⟨dx, h1⟩, ⟨kvs, h2, h3⟩, h4, h5⟩ := id F
    refine ⟨_, PSs.nox (pss_cons (ps_setLc (i := 2) (own := [("body", 3)]) (g := gName 3) (tt := (tTest (tOp (rEqD K) (tCall (spObjOf K) [] E0 (tCons (tVar 3) tNil)) (tVar 1))))  (by rfl) sc_Finder_unpark.nd rfl rfl (sw_true rfl rfl rfl (by decide +kernel)) (pi_list (pe_fld (pv 0) rfl)) (blkOk_by (own := [("body", 3)]) (N := N_Finder_unpark) (sc := defScope s_Finder_unpark) (by decide +kernel)) (fun _ _ _ _ _ => pg_name (i := 3) sc_Finder_unpark.nd rfl (Or.inl rfl)) (fun _ _ _ _ _ => pts_one (pt_cmpR (op_eqD hr.units) (pe_call go (hr.mono (by omega)) (by rfl) T.g_object_of T.F_object_of.kp T.b_object_of .nil MethT.passF (pa_cons (pv 3) pa_nil)) (pv 1) (nomark _))) (fun _ _ _ _ _ => (pv 3)))
      (pss_cons (ps_fld (pv 0) (pe_lc (own := [("body", 3)]) (g := gName 3) (tt := (tTest (tOp (rNeD K) (tCall (spObjOf K) [] E0 (tCons (tVar 3) tNil)) (tVar 1))))  (by rfl) sc_Finder_unpark.nd (pi_list (pe_fld (pv 0) rfl)) (blkOk_by (own := [("body", 3)]) (N := N_Finder_unpark) (sc := defScope s_Finder_unpark) (by decide +kernel)) (fun _ _ _ _ _ => pg_name (i := 3) sc_Finder_unpark.nd rfl (Or.inl rfl)) (fun _ _ _ _ _ => pts_one (pt_cmpR (op_neD hr.units) (pe_call go (hr.mono (by omega)) (by rfl) T.g_object_of T.F_object_of.kp T.b_object_of .nil MethT.passF (pa_cons (pv 3) pa_nil)) (pv 1) (nomark _))) (fun _ _ _ _ _ => (pv 3))) rfl)
      (pss_one (ps_ret (pv 2))))), ?_⟩
    rw [show L2.start N_Finder_unpark [.ref p, nm] = [some (.ref p), some nm, none, none] from rfl]
    refine ⟨_, rfl, p, CF K, dx, _, _, rfl, h1, T.c_Finder, T.n_Finder__waiting, fl_wait, wl, rfl, ⟨_, SqL.of h4⟩, fun D nD => ?_⟩
    refine lc_list (K := K) (a := wl) (xs := ws) (fun n Hi => Same H Hi ∧ ∃ acc, Hi D = some (.lst acc) ∧ Rps K Hi acc ((wd.take n).filter (forD nd)) ∧ acc.length ≤ n) ⟨Cm.same_new nD, [], upd_same, .nil, Nat.le_refl _⟩ (fun n Hi _ b => SqL.of (b.1 _ _ h4)) (fun n y Hi hy b => ?_) fun Hi b => ?_
    · obtain ⟨sH, acc, hD, rD, lD⟩ := b
      refine ⟨rfl, ?_⟩
      simp only [List.map_cons, List.map_nil, List.set_cons_succ, List.set_cons_zero, wipe]
      have hl := rw0.len
      have hn : n < wd.length := by
        rw [← hl]
        exact (List.getElem?_eq_some_iff.mp hy).1
      have hbd : wd[n]? = some wd[n] := List.getElem?_eq_getElem hn
      obtain ⟨y', hy', ry⟩ := rw0.at_ hbd
      rw [hy] at hy'
      cases hy'
      have hok := hB _ (List.getElem_mem hn)
      generalize wd[n] = bd at hbd ry hok
      obtain ⟨⟨x, nd', r, rfl, how, shn'⟩, _⟩ := hok
      have hD4 : ∀ u, TK K Hi (upd Hi D (.lst u)) := fun u => TK.upd (by rw [hD]; exact True.intro)
      have ryi := ry.keep (Same.tups sH)
      refine ⟨_, rfl, y, x, nd', r, rfl, ryi, (fun _ v rv => ⟨_, rfl, _, _, rv.dp, (rn.keep (Same.tups sH)).dp, shn', shn, _, rfl, Cm.itB (fun e => ?_) fun e => ?_⟩), fun z => absurd (.inr how) z⟩
      · refine ⟨_, rfl, acc, hD, Cm.smallL (by omega), Cm.same_mut sH nD, acc ++ [y], upd_same, ?_, by rw [List.length_append]; simp only [List.length_cons, List.length_nil]; omega⟩
        rw [take_flt hbd, if_pos (show forD nd (PyData.tuple (.str x :: nd' :: r)) = true from e)]
        exact rps_keep (hD4 _) (rD.app (.cons ryi .nil))
      · refine ⟨sH, acc, hD, ?_, by omega⟩
        rw [take_flt hbd, if_neg (show ¬ forD nd (PyData.tuple (.str x :: nd' :: r)) = true from fun z => by rw [show PyData.eqv nd' nd = true from z] at e; cases e), List.append_nil]
        exact rD
    · obtain ⟨sH1, acc1, hD, rD1, lD1⟩ := b
      have lws : ws.length = wd.length := rw0.len
      rw [lws, List.take_length] at rD1
      have hw1 := sH1 _ _ h4
      simp only [gName, List.set_cons_succ, List.set_cons_zero]
      refine ⟨_, rfl, p, CF K, dx, _, _, rfl, sH1 _ _ h1, T.c_Finder, T.n_Finder__waiting, fl_wait, wl, rfl, ⟨_, SqL.of hw1⟩, fun D2 nD2 => ?_⟩
      have ne : D ≠ D2 := ne_of_none hD nD2
      refine lc_list (K := K) (a := wl) (xs := ws) (fun n Hj => Same Hi Hj ∧ ∃ acc, Hj D2 = some (.lst acc) ∧ Rps K Hj acc ((wd.take n).filter fun b => !forD nd b) ∧ acc.length ≤ n) ⟨Cm.same_new nD2, [], upd_same, .nil, Nat.le_refl _⟩ (fun n Hj _ b => SqL.of (b.1 _ _ hw1)) (fun n y Hj hy b => ?_) fun Hj b => ?_
      · obtain ⟨sH, acc, hD2, rD, lD⟩ := b
        refine ⟨rfl, ?_⟩
        simp only [List.map_cons, List.map_nil, List.set_cons_succ, List.set_cons_zero, wipe]
        have hl := rw0.len
        have hn : n < wd.length := by
          rw [← hl]
          exact (List.getElem?_eq_some_iff.mp hy).1
        have hbd : wd[n]? = some wd[n] := List.getElem?_eq_getElem hn
        obtain ⟨y', hy', ry⟩ := rw0.at_ hbd
        rw [hy] at hy'
        cases hy'
        have hok := hB _ (List.getElem_mem hn)
        generalize wd[n] = bd at hbd ry hok
        obtain ⟨⟨x, nd', r, rfl, how, shn'⟩, _⟩ := hok
        have hD4 : ∀ u, TK K Hj (upd Hj D2 (.lst u)) := fun u => TK.upd (by rw [hD2]; exact True.intro)
        have ryi := ry.keep (Same.tups (sH1.trans sH))
        refine ⟨_, rfl, y, x, nd', r, rfl, ryi, (fun _ v rv => ⟨_, rfl, _, _, rv.dp, (rn.keep (Same.tups (sH1.trans sH))).dp, shn', shn, _, rfl, Cm.itBn (fun e => ?_) fun e => ?_⟩), fun z => absurd (.inr how) z⟩
        · refine ⟨_, rfl, acc, hD2, Cm.smallL (by omega), Cm.same_mut sH nD2, acc ++ [y], upd_same, ?_, by rw [List.length_append]; simp only [List.length_cons, List.length_nil]; omega⟩
          rw [take_flt hbd, if_pos (show (!forD nd (PyData.tuple (.str x :: nd' :: r))) = true by rw [show forD nd (PyData.tuple (.str x :: nd' :: r)) = false from e]; rfl)]
          exact rps_keep (hD4 _) (rD.app (.cons ryi .nil))
        · refine ⟨sH, acc, hD2, ?_, by omega⟩
          rw [take_flt hbd, if_neg (show ¬ (!forD nd (PyData.tuple (.str x :: nd' :: r))) = true by rw [show forD nd (PyData.tuple (.str x :: nd' :: r)) = true from e]; decide), List.append_nil]
          exact rD
      · obtain ⟨s2, acc2, hD2, rD2, lD2⟩ := b
        rw [lws, List.take_length] at rD2
        have s12 := sH1.trans s2
        refine ⟨_, rfl, p, CF K, dx, _, rfl, s12 _ _ h1, T.c_Finder, T.n_Finder__waiting, Nat.lt_of_le_of_lt fl_len (by decide), ?_⟩
        rw [fl_put]
        have mu : Mut (Hj p) := by rw [s12 _ _ h1]; exact True.intro
        have nDp : D ≠ p := fun z => by
          have := s12 _ _ h1
          rw [← z, s2 _ _ hD] at this
          cases this
        have nD2p : D2 ≠ p := fun z => by
          have := s12 _ _ h1
          rw [← z, hD2] at this
          cases this
        have ndp : d ≠ p := fun z => by
          obtain ⟨xs, e, _⟩ := h2
          rw [z, h1] at e
          cases e
        refine ⟨_, rfl, q D D2 acc1 acc2 _ nD (sH1.free nD2) ne (by rw [upd_ne nDp]; exact s2 _ _ hD) (rps_keep (TK.upd mu) (rD1.keep (Same.tups s2))) ⟨⟨dx, upd_same⟩, ⟨kvs, (h2.same s12).keep (TK.upd mu) (upd_ne ndp), MksV.keep ((TK.same s12).trans (TK.upd mu)) h3⟩, by rw [upd_ne nD2p]; exact hD2, h5⟩ (rps_keep (TK.upd mu) rD2) fun c o hc hn => by rw [upd_ne hn]; exact s12 _ _ hc⟩
/-! ### forget -/
def dropM (ms : Marks) (k : NestedKey) : Marks := ms.filter fun x => decide (x.1 ≠ k)
theorem MksV.drop {K : PySem.W.Frag} {H : Hp} {kvs : List (NestedKey × V)} {ms : Marks} (h : MksV K H kvs ms) (k : NestedKey) : MksV K H (dropK kvs k) (dropM ms k) := by
  unfold dropK dropM
  induction h with
  | nil => exact .nil
  | @cons p q ps qs h t ih =>
    rw [List.filter_cons, List.filter_cons]
    by_cases e : p.1 = k
    · have e' : q.1 = k := h.1.symm.trans e
      simp only [e, e', ne_eq, not_true_eq_false, decide_false, Bool.false_eq_true, if_false]
      exact ih
    · have e' : ¬ q.1 = k := fun z => e (h.1.trans z)
      simp only [e, e', ne_eq, not_false_eq_true, decide_true, if_true]
      exact .cons h ih
theorem dropM_sub {ms : Marks} {k : NestedKey} : ∀ x ∈ dropM ms k, x ∈ ms := fun x hx => (List.mem_filter.mp hx).1
theorem dropM_none {ms : Marks} {k : NestedKey} (h : lookM ms k = none) : dropM ms k = ms := by
  unfold dropM
  induction ms with
  | nil => rfl
  | cons x r ih =>
    obtain ⟨y, m⟩ := x
    have h' : (if y = k then some m else lookM r k) = none := h
    by_cases e : y = k
    · rw [if_pos e] at h'
      cases h'
    · rw [if_neg e] at h'
      rw [List.filter_cons, if_pos (by simp [e]), ih h']
theorem look_dropM {k x : NestedKey} : ∀ {ms : Marks}, lookM (dropM ms k) x = if k = x then none else lookM ms x
  | [] => by by_cases e : k = x <;> simp [e, dropM, lookM]
  | (y, m) :: r => by
    have ih := look_dropM (k := k) (x := x) (ms := r)
    by_cases e : y = k
    · have e1 : dropM ((y, m) :: r) k = dropM r k := by
        unfold dropM
        rw [List.filter_cons, if_neg (by simp [e])]
      rw [e1, ih]
      by_cases e2 : k = x
      · rw [if_pos e2, if_pos e2]
      · rw [if_neg e2, if_neg e2]
        show _ = if y = x then some m else lookM r x
        rw [if_neg (by rw [e]; exact e2)]
    · have e1 : dropM ((y, m) :: r) k = (y, m) :: dropM r k := by
        unfold dropM
        rw [List.filter_cons, if_pos (by simp [e])]
      rw [e1]
      show (if y = x then some m else lookM (dropM r k) x) = _
      rw [ih]
      show _ = if k = x then none else if y = x then some m else lookM r x
      by_cases e2 : y = x
      · rw [if_pos e2, if_pos e2, if_neg (by rw [← e2]; exact fun z => e z.symm)]
      · rw [if_neg e2, if_neg e2]
def spForget (P : Program) (w : World) (K : PySem.W.Frag) : Sp := fun vs H Q _ => ∃ (p d wl : Addr) (me pl : Int) (ms : Marks) (ws : List V) (nm : V) (k : NestedKey), vs = [.ref p, nm] ∧ FindAt P w K H p d wl me pl ms ws ∧ KeyAt K H nm k ∧
  ∀ H', FindAt P w K H' p d wl me pl (dropM ms k) ws → (∀ b o, H b = some o → b ≠ d → H' b = some o) → Q .non H'
theorem ok_Finder_forget (T : Txt K mg w a) : FnOk P w K mg base CX0 1 (He.ma K (CF K) "forget") a.d_Finder_forget ["self", "name"] (spForget P w K) := by
  refine T.F_Finder_forget.ok sc_Finder_forget (fun vs H Q E h => ?_) (fun cdv A outer s H vs Q E hr h => ?_)
  · obtain ⟨p, d, wl, me, pl, ms, ws, nm, k, rfl, _⟩ := h
    rfl
  · obtain ⟨p, d, wl, me, pl, ms, ws, nm, k, rfl, F, hk, q⟩ := h
    obtain ⟨⟨dx, h1⟩, ⟨kvs, h2, h3⟩, h4, h5⟩ := id F
    refine ⟨_, PSs.nox (pss_one (ps_if (pt_cmp (ND.pc_nin (ND.nu_of hr) (pv 1) (pe_fld (pv 0) rfl))) (pss_one (ND.ps_ndel (ND.nu_of hr) (pe_fld (pv 0) rfl) (pv 1))) pss_nil)), ?_⟩
    have npd : p ≠ d := fun z => by
      obtain ⟨xs, e, _⟩ := h2
      rw [z, e] at h1
      cases h1
    have nwd : wl ≠ d := fun z => by
      obtain ⟨xs, e, _⟩ := h2
      rw [z, e] at h4
      cases h4
    have mu : Mut (H d) := h2.some.choose_spec.2.2.2
    have hs := h3.none_of k
    refine ⟨_, rfl, _, rfl, p, CF K, dx, _, _, rfl, h1, T.c_Finder, T.n_Finder__marks, fl_marks, d, kvs, k, rfl, h2, hk, _, rfl, Cm.itV (fun e => ?_) fun e => ?_⟩
    · refine ⟨_, rfl, p, CF K, dx, _, _, rfl, h1, T.c_Finder, T.n_Finder__marks, fl_marks, _, rfl, d, kvs, k, rfl, h2, hk, e, fun o g => ?_⟩
      refine q _ ⟨⟨dx, by rw [upd_ne npd]; exact h1⟩, ⟨_, g, MksV.keep (TK.upd mu) (h3.drop k)⟩, by rw [upd_ne nwd]; exact h4, h5.sublist (List.Sublist.map _ List.filter_sublist)⟩ fun b o' hb n => by rw [upd_ne n]; exact hb
    · rw [e] at hs
      have en : lookM ms k = none := by
        cases z : lookM ms k with
        | none => rfl
        | some m => rw [z] at hs; cases hs
      refine q H ?_ fun b o hb _ => hb
      rw [dropM_none en]
      exact F
/-! ### finder.copy() -/
theorem mksV_kk {H : Hp} {kvs : List (NestedKey × V)} {ms : Marks} (h : MksV K H kvs ms) : kvs.map (·.1) = ms.map (·.1) := by
  induction h with
  | nil => rfl
  | cons h t ih => rw [List.map_cons, List.map_cons, ih, h.1]
theorem putK_new {l : List (NestedKey × V)} {k : NestedKey} {v : V} (h : k ∉ l.map (·.1)) : putK l k v = l ++ [(k, v)] := by
  unfold putK
  rw [if_neg]
  intro z
  obtain ⟨y, hy, e⟩ := List.any_eq_true.mp z
  exact h (List.mem_map.mpr ⟨y, hy, of_decide_eq_true e⟩)
theorem valV_at : ∀ {l : List (NestedKey × V)} {i : Nat} {k : NestedKey} {v : V}, (l.map (·.1)).Nodup → l[i]? = some (k, v) → valV l k = some v
  | p :: r, 0, k, v, _, h => by
    cases h
    exact valV_pos rfl
  | p :: r, i + 1, k, v, nd, h => by
    rw [List.map_cons, List.nodup_cons] at nd
    have h2 : r[i]? = some (k, v) := by simpa using h
    rw [valV_neg fun z => nd.1 (by rw [z]; exact List.mem_map.mpr ⟨(k, v), List.mem_of_getElem? h2, rfl⟩)]
    exact valV_at nd.2 h2
theorem fresh_take {l : List (NestedKey × V)} {i : Nat} {k : NestedKey} {v : V} (nd : (l.map (·.1)).Nodup) (h : l[i]? = some (k, v)) : k ∉ (l.take i).map (·.1) := by
  intro z
  obtain ⟨hi, e⟩ := List.getElem?_eq_some_iff.mp h
  have hd : l.drop i = (k, v) :: l.drop (i + 1) := by
    rw [List.drop_eq_getElem_cons hi, e]
  have nd2 := nd
  rw [← List.take_append_drop i l, List.map_append, hd, List.map_cons] at nd2
  exact (List.nodup_append.mp nd2).2.2 _ z _ List.mem_cons_self rfl
theorem fl_putM {me pl : Int} {d d' wl : Addr} : putF "_marks" (.ref d') (fldsF me pl d wl) = fldsF me pl d' wl := rfl
theorem fl_putW {me pl : Int} {d wl wl' : Addr} : putF "_waiting" (.ref wl') (fldsF me pl d wl) = fldsF me pl d wl' := rfl
def spFCopy (P : Program) (w : World) (K : PySem.W.Frag) : Sp := fun vs H Q _ => ∃ (p d wl : Addr) (me pl : Int) (ms : Marks) (ws : List V), vs = [.ref p] ∧ FindAt P w K H p d wl me pl ms ws ∧ ms.length ≤ 1000 ∧
  ∀ H' p' d' wl', H p' = none → H d' = none → H wl' = none → FindAt P w K H' p' d' wl' me pl ms ws → Same H H' → Q (.ref p') H'
theorem ok_Finder_copy (T : Txt K mg w a) : FnOk P w K mg base CX0 3 (He.ma K (CF K) "copy") a.d_Finder_copy ["self"] (spFCopy P w K) := by
  refine T.F_Finder_copy.ok sc_Finder_copy (fun vs H Q E h => ?_) (fun cdv A outer s H vs Q E hr h => ?_)
  · obtain ⟨p, d, wl, me, pl, ms, ws, rfl, _⟩ := h
    rfl
  · obtain ⟨p, d, wl, me, pl, ms, ws, rfl, F, lm, q⟩ := h
    obtain ⟨⟨dx, h1⟩, ⟨kvs, h2, h3⟩, h4, h5⟩ := id F
    refine ⟨_, PSs.nox (pss_cons (ps_set (i := 1) sc_Finder_copy.nd rfl (Or.inl rfl) (pe_make T.k_Finder (ok_Finder_init T) (hr.mono (by omega)) (by rfl) T.g_Finder T.b_Finder_init .nil pass0 (pa_cons (pe_fld (pv 0) rfl) (pa_cons (pe_fld (pv 0) rfl) pa_nil))))
      (pss_cons (ps_fld (pv 1) (pe_lock (NDc.pe_ndc (own := [("name", 2)]) (g := gName 2) (tk := (tVar 2)) (tv := (NKey.tNGetF P w K (tFld K (tVar 0) "_marks") (tVar 2))) (by rfl) sc_Finder_copy.nd (ND.nu_of hr) (NKey.pi_nkeys (pe_fld (pv 0) rfl)) (blkOk_by (own := [("name", 2)]) (N := N_Finder_copy) (sc := defScope s_Finder_copy) (by decide +kernel)) (fun _ _ _ _ _ => (pg_name (i := 2) sc_Finder_copy.nd rfl (Or.inl rfl))) (fun _ _ _ _ _ => (pv 2)) (fun _ _ _ _ _ => (NKey.pe_ngetF (ND.nu_of hr) (pe_fld (pv 0) rfl) (pv 2) (fun _ _ => rfl))))) rfl)
      (pss_cons (ps_fld (pv 1) (pe_callTy call_list_of (by rfl) T.g_list boot_list (pa_cons (pe_fld (pv 0) rfl) pa_nil)) rfl)
      (pss_one (ps_ret (pv 1)))))), ?_⟩
    rw [show L2.start N_Finder_copy [.ref p] = [some (.ref p), none, none] from rfl]
    refine ⟨_, rfl, p, CF K, dx, _, _, rfl, h1, T.c_Finder, T.n_Finder__me, fl_me, _, rfl, p, CF K, dx, _, _, rfl, h1, T.c_Finder, T.n_Finder__places, fl_places, fun x dx' nx ndx nex => ⟨x, dx', _, _, rfl, upd_same, fun d0 w0 H1 hd0 hw0 F1 fr1 => ⟨rfl, ?_⟩⟩⟩
    have s1 : Same H H1 := fun b o hb => fr1 b o (by rw [upd_ne (ne_of_none hb nx), upd_ne (ne_of_none hb ndx)]; exact hb) (ne_of_none hb nx)
    obtain ⟨dxx, x1⟩ := F1.ob
    clear fr1 hd0 hw0 nex ndx
    obtain ⟨us, hu, kn⟩ := id (h2.same s1)
    have mu : Mut (some (ndO P w us d)) := by rw [← hu]; exact (h2.same s1).some.choose_spec.2.2.2
    have mu1 : Mut (H1 d) := by rw [hu]; exact mu
    have npd : p ≠ d := fun z => by
      have := s1 _ _ h1
      rw [z, hu] at this
      cases this
    have nxd : x ≠ d := fun z => by
      rw [z, hu] at x1
      cases x1
    simp only [gName, List.set_cons_succ, List.set_cons_zero]
    refine ⟨d, ndO P w us d, hu, mu, fun od => ⟨_, rfl, p, CF K, dx, _, _, rfl, by rw [upd_ne npd]; exact s1 _ _ h1, T.c_Finder, T.n_Finder__marks, fl_marks, d, od, kvs, rfl, ⟨us, upd_same, KN.keep (TK.upd mu1) kn⟩, fun D o nD gD => ?_⟩⟩
    have tkf : TK K H1 (upd H1 d (.frz od (ndO P w us d))) := TK.upd mu1
    have hfz : (upd H1 d (.frz od (ndO P w us d))) d = some (.frz od (ndO P w us d)) := upd_same
    have hpf : (upd H1 d (.frz od (ndO P w us d))) p = some (.ins (CF K) dx (fldsF me pl d wl)) := by rw [upd_ne npd]; exact s1 _ _ h1
    have back : ∀ b u, b ≠ d → H1 b = some u → (upd H1 d (.frz od (ndO P w us d))) b = some u := fun b u n hb => by rw [upd_ne n]; exact hb
    have knf := KN.keep tkf kn
    have nDd : D ≠ d := fun z => by
      rw [z, hfz] at nD
      cases nD
    have ek := mksV_kk h3
    have ndk : (kvs.map (·.1)).Nodup := by rw [ek]; exact h5
    have lk : kvs.length ≤ 1000 := by
      have := congrArg List.length ek
      rw [List.length_map, List.length_map] at this
      omega
    generalize upd H1 d (.frz od (ndO P w us d)) = Hf at *
    have sD := Cm.same_new (o := o) nD
    refine NDc.ndc_it NKey.walk_nkeys (fun i Hi => Same Hf Hi ∧ NDct P w K Hi D (kvs.take i)) ⟨sD, gD⟩ (fun i Hi _ b => ⟨us, b.1 _ _ hfz, KN.keep (TK.same b.1) knf⟩) (fun i y Hi Hi' hi b z => ?_) fun Hi b => ?_
    · obtain ⟨sH, gH⟩ := b
      obtain ⟨eH, k, v, hkv, ky⟩ := z
      subst eH
      refine ⟨rfl, _, rfl, _, rfl, p, CF K, dx, _, _, rfl, sH _ _ hpf, T.c_Finder, T.n_Finder__marks, fl_marks, _, rfl, d, od, kvs, k, v, rfl, ⟨us, sH _ _ hfz, KN.keep (TK.same sH) knf⟩, ky, valV_at ndk hkv, _, k, gH, ky, Cm.smallL (by rw [List.length_take]; omega), fun o' g' => ?_⟩
      rw [putK_new (fresh_take ndk hkv)] at g'
      refine ⟨fun b u hb => ?_, ?_⟩
      · rw [upd_ne (ne_of_none hb nD)]
        exact sH _ _ hb
      · rw [List.take_succ, hkv]
        exact g'
    · obtain ⟨sH, gH⟩ := b
      rw [List.take_length] at gH
      have hfi := sH _ _ hfz
      refine ⟨hfi, ?_⟩
      have sZ : Same H1 (upd Hi d (ndO P w us d)) := fun b u hb => by
        by_cases z : b = d
        · rw [z] at hb ⊢
          rw [upd_same, ← hu]
          exact hb
        · rw [upd_ne z]
          exact sH _ _ (back b u z hb)
      have tkZ : TK K Hi (upd Hi d (ndO P w us d)) := fun c vs h => by
        rcases h with (h | ⟨u, h⟩) | h
        · by_cases z : c = d
          · rw [z, hfi] at h
            cases h
          · exact .inl (.inl (by rw [upd_ne z]; exact h))
        · by_cases z : c = d
          · rw [z, hfi] at h
            cases h
          · exact .inl (.inr ⟨u, by rw [upd_ne z]; exact h⟩)
        · exact .inr h
      have gZ : NDct P w K (upd Hi d (ndO P w us d)) D kvs := gH.keep tkZ (upd_ne nDd)
      have hD1 : H1 D = none := by
        cases e : H1 D with
        | none => rfl
        | some u =>
          have := back D u nDd e
          rw [nD] at this
          cases this
      have xZ := sZ _ _ x1
      have nxD : x ≠ D := ne_of_none x1 hD1
      generalize upd Hi d (ndO P w us d) = HZ at *
      obtain ⟨uD, hDz, _, _, muD⟩ := gZ.some
      refine ⟨_, rfl, x, CF K, dxx, _, rfl, xZ, T.c_Finder, T.n_Finder__marks, Nat.lt_of_le_of_lt fl_len (by decide), ?_⟩
      rw [fl_putM]
      have muX : Mut (HZ x) := by rw [xZ]; exact True.intro
      have sA : Same H (upd HZ x (.ins (CF K) dxx (fldsF me pl D w0))) := fun b u hb => by
        rw [upd_ne (ne_of_none hb nx)]
        exact sZ _ _ (s1 _ _ hb)
      have a1 : (upd HZ x (.ins (CF K) dxx (fldsF me pl D w0))) x = some (.ins (CF K) dxx (fldsF me pl D w0)) := upd_same
      have a2 : NDct P w K (upd HZ x (.ins (CF K) dxx (fldsF me pl D w0))) D kvs := gZ.keep (TK.upd muX) (upd_ne nxD.symm)
      generalize upd HZ x (.ins (CF K) dxx (fldsF me pl D w0)) = HA at *
      refine ⟨_, rfl, p, CF K, dx, _, _, rfl, sA _ _ h1, T.c_Finder, T.n_Finder__waiting, fl_wait, wl, ws, rfl, .inl (SqL.of (sA _ _ h4)), fun l1 nl1 => ?_⟩
      have nxl : x ≠ l1 := ne_of_none a1 nl1
      have hl1 : H l1 = none := sA.free nl1
      have sl := Cm.same_new (o := .lst ws) nl1
      refine ⟨_, rfl, x, CF K, dxx, _, rfl, by rw [upd_ne nxl]; exact a1, T.c_Finder, T.n_Finder__waiting, Nat.lt_of_le_of_lt fl_len (by decide), ?_⟩
      rw [fl_putW]
      have muY : Mut ((upd HA l1 (.lst ws)) x) := by rw [sl _ _ a1]; exact True.intro
      have sB : Same H (upd (upd HA l1 (.lst ws)) x (.ins (CF K) dxx (fldsF me pl D l1))) := fun b u hb => by
        rw [upd_ne (ne_of_none hb nx)]
        exact sl _ _ (sA _ _ hb)
      refine ⟨_, rfl, q _ x D l1 nx (s1.free hD1) hl1 ⟨⟨dxx, upd_same⟩, ⟨kvs, (a2.same sl).keep (TK.upd muY) (upd_ne nxD.symm), MksV.keep (TK.same sB) h3⟩, ?_, h5⟩ sB⟩
      rw [upd_ne nxl.symm, upd_same]
/-! ### five names -/
abbrev n5 : List (List Int × Int) := [([], 0), ([], 10), ([0], 3), ([0, 1], 12), ([1], 0)]
abbrev k5 : List NestedKey := n5.map fun x => nameK x.1 x.2
abbrev k6 : List NestedKey := k5 ++ [nameK [9] 9]
theorem k6_eqv : ∀ a ∈ k6, ∀ b ∈ k6, PyData.eqv a.data b.data = decide (a = b) := by decide +kernel
theorem k6_ok : ∀ k ∈ k6, ∃ ns j, k = nameK ns j := by
  intro k hk
  rcases List.mem_append.mp hk with h | h
  · obtain ⟨x, _, rfl⟩ := List.mem_map.mp h
    exact ⟨_, _, rfl⟩
  · rw [List.mem_singleton.mp h]
    exact ⟨_, _, rfl⟩
theorem dle_tot : PySem.W.TotalLe SortN.dle := PySem.W.sortLe_total _ _ _
theorem srt_srt (l : List PyData) : SortN.srt (SortN.srt l) = SortN.srt l := List.mergeSort_of_pairwise (List.pairwise_mergeSort (fun a b c => dle_tot.trans a b c) (fun a b => by rw [Bool.or_eq_true]; exact dle_tot.total a b) l)
theorem look_mem {k : NestedKey} {m : Int × Int} : ∀ {ms : Marks}, lookM ms k = some m → k ∈ ms.map (·.1)
  | (x, n) :: r, h => by
    have h' : (if x = k then some n else lookM r k) = some m := h
    by_cases e : x = k
    · rw [← e]; exact List.mem_cons_self
    · rw [if_neg e] at h'
      exact List.mem_cons_of_mem _ (look_mem h')
theorem hear_keys {ms : Marks} {k : NestedKey} {q c : Int} : ∀ x ∈ (hearM ms k q c).map (·.1), x = k ∨ x ∈ ms.map (·.1) := by
  intro x hx
  unfold hearM at hx
  split at hx
  · exact putM_keys k (q, c) ms x hx
  · split at hx
    · exact putM_keys k (q, c) ms x hx
    · exact .inr hx
theorem hear_len (ms : Marks) (k : NestedKey) (q c : Int) : (hearM ms k q c).length ≤ ms.length + 1 := by
  have h := putM_len k (q, c) ms
  unfold hearM
  split
  · exact h
  · split
    · exact h
    · exact Nat.le_succ _
theorem name_lay (ns : List Int) (j : Int) : (nameK ns j).data.canLay0 = true ∧ (nameK ns j).data.depth ≤ 2 := by
  rw [nameK_data]
  simp [PyData.canLay0, PyData.canLayAll0, lay_ints, PyData.depth, PyData.depthAll, depth_ints]
theorem name_shaped (ns : List Int) (j : Int) : SeqAt.shaped (nameK ns j).data = true := Nst.shaped_of (name_lay ns j).1 (by have := (name_lay ns j).2; omega)
/-- a body that asks for a carry -/
theorem pl_ok (ns : List Int) (j g k : Int) : BOk (.tuple [.str "please", (nameK ns j).data, .int g, .int k]) := by
  obtain ⟨h1, h2⟩ := name_lay ns j
  refine ⟨⟨_, _, _, rfl, by decide +kernel, name_shaped ns j⟩, ?_, ?_⟩
  · simp [PyData.canLay0, PyData.canLayAll0, h1, show PyData.strOk "please" = true from by decide +kernel]
  · simp only [PyData.depth, PyData.depthAll]
    omega
theorem bodies_lay {wd : List PyData} (h : ∀ b ∈ wd, BOk b) : PyData.canLayAll0 wd = true ∧ PyData.depthAll wd ≤ 20 := by
  induction wd with
  | nil => simp [PyData.canLayAll0, PyData.depthAll]
  | cons b r ih =>
    have h1 := (h b List.mem_cons_self).2
    have h2 := ih fun x hx => h x (List.mem_cons_of_mem _ hx)
    simp only [PyData.canLayAll0, PyData.depthAll, h1.1, h2.1, Bool.and_self, true_and]
    omega
/-! ### images that differ -/
theorem rowD_at {ms : Marks} {k : NestedKey} (h : k ∈ ms.map (·.1)) : ∃ q c, rowD ms k = .tuple [k.data, .int q, .int c] := by
  obtain ⟨m, hm⟩ := lookM_some h
  unfold rowD
  rw [hm]
  exact ⟨_, _, rfl⟩
theorem eqvAll_rows {ms ms' : Marks} : ∀ (l l' : List NestedKey), (∀ k ∈ l, k ∈ k6 ∧ k ∈ ms.map (·.1)) → (∀ k ∈ l', k ∈ k6 ∧ k ∈ ms'.map (·.1)) → PyData.eqvAll (l.map (rowD ms)) (l'.map (rowD ms')) = true → l = l'
  | [], [], _, _, _ => rfl
  | [], _ :: _, _, _, h => by simp [PyData.eqvAll] at h
  | _ :: _, [], _, _, h => by simp [PyData.eqvAll] at h
  | x :: l, y :: l', h1, h2, h => by
    obtain ⟨hx, hx'⟩ := h1 x List.mem_cons_self
    obtain ⟨hy, hy'⟩ := h2 y List.mem_cons_self
    obtain ⟨q, c, e1⟩ := rowD_at hx'
    obtain ⟨q', c', e2⟩ := rowD_at hy'
    rw [List.map_cons, List.map_cons, PyData.eqvAll, Bool.and_eq_true, e1, e2] at h
    have e := h.1
    rw [PyData.eqv, PyData.eqvAll, Bool.and_eq_true, k6_eqv x hx y hy] at e
    rw [of_decide_eq_true e.1, eqvAll_rows l l' (fun k hk => h1 k (List.mem_cons_of_mem _ hk)) (fun k hk => h2 k (List.mem_cons_of_mem _ hk)) h.2]
theorem img_ne {ms ms' : Marks} {wd wd' : List PyData} (h1 : ∀ k ∈ ms.map (·.1), k ∈ k6) (h2 : ∀ k ∈ ms'.map (·.1), k ∈ k6) {g : NestedKey} (g1 : g ∈ ms.map (·.1)) (g2 : g ∉ ms'.map (·.1)) : PyData.eqv (imgD ms wd) (imgD ms' wd') = false := by
  cases e : PyData.eqv (imgD ms wd) (imgD ms' wd') with
  | false => rfl
  | true =>
    unfold imgD at e
    simp only [PyData.eqv, PyData.eqvAll, Bool.and_true, Bool.and_eq_true] at e
    have e2 := eqvAll_rows _ _ (fun k hk => ⟨h1 k (srtK_mem hk), srtK_mem hk⟩) (fun k hk => ⟨h2 k (srtK_mem hk), srtK_mem hk⟩) e.1
    have m : g ∈ srtK ms := (List.mergeSort_perm _ _).mem_iff.mpr g1
    rw [e2] at m
    exact absurd (srtK_mem m) g2
/-! ### what is known of a finder -/
structure FD (P : Program) (w : World) (K : PySem.W.Frag) (H : Hp) (p d wl : Addr) (me pl : Int) (ms : Marks) (wd : List PyData) : Prop where
  g : ∃ ws, FindAt P w K H p d wl me pl ms ws ∧ Rps K H ws wd
structure FB (ks : List NestedKey) (m : Nat) (ms : Marks) (wd : List PyData) : Prop where
  l : ms.length ≤ m
  i : ∀ k ∈ ms.map (·.1), k ∈ ks
  n : wd.length ≤ m
  b : ∀ b ∈ wd, BOk b
theorem FB.mono {ks : List NestedKey} {m m' : Nat} {ms : Marks} {wd : List PyData} (h : m ≤ m') (B : FB ks m ms wd) : FB ks m' ms wd := ⟨Nat.le_trans B.l h, B.i, Nat.le_trans B.n h, B.b⟩
theorem FB.wide {ks ks' : List NestedKey} {m : Nat} {ms : Marks} {wd : List PyData} (h : ∀ k ∈ ks, k ∈ ks') (B : FB ks m ms wd) : FB ks' m ms wd := ⟨B.l, fun k hk => h k (B.i k hk), B.n, B.b⟩
theorem FB.hear {ks : List NestedKey} {m : Nat} {ms : Marks} {wd : List PyData} {k : NestedKey} {q c : Int} (B : FB ks m ms wd) (hk : k ∈ ks) : FB ks (m + 1) (hearM ms k q c) wd :=
  ⟨by have := hear_len ms k q c; have := B.l; omega, fun x hx => (hear_keys x hx).elim (fun z => z ▸ hk) (B.i x), by have := B.n; omega, B.b⟩
theorem FB.park {ks : List NestedKey} {m : Nat} {ms : Marks} {wd : List PyData} {b : PyData} (B : FB ks m ms wd) (hb : BOk b) : FB ks (m + 1) ms (wd ++ [b]) :=
  ⟨by have := B.l; omega, B.i, by rw [List.length_append]; have := B.n; simp only [List.length_cons, List.length_nil]; omega, fun x hx => by
    rcases List.mem_append.mp hx with h | h
    · exact B.b x h
    · rw [List.mem_singleton.mp h]; exact hb⟩
theorem FB.filt {ks : List NestedKey} {m : Nat} {ms : Marks} {wd : List PyData} {f : PyData → Bool} (B : FB ks m ms wd) : FB ks m ms (wd.filter f) :=
  ⟨B.l, B.i, Nat.le_trans (List.length_filter_le _ _) B.n, fun x hx => B.b x (List.mem_filter.mp hx).1⟩
theorem FB.drop {ks : List NestedKey} {m : Nat} {ms : Marks} {wd : List PyData} {k : NestedKey} (B : FB ks m ms wd) : FB ks m (dropM ms k) wd :=
  ⟨Nat.le_trans (List.length_filter_le _ _) B.l, fun x hx => B.i x ((List.Sublist.map _ List.filter_sublist).subset hx), B.n, B.b⟩
theorem FB.shaped {m : Nat} {ms : Marks} {wd : List PyData} (B : FB k6 m ms wd) : SeqAt.shaped (imgD ms wd) = true := by
  obtain ⟨h1, h2⟩ := bodies_lay B.b
  exact imgD_shaped (fun k hk => k6_ok k (B.i k hk)) h1 (by omega)
/-- all stays but what belongs to one finder -/
def Fr (p d wl : Addr) (H H' : Hp) : Prop := ∀ c u, H c = some u → c ≠ p → c ≠ d → c ≠ wl → H' c = some u
section
variable {H H' H2 HB : Hp} {p d wl wl' : Addr} {me pl : Int} {ms : Marks} {wd : List PyData}
theorem FD.same (s : Same H H') (D : FD P w K H p d wl me pl ms wd) : FD P w K H' p d wl me pl ms wd := by
  obtain ⟨ws, F, r⟩ := D
  exact ⟨ws, F.same s, r.keep (Same.tups s)⟩
theorem FD.there (D : FD P w K H p d wl me pl ms wd) : (∃ o, H p = some o) ∧ (∃ o, H d = some o) ∧ ∃ o, H wl = some o := by
  obtain ⟨ws, ⟨⟨dx, h1⟩, ⟨kvs, ⟨xs, e, _⟩, _⟩, h4, _⟩, r⟩ := D
  exact ⟨⟨_, h1⟩, ⟨_, e⟩, ⟨_, h4⟩⟩
theorem FD.muts (D : FD P w K H p d wl me pl ms wd) : Mut (H p) ∧ Mut (H d) ∧ Mut (H wl) := by
  obtain ⟨ws, ⟨⟨dx, h1⟩, ⟨kvs, h2, _⟩, h4, _⟩, r⟩ := D
  exact ⟨by rw [h1]; exact True.intro, h2.some.choose_spec.2.2.2, by rw [h4]; exact True.intro⟩
theorem FD.lists {c : Addr} {us : List V} (D : FD P w K H p d wl me pl ms wd) (h : H c = some (.lst us)) : c ≠ p ∧ c ≠ d := by
  obtain ⟨ws, ⟨⟨dx, h1⟩, ⟨kvs, ⟨xs, e, _⟩, _⟩, h4, _⟩, r⟩ := D
  exact ⟨fun z => (by rw [z, h1] at h; cases h), fun z => by rw [z, e] at h; cases h⟩
theorem Fr.tk (f : Fr p d wl H H') (D : FD P w K H p d wl me pl ms wd) : TK K H H' := fun c xs h => by
  obtain ⟨m1, m2, m3⟩ := D.muts
  have ne : ∀ {u : HO}, H c = some u → ¬ Mut (some u) → H' c = some u := fun {u} e nm => f c u e (fun z => nm (by rw [← e, z]; exact m1)) (fun z => nm (by rw [← e, z]; exact m2)) fun z => nm (by rw [← e, z]; exact m3)
  rcases h with (h | ⟨u, h⟩) | h
  · exact .inl (.inl (ne h fun z => z))
  · exact .inl (.inr ⟨u, ne h fun z => z⟩)
  · exact .inr h
theorem fr_step (fr : Fr p d wl H H2) (sA : Same H2 HB) (fB : Fr p d wl' HB H') (eo : wl' = wl ∨ H wl' = none) : Fr p d wl H H' := fun c u h n1 n2 n3 => by
  refine fB c u (sA _ _ (fr c u h n1 n2 n3)) n1 n2 ?_
  rcases eo with e | e
  · rw [e]; exact n3
  · exact ne_of_none h e
theorem al_step {ms' : Marks} {wd' : List PyData} {wl2 : Addr} (al : ∀ c, H2 c = none → H c = none) (sA : Same H2 HB) (fB : ∀ c u, HB c = some u → c ≠ p → c ≠ d → H' c = none → c = wl2) (D : FD P w K H' p d wl2 me pl ms' wd') : ∀ c, H' c = none → H c = none := fun c hc => by
  refine al c (sA.free ?_)
  obtain ⟨⟨_, t1⟩, ⟨_, t2⟩, ⟨_, t3⟩⟩ := D.there
  cases e : HB c with
  | none => rfl
  | some u =>
    have z := fB c u e (ne_of_none t1 hc).symm (ne_of_none t2 hc).symm hc
    rw [z, t3] at hc
    cases hc
/-- one whose three things were not there -/
theorem Same.over {G : Hp} (s : Same G H) (f : Fr p d wl H H') (n1 : G p = none) (n2 : G d = none) (n3 : G wl = none) : Same G H' := fun c u h => f c u (s _ _ h) (ne_of_none h n1) (ne_of_none h n2) (ne_of_none h n3)
end
/-! ### deeds of a finder -/
def spGo (P : Program) (w : World) (K : PySem.W.Frag) : Sp := fun vs H Q _ => ∃ (p d wl l : Addr) (me pl : Int) (ms : Marks) (wd : List PyData) (nums : List Int) (at_ many m : Nat), vs = [.ref p, .ref l, .int at_, .int many, .int pl] ∧ FD P w K H p d wl me pl ms wd ∧ FB k5 m ms wd ∧ m + many ≤ 900 ∧
  H l = some (.lst (nums.map V.int)) ∧ l ≠ wl ∧ nums.length = 60 ∧ NumOk nums ∧ 0 < pl ∧
  ∀ H' wl' ms' wd', FD P w K H' p d wl' me pl ms' wd' → FB k5 (m + many) ms' wd' → (wl' = wl ∨ H wl' = none) → Fr p d wl H H' → Q .non H'
theorem ok_lw_go (T : Txt K mg w a) : FnOk P w K mg base CX0 5 (He.ga K "_law_go") a.d_lw_go ["finder", "numbers", "at", "many", "places"] (spGo P w K) := by
  have gh := ok_Finder_hear (P := P) (w := w) (base := base) T
  have gp := ok_Finder_park (P := P) (w := w) (base := base) T
  refine T.F_lw_go.ok sc_lw_go (fun vs H Q E h => ?_) (fun cdv A outer s H vs Q E hr h => ?_)
  · obtain ⟨p, d, wl, l, me, pl, ms, wd, nums, at_, many, m, rfl, _⟩ := h
    rfl
  · obtain ⟨p, d, wl, l, me, pl, ms, wd, nums, at_, many, m, rfl, D, B, hm, hl, hnw, hlen, hok, hpl, q⟩ := h
    refine ⟨_, PSs.nox (pss_cons (ps_set (i := 5) sc_lw_go.nd rfl (Or.inl rfl) (pe_lst (pa_cons (pe_tup (pa_cons (pe_tup pa_nil) (pa_cons pe_int pa_nil))) (pa_cons (pe_tup (pa_cons (pe_tup pa_nil) (pa_cons pe_int pa_nil))) (pa_cons (pe_tup (pa_cons (pe_tup (pa_cons pe_int pa_nil)) (pa_cons pe_int pa_nil))) (pa_cons (pe_tup (pa_cons (pe_tup (pa_cons pe_int (pa_cons pe_int pa_nil))) (pa_cons pe_int pa_nil))) (pa_cons (pe_tup (pa_cons (pe_tup (pa_cons pe_int pa_nil)) (pa_cons pe_int pa_nil))) pa_nil)))))))
      (pss_one (ps_for PassesOwn.never rfl (pi_range1 (by rfl) T.g_range (pa_cons (pv 3) pa_nil)) (pg_name (i := 6) sc_lw_go.nd rfl (Or.inl rfl))
      (pss_cons (ps_set (i := 7) sc_lw_go.nd rfl (Or.inl rfl) (pe_ix ix_list (pv 1) (pe_op op_mod (pe_callTy call_int1 (by rfl) T.g_int boot_int (pa_cons (pe_op op_add (pv 2) (pv 6)) pa_nil)) (pe_callB call_len_seq (by rfl) T.g_len boot_len (pa_cons (pv 1) pa_nil))) (fun _ _ => rfl)))
      (pss_cons (ps_set (i := 8) sc_lw_go.nd rfl (Or.inl rfl) (pe_ix ix_list (pv 5) (pe_op op_mod (pv 7) pe_int) (fun _ _ => rfl)))
      (pss_cons (ps_set (i := 9) sc_lw_go.nd rfl (Or.inl rfl) (pe_op op_mod (pe_op op_fdiv (pv 7) pe_int) pe_int))
      (pss_one (ps_if (pt_cmpR op_lt (pv 9) pe_int (nomark _)) (pss_one (ps_expr (pe_meth (pv 0) T.c_Finder T.m_Finder_hear gh (hr.mono (by omega)) T.b_Finder_hear .nil MethT.passF (pa_cons (pv 8) (pa_cons (pe_op op_mod (pe_op op_fdiv (pv 7) pe_int) (pv 4)) (pa_cons (pe_op op_mod (pe_op op_fdiv (pv 7) pe_int) pe_int) pa_nil)))))) (pss_one (ps_if (pt_cmpR op_lt (pv 9) pe_int (nomark _)) (pss_one (ps_expr (pe_meth (pv 0) T.c_Finder T.m_Finder_park gp (hr.mono (by omega)) T.b_Finder_park .nil MethT.passF (pa_cons (pe_tup (pa_cons pe_str (pa_cons (pv 8) (pa_cons (pe_op op_sub (pe_op op_mod (pe_op op_fdiv (pv 7) pe_int) pe_int) pe_int) (pa_cons (pv 6) pa_nil))))) pa_nil)))) (pss_one (ps_if (pt_cmpR op_eq (pe_op op_mod (pe_op op_fdiv (pv 7) pe_int) pe_int) pe_int (nomark _)) (pss_one (ps_expr (pe_meth (pv 0) T.c_Finder T.m_Finder_unpark (ok_Finder_unpark T) (hr.mono (by omega)) T.b_Finder_unpark .nil pass0 (pa_cons (pv 8) pa_nil)))) (pss_one (ps_expr (pe_meth (pv 0) T.c_Finder T.m_Finder_forget (ok_Finder_forget T) (hr.mono (by omega)) T.b_Finder_forget .nil pass0 (pa_cons (pv 8) pa_nil)))))))))))))))), ?_⟩
    rw [show L2.start N_lw_go [.ref p, .ref l, .int at_, .int many, .int pl] = [some (.ref p), some (.ref l), some (.int at_), some (.int many), some (.int pl), none, none, none, none, none] from rfl]
    obtain ⟨lp, ld⟩ := D.lists hl
    -- names
    refine ⟨Nat.zero_le _, fun t0 u0 => ⟨Cm.small (by show 2 ≤ 100000; decide), fun b0 v0 => ⟨Nat.zero_le _, fun t1 u1 => ⟨Cm.small (by show 2 ≤ 100000; decide), fun b1 v1 => ⟨Cm.small (by show 1 ≤ 100000; decide), fun t2 u2 => ⟨Cm.small (by show 2 ≤ 100000; decide), fun b2 v2 => ⟨Cm.small (by show 2 ≤ 100000; decide), fun t3 u3 => ⟨Cm.small (by show 2 ≤ 100000; decide), fun b3 v3 => ⟨Cm.small (by show 1 ≤ 100000; decide), fun t4 u4 => ⟨Cm.small (by show 2 ≤ 100000; decide), fun b4 v4 => ⟨Cm.small (by show 5 ≤ 100000; decide), fun nl unl => ?_⟩⟩⟩⟩⟩⟩⟩⟩⟩⟩⟩
    have q11 := Cm.same_new (o := .lst [.ref b0, .ref b1, .ref b2, .ref b3, .ref b4]) unl
    have q10 := (Cm.same_new (o := .tup [.ref t4, .int 0]) v4).trans q11
    have q9 := (Cm.same_new (o := .tup [.int 1]) u4).trans q10
    have q8 := (Cm.same_new (o := .tup [.ref t3, .int 12]) v3).trans q9
    have q7 := (Cm.same_new (o := .tup [.int 0, .int 1]) u3).trans q8
    have q6 := (Cm.same_new (o := .tup [.ref t2, .int 3]) v2).trans q7
    have q5 := (Cm.same_new (o := .tup [.int 0]) u2).trans q6
    have q4 := (Cm.same_new (o := .tup [.ref t1, .int 10]) v1).trans q5
    have q3 := (Cm.same_new (o := .tup []) u1).trans q4
    have q2 := (Cm.same_new (o := .tup [.ref t0, .int 0]) v0).trans q3
    have q1 := (Cm.same_new (o := .tup []) u0).trans q2
    have c0 := key_make (K := K) (ns := []) (Cm.sameT q3 Cm.sqt_new) (Cm.sameT q2 Cm.sqt_new)
    have c1 := key_make (K := K) (ns := []) (Cm.sameT q5 Cm.sqt_new) (Cm.sameT q4 Cm.sqt_new)
    have c2 := key_make (K := K) (ns := [0]) (Cm.sameT q7 Cm.sqt_new) (Cm.sameT q6 Cm.sqt_new)
    have c3 := key_make (K := K) (ns := [0, 1]) (Cm.sameT q9 Cm.sqt_new) (Cm.sameT q8 Cm.sqt_new)
    have c4 := key_make (K := K) (ns := [1]) (Cm.sameT q11 Cm.sqt_new) (Cm.sameT q10 Cm.sqt_new)
    have sPre : Same H (upd (upd (upd (upd (upd (upd (upd (upd (upd (upd H t0 (.tup [])) b0 (.tup [.ref t0, .int 0])) t1 (.tup [])) b1 (.tup [.ref t1, .int 10])) t2 (.tup [.int 0])) b2 (.tup [.ref t2, .int 3])) t3 (.tup [.int 0, .int 1])) b3 (.tup [.ref t3, .int 12])) t4 (.tup [.int 1])) b4 (.tup [.ref t4, .int 0])) :=
      (((((((((Cm.same_new u0).trans (Cm.same_new v0)).trans (Cm.same_new u1)).trans (Cm.same_new v1)).trans (Cm.same_new u2)).trans (Cm.same_new v2)).trans (Cm.same_new u3)).trans (Cm.same_new v3)).trans (Cm.same_new u4)).trans (Cm.same_new v4)
    have hnlf : H nl = none := sPre.free unl
    have hnl : (upd (upd (upd (upd (upd (upd (upd (upd (upd (upd (upd H t0 (.tup [])) b0 (.tup [.ref t0, .int 0])) t1 (.tup [])) b1 (.tup [.ref t1, .int 10])) t2 (.tup [.int 0])) b2 (.tup [.ref t2, .int 3])) t3 (.tup [.int 0, .int 1])) b3 (.tup [.ref t3, .int 12])) t4 (.tup [.int 1])) b4 (.tup [.ref t4, .int 0])) nl (.lst [.ref b0, .ref b1, .ref b2, .ref b3, .ref b4])) nl = some (.lst [.ref b0, .ref b1, .ref b2, .ref b3, .ref b4]) := upd_same
    generalize upd (upd (upd (upd (upd (upd (upd (upd (upd (upd (upd H t0 (.tup [])) b0 (.tup [.ref t0, .int 0])) t1 (.tup [])) b1 (.tup [.ref t1, .int 10])) t2 (.tup [.int 0])) b2 (.tup [.ref t2, .int 3])) t3 (.tup [.int 0, .int 1])) b3 (.tup [.ref t3, .int 12])) t4 (.tup [.int 1])) b4 (.tup [.ref t4, .int 0])) nl (.lst [.ref b0, .ref b1, .ref b2, .ref b3, .ref b4]) = HL at *
    have hkeys : ∀ (i : Nat) (y : V), ([V.ref b0, V.ref b1, V.ref b2, V.ref b3, V.ref b4] : List V)[i]? = some y → ∃ ns j, KeyAt K HL y (nameK ns j) ∧ nameK ns j ∈ k5 := by
      intro i y hy
      match i, hy with
      | 0, hy => cases hy; exact ⟨_, _, c0, by simp [n5]⟩
      | 1, hy => cases hy; exact ⟨_, _, c1, by simp [n5]⟩
      | 2, hy => cases hy; exact ⟨_, _, c2, by simp [n5]⟩
      | 3, hy => cases hy; exact ⟨_, _, c3, by simp [n5]⟩
      | 4, hy => cases hy; exact ⟨_, _, c4, by simp [n5]⟩
    have nnw : nl ≠ wl := fun e => by
      obtain ⟨_, _, ⟨o, ho⟩⟩ := D.there
      rw [e, ho] at hnlf
      cases hnlf
    clear sPre q2 q3 q4 q5 q6 q7 q8 q9 q10 q11 c0 c1 c2 c3 c4 u0 v0 u1 v1 u2 v2 u3 v3 u4 v4 unl
    have D1 := D.same q1
    have hl1 := q1 _ _ hl
    obtain ⟨nlp, nld⟩ := D1.lists hnl
    simp only [gName, List.set_cons_succ, List.set_cons_zero]
    refine ⟨_, rfl, _, rfl, by omega, by omega, ?_⟩
    rw [Int.toNat_natCast]
    refine for_range (n := many) (fun i σ H2 => ∃ (wl' : Addr) (ms' : Marks) (wd' : List PyData) (x6 x7 x8 x9 : Option V), σ = [some (.ref p), some (.ref l), some (.int at_), some (.int many), some (.int pl), some (.ref nl), x6, x7, x8, x9] ∧ FD P w K H2 p d wl' me pl ms' wd' ∧ FB k5 (m + i) ms' wd' ∧ (wl' = wl ∨ HL wl' = none) ∧ Fr p d wl HL H2 ∧ ∀ c, H2 c = none → HL c = none)
      ⟨wl, ms, wd, _, _, _, _, rfl, D1, B, .inl rfl, fun _ _ h _ _ _ => h, fun _ z => z⟩ (fun i σ H2 hi ⟨wl', ms', wd', x6, x7, x8, x9, e, D2, B2, eo, fr, al⟩ => ?_) fun σ H2 ⟨wl', ms', wd', x6, x7, x8, x9, e, D2, B2, eo, fr, al⟩ => ?_
    · subst e
      have hl2 := fr _ _ hl1 lp ld hnw
      have hnl2 := fr _ _ hnl nlp nld nnw
      have tk2 := fr.tk D1
      obtain ⟨n0, hn0, e0⟩ := Cm.at_int (ns := nums) (i := ((at_ : Int) + (0 + (i : Int))) % 60) (by omega) (by omega)
      obtain ⟨g0, _⟩ := hok n0 hn0
      refine ⟨_, rfl, _, rfl, _, rfl, _, _, rfl, rfl, .inl ⟨_, rfl, _, rfl, l, _, rfl, .inl (SqL.of hl2), ?_⟩⟩
      rw [len_map, hlen]
      refine ⟨_, _, rfl, rfl, (by show (0 : Int) < 60; decide), l, _, _, _, rfl, rfl, SqL.of hl2, e0, ?_⟩
      obtain ⟨y, hy, ey⟩ := Nst.at_item (xs := [V.ref b0, V.ref b1, V.ref b2, V.ref b3, V.ref b4]) (i := n0 % 5) (by omega) (by show n0 % 5 < 5; omega)
      obtain ⟨zs, zj, hkL, hk5⟩ := hkeys _ y hy
      have hk2 := hkL.keep tk2
      refine ⟨_, rfl, _, rfl, _, _, rfl, rfl, (by show (0 : Int) < 5; decide), nl, _, _, _, rfl, rfl, SqL.of hnl2, ey, ?_⟩
      refine ⟨_, rfl, _, _, rfl, rfl, ⟨by decide, by decide⟩, _, _, rfl, rfl, (by show (0 : Int) < 6; decide), ?_⟩
      simp only [gName, List.set_cons_succ, List.set_cons_zero]
      obtain ⟨ws, F, rw2⟩ := id D2
      obtain ⟨⟨dx, ho⟩, _⟩ := id F
      have bl := B2.l
      have bn := B2.n
      have lws : ws.length = wd'.length := rw2.len
      refine ⟨_, rfl, _, _, rfl, rfl, _, rfl, Cm.itD (fun _ => ?_) fun _ => ?_⟩
      · -- hear
        refine ⟨_, rfl, p, dx, _, rfl, ho, fl_no (by decide +kernel), _, rfl, _, rfl, _, _, rfl, rfl, ⟨by decide, by decide⟩, _, rfl, _, _, rfl, rfl, hpl, _, rfl, _, _, rfl, rfl, ⟨by decide, by decide⟩, _, _, rfl, rfl, (by show (0 : Int) < 12; decide), ?_⟩
        have hq := And.intro (Int.emod_nonneg (n0 / 30) (show pl ≠ 0 by omega)) (Int.emod_lt_of_pos (n0 / 30) hpl)
        have hc0 : 0 ≤ n0 / 150 % 12 := by omega
        refine ⟨p, d, wl', me, pl, ms', ws, y, nameK zs zj, _, _, rfl, F, hk2, by omega, fun _ _ H5 F5 fr5 => ?_, fun bad => absurd ⟨hq, hc0⟩ bad⟩
        have f5 : Fr p d wl' H2 H5 := fun c u hc _ n2 _ => fr5 c u hc n2
        have D5 : FD P w K H5 p d wl' me pl _ wd' := ⟨ws, F5, rps_keep (f5.tk D2) rw2⟩
        exact ⟨wl', _, _, _, _, _, _, rfl, D5, B2.hear hk5, eo, fr_step fr (Same.refl _) f5 eo, al_step al (Same.refl _) (fun c u hc _ n2 hn => by rw [fr5 c u hc n2] at hn; cases hn) D5⟩
      · refine ⟨_, rfl, _, _, rfl, rfl, _, rfl, Cm.itD (fun _ => ?_) fun _ => ?_⟩
        · -- park
          refine ⟨_, rfl, p, dx, _, rfl, ho, fl_no (by decide +kernel), _, rfl, _, rfl, _, _, rfl, rfl, ⟨by decide, by decide⟩, _, _, rfl, rfl, (by show (0 : Int) < 9; decide), _, _, rfl, rfl, _, rfl, Cm.small (by show 4 ≤ 100000; decide), fun t nt => ?_⟩
          have st := Cm.same_new (o := .tup [.str "please", y, .int (n0 / 30 % 9 - 1), .int (0 + (i : Int))]) nt
          have rb : Rp K (upd H2 t (.tup [.str "please", y, .int (n0 / 30 % 9 - 1), .int (0 + (i : Int))])) (.ref t) (.tuple [.str "please", (nameK zs zj).data, .int (n0 / 30 % 9 - 1), .int (0 + (i : Int))]) := Rp.made nt (.cons (.str _) (.cons hk2.1 (.cons (.int _) (.cons (.int _) .nil))))
          generalize upd H2 t (.tup [.str "please", y, .int (n0 / 30 % 9 - 1), .int (0 + (i : Int))]) = HB at *
          refine ⟨p, d, wl', me, pl, ms', ws, _, "please", _, rfl, F.same st, rb, by omega, fun _ F5 => ?_, fun e => absurd e (by decide +kernel)⟩
          have f5 : Fr p d wl' HB (upd HB wl' (.lst (ws ++ [.ref t]))) := fun c u hc _ _ n3 => by rw [upd_ne n3]; exact hc
          have tk5 := f5.tk (D2.same st)
          have D5 : FD P w K _ p d wl' me pl ms' (wd' ++ [_]) := ⟨_, F5, (rps_keep ((TK.same st).trans tk5) rw2).app (.cons (rp_keep tk5 rb) .nil)⟩
          exact ⟨wl', _, _, _, _, _, _, rfl, D5, B2.park (pl_ok zs zj _ _), eo, fr_step fr st f5 eo, al_step al st (fun c u hc _ _ hn => by
            by_cases z : c = wl'
            · exact z
            · rw [upd_ne z, hc] at hn
              cases hn) D5⟩
        · refine ⟨_, rfl, _, _, rfl, rfl, ⟨by decide, by decide⟩, _, _, rfl, rfl, (by show (0 : Int) < 2; decide), rfl, _, rfl, Cm.itEI (fun _ => ?_) fun _ => ?_⟩
          · -- unpark
            refine ⟨_, rfl, p, dx, _, rfl, ho, fl_no (by decide +kernel), _, rfl, p, d, wl', me, pl, ms', ws, wd', y, _, rfl, F, rw2, B2.b, by omega, hk2.1, name_shaped zs zj, fun D9 wl2 fv ws2 H5 nD nw ne hD rf F5 rw5 fr5 => ?_⟩
            have f5 : Fr p d wl' H2 H5 := fun c u hc n1 _ _ => fr5 c u hc n1
            have D5 : FD P w K H5 p d wl2 me pl ms' _ := ⟨ws2, F5, rw5⟩
            exact ⟨wl2, _, _, _, _, _, _, rfl, D5, B2.filt.mono (by omega), .inr (al _ nw), fr_step fr (Same.refl _) f5 eo, al_step al (Same.refl _) (fun c u hc n1 _ hn => by rw [fr5 c u hc n1] at hn; cases hn) D5⟩
          · -- forget
            refine ⟨_, rfl, p, dx, _, rfl, ho, fl_no (by decide +kernel), _, rfl, p, d, wl', me, pl, ms', ws, y, _, rfl, F, hk2, fun H5 F5 fr5 => ?_⟩
            have f5 : Fr p d wl' H2 H5 := fun c u hc _ n2 _ => fr5 c u hc n2
            have D5 : FD P w K H5 p d wl' me pl _ wd' := ⟨ws, F5, rps_keep (f5.tk D2) rw2⟩
            exact ⟨wl', _, _, _, _, _, _, rfl, D5, B2.drop.mono (by omega), eo, fr_step fr (Same.refl _) f5 eo, al_step al (Same.refl _) (fun c u hc _ n2 hn => by rw [fr5 c u hc n2] at hn; cases hn) D5⟩
    · subst e
      refine q _ _ _ _ D2 B2 (eo.imp id fun z => q1.free z) fun c u h n1 n2 n3 => fr c u (q1 _ _ h) n1 n2 n3
/-! ### the ways of all names -/
def wayD : Option (Int × Int) → PyData
  | none => .str "park"
  | some (q, n) => .tuple [.str "go", .int q, .int n]
theorem wayD_lay : ∀ m, (wayD m).canLay0 = true ∧ (wayD m).depth ≤ 1
  | none => by decide +kernel
  | some (q, n) => by simp [wayD, PyData.canLay0, PyData.canLayAll0, PyData.depth, PyData.depthAll, show PyData.strOk "go" = true from by decide +kernel]
abbrev cs5 : List Int := [-1, 0, 3, 8, 20]
def rowW (me pl : Int) (ms : Marks) (x : List Int × Int) : List PyData := cs5.map fun c => wayD (wayF me (homeF x.1 x.2 pl) (lookM ms (nameK x.1 x.2)) c)
def waysD (me pl : Int) (ms : Marks) : List (List PyData) := n5.map (rowW me pl ms)
def LstV (K : PySem.W.Frag) (H : Hp) (y : V) (ds : List PyData) : Prop := ∃ l vs, y = .ref l ∧ H l = some (.lst vs) ∧ Rps K H vs ds
abbrev LstsV (K : PySem.W.Frag) (H : Hp) : List V → List (List PyData) → Prop := Paired fun y ds => LstV K H y ds
def WaysAt (K : PySem.W.Frag) (H : Hp) (v : V) (dd : List (List PyData)) : Prop := ∃ r ys, v = .ref r ∧ H r = some (.lst ys) ∧ LstsV K H ys dd
theorem LstV.same {H H' : Hp} {y : V} {ds : List PyData} (s : Same H H') (h : LstV K H y ds) : LstV K H' y ds := by
  obtain ⟨l, vs, e, h1, h2⟩ := h
  exact ⟨l, vs, e, s _ _ h1, h2.keep (Same.tups s)⟩
theorem LstsV.same {H H' : Hp} (s : Same H H') {ys : List V} {dd : List (List PyData)} (h : LstsV K H ys dd) : LstsV K H' ys dd := Paired.mapP h fun _ _ z => z.same s
theorem WaysAt.same {H H' : Hp} {v : V} {dd : List (List PyData)} (s : Same H H') (h : WaysAt K H v dd) : WaysAt K H' v dd := by
  obtain ⟨r, ys, e, h1, h2⟩ := h
  exact ⟨r, ys, e, s _ _ h1, h2.same s⟩
theorem lsts_dps {H : Hp} {ys : List V} {dd : List (List PyData)} (h : LstsV K H ys dd) : DpAll K H ys (dd.map PyData.list) := by
  induction h with
  | nil => exact .nil
  | cons h t ih =>
    obtain ⟨l, vs, rfl, h1, h2⟩ := h
    exact .cons (.lst (SqL.of h1) h2.dp) ih
theorem WaysAt.dp {H : Hp} {v : V} {dd : List (List PyData)} (h : WaysAt K H v dd) : Dp K H v (.list (dd.map PyData.list)) := by
  obtain ⟨r, ys, rfl, h1, h2⟩ := h
  exact .lst (SqL.of h1) (lsts_dps h2)
theorem layAll_of : ∀ {l : List PyData}, (∀ d ∈ l, d.canLay0 = true) → PyData.canLayAll0 l = true
  | [], _ => by simp [PyData.canLayAll0]
  | x :: l, h => by simp [PyData.canLayAll0, h x List.mem_cons_self, layAll_of fun d hd => h d (List.mem_cons_of_mem _ hd)]
theorem depthAll_of {n : Nat} : ∀ {l : List PyData}, (∀ d ∈ l, d.depth ≤ n) → PyData.depthAll l ≤ n
  | [], _ => by simp [PyData.depthAll]
  | x :: l, h => by
    have h1 := h x List.mem_cons_self
    have h2 := depthAll_of (n := n) fun d hd => h d (List.mem_cons_of_mem x hd)
    simp only [PyData.depthAll]
    omega
theorem ways_shaped (me pl : Int) (ms : Marks) : SeqAt.shaped (.list ((waysD me pl ms).map PyData.list)) = true := by
  have a : ∀ d ∈ (waysD me pl ms).map PyData.list, d.canLay0 = true ∧ d.depth ≤ 2 := fun d hd => by
    obtain ⟨ds, hds, rfl⟩ := List.mem_map.mp hd
    obtain ⟨x, _, rfl⟩ := List.mem_map.mp hds
    have b : ∀ e ∈ rowW me pl ms x, e.canLay0 = true ∧ e.depth ≤ 1 := fun e he => by
      obtain ⟨c, _, rfl⟩ := List.mem_map.mp he
      exact wayD_lay _
    refine ⟨by simp [PyData.canLay0, layAll_of fun e he => (b e he).1], ?_⟩
    have := depthAll_of fun e he => (b e he).2
    simp only [PyData.depth]
    omega
  refine Nst.shaped_of (by simp only [PyData.canLay0, layAll_of fun e he => (a e he).1]) ?_
  have := depthAll_of fun e he => (a e he).2
  simp only [PyData.depth]
  omega
theorem LstsV.snoc {H : Hp} {ys : List V} {dd : List (List PyData)} {y : V} {ds : List PyData} (h : LstsV K H ys dd) (g : LstV K H y ds) : LstsV K H (ys ++ [y]) (dd ++ [ds]) := by
  induction h with
  | nil => exact .cons g .nil
  | cons h t ih => exact .cons h ih
/-- the rows so far, in a list that grows: none of them is this list -/
def LstVn (K : PySem.W.Frag) (H : Hp) (r : Addr) (y : V) (ds : List PyData) : Prop := ∃ l vs, y = .ref l ∧ l ≠ r ∧ H l = some (.lst vs) ∧ Rps K H vs ds
abbrev LstsN (K : PySem.W.Frag) (H : Hp) (r : Addr) : List V → List (List PyData) → Prop := Paired fun y ds => LstVn K H r y ds
theorem LstsN.snoc {H : Hp} {r : Addr} {ys : List V} {dd : List (List PyData)} {y : V} {ds : List PyData} (h : LstsN K H r ys dd) (g : LstVn K H r y ds) : LstsN K H r (ys ++ [y]) (dd ++ [ds]) := by
  induction h with
  | nil => exact .cons g .nil
  | cons h t ih => exact .cons h ih
theorem LstsN.same {H H' : Hp} {r : Addr} (s : Same H H') {ys : List V} {dd : List (List PyData)} (h : LstsN K H r ys dd) : LstsN K H' r ys dd := Paired.mapP h fun _ _ ⟨l, vs, e, n, h1, h2⟩ => ⟨l, vs, e, n, s _ _ h1, h2.keep (Same.tups s)⟩
theorem LstsN.put {H : Hp} {r : Addr} {us ws : List V} (hr : H r = some (.lst us)) {ys : List V} {dd : List (List PyData)} (h : LstsN K H r ys dd) : LstsN K (upd H r (.lst ws)) r ys dd := Paired.mapP h fun _ _ ⟨l, vs, e, n, h1, h2⟩ =>
  ⟨l, vs, e, n, by rw [upd_ne n]; exact h1, rps_keep (TK.upd (by rw [hr]; exact True.intro)) h2⟩
theorem LstsN.out {H : Hp} {r : Addr} {ys : List V} {dd : List (List PyData)} (h : LstsN K H r ys dd) : LstsV K H ys dd := Paired.mapP h fun _ _ ⟨l, vs, e, n, h1, h2⟩ => ⟨l, vs, e, h1, h2⟩
def spWays (P : Program) (w : World) (K : PySem.W.Frag) : Sp := fun vs H Q _ => ∃ (p d wl : Addr) (me pl : Int) (ms : Marks) (ws : List V), vs = [.ref p] ∧ FindAt P w K H p d wl me pl ms ws ∧ 0 < pl ∧ ∀ H' v, Same H H' → WaysAt K H' v (waysD me pl ms) → Q v H'
theorem ok_lw_ways (T : Txt K mg w a) : FnOk P w K mg base CX0 4 (He.ga K "_law_ways") a.d_lw_ways ["finder"] (spWays P w K) := by
  refine T.F_lw_ways.ok sc_lw_ways (fun vs H Q E h => ?_) (fun cdv A outer s H vs Q E hr h => ?_)
  · obtain ⟨p, d, wl, me, pl, ms, ws, rfl, _⟩ := h
    rfl
  · obtain ⟨p, d, wl, me, pl, ms, ws, rfl, F, hpl, q⟩ := h
    refine ⟨_, PSs.nox (pss_cons (ps_set (i := 1) sc_lw_ways.nd rfl (Or.inl rfl) (pe_lst (pa_cons (pe_tup (pa_cons (pe_tup pa_nil) (pa_cons pe_int pa_nil))) (pa_cons (pe_tup (pa_cons (pe_tup pa_nil) (pa_cons pe_int pa_nil))) (pa_cons (pe_tup (pa_cons (pe_tup (pa_cons pe_int pa_nil)) (pa_cons pe_int pa_nil))) (pa_cons (pe_tup (pa_cons (pe_tup (pa_cons pe_int (pa_cons pe_int pa_nil))) (pa_cons pe_int pa_nil))) (pa_cons (pe_tup (pa_cons (pe_tup (pa_cons pe_int pa_nil)) (pa_cons pe_int pa_nil))) pa_nil)))))))
      (pss_cons (ps_set (i := 2) sc_lw_ways.nd rfl (Or.inl rfl) (pe_lst pa_nil))
      (pss_cons (ps_for PassesOwn.never rfl (pi_list (pv 1)) (pg_name (i := 3) sc_lw_ways.nd rfl (Or.inr rfl))
      (pss_one (ps_expr (pe_bm PySem.F.plainAttrs_list PySem.F.slot_list_append PySem.F.type_list_append mt_append (pv 2) (pa_cons (pe_lc (own := [("count", 4)]) (g := gName 4) (tt := tYes) (te := (tMeth (He.ga K "Finder") "way" (spFWay P w K) [] E0 (tVar 0) (tCons (tVar 3) (tCons (tVar 4) (tCons (tC (.bl false)) tNil))))) (by rfl) sc_lw_ways.nd (pi_list (pe_lst (pa_cons (pe_un un_neg pe_int) (pa_cons pe_int (pa_cons pe_int (pa_cons pe_int (pa_cons pe_int pa_nil))))))) (blkOk_by (own := [("count", 4)]) (N := N_lw_ways) (sc := defScope s_lw_ways) (by decide +kernel)) (fun _ _ _ _ _ => pg_name (i := 4) sc_lw_ways.nd rfl (Or.inl rfl)) (fun _ _ _ _ _ => pts_nil) (fun _ _ _ _ _ => (pe_meth (pv 0) T.c_Finder T.m_Finder_way (ok_Finder_way T) (hr.mono (by omega)) T.b_Finder_way .nil pass0 (pa_cons (pv 3) (pa_cons (pv 4) (pa_cons pe_bl pa_nil)))))) pa_nil)))))
      (pss_one (ps_ret (pv 2)))))), ?_⟩
    rw [show L2.start N_lw_ways [.ref p] = [some (.ref p), none, none, none, none] from rfl]
    refine ⟨Nat.zero_le _, fun t0 u0 => ⟨Cm.small (by show 2 ≤ 100000; decide), fun b0 v0 => ⟨Nat.zero_le _, fun t1 u1 => ⟨Cm.small (by show 2 ≤ 100000; decide), fun b1 v1 => ⟨Cm.small (by show 1 ≤ 100000; decide), fun t2 u2 => ⟨Cm.small (by show 2 ≤ 100000; decide), fun b2 v2 => ⟨Cm.small (by show 2 ≤ 100000; decide), fun t3 u3 => ⟨Cm.small (by show 2 ≤ 100000; decide), fun b3 v3 => ⟨Cm.small (by show 1 ≤ 100000; decide), fun t4 u4 => ⟨Cm.small (by show 2 ≤ 100000; decide), fun b4 v4 => ⟨Cm.small (by show 5 ≤ 100000; decide), fun nl unl => ?_⟩⟩⟩⟩⟩⟩⟩⟩⟩⟩⟩
    have q11 := Cm.same_new (o := .lst [.ref b0, .ref b1, .ref b2, .ref b3, .ref b4]) unl
    have q10 := (Cm.same_new (o := .tup [.ref t4, .int 0]) v4).trans q11
    have q9 := (Cm.same_new (o := .tup [.int 1]) u4).trans q10
    have q8 := (Cm.same_new (o := .tup [.ref t3, .int 12]) v3).trans q9
    have q7 := (Cm.same_new (o := .tup [.int 0, .int 1]) u3).trans q8
    have q6 := (Cm.same_new (o := .tup [.ref t2, .int 3]) v2).trans q7
    have q5 := (Cm.same_new (o := .tup [.int 0]) u2).trans q6
    have q4 := (Cm.same_new (o := .tup [.ref t1, .int 10]) v1).trans q5
    have q3 := (Cm.same_new (o := .tup []) u1).trans q4
    have q2 := (Cm.same_new (o := .tup [.ref t0, .int 0]) v0).trans q3
    have q1 := (Cm.same_new (o := .tup []) u0).trans q2
    have c0 := key_make (K := K) (ns := []) (Cm.sameT q3 Cm.sqt_new) (Cm.sameT q2 Cm.sqt_new)
    have c1 := key_make (K := K) (ns := []) (Cm.sameT q5 Cm.sqt_new) (Cm.sameT q4 Cm.sqt_new)
    have c2 := key_make (K := K) (ns := [0]) (Cm.sameT q7 Cm.sqt_new) (Cm.sameT q6 Cm.sqt_new)
    have c3 := key_make (K := K) (ns := [0, 1]) (Cm.sameT q9 Cm.sqt_new) (Cm.sameT q8 Cm.sqt_new)
    have c4 := key_make (K := K) (ns := [1]) (Cm.sameT q11 Cm.sqt_new) (Cm.sameT q10 Cm.sqt_new)
    have hnl : (upd (upd (upd (upd (upd (upd (upd (upd (upd (upd (upd H t0 (.tup [])) b0 (.tup [.ref t0, .int 0])) t1 (.tup [])) b1 (.tup [.ref t1, .int 10])) t2 (.tup [.int 0])) b2 (.tup [.ref t2, .int 3])) t3 (.tup [.int 0, .int 1])) b3 (.tup [.ref t3, .int 12])) t4 (.tup [.int 1])) b4 (.tup [.ref t4, .int 0])) nl (.lst [.ref b0, .ref b1, .ref b2, .ref b3, .ref b4])) nl = some (.lst [.ref b0, .ref b1, .ref b2, .ref b3, .ref b4]) := upd_same
    generalize upd (upd (upd (upd (upd (upd (upd (upd (upd (upd (upd H t0 (.tup [])) b0 (.tup [.ref t0, .int 0])) t1 (.tup [])) b1 (.tup [.ref t1, .int 10])) t2 (.tup [.int 0])) b2 (.tup [.ref t2, .int 3])) t3 (.tup [.int 0, .int 1])) b3 (.tup [.ref t3, .int 12])) t4 (.tup [.int 1])) b4 (.tup [.ref t4, .int 0])) nl (.lst [.ref b0, .ref b1, .ref b2, .ref b3, .ref b4]) = HL at *
    have hkeys : ∀ (i : Nat) (y : V), ([V.ref b0, V.ref b1, V.ref b2, V.ref b3, V.ref b4] : List V)[i]? = some y → ∃ x, n5[i]? = some x ∧ KeyAt K HL y (nameK x.1 x.2) := by
      intro i y hy
      match i, hy with
      | 0, hy => cases hy; exact ⟨_, rfl, c0⟩
      | 1, hy => cases hy; exact ⟨_, rfl, c1⟩
      | 2, hy => cases hy; exact ⟨_, rfl, c2⟩
      | 3, hy => cases hy; exact ⟨_, rfl, c3⟩
      | 4, hy => cases hy; exact ⟨_, rfl, c4⟩
    clear q2 q3 q4 q5 q6 q7 q8 q9 q10 q11 c0 c1 c2 c3 c4 u0 v0 u1 v1 u2 v2 u3 v3 u4 v4 unl
    refine ⟨Nat.zero_le _, fun r nr => ?_⟩
    have hr0 : (upd HL r (.lst [])) r = some (.lst []) := upd_same
    have sr := Cm.same_new (o := .lst []) nr
    have nrl : nl ≠ r := ne_of_none hnl nr
    have F1 := F.same q1
    obtain ⟨dx, ho1⟩ := F1.ob
    simp only [gName, List.set_cons_succ, List.set_cons_zero]
    refine ⟨_, rfl, nl, rfl, ⟨_, SqL.of (sr _ _ hnl)⟩, for_list (K := K) (a := nl) (xs := [.ref b0, .ref b1, .ref b2, .ref b3, .ref b4]) (fun j σ Hj => ∃ (ys : List V) (x3 x4 : Option V), σ = [some (.ref p), some (.ref nl), some (.ref r), x3, x4] ∧ Same HL Hj ∧ Hj r = some (.lst ys) ∧ LstsN K Hj r ys ((n5.take j).map (rowW me pl ms)) ∧ ys.length ≤ j)
      ⟨[], _, _, rfl, sr, hr0, .nil, Nat.le_refl _⟩ (fun j σ Hj _ ⟨_, _, _, _, sj, _⟩ => SqL.of (sj _ _ hnl)) (fun j y σ Hj hy ⟨ys, x3, x4, e, sj, hrj, lj, ly⟩ => ?_) fun σ Hj ⟨ys, x3, x4, e, sj, hrj, lj, ly⟩ => ?_⟩
    · subst e
      obtain ⟨x, hx, hk⟩ := hkeys j y hy
      have hj5 : j < 5 := (List.getElem?_eq_some_iff.mp hy).1
      refine ⟨_, rfl, .inl ⟨rfl, _, SqL.of hrj⟩, _, rfl, Cm.small (by show 5 ≤ 100000; decide), fun cl ncl => ?_⟩
      have sc := Cm.same_new (o := .lst [(fun i : Int => V.int (-i)) 1, V.int 0, V.int 3, V.int 8, V.int 20]) ncl
      have hcl : (upd Hj cl (.lst [(fun i : Int => V.int (-i)) 1, V.int 0, V.int 3, V.int 8, V.int 20])) cl = some (.lst (cs5.map V.int)) := upd_same
      have hrc := sc _ _ hrj
      have ljc := LstsN.same sc lj
      have sjc := sj.trans sc
      have nclr : cl ≠ r := (ne_of_none hrj ncl).symm
      show ∃ a, _
      refine ⟨cl, rfl, ⟨_, SqL.of hcl⟩, fun D nD => ?_⟩
      have hkc := hk.keep (TK.same sjc)
      have Fc := F1.same sjc
      generalize upd Hj cl (.lst [(fun i : Int => V.int (-i)) 1, V.int 0, V.int 3, V.int 8, V.int 20]) = Hc at *
      have nDr : D ≠ r := (ne_of_none hrc nD).symm
      refine lc_list (K := K) (a := cl) (xs := cs5.map V.int) (fun i Hi => Same Hc Hi ∧ ∃ acc, Hi D = some (.lst acc) ∧ Rps K Hi acc ((cs5.take i).map fun c => wayD (wayF me (homeF x.1 x.2 pl) (lookM ms (nameK x.1 x.2)) c)) ∧ acc.length = i) ⟨Cm.same_new nD, [], upd_same, .nil, rfl⟩ (fun i Hi _ b => SqL.of (b.1 _ _ hcl)) (fun i y' Hi hy' b => ?_) fun Hi b => ?_
      · obtain ⟨sH, acc, hD, rD, lD⟩ := b
        rw [List.getElem?_map] at hy'
        obtain ⟨c, hc, rfl⟩ := Option.map_eq_some_iff.mp hy'
        have hi5 : i < 5 := (List.getElem?_eq_some_iff.mp hc).1
        refine ⟨rfl, ?_⟩
        simp only [List.map_cons, List.map_nil, List.set_cons_succ, List.set_cons_zero, wipe]
        have Fi := Fc.same sH
        obtain ⟨dxi, hoi⟩ := Fi.ob
        refine ⟨_, rfl, p, dxi, _, rfl, hoi, fl_no (by decide +kernel), _, rfl, _, rfl, p, d, wl, me, pl, ms, ws, y, x.1, x.2, c, false, rfl, Fi, hkc.keep (TK.same sH), hpl, (fun e => nomatch e), fun _ => ⟨fun e1 => ?_, fun gq gn e1 H9 t s9 hr9 => ?_⟩⟩
        · refine ⟨acc, hD, Cm.smallL (by omega), Cm.same_mut sH nD, acc ++ [.str "park"], upd_same, ?_, by rw [List.length_append, lD]; rfl⟩
          rw [List.take_succ, hc, List.map_append]
          refine (rps_keep (TK.upd (by rw [hD]; exact True.intro)) rD).app (.cons ?_ .nil)
          show Rp K _ _ (wayD (wayF me (homeF x.1 x.2 pl) (lookM ms (nameK x.1 x.2)) c))
          rw [e1]
          exact .str _
        · refine ⟨acc, s9 _ _ hD, Cm.smallL (by omega), Cm.same_mut (sH.trans s9) nD, acc ++ [.ref t], upd_same, ?_, by rw [List.length_append, lD]; rfl⟩
          have tk : TK K H9 (upd H9 D (.lst (acc ++ [.ref t]))) := TK.upd (by rw [s9 _ _ hD]; exact True.intro)
          rw [List.take_succ, hc, List.map_append]
          refine (rps_keep ((TK.same s9).trans tk) rD).app (.cons ?_ .nil)
          show Rp K _ _ (wayD (wayF me (homeF x.1 x.2 pl) (lookM ms (nameK x.1 x.2)) c))
          rw [e1]
          exact rp_keep tk (.tup hr9 (.cons (.str _) (.cons (.int _) (.cons (.int _) .nil))))
      · obtain ⟨sH, acc, hD, rD, lD⟩ := b
        rw [List.length_map, show cs5.length = 5 from rfl, show cs5.take 5 = cs5 from rfl] at rD
        have hri := sH _ _ hrc
        refine ⟨r, ys, _, rfl, rfl, hri, Cm.smallL (by omega), ?_⟩
        have hxt : (n5.take (j + 1)).map (rowW me pl ms) = (n5.take j).map (rowW me pl ms) ++ [rowW me pl ms x] := by
          rw [List.take_succ, hx, List.map_append]
          rfl
        rw [hxt]
        have muR : Mut (Hi r) := by rw [hri]; exact True.intro
        refine ⟨ys ++ [.ref D], _, _, rfl, fun b u hb => ?_, upd_same, (LstsN.put hri (LstsN.same sH ljc)).snoc ⟨D, acc, rfl, nDr, by rw [upd_ne nDr]; exact hD, rps_keep (TK.upd muR) rD⟩, by rw [List.length_append]; simp only [List.length_cons, List.length_nil]; omega⟩
        rw [upd_ne (ne_of_none hb nr)]
        exact sH _ _ (sjc _ _ hb)
    · subst e
      have e5 : (n5.take 5).map (rowW me pl ms) = waysD me pl ms := rfl
      rw [show ([V.ref b0, V.ref b1, V.ref b2, V.ref b3, V.ref b4] : List V).length = 5 from rfl, e5] at lj
      exact ⟨_, rfl, q _ _ (q1.trans sj) ⟨r, ys, rfl, hrj, lj.out⟩⟩
def spLaw (K : PySem.W.Frag) : Sp := fun vs H Q _ => ∃ (a : Addr) (ns : List Int), vs = [.ref a] ∧ SqL K H a (ns.map V.int) ∧ ns.length ≤ 63 ∧ ∀ H', Q (.bl true) H'
theorem names_shaped {l : List NestedKey} (h : ∀ k ∈ l, ∃ ns j, k = nameK ns j) : SeqAt.shaped (.list (l.map (·.data))) = true := by
  have a : ∀ d ∈ l.map (·.data), d.canLay0 = true ∧ d.depth ≤ 2 := fun d hd => by
    obtain ⟨k, hk, rfl⟩ := List.mem_map.mp hd
    obtain ⟨ns, j, rfl⟩ := h k hk
    exact name_lay ns j
  refine Nst.shaped_of (by simp only [PyData.canLay0, layAll_of fun e he => (a e he).1]) ?_
  have := depthAll_of fun e he => (a e he).2
  simp only [PyData.depth]
  omega
theorem ok_law (T : Txt K mg w a) : FnOk P w K mg base CX0 6 (He.ga K "law") a.d_law ["script"] (spLaw K) := by
  have gh := ok_Finder_hear (P := P) (w := w) (base := base) T
  have gp := ok_Finder_park (P := P) (w := w) (base := base) T
  refine T.F_law.ok sc_law (fun vs H Q E h => ?_) (fun cdv A outer s H vs Q E hr h => ?_)
  · obtain ⟨l, ns, rfl, _⟩ := h
    rfl
  · obtain ⟨l, sc, rfl, hl, hsc, q⟩ := h
    refine ⟨_, PSs.nox (pss_cons (ps_set (i := 1) sc_law.nd rfl (Or.inl rfl) (pe_call (ok_lw_numbers T) (hr.mono (by omega)) (by rfl) T.g_lw_numbers T.F_lw_numbers.kp T.b_lw_numbers .nil pass0 (pa_cons (pv 0) (pa_cons pe_int pa_nil))))
      (pss_cons (ps_set (i := 2) sc_law.nd rfl (Or.inl rfl) (pe_op op_add pe_int (pe_op op_mod (pe_ix ix_list (pv 1) pe_int (fun _ _ => rfl)) pe_int)))
      (pss_cons (ps_set (i := 3) sc_law.nd rfl (Or.inl rfl) (pe_make T.k_Finder (ok_Finder_init T) (hr.mono (by omega)) (by rfl) T.g_Finder T.b_Finder_init .nil pass0 (pa_cons (pe_op op_mod (pe_ix ix_list (pv 1) pe_int (fun _ _ => rfl)) (pv 2)) (pa_cons (pv 2) pa_nil))))
      (pss_cons (ps_expr (pe_call (ok_lw_go T) (hr.mono (by omega)) (by rfl) T.g_lw_go T.F_lw_go.kp T.b_lw_go .nil pass0 (pa_cons (pv 3) (pa_cons (pv 1) (pa_cons pe_int (pa_cons (pe_op op_mod (pe_ix ix_list (pv 1) pe_int (fun _ _ => rfl)) pe_int) (pa_cons (pv 2) pa_nil)))))))
      (pss_cons (ps_set (i := 4) sc_law.nd rfl (Or.inl rfl) (pe_meth0 (pv 3) T.c_Finder T.m_Finder_image (ok_Finder_image T) (hr.mono (by omega)) T.b_Finder_image .nil pass0))
      (pss_cons (ps_if (PW.pt (pw_or (pt_cmpR (op_neD hr.units) (pe_lc (own := [("one", 11)]) (g := gName 11) (tt := tYes) (te := (tOp (rIxT K) (tVar 11) (tC (.int 0)))) (by rfl) sc_law.nd (pi_tup (pe_ix ix_tup (pv 4) pe_int (fun _ _ => rfl))) (blkOk_by (own := [("one", 11)]) (N := N_law) (sc := defScope s_law) (by decide +kernel)) (fun _ _ _ _ _ => pg_name (i := 11) sc_law.nd rfl (Or.inl rfl)) (fun _ _ _ _ _ => pts_nil) (fun _ _ _ _ _ => (pe_ix (r := rIxT K) ix_tup (pv 11) pe_int (fun _ _ => rfl)))) (pe_callB (SortN.call_sortL rfl hr.units) (by rfl) T.g_sorted boot_sorted (pa_cons (pe_lc (own := [("one", 11)]) (g := gName 11) (tt := tYes) (te := (tOp (rIxT K) (tVar 11) (tC (.int 0)))) (by rfl) sc_law.nd (pi_tup (pe_ix ix_tup (pv 4) pe_int (fun _ _ => rfl))) (blkOk_by (own := [("one", 11)]) (N := N_law) (sc := defScope s_law) (by decide +kernel)) (fun _ _ _ _ _ => pg_name (i := 11) sc_law.nd rfl (Or.inl rfl)) (fun _ _ _ _ _ => pts_nil) (fun _ _ _ _ _ => (pe_ix (r := rIxT K) ix_tup (pv 11) pe_int (fun _ _ => rfl)))) pa_nil)) (nomark _)) (pw_or1 (pt_cmpR (op_neD hr.units) (pe_ix ix_tup (pv 4) pe_int (fun _ _ => rfl)) (pe_meth0 (pv 3) T.c_Finder T.m_Finder_parked (ok_Finder_parked T) (hr.mono (by omega)) T.b_Finder_parked .nil pass0) (nomark _))))) (pss_one (ps_ret pe_bl)) pss_nil)
      (pss_cons (ps_for PassesOwn.never rfl (pi_tup (pe_ix ix_tup (pv 4) pe_int (fun _ _ => rfl))) (pg_tup (by rfl) (pgs_cons (pg_name (i := 5) sc_law.nd rfl (Or.inl rfl)) (pgs_cons (pg_name (i := 6) sc_law.nd rfl (Or.inl rfl)) (pgs_cons (pg_name (i := 7) sc_law.nd rfl (Or.inl rfl)) pgs_nil))))
      (pss_one (ps_if (pt_cmpR (op_neD hr.units) (pe_meth (pv 3) T.c_Finder T.m_Finder_mark (ok_Finder_mark T) (hr.mono (by omega)) T.b_Finder_mark .nil pass0 (pa_cons (pv 5) pa_nil)) (pe_tup (pa_cons (pv 6) (pa_cons (pv 7) pa_nil))) (nomark _)) (pss_one (ps_ret pe_bl)) pss_nil)))
      (pss_cons (ps_set (i := 8) sc_law.nd rfl (Or.inl rfl) (pe_call (ok_lw_ways T) (hr.mono (by omega)) (by rfl) T.g_lw_ways T.F_lw_ways.kp T.b_lw_ways .nil pass0 (pa_cons (pv 3) pa_nil)))
      (pss_cons (ps_set (i := 9) sc_law.nd rfl (Or.inl rfl) (pe_meth0 (pv 3) T.c_Finder T.m_Finder_copy (ok_Finder_copy T) (hr.mono (by omega)) T.b_Finder_copy .nil pass0))
      (pss_cons (ps_if (PW.pt (pw_or (pt_cmpR (op_neD hr.units) (pe_meth0 (pv 9) T.c_Finder T.m_Finder_image (ok_Finder_image T) (hr.mono (by omega)) T.b_Finder_image .nil pass0) (pv 4) (nomark _)) (pw_or1 (pt_cmpR (op_neD hr.units) (pe_call (ok_lw_ways T) (hr.mono (by omega)) (by rfl) T.g_lw_ways T.F_lw_ways.kp T.b_lw_ways .nil pass0 (pa_cons (pv 9) pa_nil)) (pv 8) (nomark _))))) (pss_one (ps_ret pe_bl)) pss_nil)
      (pss_cons (ps_expr (pe_call (ok_lw_go T) (hr.mono (by omega)) (by rfl) T.g_lw_go T.F_lw_go.kp T.b_lw_go .nil pass0 (pa_cons (pv 9) (pa_cons (pv 1) (pa_cons pe_int (pa_cons pe_int (pa_cons (pv 2) pa_nil)))))))
      (pss_cons (ps_expr (pe_meth (pv 9) T.c_Finder T.m_Finder_hear gh (hr.mono (by omega)) T.b_Finder_hear .nil MethT.passF (pa_cons (pe_tup (pa_cons (pe_tup (pa_cons pe_int pa_nil)) (pa_cons pe_int pa_nil))) (pa_cons pe_int (pa_cons pe_int pa_nil)))))
      (pss_cons (ps_if (PW.pt (pw_or (pt_cmpR (op_neD hr.units) (pe_meth0 (pv 3) T.c_Finder T.m_Finder_image (ok_Finder_image T) (hr.mono (by omega)) T.b_Finder_image .nil pass0) (pv 4) (nomark _)) (pw_or (pt_cmpR (op_neD hr.units) (pe_call (ok_lw_ways T) (hr.mono (by omega)) (by rfl) T.g_lw_ways T.F_lw_ways.kp T.b_lw_ways .nil pass0 (pa_cons (pv 3) pa_nil)) (pv 8) (nomark _)) (pw_or1 (pt_cmpR (op_eqD hr.units) (pe_meth0 (pv 9) T.c_Finder T.m_Finder_image (ok_Finder_image T) (hr.mono (by omega)) T.b_Finder_image .nil pass0) (pv 4) (nomark _)))))) (pss_one (ps_ret pe_bl)) pss_nil)
      (pss_cons (ps_set (i := 10) sc_law.nd rfl (Or.inl rfl) (pe_meth0 (pv 9) T.c_Finder T.m_Finder_image (ok_Finder_image T) (hr.mono (by omega)) T.b_Finder_image .nil pass0))
      (pss_cons (ps_expr (pe_call (ok_lw_go T) (hr.mono (by omega)) (by rfl) T.g_lw_go T.F_lw_go.kp T.b_lw_go .nil pass0 (pa_cons (pv 3) (pa_cons (pv 1) (pa_cons pe_int (pa_cons pe_int (pa_cons (pv 2) pa_nil)))))))
      (pss_cons (ps_expr (pe_meth (pv 3) T.c_Finder T.m_Finder_park gp (hr.mono (by omega)) T.b_Finder_park .nil MethT.passF (pa_cons (pe_tup (pa_cons pe_str (pa_cons (pe_tup (pa_cons (pe_tup (pa_cons pe_int pa_nil)) (pa_cons pe_int pa_nil))) (pa_cons pe_int (pa_cons pe_int pa_nil))))) pa_nil)))
      (pss_one (ps_ret (pe_and (pe_cmpR (op_eqD hr.units) (pe_meth0 (pv 9) T.c_Finder T.m_Finder_image (ok_Finder_image T) (hr.mono (by omega)) T.b_Finder_image .nil pass0) (pv 10) (nomark _)) (pe_one (pe_cmpR (op_eqD hr.units) (pe_meth0 (pe_meth0 (pv 9) T.c_Finder T.m_Finder_copy (ok_Finder_copy T) (hr.mono (by omega)) T.b_Finder_copy .nil pass0) T.c_Finder T.m_Finder_image (ok_Finder_image T) (hr.mono (by omega)) T.b_Finder_image .nil pass0) (pv 10) (nomark _)))))))))))))))))))))), ?_⟩
    rw [show L2.start N_law [.ref l] = [some (.ref l), none, none, none, none, none, none, none, none, none, none, none] from rfl]
    refine ⟨_, rfl, l, sc, 60, rfl, hl, hsc, by decide, fun H1 pn nums s1 np hp hlen hok => ?_⟩
    simp only [List.set_cons_succ, List.set_cons_zero]
    obtain ⟨n0, hn0, e0⟩ := Cm.at_int (ns := nums) (i := 0) (by omega) (by omega)
    obtain ⟨n1, hn1, e1⟩ := Cm.at_int (ns := nums) (i := 1) (by omega) (by omega)
    obtain ⟨n2, hn2, e2⟩ := Cm.at_int (ns := nums) (i := 2) (by omega) (by omega)
    obtain ⟨g0, _⟩ := hok n0 hn0
    obtain ⟨g1, _⟩ := hok n1 hn1
    obtain ⟨g2, _⟩ := hok n2 hn2
    refine ⟨_, rfl, pn, _, _, _, rfl, rfl, SqL.of hp, e0, _, _, rfl, rfl, (by show (0 : Int) < 6; decide), _, _, rfl, rfl, ?_⟩
    have hpl : 0 < 1 + n0 % 6 := by omega
    simp only [gName, List.set_cons_succ, List.set_cons_zero]
    generalize 1 + n0 % 6 = pl at *
    -- finder
    refine ⟨_, rfl, pn, _, _, _, rfl, rfl, SqL.of hp, e1, _, rfl, _, _, rfl, rfl, hpl, _, rfl, fun x dx nx ndx nex => ⟨x, dx, _, _, rfl, upd_same, fun d wl H2 hd hw F fr => ⟨rfl, ?_⟩⟩⟩
    have hme : 0 ≤ n1 % pl ∧ n1 % pl < pl := ⟨Int.emod_nonneg _ (by omega), Int.emod_lt_of_pos _ hpl⟩
    generalize n1 % pl = me at *
    have s2 : Same H1 H2 := fun b o hb => fr b o (by rw [upd_ne (ne_of_none hb nx), upd_ne (ne_of_none hb ndx)]; exact hb) (ne_of_none hb nx)
    have hp2 := s2 _ _ hp
    have npw : pn ≠ wl := by
      refine ne_of_none (o := .lst (nums.map V.int)) ?_ hw
      rw [upd_ne (ne_of_none hp nx), upd_ne (ne_of_none hp ndx)]
      exact hp
    have D0 : FD P w K H2 x d wl me pl [] [] := ⟨[], F, .nil⟩
    have B0 : FB k5 0 [] [] := ⟨Nat.le_refl _, (fun k hk => nomatch hk), Nat.le_refl _, fun k hk => nomatch hk⟩
    clear fr hd hw nex ndx nx
    simp only [gName, List.set_cons_succ, List.set_cons_zero]
    -- _law_go(finder, numbers, 4, numbers[2] % 20, places)
    have hkk : ∃ kk : Nat, n2 % 20 = (kk : Int) ∧ kk < 20 := ⟨(n2 % 20).toNat, by omega, by omega⟩
    obtain ⟨kk, hkk, hkk2⟩ := hkk
    refine ⟨_, rfl, _, rfl, _, rfl, pn, _, _, _, rfl, rfl, SqL.of hp2, e2, _, _, rfl, rfl, (by show (0 : Int) < 20; decide), _, rfl, ?_⟩
    refine ⟨x, d, wl, pn, me, pl, [], [], nums, 4, kk, 0, congrArg (fun z => [V.ref x, V.ref pn, V.int 4, V.int z, V.int pl]) hkk, D0, B0, by omega, hp2, npw, hlen, hok, hpl, fun H3 wl1 ms wd D1 B1 eo1 fr1 => ?_⟩
    obtain ⟨z1, z2⟩ := D0.lists hp2
    have hp3 := fr1 _ _ hp2 z1 z2 npw
    have npw1 : pn ≠ wl1 := by
      rcases eo1 with e | e
      · rw [e]; exact npw
      · exact ne_of_none hp2 e
    clear z1 z2 eo1 fr1 D0 B0 npw hp2 s2
    have B : FB k5 20 ms wd := B1.mono (by omega)
    clear B1
    have k56 : ∀ k ∈ k5, k ∈ k6 := fun k hk => List.mem_append_left _ hk
    have B6 := B.wide k56
    have no : NamesOk ms := fun k hk => k6_ok k (B6.i k hk)
    have lms : ms.length ≤ 1000 := by have := B.l; omega
    have shI := B6.shaped
    have shW := ways_shaped me pl ms
    -- image
    obtain ⟨ws, F1, rw1⟩ := id D1
    obtain ⟨dx1, ho1⟩ := F1.ob
    refine ⟨_, rfl, x, dx1, _, rfl, ho1, fl_no (by decide +kernel), x, d, wl1, me, pl, ms, ws, wd, rfl, F1, no, lms, rw1, fun H4 iv s4 ri4 => ?_⟩
    have D4 := D1.same s4
    have hp4 := s4 _ _ hp3
    simp only [gName, List.set_cons_succ, List.set_cons_zero]
    -- the names of the image, in order
    obtain ⟨b, ivs, rfl, hb, rvs⟩ := Rp.tup_inv ri4
    obtain ⟨v0, r1, rfl, rv0, rvs⟩ := rvs.cons_inv
    obtain ⟨v1, r2, rfl, rv1, rvs⟩ := rvs.cons_inv
    obtain rfl := rvs.nil_inv
    obtain ⟨rt, rows, rfl, hrt, rrows⟩ := rv0.tup_inv
    have lrows : rows.length = (srtK ms).length := by rw [rrows.len, List.length_map]
    have lsrt : (srtK ms).length ≤ 1000 := by
      unfold srtK
      rw [List.length_mergeSort, List.length_map]
      exact lms
    have hrow : ∀ (i : Nat) (y : V), rows[i]? = some y → ∃ (k : NestedKey) (t : Addr) (nm : V) (m : Int × Int), (srtK ms)[i]? = some k ∧ lookM ms k = some m ∧ k ∈ k6 ∧ y = .ref t ∧ SqT K H4 t [nm, .int m.1, .int m.2] ∧ Rp K H4 nm k.data := by
      intro i y hy
      have hi : i < (srtK ms).length := by
        rw [← lrows]
        exact (List.getElem?_eq_some_iff.mp hy).1
      have hk : (srtK ms)[i]? = some (srtK ms)[i] := List.getElem?_eq_getElem hi
      obtain ⟨y', hy', ry⟩ := rrows.at_ (i := i) (d := rowD ms (srtK ms)[i]) (by rw [List.getElem?_map, hk]; rfl)
      rw [hy] at hy'
      cases hy'
      have hmem := srtK_mem (List.getElem_mem hi)
      generalize (srtK ms)[i] = k at hk ry hmem
      obtain ⟨m, hm⟩ := lookM_some hmem
      have e : rowD ms k = .tuple [k.data, .int m.1, .int m.2] := by
        unfold rowD
        rw [hm]
      rw [e] at ry
      obtain ⟨t, us, rfl, ht, rus⟩ := ry.tup_inv
      obtain ⟨nm, r1, rfl, w1, rus⟩ := rus.cons_inv
      obtain ⟨u1, r2, rfl, w2, rus⟩ := rus.cons_inv
      obtain ⟨u2, r3, rfl, w3, rus⟩ := rus.cons_inv
      obtain rfl := rus.nil_inv
      obtain rfl := w2.int_inv
      obtain rfl := w3.int_inv
      exact ⟨k, t, nm, m, hk, hm, B6.i k hmem, rfl, ht, w1⟩
    have shN := names_shaped (l := srtK ms) fun k hk => k6_ok k (B6.i k (srtK_mem hk))
    have hss : SortN.srt ((srtK ms).map (·.data)) = (srtK ms).map (·.data) := by
      rw [← srtK_data, srt_srt]
    have hmN : ∀ dd ∈ (srtK ms).map (·.data), dd ∈ ms.map (·.1.data) := fun dd hdd => by
      obtain ⟨k, hk, rfl⟩ := List.mem_map.mp hdd
      obtain ⟨z, hz, rfl⟩ := List.mem_map.mp (srtK_mem hk)
      exact List.mem_map.mpr ⟨z, hz, rfl⟩
    -- [one[0] for one in image[0]], twice
    refine ⟨_, rfl, b, _, 0, _, rfl, rfl, hb, atI_nat (j := 0) rfl, rt, rfl, ⟨_, hrt⟩, fun DA nDA => ?_⟩
    refine lc_tup (K := K) (a := rt) (xs := rows) (fun i Hi => Same H4 Hi ∧ ∃ acc, Hi DA = some (.lst acc) ∧ Rps K Hi acc (((srtK ms).take i).map (·.data)) ∧ acc.length = i) ⟨Cm.same_new nDA, [], upd_same, .nil, rfl⟩ (fun i Hi _ b => Cm.sameT b.1 hrt) (fun i y Hi hy b => ?_) fun HA b => ?_
    · obtain ⟨sH, acc, hD, rD, lD⟩ := b
      refine ⟨rfl, ?_⟩
      simp only [List.map_cons, List.map_nil, List.set_cons_succ, List.set_cons_zero, wipe]
      obtain ⟨k, t, nm, m, hk, _, _, rfl, ht, rk⟩ := hrow i y hy
      have hi := (List.getElem?_eq_some_iff.mp hk).1
      refine ⟨_, rfl, t, _, 0, _, rfl, rfl, Cm.sameT sH ht, atI_nat (j := 0) rfl, acc, hD, Cm.smallL (by omega), Cm.same_mut sH nDA, acc ++ [nm], upd_same, ?_, by rw [List.length_append, lD]; rfl⟩
      rw [List.take_succ, hk, List.map_append]
      exact rps_keep (TK.upd (by rw [hD]; exact True.intro)) (rD.app (.cons (rk.keep (Same.tups sH)) .nil))
    obtain ⟨sA, acc1, hDA, rA, lA⟩ := b
    rw [lrows, List.take_length] at rA
    refine ⟨_, rfl, b, _, 0, _, rfl, rfl, Cm.sameT sA hb, atI_nat (j := 0) rfl, rt, rfl, ⟨_, Cm.sameT sA hrt⟩, fun DB nDB => ?_⟩
    refine lc_tup (K := K) (a := rt) (xs := rows) (fun i Hi => Same HA Hi ∧ ∃ acc, Hi DB = some (.lst acc) ∧ Rps K Hi acc (((srtK ms).take i).map (·.data)) ∧ acc.length = i) ⟨Cm.same_new nDB, [], upd_same, .nil, rfl⟩ (fun i Hi _ b => Cm.sameT (sA.trans b.1) hrt) (fun i y Hi hy b => ?_) fun HB b => ?_
    · obtain ⟨sH, acc, hD, rD, lD⟩ := b
      refine ⟨rfl, ?_⟩
      simp only [List.map_cons, List.map_nil, List.set_cons_succ, List.set_cons_zero, wipe]
      obtain ⟨k, t, nm, m, hk, _, _, rfl, ht, rk⟩ := hrow i y hy
      have hi := (List.getElem?_eq_some_iff.mp hk).1
      refine ⟨_, rfl, t, _, 0, _, rfl, rfl, Cm.sameT (sA.trans sH) ht, atI_nat (j := 0) rfl, acc, hD, Cm.smallL (by omega), Cm.same_mut sH nDB, acc ++ [nm], upd_same, ?_, by rw [List.length_append, lD]; rfl⟩
      rw [List.take_succ, hk, List.map_append]
      exact rps_keep (TK.upd (by rw [hD]; exact True.intro)) (rD.app (.cons (rk.keep (Same.tups (sA.trans sH))) .nil))
    obtain ⟨sB, acc2, hDB, rB, lB⟩ := b
    rw [lrows, List.take_length] at rB
    refine ⟨DB, acc2, _, rfl, SqL.of hDB, rB, fun d1 h1 d2 h2 => names_alike no d1 (hmN d1 h1) d2 (hmN d2 h2), (by
      refine .inl fun dd hdd => ?_
      obtain ⟨k, hk, rfl⟩ := List.mem_map.mp hdd
      obtain ⟨ns, j, rfl⟩ := k6_ok k (B6.i k (srtK_mem hk))
      exact ⟨_, _, nameK_data ns j⟩), fun dd hdd => names_depth no dd (hmN dd hdd), fun ys q0 ry nq0 => ?_⟩
    rw [hss] at ry
    have sQ := Cm.same_new (o := .lst ys) nq0
    have hq0 : (upd HB q0 (.lst ys)) q0 = some (.lst ys) := upd_same
    have ryQ := ry.keep (Same.tups sQ)
    generalize upd HB q0 (.lst ys) = HQ at *
    have sBQ := sB.trans sQ
    refine ⟨_, _, .lst (SqL.of (sBQ _ _ hDA)) (rA.keep (Same.tups sBQ)).dp, .lst (SqL.of hq0) ryQ.dp, shN, shN, _, rfl, Cm.itBn (fun e => absurd (Nst.eqv_self shN) (by rw [e]; decide)) fun _ => ?_⟩
    -- image[1] != finder.parked()
    have s5 := sA.trans sBQ
    have D5 := D4.same s5
    have hp5 := s5 _ _ hp4
    obtain ⟨wsq, F5, rw5⟩ := id D5
    obtain ⟨dx5, ho5⟩ := F5.ob
    refine ⟨_, rfl, b, _, 1, _, rfl, rfl, Cm.sameT s5 hb, atI_nat (j := 1) rfl, ?_⟩
    refine ⟨_, rfl, x, dx5, _, rfl, ho5, fl_no (by decide +kernel), x, d, wl1, me, pl, ms, wsq, rfl, F5, fun r nr => ?_⟩
    have sr := Cm.same_new (o := .tup wsq) nr
    have shP : SeqAt.shaped (.tuple wd) = true := by
      obtain ⟨h1, h2⟩ := bodies_lay B.b
      exact Nst.shaped_of (by simp [PyData.canLay0, h1]) (by simp only [PyData.depth]; omega)
    refine ⟨_, _, (rv1.keep (Same.tups (s5.trans sr))).dp, (Rp.made nr rw5).dp, shP, shP, _, rfl, Cm.itBn (fun e => absurd (Nst.eqv_self shP) (by rw [e]; decide)) fun _ => ?_⟩
    have s6 := s5.trans sr
    have D6 := D5.same sr
    have hp6 := sr _ _ hp5
    have ri6 := ri4.keep (Same.tups s6)
    generalize upd HQ r (.tup wsq) = H6 at *
    clear rA rB hDA hDB ry ryQ hq0 lA lB sBQ sB sA sQ F5 ho5 rw5 sr s5 D5 hp5
    -- for name, place, count in image[0]
    refine ⟨_, rfl, b, _, 0, _, rfl, rfl, Cm.sameT s6 hb, atI_nat (j := 0) rfl, rt, rfl, ⟨_, Cm.sameT s6 hrt⟩, for_tup (K := K) (a := rt) (xs := rows) (fun i σ H7 => Same H6 H7 ∧ ∃ x5 x6 x7 : Option V, σ = [some (.ref l), some (.ref pn), some (.int pl), some (.ref x), some (.ref b), x5, x6, x7, none, none, none, none])
      ⟨Same.refl _, _, _, _, rfl⟩ (fun i σ H7 _ h => Cm.sameT (s6.trans h.1) hrt) (fun i y σ H7 hy ⟨s7, x5, x6, x7, e⟩ => ?_) fun σ H7 ⟨s7, x5, x6, x7, e⟩ => ?_⟩
    · subst e
      obtain ⟨k, t, nm, m, hk, hm, hk6, rfl, ht, rk⟩ := hrow i y hy
      have s67 := s6.trans s7
      refine ⟨t, _, rfl, Cm.sameT s67 ht, rfl, _, _, rfl, _, _, rfl, _, _, rfl, rfl, ?_⟩
      obtain ⟨wsq, F7, _⟩ := D6.same s7
      obtain ⟨dx7, ho7⟩ := F7.ob
      refine ⟨_, rfl, x, dx7, _, rfl, ho7, fl_no (by decide +kernel), _, rfl, x, d, wl1, me, pl, ms, wsq, nm, k, rfl, F7, nameK_key (k6_ok k hk6) (rk.keep (Same.tups s67)), fun v hv => ?_⟩
      rw [hm] at hv
      obtain ⟨mb, rfl, hmb⟩ := hv
      refine ⟨_, rfl, _, rfl, Cm.small (by show 2 ≤ 100000; decide), fun t2 nt2 => ?_⟩
      have st := Cm.same_new (o := .tup [.int m.1, .int m.2]) nt2
      have shM : SeqAt.shaped (.tuple [.int m.1, .int m.2]) = true := Nst.shaped_of (by simp [PyData.canLay0, PyData.canLayAll0]) (by simp [PyData.depth, PyData.depthAll])
      refine ⟨_, _, (Rp.tup (Cm.sameT st hmb) (.cons (.int _) (.cons (.int _) .nil))).dp, (Rp.made nt2 (.cons (.int _) (.cons (.int _) .nil))).dp, shM, shM, _, rfl, Cm.itBn (fun e => absurd (Nst.eqv_self shM) (by rw [e]; decide)) fun _ => ?_⟩
      exact ⟨s7.trans st, _, _, _, rfl⟩
    · subst e
      have D7 := D6.same s7
      have hp7 := s7 _ _ hp6
      have ri7 := ri6.keep (Same.tups s7)
      clear D4 D6 hp4 hp6 ri4 ri6 s6 hrow rrows hrt rv0 rv1 hb hss hmN shN
      -- ways
      obtain ⟨wsq, F7, rw7⟩ := id D7
      obtain ⟨dx7, ho7⟩ := F7.ob
      refine ⟨_, rfl, x, d, wl1, me, pl, ms, wsq, rfl, F7, hpl, fun H8 wv s8 hwv => ?_⟩
      have D8 := D7.same s8
      have hp8 := s8 _ _ hp7
      have ri8 := ri7.keep (Same.tups s8)
      simp only [gName, List.set_cons_succ, List.set_cons_zero]
      -- twin
      obtain ⟨wsc, F8, rw8⟩ := id D8
      obtain ⟨dx8, ho8⟩ := F8.ob
      refine ⟨_, rfl, x, dx8, _, rfl, ho8, fl_no (by decide +kernel), x, d, wl1, me, pl, ms, wsc, rfl, F8, lms, fun H9 y dy wy fy fdy fwy Fy s9 => ?_⟩
      have Dy : FD P w K H9 y dy wy me pl ms wd := ⟨wsc, Fy, rw8.keep (Same.tups s9)⟩
      simp only [gName, List.set_cons_succ, List.set_cons_zero]
      clear F7 rw7 ho7 F8 ho8 Fy
      -- the first test
      obtain ⟨wsa, Fa, rwa⟩ := id Dy
      obtain ⟨dxa, hoa⟩ := Fa.ob
      refine ⟨_, rfl, y, dxa, _, rfl, hoa, fl_no (by decide +kernel), y, dy, wy, me, pl, ms, wsa, wd, rfl, Fa, no, lms, rwa, fun Ha v1 sa ra => ?_⟩
      refine ⟨_, rfl, _, _, ra.dp, (ri8.keep (Same.tups (s9.trans sa))).dp, shI, shI, _, rfl, Cm.itBn (fun e => absurd (Nst.eqv_self shI) (by rw [e]; decide)) fun _ => ?_⟩
      obtain ⟨wsb, Fb, _⟩ := Dy.same sa
      refine ⟨_, rfl, y, dy, wy, me, pl, ms, wsb, rfl, Fb, hpl, fun Hb v2 sb hv2 => ?_⟩
      have s9b := (s9.trans sa).trans sb
      refine ⟨_, rfl, _, _, hv2.dp, (hwv.same s9b).dp, shW, shW, _, rfl, Cm.itBn (fun e => absurd (Nst.eqv_self shW) (by rw [e]; decide)) fun _ => ?_⟩
      have Dyb := (Dy.same sa).same sb
      have hpb := s9b _ _ hp8
      clear ra hv2 Fa hoa rwa Fb Dy sa sb s9
      -- _law_go(twin, ..)
      have npy : pn ≠ wy := ne_of_none hp8 fwy
      refine ⟨_, rfl, _, rfl, _, rfl, y, dy, wy, pn, me, pl, ms, wd, nums, 24, 12, 20, rfl, Dyb, B, by omega, hpb, npy, hlen, hok, hpl, fun H10 wy2 ms2 wd2 Dy2 B2 eo2 fr2 => ?_⟩
      have fwy2 : H8 wy2 = none := by
        rcases eo2 with e | e
        · rw [e]; exact fwy
        · exact s9b.free e
      have s10 := Same.over s9b fr2 fy fdy fwy
      clear eo2 fr2 Dyb hpb npy s9b
      -- twin.hear(((9,), 9), 0, 1)
      obtain ⟨wsh, Fh, rwh⟩ := id Dy2
      obtain ⟨dxh, hoh⟩ := Fh.ob
      refine ⟨_, rfl, y, dxh, _, rfl, hoh, fl_no (by decide +kernel), Cm.small (by show 1 ≤ 100000; decide), fun t0 nt0 => ⟨Cm.small (by show 2 ≤ 100000; decide), fun b0 nb0 => ?_⟩⟩
      have q1 := Cm.same_new (o := .tup [.int 9]) nt0
      have q2 := Cm.same_new (o := .tup [.ref t0, .int 9]) nb0
      have hk9 : KeyAt K (upd (upd H10 t0 (.tup [.int 9])) b0 (.tup [.ref t0, .int 9])) (.ref b0) (nameK [9] 9) := key_make Cm.sqt_new (Cm.sameT q2 Cm.sqt_new)
      have qA := q1.trans q2
      generalize upd (upd H10 t0 (.tup [.int 9])) b0 (.tup [.ref t0, .int 9]) = HB2 at *
      refine ⟨y, dy, wy2, me, pl, ms2, wsh, _, nameK [9] 9, 0, 1, rfl, Fh.same qA, hk9, by have := B2.l; omega, fun _ _ H11 F11 fr11 => ?_, fun bad => absurd ⟨⟨Int.le_refl 0, hpl⟩, by decide⟩ bad⟩
      have f11 : Fr y dy wy2 HB2 H11 := fun c u hc _ n2 _ => fr11 c u hc n2
      have Dy3 : FD P w K H11 y dy wy2 me pl (hearM ms2 (nameK [9] 9) 0 1) wd2 := ⟨wsh, F11, rps_keep (f11.tk (Dy2.same qA)) (rwh.keep (Same.tups qA))⟩
      have s11 := Same.over (s10.trans qA) f11 fy fdy fwy2
      have B3 : FB k6 33 (hearM ms2 (nameK [9] 9) 0 1) wd2 := (B2.wide k56).hear (List.mem_append_right _ List.mem_cons_self)
      have in9 : nameK [9] 9 ∈ (hearM ms2 (nameK [9] 9) 0 1).map (·.1) := by
        have z : nameK [9] 9 ∉ ms2.map (·.1) := fun z => absurd (B2.i _ z) (by decide +kernel)
        have e : lookM ms2 (nameK [9] 9) = none := by
          cases e : lookM ms2 (nameK [9] 9) with
          | none => rfl
          | some m => exact absurd (look_mem e) z
        unfold hearM
        rw [e]
        exact look_mem (m := (0, 1)) (by rw [lookM_putM, if_pos rfl])
      have out9 : nameK [9] 9 ∉ ms.map (·.1) := fun z => absurd (B.i _ z) (by decide +kernel)
      have hdiff := img_ne (wd := wd2) (wd' := wd) B3.i B6.i in9 out9
      clear in9 Fh hoh rwh q1 q2 qA hk9 f11 fr11 F11 Dy2 s10 B2
      generalize hearM ms2 (nameK [9] 9) 0 1 = ms3 at *
      have no3 : NamesOk ms3 := fun k hk => k6_ok k (B3.i k hk)
      have lms3 : ms3.length ≤ 1000 := by have := B3.l; omega
      have shJ := B3.shaped
      -- the second test
      have Dx := D8.same s11
      have hpx := s11 _ _ hp8
      have rix := ri8.keep (Same.tups s11)
      have hwx := hwv.same s11
      obtain ⟨wsa, Fa, rwa⟩ := id Dx
      obtain ⟨dxa, hoa⟩ := Fa.ob
      refine ⟨_, rfl, x, dxa, _, rfl, hoa, fl_no (by decide +kernel), x, d, wl1, me, pl, ms, wsa, wd, rfl, Fa, no, lms, rwa, fun Ha v1 sa ra => ?_⟩
      refine ⟨_, rfl, _, _, ra.dp, (rix.keep (Same.tups sa)).dp, shI, shI, _, rfl, Cm.itBn (fun e => absurd (Nst.eqv_self shI) (by rw [e]; decide)) fun _ => ?_⟩
      obtain ⟨wsb, Fb, _⟩ := Dx.same sa
      refine ⟨_, rfl, x, d, wl1, me, pl, ms, wsb, rfl, Fb, hpl, fun Hb v2 sb hv2 => ?_⟩
      refine ⟨_, rfl, _, _, hv2.dp, (hwx.same (sa.trans sb)).dp, shW, shW, _, rfl, Cm.itBn (fun e => absurd (Nst.eqv_self shW) (by rw [e]; decide)) fun _ => ?_⟩
      obtain ⟨wsc, Fc, rwc⟩ := Dy3.same (sa.trans sb)
      obtain ⟨dxc, hoc⟩ := Fc.ob
      refine ⟨_, rfl, y, dxc, _, rfl, hoc, fl_no (by decide +kernel), y, dy, wy2, me, pl, ms3, wsc, wd2, rfl, Fc, no3, lms3, rwc, fun Hc v3 sc3 rc => ?_⟩
      refine ⟨_, rfl, _, _, rc.dp, (rix.keep (Same.tups ((sa.trans sb).trans sc3))).dp, shJ, shI, _, rfl, Cm.itB (fun e => absurd hdiff (by rw [e]; decide)) fun _ => ?_⟩
      have sx := (sa.trans sb).trans sc3
      -- later
      obtain ⟨wsd, Fd, rwd⟩ := Dy3.same sx
      obtain ⟨dxd, hod⟩ := Fd.ob
      refine ⟨_, rfl, y, dxd, _, rfl, hod, fl_no (by decide +kernel), y, dy, wy2, me, pl, ms3, wsd, wd2, rfl, Fd, no3, lms3, rwd, fun H12 v4 s4d rd => ?_⟩
      simp only [gName, List.set_cons_succ, List.set_cons_zero]
      have s12 := sx.trans s4d
      have Dx2 := Dx.same s12
      have Dy4 := Dy3.same s12
      have hp12 := s12 _ _ hpx
      have s8x := s11.trans s12
      clear ra rc hv2 Fa hoa rwa Fb Fc hoc rwc Fd hod rwd sa sb sc3 sx s4d Dx Dy3 rix hwx hpx s12 hwv
      -- _law_go(finder, ..)
      refine ⟨_, rfl, _, rfl, _, rfl, x, d, wl1, pn, me, pl, ms, wd, nums, 36, 12, 20, rfl, Dx2, B, by omega, hp12, npw1, hlen, hok, hpl, fun H13 wl3 ms4 wd4 Dx3 B4 eo3 fr3 => ?_⟩
      obtain ⟨⟨_, tx⟩, ⟨_, td⟩, ⟨_, tw⟩⟩ := D8.there
      obtain ⟨⟨_, ty⟩, ⟨_, tdy⟩, ⟨_, twy⟩⟩ := Dy4.there
      have sep : ∀ c, H8 c = none → c ≠ x ∧ c ≠ d ∧ c ≠ wl1 := fun c hc => ⟨(ne_of_none tx hc).symm, (ne_of_none td hc).symm, (ne_of_none tw hc).symm⟩
      have Dy5 : FD P w K H13 y dy wy2 me pl ms3 wd2 := by
        obtain ⟨wsz, ⟨⟨dxz, h1⟩, ⟨kvs, g2, h3⟩, h4, h5⟩, r⟩ := id Dy4
        have tk := fr3.tk Dx2
        have go : ∀ c, H8 c = none → ∀ u, H12 c = some u → H13 c = some u := fun c hc u hu => fr3 c u hu (sep c hc).1 (sep c hc).2.1 (sep c hc).2.2
        obtain ⟨xs, ge, _⟩ := id g2
        exact ⟨wsz, ⟨⟨dxz, go _ fy _ h1⟩, ⟨kvs, g2.keep tk (by rw [ge]; exact go _ fdy _ ge), MksV.keep tk h3⟩, go _ fwy2 _ h4, h5⟩, rps_keep tk r⟩
      have rj13 := rp_keep (fr3.tk Dx2) rd
      have nw3 : wy2 ≠ wl3 := by
        rcases eo3 with e | e
        · rw [e]; exact (sep _ fwy2).2.2
        · exact ne_of_none twy e
      -- finder.park(('please', ((9,), 9), 0, 0))
      obtain ⟨wsp, Fp, rwp⟩ := id Dx3
      obtain ⟨dxp, hop⟩ := Fp.ob
      refine ⟨_, rfl, x, dxp, _, rfl, hop, fl_no (by decide +kernel), Cm.small (by show 1 ≤ 100000; decide), fun t1 nt1 => ⟨Cm.small (by show 2 ≤ 100000; decide), fun b1 nb1 => ⟨Cm.small (by show 4 ≤ 100000; decide), fun c1 nc1 => ?_⟩⟩⟩
      have q1 := Cm.same_new (o := .tup [.int 9]) nt1
      have q2 := Cm.same_new (o := .tup [.ref t1, .int 9]) nb1
      have q3 := Cm.same_new (o := .tup [.str "please", .ref b1, .int 0, .int 0]) nc1
      have rb1 : Rp K (upd (upd H13 t1 (.tup [.int 9])) b1 (.tup [.ref t1, .int 9])) (.ref b1) (.tuple [.tuple [.int 9], .int 9]) := .tup Cm.sqt_new (.cons (.tup (Cm.sameT q2 Cm.sqt_new) (.cons (.int _) .nil)) (.cons (.int _) .nil))
      have rc1 : Rp K (upd (upd (upd H13 t1 (.tup [.int 9])) b1 (.tup [.ref t1, .int 9])) c1 (.tup [.str "please", .ref b1, .int 0, .int 0])) (.ref c1) (.tuple [.str "please", .tuple [.tuple [.int 9], .int 9], .int 0, .int 0]) := Rp.made nc1 (.cons (.str _) (.cons rb1 (.cons (.int _) (.cons (.int _) .nil))))
      have qA := (q1.trans q2).trans q3
      generalize upd (upd (upd H13 t1 (.tup [.int 9])) b1 (.tup [.ref t1, .int 9])) c1 (.tup [.str "please", .ref b1, .int 0, .int 0]) = HC at *
      have lwp : wsp.length ≤ 1000 := by
        have := rwp.len
        have := B4.n
        omega
      have hwl3 : HC wl3 = some (.lst wsp) := qA _ _ Fp.wt
      refine ⟨x, d, wl3, me, pl, ms4, wsp, _, "please", _, rfl, Fp.same qA, rc1, lwp, fun _ _ => ?_, fun e => absurd e (by decide +kernel)⟩
      have muW : Mut (HC wl3) := by rw [hwl3]; exact True.intro
      have tkW : TK K HC (upd HC wl3 (.lst (wsp ++ [.ref c1]))) := TK.upd muW
      have Dy6 : FD P w K (upd HC wl3 (.lst (wsp ++ [.ref c1]))) y dy wy2 me pl ms3 wd2 := by
        obtain ⟨wsz, Fz, r⟩ := Dy5.same qA
        have n1 : y ≠ wl3 := fun e => by
          obtain ⟨dxz, h1⟩ := Fz.ob
          rw [e, hwl3] at h1
          cases h1
        have n2 : dy ≠ wl3 := fun e => by
          obtain ⟨kvs, ⟨xs, h1, _⟩, _⟩ := Fz.dc
          rw [e, hwl3] at h1
          cases h1
        exact ⟨wsz, Fz.other muW n1 n2 nw3, rps_keep tkW r⟩
      have rj := rp_keep tkW (rj13.keep (Same.tups qA))
      clear Dy5 rj13 rc1 rb1 q1 q2 q3 Fp hop rwp tkW muW hwl3
      generalize upd HC wl3 (.lst (wsp ++ [.ref c1])) = HE at *
      -- the end
      obtain ⟨wsz, Fz, rwz⟩ := id Dy6
      obtain ⟨dxz, hoz⟩ := Fz.ob
      refine ⟨_, rfl, y, dxz, _, rfl, hoz, fl_no (by decide +kernel), y, dy, wy2, me, pl, ms3, wsz, wd2, rfl, Fz, no3, lms3, rwz, fun Ha v5 sa ra => ?_⟩
      have rja := rj.keep (Same.tups sa)
      refine ⟨_, rfl, _, _, ra.dp, rja.dp, shJ, shJ, ?_⟩
      rw [Nst.eqv_self shJ]
      refine ⟨true, rfl, iteT ?_⟩
      obtain ⟨wsq, Fq, rwq⟩ := Dy6.same sa
      obtain ⟨dxq, hoq⟩ := Fq.ob
      refine ⟨_, rfl, y, dxq, _, rfl, hoq, fl_no (by decide +kernel), y, dy, wy2, me, pl, ms3, wsq, rfl, Fq, lms3, fun Hb z dz wz _ _ _ Fz2 sb => ?_⟩
      obtain ⟨dxu, hou⟩ := Fz2.ob
      refine ⟨z, dxu, _, rfl, hou, fl_no (by decide +kernel), z, dz, wz, me, pl, ms3, wsq, wd2, rfl, Fz2, no3, lms3, rwq.keep (Same.tups sb), fun Hc v6 sc6 rc6 => ?_⟩
      refine ⟨_, rfl, _, _, rc6.dp, (rja.keep (Same.tups (sb.trans sc6))).dp, shJ, shJ, ?_⟩
      rw [Nst.eqv_self shJ]
      exact q _
def fn : List He.DefD := [⟨("is_on_the_way", none), "is_on_the_way", "is_on_the_way", defArgs s_is_on_the_way, defBody s_is_on_the_way, defScope s_is_on_the_way, [], []⟩,
  ⟨("object_of", none), "object_of", "object_of", defArgs s_object_of, defBody s_object_of, defScope s_object_of, [], []⟩,
  ⟨("_check_way", none), "_check_way", "_check_way", defArgs s_check_way, defBody s_check_way, defScope s_check_way, [], []⟩,
  ⟨("home_of", none), "home_of", "home_of", defArgs s_home_of, defBody s_home_of, defScope s_home_of, [], []⟩,
  ⟨("Finder", some "__init__"), "__init__", "Finder.__init__", defArgs s_Finder_init, defBody s_Finder_init, defScope s_Finder_init, [], []⟩,
  ⟨("Finder", some "hear"), "hear", "Finder.hear", defArgs s_Finder_hear, defBody s_Finder_hear, defScope s_Finder_hear, [], []⟩,
  ⟨("Finder", some "mark"), "mark", "Finder.mark", defArgs s_Finder_mark, defBody s_Finder_mark, defScope s_Finder_mark, [], []⟩,
  ⟨("Finder", some "forget"), "forget", "Finder.forget", defArgs s_Finder_forget, defBody s_Finder_forget, defScope s_Finder_forget, [], []⟩,
  ⟨("Finder", some "way"), "way", "Finder.way", defArgs s_Finder_way, defBody s_Finder_way, defScope s_Finder_way, [], []⟩,
  ⟨("Finder", some "park"), "park", "Finder.park", defArgs s_Finder_park, defBody s_Finder_park, defScope s_Finder_park, [], []⟩,
  ⟨("Finder", some "unpark"), "unpark", "Finder.unpark", defArgs s_Finder_unpark, defBody s_Finder_unpark, defScope s_Finder_unpark, [], []⟩,
  ⟨("Finder", some "parked"), "parked", "Finder.parked", defArgs s_Finder_parked, defBody s_Finder_parked, defScope s_Finder_parked, [], []⟩,
  ⟨("Finder", some "image"), "image", "Finder.image", defArgs s_Finder_image, defBody s_Finder_image, defScope s_Finder_image, [], []⟩,
  ⟨("Finder", some "copy"), "copy", "Finder.copy", defArgs s_Finder_copy, defBody s_Finder_copy, defScope s_Finder_copy, [], []⟩,
  ⟨("_law_numbers", none), "_law_numbers", "_law_numbers", defArgs s_lw_numbers, defBody s_lw_numbers, defScope s_lw_numbers, [], []⟩,
  ⟨("_law_go", none), "_law_go", "_law_go", defArgs s_lw_go, defBody s_lw_go, defScope s_lw_go, [], []⟩,
  ⟨("_law_ways", none), "_law_ways", "_law_ways", defArgs s_lw_ways, defBody s_lw_ways, defScope s_lw_ways, [], []⟩,
  ⟨("law", none), "law", "law", defArgs s_law, defBody s_law, defScope s_law, [], []⟩]
def fas : List He.Fa := [.glo "is_on_the_way", .glo "object_of", .glo "_check_way", .glo "home_of", .mkr "Finder", .meth "Finder" "hear", .meth "Finder" "mark", .meth "Finder" "forget", .meth "Finder" "way", .meth "Finder" "park", .meth "Finder" "unpark", .meth "Finder" "parked", .meth "Finder" "image", .meth "Finder" "copy", .glo "_law_numbers", .glo "_law_go", .glo "_law_ways", .glo "law", .glo "ON_THE_WAY", .glo "PortError", .glo "NotAllowed", .glo "Finder", .cls "Finder", .noat "Finder" "_me", .noat "Finder" "_places", .noat "Finder" "_marks", .noat "Finder" "_waiting", .free "sum", .free "len", .free "tuple", .free "sorted", .free "list", .free "range", .free "abs", .free "max", .free "int"]
def tabs : List He.Tab := []
def okX (K : PySem.W.Frag) : Bool := He.tupB K "ON_THE_WAY" v_ON_THE_WAY && (PySem.W.excIn K (He.ga K "NotAllowed") [.type "ValueError", .type "Exception", .type "BaseException", .type "object"] "ValueError.__new__" && (PySem.W.keepIn K (.ref (He.ga K "NotAllowed")) && ((PySem.W.subIn K (.ref (He.ga K "NotAllowed")) (.type "BaseException") == some true) && ((PySem.W.typeIn K (.ref (He.ga K "NotAllowed")) == some (.type "type"))))))
abbrev R : PySem.W.OpenRow := PySem.W.OpenLaw.row PySem.Challenge.rw_portage_k50_finders_copied
abbrev hk : PySem.W.Hook := Cm.hookX 5 fas fn tabs okX
def ob (s : PySem.W.SharedT) : Cm.AlX := Cm.obsXG 5 fas fn tabs okX (HandSHeadRun.getT s)
theorem ob_eq (s : PySem.W.SharedT) : ob s = hk.obs s.abs := Cm.obsXG_eq (HandSHeadRun.getT_eq s)
abbrev loose : List Str := (["PortError", "NotAllowed", "ON_THE_WAY", "is_on_the_way", "object_of", "_check_way", "home_of", "Finder", "_law_numbers", "_law_go", "_law_ways"] : List Str)
theorem run (w : World) : HandSHeadRun.RunEq R (PySem.W.view R.prog [15]) hk ob 4000 loose w := by
  intro os
  kernel_rfl
theorem facts {P : Program} {w : World} {K : PySem.W.Frag} {h : Heap} {mg : Str → Option Value} {f : Addr} (X : K.In h) (G : h.Ns mainGlobals mg) (hfa : mg ("law" : Str) = some (.ref f)) (ok : okX K = true) (c : He.SaysT fas fn tabs w K) :
    ∃ fd : FuncData, (∀ (s : Shared) (v : Value), BindsTo s fd ⟨[v], []⟩ [("script", v)]) ∧ ∀ base : Heap, K.In base → base.Ns mainGlobals mg → FnOk P w K mg base CX0 6 f fd ["script"] (spLaw K) := by
  obtain ⟨d_is_on_the_way, F_is_on_the_way⟩ := c.d.def_ 0 rfl
  obtain ⟨d_object_of, F_object_of⟩ := c.d.def_ 1 rfl
  obtain ⟨d_check_way, F_check_way⟩ := c.d.def_ 2 rfl
  obtain ⟨d_home_of, F_home_of⟩ := c.d.def_ 3 rfl
  obtain ⟨d_Finder_init, F_Finder_init⟩ := c.d.def_ 4 rfl
  obtain ⟨d_Finder_hear, F_Finder_hear⟩ := c.d.def_ 5 rfl
  obtain ⟨d_Finder_mark, F_Finder_mark⟩ := c.d.def_ 6 rfl
  obtain ⟨d_Finder_forget, F_Finder_forget⟩ := c.d.def_ 7 rfl
  obtain ⟨d_Finder_way, F_Finder_way⟩ := c.d.def_ 8 rfl
  obtain ⟨d_Finder_park, F_Finder_park⟩ := c.d.def_ 9 rfl
  obtain ⟨d_Finder_unpark, F_Finder_unpark⟩ := c.d.def_ 10 rfl
  obtain ⟨d_Finder_parked, F_Finder_parked⟩ := c.d.def_ 11 rfl
  obtain ⟨d_Finder_image, F_Finder_image⟩ := c.d.def_ 12 rfl
  obtain ⟨d_Finder_copy, F_Finder_copy⟩ := c.d.def_ 13 rfl
  obtain ⟨d_lw_numbers, F_lw_numbers⟩ := c.d.def_ 14 rfl
  obtain ⟨d_lw_go, F_lw_go⟩ := c.d.def_ 15 rfl
  obtain ⟨d_lw_ways, F_lw_ways⟩ := c.d.def_ 16 rfl
  obtain ⟨d_law, F_law⟩ := c.d.def_ 17 rfl
  have e := hfa.symm.trans (He.glo_ok X G (c.d.fact 17 (f := .glo "law") rfl))
  cases e
  unfold okX at ok
  simp only [Bool.and_eq_true] at ok
  obtain ⟨o0, o1, o2, o3, o4⟩ := ok
  have T : Txt K mg w ⟨d_is_on_the_way, d_object_of, d_check_way, d_home_of, d_Finder_init, d_Finder_hear, d_Finder_mark, d_Finder_forget, d_Finder_way, d_Finder_park, d_Finder_unpark, d_Finder_parked, d_Finder_image, d_Finder_copy, d_lw_numbers, d_lw_go, d_lw_ways, d_law⟩ := {
    F_is_on_the_way := F_is_on_the_way
    b_is_on_the_way := F_is_on_the_way.bindsN (ps := ["body"]) fun _ _ _ _ _ _ us hl => match us, hl with | [_], _ => rfl
    g_is_on_the_way := He.glo_ok X G (c.d.fact 0 (f := .glo "is_on_the_way") rfl)
    F_object_of := F_object_of
    b_object_of := F_object_of.bindsN (ps := ["body"]) fun _ _ _ _ _ _ us hl => match us, hl with | [_], _ => rfl
    g_object_of := He.glo_ok X G (c.d.fact 1 (f := .glo "object_of") rfl)
    F_check_way := F_check_way
    b_check_way := F_check_way.bindsN (ps := ["body"]) fun _ _ _ _ _ _ us hl => match us, hl with | [_], _ => rfl
    g_check_way := He.glo_ok X G (c.d.fact 2 (f := .glo "_check_way") rfl)
    F_home_of := F_home_of
    b_home_of := F_home_of.bindsN (ps := ["name", "places"]) fun _ _ _ _ _ _ us hl => match us, hl with | [_, _], _ => rfl
    g_home_of := He.glo_ok X G (c.d.fact 3 (f := .glo "home_of") rfl)
    F_Finder_init := F_Finder_init
    b_Finder_init := F_Finder_init.bindsN (ps := ["self", "me", "places"]) fun _ _ _ _ _ _ us hl => match us, hl with | [_, _, _], _ => rfl
    k_Finder := He.mkr_ok (c.d.fact 4 (f := .mkr "Finder") rfl)
    F_Finder_hear := F_Finder_hear
    b_Finder_hear := F_Finder_hear.bindsN (ps := ["self", "name", "place", "count"]) fun _ _ _ _ _ _ us hl => match us, hl with | [_, _, _, _], _ => rfl
    m_Finder_hear := He.meth_ok (c.d.fact 5 (f := .meth "Finder" "hear") rfl)
    F_Finder_mark := F_Finder_mark
    b_Finder_mark := F_Finder_mark.bindsN (ps := ["self", "name"]) fun _ _ _ _ _ _ us hl => match us, hl with | [_, _], _ => rfl
    m_Finder_mark := He.meth_ok (c.d.fact 6 (f := .meth "Finder" "mark") rfl)
    F_Finder_forget := F_Finder_forget
    b_Finder_forget := F_Finder_forget.bindsN (ps := ["self", "name"]) fun _ _ _ _ _ _ us hl => match us, hl with | [_, _], _ => rfl
    m_Finder_forget := He.meth_ok (c.d.fact 7 (f := .meth "Finder" "forget") rfl)
    F_Finder_way := F_Finder_way
    b_Finder_way := F_Finder_way.bindsN (ps := ["self", "name", "count", "here"]) fun _ _ _ _ _ _ us hl => match us, hl with | [_, _, _, _], _ => rfl
    m_Finder_way := He.meth_ok (c.d.fact 8 (f := .meth "Finder" "way") rfl)
    F_Finder_park := F_Finder_park
    b_Finder_park := F_Finder_park.bindsN (ps := ["self", "body"]) fun _ _ _ _ _ _ us hl => match us, hl with | [_, _], _ => rfl
    m_Finder_park := He.meth_ok (c.d.fact 9 (f := .meth "Finder" "park") rfl)
    F_Finder_unpark := F_Finder_unpark
    b_Finder_unpark := F_Finder_unpark.bindsN (ps := ["self", "name"]) fun _ _ _ _ _ _ us hl => match us, hl with | [_, _], _ => rfl
    m_Finder_unpark := He.meth_ok (c.d.fact 10 (f := .meth "Finder" "unpark") rfl)
    F_Finder_parked := F_Finder_parked
    b_Finder_parked := F_Finder_parked.bindsN (ps := ["self"]) fun _ _ _ _ _ _ us hl => match us, hl with | [_], _ => rfl
    m_Finder_parked := He.meth_ok (c.d.fact 11 (f := .meth "Finder" "parked") rfl)
    F_Finder_image := F_Finder_image
    b_Finder_image := F_Finder_image.bindsN (ps := ["self"]) fun _ _ _ _ _ _ us hl => match us, hl with | [_], _ => rfl
    m_Finder_image := He.meth_ok (c.d.fact 12 (f := .meth "Finder" "image") rfl)
    F_Finder_copy := F_Finder_copy
    b_Finder_copy := F_Finder_copy.bindsN (ps := ["self"]) fun _ _ _ _ _ _ us hl => match us, hl with | [_], _ => rfl
    m_Finder_copy := He.meth_ok (c.d.fact 13 (f := .meth "Finder" "copy") rfl)
    F_lw_numbers := F_lw_numbers
    b_lw_numbers := F_lw_numbers.bindsN (ps := ["script", "many"]) fun _ _ _ _ _ _ us hl => match us, hl with | [_, _], _ => rfl
    g_lw_numbers := He.glo_ok X G (c.d.fact 14 (f := .glo "_law_numbers") rfl)
    F_lw_go := F_lw_go
    b_lw_go := F_lw_go.bindsN (ps := ["finder", "numbers", "at", "many", "places"]) fun _ _ _ _ _ _ us hl => match us, hl with | [_, _, _, _, _], _ => rfl
    g_lw_go := He.glo_ok X G (c.d.fact 15 (f := .glo "_law_go") rfl)
    F_lw_ways := F_lw_ways
    b_lw_ways := F_lw_ways.bindsN (ps := ["finder"]) fun _ _ _ _ _ _ us hl => match us, hl with | [_], _ => rfl
    g_lw_ways := He.glo_ok X G (c.d.fact 16 (f := .glo "_law_ways") rfl)
    F_law := F_law
    b_law := F_law.bindsN (ps := ["script"]) fun _ _ _ _ _ _ us hl => match us, hl with | [_], _ => rfl
    g_law := He.glo_ok X G (c.d.fact 17 (f := .glo "law") rfl)
    g_ON_THE_WAY := He.glo_ok X G (c.d.fact 18 (f := .glo "ON_THE_WAY") rfl)
    k_ON_THE_WAY := fun H => He.tupB_ok o0 H
    g_PortError := He.glo_ok X G (c.d.fact 19 (f := .glo "PortError") rfl)
    g_NotAllowed := He.glo_ok X G (c.d.fact 20 (f := .glo "NotAllowed") rfl)
    g_Finder := He.glo_ok X G (c.d.fact 21 (f := .glo "Finder") rfl)
    c_Finder := He.cls_ok (c.d.fact 22 (f := .cls "Finder") rfl)
    n_Finder__me := He.noat_ok (c.d.fact 23 (f := .noat "Finder" "_me") rfl)
    n_Finder__places := He.noat_ok (c.d.fact 24 (f := .noat "Finder" "_places") rfl)
    n_Finder__marks := He.noat_ok (c.d.fact 25 (f := .noat "Finder" "_marks") rfl)
    n_Finder__waiting := He.noat_ok (c.d.fact 26 (f := .noat "Finder" "_waiting") rfl)
    g_sum := He.free_ok X G (c.d.fact 27 (f := .free "sum") rfl)
    g_len := He.free_ok X G (c.d.fact 28 (f := .free "len") rfl)
    g_tuple := He.free_ok X G (c.d.fact 29 (f := .free "tuple") rfl)
    g_sorted := He.free_ok X G (c.d.fact 30 (f := .free "sorted") rfl)
    g_list := He.free_ok X G (c.d.fact 31 (f := .free "list") rfl)
    g_range := He.free_ok X G (c.d.fact 32 (f := .free "range") rfl)
    g_abs := He.free_ok X G (c.d.fact 33 (f := .free "abs") rfl)
    g_max := He.free_ok X G (c.d.fact 34 (f := .free "max") rfl)
    g_int := He.free_ok X G (c.d.fact 35 (f := .free "int") rfl)
    x_NotAllowed := o1
    k_NotAllowed := o2
    s_NotAllowed := eq_of_beq o3
    t_NotAllowed := eq_of_beq o4
  }
  have b := Cm.bindsA_of (x := "law") (st := s_law) (ps := ["script"]) F_law fun _ _ _ _ _ _ us hl => match us, hl with | [_], _ => rfl
  exact ⟨d_law, fun s v => b s [v] rfl, fun base _ _ => ok_law T⟩
end K50
open PySem PySem.W PySem.Calls PyProof.Rows
set_option maxHeartbeats 0 in
theorem PySem.Challenge.cw_portage_k50_finders_copied_holds : PySem.Challenge.rw_portage_k50_finders_copied.Holds := by
  w_on; o_law
  refine HandSHeadRun.head_any (r := OpenLaw.row PySem.Challenge.rw_portage_k50_finders_copied) (q := view (OpenLaw.row PySem.Challenge.rw_portage_k50_finders_copied).prog [15]) (H := K50.hk) (ob := K50.ob) (M := 4000) (loose := K50.loose) (d := HandSHeadRun.topDef (OpenLaw.row PySem.Challenge.rw_portage_k50_finders_copied).prog 15) (kwd := []) K50.ob_eq
    (by kernel_rfl) (fun s => by kernel_rfl) K50.run (by kernel_rfl) (by kernel_rfl) (by kernel_rfl) (by rfl) (by first | assumption | decide +kernel) (by decide +kernel) ⟨rfl, rfl, rfl, rfl, rfl, by decide +kernel⟩ ?hw ?hc
  case hw => w_witness2
  case hc =>
    refine L2.walk_ofE (l := PySem.Challenge.rw_portage_k50_finders_copied) (n := 63) (k := 6) (x := "script") (CX := L2.CX0) rfl (by decide) (by kernel_rfl) ⟨rfl, by decide, by decide⟩ ?F (fun _ _ _ _ z => z)
    intro w mg fa h Y G hmg0
    obtain ⟨K, KX, ok, c⟩ := Y
    have hmg : mg ("law" : PySem.Str) = some (.ref fa) := by
      have e : (HandSHeadRun.topDef (OpenLaw.row PySem.Challenge.rw_portage_k50_finders_copied).prog 15).name = ("law" : PySem.Str) := by kernel_rfl
      rw [← e]
      exact hmg0
    obtain ⟨fd, hb, hF⟩ := K50.facts (P := (PySem.Challenge.rw_portage_k50_finders_copied).prog) (w := w) KX G hmg ok c
    exact ⟨K, fd, K50.spLaw K, KX, hb, fun H a ns hl _ hS => ⟨a, ns, rfl, hS, hl, fun _ => rfl⟩, hF⟩

