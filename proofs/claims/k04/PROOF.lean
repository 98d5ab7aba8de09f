import PyProof.Rows.All
import Wide.All
import OpenK.AllK
import Wide.FinOn
import KE.KStateDown
import Lean
import HandS.ForMost
import HandS.Defaults
import HandS.More
import HandS.Flow
import HandS.Style
import HandS.StrMore
import HandS.IsInst
import HandS.TupAny
import HandS.TupMul
import HandS.Head0
import HandS.Head1
import HandS.Head2
import HandS.HeadEnd
import HandS.HeadHook1
import HandS.HeadHook2
import HandS.HeadHook3
import KE.KeyNested
import PyProof.DictMoreH
import HandS.Walk
import HandS.DictComp
import HandS.Conv
import HandS.TupLen
import HandS.Deep
import HandS.Comp
import HandS.Exc
import HandS.ExcOwn
import KE.GoesRaise
import KE.KTupSum
import HandS.WordsExc
import KE.SortCalls
import KE.SortKeyed
import KE.KDictCopyH
import KE.KDictSum
import KE.KRevSl
import HandS.Rev
import HandS.Zip
import KE.DataCmp
import PyProof.EqAt
import HandS.FStr
import HandS.Iter
import HandS.TupSets
import KE.SortData
import HandS.Codes
import HandS.TryOnly
import HandS.ExcIs
import HandS.RaiseMore
import PySem.Challenge.RW_portage_k04_whole_conformity
set_option Elab.async false
set_option linter.all false
set_option maxRecDepth 100000
set_option maxHeartbeats 4000000
/-! What my proofs have in common: a Hook with one more test, and small words. -/
namespace Cm
open PySem PySem.Spec PyProof.Rows L2 He

abbrev FnP (K : PySem.W.Frag) (x : Str) (st : Stmt) (f : Addr) (fd : FuncData) : Prop := FunD K x x (defArgs st) (defBody st) (defScope st) [] [] f fd
theorem bindsA_of {K : PySem.W.Frag} {x : Str} {st : Stmt} {f : Addr} {fd : FuncData} {ps : List Str} (F : FnP K x st f fd)
    (h : ∀ (kV doc pm : Value) (an : Option Addr) (cdv ct : Value) (us : List Value), us.length = ps.length → bindArgs (PySem.W.fnOf x x (defArgs st) (defBody st) (defScope st) .none kV doc pm an cdv ct) ⟨us, []⟩ = pure (ps.zip us)) (s : Shared) (us : List Value) (hl : us.length = ps.length) : BindsTo s fd ⟨us, []⟩ (ps.zip us) := FunD.bindsA F h s us hl

/-! ### heaps that grow -/
theorem same_new {H : Hp} {p : Addr} {o : HO} (h : H p = none) : Same H (upd H p o) := fun b x e => by
  rw [upd_ne (ne_of_none e h)]
  exact e
theorem same_mut {H H' : Hp} {p : Addr} {o : HO} (s : Same H H') (h : H p = none) : Same H (upd H' p o) := fun b x e => by
  rw [upd_ne (ne_of_none e h)]
  exact s b x e
theorem sameT {K : PySem.W.Frag} {H H' : Hp} {a : Addr} {xs : List V} (s : Same H H') (h : SqT K H a xs) : SqT K H' a xs := by
  rcases h with (h | ⟨o, h⟩) | h
  · exact .inl (.inl (s _ _ h))
  · exact .inl (.inr ⟨o, s _ _ h⟩)
  · exact .inr h
theorem sqt_new {K : PySem.W.Frag} {H : Hp} {p : Addr} {xs : List V} : SqT K (upd H p (.tup xs)) p xs := .inl (.inl upd_same)
theorem sql_new {K : PySem.W.Frag} {H : Hp} {p : Addr} {xs : List V} : SqL K (upd H p (.lst xs)) p xs := .inl (.inl upd_same)
theorem small {n : Nat} (h : n ≤ 100000) : n ≤ sizeLine := by
  rw [sizeLine_eq]
  omega
theorem smallL {n : Nat} (h : n ≤ 100000) : n < sizeLine := by
  rw [sizeLine_eq]
  omega
/-! ### tests -/
theorem itV {x : Bool} {A B : Prop} (h1 : x = true → A) (h2 : x = false → B) : if (if false = true then !x else x) = true then A else B := by
  cases x
  · exact h2 rfl
  · exact h1 rfl
theorem itVn {x : Bool} {A B : Prop} (h1 : x = false → A) (h2 : x = true → B) : if (if true = true then !x else x) = true then A else B := by
  cases x
  · exact h1 rfl
  · exact h2 rfl
theorem itB {x : Bool} {A B : Prop} (h1 : x = true → A) (h2 : x = false → B) : if x = true then A else B := by
  cases x
  · exact h2 rfl
  · exact h1 rfl
theorem itBn {x : Bool} {A B : Prop} (h1 : x = false → A) (h2 : x = true → B) : if (!x) = true then A else B := by
  cases x
  · exact h1 rfl
  · exact h2 rfl
theorem itD {c : Prop} [Decidable c] {A B : Prop} (h1 : c → A) (h2 : ¬ c → B) : if decide c = true then A else B := by
  by_cases h : c
  · rw [if_pos (decide_eq_true h)]
    exact h1 h
  · rw [if_neg (by rw [decide_eq_false h]; decide)]
    exact h2 h
theorem itDn {c : Prop} [Decidable c] {A B : Prop} (h1 : ¬ c → A) (h2 : c → B) : if (!decide c) = true then A else B := by
  by_cases h : c
  · rw [if_neg (by rw [decide_eq_true h]; decide)]
    exact h2 h
  · rw [if_pos (by rw [decide_eq_false h]; rfl)]
    exact h1 h
theorem deq_int {i j : Int} : decide (V.int i = V.int j) = decide (i = j) := by
  by_cases h : i = j
  · rw [h, decide_eq_true rfl, decide_eq_true rfl]
  · rw [decide_eq_false h, decide_eq_false fun e => h (V.int.inj e)]
theorem deq_str {x y : Str} : decide (V.str x = V.str y) = decide (x = y) := by
  by_cases h : x = y
  · rw [h, decide_eq_true rfl, decide_eq_true rfl]
  · rw [decide_eq_false h, decide_eq_false fun e => h (V.str.inj e)]
theorem deq_bl {x y : Bool} : decide (V.bl x = V.bl y) = decide (x = y) := by
  by_cases h : x = y
  · rw [h, decide_eq_true rfl, decide_eq_true rfl]
  · rw [decide_eq_false h, decide_eq_false fun e => h (V.bl.inj e)]
theorem itEI {x y : Int} {A B : Prop} (h1 : x = y → A) (h2 : ¬ x = y → B) : if decide (V.int x = V.int y) = true then A else B := by
  rw [deq_int]
  exact itD h1 h2
theorem itES {x y : Str} {A B : Prop} (h1 : x = y → A) (h2 : ¬ x = y → B) : if decide (V.str x = V.str y) = true then A else B := by
  rw [deq_str]
  exact itD h1 h2
theorem itNI {x y : Int} {A B : Prop} (h1 : ¬ x = y → A) (h2 : x = y → B) : if (!decide (V.int x = V.int y)) = true then A else B := by
  rw [deq_int]
  exact itDn h1 h2
theorem itNS {x y : Str} {A B : Prop} (h1 : ¬ x = y → A) (h2 : x = y → B) : if (!decide (V.str x = V.str y)) = true then A else B := by
  rw [deq_str]
  exact itDn h1 h2
theorem str_nil {z : Str} (h : z.cps.toList = []) : z = ⟨#[]⟩ := by
  obtain ⟨c⟩ := z
  have e : c = #[] := by simpa using h
  rw [e]
/-! ### items -/
theorem at_in {xs : List V} {i : Int} (h0 : 0 ≤ i) (h1 : i < (xs.length : Int)) : ∃ v, v ∈ xs ∧ atI xs i = some v := by
  obtain ⟨j, rfl⟩ := Int.eq_ofNat_of_zero_le h0
  have h2 : j < xs.length := by omega
  exact ⟨xs[j], List.getElem_mem h2, atI_nat (List.getElem?_eq_getElem h2)⟩
theorem at_str {ws : List Str} {i : Int} (h0 : 0 ≤ i) (h1 : i < (ws.length : Int)) : ∃ w, w ∈ ws ∧ atI (ws.map V.str) i = some (.str w) := by
  obtain ⟨v, hv, e⟩ := at_in (xs := ws.map V.str) h0 (by rw [List.length_map]; exact h1)
  obtain ⟨w, hw, rfl⟩ := List.mem_map.mp hv
  exact ⟨w, hw, e⟩
theorem at_int {ns : List Int} {i : Int} (h0 : 0 ≤ i) (h1 : i < (ns.length : Int)) : ∃ n, n ∈ ns ∧ atI (ns.map V.int) i = some (.int n) := by
  obtain ⟨v, hv, e⟩ := at_in (xs := ns.map V.int) h0 (by rw [List.length_map]; exact h1)
  obtain ⟨n, hn, rfl⟩ := List.mem_map.mp hv
  exact ⟨n, hn, e⟩
/-! ### a Hook with one more test -/
abbrev AlX : Type := Bool × AlT
def obsX (fa : List Fa) (fn : List DefD) (ts : List Tab) (ok : PySem.W.Frag → Bool) (K : PySem.W.Frag) : AlX := (ok K, obsT fa fn ts K)
def obsXG (n : Nat) (fa : List Fa) (fn : List DefD) (ts : List Tab) (ok : PySem.W.Frag → Bool) (g : Addr → Option Obj) : AlX := obsX fa fn ts ok (frG g (asD g n))
def hookX (n : Nat) (fa : List Fa) (fn : List DefD) (ts : List Tab) (ok : PySem.W.Frag → Bool) : PySem.W.Hook where
  α := AlX
  obs := fun s => obsXG n fa fn ts ok s.heap.get?
  val := fun w => (true, valT fn ts w)
  says := fun w h => ∃ K : PySem.W.Frag, K.In h ∧ ok K = true ∧ SaysT fa fn ts w K
  of := fun w s e => ⟨frG s.heap.get? (asD s.heap.get? n), frG_in, congrArg (fun z : AlX => z.1) e, congrArg (fun z : AlX => z.2) e⟩
  keeps := fun _ _ _ ⟨K, hK, o, c⟩ k => ⟨K, PySem.W.Frag.In.keeps hK k, o, c⟩
theorem obsXG_eq {n : Nat} {fa : List Fa} {fn : List DefD} {ts : List Tab} {ok : PySem.W.Frag → Bool} {g : Addr → Option Obj} {s : Shared} (h : ∀ a, g a = s.heap.get? a) : obsXG n fa fn ts ok g = (hookX n fa fn ts ok).obs s := by
  have e : g = s.heap.get? := funext h
  rw [e] <;> rfl
end Cm

set_option Elab.async false
set_option linter.all false
set_option maxRecDepth 100000
set_option maxHeartbeats 4000000
/-! Program trees: expressions, statements, what they are as data, their code. No word of any one statement here. -/
namespace Pt
open PySem PySem.Spec PyProof.Rows L2

/-! ### data that never changes: numbers, texts, truth values, tuples of such -/
mutual
inductive Rp (K : PySem.W.Frag) (H : Hp) : V → PyData → Prop
  | non : Rp K H .non .none
  | bl (b : Bool) : Rp K H (.bl b) (.bool b)
  | int (i : Int) : Rp K H (.int i) (.int i)
  | str (x : Str) : Rp K H (.str x) (.str x)
  | tup {a : Addr} {xs : List V} {ds : List PyData} : SqT K H a xs → Rps K H xs ds → Rp K H (.ref a) (.tuple ds)
inductive Rps (K : PySem.W.Frag) (H : Hp) : List V → List PyData → Prop
  | nil : Rps K H [] []
  | cons {v : V} {vs : List V} {d : PyData} {ds : List PyData} : Rp K H v d → Rps K H vs ds → Rps K H (v :: vs) (d :: ds)
end
/-- all that was tracked stays, but what stands at c -/
def Keep (c : Addr) (H H' : Hp) : Prop := ∀ b o, H b = some o → b ≠ c → H' b = some o
theorem Keep.refl (c : Addr) (H : Hp) : Keep c H H := fun _ _ h _ => h
theorem Keep.trans {c : Addr} {H H1 H2 : Hp} (a : Keep c H H1) (b : Keep c H1 H2) : Keep c H H2 := fun x o h n => b x o (a x o h n) n
theorem Keep.of {c : Addr} {H H' : Hp} (s : Same H H') : Keep c H H' := fun b o h _ => s b o h
/-- what was tracked and is no list stays -/
def Tups (H H' : Hp) : Prop := ∀ b o, H b = some o → (∀ xs, o ≠ .lst xs) → H' b = some o
theorem Same.tups {H H' : Hp} (s : Same H H') : Tups H H' := fun b o h _ => s b o h
theorem Keep.tups {c : Addr} {H H' : Hp} {xs : List V} (k : Keep c H H') (h : H c = some (.lst xs)) : Tups H H' := fun b o hb no => k b o hb fun e => by
  subst e
  rw [h] at hb
  exact no xs (Option.some.inj hb).symm
section
variable {K : PySem.W.Frag} {H H' : Hp}
theorem Tups.sqt (k : Tups H H') {a : Addr} {xs : List V} (h : SqT K H a xs) : SqT K H' a xs := by
  rcases h with (h | ⟨o, h⟩) | h
  · exact .inl (.inl (k _ _ h fun _ e => by cases e))
  · exact .inl (.inr ⟨o, k _ _ h fun _ e => by cases e⟩)
  · exact .inr h
mutual
theorem Rp.keep (k : Tups H H') : ∀ {v : V} {d : PyData}, Rp K H v d → Rp K H' v d
  | _, _, .non => .non
  | _, _, .bl b => .bl b
  | _, _, .int i => .int i
  | _, _, .str x => .str x
  | _, _, .tup h r => .tup (k.sqt h) (Rps.keep k r)
theorem Rps.keep (k : Tups H H') : ∀ {vs : List V} {ds : List PyData}, Rps K H vs ds → Rps K H' vs ds
  | _, _, .nil => .nil
  | _, _, .cons h r => .cons (Rp.keep k h) (Rps.keep k r)
end
mutual
theorem Rp.dp : ∀ {v : V} {d : PyData}, Rp K H v d → Dp K H v d
  | _, _, .non => .non
  | _, _, .bl b => .bl b
  | _, _, .int i => .int i
  | _, _, .str x => .str x
  | _, _, .tup h r => .tup h (Rps.dp r)
theorem Rps.dp : ∀ {vs : List V} {ds : List PyData}, Rps K H vs ds → DpAll K H vs ds
  | _, _, .nil => .nil
  | _, _, .cons h r => .cons (Rp.dp h) (Rps.dp r)
end
theorem Rps.len : ∀ {vs : List V} {ds : List PyData}, Rps K H vs ds → vs.length = ds.length
  | _, _, .nil => rfl
  | _, _, .cons _ r => congrArg (· + 1) (Rps.len r)
theorem Rps.app : ∀ {vs us : List V} {ds es : List PyData}, Rps K H vs ds → Rps K H us es → Rps K H (vs ++ us) (ds ++ es)
  | _, _, _, _, .nil, r => r
  | _, _, _, _, .cons h r, s => .cons h (Rps.app r s)
theorem Rps.at_ : ∀ {vs : List V} {ds : List PyData} {i : Nat} {d : PyData}, Rps K H vs ds → ds[i]? = some d → ∃ v, vs[i]? = some v ∧ Rp K H v d
  | _, _, 0, _, .cons h _, e => ⟨_, rfl, by cases e; exact h⟩
  | _, _, i + 1, _, .cons _ r, e => Rps.at_ (i := i) r e
theorem Rps.drop : ∀ {vs : List V} {ds : List PyData} (n : Nat), Rps K H vs ds → Rps K H (vs.drop n) (ds.drop n)
  | _, _, 0, r => r
  | _, _, _ + 1, .nil => .nil
  | _, _, n + 1, .cons _ r => Rps.drop n r
theorem Rps.take : ∀ {vs : List V} {ds : List PyData} (n : Nat), Rps K H vs ds → Rps K H (vs.take n) (ds.take n)
  | _, _, 0, _ => .nil
  | _, _, _ + 1, .nil => .nil
  | _, _, n + 1, .cons h r => .cons h (Rps.take n r)
theorem Rps.one {v : V} {d : PyData} (h : Rp K H v d) : Rps K H [v] [d] := .cons h .nil
theorem Rp.tup_inv {v : V} {ds : List PyData} (h : Rp K H v (.tuple ds)) : ∃ a vs, v = .ref a ∧ SqT K H a vs ∧ Rps K H vs ds := by
  cases h with
  | tup h r => exact ⟨_, _, rfl, h, r⟩
theorem Rp.str_inv {v : V} {x : Str} (h : Rp K H v (.str x)) : v = .str x := by
  cases h
  rfl
theorem Rp.int_inv {v : V} {i : Int} (h : Rp K H v (.int i)) : v = .int i := by
  cases h
  rfl
theorem Rp.bl_inv {v : V} {b : Bool} (h : Rp K H v (.bool b)) : v = .bl b := by
  cases h
  rfl
theorem Rps.cons_inv {vs : List V} {d : PyData} {ds : List PyData} (h : Rps K H vs (d :: ds)) : ∃ v r, vs = v :: r ∧ Rp K H v d ∧ Rps K H r ds := by
  cases h with
  | cons a b => exact ⟨_, _, rfl, a, b⟩
theorem Rps.nil_inv {vs : List V} (h : Rps K H vs []) : vs = [] := by
  cases h
  rfl
theorem Rp.new {p : Addr} {vs : List V} {ds : List PyData} (h : H' p = some (.tup vs)) (r : Rps K H' vs ds) : Rp K H' (.ref p) (.tuple ds) := .tup (.inl (.inl h)) r
/-- a new tuple of what stood before -/
theorem Rp.made {p : Addr} {vs : List V} {ds : List PyData} (hp : H p = none) (r : Rps K H vs ds) : Rp K (upd H p (.tup vs)) (.ref p) (.tuple ds) := .tup (.inl (.inl upd_same)) (r.keep (Same.tups (Cm.same_new hp)))
/-- a list stays where its content is another than c's -/
theorem Keep.seq {c a : Addr} {xs ys : List V} (k : Keep c H H') (hc : H c = some (.lst ys)) (ne : xs ≠ ys) (h : SqL K H a xs) : SqL K H' a xs := by
  rcases h with (h | ⟨o, h⟩) | h
  · refine .inl (.inl (k _ _ h fun e => ?_))
    rw [e, hc] at h
    cases h
    exact ne rfl
  · refine .inl (.inr ⟨o, k _ _ h fun e => ?_⟩)
    rw [e, hc] at h
    cases h
  · exact .inr h
end

/-- tuple + tuple -/
theorem cat_rp {K : PySem.W.Frag} {H : Hp} {x y : V} {ds es : List PyData} {Q : VK} (hx : Rp K H x (.tuple ds)) (hy : Rp K H y (.tuple es)) (hl : ds.length + es.length ≤ 10000000) (h : ∀ (v : V) (H' : Hp), Same H H' → Rp K H' v (.tuple (ds ++ es)) → Q v H') : rCatA K x y H Q := by
  obtain ⟨a, xs, rfl, ha, hxs⟩ := hx.tup_inv
  obtain ⟨b, ys, rfl, hb, hys⟩ := hy.tup_inv
  refine ⟨a, b, xs, ys, rfl, rfl, ha, hb, ?_, fun e => ?_, fun _ e => ?_, fun _ _ p np => ?_⟩
  · rw [hxs.len, hys.len, sizeLine_eq]
    omega
  · subst e
    cases hxs
    exact h _ _ (Same.refl H) hy
  · subst e
    cases hys
    rw [List.append_nil] at h
    exact h _ _ (Same.refl H) hx
  · exact h _ _ (Cm.same_new np) (Rp.made np (hxs.app hys))
/-- a tuple from a place on -/
theorem from_rp {K : PySem.W.Frag} {H : Hp} {x : V} {ds : List PyData} {k : Nat} {Q : VK} (hx : Rp K H x (.tuple ds)) (hk : k ≤ ds.length) (h : ∀ (v : V) (H' : Hp), Same H H' → Rp K H' v (.tuple (ds.drop k)) → Q v H') : rSlA K x (some (k : Int)) none H Q := by
  obtain ⟨a, xs, rfl, ha, hxs⟩ := hx.tup_inv
  have hl := hxs.len
  have e0 : HT.sIx xs.length 0 (some (k : Int)) = k := by
    rw [show HT.sIx xs.length 0 (some (k : Int)) = min k xs.length from HT.sIx_nat _ 0 k]
    omega
  refine ⟨a, xs, rfl, ha, fun e => ?_, fun _ p np => ?_⟩
  · have z := e.1
    rw [e0] at z
    subst z
    exact h _ _ (Same.refl H) hx
  · have ec : cutV xs (some (k : Int)) none = xs.drop k := by
      unfold cutV
      rw [e0, HT.sIx_none]
      exact List.take_of_length_le (by rw [List.length_drop]; exact Nat.le_refl _)
    rw [ec]
    exact h _ _ (Cm.same_new np) (Rp.made np (hxs.drop k))
/-! ### equality of data is reflexive; its form -/
/-- numbers, texts, truth values, None -/
def leafD : PyData → Bool
  | .none => true
  | .bool _ => true
  | .int _ => true
  | .str _ => true
  | _ => false

/-! ### expressions and statements -/
mutual
inductive E where
  | int (n : Int)
  | name (x : Str)
  | choice (o : Bool) (l r : E)
  | call (r : E) (f : Str) (as : Es)
  | new (m : Str) (as : Es)
  | plain (w : Str) (as : Es)
inductive Es where
  | nil
  | cons (e : E) (es : Es)
end
mutual
inductive S where
  | letS (x k : Str) (e : E)
  | setS (x : Str) (e : E)
  | ifS (e : E) (b c : Ss)
  | whileS (e : E) (b : Ss)
  | doS (e : E)
  | fork (r : E) (f : Str) (as : Es)
  | plain (w : Str) (as : Es)
inductive Ss where
  | nil
  | cons (s : S) (ss : Ss)
end
def cw (o : Bool) : Str := if o then "or" else "and"
mutual
def E.d : E → PyData
  | .int n => .tuple [.str "int", .int n]
  | .name x => .tuple [.str "name", .str x]
  | .choice o l r => .tuple [.str (cw o), l.d, r.d]
  | .call r f as => .tuple [.str "call", r.d, .str f, .tuple as.ds]
  | .new m as => .tuple [.str "new", .str m, .tuple as.ds]
  | .plain w as => .tuple (.str w :: as.ds)
def Es.ds : Es → List PyData
  | .nil => []
  | .cons e es => e.d :: es.ds
end
mutual
def S.d : S → PyData
  | .letS x k e => .tuple [.str "let", .str x, .str k, e.d]
  | .setS x e => .tuple [.str "set", .str x, e.d]
  | .ifS e b c => .tuple [.str "if", e.d, .tuple b.ds, .tuple c.ds]
  | .whileS e b => .tuple [.str "while", e.d, .tuple b.ds]
  | .doS e => .tuple [.str "do", e.d]
  | .fork r f as => .tuple [.str "fork", r.d, .str f, .tuple as.ds]
  | .plain w as => .tuple (.str w :: as.ds)
def Ss.ds : Ss → List PyData
  | .nil => []
  | .cons s ss => s.d :: ss.ds
end
def Es.list : Es → List E
  | .nil => []
  | .cons e es => e :: es.list
def Ss.list : Ss → List S
  | .nil => []
  | .cons s ss => s :: ss.list
def Ss.of : List S → Ss
  | [] => .nil
  | s :: ss => .cons s (Ss.of ss)
def Ss.app : Ss → Ss → Ss
  | .nil, c => c
  | .cons s b, c => .cons s (b.app c)
def Es.len : Es → Nat
  | .nil => 0
  | .cons _ es => es.len + 1
theorem Es.ds_len : ∀ es : Es, es.ds.length = es.len
  | .nil => rfl
  | .cons _ es => congrArg (· + 1) (Es.ds_len es)
theorem Es.list_ds : ∀ es : Es, es.ds = es.list.map E.d
  | .nil => rfl
  | .cons _ es => congrArg (_ :: ·) (Es.list_ds es)
theorem Ss.list_ds : ∀ es : Ss, es.ds = es.list.map S.d
  | .nil => rfl
  | .cons _ es => congrArg (_ :: ·) (Ss.list_ds es)
theorem Ss.app_ds : ∀ b c : Ss, (b.app c).ds = b.ds ++ c.ds
  | .nil, _ => rfl
  | .cons _ b, c => congrArg (_ :: ·) (Ss.app_ds b c)
theorem Ss.app_list : ∀ b c : Ss, (b.app c).list = b.list ++ c.list
  | .nil, _ => rfl
  | .cons _ b, c => congrArg (_ :: ·) (Ss.app_list b c)
theorem Ss.of_list : ∀ l : List S, (Ss.of l).list = l
  | [] => rfl
  | _ :: l => congrArg (_ :: ·) (Ss.of_list l)
/-! ### the names that are used; the names of lets -/
mutual
def E.uses : E → List Str
  | .int _ => []
  | .name x => [x]
  | .choice _ l r => l.uses ++ r.uses
  | .call r _ as => r.uses ++ as.uses
  | .new _ as => as.uses
  | .plain _ as => as.uses
def Es.uses : Es → List Str
  | .nil => []
  | .cons e es => e.uses ++ es.uses
end
mutual
def S.uses : S → List Str
  | .letS x _ e => x :: e.uses
  | .setS x e => x :: e.uses
  | .ifS e b c => e.uses ++ (b.uses ++ c.uses)
  | .whileS e b => e.uses ++ b.uses
  | .doS e => e.uses
  | .fork r _ as => r.uses ++ as.uses
  | .plain _ as => as.uses
def Ss.uses : Ss → List Str
  | .nil => []
  | .cons s ss => s.uses ++ ss.uses
end
mutual
def S.lets : S → List Str
  | .letS x _ _ => [x]
  | .ifS _ b c => b.lets ++ c.lets
  | .whileS _ b => b.lets
  | _ => []
def Ss.lets : Ss → List Str
  | .nil => []
  | .cons s ss => s.lets ++ ss.lets
end
theorem Ss.app_lets : ∀ b c : Ss, (b.app c).lets = b.lets ++ c.lets
  | .nil, _ => rfl
  | .cons s b, c => by
    show s.lets ++ (b.app c).lets = (s.lets ++ b.lets) ++ c.lets
    rw [Ss.app_lets b c, List.append_assoc]
theorem Ss.app_uses : ∀ b c : Ss, (b.app c).uses = b.uses ++ c.uses
  | .nil, _ => rfl
  | .cons s b, c => by
    show s.uses ++ (b.app c).uses = (s.uses ++ b.uses) ++ c.uses
    rw [Ss.app_uses b c, List.append_assoc]
/-! ### words in their places -/
abbrev plainE : List Str := ["nil", "self", "add", "sub", "mul", "less", "most", "same", "not"]
abbrev leafE : List Str := ["nil", "self"]
def Es.isNil : Es → Bool
  | .nil => true
  | .cons _ _ => false
abbrev plainB : List Str := ["return", "print", "move"]
/-- how many parts stand behind a word -/
def arE (w : Str) : Nat := if w ∈ leafE then 0 else if w = "not" then 1 else 2
def arB (w : Str) : Nat := if w = "move" then 2 else 1
mutual
def E.wf : E → Bool
  | .int _ => true
  | .name _ => true
  | .choice _ l r => l.wf && r.wf
  | .call r _ as => r.wf && as.wf
  | .new _ as => as.wf
  | .plain w as => (decide (w ∈ plainE) && decide (as.len = arE w)) && as.wf
def Es.wf : Es → Bool
  | .nil => true
  | .cons e es => e.wf && es.wf
end
mutual
def S.wf : S → Bool
  | .letS _ _ e => e.wf
  | .setS _ e => e.wf
  | .ifS e b c => e.wf && (b.wf && c.wf)
  | .whileS e b => e.wf && b.wf
  | .doS e => e.wf
  | .fork r _ as => r.wf && as.wf
  | .plain w as => (decide (w ∈ plainB) && decide (as.len = arB w)) && as.wf
def Ss.wf : Ss → Bool
  | .nil => true
  | .cons s ss => s.wf && ss.wf
end
theorem Ss.app_wf : ∀ b c : Ss, (b.app c).wf = (b.wf && c.wf)
  | .nil, _ => rfl
  | .cons s b, c => by
    show (s.wf && (b.app c).wf) = ((s.wf && b.wf) && c.wf)
    rw [Ss.app_wf b c, Bool.and_assoc]
theorem and2 {a b : Bool} (h1 : a = true) (h2 : b = true) : (a && b) = true := by rw [h1, h2]; rfl
theorem wfP {w : Str} {e : E} {as : Es} (h1 : decide (w ∈ plainB) = true) (h3 : (Es.cons e as).len = arB w) (h2 : (Es.cons e as).wf = true) : (S.plain w (.cons e as)).wf = true := and2 (and2 h1 (decide_eq_true h3)) h2
theorem ar_nil {w : Str} (h : decide (0 = arE w) = true) : w ∈ leafE := by
  by_cases e : w ∈ leafE
  · exact e
  · have h' := of_decide_eq_true h
    unfold arE at h'
    rw [if_neg e] at h'
    split at h' <;> omega
theorem ar_some {w : Str} {n : Nat} (h : decide (n + 1 = arE w) = true) : ¬ w ∈ leafE := fun e => by
  have h' := of_decide_eq_true h
  unfold arE at h'
  rw [if_pos e] at h'
  omega
theorem wfW {e : E} {b : Ss} (h1 : e.wf = true) (h2 : b.wf = true) : (S.whileS e b).wf = true := and2 h1 h2
theorem wfC {e : E} {es : Es} (h1 : e.wf = true) (h2 : es.wf = true) : (Es.cons e es).wf = true := and2 h1 h2
theorem wfSs {e : S} {es : Ss} (h1 : e.wf = true) (h2 : es.wf = true) : (Ss.cons e es).wf = true := and2 h1 h2
/-! ### depth -/
mutual
def E.dep : E → Nat
  | .int _ => 0
  | .name _ => 0
  | .choice _ l r => max l.dep r.dep + 1
  | .call r _ as => max r.dep as.dep + 1
  | .new _ as => as.dep + 1
  | .plain _ as => as.dep + 1
def Es.dep : Es → Nat
  | .nil => 0
  | .cons e es => max e.dep es.dep
end
mutual
def S.dep : S → Nat
  | .letS _ _ e => e.dep + 1
  | .setS _ e => e.dep + 1
  | .ifS e b c => max e.dep (max b.dep c.dep) + 1
  | .whileS e b => max e.dep b.dep + 1
  | .doS e => e.dep + 1
  | .fork r _ as => max r.dep as.dep + 1
  | .plain _ as => as.dep + 1
def Ss.dep : Ss → Nat
  | .nil => 0
  | .cons s ss => max s.dep ss.dep
end
/-! ### the number of instructions -/
mutual
def E.sz : E → Nat
  | .int _ => 1
  | .name _ => 1
  | .choice o l r => l.sz + r.sz + (if o then 2 else 0) + 5
  | .call r _ as => r.sz + as.sz + 1
  | .new _ as => as.sz + 1
  | .plain _ as => as.sz + 1
def Es.sz : Es → Nat
  | .nil => 0
  | .cons e es => e.sz + es.sz
end
mutual
def S.sz : S → Nat
  | .letS _ _ e => e.sz + 1
  | .setS _ e => e.sz + 1
  | .ifS e b c => e.sz + 1 + b.sz + (match c with | .nil => 0 | .cons _ _ => 1) + c.sz
  | .whileS e b => e.sz + b.sz + 2
  | .doS e => e.sz + 1
  | .fork r _ as => r.sz + as.sz + 1
  | .plain _ as => as.sz + 1
def Ss.sz : Ss → Nat
  | .nil => 0
  | .cons s ss => s.sz + ss.sz
end
theorem Ss.app_dep : ∀ b c : Ss, (b.app c).dep = max b.dep c.dep
  | .nil, _ => (Nat.zero_max _).symm
  | .cons s b, c => by
    show max s.dep (b.app c).dep = max (max s.dep b.dep) c.dep
    rw [Ss.app_dep b c, Nat.max_assoc]
theorem Ss.app_sz : ∀ b c : Ss, (b.app c).sz = b.sz + c.sz
  | .nil, _ => (Nat.zero_add _).symm
  | .cons s b, c => by
    show s.sz + (b.app c).sz = (s.sz + b.sz) + c.sz
    rw [Ss.app_sz b c, Nat.add_assoc]
/-! ### code -/
def I1 (x : Str) : PyData := .tuple [.str x]
def I2 (x : Str) (n : Int) : PyData := .tuple [.str x, .int n]
def I3 (x y : Str) (n : Int) : PyData := .tuple [.str x, .str y, .int n]
/-- what turns the parts of an or -/
def tn (o : Bool) : List PyData := if o then [I1 "not"] else []
def kn (o : Bool) : Nat := if o then 1 else 0
def ends (o : Bool) (d : Nat) : List PyData := [I2 "push" (if o then 0 else 1), I2 "jump" ((d : Int) + 1), I2 "push" (if o then 1 else 0)]
abbrev Plc := Str → Str × Int
mutual
def E.code (pl : Plc) : E → Nat → List PyData
  | .int n, _ => [I2 "push" n]
  | .name x, _ => [I2 (pl x).1 (pl x).2]
  | .choice o l r, at_ => (l.code pl at_ ++ tn o) ++ [I2 "unless" ((at_ + l.sz + kn o + 1 + r.sz + kn o + 3 : Nat) : Int)] ++ (r.code pl (at_ + l.sz + kn o + 1) ++ tn o) ++ [I2 "unless" ((at_ + l.sz + kn o + 1 + r.sz + kn o + 3 : Nat) : Int)] ++ ends o (at_ + l.sz + kn o + 1 + r.sz + kn o + 3)
  | .call r f as, at_ => (r.code pl at_ ++ as.code pl (at_ + r.sz)) ++ [I3 "call" f as.len]
  | .new m as, at_ => as.code pl at_ ++ [I3 "new" m as.len]
  | .plain w as, at_ => as.code pl at_ ++ [I1 w]
def Es.code (pl : Plc) : Es → Nat → List PyData
  | .nil, _ => []
  | .cons e es, at_ => e.code pl at_ ++ es.code pl (at_ + e.sz)
end
mutual
def S.code (pl : Plc) : S → Nat → List PyData
  | .letS x _ e, at_ => e.code pl at_ ++ [I2 ("set" ++ (pl x).1) (pl x).2]
  | .setS x e, at_ => e.code pl at_ ++ [I2 ("set" ++ (pl x).1) (pl x).2]
  | .ifS e b .nil, at_ => e.code pl at_ ++ [I2 "unless" ((at_ + e.sz + 1 + b.sz : Nat) : Int)] ++ b.code pl (at_ + e.sz + 1)
  | .ifS e b (.cons s ss), at_ => e.code pl at_ ++ [I2 "unless" ((at_ + e.sz + 1 + b.sz + 1 : Nat) : Int)] ++ b.code pl (at_ + e.sz + 1) ++ [I2 "jump" ((at_ + e.sz + 1 + b.sz + 1 + (s.sz + ss.sz) : Nat) : Int)] ++
      (s.code pl (at_ + e.sz + 1 + b.sz + 1) ++ ss.code pl (at_ + e.sz + 1 + b.sz + 1 + s.sz))
  | .whileS e b, at_ => e.code pl at_ ++ [I2 "unless" ((at_ + e.sz + 1 + b.sz + 1 : Nat) : Int)] ++ b.code pl (at_ + e.sz + 1) ++ [I2 "jump" (at_ : Nat)]
  | .doS e, at_ => e.code pl at_ ++ [I1 "drop"]
  | .fork r f as, at_ => (r.code pl at_ ++ as.code pl (at_ + r.sz)) ++ [I3 "fork" f as.len]
  | .plain w as, at_ => as.code pl at_ ++ [I1 w]
def Ss.code (pl : Plc) : Ss → Nat → List PyData
  | .nil, _ => []
  | .cons s ss, at_ => s.code pl at_ ++ ss.code pl (at_ + s.sz)
end
theorem tn_len (o : Bool) : (tn o).length = kn o := by cases o <;> rfl
mutual
theorem E.code_len (pl : Plc) : ∀ (e : E) (a : Nat), (e.code pl a).length = e.sz
  | .int _, _ => rfl
  | .name _, _ => rfl
  | .choice o l r, a => by
    have h1 := E.code_len pl l a
    have h2 := E.code_len pl r (a + l.sz + kn o + 1)
    simp only [E.code, List.length_append, List.length_cons, List.length_nil, h1, h2, tn_len, ends, E.sz]
    cases o <;> simp [kn] <;> omega
  | .call r f as, a => by
    have h1 := E.code_len pl r a
    have h2 := Es.code_len pl as (a + r.sz)
    simp only [E.code, List.length_append, List.length_cons, List.length_nil, h1, h2, E.sz]
  | .new m as, a => by
    have h2 := Es.code_len pl as a
    simp only [E.code, List.length_append, List.length_cons, List.length_nil, h2, E.sz]
  | .plain w as, a => by
    have h2 := Es.code_len pl as a
    simp only [E.code, List.length_append, List.length_cons, List.length_nil, h2, E.sz]
theorem Es.code_len (pl : Plc) : ∀ (es : Es) (a : Nat), (es.code pl a).length = es.sz
  | .nil, _ => rfl
  | .cons e es, a => by
    have h1 := E.code_len pl e a
    have h2 := Es.code_len pl es (a + e.sz)
    simp only [Es.code, List.length_append, h1, h2, Es.sz]
end
mutual
theorem S.code_len (pl : Plc) : ∀ (s : S) (a : Nat), (s.code pl a).length = s.sz
  | .letS x k e, a => by simp only [S.code, List.length_append, List.length_cons, List.length_nil, E.code_len, S.sz]
  | .setS x e, a => by simp only [S.code, List.length_append, List.length_cons, List.length_nil, E.code_len, S.sz]
  | .ifS e b .nil, a => by
    have h := Ss.code_len pl b (a + e.sz + 1)
    simp only [S.code, List.length_append, List.length_cons, List.length_nil, E.code_len, h, S.sz, Ss.sz]
    omega
  | .ifS e b (.cons s ss), a => by
    have h := Ss.code_len pl b (a + e.sz + 1)
    have h1 := S.code_len pl s (a + e.sz + 1 + b.sz + 1)
    have h2 := Ss.code_len pl ss (a + e.sz + 1 + b.sz + 1 + s.sz)
    simp only [S.code, List.length_append, List.length_cons, List.length_nil, E.code_len, h, h1, h2, S.sz, Ss.sz]
  | .whileS e b, a => by
    have h := Ss.code_len pl b (a + e.sz + 1)
    simp only [S.code, List.length_append, List.length_cons, List.length_nil, E.code_len, h, S.sz]
    omega
  | .doS e, a => by simp only [S.code, List.length_append, List.length_cons, List.length_nil, E.code_len, S.sz]
  | .fork r f as, a => by simp only [S.code, List.length_append, List.length_cons, List.length_nil, E.code_len, Es.code_len, S.sz]
  | .plain w as, a => by simp only [S.code, List.length_append, List.length_cons, List.length_nil, Es.code_len, S.sz]
theorem Ss.code_len (pl : Plc) : ∀ (ss : Ss) (a : Nat), (ss.code pl a).length = ss.sz
  | .nil, _ => rfl
  | .cons s ss, a => by
    have h1 := S.code_len pl s a
    have h2 := Ss.code_len pl ss (a + s.sz)
    simp only [Ss.code, List.length_append, h1, h2, Ss.sz]
end
/-! ### rows of expressions, of statements, taken to a place -/
def Es.take : Es → Nat → Es
  | _, 0 => .nil
  | .nil, _ + 1 => .nil
  | .cons e es, n + 1 => .cons e (es.take n)
def Ss.take : Ss → Nat → Ss
  | _, 0 => .nil
  | .nil, _ + 1 => .nil
  | .cons e es, n + 1 => .cons e (es.take n)
theorem Es.take_next {pl : Plc} : ∀ {es : Es} {i : Nat} {e : E} (a : Nat), es.list[i]? = some e → (es.take (i + 1)).code pl a = (es.take i).code pl a ++ e.code pl (a + (es.take i).sz) ∧ (es.take (i + 1)).sz = (es.take i).sz + e.sz
  | .cons e es, 0, _, a, h => by
    cases h
    constructor
    · show e.code pl a ++ (es.take 0).code pl (a + e.sz) = [] ++ e.code pl (a + 0)
      cases es <;> simp [Es.take, Es.code]
    · show e.sz + (es.take 0).sz = 0 + e.sz
      cases es <;> simp [Es.take, Es.sz]
  | .cons e es, i + 1, f, a, h => by
    have ih := Es.take_next (pl := pl) (es := es) (i := i) (e := f) (a + e.sz) h
    constructor
    · show e.code pl a ++ (es.take (i + 1)).code pl (a + e.sz) = (e.code pl a ++ (es.take i).code pl (a + e.sz)) ++ f.code pl (a + (e.sz + (es.take i).sz))
      rw [ih.1, List.append_assoc, Nat.add_assoc a]
    · show e.sz + (es.take (i + 1)).sz = e.sz + (es.take i).sz + f.sz
      rw [ih.2]
      omega
  | .nil, i, _, _, h => by cases h
theorem Es.take_all : ∀ es : Es, es.take es.list.length = es
  | .nil => rfl
  | .cons e es => congrArg (Es.cons e) (Es.take_all es)
theorem Es.take_sz : ∀ (es : Es) (i : Nat), (es.take i).sz ≤ es.sz
  | es, 0 => by cases es <;> exact Nat.zero_le _
  | .nil, _ + 1 => Nat.le_refl _
  | .cons e es, i + 1 => Nat.add_le_add_left (Es.take_sz es i) _
theorem Ss.take_next {pl : Plc} : ∀ {es : Ss} {i : Nat} {e : S} (a : Nat), es.list[i]? = some e → (es.take (i + 1)).code pl a = (es.take i).code pl a ++ e.code pl (a + (es.take i).sz) ∧ (es.take (i + 1)).sz = (es.take i).sz + e.sz
  | .cons e es, 0, _, a, h => by
    cases h
    constructor
    · show e.code pl a ++ (es.take 0).code pl (a + e.sz) = [] ++ e.code pl (a + 0)
      cases es <;> simp [Ss.take, Ss.code]
    · show e.sz + (es.take 0).sz = 0 + e.sz
      cases es <;> simp [Ss.take, Ss.sz]
  | .cons e es, i + 1, f, a, h => by
    have ih := Ss.take_next (pl := pl) (es := es) (i := i) (e := f) (a + e.sz) h
    constructor
    · show e.code pl a ++ (es.take (i + 1)).code pl (a + e.sz) = (e.code pl a ++ (es.take i).code pl (a + e.sz)) ++ f.code pl (a + (e.sz + (es.take i).sz))
      rw [ih.1, List.append_assoc, Nat.add_assoc a]
    · show e.sz + (es.take (i + 1)).sz = e.sz + (es.take i).sz + f.sz
      rw [ih.2]
      omega
  | .nil, i, _, _, h => by cases h
theorem Ss.take_all : ∀ es : Ss, es.take es.list.length = es
  | .nil => rfl
  | .cons e es => congrArg (Ss.cons e) (Ss.take_all es)
theorem Ss.take_sz : ∀ (es : Ss) (i : Nat), (es.take i).sz ≤ es.sz
  | es, 0 => by cases es <;> exact Nat.zero_le _
  | .nil, _ + 1 => Nat.le_refl _
  | .cons e es, i + 1 => Nat.add_le_add_left (Ss.take_sz es i) _
/-- the parts of a row -/
theorem Es.part : ∀ {es : Es} {e : E}, e ∈ es.list → (es.wf = true → e.wf = true) ∧ (∀ x ∈ e.uses, x ∈ es.uses) ∧ e.dep ≤ es.dep ∧ e.sz ≤ es.sz
  | .cons f fs, e, h => by
    rcases List.mem_cons.mp (show e ∈ f :: fs.list from h) with rfl | h
    · exact ⟨fun w => (Bool.and_eq_true_iff.mp w).1, fun x hx => List.mem_append_left _ hx, Nat.le_max_left _ _, Nat.le_add_right _ _⟩
    · obtain ⟨h1, h2, h3, h4⟩ := Es.part h
      exact ⟨fun w => h1 (Bool.and_eq_true_iff.mp w).2, fun x hx => List.mem_append_right _ (h2 x hx), Nat.le_trans h3 (Nat.le_max_right _ _), Nat.le_trans h4 (Nat.le_add_left _ _)⟩
  | .nil, _, h => by cases h
theorem Ss.part : ∀ {es : Ss} {e : S}, e ∈ es.list → (es.wf = true → e.wf = true) ∧ (∀ x ∈ e.uses, x ∈ es.uses) ∧ e.dep ≤ es.dep ∧ e.sz ≤ es.sz
  | .cons f fs, e, h => by
    rcases List.mem_cons.mp (show e ∈ f :: fs.list from h) with rfl | h
    · exact ⟨fun w => (Bool.and_eq_true_iff.mp w).1, fun x hx => List.mem_append_left _ hx, Nat.le_max_left _ _, Nat.le_add_right _ _⟩
    · obtain ⟨h1, h2, h3, h4⟩ := Ss.part h
      exact ⟨fun w => h1 (Bool.and_eq_true_iff.mp w).2, fun x hx => List.mem_append_right _ (h2 x hx), Nat.le_trans h3 (Nat.le_max_right _ _), Nat.le_trans h4 (Nat.le_add_left _ _)⟩
  | .nil, _, h => by cases h
theorem Rps.at_E {K : PySem.W.Frag} {H : Hp} {vs : List V} {es : Es} {i : Nat} {v : V} (r : Rps K H vs es.ds) (h : vs[i]? = some v) : ∃ e, es.list[i]? = some e ∧ Rp K H v e.d := by
  rw [Es.list_ds] at r
  have hl := r.len
  rw [List.length_map] at hl
  have hi : i < es.list.length := by
    rw [← hl]
    exact (List.getElem?_eq_some_iff.mp h).1
  have e1 : es.list[i]? = some es.list[i] := List.getElem?_eq_getElem hi
  obtain ⟨u, hu, ru⟩ := r.at_ (i := i) (d := es.list[i].d) (by rw [List.getElem?_map, e1]; rfl)
  rw [h] at hu
  cases hu
  exact ⟨_, e1, ru⟩
theorem Rps.at_S {K : PySem.W.Frag} {H : Hp} {vs : List V} {es : Ss} {i : Nat} {v : V} (r : Rps K H vs es.ds) (h : vs[i]? = some v) : ∃ e, es.list[i]? = some e ∧ Rp K H v e.d := by
  rw [Ss.list_ds] at r
  have hl := r.len
  rw [List.length_map] at hl
  have hi : i < es.list.length := by
    rw [← hl]
    exact (List.getElem?_eq_some_iff.mp h).1
  have e1 : es.list[i]? = some es.list[i] := List.getElem?_eq_getElem hi
  obtain ⟨u, hu, ru⟩ := r.at_ (i := i) (d := es.list[i].d) (by rw [List.getElem?_map, e1]; rfl)
  rw [h] at hu
  cases hu
  exact ⟨_, e1, ru⟩
/-- an item of a tuple of data -/
theorem ix_rp {K : PySem.W.Frag} {H : Hp} {x : V} {ds : List PyData} {i : Nat} {d : PyData} {Q : VK} (hx : Rp K H x (.tuple ds)) (hi : ds[i]? = some d) (h : ∀ v, Rp K H v d → Q v H) : rIxT K x (.int (i : Nat)) H Q := by
  obtain ⟨a, xs, rfl, ha, hxs⟩ := hx.tup_inv
  obtain ⟨v, hv, rv⟩ := hxs.at_ hi
  exact ⟨a, xs, _, v, rfl, rfl, ha, atI_nat hv, h v rv⟩
theorem len_rp {K : PySem.W.Frag} {H : Hp} {x : V} {ds : List PyData} (hx : Rp K H x (.tuple ds)) : ∃ a xs, x = .ref a ∧ SqT K H a xs ∧ xs.length = ds.length := by
  obtain ⟨a, xs, rfl, ha, hxs⟩ := hx.tup_inv
  exact ⟨a, xs, rfl, ha, hxs.len⟩
/-- where the names are kept: a dict of places -/
def PlAt (K : PySem.W.Frag) (H : Hp) (nd : Addr) (pl : Plc) (N : List Str) : Prop := ∃ kvs, H nd = some (.dK kvs) ∧ ∀ x ∈ N, (pl x).1.length ≤ 1000 ∧ ∃ v, valV kvs (.inr x : Key) = some v ∧ Rp K H v (.tuple [.str (pl x).1, .int (pl x).2])
theorem PlAt.same {K : PySem.W.Frag} {H H' : Hp} {nd : Addr} {pl : Plc} {N : List Str} (p : PlAt K H nd pl N) (s : Same H H') : PlAt K H' nd pl N := by
  obtain ⟨kvs, h, q⟩ := p
  exact ⟨kvs, s _ _ h, fun x hx => ⟨(q x hx).1, by
    obtain ⟨v, h1, h2⟩ := (q x hx).2
    exact ⟨v, h1, h2.keep (Same.tups s)⟩⟩⟩
end Pt

set_option Elab.async false
set_option linter.all false
set_option maxRecDepth 100000
set_option maxHeartbeats 4000000
/-! Dicts whose keys are tuples of any depth (names of processes, of objects): {}, d[k], d[k] = v, del d[k], k in d, d.get. -/
namespace ND
open PySem PySem.W PySem.Spec PyProof.Rows L2 Pt

/-- tuples stay -/
abbrev TK (K : PySem.W.Frag) (H H' : Hp) : Prop := ∀ c xs, SqT K H c xs → SqT K H' c xs
theorem TK.refl {K : PySem.W.Frag} {H : Hp} : TK K H H := fun _ _ h => h
theorem TK.trans {K : PySem.W.Frag} {H H1 H2 : Hp} (a : TK K H H1) (b : TK K H1 H2) : TK K H H2 := fun c xs h => b c xs (a c xs h)
theorem TK.same {K : PySem.W.Frag} {H H' : Hp} (s : Same H H') : TK K H H' := fun _ _ h => Cm.sameT s h
theorem TK.of {K : PySem.W.Frag} {H H' : Hp} (t : Tups H H') : TK K H H' := fun _ _ h => t.sqt h
/-- what may be written is no tuple -/
theorem TK.upd {K : PySem.W.Frag} {H : Hp} {a : Addr} {o : HO} (m : Mut (H a)) : TK K H (upd H a o) := fun c xs h => by
  rcases h with (h | ⟨u, h⟩) | h
  · refine .inl (.inl ?_)
    rw [upd_ne fun z => by subst z; rw [h] at m; exact m]
    exact h
  · refine .inl (.inr ⟨u, ?_⟩)
    rw [upd_ne fun z => by subst z; rw [h] at m; exact m]
    exact h
  · exact .inr h
mutual
theorem rp_keep {K : PySem.W.Frag} {H H' : Hp} (k : TK K H H') : ∀ {v : V} {d : PyData}, Rp K H v d → Rp K H' v d
  | _, _, .non => .non
  | _, _, .bl b => .bl b
  | _, _, .int i => .int i
  | _, _, .str x => .str x
  | _, _, .tup h r => .tup (k _ _ h) (rps_keep k r)
theorem rps_keep {K : PySem.W.Frag} {H H' : Hp} (k : TK K H H') : ∀ {vs : List V} {ds : List PyData}, Rps K H vs ds → Rps K H' vs ds
  | _, _, .nil => .nil
  | _, _, .cons h r => .cons (rp_keep k h) (rps_keep k r)
end
/-- the value v is the key k -/
def KeyAt (K : PySem.W.Frag) (H : Hp) (v : V) (k : NestedKey) : Prop := Rp K H v k.data ∧ k.depth ≤ 8 ∧ ∃ ks, k = .tup ks
theorem KeyAt.keep {K : PySem.W.Frag} {H H' : Hp} {v : V} {k : NestedKey} (t : TK K H H') (h : KeyAt K H v k) : KeyAt K H' v k := ⟨rp_keep t h.1, h.2⟩
theorem KeyAt.ref {K : PySem.W.Frag} {H : Hp} {v : V} {k : NestedKey} (h : KeyAt K H v k) : ∃ b, v = .ref b := by
  obtain ⟨r, _, ks, rfl⟩ := h
  obtain ⟨a, xs, rfl, _⟩ := r.tup_inv
  exact ⟨a, rfl⟩
section
variable {X : Cx} {pins : List (Addr × Obj)} {σ : L2.St} {H : Hp} {s : Shared}
mutual
theorem is_of (I : Inv X pins σ H s) : ∀ (k : NestedKey) (v : V) (u : Value), Rp X.K H v k.data → RelV v u → NestedIs s.heap k u
  | .none, v, u, r, ru => by
    simp only [NestedKey.data] at r
    cases r
    cases ru
    exact .none
  | .num i, v, u, r, ru => by
    simp only [NestedKey.data] at r
    cases r
    obtain ⟨t, rfl⟩ := ru
    exact .int _ _
  | .text x, v, u, r, ru => by
    simp only [NestedKey.data] at r
    cases r
    obtain ⟨t, rfl⟩ := ru
    exact .text _ _
  | .tup ks, v, u, r, ru => by
    simp only [NestedKey.data] at r
    obtain ⟨a, vs, rfl, ha, hvs⟩ := r.tup_inv
    cases ru
    obtain ⟨its, rv, ⟨o, ho, hc, n, hd⟩, hz⟩ := I.tuple ha
    exact .tup ho hc hd (by simpa using all_of I ks vs its hvs rv)
theorem all_of (I : Inv X pins σ H s) : ∀ (ks : List NestedKey) (vs : List V) (us : List Value), Rps X.K H vs (NestedKey.datas ks) → Vals vs us → NestedAll s.heap ks us
  | [], vs, us, r, ru => by
    simp only [NestedKey.datas] at r
    cases r
    cases ru
    exact .nil
  | k :: ks, vs, us, r, ru => by
    simp only [NestedKey.datas] at r
    cases r with
    | cons h t =>
      cases ru with
      | cons h' t' => exact .cons (is_of I k _ _ h h') (all_of I ks _ _ t t')
end
theorem key_of (I : Inv X pins σ H s) {b : Addr} {k : NestedKey} (h : KeyAt X.K H (.ref b) k) : (nestedKind X.prog X.w).is s.heap k b := ⟨is_of I k _ _ h.1 rfl, h.2.1⟩
end

/-- the dict at a holds xs -/
def ndO (P : Program) (w : World) (xs : List (NestedKey × Addr × Value)) (a : Addr) : HO := .ext fun h => (a == sysModules) = false ∧ xs.length ≤ sizeLine ∧
  ∃ o es ep, h.get? a = some o ∧ o.ExactDict ∧ o.data = .dict es ep ∧ es.toList = xs.map (entryOfKey (nestedKind P w)) ∧ (xs.map (·.1)).Nodup
abbrev KN (K : PySem.W.Frag) (H : Hp) : List (NestedKey × V) → List (NestedKey × Addr × Value) → Prop := Paired fun p q => p.1 = q.1 ∧ KeyAt K H (.ref q.2.1) p.1 ∧ RelV p.2 q.2.2
/-- at a stands a dict with these entries -/
def NDct (P : Program) (w : World) (K : PySem.W.Frag) (H : Hp) (a : Addr) (kvs : List (NestedKey × V)) : Prop := ∃ xs, H a = some (ndO P w xs a) ∧ KN K H kvs xs
section
variable {P : Program} {w : World} {K : PySem.W.Frag} {H H' : Hp} {a : Addr} {kvs : List (NestedKey × V)}
theorem KN.keep (t : TK K H H') {xs : List (NestedKey × Addr × Value)} (h : KN K H kvs xs) : KN K H' kvs xs := Paired.mapP h fun _ _ z => ⟨z.1, z.2.1.keep t, z.2.2⟩
theorem NDct.keep (t : TK K H H') (e : H' a = H a) (h : NDct P w K H a kvs) : NDct P w K H' a kvs := by
  obtain ⟨xs, h1, h2⟩ := h
  exact ⟨xs, e.trans h1, KN.keep t h2⟩
theorem NDct.same (t : Same H H') (h : NDct P w K H a kvs) : NDct P w K H' a kvs := by
  obtain ⟨xs, h1, h2⟩ := h
  exact ⟨xs, t _ _ h1, KN.keep (TK.same t) h2⟩
theorem NDct.some (h : NDct P w K H a kvs) : ∃ o, H a = some o ∧ (∀ xs, o ≠ .lst xs) ∧ (∀ xs, o ≠ .tup xs) ∧ Mut (H a) := by
  obtain ⟨xs, h1, h2⟩ := h
  exact ⟨_, h1, (fun _ z => nomatch z), (fun _ z => nomatch z), by rw [h1]; exact True.intro⟩
theorem KN.val {xs : List (NestedKey × Addr × Value)} (r : KN K H kvs xs) (k : NestedKey) : RelO (valV kvs k) ((atKey xs k).map (·.2)) := by
  induction r with
  | nil => exact True.intro
  | @cons p q ps qs h t ih =>
    obtain ⟨h1, _, h2⟩ := h
    by_cases e : p.1 = k
    · have e' : q.1 = k := h1.symm.trans e
      have b : atKey (q :: qs) k = some q.2 := by simp [atKey, List.find?_cons, e']
      rw [valV_pos e, b]; exact h2
    · have e' : ¬ q.1 = k := fun z => e (h1.trans z)
      have b : atKey (q :: qs) k = atKey qs k := by simp [atKey, List.find?_cons, e']
      rw [valV_neg e, b]; exact ih
theorem KN.repl {xs : List (NestedKey × Addr × Value)} (r : KN K H kvs xs) (k : NestedKey) {y : V} {u : Value} (ry : RelV y u) :
    KN K H (kvs.map fun kv => if kv.1 = k then (kv.1, y) else kv) (xs.map (putAt k u)) := by
  induction r with
  | nil => exact .nil
  | @cons p q ps qs h t ih =>
    rw [List.map_cons, List.map_cons]
    refine .cons ?_ ih
    obtain ⟨h1, h2, h3⟩ := h
    unfold putAt
    by_cases e : p.1 = k
    · rw [if_pos e, if_pos (h1.symm.trans e)]; exact ⟨h1, h2, ry⟩
    · rw [if_neg e, if_neg (fun z => e (h1.trans z))]; exact ⟨h1, h2, h3⟩
theorem KN.put {xs : List (NestedKey × Addr × Value)} (r : KN K H kvs xs) (k : NestedKey) {b : Addr} {y : V} {u : Value} (hb : KeyAt K H (.ref b) k) (ry : RelV y u) :
    KN K H (putK kvs k y) (storedH xs k b u) := by
  have e : (kvs.any fun kv => decide (kv.1 = k)) = (atKey xs k).isSome := by
    rw [valV_any, (r.val k).isSome_eq, Option.isSome_map]
  unfold putK storedH
  rw [e]
  by_cases q : (atKey xs k).isSome = true
  · rw [if_pos q, if_pos q]; exact r.repl k ry
  · rw [if_neg q, if_neg q]; exact Paired.snoc r ⟨rfl, hb, ry⟩
theorem KN.drop {xs : List (NestedKey × Addr × Value)} (r : KN K H kvs xs) (k : NestedKey) : KN K H (dropK kvs k) (withoutH xs k) := by
  induction r with
  | nil => exact .nil
  | @cons p q ps qs h t ih =>
    obtain ⟨h1, h2, h3⟩ := h
    unfold dropK withoutH at ih ⊢
    rw [List.filter_cons, List.filter_cons]
    by_cases e : p.1 = k
    · have e' : q.1 = k := h1.symm.trans e
      simp only [e, e', decide_true, Bool.not_true, ne_eq, not_true_eq_false, decide_false, Bool.false_eq_true, if_false]
      exact ih
    · have e' : ¬ q.1 = k := fun z => e (h1.trans z)
      simp only [e, e', decide_false, Bool.not_false, ne_eq, not_false_eq_true, decide_true, if_true]
      exact .cons ⟨h1, h2, h3⟩ ih
end

section
variable {X : Cx} {pins : List (Addr × Obj)} {σ : L2.St} {H : Hp} {s : Shared} {a b : Addr} {v : V} {u r : Value} {k : NestedKey} {kvs : List (NestedKey × V)} {A : Around} {E : Value → Shared → Prop}
theorem nd_of (I : Inv X pins σ H s) (g : NDct X.prog X.w X.K H a kvs) : kvs.length ≤ sizeLine ∧ (a == sysModules) = false ∧ ∃ xs, H a = some (ndO X.prog X.w xs a) ∧ KN X.K H kvs xs ∧ s.heap.DictOfH (nestedKind X.prog X.w) a xs := by
  obtain ⟨xs, e, r⟩ := g
  obtain ⟨⟨hd, hz, o, es, ep, h1, h2, h3, h4, h5⟩, _⟩ := (show ObjOk X.prog X.w H s.heap a (ndO X.prog X.w xs a) from I.hok a _ e)
  refine ⟨by rw [Paired.length r]; exact hz, hd, xs, e, r, o, es, ep, h1, h2, h3, h4, fun x hx => ?_, h5⟩
  have all : ∀ {l : List (NestedKey × V)} {m : List (NestedKey × Addr × Value)}, KN X.K H l m → ∀ x ∈ m, (nestedKind X.prog X.w).is s.heap x.1 x.2.1 := by
    intro l m q
    induction q with
    | nil => intro x hx; exact nomatch hx
    | @cons p q ps qs hq t ih =>
      intro x hx
      rcases List.mem_cons.mp hx with e | hx
      · subst e
        exact key_of I (by rw [← hq.1]; exact hq.2.1)
      · exact ih x hx
  exact all r x hx
theorem nd_ok {P : Program} {w : World} {H' : Hp} {h' : Heap} {xs : List (NestedKey × Addr × Value)} (hd : (a == sysModules) = false) (hz : xs.length ≤ sizeLine) (dd : h'.DictOfH (nestedKind P w) a xs) :
    ObjOk P w H' h' a (ndO P w xs a) := by
  obtain ⟨o, es, ep, h1, h2, h3, h4, _, h5⟩ := dd
  exact ⟨⟨hd, hz, o, es, ep, h1, h2, h3, h4, h5⟩, ⟨o, h1⟩, fun g1 g2 ⟨q1, q2, o', es', ep', p1, p⟩ k => ⟨q1, q2, o', es', ep', k _ p1, p⟩⟩
theorem nd_type (I : Inv X pins σ H s) (g : NDct X.prog X.w X.K H a kvs) : s.TypeIs (.ref a) "dict" ∧ (∀ b, Value.ref a = .ref b → ∃ ob, s.heap.get? b = some ob ∧ ob.dict = none) := by
  obtain ⟨_, _, xs, _, _, dd⟩ := nd_of I g
  refine ⟨dd.typeIs, fun b q => ?_⟩
  cases q
  obtain ⟨ob, _, _, h1, h2, _⟩ := dd
  exact ⟨ob, h1, h2.2.1⟩
theorem nd_getItem {Q : Value → Shared → Prop} (hu : A.units + 9 < cLine) (I : Inv X pins σ H s) (g : NDct X.prog X.w X.K H a kvs) (ky : KeyAt X.K H (.ref b) k) (l : valV kvs k = some v) (h : ∀ w' s', Inv X pins σ H s' → RelV v w' → Q w' s') :
    wpAny (model X.prog X.w) A (getItem (.ref a) (.ref b)) Q E s := by
  obtain ⟨_, _, xs, _, rel, dd⟩ := nd_of I g
  obtain ⟨w', hw, rw'⟩ := RelO.some_of (v := v) (o := (atKey xs k).map (·.2)) (by rw [← l]; exact rel.val k)
  obtain ⟨p, hp, hp2⟩ := Option.map_eq_some_iff.mp hw
  refine wpAny_getItem_heap (show A.in1.units + 8 < cLine by rw [Around.in1_units]; omega) (key_of I ky) dd hp ?_
  rw [hp2]
  exact h w' _ (I.tok _) rw'
theorem nd_in {Q : Value → Shared → Prop} (hu : A.units + 9 < cLine) (I : Inv X pins σ H s) (g : NDct X.prog X.w X.K H a kvs) (ky : KeyAt X.K H (.ref b) k) (h : ∀ s', Inv X pins σ H s' → Q (.bool (valV kvs k).isSome) s') :
    wpAny (model X.prog X.w) A (compareOp .In (.ref b) (.ref a)) Q E s := by
  obtain ⟨_, hd, xs, _, rel, dd⟩ := nd_of I g
  refine wpAny_in_heap (show A.in1.units + 8 < cLine by rw [Around.in1_units]; omega) (key_of I ky) hd dd ?_
  have q := (rel.val k).isSome_eq
  rw [Option.isSome_map] at q
  rw [← q]
  exact h _ (I.tok _)
theorem nd_notIn {Q : Value → Shared → Prop} (hu : A.units + 9 < cLine) (I : Inv X pins σ H s) (g : NDct X.prog X.w X.K H a kvs) (ky : KeyAt X.K H (.ref b) k) (h : ∀ s', Inv X pins σ H s' → Q (.bool (!(valV kvs k).isSome)) s') :
    wpAny (model X.prog X.w) A (compareOp .NotIn (.ref b) (.ref a)) Q E s := by
  obtain ⟨_, hd, xs, _, rel, dd⟩ := nd_of I g
  refine wpAny_notIn_heap (show A.in1.units + 8 < cLine by rw [Around.in1_units]; omega) (key_of I ky) hd dd ?_
  have q := (rel.val k).isSome_eq
  rw [Option.isSome_map] at q
  rw [← q]
  exact h _ (I.tok _)
theorem nd_get1 {Q : Value → Shared → Prop} (hu : A.units + 9 < cLine) (I : Inv X pins σ H s) (g : NDct X.prog X.w X.K H a kvs) (ky : KeyAt X.K H (.ref b) k) (h : ∀ w' s', Inv X pins σ H s' → RelV ((valV kvs k).getD .non) w' → Q w' s') :
    wpAny (model X.prog X.w) A (call (.builtin "dict.get") [.ref a, .ref b]) Q E s := by
  obtain ⟨_, hd, xs, _, rel, dd⟩ := nd_of I g
  refine call_meetsIn PySem.F.slot_dict_get dd.typeIs PySem.F.entry_dict_get (PySem.F.args_dict_get_2 _ _) (meetsH_dict_get (nestedKind X.prog X.w) a b hd) ⟨show A.in1.units + 8 < cLine by rw [Around.in1_units]; omega, k, xs, key_of I ky, dd, h _ _ (I.tok _) ?_⟩
  exact (rel.val k).getD rfl
theorem nd_get2 {d : V} {Q : Value → Shared → Prop} (hu : A.units + 9 < cLine) (I : Inv X pins σ H s) (g : NDct X.prog X.w X.K H a kvs) (ky : KeyAt X.K H (.ref b) k) (rd : RelV d r) (h : ∀ w' s', Inv X pins σ H s' → RelV ((valV kvs k).getD d) w' → Q w' s') :
    wpAny (model X.prog X.w) A (call (.builtin "dict.get") [.ref a, .ref b, r]) Q E s := by
  obtain ⟨_, hd, xs, _, rel, dd⟩ := nd_of I g
  refine call_meetsIn PySem.F.slot_dict_get dd.typeIs PySem.F.entry_dict_get (PySem.F.args_dict_get_3 _ _ _) (meetsH_dict_get_default (nestedKind X.prog X.w) a b hd r) ⟨show A.in1.units + 8 < cLine by rw [Around.in1_units]; omega, k, xs, key_of I ky, dd, h _ _ (I.tok _) ?_⟩
  exact (rel.val k).getD rd
/-- d[k] = v -/
theorem nd_setItem {Q : Unit → Shared → Prop} (hu : A.units + 9 < cLine) (I : Inv X pins σ H s) (g : NDct X.prog X.w X.K H a kvs) (ky : KeyAt X.K H (.ref b) k) (hl : kvs.length < sizeLine) (rv : RelV v r)
    (h : ∀ o s', NDct X.prog X.w X.K (upd H a o) a (putK kvs k v) → Inv X pins σ (upd H a o) s' → Q () s') :
    wpAny (model X.prog X.w) A (setItem (.ref a) (.ref b) r) Q E s := by
  obtain ⟨_, hd, xs, e, rel, dd⟩ := nd_of I g
  have hz : xs.length ≤ sizeLine := by rw [← Paired.length rel]; omega
  refine wpAny_setItem_heap (hsz := hz) (show A.in1.units + 8 < cLine by rw [Around.in1_units]; omega) (key_of I ky) dd fun h' dd' hs => ?_
  have rel' := rel.put k ky rv
  have hz' : (storedH xs k b r).length ≤ sizeLine := by
    rw [← Paired.length rel']
    have := length_putK kvs k v
    omega
  have he : ∃ q, h'.get? a = some q := let ⟨q, _, _, hq, _⟩ := dd'; ⟨q, hq⟩
  exact h (ndO X.prog X.w (storedH xs k b r) a) _ ⟨_, upd_same, KN.keep (TK.upd (H := H) (a := a) (by rw [e]; exact True.intro)) rel'⟩ (d_write I (by rw [e]; exact True.intro) hs he (nd_ok hd hz' dd'))
/-- del d[k] -/
theorem nd_delItem {Q : Unit → Shared → Prop} (hu : A.units + 9 < cLine) (I : Inv X pins σ H s) (g : NDct X.prog X.w X.K H a kvs) (ky : KeyAt X.K H (.ref b) k) (l : (valV kvs k).isSome = true)
    (h : ∀ o s', NDct X.prog X.w X.K (upd H a o) a (dropK kvs k) → Inv X pins σ (upd H a o) s' → Q () s') :
    wpAny (model X.prog X.w) A (delItem (.ref a) (.ref b)) Q E s := by
  obtain ⟨hl, hd, xs, e, rel, dd⟩ := nd_of I g
  have hz : xs.length ≤ sizeLine := by rw [← Paired.length rel]; exact hl
  have q := (rel.val k).isSome_eq
  rw [Option.isSome_map, l] at q
  obtain ⟨p, hp⟩ := Option.isSome_iff_exists.mp q.symm
  refine wpAny_delItem_heap (hsz := hz) (show A.in1.units + 8 < cLine by rw [Around.in1_units]; omega) (key_of I ky) hd dd hp fun h' dd' hs => ?_
  have rel' := rel.drop k
  have hz' : (withoutH xs k).length ≤ sizeLine := Nat.le_trans (by unfold withoutH; exact List.length_filter_le _ _) hz
  have he : ∃ q, h'.get? a = some q := let ⟨q, _, _, hq, _⟩ := dd'; ⟨q, hq⟩
  exact h (ndO X.prog X.w (withoutH xs k) a) _ ⟨_, upd_same, KN.keep (TK.upd (H := H) (a := a) (by rw [e]; exact True.intro)) rel'⟩ (d_write I (by rw [e]; exact True.intro) hs he (nd_ok hd hz' dd'))
end

/-! ### readings and rules -/
section
variable (P : Program) (w : World) (K : PySem.W.Frag)
/-- {} -/
def tNNew : TE := fun _ H Q => ∀ p o, H p = none → NDct P w K (upd H p o) p [] → Q (.ref p) (upd H p o)
/-- d[y] -/
def tNGet (td ty : TE) : TE := fun σ H Q => td σ H fun x H1 => ty σ H1 fun y H2 => ∃ a kvs k v, x = .ref a ∧ NDct P w K H2 a kvs ∧ KeyAt K H2 y k ∧ valV kvs k = some v ∧ Q v H2
/-- y in d, y not in d -/
def tNIn (neg : Bool) (ty td : TE) : TE := fun σ H Q => ty σ H fun y H1 => td σ H1 fun x H2 => ∃ a kvs k, x = .ref a ∧ NDct P w K H2 a kvs ∧ KeyAt K H2 y k ∧ Q (.bl (if neg then !(valV kvs k).isSome else (valV kvs k).isSome)) H2
/-- d.get(y), d.get(y, z) -/
def tNGet1 (td ty : TE) : TE := fun σ H Q => td σ H fun x H1 => ∃ a kvs, x = .ref a ∧ NDct P w K H1 a kvs ∧ ty σ H1 fun y H2 => ∃ kvs k, NDct P w K H2 a kvs ∧ KeyAt K H2 y k ∧ Q ((valV kvs k).getD .non) H2
def tNGet2 (td ty tz : TE) : TE := fun σ H Q => td σ H fun x H1 => ∃ a kvs, x = .ref a ∧ NDct P w K H1 a kvs ∧ ty σ H1 fun y H2 => tz σ H2 fun z H3 => ∃ kvs k, NDct P w K H3 a kvs ∧ KeyAt K H3 y k ∧ Q ((valV kvs k).getD z) H3
/-- d[y] = v -/
def sNPut (td ty tv : TE) : TS := fun D σ H => tv σ H fun v H1 => td σ H1 fun x H2 => ty σ H2 fun y H3 => ∃ a kvs k, x = .ref a ∧ NDct P w K H3 a kvs ∧ KeyAt K H3 y k ∧ kvs.length < sizeLine ∧
  ∀ o, NDct P w K (upd H3 a o) a (putK kvs k v) → D.nx σ (upd H3 a o)
/-- del d[y] -/
def sNDel (td ty : TE) : TS := fun D σ H => td σ H fun x H1 => ty σ H1 fun y H2 => ∃ a kvs k, x = .ref a ∧ NDct P w K H2 a kvs ∧ KeyAt K H2 y k ∧ (valV kvs k).isSome = true ∧
  ∀ o, NDct P w K (upd H2 a o) a (dropK kvs k) → D.nx σ (upd H2 a o)
end
section
variable {X : Cx} {o i e f value : Expr} {pos pos' tpos apos cpos : Pos} {td ty tv tz : TE}
theorem pe_nnew : PE X (.Dict [] [] pos) (tNNew X.prog X.w X.K) := ⟨fun pins s σ H Q I h => by
  have hb := I.big
  have ok : ObjOk X.prog X.w (upd H s.heap.objs.size (ndO X.prog X.w [] s.heap.objs.size)) (s.heap.push { cls := .type "dict", data := .dict #[] }) s.heap.objs.size (ndO X.prog X.w [] s.heap.objs.size) :=
    nd_ok (beq_eq_false_iff_ne.mpr (Ne.symm (Nat.ne_of_lt hb))) (Nat.zero_le _) ⟨_, #[], 0, Heap.get?_push_size _ rfl, ⟨rfl, rfl, rfl⟩, rfl, rfl, (fun x hx => nomatch hx), List.nodup_nil⟩
  exact wpAny_Dict_empty ⟨.ref s.heap.objs.size, _, I.laid (a := s.heap.objs.size) (o := ndO X.prog X.w [] s.heap.objs.size) (t' := s.toks) (fun _ _ q => Heap.get?_push_of_some _ q) (Nat.le_refl _) ok, rfl, h _ _ (I.hok.fresh (Nat.le_refl _)) ⟨[], upd_same, .nil⟩⟩⟩
theorem pe_nget (hu : X.A.units + 9 < cLine) (ho : PE X o td) (hi : PE X i ty) (hs : NoSl i) : PE X (.Subscript o i pos) (tNGet X.prog X.w X.K td ty) := by
  refine ⟨fun pins s σ H Q I h => ?_⟩
  refine subD_of PySem.F.slot_dict_getitem.lookup hs (thn (ho.run pins s σ H _ I h) fun u s1 ⟨x, H1, I1, rx, q1⟩ => thn (hi.run pins s1 σ H1 _ I1 q1) fun iv s2 ⟨y, H2, I2, ry, a, kvs, k, v, ex, g, ky, l, q2⟩ => ?_)
  subst ex
  obtain rfl : u = Value.ref a := rx
  obtain ⟨b, rfl⟩ := ky.ref
  obtain rfl : iv = Value.ref b := ry
  exact ⟨(nd_type I2 g).1, nd_getItem hu I2 g ky l fun w' s3 I3 rw' => ⟨v, H2, I3, rw', q2⟩⟩
theorem pc_nin (hu : X.A.units + 9 < cLine) (hi : PE X i ty) (ho : PE X o td) : PC X .In i o (tNIn X.prog X.w X.K false ty td) := by
  refine ⟨fun pins s σ H Q I h => ?_⟩
  refine thn (hi.run pins s σ H _ I h) fun iv s1 ⟨y, H1, I1, ry, q1⟩ => thn (ho.run pins s1 σ H1 _ I1 q1) fun u s2 ⟨x, H2, I2, rx, a, kvs, k, ex, g, ky, q2⟩ => ?_
  subst ex
  obtain rfl : u = Value.ref a := rx
  obtain ⟨b, rfl⟩ := ky.ref
  obtain rfl : iv = Value.ref b := ry
  exact nd_in hu I2 g ky fun s3 I3 => ⟨.bl (valV kvs k).isSome, H2, I3, rfl, q2⟩
theorem pc_nnotin (hu : X.A.units + 9 < cLine) (hi : PE X i ty) (ho : PE X o td) : PC X .NotIn i o (tNIn X.prog X.w X.K true ty td) := by
  refine ⟨fun pins s σ H Q I h => ?_⟩
  refine thn (hi.run pins s σ H _ I h) fun iv s1 ⟨y, H1, I1, ry, q1⟩ => thn (ho.run pins s1 σ H1 _ I1 q1) fun u s2 ⟨x, H2, I2, rx, a, kvs, k, ex, g, ky, q2⟩ => ?_
  subst ex
  obtain rfl : u = Value.ref a := rx
  obtain ⟨b, rfl⟩ := ky.ref
  obtain rfl : iv = Value.ref b := ry
  exact nd_notIn hu I2 g ky fun s3 I3 => ⟨.bl (!(valV kvs k).isSome), H2, I3, rfl, q2⟩
theorem ps_nput (hu : X.A.units + 9 < cLine) (ho : PE X o td) (hi : PE X i ty) (hv : PE X value tv) (hs : swapsWith value (some (.Subscript o i pos')) pos.line X.env = pure false) :
    PS X (.Assign [.Subscript o i pos'] value pos) (sNPut X.prog X.w X.K td ty tv) := by
  refine ⟨fun pins s σ H D I h => ?_⟩
  refine wpAny_Assign_Subscript (thn (hv.run pins s σ H _ I h) fun r s1 ⟨v, H1, I1, rv, q1⟩ => thn (ho.run pins s1 σ H1 _ I1 q1) fun u s2 ⟨x, H2, I2, rx, q2⟩ => thn (hi.run pins s2 σ H2 _ I2 q2) fun iv s3 ⟨y, H3, I3, ry, a, kvs, k, ex, g, ky, hl, q3⟩ => ?_) hs
  subst ex
  obtain rfl : u = Value.ref a := rx
  obtain ⟨b, rfl⟩ := ky.ref
  obtain rfl : iv = Value.ref b := ry
  exact nd_setItem hu I3 g ky hl rv fun o s4 g4 I4 => ⟨σ, _, I4, q3 o g4⟩
theorem ps_ndel (hu : X.A.units + 9 < cLine) (ho : PE X o td) (hi : PE X i ty) : PS X (.Delete [.Subscript o i tpos] pos) (sNDel X.prog X.w X.K td ty) := by
  refine ⟨fun pins s σ H D I h => ?_⟩
  refine wpAny_Delete (wpAny_deleteEach_cons (wpAny_delete_Subscript (thn (ho.run pins s σ H _ I h) fun u s1 ⟨x, H1, I1, rx, q1⟩ => thn (hi.run pins s1 σ H1 _ I1 q1) fun iv s2 ⟨y, H2, I2, ry, a, kvs, k, ex, g, ky, l, q2⟩ => ?_)))
  subst ex
  obtain rfl : u = Value.ref a := rx
  obtain ⟨b, rfl⟩ := ky.ref
  obtain rfl : iv = Value.ref b := ry
  exact nd_delItem hu I2 g ky l fun o s3 g3 I3 => wpAny_deleteEach_nil ⟨σ, _, I3, q2 o g3⟩
theorem pe_nget1 (hu : X.A.units + 9 < cLine) (ho : PE X o td) (he : PE X e ty) (m : M1 X o "get" apos e cpos) : PE X (.Call (.Attribute o "get" apos) [e] [] cpos) (tNGet1 X.prog X.w X.K td ty) := by
  refine ⟨fun pins s σ H Q I h => ?_⟩
  refine wpAny_Call_method m.base m.few m.line PySem.F.plainAttrs_dict PySem.F.slot_dict_get PySem.F.type_dict_get (thn (ho.run pins s σ H _ I h) fun u s1 ⟨x, H1, I1, rx, a, kvs0, ex, d, q1⟩ => ?_)
  subst ex
  obtain rfl : u = Value.ref a := rx
  obtain ⟨t1, t2⟩ := nd_type I1 d
  refine ⟨t1, t2, ?_⟩
  rw [m.trees]
  refine Calls.callWith_builtin rfl (Calls.evalArgs_plain (Calls.spliced_cons (thn (he.run pins s1 σ H1 _ I1 q1) fun iv s2 ⟨y, H2, I2, ry, kvs, k, g, ky, q2⟩ => Calls.spliced_nil ?_)))
  obtain ⟨b, rfl⟩ := ky.ref
  obtain rfl : iv = Value.ref b := ry
  exact nd_get1 hu I2 g ky fun w' s3 I3 rw' => ⟨_, H2, I3, rw', q2⟩
theorem pe_nget2 (hu : X.A.units + 9 < cLine) (ho : PE X o td) (he : PE X e ty) (hf : PE X f tz) (m : M2 X o "get" apos e f cpos) : PE X (.Call (.Attribute o "get" apos) [e, f] [] cpos) (tNGet2 X.prog X.w X.K td ty tz) := by
  refine ⟨fun pins s σ H Q I h => ?_⟩
  refine wpAny_Call_method m.base m.few m.line PySem.F.plainAttrs_dict PySem.F.slot_dict_get PySem.F.type_dict_get (thn (ho.run pins s σ H _ I h) fun u s1 ⟨x, H1, I1, rx, a, kvs0, ex, d, q1⟩ => ?_)
  subst ex
  obtain rfl : u = Value.ref a := rx
  obtain ⟨t1, t2⟩ := nd_type I1 d
  refine ⟨t1, t2, ?_⟩
  rw [m.trees]
  refine Calls.callWith_builtin rfl (Calls.evalArgs_plain (Calls.spliced_cons (thn (he.run pins s1 σ H1 _ I1 q1) fun iv s2 ⟨y, H2, I2, ry, q2⟩ =>
    Calls.spliced_cons (thn (hf.run pins s2 σ H2 _ I2 q2) fun fv s3 ⟨z, H3, I3, rz, kvs, k, g, ky, q3⟩ => Calls.spliced_nil ?_))))
  obtain ⟨b, rfl⟩ := ky.ref
  obtain rfl : iv = Value.ref b := ry
  exact nd_get2 hu I3 g ky rz fun w' s4 I4 rw' => ⟨_, H3, I4, rw', q3⟩
end
theorem nu_of {A : Around} {k : Nat} (hr : Room k A) : A.units + 9 < cLine := Nat.lt_of_le_of_lt (Nat.add_le_add_left (by decide : 9 ≤ 64) _) hr.units
end ND

set_option Elab.async false
set_option linter.all false
set_option maxRecDepth 100000
set_option maxHeartbeats 4000000
/-! walking the keys of a dict with keys of any depth, while it is locked; d[k] of the locked dict. -/
namespace NKey
open PySem PySem.W PySem.Spec PyProof.Rows L2 Pt ND

/-- the locked dict at a -/
def NDctF (P : Program) (w : World) (K : PySem.W.Frag) (H : Hp) (a : Addr) (o : Obj) (kvs : List (NestedKey × V)) : Prop := ∃ xs, H a = some (.frz o (ndO P w xs a)) ∧ KN K H kvs xs
section
variable {X : Cx} {pins : List (Addr × Obj)} {σ : L2.St} {H : Hp} {s : Shared} {a b : Addr} {v : V} {k : NestedKey} {kvs : List (NestedKey × V)} {A : Around} {E : Value → Shared → Prop} {o : Obj}
theorem nf_of (I : Inv X pins σ H s) (g : NDctF X.prog X.w X.K H a o kvs) : ∃ xs es ep, KN X.K H kvs xs ∧ (a == sysModules) = false ∧ s.heap.get? a = some o ∧ o.ExactDict ∧ o.data = .dict es ep ∧ es.toList = xs.map (entryOfKey (nestedKind X.prog X.w)) ∧ s.heap.DictOfH (nestedKind X.prog X.w) a xs := by
  obtain ⟨xs, e, r⟩ := g
  obtain ⟨h0, ⟨hd, hz, o', es, ep, h1, h2, h3, h4, h5⟩, _⟩ := (show ObjOk X.prog X.w H s.heap a (.frz o (ndO X.prog X.w xs a)) from I.hok a _ e)
  rw [h0] at h1
  cases h1
  refine ⟨xs, es, ep, r, hd, h0, h2, h3, h4, o, es, ep, h0, h2, h3, h4, fun x hx => ?_, h5⟩
  have all : ∀ {l : List (NestedKey × V)} {m : List (NestedKey × Addr × Value)}, KN X.K H l m → ∀ x ∈ m, (nestedKind X.prog X.w).is s.heap x.1 x.2.1 := by
    intro l m q
    induction q with
    | nil => intro x hx; exact nomatch hx
    | @cons p q ps qs hq t ih =>
      intro x hx
      rcases List.mem_cons.mp hx with e | hx
      · subst e
        exact key_of I (by rw [← hq.1]; exact hq.2.1)
      · exact ih x hx
  exact all r x hx
theorem nf_getItem {Q : Value → Shared → Prop} (hu : A.units + 9 < cLine) (I : Inv X pins σ H s) (g : NDctF X.prog X.w X.K H a o kvs) (ky : KeyAt X.K H (.ref b) k) (l : valV kvs k = some v) (h : ∀ w' s', Inv X pins σ H s' → RelV v w' → Q w' s') :
    wpAny (model X.prog X.w) A (getItem (.ref a) (.ref b)) Q E s := by
  obtain ⟨xs, _, _, rel, _, _, _, _, _, dd⟩ := nf_of I g
  obtain ⟨w', hw, rw'⟩ := RelO.some_of (v := v) (o := (atKey xs k).map (·.2)) (by rw [← l]; exact rel.val k)
  obtain ⟨p, hp, hp2⟩ := Option.map_eq_some_iff.mp hw
  refine wpAny_getItem_heap (show A.in1.units + 8 < cLine by rw [Around.in1_units]; omega) (key_of I ky) dd hp ?_
  rw [hp2]
  exact h w' _ (I.tok _) rw'
end
section
variable {X : Cx} {o i : Expr} {td ty : TE} {pos : Pos}
/-- d[y] of a locked dict -/
def tNGetF (P : Program) (w : World) (K : PySem.W.Frag) (td ty : TE) : TE := fun σ H Q => td σ H fun x H1 => ty σ H1 fun y H2 => ∃ a ob kvs k v, x = .ref a ∧ NDctF P w K H2 a ob kvs ∧ KeyAt K H2 y k ∧ valV kvs k = some v ∧ Q v H2
theorem pe_ngetF (hu : X.A.units + 9 < cLine) (ho : PE X o td) (hi : PE X i ty) (hs : NoSl i) : PE X (.Subscript o i pos) (tNGetF X.prog X.w X.K td ty) := by
  refine ⟨fun pins s σ H Q I h => ?_⟩
  refine subD_of PySem.F.slot_dict_getitem.lookup hs (thn (ho.run pins s σ H _ I h) fun u s1 ⟨x, H1, I1, rx, q1⟩ => thn (hi.run pins s1 σ H1 _ I1 q1) fun iv s2 ⟨y, H2, I2, ry, a, ob, kvs, k, v, ex, g, ky, l, q2⟩ => ?_)
  subst ex
  obtain rfl : u = Value.ref a := rx
  obtain ⟨b, rfl⟩ := ky.ref
  obtain rfl : iv = Value.ref b := ry
  obtain ⟨_, _, _, _, _, _, _, _, _, dd⟩ := nf_of I2 g
  exact ⟨dd.typeIs, nf_getItem hu I2 g ky l fun w' s3 I3 rw' => ⟨v, H2, I3, rw', q2⟩⟩
end
/-- the keys of the locked dict at d, in their order -/
def Itn (P : Program) (w : World) (K : PySem.W.Frag) (d : Addr) (o : Obj) (kvs : List (NestedKey × V)) : It :=
  ⟨fun i H => NDctF P w K H d o kvs ∧ i < kvs.length, fun i H x H' => H' = H ∧ ∃ (k : NestedKey) (v : V), kvs[i]? = some (k, v) ∧ KeyAt K H x k, fun i H => NDctF P w K H d o kvs ∧ kvs.length ≤ i⟩
theorem kn_get {K : PySem.W.Frag} {H : Hp} : ∀ {kvs : List (NestedKey × V)} {xs : List (NestedKey × Addr × Value)} {i : Nat} {p : NestedKey × V}, KN K H kvs xs → kvs[i]? = some p → ∃ q, xs[i]? = some q ∧ p.1 = q.1 ∧ KeyAt K H (.ref q.2.1) p.1
  | _, _, 0, _, .cons h _, e => by
    cases e
    exact ⟨_, rfl, h.1, h.2.1⟩
  | _, _, i + 1, _, .cons _ t, e => kn_get (i := i) t (by simpa using e)
section
variable {P : Program} {w : World} {K : PySem.W.Frag} {tg : Expr} {d : Addr} {o : Obj} {es : Array DictEntry} {ep : Nat}
theorem turn_nkeys {kvs : List (NestedKey × V)} (it : Addr) (hod : o.data = .dict es ep) : Turn P w K tg (Itn P w K d o kvs) [it] it (fun i h => h.IsKeyIter it d i kvs.length ep) where
  mem := by simp
  obj := fun i h st b hb => by
    have e : b = it := by simpa using hb
    subst e
    obtain ⟨oi, e, c, dd⟩ := st
    exact ⟨oi, e, fun v z => by rw [dd] at z; cases z⟩
  keep := fun i h h' st k => st.at fun oi e => k it (by simp) oi e
  item := by
    intro X hP hw hK hc i pins s σ H E I hf st hg
    subst hP hw hK
    obtain ⟨g, hi⟩ := hg
    obtain ⟨f0, f1, f2, f3, f4, f5⟩ := hf it (by simp)
    obtain ⟨xs, es', ep', rel, hs, hgd, hx, hdt, hes, dd⟩ := nf_of I g
    obtain ⟨rfl, rfl⟩ := dict_ep hod hdt
    have hl : es'.size = kvs.length := by
      have q1 := congrArg List.length hes
      rw [List.length_map, Array.length_toList] at q1
      rw [q1, Paired.length rel]
    obtain ⟨⟨k, v⟩, hkv⟩ : ∃ p, kvs[i]? = some p := ⟨kvs[i], List.getElem?_eq_getElem hi⟩
    obtain ⟨q, hq, e1, ky⟩ := kn_get rel hkv
    have hen : es'[i]? = some (entryOfKey (nestedKind X.prog X.w) q) := by
      have z : es'.toList[i]? = (xs.map (entryOfKey (nestedKind X.prog X.w)))[i]? := by rw [hes]
      rw [Array.getElem?_toList, List.getElem?_map, hq] at z
      exact z
    refine next_key_item st hgd hdt hl hen fun h' st' sb => ?_
    have I1 : Inv X pins σ H { s with heap := h' } := I.turned (t' := s.toks) (fun b ob hb e => (sb.2 b hb).trans e) f0 f1 f3 f4 f5
    obtain ⟨oi, e, c, dd⟩ := id st'
    exact ⟨_, rfl, go_of (s := { s with heap := h' }) e c dd (by decide) ⟨.ref q.2.1, H, I1, rfl, ⟨rfl, k, v, hkv, ky⟩, st', fun b hb => (hf b hb).1⟩⟩
  done := by
    intro X hP hw hK hc i pins s σ H E I hf st hg
    subst hP hw hK
    obtain ⟨g, hi⟩ := hg
    obtain ⟨f0, f1, f2, f3, f4, f5⟩ := hf it (by simp)
    obtain ⟨xs, es', ep', rel, hs, hgd, hx, hdt, hes, dd⟩ := nf_of I g
    obtain ⟨rfl, rfl⟩ := dict_ep hod hdt
    have hl : es'.size = kvs.length := by
      have q1 := congrArg List.length hes
      rw [List.length_map, Array.length_toList] at q1
      rw [q1, Paired.length rel]
    exact next_key_end (I.ok.hd hc) st hgd hdt hl hi fun h' eb => ⟨rfl, I.turned (t' := s.toks) (fun b ob hb e => eb b ob hb e) f0 f1 f3 f4 f5⟩
  self := fun A i s Q E st h => wpAny_pyIter_keyiter st h
end
section
variable {X : Cx} {tg e : Expr} {td : TE}
def iNKeys (P : Program) (w : World) (K : PySem.W.Frag) (td : TE) : TI := fun σ H R => td σ H fun x H1 => ∃ d o kvs, x = .ref d ∧ NDctF P w K H1 d o kvs ∧ R (Itn P w K d o kvs) H1
theorem pi_nkeys (he : PE X e td) : PI X tg e (iNKeys X.prog X.w X.K td) := by
  refine ⟨fun pins s σ H R I h => ?_⟩
  refine thn (he.run pins s σ H _ I h) fun u s1 ⟨x, H1, I1, rx, d, o, kvs, ex, g, q⟩ => ?_
  subst ex
  obtain rfl : u = Value.ref d := rx
  obtain ⟨xs, es, ep, rel, hs, hgd, hx, hdt, hes, dd⟩ := nf_of I1 g
  have hl : es.size = kvs.length := by
    have q1 := congrArg List.length hes
    rw [List.length_map, Array.length_toList] at q1
    rw [q1, Paired.length rel]
  refine iter_keys hs hgd hx hdt (pi_one (tk := s1.toks) I1 _ (turn_nkeys _ hdt) ⟨_, Heap.get?_push_size _ rfl, rfl, ?_⟩ q)
  rw [hl] <;> rfl
end
theorem walk_nkeys {P : Program} {w : World} {K : PySem.W.Frag} {d : Addr} {o : Obj} {kvs : List (NestedKey × V)} : Walk (Itn P w K d o kvs) kvs.length (fun H => NDctF P w K H d o kvs) (fun i H x H' => H' = H ∧ ∃ (k : NestedKey) (v : V), kvs[i]? = some (k, v) ∧ KeyAt K H x k) :=
  ⟨fun _ _ hi q => ⟨q, hi⟩, fun _ q => ⟨q, Nat.le_refl _⟩, fun _ _ _ _ _ _ y => y⟩
end NKey

set_option Elab.async false
set_option linter.all false
set_option maxRecDepth 100000
set_option maxHeartbeats 4000000
/-! {k: v for x in ..}, the keys of any depth: the new dict is one of NDict. -/
namespace NDc
open PySem PySem.W PySem.Spec PyProof.Rows L2 Pt ND

section
variable {X : Cx} {pins : List (Addr × Obj)} {σ : L2.St} {H : Hp} {s : Shared}
/-- a turn's store -/
theorem set_nd {A : Around} {D b : Addr} {kvs : List (NestedKey × V)} {k : NestedKey} {v : V} {r : Value} {E : Value → Shared → Prop} {Q : Unit → Shared → Prop} (room : A.units + 9 < cLine)
    (I : Inv X pins σ H s) (g : NDct X.prog X.w X.K H D kvs) (ky : KeyAt X.K H (.ref b) k) (few : kvs.length < sizeLine) (rv : RelV v r)
    (go : ∀ o s', NDct X.prog X.w X.K (upd H D o) D (putK kvs k v) → Inv X pins σ (upd H D o) s' → Q () s') : wpAny (model X.prog X.w) A (dictSet D (.ref b) r) Q E s := by
  obtain ⟨_, nsys, xs, here, rel, dd⟩ := nd_of I g
  have many : xs.length ≤ sizeLine := by
    rw [← Paired.length rel]
    omega
  refine wpAny_dictSet_heap (hsz := many) (show A.units + 8 < cLine by omega) (key_of I ky) dd fun h1 dd1 only => ?_
  have rel1 := rel.put k ky rv
  have many1 : (storedH xs k b r).length ≤ sizeLine := by
    rw [← Paired.length rel1]
    have := length_putK kvs k v
    omega
  have still : ∃ q, h1.get? D = some q := by
    obtain ⟨q, _, _, hq, _⟩ := dd1
    exact ⟨q, hq⟩
  have mu : Mut (H D) := by
    rw [here]
    exact True.intro
  exact go _ _ ⟨_, upd_same, KN.keep (TK.upd mu) rel1⟩ (d_write I mu only still (nd_ok nsys many1 dd1))
end
section
variable (P : Program) (w : World) (K : PySem.W.Frag)
/-- what is left of a turn: key, value, the dict with both -/
def tTurn (D : Addr) (tk tv : TE) (Nx : Hp → Prop) (σ : L2.St) (G : Hp) : Prop := tk σ G fun y G1 => tv σ G1 fun z G2 => ∃ kvs k, NDct P w K G2 D kvs ∧ KeyAt K G2 y k ∧ kvs.length < sizeLine ∧
  ∀ o, NDct P w K (upd G2 D o) D (putK kvs k z) → Nx (upd G2 D o)
/-- all turns: W is what stands ahead of each -/
def Turns (J : It) (g : TG) (tk tv : TE) (own : List Nat) (σ : L2.St) (D : Addr) (Z : Hp → Prop) (W : Nat → Nat → Hp → Prop) : Prop := ∀ i m G, W i m G →
  (J.stop i G ∧ Z G) ∨ (J.go i G ∧ ∃ Nx : Hp → Prop, (∀ G', Nx G' → ∃ m', m' < m ∧ W (i + 1) m' G') ∧
    ∀ x G', J.yld i G x G' → g x (wipe σ own) G' fun σ2 G2 => wipe σ2 own = wipe σ own ∧ tTurn P w K D tk tv Nx σ2 G2)
def tNDc (wi : TI) (g : TG) (tk tv : TE) (own : List Nat) : TE := fun σ H Q => wi σ H fun J H1 => ∀ D o, H1 D = none → NDct P w K (upd H1 D o) D [] →
  ∃ W : Nat → Nat → Hp → Prop, (∃ m, W 0 m (upd H1 D o)) ∧ Turns P w K J g tk tv own σ D (fun G => Q (.ref D) G) W
end
section
variable {X : Cx} {kx vx tg iter : Expr} {scope : Scope} {own : List (Str × Nat)} {pos : Pos} {wi : TI} {g : TG} {tk tv : TE}
abbrev Blk (X : Cx) (scope : Scope) (f : Cx → Prop) : Prop := ∀ (s : Shared) (H : Hp) (C : Addr) (cl : List (Str × Addr)) (fp : List Addr), f (X.blk s H scope (compEnvC scope cl C X.env) fp)
theorem pe_ndc (hc : X.calm = true) (hN : X.N.Nodup) (hu : X.A.units + 9 < cLine) (hi : PI X tg iter wi) (ok : BlkOk X.N X.env.scope scope own)
    (hg : Blk X scope fun Y => PG Y tg g) (hk : Blk X scope fun Y => PE Y kx tk) (he : Blk X scope fun Y => PE Y vx tv)
    (hs : ∀ x, foldedSetIterable iter X.env x = pure x := by intro _; rfl) :
    PE X (.DictComp kx vx [⟨tg, iter, [], 0⟩] scope pos) (tNDc X.prog X.w X.K wi g tk tv (own.map (·.2))) := by
  refine ⟨fun pins s σ H Q I h => ?_⟩
  rw [arm_eval_DictComp]
  have known : ∀ y ∈ scope.names, y.2 = .free → ∃ c, X.env.cells.lookup y.1 = some c := by
    intro y hy e
    rcases ok.free y hy e with z | z
    · exact I.ok.has _ (.inl z)
    · exact I.ok.has _ (.inr z)
  refine wpAny_comprehension_free (use := none) rfl hs (closure_ok known) ok.kind (fun y hy e => by rw [ok.uniq y hy, e]) ?_
  refine thn (hi.run pins s σ H _ I h) fun xv s1 hx => thn hx fun itv s2 hit => ?_
  obtain ⟨it, fp, tn, J, H2, rfl, I2, T, at2, fr2, q⟩ := hit
  refine wpAny_newObj_type (newEnv_comp ?_)
  -- the new dict
  have fresh := I2.hok.fresh (Nat.le_refl s2.heap.objs.size)
  have okD : ∀ H' : Hp, ObjOk X.prog X.w H' (s2.heap.push { cls := .type "dict", data := .dict #[] }) s2.heap.objs.size (ndO X.prog X.w [] s2.heap.objs.size) := fun H' =>
    nd_ok (beq_eq_false_iff_ne.mpr (Ne.symm (Nat.ne_of_lt I2.big))) (Nat.zero_le _)
      ⟨_, #[], 0, Heap.get?_push_size _ rfl, ⟨rfl, rfl, rfl⟩, rfl, rfl, (fun _ z => nomatch z), List.nodup_nil⟩
  have I3 : Inv X pins σ (upd H2 s2.heap.objs.size (ndO X.prog X.w [] s2.heap.objs.size)) { s2 with heap := s2.heap.push { cls := .type "dict", data := .dict #[] } } :=
    I2.laid (t' := s2.toks) (fun _ _ z => Heap.get?_push_of_some _ z) (Nat.le_refl _) (okD _)
  have gD : NDct X.prog X.w X.K (upd H2 s2.heap.objs.size (ndO X.prog X.w [] s2.heap.objs.size)) s2.heap.objs.size [] := ⟨[], upd_same, .nil⟩
  obtain ⟨W, ⟨m0, w0⟩, turns⟩ := q _ _ fresh gD
  have small : ∀ b ∈ fp, b < s2.heap.objs.size := fun b hb => by
    obtain ⟨o, e, _⟩ := T.obj _ _ at2 b hb
    exact Heap.lt_size e
  have fr3 : ∀ b ∈ fp, FpOk X pins (upd H2 s2.heap.objs.size (ndO X.prog X.w [] s2.heap.objs.size)) b ∧ b < (s2.heap.push { cls := .type "dict", data := .dict #[] }).objs.size := by
    intro b hb
    have lt := small b hb
    obtain ⟨z1, z2⟩ := fr2 b hb
    refine ⟨⟨?_, z2⟩, ?_⟩
    · rw [upd_ne (Nat.ne_of_lt lt)]
      exact z1
    · rw [Heap.size_push]
      exact Nat.lt_succ_of_lt lt
  have at3 : tn 0 (s2.heap.push { cls := .type "dict", data := .dict #[] }) := T.keep _ _ _ at2 fun b _ o e => Heap.get?_push_of_some _ e
  clear okD fresh small
  generalize s2.heap.objs.size = D at *
  generalize upd H2 D (ndO X.prog X.w [] D) = H3 at *
  generalize hs3 : ({ s2 with heap := s2.heap.push { cls := .type "dict", data := .dict #[] } } : Shared) = s3 at *
  have e3 : s2.heap.push { cls := .type "dict", data := .dict #[] } = s3.heap := by rw [← hs3]
  rw [e3] at at3 fr3
  -- the block
  have I4 := block_start I3 ok hN fr3
  have pg := hg s3 H3 s3.heap.objs.size (cellsFrom (s3.heap.objs.size + 1) scope.names (cloFrom X.env.cells scope.names [])) fp
  have pk := hk s3 H3 s3.heap.objs.size (cellsFrom (s3.heap.objs.size + 1) scope.names (cloFrom X.env.cells scope.names [])) fp
  have pv := he s3 H3 s3.heap.objs.size (cellsFrom (s3.heap.objs.size + 1) scope.names (cloFrom X.env.cells scope.names [])) fp
  show codeAny _ _ (.compStart (.DictComp kx vx [⟨tg, iter, [], 0⟩] scope pos) 0 (.ref it) (.ref D) (compEnvC scope (cellsFrom (s3.heap.objs.size + 1) scope.names (cloFrom X.env.cells scope.names [])) s3.heap.objs.size X.env)) _ _
  have none3 : ∀ b ∈ fp, H3 b = none := fun b hb => (fr3 b hb).1.1
  generalize hce : compEnvC scope (cellsFrom (s3.heap.objs.size + 1) scope.names (cloFrom X.env.cells scope.names [])) s3.heap.objs.size X.env = ce at I4 pg pk pv ⊢
  have loc : ce.locals = s3.heap.objs.size := by
    subst hce
    rfl
  generalize hs4 : ({ s3 with heap := pushCells (s3.heap.push { cls := .type "dict", data := .dict #[] }) scope.names } : Shared) = s4 at I4 ⊢
  have at4 : tn 0 s4.heap := T.keep _ _ _ at3 fun b _ o e => by
    rw [← hs4]
    exact pushCells_keeps _ _ _ _ (Heap.get?_push_of_some _ e)
  -- what holds of the places of the walk, within the block
  have places : ∀ {σ' : L2.St} {G : Hp} {s' : Shared}, Inv (X.blk s3 H3 scope ce fp) [] σ' G s' → (∀ b ∈ fp, G b = none) → ∀ b ∈ fp, FpOk (X.blk s3 H3 scope ce fp) [] G b := by
    intro σ' G s' J1 no b hb
    have z := J1.ok.exf b hb
    refine ⟨no b hb, z.1, J1.ok.exfs b hb, .inl hb, fun x c e => z.2 x c e, fun p hp => ?_⟩
    exact absurd (show p ∈ ([] : List (Addr × Obj)) ++ [] from hp) (by simp)
  suffices walk : codeAny (model X.prog X.w) X.A (.compLoop (.DictComp kx vx [⟨tg, iter, [], 0⟩] scope pos) 0 (.ref it) (.ref D) ce)
      (compPost (model X.prog X.w) X.A X.xe none (EP X pins σ Q) (.ref D) s3.heap.objs.size) s4 by
    exact codeAny_compStart_dict walk (T.self X.A 0 _ _ _ at4 walk)
  refine compLoop_anyD (fun n s' => ∃ i G, Inv (X.blk s3 H3 scope ce fp) [] (wipe σ (own.map (·.2))) G s' ∧ tn i s'.heap ∧ (∀ b ∈ fp, G b = none) ∧ W i n G)
    (fun n s5 ahead => ?_) m0 ⟨0, H3, I4, at4, none3, w0⟩
  obtain ⟨i, H5, I5, at5, none5, w5⟩ := ahead
  rcases turns i n H5 w5 with ⟨stop, fin⟩ | ⟨more, Nx, back, turn⟩
  · -- no more keys
    refine thnF (T.done (X.blk s3 H3 scope ce fp) rfl rfl rfl hc i [] s5 _ H5 (fun _ _ => False) I5 (places I5 none5) at5 stop) fun r s6 ⟨er, I6⟩ => ?_
    subst er
    have I7 : Inv X pins σ H5 s6 := by
      refine I3.call' (ch := fp) I6.os I6.base I6.hok I6.bare fun b hb => ?_
      obtain ⟨_, z1, z2, z3, z4, z5⟩ := (fr3 b hb).1
      exact ⟨z3, z1, z4, z5⟩
    have noC : H5 s3.heap.objs.size = none := by
      have z : H5 ce.locals = none := I6.free
      rwa [loc] at z
    obtain ⟨m, names, _⟩ := I6.loc
    have names' : s6.heap.Ns ce.locals m := names
    rw [loc] at names'
    obtain ⟨f0, f1, f2, f3, f4, f5⟩ := I3.fpOk (Nat.le_refl _) noC
    exact ⟨m, names', fun h2 sb => ⟨.ref D, H5, I7.turned (t' := s6.toks) (fun b o hb e => (sb.2 b hb).trans e) noC f1 f3 f4 f5, rfl, fin⟩⟩
  · -- a turn
    refine thnF (T.item (X.blk s3 H3 scope ce fp) rfl rfl rfl hc i [] s5 _ H5 (fun _ _ => False) I5 (places I5 none5) at5 more) fun r s6 ⟨u, er, h6⟩ => ?_
    subst er
    refine thnF h6 fun _ s7 ⟨x, H7, I7, rx, yld, at7, none7⟩ => ?_
    have objs7 := T.obj _ _ at7
    have pinned := I7.pinned (places I7 none7) objs7
    refine thnF (pg.run _ s7 _ H7 x u _ pinned rx (turn x H7 yld)) fun _ s8 ⟨σ8, H8, I8, hw, rest⟩ => ?_
    have no : PTs (X.blk s3 H3 scope ce fp) [] tYes := pts_nil
    refine thnF (no.run _ s8 σ8 H8 (fun b G => b = true ∧ tTurn X.prog X.w X.K D tk tv Nx σ8 G) I8 ⟨rfl, rest⟩) fun b s9 ⟨H9, I9, eb, rest⟩ => ?_
    subst eb
    simp only [if_true]
    refine thnF (pk.run _ s9 σ8 H9 _ I9 rest) fun kv s10 ⟨y, H10, I10, ry, rest⟩ => ?_
    refine thnF (pv.run _ s10 σ8 H10 _ I10 rest) fun vv s11 ⟨z, H11, I11, rz, kvs, k, g11, ky, few, put⟩ => ?_
    obtain ⟨kb, rfl⟩ := ky.ref
    obtain rfl : kv = Value.ref kb := ry
    refine set_nd (X := X.blk s3 H3 scope ce fp) hu I11 g11 ky few rz fun o s12 g12 I12 => ?_
    obtain ⟨m', less, w'⟩ := back _ (put o g12)
    have pins' : ∀ b ∈ fp, ∀ ob, s7.heap.get? b = some ob → s12.heap.get? b = some ob ∧ (upd H11 D o) b = none := fun b hb ob e => by
      have z := I12.pin (b, ob) (List.mem_append_right _ (List.mem_append_right _ (mem_pinsAt hb e)))
      exact ⟨z.1, z.2.1⟩
    have len : (wipe σ (own.map (·.2))).length = σ8.length := by
      rw [← hw, wipe_length]
    refine ⟨m', less, i + 1, _, (I12.unpinned (pins := [])).weak len (fun j v e => ?_), T.keep _ _ _ at7 (fun b hb ob e => (pins' b hb ob e).1), fun b hb => ?_, w'⟩
    · rw [← hw] at e
      exact (wipe_some e).1
    · obtain ⟨ob, e, _⟩ := objs7 b hb
      exact (pins' b hb ob e).2
end
end NDc
namespace NDc
open PySem PySem.W PySem.Spec PyProof.Rows L2 Pt ND
section
variable {P : Program} {w : World} {K : PySem.W.Frag} {J : It} {n : Nat} {G : Hp → Prop} {Y : Nat → Hp → V → Hp → Prop}
/-- such a comprehension over a walk: Pv by the turn and the heap -/
theorem ndc_it (wk : Walk J n G Y) {g : TG} {tk tv : TE} {own : List Nat} {σ : L2.St} {H1 : Hp} {D : Addr} {o : HO} {Z : Hp → Prop} (Pv : Nat → Hp → Prop) (start : Pv 0 (upd H1 D o)) (stays : ∀ i H, i ≤ n → Pv i H → G H)
    (turn : ∀ i x H H', i < n → Pv i H → Y i H x H' → g x (wipe σ own) H' fun σ2 G2 => wipe σ2 own = wipe σ own ∧ tTurn P w K D tk tv (Pv (i + 1)) σ2 G2) (after : ∀ H, Pv n H → Z H) :
    ∃ W : Nat → Nat → Hp → Prop, (∃ m, W 0 m (upd H1 D o)) ∧ Turns P w K J g tk tv own σ D Z W := by
  refine ⟨fun i m H => m + i = n ∧ Pv i H, ⟨n, Nat.add_zero n, start⟩, fun i m H ⟨e, p⟩ => ?_⟩
  have le : i ≤ n := by omega
  have gh := stays i H le p
  rcases Nat.lt_or_ge i n with lt | ge
  · exact .inr ⟨wk.goes i H lt gh, Pv (i + 1), fun G' p' => ⟨n - (i + 1), by omega, by omega, p'⟩, fun x G' y => turn i x H G' lt p (wk.yields i H x G' lt gh y)⟩
  · have ei : i = n := by omega
    rw [ei] at p ⊢
    exact .inl ⟨wk.stops H (stays n H (Nat.le_refl n) p), after H p⟩
end
end NDc

set_option Elab.async false
set_option linter.all false
set_option maxRecDepth 100000
set_option maxHeartbeats 4000000
/-! {k: v for x in .. for y in ..}, the keys of any depth. -/
namespace NDc2
open PySem PySem.W PySem.Spec PyProof.Rows L2 Pt ND NDc

abbrev Cp (kx vx t0 i0 t1 i1 : Expr) (scope : Scope) (pos : Pos) : Expr := .DictComp kx vx [⟨t0, i0, [], 0⟩, ⟨t1, i1, [], 0⟩] scope pos
theorem turn0 (kx vx t0 i0 t1 i1 : Expr) (scope : Scope) (pos : Pos) (it acc : Value) (env : Env) : compTurn (Cp kx vx t0 i0 t1 i1 scope pos) 0 it acc env = (do
    standAt i0.pos; match ← pyNext it with
    | none => pure (.done .next)
    | some v =>
      letOwnedTupleGo t0 it v; assign t0 env v
      let mut ok := true
      for c in ([] : List Expr) do
        if ok then ok ← isTrue c env (eval c env)
      if ok then
        let x ← eval i1 env; standAt i1.pos
        let x ← foldedSetIterable i1 env x; let _ ← runOwn (.compStart (Cp kx vx t0 i0 t1 i1 scope pos) 1 (← holding [x] (pyIter x)) acc env) env
      again (.compLoop (Cp kx vx t0 i0 t1 i1 scope pos) 0 it acc env)) := by rfl
theorem turn1 (kx vx t0 i0 t1 i1 : Expr) (scope : Scope) (pos : Pos) (it : Value) (D : Addr) (env : Env) : compTurn (Cp kx vx t0 i0 t1 i1 scope pos) 1 it (.ref D) env = (do
    standAt i1.pos; match ← pyNext it with
    | none => pure (.done .next)
    | some v =>
      letOwnedTupleGo t1 it v; assign t1 env v
      let mut ok := true
      for c in ([] : List Expr) do
        if ok then ok ← isTrue c env (eval c env)
      if ok then
        (do
          let kv ← eval kx env; let vv ← holding [kv] (eval vx env)
          standAt { kx.pos with endLine := vx.pos.endLine, endCol := vx.pos.endCol }; holding [kv, vv] (dictSet D kv vv))
      again (.compLoop (Cp kx vx t0 i0 t1 i1 scope pos) 1 it (.ref D) env)) := by rfl
section
variable {Pr : Program} {w : World} {A : Around} {R : Result → Shared → Prop} {s : Shared} {kx vx t0 i0 t1 i1 : Expr} {scope : Scope} {pos : Pos} {it acc : Value} {D : Addr} {env : Env}
/-- what an exception of the block would be -/
abbrev Bad (Pr : Program) (w : World) (A : Around) (env : Env) (R : Result → Shared → Prop) : Value → Shared → Prop := notedBy (model Pr w) A env fun e s' => R (.error e) s'
theorem loop0 (hs : ∀ x, foldedSetIterable i1 env x = pure x) (I : Nat → Shared → Prop)
    (turn : ∀ n s, I n s → wpAny (model Pr w) A (pyNext it) (fun r a1 => match r with
      | none => R (.ok .next) a1
      | some v => wpAny (model Pr w) A (letOwnedTupleGo t0 it v) (fun _ a2 => wpAny (model Pr w) A (assign t0 env v) (fun _ a3 => wpAny (model Pr w) A (eval i1 env) (fun x a4 => wpAny (model Pr w) A (pyIter x) (fun j a5 =>
          codeAny (model Pr w) A (.compStart (Cp kx vx t0 i0 t1 i1 scope pos) 1 j acc env) (fun r a6 => match r with | .ok _ => ∃ m, m < n ∧ I m a6 | .error _ => False) a5) (Bad Pr w A env R) a4) (Bad Pr w A env R) a3) (Bad Pr w A env R) a2) (Bad Pr w A env R) a1) (Bad Pr w A env R) s)
    (n : Nat) (h : I n s) : codeAny (model Pr w) A (.compLoop (Cp kx vx t0 i0 t1 i1 scope pos) 0 it acc env) R s := by
  refine codeAny_loop rfl I (fun n s hI => ?_) n h
  show wpAny _ A ((compTurn (Cp kx vx t0 i0 t1 i1 scope pos) 0 it acc env).onRaise (fun x => do noteFrame x env; theTreesLotGoes x)) _ _ s
  refine wpAny_noted ?_
  rw [turn0]
  refine wpAny_bind (wpAny_standAt (wpAny_bind (wpAny_mono (turn n s hI) (fun r a1 g1 => ?_) fun _ _ z => z)))
  cases r with
  | none => exact wpAny_pure g1
  | some v =>
    refine wpAny_bind (wpAny_mono g1 (fun _ a2 g2 => wpAny_bind (wpAny_mono g2 (fun _ a3 g3 => ?_) fun _ _ z => z)) fun _ _ z => z)
    refine wpAny_bind (wpAny_of_eq (a := true) rfl ?_)
    refine wpAny_bind (wpAny_mono g3 (fun x a4 g4 => wpAny_bind (wpAny_standAt (wpAny_bind (wpAny_of_eq (hs x) (wpAny_bind (wpAny_holding (wpAny_mono g4 (fun j a5 g5 => ?_) fun _ _ z => z))))))) fun _ _ z => z)
    refine wpAny_bind (wpAny_runOwn ?_)
    rw [Around.mark_none]
    refine codeAny_mono g5 fun r a6 g6 => ?_
    cases r with
    | ok f =>
      first
        | exact wpAny_pure ⟨rfl, g6⟩
        | exact wpAny_bind (wpAny_pure (wpAny_pure ⟨rfl, g6⟩))
    | error e => exact g6.elim
theorem loop1 (I : Nat → Shared → Prop)
    (turn : ∀ n s, I n s → wpAny (model Pr w) A (pyNext it) (fun r a1 => match r with
      | none => R (.ok .next) a1
      | some v => wpAny (model Pr w) A (letOwnedTupleGo t1 it v) (fun _ a2 => wpAny (model Pr w) A (assign t1 env v) (fun _ a3 => wpAny (model Pr w) A (eval kx env) (fun kv a4 => wpAny (model Pr w) A (eval vx env) (fun vv a5 =>
          wpAny (model Pr w) A (dictSet D kv vv) (fun _ a6 => ∃ m, m < n ∧ I m a6) (Bad Pr w A env R) a5) (Bad Pr w A env R) a4) (Bad Pr w A env R) a3) (Bad Pr w A env R) a2) (Bad Pr w A env R) a1) (Bad Pr w A env R) s)
    (n : Nat) (h : I n s) : codeAny (model Pr w) A (.compLoop (Cp kx vx t0 i0 t1 i1 scope pos) 1 it (.ref D) env) R s := by
  refine codeAny_loop rfl I (fun n s hI => ?_) n h
  show wpAny _ A ((compTurn (Cp kx vx t0 i0 t1 i1 scope pos) 1 it (.ref D) env).onRaise (fun x => do noteFrame x env; theTreesLotGoes x)) _ _ s
  refine wpAny_noted ?_
  rw [turn1]
  refine wpAny_bind (wpAny_standAt (wpAny_bind (wpAny_mono (turn n s hI) (fun r a1 g1 => ?_) fun _ _ z => z)))
  cases r with
  | none => exact wpAny_pure g1
  | some v =>
    refine wpAny_bind (wpAny_mono g1 (fun _ a2 g2 => wpAny_bind (wpAny_mono g2 (fun _ a3 g3 => ?_) fun _ _ z => z)) fun _ _ z => z)
    refine wpAny_bind (wpAny_of_eq (a := true) rfl ?_)
    exact wpAny_bind (wpAny_bind (wpAny_mono g3 (fun kv a4 g4 => wpAny_bind (wpAny_holding (wpAny_mono g4 (fun vv a5 g5 => wpAny_bind (wpAny_standAt (wpAny_holding (wpAny_mono g5 (fun _ a6 g6 => wpAny_pure ⟨rfl, g6⟩) fun _ _ z => z)))) fun _ _ z => z))) fun _ _ z => z))
theorem start1 (h0 : codeAny (model Pr w) A (.compLoop (Cp kx vx t0 i0 t1 i1 scope pos) 1 it acc env) R s)
    (h : wpAny (model Pr w) A (pyIter it) (fun j s' => codeAny (model Pr w) A (.compLoop (Cp kx vx t0 i0 t1 i1 scope pos) 1 j acc env) R s') (Bad Pr w A env R) s) :
    codeAny (model Pr w) A (.compStart (Cp kx vx t0 i0 t1 i1 scope pos) 1 it acc env) R s := by
  refine codeAny_of_tree ?_
  show wpAny _ _ ((compStart (Cp kx vx t0 i0 t1 i1 scope pos) 1 it acc env).onRaise (fun x => do noteFrame x env; standAt theWindowsPlace)) _ _ s
  refine wpAny_notedAt ?_
  unfold compStart; show wpAny _ _ (ask >>= _) _ _ s; refine wpAny_bind (wpAny_askSetting (wpAny_ite ?_))
  split
  · first | exact wpAny_bind (wpAny_pure (wpAny_pure (And.intro rfl h0))) | exact wpAny_pure (And.intro rfl h0)
  · first
      | exact wpAny_bind (wpAny_rule (wpAny_bind (wpAny_standAt (wpAny_bind (wpAny_mono h (fun j s' z => wpAny_pure (And.intro rfl z)) fun _ _ x => x)))))
      | (refine wpAny_bind (wpAny_rule ?_); show wpAny _ _ (standAt i1.pos >>= _) _ _ s; exact wpAny_bind (wpAny_standAt (wpAny_bind (wpAny_mono h (fun j s' z => wpAny_pure (And.intro rfl z)) fun _ _ x => x))))
end
section
variable (P : Program) (w : World) (K : PySem.W.Frag)
/-- all turns of the second walk, from which Nx is reached -/
def Turns1 (J1 : It) (g1 : TG) (tk tv : TE) (vs1 : List Nat) (σ2 : L2.St) (D : Addr) (Nx : Hp → Prop) (W1 : Nat → Nat → Hp → Prop) : Prop := ∀ j k G, W1 j k G →
  (J1.stop j G ∧ Nx G) ∨ (J1.go j G ∧ ∃ Nx1 : Hp → Prop, (∀ G', Nx1 G' → ∃ k', k' < k ∧ W1 (j + 1) k' G') ∧ ∀ y G', J1.yld j G y G' → g1 y (wipe σ2 vs1) G' fun σ3 G4 => wipe σ3 vs1 = wipe σ2 vs1 ∧ tTurn P w K D tk tv Nx1 σ3 G4)
def Turns0 (J : It) (g : TG) (wi1 : TI) (g1 : TG) (tk tv : TE) (own vs1 : List Nat) (σ : L2.St) (D : Addr) (Z : Hp → Prop) (W : Nat → Nat → Hp → Prop) : Prop := ∀ i m G, W i m G →
  (J.stop i G ∧ Z G) ∨ (J.go i G ∧ ∃ Nx : Hp → Prop, (∀ G', Nx G' → ∃ m', m' < m ∧ W (i + 1) m' G') ∧ ∀ x G', J.yld i G x G' → g x (wipe σ own) G' fun σ2 G2 => wipe σ2 own = wipe σ own ∧
    wi1 σ2 G2 fun J1 G3 => ∃ W1 : Nat → Nat → Hp → Prop, (∃ k, W1 0 k G3) ∧ Turns1 P w K J1 g1 tk tv vs1 σ2 D Nx W1)
def tNDc2 (wi : TI) (g : TG) (wi1 : TI) (g1 : TG) (tk tv : TE) (own vs1 : List Nat) : TE := fun σ H Q => wi σ H fun J H1 => ∀ D o, H1 D = none → NDct P w K (upd H1 D o) D [] →
  ∃ W : Nat → Nat → Hp → Prop, (∃ m, W 0 m (upd H1 D o)) ∧ Turns0 P w K J g wi1 g1 tk tv own vs1 σ D (fun G => Q (.ref D) G) W
end
section
variable {X : Cx} {kx vx tg iter tg1 iter1 : Expr} {scope : Scope} {own : List (Str × Nat)} {vs1 : List Nat} {pos : Pos} {wi wi1 : TI} {g g1 : TG} {tk tv : TE}
theorem core2 {pins : List (Addr × Obj)} {s : Shared} {σ : L2.St} {H : Hp} {Q : VK} {pos' : Pos} {use : Option (Value → Sem Unit)} {Qf : Value → Shared → Prop} (hc : X.calm = true) (hN : X.N.Nodup) (I : Inv X pins σ H s) (hu : X.A.units + 9 < cLine) (hi : PI X tg iter wi) (ok : BlkOk X.N X.env.scope scope own) (hv : ∀ i ∈ vs1, i ∈ own.map (·.2))
    (hg : Blk X scope fun Y => PG Y tg g) (hi1 : Blk X scope fun Y => PI Y tg1 iter1 wi1) (hg1 : Blk X scope fun Y => PG Y tg1 g1) (hk : Blk X scope fun Y => PE Y kx tk) (he : Blk X scope fun Y => PE Y vx tv)
    (hs : ∀ x, foldedSetIterable iter X.env x = pure x) (hs1 : ∀ env x, foldedSetIterable iter1 env x = pure x) (h : tNDc2 X.prog X.w X.K wi g wi1 g1 tk tv (own.map (·.2)) vs1 σ H Q)
    (hR : ∀ D C s' m G, Inv X pins σ G s' → Q (.ref D) G → s'.heap.Ns C m → FpOk X pins G C → compPost (model X.prog X.w) X.A X.xe use Qf (.ref D) C (.ok .next) s') :
    wpAny (model X.prog X.w) X.A (comprehension (Cp kx vx tg iter tg1 iter1 scope pos) scope X.env pos' newDict false (eval iter X.env) use) Qf X.xe s := by
  have known : ∀ y ∈ scope.names, y.2 = .free → ∃ c, X.env.cells.lookup y.1 = some c := by
    intro y hy e
    rcases ok.free y hy e with z | z
    · exact I.ok.has _ (.inl z)
    · exact I.ok.has _ (.inr z)
  refine wpAny_comprehension_free (use := use) rfl hs (closure_ok known) ok.kind (fun y hy e => by rw [ok.uniq y hy, e]) ?_
  refine thn (hi.run pins s σ H _ I h) fun xv s1 hx => thn hx fun itv s2 hit => ?_
  obtain ⟨it, fp, tn, J, H2, rfl, I2, T, at2, fr2, q⟩ := hit
  refine wpAny_newObj_type (newEnv_comp ?_)
  -- the new dict
  have fresh := I2.hok.fresh (Nat.le_refl s2.heap.objs.size)
  have okD : ∀ H' : Hp, ObjOk X.prog X.w H' (s2.heap.push { cls := .type "dict", data := .dict #[] }) s2.heap.objs.size (ndO X.prog X.w [] s2.heap.objs.size) := fun H' =>
    nd_ok (beq_eq_false_iff_ne.mpr (Ne.symm (Nat.ne_of_lt I2.big))) (Nat.zero_le _)
      ⟨_, #[], 0, Heap.get?_push_size _ rfl, ⟨rfl, rfl, rfl⟩, rfl, rfl, (fun _ z => nomatch z), List.nodup_nil⟩
  have I3 : Inv X pins σ (upd H2 s2.heap.objs.size (ndO X.prog X.w [] s2.heap.objs.size)) { s2 with heap := s2.heap.push { cls := .type "dict", data := .dict #[] } } :=
    I2.laid (t' := s2.toks) (fun _ _ z => Heap.get?_push_of_some _ z) (Nat.le_refl _) (okD _)
  have gD : NDct X.prog X.w X.K (upd H2 s2.heap.objs.size (ndO X.prog X.w [] s2.heap.objs.size)) s2.heap.objs.size [] := ⟨[], upd_same, .nil⟩
  obtain ⟨W, ⟨m0, w0⟩, turns⟩ := q _ _ fresh gD
  have small : ∀ b ∈ fp, b < s2.heap.objs.size := fun b hb => by
    obtain ⟨o, e, _⟩ := T.obj _ _ at2 b hb
    exact Heap.lt_size e
  have fr3 : ∀ b ∈ fp, FpOk X pins (upd H2 s2.heap.objs.size (ndO X.prog X.w [] s2.heap.objs.size)) b ∧ b < (s2.heap.push { cls := .type "dict", data := .dict #[] }).objs.size := by
    intro b hb
    have lt := small b hb
    obtain ⟨z1, z2⟩ := fr2 b hb
    refine ⟨⟨?_, z2⟩, ?_⟩
    · rw [upd_ne (Nat.ne_of_lt lt)]
      exact z1
    · rw [Heap.size_push]
      exact Nat.lt_succ_of_lt lt
  have at3 : tn 0 (s2.heap.push { cls := .type "dict", data := .dict #[] }) := T.keep _ _ _ at2 fun b _ o e => Heap.get?_push_of_some _ e
  clear okD fresh small
  generalize s2.heap.objs.size = D at *
  generalize upd H2 D (ndO X.prog X.w [] D) = H3 at *
  generalize hs3 : ({ s2 with heap := s2.heap.push { cls := .type "dict", data := .dict #[] } } : Shared) = s3 at *
  have e3 : s2.heap.push { cls := .type "dict", data := .dict #[] } = s3.heap := by rw [← hs3]
  rw [e3] at at3 fr3
  -- the block
  have I4 := block_start I3 ok hN fr3
  have pg := hg s3 H3 s3.heap.objs.size (cellsFrom (s3.heap.objs.size + 1) scope.names (cloFrom X.env.cells scope.names [])) fp
  have pk := hk s3 H3 s3.heap.objs.size (cellsFrom (s3.heap.objs.size + 1) scope.names (cloFrom X.env.cells scope.names [])) fp
  have pv := he s3 H3 s3.heap.objs.size (cellsFrom (s3.heap.objs.size + 1) scope.names (cloFrom X.env.cells scope.names [])) fp
  have pi1 := hi1 s3 H3 s3.heap.objs.size (cellsFrom (s3.heap.objs.size + 1) scope.names (cloFrom X.env.cells scope.names [])) fp
  have pg1 := hg1 s3 H3 s3.heap.objs.size (cellsFrom (s3.heap.objs.size + 1) scope.names (cloFrom X.env.cells scope.names [])) fp
  show codeAny _ _ (.compStart (Cp kx vx tg iter tg1 iter1 scope pos) 0 (.ref it) (.ref D) (compEnvC scope (cellsFrom (s3.heap.objs.size + 1) scope.names (cloFrom X.env.cells scope.names [])) s3.heap.objs.size X.env)) _ _
  have none3 : ∀ b ∈ fp, H3 b = none := fun b hb => (fr3 b hb).1.1
  generalize hce : compEnvC scope (cellsFrom (s3.heap.objs.size + 1) scope.names (cloFrom X.env.cells scope.names [])) s3.heap.objs.size X.env = ce at I4 pg pk pv pi1 pg1 ⊢
  have loc : ce.locals = s3.heap.objs.size := by
    subst hce
    rfl
  generalize hs4 : ({ s3 with heap := pushCells (s3.heap.push { cls := .type "dict", data := .dict #[] }) scope.names } : Shared) = s4 at I4 ⊢
  have at4 : tn 0 s4.heap := T.keep _ _ _ at3 fun b _ o e => by
    rw [← hs4]
    exact pushCells_keeps _ _ _ _ (Heap.get?_push_of_some _ e)
  -- what holds of the places of the walk, within the block
  have places : ∀ {σ' : L2.St} {G : Hp} {s' : Shared}, Inv (X.blk s3 H3 scope ce fp) [] σ' G s' → (∀ b ∈ fp, G b = none) → ∀ b ∈ fp, FpOk (X.blk s3 H3 scope ce fp) [] G b := by
    intro σ' G s' J1 no b hb
    have z := J1.ok.exf b hb
    refine ⟨no b hb, z.1, J1.ok.exfs b hb, .inl hb, fun x c e => z.2 x c e, fun p hp => ?_⟩
    exact absurd (show p ∈ ([] : List (Addr × Obj)) ++ [] from hp) (by simp)
  suffices walk : codeAny (model X.prog X.w) X.A (.compLoop (Cp kx vx tg iter tg1 iter1 scope pos) 0 (.ref it) (.ref D) ce) (compPost (model X.prog X.w) X.A X.xe use Qf (.ref D) s3.heap.objs.size) s4 by
    exact codeAny_compStart_dict walk (T.self X.A 0 _ _ _ at4 walk)
  refine loop0 (hs1 ce) (fun n s' => ∃ i G, Inv (X.blk s3 H3 scope ce fp) [] (wipe σ (own.map (·.2))) G s' ∧ tn i s'.heap ∧ (∀ b ∈ fp, G b = none) ∧ W i n G) (fun n s5 ahead => ?_) m0 ⟨0, H3, I4, at4, none3, w0⟩
  obtain ⟨i, H5, I5, at5, none5, w5⟩ := ahead
  rcases turns i n H5 w5 with ⟨stop, fin⟩ | ⟨more, Nx, back, turn⟩
  · refine thnF (T.done (X.blk s3 H3 scope ce fp) rfl rfl rfl hc i [] s5 _ H5 (fun _ _ => False) I5 (places I5 none5) at5 stop) fun r s6 ⟨er, I6⟩ => ?_
    subst er
    have I7 : Inv X pins σ H5 s6 := by
      refine I3.call' (ch := fp) I6.os I6.base I6.hok I6.bare fun b hb => ?_
      obtain ⟨_, z1, z2, z3, z4, z5⟩ := (fr3 b hb).1
      exact ⟨z3, z1, z4, z5⟩
    have noC : H5 s3.heap.objs.size = none := by
      have z : H5 ce.locals = none := I6.free
      rwa [loc] at z
    obtain ⟨m, names, _⟩ := I6.loc
    have names' : s6.heap.Ns ce.locals m := names
    rw [loc] at names'
    exact hR D s3.heap.objs.size s6 m H5 I7 fin names' (I3.fpOk (Nat.le_refl _) noC)
  · refine thnF (T.item (X.blk s3 H3 scope ce fp) rfl rfl rfl hc i [] s5 _ H5 (fun _ _ => False) I5 (places I5 none5) at5 more) fun r s6 ⟨u, er, h6⟩ => ?_
    subst er
    refine thnF h6 fun _ s7 ⟨x, H7, I7, rx, yld, at7, none7⟩ => ?_
    have objs7 := T.obj _ _ at7
    have pinned := I7.pinned (places I7 none7) objs7
    refine thnF (pg.run _ s7 _ H7 x u _ pinned rx (turn x H7 yld)) fun _ s8 ⟨σ8, H8, I8, hw, rest⟩ => ?_
    have len8 : (wipe σ (own.map (·.2))).length = σ8.length := by rw [← hw, wipe_length]
    -- the end of a turn, from slots that know what the block knew
    have fin : ∀ {σ9 : L2.St} {s' : Shared} {H' : Hp}, Inv (X.blk s3 H3 scope ce fp) ([] ++ pinsAt fp s7.heap) σ9 H' s' → (wipe σ (own.map (·.2))).length = σ9.length → (∀ (j : Nat) v, (wipe σ (own.map (·.2)))[j]? = some (some v) → σ9[j]? = some (some v)) → Nx H' →
        ∃ m, m < n ∧ ∃ i H', Inv (X.blk s3 H3 scope ce fp) [] (wipe σ (own.map (·.2))) H' s' ∧ tn i s'.heap ∧ (∀ b ∈ fp, H' b = none) ∧ W i m H' := by
      intro σ9 s' H' J le kn nx
      obtain ⟨m', less, w'⟩ := back H' nx
      have pins' : ∀ b ∈ fp, ∀ ob, s7.heap.get? b = some ob → s'.heap.get? b = some ob ∧ H' b = none := fun b hb ob e => by
        have z := J.pin (b, ob) (List.mem_append_right _ (List.mem_append_right _ (mem_pinsAt hb e)))
        exact ⟨z.1, z.2.1⟩
      refine ⟨m', less, i + 1, H', (J.unpinned (pins := [])).weak le kn, T.keep _ _ _ at7 (fun b hb ob e => (pins' b hb ob e).1), fun b hb => ?_, w'⟩
      obtain ⟨ob, e, _⟩ := objs7 b hb
      exact (pins' b hb ob e).2
    have kn1 : ∀ (j : Nat) v, (wipe σ (own.map (·.2)))[j]? = some (some v) → (wipe σ8 vs1)[j]? = some (some v) := fun j v e => by
      rw [← hw] at e
      obtain ⟨e1, e2⟩ := wipe_some e
      rw [wipe_out fun z => e2 (hv j z)]
      exact e1
    refine thnF (pi1.run _ s8 σ8 H8 _ I8 rest) fun xv s10 hx => thnF hx fun itv s11 h11 => ?_
    obtain ⟨it1, fp1, tn1, J1, H11, e1, I11, T1, at11, fr11, W1, ⟨k0, v0⟩, turns1⟩ := h11
    subst e1
    have places1 : ∀ {H' : Hp}, (∀ b ∈ fp1, H' b = none) → ∀ b ∈ fp1, FpOk (X.blk s3 H3 scope ce fp) ([] ++ pinsAt fp s7.heap) H' b := fun no b hb => ⟨no b hb, (fr11 b hb).2⟩
    have inner : codeAny (model X.prog X.w) X.A (.compLoop (Cp kx vx tg iter tg1 iter1 scope pos) 1 (.ref it1) (.ref D) ce) (fun r s' => match r with
        | .ok _ => ∃ m, m < n ∧ ∃ i H', Inv (X.blk s3 H3 scope ce fp) [] (wipe σ (own.map (·.2))) H' s' ∧ tn i s'.heap ∧ (∀ b ∈ fp, H' b = none) ∧ W i m H'
        | .error _ => False) s11 := by
      refine loop1 (fun k s' => ∃ j H', Inv (X.blk s3 H3 scope ce fp) ([] ++ pinsAt fp s7.heap) (wipe σ8 vs1) H' s' ∧ tn1 j s'.heap ∧ (∀ b ∈ fp1, H' b = none) ∧ W1 j k H') (fun k s12 ahead1 => ?_) k0 ⟨0, H11, I11.weak (wipe_length _ _) (fun j v e => (wipe_some e).1), at11, fun b hb => (fr11 b hb).1, v0⟩
      obtain ⟨j, H12, I12, at12, none12, v12⟩ := ahead1
      rcases turns1 j k H12 v12 with ⟨stop1, nx1⟩ | ⟨more1, Nx1, back1, step1⟩
      · refine thnF (T1.done (X.blk s3 H3 scope ce fp) rfl rfl rfl hc j _ s12 (wipe σ8 vs1) H12 (fun _ _ => False) I12 (places1 none12) at12 stop1) fun r s13 ⟨er, I13⟩ => ?_
        subst er
        exact fin I13 (len8.trans (wipe_length σ8 vs1).symm) kn1 nx1
      · refine thnF (T1.item (X.blk s3 H3 scope ce fp) rfl rfl rfl hc j _ s12 (wipe σ8 vs1) H12 (fun _ _ => False) I12 (places1 none12) at12 more1) fun r s13 ⟨u1, er, h13⟩ => ?_
        subst er
        refine thnF h13 fun _ s14 ⟨x1, H14, I14, r14, y14, at14, none14⟩ => ?_
        have objs14 := T1.obj _ _ at14
        have pinned1 := I14.pinned (places1 none14) objs14
        refine thnF (pg1.run _ s14 (wipe σ8 vs1) H14 x1 u1 _ pinned1 r14 (step1 x1 H14 y14)) fun _ s15 ⟨σ15, H15, I15, hw15, rest15⟩ => ?_
        refine thnF (pk.run _ s15 σ15 H15 _ I15 rest15) fun kv s16 ⟨y, H16, I16, ry, rest⟩ => ?_
        refine thnF (pv.run _ s16 σ15 H16 _ I16 rest) fun vv s17 ⟨z, H17, I17, rz, kvs, kk, g17, ky, few, put⟩ => ?_
        obtain ⟨kb, rfl⟩ := ky.ref
        obtain rfl : kv = Value.ref kb := ry
        refine set_nd (X := X.blk s3 H3 scope ce fp) hu I17 g17 ky few rz fun o s18 g18 I18 => ?_
        obtain ⟨k', less, w'⟩ := back1 _ (put o g18)
        have pins' : ∀ b ∈ fp1, ∀ ob, s14.heap.get? b = some ob → s18.heap.get? b = some ob ∧ (upd H17 D o) b = none := fun b hb ob e => by
          have z := I18.pin (b, ob) (List.mem_append_right _ (List.mem_append_right _ (mem_pinsAt hb e)))
          exact ⟨z.1, z.2.1⟩
        refine ⟨k', less, j + 1, _, I18.unpinned.weak (by rw [← hw15, wipe_length]) (fun j v e => by rw [← hw15] at e; exact (wipe_some e).1), T1.keep _ _ _ at14 (fun b hb ob e => (pins' b hb ob e).1), fun b hb => ?_, w'⟩
        obtain ⟨ob, e, _⟩ := objs14 b hb
        exact (pins' b hb ob e).2
    exact start1 inner (T1.self X.A 0 _ _ _ at11 inner)
theorem pe_ndc2 (hc : X.calm = true) (hN : X.N.Nodup) (hu : X.A.units + 9 < cLine) (hi : PI X tg iter wi) (ok : BlkOk X.N X.env.scope scope own) (hv : ∀ i ∈ vs1, i ∈ own.map (·.2))
    (hg : Blk X scope fun Y => PG Y tg g) (hi1 : Blk X scope fun Y => PI Y tg1 iter1 wi1) (hg1 : Blk X scope fun Y => PG Y tg1 g1) (hk : Blk X scope fun Y => PE Y kx tk) (he : Blk X scope fun Y => PE Y vx tv)
    (hs : ∀ x, foldedSetIterable iter X.env x = pure x := by intro _; rfl) (hs1 : ∀ env x, foldedSetIterable iter1 env x = pure x := by intro _ _; rfl) :
    PE X (Cp kx vx tg iter tg1 iter1 scope pos) (tNDc2 X.prog X.w X.K wi g wi1 g1 tk tv (own.map (·.2)) vs1) := by
  refine ⟨fun pins s σ H Q I h => ?_⟩
  show wpAny _ _ (eval (.DictComp kx vx [⟨tg, iter, [], 0⟩, ⟨tg1, iter1, [], 0⟩] scope pos) X.env) _ _ _
  rw [arm_eval_DictComp]
  refine core2 hc hN I hu hi ok hv hg hi1 hg1 hk he hs hs1 h fun D C s' m G J q names f => ⟨m, names, fun h2 sb => ?_⟩
  obtain ⟨f0, f1, f2, f3, f4, f5⟩ := f
  exact ⟨.ref D, G, J.turned (t' := s'.toks) (fun b o hb e => (sb.2 b hb).trans e) f0 f1 f3 f4 f5, rfl, q⟩
theorem sw_dict {kx vx : Expr} {gs : List Comprehension} {scope : Scope} {pos py : Pos} {y : Str} {l : Nat} {env : Env} (hk : env.scope.kind = .function) (hy : env.scope.names.lookup y = some .local) (hl : (py.line == pos.line) = true) (ha : (scope.names.any fun (n, k) => n == y && (k == .local || k == .cell)) = false) :
    swapsWith (.DictComp kx vx gs scope pos) (some (.Name y py)) l env = pure true := by
  have k1 : env.kindOf y = some .local := hy
  have k2 : env.blockKind = .function := by unfold Env.blockKind; rw [hk]; rfl
  unfold swapsWith; simp only [k2, k1, ha, Expr.pos, hl]; rfl
/-- what is left of y = {..} behind the comprehension -/
theorem stored {pins : List (Addr × Obj)} {σ : L2.St} {i : Nat} {y : Str} {py : Pos} {D : Ends} {L C : Addr} {s' : Shared} {m : Str → Option Value} {G : Hp} (hN : X.N.Nodup) (hy : X.N[i]? = some y) (hyl : X.env.scope.names.lookup y = some .local) (J : Inv X pins σ G s') (q : gName i (.ref L) σ G D.nx) (names : s'.heap.Ns C m) (f : FpOk X pins G C) :
    compPost (model X.prog X.w) X.A X.xe (some (assign (.Name y py) X.env)) (fun _ z => SP X pins D .next z) (.ref L) C (.ok .next) s' := by
  show wpAny _ _ (assign (.Name y py) X.env (Value.ref L)) _ _ _
  refine wpAny_assign_Name (store_ok2 (v := V.ref L) J hN hy (.inl hyl) rfl (fun z2 J2 ⟨a, sb, ha⟩ => ?_) (.inr hyl))
  obtain ⟨f0, f1, f2, f3, f4, f5⟩ := f
  have ne : C ≠ a := ha.elim (fun z => by rw [z]; exact f1) fun z e => f4 y a z e.symm
  exact ⟨m, names.sameBut sb ne, fun h3 sb3 => ⟨_, G, J2.turned (t' := z2.toks) (fun b o hb e => (sb3.2 b hb).trans e) f0 f1 f3 f4 f5, q⟩⟩
theorem ps_setNdc2 {i : Nat} {y : Str} {py spos : Pos} (hc : X.calm = true) (hN : X.N.Nodup) (hy : X.N[i]? = some y) (hyl : X.env.scope.names.lookup y = some .local) (sw : swapsWith (Cp kx vx tg iter tg1 iter1 scope pos) (some (.Name y py)) spos.line X.env = pure true) (hu : X.A.units + 9 < cLine) (hi : PI X tg iter wi) (ok : BlkOk X.N X.env.scope scope own) (hv : ∀ i ∈ vs1, i ∈ own.map (·.2))
    (hg : Blk X scope fun Y => PG Y tg g) (hi1 : Blk X scope fun Y => PI Y tg1 iter1 wi1) (hg1 : Blk X scope fun Y => PG Y tg1 g1) (hk : Blk X scope fun Y => PE Y kx tk) (he : Blk X scope fun Y => PE Y vx tv)
    (hs : ∀ x, foldedSetIterable iter X.env x = pure x := by intro _; rfl) (hs1 : ∀ env x, foldedSetIterable iter1 env x = pure x := by intro _ _; rfl) :
    PS X (.Assign [.Name y py] (Cp kx vx tg iter tg1 iter1 scope pos) spos) (tAsg (tNDc2 X.prog X.w X.K wi g wi1 g1 tk tv (own.map (·.2)) vs1) (gName i)) := by
  refine ⟨fun pins s σ H D I h => ?_⟩
  rw [exec_Assign_Name_used _ _ _ _ sw]
  refine wpAny_bind (wpAny_standAt (wpAny_bind ?_))
  show wpAny _ X.A (do let _ ← comprehension (Cp kx vx tg iter tg1 iter1 scope pos) scope X.env (firstIterPos [⟨tg, iter, [], 0⟩, ⟨tg1, iter1, [], 0⟩] pos) newDict false (eval iter X.env) (some (assign (.Name y py) X.env))) _ _ s
  have h' : tNDc2 X.prog X.w X.K wi g wi1 g1 tk tv (own.map (·.2)) vs1 σ H (fun x G => gName i x σ G D.nx) := h
  exact wpAny_bind (thn (core2 (Qf := fun _ z => SP X pins D .next z) hc hN I hu hi ok hv hg hi1 hg1 hk he hs hs1 h' fun L C s' m G J q names f => stored hN hy hyl J q names f) fun _ s' hq => wpAny_pure (wpAny_pure hq))
/-- y = {k: v for x in ..}, the keys flat -/
theorem ps_setDc {i : Nat} {y : Str} {py spos : Pos} {ifs : List Expr} {tt : TT} (hc : X.calm = true) (hN : X.N.Nodup) (hy : X.N[i]? = some y) (hyl : X.env.scope.names.lookup y = some .local) (sw : swapsWith (.DictComp kx vx [⟨tg, iter, ifs, 0⟩] scope pos) (some (.Name y py)) spos.line X.env = pure true) (hi : PI X tg iter wi) (ok : BlkOk X.N X.env.scope scope own)
    (hg : Blk X scope fun Y => PG Y tg g) (ht : Blk X scope fun Y => PTs Y ifs tt) (hk : Blk X scope fun Y => PE Y kx tk) (he : Blk X scope fun Y => PE Y vx tv) (hs : ∀ x, foldedSetIterable iter X.env x = pure x := by intro _; rfl) :
    PS X (.Assign [.Name y py] (.DictComp kx vx [⟨tg, iter, ifs, 0⟩] scope pos) spos) (tAsg (tDc wi g tt tk tv (own.map (·.2))) (gName i)) := by
  refine ⟨fun pins s σ H D I h => ?_⟩
  rw [exec_Assign_Name_used _ _ _ _ sw]
  refine wpAny_bind (wpAny_standAt (wpAny_bind ?_))
  show wpAny _ X.A (do let _ ← comprehension (.DictComp kx vx [⟨tg, iter, ifs, 0⟩] scope pos) scope X.env (firstIterPos [⟨tg, iter, ifs, 0⟩] pos) newDict false (eval iter X.env) (some (assign (.Name y py) X.env))) _ _ s
  have h' : tDc wi g tt tk tv (own.map (·.2)) σ H (fun x G => gName i x σ G D.nx) := h
  exact wpAny_bind (thn (dc_core (Qf := fun _ z => SP X pins D .next z) hc hN I hi ok hg ht hk he hs h' fun L C s' m G J q names f => stored hN hy hyl J q names f) fun _ s' hq => wpAny_pure (wpAny_pure hq))
end
section
variable {P : Program} {w : World} {K : PySem.W.Frag} {J J1 : It} {n n1 : Nat} {G G1 : Hp → Prop} {Y Y1 : Nat → Hp → V → Hp → Prop}
/-- the second walk -/
theorem inner_it (wk : Walk J1 n1 G1 Y1) {g1 : TG} {tk tv : TE} {vs1 : List Nat} {σ2 : L2.St} {H3 : Hp} {D : Addr} {Nx : Hp → Prop} (Pv : Nat → Hp → Prop) (start : Pv 0 H3) (stays : ∀ i H, i ≤ n1 → Pv i H → G1 H)
    (turn : ∀ i x H H', i < n1 → Pv i H → Y1 i H x H' → g1 x (wipe σ2 vs1) H' fun σ3 G4 => wipe σ3 vs1 = wipe σ2 vs1 ∧ tTurn P w K D tk tv (Pv (i + 1)) σ3 G4) (after : ∀ H, Pv n1 H → Nx H) :
    ∃ W1 : Nat → Nat → Hp → Prop, (∃ k, W1 0 k H3) ∧ Turns1 P w K J1 g1 tk tv vs1 σ2 D Nx W1 := by
  refine ⟨fun i m H => m + i = n1 ∧ Pv i H, ⟨n1, Nat.add_zero n1, start⟩, fun i m H ⟨e, p⟩ => ?_⟩
  have le : i ≤ n1 := by omega
  have gh := stays i H le p
  rcases Nat.lt_or_ge i n1 with lt | ge
  · exact .inr ⟨wk.goes i H lt gh, Pv (i + 1), fun G' p' => ⟨n1 - (i + 1), by omega, by omega, p'⟩, fun x G' y => turn i x H G' lt p (wk.yields i H x G' lt gh y)⟩
  · have ei : i = n1 := by omega
    rw [ei] at p ⊢
    exact .inl ⟨wk.stops H (stays n1 H (Nat.le_refl n1) p), after H p⟩
/-- the first -/
theorem outer_it (wk : Walk J n G Y) {g : TG} {wi1 : TI} {g1 : TG} {tk tv : TE} {own vs1 : List Nat} {σ : L2.St} {H1 : Hp} {D : Addr} {o : HO} {Z : Hp → Prop} (Pv : Nat → Hp → Prop) (start : Pv 0 (upd H1 D o)) (stays : ∀ i H, i ≤ n → Pv i H → G H)
    (turn : ∀ i x H H', i < n → Pv i H → Y i H x H' → g x (wipe σ own) H' fun σ2 G2 => wipe σ2 own = wipe σ own ∧ wi1 σ2 G2 fun J1 G3 => ∃ W1 : Nat → Nat → Hp → Prop, (∃ k, W1 0 k G3) ∧ Turns1 P w K J1 g1 tk tv vs1 σ2 D (Pv (i + 1)) W1) (after : ∀ H, Pv n H → Z H) :
    ∃ W : Nat → Nat → Hp → Prop, (∃ m, W 0 m (upd H1 D o)) ∧ Turns0 P w K J g wi1 g1 tk tv own vs1 σ D Z W := by
  refine ⟨fun i m H => m + i = n ∧ Pv i H, ⟨n, Nat.add_zero n, start⟩, fun i m H ⟨e, p⟩ => ?_⟩
  have le : i ≤ n := by omega
  have gh := stays i H le p
  rcases Nat.lt_or_ge i n with lt | ge
  · exact .inr ⟨wk.goes i H lt gh, Pv (i + 1), fun G' p' => ⟨n - (i + 1), by omega, by omega, p'⟩, fun x G' y => turn i x H G' lt p (wk.yields i H x G' lt gh y)⟩
  · have ei : i = n := by omega
    rw [ei] at p ⊢
    exact .inl ⟨wk.stops H (stays n H (Nat.le_refl n) p), after H p⟩
end
end NDc2

set_option Elab.async false
set_option linter.all false
set_option maxRecDepth 100000
set_option maxHeartbeats 4000000
/-! list(d) and len(d) of a dict with keys of any depth. -/
namespace ListK
open PySem PySem.W PySem.Calls PyProof.Rows PyProof.V PySem.Spec L2 Pt ND
section
variable {X : Cx}
theorem keys_rel {K : PySem.W.Frag} {H : Hp} : ∀ {kvs : List (NestedKey × V)} {xs : List (NestedKey × Addr × Value)}, KN K H kvs xs → Paired (fun (p : NestedKey × V) (u : V) => KeyAt K H u p.1) kvs (xs.map fun x => V.ref x.2.1)
  | _, _, .nil => .nil
  | _, _, .cons h t => .cons h.2.1 (keys_rel t)
theorem refs_vals : ∀ ks : List (NestedKey × Addr × Value), Vals (ks.map fun x => V.ref x.2.1) ((ks.map fun x => V.ref x.2.1).map (fun v => match v with | .ref a => Value.ref a | _ => Value.none))
  | [] => .nil
  | _ :: r => .cons rfl (refs_vals r)
/-- list(d): the keys in their order -/
def rListN (P : Program) (w : World) (K : PySem.W.Frag) : List V → Hp → VK → Prop := fun xs H Q => ∃ (d : Addr) (kvs : List (NestedKey × V)), xs = [.ref d] ∧ NDct P w K H d kvs ∧ ∀ p us, H p = none → Paired (fun (p : NestedKey × V) (u : V) => KeyAt K H u p.1) kvs us → Q (.ref p) (upd H p (.lst us))
theorem call_listN (hc : X.calm = true) : CallR X (.type "list") (rListN X.prog X.w X.K) := by
  intro pins s σ H xs us Q I r h
  obtain ⟨d, kvs, rfl, ⟨ks, e0, pr⟩, q⟩ := h
  obtain ⟨u, rfl, rx⟩ := r.one
  obtain rfl : u = Value.ref d := rx
  obtain ⟨⟨hs, z, o, es, ep, ho, hx, hdt, he, hn⟩, _⟩ := (show ObjOk X.prog X.w H s.heap d (ndO X.prog X.w ks d) from I.hok d _ e0)
  have l1 : es.size = ks.length := by
    have := congrArg List.length he
    rw [List.length_map, Array.length_toList] at this
    exact this
  refine PySem.W.kdl_call (kdl_raw hs hx hdt) (I.ok.hd hc) ho (by omega) fun h' tk acc' c' kp e it => ?_
  have ea : acc'.toList = (ks.map fun x => V.ref x.2.1).map (fun v => match v with | .ref a => Value.ref a | _ => Value.none) := by
    have hl : acc'.toList.length = ks.length := by rw [Array.length_toList, it.1]; exact l1
    refine List.ext_getElem? fun j => ?_
    rw [List.getElem?_map, List.getElem?_map]
    cases hj : acc'.toList[j]? with
    | none =>
      have h1 := List.getElem?_eq_none_iff.mp hj
      rw [List.getElem?_eq_none (by omega)]
      rfl
    | some v =>
      obtain ⟨en, hen, hv⟩ := it.2 j v (by rw [← Array.getElem?_toList]; exact hj)
      have qe : es.toList[j]? = (ks.map (entryOfKey (nestedKind X.prog X.w)))[j]? := by rw [he]
      rw [Array.getElem?_toList, hen, List.getElem?_map] at qe
      cases hb : ks[j]? with
      | none => rw [hb] at qe; exact nomatch (show some en = none from qe)
      | some b =>
        rw [hb] at qe
        have e2 : en = entryOfKey (nestedKind X.prog X.w) b := Option.some.inj qe
        rw [hv, e2]
        rfl
  have rv : Vals (ks.map fun x => V.ref x.2.1) acc'.toList := by
    rw [ea]
    exact refs_vals ks
  have hz : (ks.map fun x => V.ref x.2.1).length ≤ sizeLine := by rw [List.length_map]; exact z
  refine ⟨.ref s.heap.objs.size, _, I.laid (t' := tk) (o := .lst (ks.map fun x => V.ref x.2.1)) kp (Nat.le_refl _) ?_, rfl, q _ _ (I.hok.fresh (Nat.le_refl _)) (keys_rel pr)⟩
  exact ⟨hz, acc'.toList, c', rv, by rw [Array.toArray_toList]; exact e⟩
/-- len(d) -/
def rLenN (P : Program) (w : World) (K : PySem.W.Frag) : List V → Hp → VK → Prop := fun xs H Q => ∃ (d : Addr) (kvs : List (NestedKey × V)), xs = [.ref d] ∧ NDct P w K H d kvs ∧ Q (.int kvs.length) H
theorem call_lenN : CallR X (.builtin "len") (rLenN X.prog X.w X.K) := by
  intro pins s σ H xs us Q I r h
  obtain ⟨d, kvs, rfl, g, q⟩ := h
  obtain ⟨u, rfl, rx⟩ := r.one
  obtain rfl : u = Value.ref d := rx
  obtain ⟨hl, hs, ks, e0, pr, dd⟩ := nd_of I g
  have l2 : kvs.length = ks.length := Paired.length pr
  refine call_len_dictH hs dd (by rw [← l2]; have := sizeLine_eq; omega) ?_
  exact ⟨.int kvs.length, H, I.tok _, ⟨_, by rw [l2]⟩, q⟩
end
/-- list(xs) of a list or a tuple, in a comprehension's element -/
def rListOf (K : PySem.W.Frag) : List V → Hp → VK → Prop := fun xs H Q => ∃ p ys, xs = [.ref p] ∧ (SqL K H p ys ∨ SqT K H p ys) ∧ ∀ l, H l = none → Q (.ref l) (upd H l (.lst ys))
theorem list_of {X : Cx} (K : PySem.W.Frag) (h : X.K = K) : CallR X (.type "list") (rListOf K) := by
  subst h
  exact call_list_of
/-- x in xs, xs a list of data, in a comprehension's element -/
theorem in_of {X : Cx} (K : PySem.W.Frag) (h : X.K = K) (hu : X.A.units + 65 < cLine) : OpR X (compareOp .In) (rInD K) := by
  subst h
  exact op_inD hu
end ListK

set_option Elab.async false
set_option linter.all false
set_option maxRecDepth 100000
set_option maxHeartbeats 4000000
/-! y in d, where d may be locked by a loop over it. -/
namespace LockN
open PySem PySem.W PySem.Spec PyProof.Rows L2 Pt ND NKey
/-- the dict at a, locked or not -/
def NAny (P : Program) (w : World) (K : PySem.W.Frag) (H : Hp) (a : Addr) (kvs : List (NestedKey × V)) : Prop := NDct P w K H a kvs ∨ ∃ o, NDctF P w K H a o kvs
theorem NAny.keep {P : Program} {w : World} {K : PySem.W.Frag} {H H' : Hp} {a : Addr} {kvs : List (NestedKey × V)} (t : TK K H H') (e : H' a = H a) (h : NAny P w K H a kvs) : NAny P w K H' a kvs := by
  rcases h with ⟨xs, h1, h2⟩ | ⟨o, xs, h1, h2⟩
  · exact .inl ⟨xs, e.trans h1, KN.keep t h2⟩
  · exact .inr ⟨o, xs, e.trans h1, KN.keep t h2⟩
section
variable {X : Cx} {pins : List (Addr × Obj)} {σ : L2.St} {H : Hp} {s : Shared} {a b : Addr} {k : NestedKey} {kvs : List (NestedKey × V)} {A : Around} {E : Value → Shared → Prop}
theorem any_of (I : Inv X pins σ H s) (g : NAny X.prog X.w X.K H a kvs) : (a == sysModules) = false ∧ ∃ xs, KN X.K H kvs xs ∧ s.heap.DictOfH (nestedKind X.prog X.w) a xs := by
  rcases g with g | ⟨o, g⟩
  · obtain ⟨_, hd, xs, _, rel, dd⟩ := nd_of I g
    exact ⟨hd, xs, rel, dd⟩
  · obtain ⟨xs, _, _, rel, hd, _, _, _, _, dd⟩ := nf_of I g
    exact ⟨hd, xs, rel, dd⟩
end
def tAIn (P : Program) (w : World) (K : PySem.W.Frag) (neg : Bool) (ty td : TE) : TE := fun σ H Q => ty σ H fun y H1 => td σ H1 fun x H2 => ∃ a kvs k, x = .ref a ∧ NAny P w K H2 a kvs ∧ KeyAt K H2 y k ∧ Q (.bl (if neg then !(valV kvs k).isSome else (valV kvs k).isSome)) H2
section
variable {X : Cx} {o i : Expr} {td ty : TE}
theorem pc_ain (hu : X.A.units + 9 < cLine) (hi : PE X i ty) (ho : PE X o td) : PC X .In i o (tAIn X.prog X.w X.K false ty td) := by
  refine ⟨fun pins s σ H Q I h => ?_⟩
  refine thn (hi.run pins s σ H _ I h) fun iv s1 ⟨y, H1, I1, ry, q1⟩ => thn (ho.run pins s1 σ H1 _ I1 q1) fun u s2 ⟨x, H2, I2, rx, a, kvs, k, ex, g, ky, q2⟩ => ?_
  subst ex
  obtain rfl : u = Value.ref a := rx
  obtain ⟨b, rfl⟩ := ky.ref
  obtain rfl : iv = Value.ref b := ry
  obtain ⟨hd, xs, rel, dd⟩ := any_of I2 g
  refine wpAny_in_heap (show X.A.in1.units + 8 < cLine by rw [Around.in1_units]; omega) (key_of I2 ky) hd dd ?_
  have q := (rel.val k).isSome_eq
  rw [Option.isSome_map] at q
  rw [← q]
  exact ⟨.bl (valV kvs k).isSome, H2, I2.tok _, rfl, q2⟩
end
end LockN

set_option Elab.async false
set_option linter.all false
set_option maxRecDepth 100000
set_option maxHeartbeats 4000000
/-! A list comprehension whose element may raise by a call. -/
namespace RComp
open PySem PySem.Spec PyProof.Rows L2
section
variable {X : Cx} {pins : List (Addr × Obj)} {σ : L2.St} {H : Hp} {s : Shared}
/-- one more object is said to stay -/
theorem inv_pn {c : Addr × Obj} (I : Inv X pins σ H s) (hc : s.heap.get? c.1 = some c.2 ∧ H c.1 = none ∧ c.1 ≠ X.env.locals ∧ c.1 ∉ X.fs ∧ ∀ v, c.2.data ≠ .cell v) : Inv { X with pn := c :: X.pn } pins σ H s := by
  have o := I.ok
  refine ⟨⟨o.mod, o.kind, o.glob, o.blt, o.above, o.inj, o.has, o.cab, o.hd, o.frames, o.stk, o.exf, o.bs, o.bsz, o.noex, o.exfs, o.funs, o.frf⟩, I.os, I.bare, I.base, I.loc, I.cell, I.free, I.freeC, fun p hp => ?_, I.hok, I.len⟩
  rcases List.mem_append.mp hp with h | h
  · rcases List.mem_cons.mp h with h | h
    · rw [h]
      exact hc
    · exact I.pin p (List.mem_append_left _ h)
  · exact I.pin p (List.mem_append_right _ h)
theorem inv_pn_back {c : Addr × Obj} (I : Inv { X with pn := c :: X.pn } pins σ H s) : Inv X [] σ H s ∧ (s.heap.get? c.1 = some c.2 ∧ H c.1 = none ∧ c.1 ≠ X.env.locals ∧ c.1 ∉ X.fs) := by
  have o := I.ok
  refine ⟨⟨⟨o.mod, o.kind, o.glob, o.blt, o.above, o.inj, o.has, o.cab, o.hd, o.frames, o.stk, o.exf, o.bs, o.bsz, o.noex, o.exfs, o.funs, o.frf⟩, I.os, I.bare, I.base, I.loc, I.cell, I.free, I.freeC, fun p hp => ?_, I.hok, I.len⟩, ?_⟩
  · rw [List.append_nil] at hp
    exact I.pin p (List.mem_append_left _ (List.mem_cons_of_mem _ hp))
  · obtain ⟨h1, h2, h3, h4, _⟩ := I.pin c (List.mem_append_left _ List.mem_cons_self)
    exact ⟨h1, h2, h3, h4⟩
end
section
variable {B h : Heap} {l : List Env} {a C L : Addr} {Z : Obj → Prop}
theorem hide_none {b : Addr} (e : B.get? b = none) : (PySem.W.hideAll B [C]).get? b = none := by
  cases q : (PySem.W.hideAll B [C]).get? b with
  | none => rfl
  | some o =>
    have z := PySem.W.of_hideAll _ q
    rw [e] at z
    cases z
theorem frames_hide (f : h.FunFrames B l) : h.FunFrames (PySem.W.hideAll B [C]) l := funFrames_none f fun b hb => hide_none (f.mem hb).1
theorem traced_hide {v : Value} (t : HandSPX.TracedZ h B a Z v) : HandSPX.TracedZ h (PySem.W.hideAll B [C]) a Z v := by
  obtain ⟨oe, vs, T, oT, ts, he, hz, hd, h1, hn, r⟩ := t
  exact ⟨oe, vs, T, oT, ts, he, hz, hd, h1, hide_none hn, r⟩
theorem sky_hide (x : Sky B l a Z L h) : Sky (PySem.W.hideAll B [C]) l a Z L h := by
  rcases x with ⟨h1, h2, h3, r⟩ | ⟨h1, h2, h3, r⟩ | ⟨h1, h2, h3, r⟩
  · exact .inl ⟨fun b o e => h1 b o (PySem.W.of_hideAll _ e), hide_none h2, frames_hide h3, r⟩
  · exact .inr (.inl ⟨fun b o e => h1 b o (PySem.W.of_hideAll _ e), hide_none h2, frames_hide h3, traced_hide r⟩)
  · exact .inr (.inr ⟨fun b o e => h1 b o (PySem.W.of_hideAll _ e), hide_none h2, frames_hide h3, traced_hide r⟩)
theorem traced_but {h' : Heap} {v : Value} {m : Str → Option Value} (t : HandSPX.TracedZ h B a Z v) (hn : h.Ns C m) (hs : Heap.SameBut C h h') : HandSPX.TracedZ h' B a Z v := by
  obtain ⟨oe, vs, T, oT, ts, he, hz, hd, h1, hn0, hTe, hT, hdT, h3⟩ := t
  obtain ⟨oC, es, ep, hoC, hdC, _⟩ := hn
  have n1 : a ≠ C := fun z => by
    rw [z, hoC] at he
    cases he
    rw [hd] at hdC
    cases hdC
  have n2 : T ≠ C := fun z => by
    rw [z, hoC] at hT
    cases hT
    rw [hdT] at hdC
    cases hdC
  exact ⟨oe, vs, T, oT, ts, (hs.2 a n1).trans he, hz, hd, h1, hn0, hTe, (hs.2 T n2).trans hT, hdT, h3⟩
end
/-- an exception out of a call in the block goes on in the def's own frame -/
theorem flies {X : Cx} {W : WX} {E : XK} {pins : List (Addr × Obj)} {σ : L2.St} {H : Hp} {s s' : Shared} {ce : Env} {u : Value} {m : Str → Option Value}
    (hs : X.stack = X.env :: X.outer) (hf : X.env.frame = some X.env.locals) (hcf : ce.frame = X.env.frame) (tk : Takes X W) (hE : ∀ cls d H', E cls d H' → W cls d σ H') (I : Inv X pins σ H s) (hn : s.heap.Ns ce.locals m) (f : FpOk X pins H ce.locals)
    (c : CX X.prog X.w X.stack H s E u s') : notedBy (model X.prog X.w) X.A ce (CompFails (model X.prog X.w) X.A X.xe ce) u s' := by
  obtain ⟨f1, f2, f3, f4, f5, f6⟩ := f
  obtain ⟨oC, es, ep, hoC, hdC, hnC⟩ := id hn
  have I' := inv_pn (c := (ce.locals, oC)) I ⟨hoC, f1, f2, f3, fun v e => by rw [hdC] at e; cases e⟩
  obtain ⟨a, B, sI, pins2, σ2, H2, cls, d, rfl, I2, nb, up, sky, na, os, ag, w⟩ := XE.of_call I' hE c
  obtain ⟨I3, k1, k2, k3, k4⟩ := inv_pn_back I2
  have nF : ce.locals ∉ frs X.stack := fun z => by
    rw [hs] at z
    rcases List.mem_filterMap.mp z with ⟨e, he, q⟩
    rcases List.mem_cons.mp he with r | r
    · rw [r, hf] at q
      exact f2 (Option.some.inj q).symm
    · exact f3 (List.mem_filterMap.mpr ⟨e, r, q⟩)
  have hBC : B.get? ce.locals = some oC := nb _ _ k1 nF
  -- without the block
  have sky' : Sky (PySem.W.hideAll B [ce.locals]) X.stack a (Zc cls d) X.env.locals s'.heap := sky_hide sky
  have stB : B.StaysIn s'.heap := by
    rcases sky with ⟨h1, _⟩ | ⟨h1, _⟩ | ⟨h1, _⟩ <;> exact h1
  have hn1 : s'.heap.Ns ce.locals m := ⟨oC, es, ep, stB _ _ hBC, hdC, hnC⟩
  have I4 : Inv X [] σ2 H2 { sI with heap := PySem.W.hideAll sI.heap [ce.locals] } := I3.turned (t' := sI.toks) (fun b o ne e => PySem.W.hideAll_get _ e (by simpa using ne)) k2 f2 f4 f5 fun p hp => f6 p (by rw [List.append_nil] at hp; exact List.mem_append_left _ hp)
  have hC0 : (PySem.W.hideAll sI.heap [ce.locals]).get? ce.locals = none := PySem.W.hideAll_none _ List.mem_cons_self
  have hfr : X.A.frames = some (X.env :: X.outer) := by rw [I3.ok.frames, hs]
  rw [hs] at sky'
  -- the raise goes on
  have go : ∀ h1, HandSPX.HeldZ (PySem.W.hideAll B [ce.locals]) (X.env :: X.outer) a (Zc cls d) X.env.locals h1 → s'.heap.UpToSlots h1 → CompFails (model X.prog X.w) X.A X.xe ce (.ref a) { s' with heap := h1 } := fun h1 hh up1 => by
    have hn2 : h1.Ns ce.locals m := hn1.upToSlots up1
    refine ⟨m, hn2, fun h2 m2 hn3 sb => ?_⟩
    obtain ⟨b1, b0, fr1, t1⟩ := hh
    have b2 : (PySem.W.hideAll B [ce.locals]).StaysIn h2 := fun b o e => by
      have ne : b ≠ ce.locals := fun z => by
        rw [z, PySem.W.hideAll_none _ List.mem_cons_self] at e
        cases e
      exact (sb.2 b ne).trans (b1 b o e)
    have hh2 : HandSPX.HeldZ (PySem.W.hideAll B [ce.locals]) (X.env :: X.outer) a (Zc cls d) X.env.locals h2 := ⟨b2, b0, Heap.FunFrames.sameBut sb hn3 fr1, traced_but t1 hn2 sb⟩
    obtain ⟨oe, vs, T, oT, ts, he, hz, hd, h1', r⟩ := id hh2.2.2.2
    unfold PySem.passOn
    refine wpAny_bind (wpAny_field he hd h1' ?_)
    rw [if_neg (show ¬ ((Value.ref T == Value.none) = true) from by simp), hcf, hf]
    refine wpAny_bind (HandSPX.setFlight_onZ hh2 fun h3 hh3 up3 => ?_)
    refine wpAny_throw (tk _ _ ⟨a, PySem.W.hideAll B [ce.locals], _, [], σ2, H2, cls, d, rfl, I4, fun b o e hb => ?_, fun b o e hnf => ?_, .inr (.inr (by rw [hs]; exact hh3)), na, os, ag, w⟩)
    · have ne : b ≠ ce.locals := fun z => by
        have e : (PySem.W.hideAll sI.heap [ce.locals]).get? b = some o := e
        rw [z, hC0] at e
        cases e
      exact PySem.W.hideAll_get _ (nb b o (PySem.W.of_hideAll _ e) hb) (by simpa using ne)
    · have e : (PySem.W.hideAll sI.heap [ce.locals]).get? b = some o := e
      have ne : b ≠ ce.locals := fun z => by
        rw [z, hC0] at e
        cases e
      obtain ⟨sl, q⟩ := up b o (PySem.W.of_hideAll _ e) hnf
      obtain ⟨sl2, q2⟩ := up1 b _ q hnf
      have q3 := (sb.2 b ne).trans q2
      obtain ⟨sl3, q4⟩ := up3 b _ q3 hnf
      exact ⟨sl3, q4⟩
  show wpAny _ _ (noteFrame (.ref a) ce) _ _ s'
  rw [noteFrame_env _ hcf]
  rcases sky' with ⟨hB, hn0, hl, oe, vs, he, hz, hd, h1⟩ | fl | hh
  · exact HandSPX.look_newZ Zc.steady hfr hl hf he hB hn0 hd h1 hz go
  · exact HandSPX.looks_onZ Zc.steady hfr hf fl go
  · exact HandSPX.againZ hf hh.2.2.2 (go s'.heap hh (Heap.UpToSlots.refl _))
/-- tuple(x)'s reading, K said -/
def rTupOf (K : PySem.W.Frag) : List V → Hp → VK → Prop := fun xs H Q => ∃ p ys, xs = [V.ref p] ∧ ((SqL K H p ys ∧ ∀ l, H l = none → Q (V.ref l) (upd H l (.tup ys))) ∨ (SqT K H p ys ∧ Q (V.ref p) H))
/-- the block's context, where a raise goes on -/
abbrev blkR (X : Cx) (s : Shared) (H : Hp) (scope : Scope) (ce : Env) (fp : List Addr) (xe : Value → Shared → Prop) : Cx := { X.blk s H scope ce fp with xe := xe }
theorem inv_xe {X : Cx} {pins : List (Addr × Obj)} {σ : L2.St} {H : Hp} {s : Shared} {xe : Value → Shared → Prop} (I : Inv X pins σ H s) : Inv { X with xe := xe } pins σ H s := by
  have o := I.ok
  exact ⟨⟨o.mod, o.kind, o.glob, o.blt, o.above, o.inj, o.has, o.cab, o.hd, o.frames, o.stk, o.exf, o.bs, o.bsz, o.noex, o.exfs, o.funs, o.frf⟩, I.os, I.bare, I.base, I.loc, I.cell, I.free, I.freeC, I.pin, I.hok, I.len⟩
theorem lcR_run {pins : List (Addr × Obj)} {σ : L2.St} {H : Hp} {s : Shared} {Q : VK} {X : Cx} {W : WX} {E : XK} {elt tg iter : Expr} {ifs : List Expr} {scope : Scope} {own : List (Str × Nat)} {pos : Pos} {wi : TI} {g : TG} {tt : TT} {te : TE}
    (hs : X.stack = X.env :: X.outer) (hf : X.env.frame = some X.env.locals) (tk : Takes X W) (hE : ∀ cls d H', E cls d H' → W cls d σ H') (hc : X.calm = true) (hN : X.N.Nodup) (hi : PI X tg iter wi) (ok : BlkOk X.N X.env.scope scope own)
    (hg : ∀ (s : Shared) (H : Hp) (C : Addr) (cl : List (Str × Addr)) (fp : List Addr) (xe : Value → Shared → Prop), PG (blkR X s H scope (compEnvC scope cl C X.env) fp xe) tg g)
    (ht : ∀ (s : Shared) (H : Hp) (C : Addr) (cl : List (Str × Addr)) (fp : List Addr) (xe : Value → Shared → Prop), PTs (blkR X s H scope (compEnvC scope cl C X.env) fp xe) ifs tt)
    (he : ∀ (s : Shared) (H : Hp) (C : Addr) (cl : List (Str × Addr)) (fp : List Addr) (xe : Value → Shared → Prop), Passes (L2.CX X.prog X.w) (blkR X s H scope (compEnvC scope cl C X.env) fp xe) E → PE (blkR X s H scope (compEnvC scope cl C X.env) fp xe) elt te)
    (hfo : ∀ x, foldedSetIterable iter X.env x = pure x)
    (I : Inv X pins σ H s) (h : tLc wi g tt te (own.map (·.2)) σ H Q) : wpAny (model X.prog X.w) X.A (eval (.ListComp elt [⟨tg, iter, ifs, 0⟩] scope pos) X.env) (EP X pins σ Q) X.xe s := by
  rw [eval_ListComp]
  have hfree : ∀ y ∈ scope.names, y.2 = .free → ∃ c, X.env.cells.lookup y.1 = some c := fun y hy e => (ok.free y hy e).elim (fun k => I.ok.has _ (.inl k)) fun k => I.ok.has _ (.inr k)
  refine comprehension_at (use := none) rfl hfo (closure_ok hfree) ok.kind (fun y hy e => by rw [ok.uniq y hy, e]) (thn (hi.run pins s σ H _ I h) fun xv s1 hx => thn hx fun itv s2 h2 => ?_)
  obtain ⟨it, fp, tn, J, H2, rfl, I2, T, st2, f2, q⟩ := h2
  refine wpAny_newObj_type (newEnv_comp ?_) (by show 0 ≤ sizeLine; decide)
  have hDn : H2 s2.heap.objs.size = none := I2.hok.fresh (Nat.le_refl _)
  obtain ⟨V, ⟨m0, w0⟩, turn⟩ := q _ hDn
  generalize hD : s2.heap.objs.size = D at *
  let s3 : Shared := { s2 with heap := s2.heap.push { cls := .type "list", data := .seq ([] : List Value).toArray } }
  let H3 : Hp := upd H2 D (.lst [])
  have I3 : Inv X pins σ H3 s3 := I2.laid (t' := s2.toks) (fun b o e => Heap.get?_push_of_some _ e) (Nat.le_of_eq hD) ⟨Nat.zero_le _, [], 0, .nil, by rw [← hD]; exact Heap.get?_push_size _ rfl⟩
  have sz : ∀ b ∈ fp, b < s2.heap.objs.size := fun b hb => by
    obtain ⟨o, e, _⟩ := T.obj _ _ st2 b hb
    exact Heap.lt_size e
  have f3 : ∀ b ∈ fp, FpOk X pins H3 b ∧ b < s3.heap.objs.size := fun b hb => by
    have lt := sz b hb
    refine ⟨⟨?_, (f2 b hb).2⟩, by show b < (s2.heap.push _).objs.size; rw [Heap.size_push]; exact Nat.lt_succ_of_lt lt⟩
    show upd H2 D _ b = none
    rw [upd_ne (by rw [← hD]; exact Nat.ne_of_lt lt)]
    exact (f2 b hb).1
  let ce : Env := compEnvC scope (cellsFrom (s3.heap.objs.size + 1) scope.names (cloFrom X.env.cells scope.names [])) s3.heap.objs.size X.env
  let Y : Cx := blkR X s3 H3 scope ce fp (notedBy (model X.prog X.w) X.A ce (CompFails (model X.prog X.w) X.A X.xe ce))
  have back : ∀ {pins' : List (Addr × Obj)} {σ' : L2.St} {H' : Hp} {s' : Shared}, Inv Y pins' σ' H' s' → Inv X pins σ H' s' ∧ (∃ m, s'.heap.Ns ce.locals m) ∧ FpOk X pins H' ce.locals := fun {pins' σ' H' s'} I6 => by
    refine ⟨I3.call' (ch := fp) I6.os I6.base I6.hok I6.bare fun b hb => ⟨(f3 b hb).1.2.2.2.1, (f3 b hb).1.2.1, (f3 b hb).1.2.2.2.2.1, (f3 b hb).1.2.2.2.2.2⟩, ?_, I3.fpOk (Nat.le_refl _) I6.free⟩
    obtain ⟨m, hn, _⟩ := I6.loc
    exact ⟨m, hn⟩
  have pass : Passes (L2.CX X.prog X.w) Y E := fun pins' σ' H' s' e s'' I6 c => by
    obtain ⟨I7, ⟨m, hn⟩, fo⟩ := back I6
    exact flies hs hf rfl tk hE I7 hn fo c
  let s4 : Shared := { s3 with heap := pushCells (s3.heap.push { cls := .type "dict", data := .dict #[] }) scope.names }
  have I4 : Inv Y [] (wipe σ (own.map (·.2))) H3 s4 := inv_xe (block_start I3 ok hN f3)
  have st3 : tn 0 s3.heap := T.keep _ _ _ st2 fun b _ o e => Heap.get?_push_of_some _ e
  have st4 : tn 0 s4.heap := T.keep _ _ _ st3 fun b _ o e => pushCells_keeps _ _ _ _ (Heap.get?_push_of_some _ e)
  have stat : ∀ {σ' : L2.St} {H' : Hp} {s' : Shared}, Inv Y [] σ' H' s' → (∀ b ∈ fp, H' b = none) → ∀ b ∈ fp, FpOk Y [] H' b := fun I' hn b hb => ⟨hn b hb, (I'.ok.exf b hb).1, I'.ok.exfs b hb, .inl hb, fun x c e => (I'.ok.exf b hb).2 x c e, fun p hp => nomatch (show p ∈ ([] : List (Addr × Obj)) from hp)⟩
  have pg : PG Y tg g := hg _ _ _ _ _ _
  have pt : PTs Y ifs tt := ht _ _ _ _ _ _
  have pe : PE Y elt te := he _ _ _ _ _ _ pass
  have loop : codeAny (model X.prog X.w) X.A (.compLoop (.ListComp elt [⟨tg, iter, ifs, 0⟩] scope pos) 0 (.ref it) (.ref D) ce) (compEnds (model X.prog X.w) X.A X.xe none (EP X pins σ Q) (.ref D) ce) s4 := by
    refine compLoop_any (fun n s' => ∃ i H', Inv Y [] (wipe σ (own.map (·.2))) H' s' ∧ tn i s'.heap ∧ (∀ b ∈ fp, H' b = none) ∧ V i n H') (fun n s5 ⟨i, H5, I5, st5, n5, w5⟩ => ?_) m0 ⟨0, H3, I4, st4, fun b hb => (f3 b hb).1.1, w0⟩
    rcases turn i n H5 w5 with ⟨stop, qq⟩ | ⟨go, Nx, hNx, step⟩
    · refine thnF (T.done Y rfl rfl rfl hc i [] s5 _ H5 (fun _ _ => False) I5 (stat I5 n5) st5 stop) fun r s6 ⟨hr, I6⟩ => ?_
      subst hr
      obtain ⟨I7, ⟨m, hn⟩, p0, p1, p2, p3, p4, p5⟩ := back I6
      exact ⟨m, hn, fun h'' sb => ⟨.ref D, H5, I7.turned (t' := s6.toks) (fun b o hb e => (sb.2 b hb).trans e) p0 p1 p3 p4 p5, rfl, qq⟩⟩
    · refine thnF (T.item Y rfl rfl rfl hc i [] s5 _ H5 (fun _ _ => False) I5 (stat I5 n5) st5 go) fun r s6 ⟨u, hr, h6⟩ => ?_
      subst hr
      refine thnF h6 fun _ s7 ⟨x, H7, I7, r7, y7, st7, n7⟩ => ?_
      have P7 := I7.pinned (stat I7 n7) (T.obj _ _ st7)
      refine thn (pg.run _ s7 _ H7 x u _ P7 r7 (step x H7 y7)) fun _ s8 ⟨σ8, H8, I8, hw, q8⟩ => ?_
      refine thn (pt.run _ s8 σ8 H8 _ I8 q8) fun b s9 ⟨H9, I9, q9⟩ => ?_
      have next : ∀ {s' : Shared} {H' : Hp}, Inv Y ([] ++ pinsAt fp s7.heap) σ8 H' s' → Nx H' → ∃ m, m < n ∧ ∃ i H', Inv Y [] (wipe σ (own.map (·.2))) H' s' ∧ tn i s'.heap ∧ (∀ b ∈ fp, H' b = none) ∧ V i m H' := fun {s' H'} J nx => by
        obtain ⟨m', hm, v'⟩ := hNx H' nx
        have at_ : ∀ b ∈ fp, ∀ o, s7.heap.get? b = some o → s'.heap.get? b = some o ∧ H' b = none := fun b hb o e => by
          obtain ⟨k1, k2, _⟩ := J.pin (b, o) (List.mem_append_right _ (List.mem_append_right _ (mem_pinsAt hb e)))
          exact ⟨k1, k2⟩
        refine ⟨m', hm, i + 1, H', (J.unpinned (pins := [])).weak (by rw [← hw, wipe_length]) (fun j v e => ?_), T.keep _ _ _ st7 fun b hb o e => (at_ b hb o e).1, fun b hb => ?_, v'⟩
        · rw [← hw] at e
          exact (wipe_some e).1
        · obtain ⟨o, e, _⟩ := T.obj _ _ st7 b hb
          exact (at_ b hb o e).2
      cases b with
      | false => exact next I9 q9
      | true =>
        refine thn (pe.run _ s9 σ8 H9 _ I9 q9) fun z s10 ⟨y, H10, I10, r10, acc, hD10, hz10, nx⟩ => ?_
        exact app_ok (X := Y) I10 hD10 hz10 r10 fun s11 I11 => next I11 nx
  exact codeAny_compStart_list loop (T.self X.A 0 _ _ _ st4 loop)
theorem pe_lcR {X : Cx} {W : WX} {E : XK} {elt tg iter : Expr} {ifs : List Expr} {scope : Scope} {own : List (Str × Nat)} {pos : Pos} {wi : TI} {g : TG} {tt : TT} {te : TE}
    (hs : X.stack = X.env :: X.outer) (hf : X.env.frame = some X.env.locals) (tk : Takes X W) (hE : ∀ σ cls d H', E cls d H' → W cls d σ H') (hc : X.calm = true) (hN : X.N.Nodup) (hi : PI X tg iter wi) (ok : BlkOk X.N X.env.scope scope own)
    (hg : ∀ (s : Shared) (H : Hp) (C : Addr) (cl : List (Str × Addr)) (fp : List Addr) (xe : Value → Shared → Prop), PG (blkR X s H scope (compEnvC scope cl C X.env) fp xe) tg g)
    (ht : ∀ (s : Shared) (H : Hp) (C : Addr) (cl : List (Str × Addr)) (fp : List Addr) (xe : Value → Shared → Prop), PTs (blkR X s H scope (compEnvC scope cl C X.env) fp xe) ifs tt)
    (he : ∀ (s : Shared) (H : Hp) (C : Addr) (cl : List (Str × Addr)) (fp : List Addr) (xe : Value → Shared → Prop), Passes (L2.CX X.prog X.w) (blkR X s H scope (compEnvC scope cl C X.env) fp xe) E → PE (blkR X s H scope (compEnvC scope cl C X.env) fp xe) elt te)
    (hfo : ∀ x, foldedSetIterable iter X.env x = pure x := by intro _; rfl) :
    PE X (.ListComp elt [⟨tg, iter, ifs, 0⟩] scope pos) (tLc wi g tt te (own.map (·.2))) := ⟨fun pins s σ H Q I h => lcR_run hs hf tk (hE σ) hc hN hi ok hg ht he hfo I h⟩
/-- the same where what a raise is to meet hangs on the slots (within a try) -/
theorem pe_lcRS {X : Cx} {W : WX} {elt tg iter : Expr} {ifs : List Expr} {scope : Scope} {own : List (Str × Nat)} {pos : Pos} {wi : TI} {g : TG} {tt : TT} {te : XK → TE}
    (hs : X.stack = X.env :: X.outer) (hf : X.env.frame = some X.env.locals) (tk : Takes X W) (hc : X.calm = true) (hN : X.N.Nodup) (hi : PI X tg iter wi) (ok : BlkOk X.N X.env.scope scope own)
    (hg : ∀ (s : Shared) (H : Hp) (C : Addr) (cl : List (Str × Addr)) (fp : List Addr) (xe : Value → Shared → Prop), PG (blkR X s H scope (compEnvC scope cl C X.env) fp xe) tg g)
    (ht : ∀ (s : Shared) (H : Hp) (C : Addr) (cl : List (Str × Addr)) (fp : List Addr) (xe : Value → Shared → Prop), PTs (blkR X s H scope (compEnvC scope cl C X.env) fp xe) ifs tt)
    (he : ∀ (E : XK) (s : Shared) (H : Hp) (C : Addr) (cl : List (Str × Addr)) (fp : List Addr) (xe : Value → Shared → Prop), Passes (L2.CX X.prog X.w) (blkR X s H scope (compEnvC scope cl C X.env) fp xe) E → PE (blkR X s H scope (compEnvC scope cl C X.env) fp xe) elt (te E))
    (hfo : ∀ x, foldedSetIterable iter X.env x = pure x := by intro _; rfl) :
    PE X (.ListComp elt [⟨tg, iter, ifs, 0⟩] scope pos) (fun σ H Q => tLc wi g tt (te (WE W σ)) (own.map (·.2)) σ H Q) := ⟨fun pins s σ H Q I h => lcR_run hs hf tk (fun _ _ _ h => h) hc hN hi ok hg ht (he _) hfo I h⟩
end RComp

set_option Elab.async false
set_option linter.all false
set_option maxRecDepth 100000
set_option maxHeartbeats 4000000
/-! sum(t), t a tuple of ints -/
namespace SumT
open PySem PySem.W PySem.Calls PyProof.Rows PyProof.V PySem.Spec L2
section
variable {X : Cx}
def rSumT (K : PySem.W.Frag) : List V → Hp → VK → Prop := fun vs H Q => ∃ (a : Addr) (ns : List Int), vs = [V.ref a] ∧ SqT K H a (ns.map V.int) ∧ Q (.int ns.sum) H
theorem cr_sumT (hc : X.calm = true) : CallR X (.builtin "sum") (rSumT X.K) := by
  intro pins s σ H vs us Q I r h
  obtain ⟨a, ns, rfl, hs, q⟩ := h
  obtain ⟨its, rv, pl, hz⟩ := I.tuple hs
  rw [Vals.ref1 r]
  obtain ⟨xs, e⟩ := rv.ints.allInts.items
  have hn : numsOf (intItems xs).toList = ns := by rw [← e]; exact rv.ints.numsOf
  rw [nums_intItems] at hn
  rw [e] at pl
  refine ktm_sumG (I.ok.hd hc) pl fun h' tk t' hk => ⟨.int _, H, I.kept hk, ⟨_, by rw [preSum_eq, List.take_of_length_le (by simp), hn]⟩, q⟩
end
end SumT

set_option Elab.async false
set_option linter.all false
set_option maxRecDepth 100000
set_option maxHeartbeats 4000000
/-! Rules whose readings name K, for the inside of comprehensions. -/
namespace Nst
open PySem PySem.Spec PyProof.Rows L2
def rLen (K : PySem.W.Frag) : List V → Hp → VK → Prop := fun xs H Q => ∃ p ys, xs = [V.ref p] ∧ (SqL K H p ys ∨ SqT K H p ys) ∧ Q (.int ys.length) H
theorem len_seq {X : Cx} (K : PySem.W.Frag) (h : X.K = K) : CallR X (.builtin "len") (rLen K) := by
  subst h
  exact call_len_seq
def rTupOf (K : PySem.W.Frag) : List V → Hp → VK → Prop := fun xs H Q => ∃ p ys, xs = [.ref p] ∧ ((SqL K H p ys ∧ ∀ l, H l = none → Q (.ref l) (upd H l (.tup ys))) ∨ (SqT K H p ys ∧ Q (.ref p) H))
theorem tuple_of {X : Cx} (K : PySem.W.Frag) (h : X.K = K) : CallR X (.type "tuple") (rTupOf K) := by
  subst h
  exact call_tuple_of
theorem at_item {xs : List V} {i : Int} (h0 : 0 ≤ i) (h1 : i < (xs.length : Int)) : ∃ y, xs[i.toNat]? = some y ∧ atI xs i = some y := by
  obtain ⟨j, rfl⟩ := Int.eq_ofNat_of_zero_le h0
  have h2 : j < xs.length := by omega
  exact ⟨xs[j], by rw [Int.toNat_natCast]; exact List.getElem?_eq_getElem h2, atI_nat (List.getElem?_eq_getElem h2)⟩
/-- tuple + tuple, whatever they hold -/
theorem cat_sq {K : PySem.W.Frag} {H : Hp} {a b : Addr} {xs ys : List V} {Q : VK} (ha : SqT K H a xs) (hb : SqT K H b ys) (hl : xs.length + ys.length ≤ 100000) (h : ∀ (r : Addr) (H' : Hp), Same H H' → SqT K H' r (xs ++ ys) → Q (.ref r) H') : rCatA K (.ref a) (.ref b) H Q := by
  refine ⟨a, b, xs, ys, rfl, rfl, ha, hb, Cm.small hl, fun e => ?_, fun _ e => ?_, fun _ _ p np => ?_⟩
  · subst e
    exact h b H (Same.refl H) hb
  · subst e
    exact h a H (Same.refl H) (by rw [List.append_nil]; exact ha)
  · exact h p _ (Cm.same_new np) Cm.sqt_new
theorem shaped_of {d : PyData} (h1 : d.canLay0 = true) (h2 : d.depth ≤ 64) : SeqAt.shaped d = true := by
  show (d.canLay0 && decide (d.depth ≤ 64)) = true
  rw [Bool.and_eq_true]
  exact ⟨h1, decide_eq_true h2⟩
theorem eqv_self {d : PyData} (h : SeqAt.shaped d = true) : PyData.eqv d d = true := SeqAt.eqv_refl _ (SeqAt.canLay_of_shaped h)
/-- a tuple of a text and two numbers -/
theorem shaped_w2 {x : Str} (h : PyData.strOk x = true) (i j : Int) : SeqAt.shaped (.tuple [.str x, .int i, .int j]) = true :=
  shaped_of (by simp [PyData.canLay0, PyData.canLayAll0, h]) (by simp [PyData.depth, PyData.depthAll])
end Nst

set_option Elab.async false
set_option linter.all false
set_option maxRecDepth 100000
set_option maxHeartbeats 4000000
/-! Calls of methods that may raise: within a try (pe_methT), and where it is known that nothing is raised (passF). -/
namespace MethT
open PySem PySem.Spec PyProof.Rows L2
theorem passF {X : Cx} : Passes (L2.CX X.prog X.w) X E0 := fun _ _ _ _ _ _ _ h => by
  obtain ⟨_, _, _, _, _, _, _, _, _, _, _, _, e⟩ := h
  exact e.elim
section
variable {X : Cx} {CX : CXT} {k : Nat} {f C : Addr} {fd : FuncData} {ps : List Str} {sp : Sp} {E : L2.St → XK} {x m : Str} {p pos apos : Pos} {e o : Expr} {es : List Expr} {ta : TE} {t : TA}
def tMethT (C : Addr) (m : Str) (sp : Sp) (E : L2.St → XK) (ta : TE) (t : TA) : TE := fun σ H Q => ta σ H fun x H1 => ∃ a dx fs, x = .ref a ∧ H1 a = some (.ins C dx fs) ∧ fs.lookup m = none ∧ t σ H1 fun vs H2 => sp (x :: vs) H2 Q (E σ)
theorem pe_methT {pl : Sem Bool} (he : PE X o ta) (c : Cls X.K C) (hm : Meth X.K C m f) (F : FnOk X.prog X.w X.K X.mg X.base CX k f fd ps sp) (hr : Room k X.A) (hb : Binds X.K fd ps []) (hx : ∀ σ, PassesAt CX X σ (E σ)) (ha : PA X (e :: es) t)
    (hst : starEach (e :: es) X.env = (false, eval e X.env) :: starEach es X.env := by rfl) (hpl : (backTo pos (starEach es X.env)).any (·.1) = false := by rfl)
    (ht : eval (.Call (.Attribute o m apos) (e :: es) [] pos) X.env = (do
      let ov ← eval o X.env
      standAt apos.atName
      let (f, first) ← holding [ov] (getMethod ov m pl)
      callWith pos f first (backTo pos (starEach (e :: es) X.env)) (backToKw pos (keywordEach [] X.env))) := by rfl) :
    PE X (.Call (.Attribute o m apos) (e :: es) [] pos) (tMethT C m sp E ta t) := by
  refine ⟨fun pins s σ H Q I h => ?_⟩
  refine PySem.W.methodCall_KW (pl := pl) (thn (he.run pins s σ H _ I h) fun u s1 ⟨x, H1, I1, rx, a, dx, fs, ex, ea, l, q⟩ => ?_) ht
  subst ex
  obtain rfl : u = Value.ref a := rx
  refine getmeth_ok I1 ea c hm l ?_
  refine PySem.W.callWith_K (first := [.ref a]) (h₀ := X.base) I.ok.mod.kin hm.kp (thn (ha.run pos pins s1 σ H1 _ I1 q) fun us s2 ⟨vs, H2, I2, r, q2⟩ => ⟨I2.kIn, ?_⟩) hst hpl
  exact run_fnS (us := .ref a :: us) (vs := .ref a :: vs) F hr hb (hx σ) I2 (.cons rfl r) q2
theorem pe_methT0 {pl : Sem Bool} (he : PE X o ta) (c : Cls X.K C) (hm : Meth X.K C m f) (F : FnOk X.prog X.w X.K X.mg X.base CX k f fd ps sp) (hr : Room k X.A) (hb : Binds X.K fd ps []) (hx : ∀ σ, PassesAt CX X σ (E σ))
    (ht : eval (.Call (.Attribute o m apos) [] [] pos) X.env = (do
      let ov ← eval o X.env
      standAt apos.atName
      let (f, first) ← holding [ov] (getMethod ov m pl)
      callWith pos f first (backTo pos (starEach [] X.env)) (backToKw pos (keywordEach [] X.env))) := by rfl) :
    PE X (.Call (.Attribute o m apos) [] [] pos) (tMethT C m sp E ta tNil) := by
  refine ⟨fun pins s σ H Q I h => ?_⟩
  refine PySem.W.methodCall_KW (pl := pl) (thn (he.run pins s σ H _ I h) fun u s1 ⟨x, H1, I1, rx, a, dx, fs, ex, ea, l, q⟩ => ?_) ht
  subst ex
  obtain rfl : u = Value.ref a := rx
  refine getmeth_ok I1 ea c hm l ?_
  exact PySem.W.callWith_K0 (first := [.ref a]) I1.kIn hm.kp (run_fnS (us := [.ref a]) (vs := [.ref a]) F hr hb (hx σ) I1 (.cons rfl .nil) q)
end
end MethT

set_option Elab.async false
set_option linter.all false
set_option maxRecDepth 100000
set_option maxHeartbeats 4000000
/-! sorted(xs), sorted(d): items that are data, nested tuples; what comes out is the merge sort of the data. -/
namespace SortN
open PySem PySem.W PySem.Calls PyProof.Rows PyProof.V PySem.Spec L2 Pt ND

/-- the order of data -/
abbrev dle : PyData → PyData → Bool := dataLe false id
abbrev srt (ds : List PyData) : List PyData := ds.mergeSort dle
section
variable {X : Cx} {pins : List (Addr × Obj)} {σ : L2.St} {H : Hp} {s : Shared}
theorem each_reads (I : Inv X pins σ H s) : ∀ {xs : List V} {ds : List PyData} {us : List Value}, Rps X.K H xs ds → Vals xs us → EachIs (fun v d => ∃ as, Reads s.heap v d as) us ds
  | _, _, _, .nil, .nil => .nil
  | _, _, _, .cons h t, .cons h' t' => .cons (Dp.reads I _ _ _ h.dp h') (each_reads I t t')
theorem each_both {K : PySem.W.Frag} : ∀ {xs : List V} {ds : List PyData} {us : List Value}, Rps K H xs ds → Vals xs us → EachIs (fun v (b : V × PyData) => RelV b.1 v ∧ Rp K H b.1 b.2) us (xs.zip ds)
  | _, _, _, .nil, .nil => .nil
  | _, _, _, .cons h t, .cons h' t' => .cons ⟨h', h⟩ (each_both t t')
theorem each_snd {R : Value → PyData → Prop} : ∀ {xs : List V} {ds : List PyData} {us : List Value}, xs.length = ds.length → EachIs R us ds → EachIs (fun v (b : V × PyData) => R v b.2) us (xs.zip ds)
  | [], [], _, _, .nil => .nil
  | x :: xs, d :: ds, _, hl, .cons h t => .cons h (each_snd (Nat.succ.inj hl) t)
theorem out_of {K : PySem.W.Frag} : ∀ {bs : List (V × PyData)} {out : List Value}, EachIs (fun v (b : V × PyData) => RelV b.1 v ∧ Rp K H b.1 b.2) out bs → Vals (bs.map (·.1)) out ∧ Rps K H (bs.map (·.1)) (bs.map (·.2))
  | _, _, .nil => ⟨.nil, .nil⟩
  | _, _, .cons h t => ⟨.cons h.1 (out_of t).1, .cons h.2 (out_of t).2⟩
theorem zip_snd : ∀ {xs : List V} {ds : List PyData}, xs.length = ds.length → (xs.zip ds).map (·.2) = ds
  | [], [], _ => rfl
  | x :: xs, d :: ds, hl => congrArg (d :: ·) (zip_snd (Nat.succ.inj hl))
/-- what the sort gives -/
theorem sorted_out {K : PySem.W.Frag} {h : Heap} {xs : List V} {ds : List PyData} {us : List Value} (hal : AllAlike ds) (r : Rps K H xs ds) (rv : Vals xs us) (e : EachIs (fun v d => ∃ as, Reads h v d as) us ds) :
    ∃ ys, Vals ys (sortVals (dataKind h ds) false us us) ∧ Rps K H ys (srt ds) ∧ ys.length = xs.length := by
  have hl := r.len
  have e3 := sortVals_each (κ := dataKind h ds) (rev := false) (k := fun b : V × PyData => keyToks b.2) (each_both r rv) (each_snd hl (each_keys hal e))
  obtain ⟨v1, r1⟩ := out_of e3
  refine ⟨_, v1, ?_, ?_⟩
  · have em : ((xs.zip ds).mergeSort (sortLe (dataKind h ds).toKeyOrd false fun b : V × PyData => keyToks b.2)).map (·.2) = srt ds := by
      have q := sort_maps (r := sortLe (dataKind h ds).toKeyOrd false fun b : V × PyData => keyToks b.2) (s := dle) (fun b : V × PyData => b.2) (l := xs.zip ds) (fun a _ b _ => rfl)
      rw [q, zip_snd hl]
    rw [← em]
    exact r1
  · rw [List.length_map, List.length_mergeSort, List.length_zip, hl, Nat.min_self]
end
section
variable {X : Cx}
/-- sorted(xs) of a list -/
def rSortL (K : PySem.W.Frag) : List V → Hp → VK → Prop := fun vs H Q => ∃ (a : Addr) (xs : List V) (ds : List PyData), vs = [.ref a] ∧ SqL K H a xs ∧ Rps K H xs ds ∧ AllAlike ds ∧ Sortable ds ∧ (∀ d ∈ ds, d.depth ≤ 50) ∧
  ∀ (ys : List V) (p : Addr), Rps K H ys (srt ds) → H p = none → Q (.ref p) (upd H p (.lst ys))
theorem call_sortL (hc : X.calm = true) (hu : X.A.units + 64 < cLine) : CallR X (.builtin "sorted") (rSortL X.K) := by
  intro pins s σ H vs us Q I r q
  obtain ⟨a, xs, ds, rfl, hl, hr, hal, hk, hdp, q⟩ := q
  rw [Vals.ref1 r]
  obtain ⟨its, rv, pl, hz⟩ := I.list hl
  have hzi : its.length ≤ sizeLine := by rw [← rv.length]; exact hz
  have I1 : Inv X pins σ H { s with heap := sortingHeap (copyHeap s.heap its) (s.heap.objs.size + 1) its, toks := s.toks } := I.kept fun b o e => sorting_copy_old e
  have ea : EachIs (fun v d => ∃ as, Reads (sortingHeap (copyHeap s.heap its) (s.heap.objs.size + 1) its) v d as) its ds := each_reads I1 hr rv
  refine sorted_vals (κ := dataKind (sortingHeap (copyHeap s.heap its) (s.heap.objs.size + 1) its) ds) pl.isList (SortsAt.data (s := { s with heap := sortingHeap (copyHeap s.heap its) (s.heap.objs.size + 1) its }) ea hal hk fun d hd => ?_) hzi ?_
  · have := hdp d hd
    simp only [Around.in1_units]
    omega
  · obtain ⟨ys, v1, r1, l1⟩ := sorted_out (K := X.K) hal hr rv ea
    obtain ⟨e', he'⟩ := sortedAll_at s.heap its (sortVals (dataKind (sortingHeap (copyHeap s.heap its) (s.heap.objs.size + 1) its) ds) false its its).toArray
    refine ⟨.ref (s.heap.objs.size + 1), upd H (s.heap.objs.size + 1) (.lst ys), I.laid (t' := s.toks) (fun b u e => sortedAll_old e) (Nat.le_succ _) ?_, rfl, q ys _ r1 (I.hok.fresh (Nat.le_succ _))⟩
    exact ⟨by rw [l1]; exact hz, _, e', v1, he'⟩
/-- sorted(t) of a tuple -/
def rSortTup (K : PySem.W.Frag) : List V → Hp → VK → Prop := fun vs H Q => ∃ (a : Addr) (xs : List V) (ds : List PyData), vs = [.ref a] ∧ SqT K H a xs ∧ Rps K H xs ds ∧ AllAlike ds ∧ Sortable ds ∧ (∀ d ∈ ds, d.depth ≤ 50) ∧
  ∀ (ys : List V) (p : Addr), Rps K H ys (srt ds) → H p = none → Q (.ref p) (upd H p (.lst ys))
theorem call_sortTup (hc : X.calm = true) (hu : X.A.units + 64 < cLine) : CallR X (.builtin "sorted") (rSortTup X.K) := by
  intro pins s σ H vs us Q I r q
  obtain ⟨a, xs, ds, rfl, hl, hr, hal, hk, hdp, q⟩ := q
  rw [Vals.ref1 r]
  obtain ⟨its, rv, ⟨o, ho, hcl, n, hd⟩, hz⟩ := I.tuple hl
  have hzi : its.length ≤ sizeLine := by rw [← rv.length]; exact hz
  refine Calls.call_function_entry PyProof.Rows.kind_sorted PyProof.Rows.plain_sorted PyProof.Rows.entry_sorted (PyProof.Rows.args_sorted1 _) ?_
  unfold Builtin.«sorted»
  refine wpAny_bind (m := checkCount "sorted" 1 1 _) (wpAny_pure ?_)
  refine wpAny_bind (wpAny_collect_seq a (.inr rfl) ho hcl hd (fun h' hkp => ?_) (by rw [List.size_toArray]; exact hzi))
  have I1 : Inv X pins σ H { s with heap := h' } := I.kept (t' := s.toks) hkp
  rw [show its.toArray.toList = its from rfl]
  refine wpAny_bind (wpAny_newList ?_ hzi)
  have hoL : (h'.push (seqObj "list" its.toArray 0)).get? h'.objs.size = some (seqObj "list" its.toArray 0) := Heap.get?_push_size _ rfl
  show wpAny _ _ _ _ _ { s with heap := h'.push (seqObj "list" its.toArray 0) }
  have old : ∀ b u, h'.get? b = some u → (sortingHeap (h'.push (seqObj "list" its.toArray 0)) h'.objs.size its).get? b = some u := fun b u q1 =>
    sortingHeap_old (Nat.ne_of_lt (Heap.lt_size q1)) (Heap.get?_push_of_some _ q1)
  have I2 : Inv X pins σ H { s with heap := sortingHeap (h'.push (seqObj "list" its.toArray 0)) h'.objs.size its } := I1.kept (t' := s.toks) old
  have ea := each_reads I2 hr rv
  refine wpAny_bind (wpAny_holding (wpAny_call_entry PyProof.Rows.slot_list_sort ⟨_, hoL, rfl⟩ PyProof.Rows.entry_list_sort
    (list_sort_vals (κ := dataKind (sortingHeap (h'.push (seqObj "list" its.toArray 0)) h'.objs.size its) ds) (s := { s with heap := h'.push (seqObj "list" its.toArray 0) }) hoL
      (SortsAt.data (s := { s with heap := sortingHeap (h'.push (seqObj "list" its.toArray 0)) h'.objs.size its }) ea hal hk fun d hd => ?_) hzi ⟨_, rfl, ?_⟩) (PyProof.Rows.args_list_sort _)))
  · have := hdp d hd
    simp only [Around.in1_units]
    omega
  · obtain ⟨ys, v1, r1, l1⟩ := sorted_out (K := X.K) hal hr rv ea
    obtain ⟨e', he'⟩ := PyProof.Rows.sortedHeap_at (vs := its) (out := (sortVals (dataKind (sortingHeap (h'.push (seqObj "list" its.toArray 0)) h'.objs.size its) ds) false its its).toArray) hoL
    refine wpAny_pure ⟨_, rfl, .ref h'.objs.size, upd H h'.objs.size (.lst ys), I1.laid (t' := s.toks) (fun b u e => ?_) (Nat.le_refl _)
      (show ObjOk X.prog X.w _ _ _ (.lst ys) from ⟨by rw [l1]; exact hz, _, e', v1, he'⟩), rfl, q ys _ r1 (I1.hok.fresh (Nat.le_refl _))⟩
    have hb : b < h'.objs.size := Heap.lt_size e
    rw [PyProof.Rows.sortedHeap_old (Nat.ne_of_lt hb) (by rw [size_push']; exact Nat.lt_succ_of_lt hb)]
    exact Heap.get?_push_of_some _ e
theorem vals_keys {K : PySem.W.Frag} {H : Hp} {w : World} {P : Program} : ∀ {kvs : List (NestedKey × V)} {xs : List (NestedKey × Addr × Value)}, KN K H kvs xs → Rps K H (xs.map fun x => V.ref x.2.1) (kvs.map (·.1.data))
  | _, _, .nil => .nil
  | _, _, .cons h t => .cons h.2.1.1 (vals_keys (w := w) (P := P) t)
theorem vals_refs : ∀ xs : List (NestedKey × Addr × Value), Vals (xs.map fun x => V.ref x.2.1) (xs.map fun x => Value.ref x.2.1)
  | [] => .nil
  | _ :: xs => .cons rfl (vals_refs xs)
/-- sorted(d) of a dict with keys of any depth -/
def rSortD (P : Program) (w : World) (K : PySem.W.Frag) : List V → Hp → VK → Prop := fun vs H Q => ∃ (a : Addr) (kvs : List (NestedKey × V)), vs = [.ref a] ∧ NDct P w K H a kvs ∧ AllAlike (kvs.map (·.1.data)) ∧ Sortable (kvs.map (·.1.data)) ∧
  (∀ d ∈ kvs.map (·.1.data), d.depth ≤ 50) ∧ ∀ (ys : List V) (p : Addr), Rps K H ys (srt (kvs.map (·.1.data))) → H p = none → Q (.ref p) (upd H p (.lst ys))
theorem call_sortD (hc : X.calm = true) (hu : X.A.units + 64 < cLine) : CallR X (.builtin "sorted") (rSortD X.prog X.w X.K) := by
  intro pins s σ H vs us Q I r q
  obtain ⟨a, kvs, rfl, g, hal, hk, hdp, q⟩ := q
  rw [Vals.ref1 r]
  obtain ⟨z, lo, xs, e, rel, dd⟩ := nd_of I g
  obtain ⟨o, es, ep, h1, h2, h3, h4, h5, h6⟩ := dd
  have hl : es.size = kvs.length := by
    have q1 := congrArg List.length h4
    rw [List.length_map, Array.length_toList] at q1
    rw [q1, Paired.length rel]
  refine Calls.call_function_entry PyProof.Rows.kind_sorted PyProof.Rows.plain_sorted PyProof.Rows.entry_sorted (PyProof.Rows.args_sorted1 _) ?_
  unfold Builtin.«sorted»
  refine wpAny_bind (m := checkCount "sorted" 1 1 _) (wpAny_pure ?_)
  refine wpAny_bind (PySem.W.kdu_collect (A := X.A.in1) (KdlSrc.rawDict (d := a) (es := es) (ep := ep) lo) (I.ok.hd hc) ⟨o, h1, h2, h3⟩ (by rw [hl]; exact z) fun h' tk acc hkp hacc => ?_)
  have hav : acc.toList = xs.map fun x => Value.ref x.2.1 := by
    refine List.ext_getElem? fun j => ?_
    by_cases hj : j < es.size
    · have hja : j < acc.size := by rw [hacc.1]; exact hj
      obtain ⟨hi, ev⟩ := hacc.2 j acc[j] (Array.getElem?_eq_getElem hja)
      have ex : es.toList[j]? = (xs.map (entryOfKey (nestedKind X.prog X.w)))[j]? := by rw [h4]
      rw [Array.getElem?_toList, Array.getElem?_eq_getElem hj, List.getElem?_map] at ex
      rw [Array.getElem?_toList, Array.getElem?_eq_getElem hja, List.getElem?_map, ev]
      cases hx : xs[j]? with
      | none =>
        rw [hx] at ex
        cases ex
      | some x =>
        rw [hx] at ex
        have e2 : es[j] = entryOfKey (nestedKind X.prog X.w) x := Option.some.inj ex
        rw [e2]
        rfl
    · have hn : es.size = xs.length := by rw [hl, Paired.length rel]
      rw [List.getElem?_eq_none (by rw [Array.length_toList, hacc.1]; omega), List.getElem?_eq_none (by rw [List.length_map]; omega)]
  have I1 : Inv X pins σ H { s with heap := h', toks := tk } := I.kept hkp
  have hzi : acc.toList.length ≤ sizeLine := by
    rw [Array.length_toList, hacc.1, hl]
    exact z
  refine wpAny_bind (wpAny_newList ?_ hzi)
  have hoL : (h'.push (seqObj "list" acc.toList.toArray 0)).get? h'.objs.size = some (seqObj "list" acc.toList.toArray 0) := Heap.get?_push_size _ rfl
  show wpAny _ _ _ _ _ { s with heap := h'.push (seqObj "list" acc.toList.toArray 0), toks := tk }
  have rk := vals_keys (K := X.K) (w := X.w) (P := X.prog) rel
  have rv : Vals (xs.map fun x => V.ref x.2.1) acc.toList := by
    rw [hav]
    exact vals_refs xs
  have old : ∀ b u, h'.get? b = some u → (sortingHeap (h'.push (seqObj "list" acc.toList.toArray 0)) h'.objs.size acc.toList).get? b = some u := fun b u q1 =>
    sortingHeap_old (Nat.ne_of_lt (Heap.lt_size q1)) (Heap.get?_push_of_some _ q1)
  have I2 : Inv X pins σ H { s with heap := sortingHeap (h'.push (seqObj "list" acc.toList.toArray 0)) h'.objs.size acc.toList, toks := tk } := I1.kept old
  have ea := each_reads I2 rk rv
  refine wpAny_bind (wpAny_holding (wpAny_call_entry PyProof.Rows.slot_list_sort ⟨_, hoL, rfl⟩ PyProof.Rows.entry_list_sort
    (list_sort_vals (κ := dataKind (sortingHeap (h'.push (seqObj "list" acc.toList.toArray 0)) h'.objs.size acc.toList) (kvs.map (·.1.data))) (s := { s with heap := h'.push (seqObj "list" acc.toList.toArray 0), toks := tk }) hoL
      (SortsAt.data (s := { s with heap := sortingHeap (h'.push (seqObj "list" acc.toList.toArray 0)) h'.objs.size acc.toList, toks := tk }) ea hal hk fun d hd => ?_) hzi ⟨_, rfl, ?_⟩) (PyProof.Rows.args_list_sort _)))
  · have := hdp d hd
    simp only [Around.in1_units]
    omega
  · obtain ⟨ys, v1, r1, l1⟩ := sorted_out (K := X.K) hal rk rv ea
    obtain ⟨e', he'⟩ := PyProof.Rows.sortedHeap_at (vs := acc.toList) (out := (sortVals (dataKind (sortingHeap (h'.push (seqObj "list" acc.toList.toArray 0)) h'.objs.size acc.toList) (kvs.map (·.1.data))) false acc.toList acc.toList).toArray) hoL
    refine wpAny_pure ⟨_, rfl, .ref h'.objs.size, upd H h'.objs.size (.lst ys), I1.laid (t' := tk) (fun b u e => ?_) (Nat.le_refl _)
      (show ObjOk X.prog X.w _ _ _ (.lst ys) from ⟨by rw [l1, List.length_map, ← Paired.length rel]; exact z, _, e', v1, he'⟩), rfl, q ys _ r1 (I1.hok.fresh (Nat.le_refl _))⟩
    have hb : b < h'.objs.size := Heap.lt_size e
    rw [PyProof.Rows.sortedHeap_old (Nat.ne_of_lt hb) (by rw [size_push']; exact Nat.lt_succ_of_lt hb)]
    exact Heap.get?_push_of_some _ e
end
end SortN

set_option Elab.async false
set_option linter.all false
set_option maxRecDepth 100000
set_option maxHeartbeats 4000000
/-! for x in s: s a list or a tuple. -/
namespace SeqI
open PySem PySem.W PySem.Spec PyProof.Rows L2 Pt
def iSeq (K : PySem.W.Frag) (tl : TE) : TI := fun σ H R => iList K tl σ H R ∨ iTup K tl σ H R
theorem pi_seq {X : Cx} {tg l : Expr} {tl : TE} (hl : PE X l tl) : PI X tg l (iSeq X.K tl) :=
  ⟨fun pins s σ H R I h => h.elim ((pi_list hl).run pins s σ H R I) ((pi_tup hl).run pins s σ H R I)⟩
/-- a loop over a list or a tuple, which stays what it is -/
theorem for_seq {K : PySem.W.Frag} {a : Addr} {n : Nat} {xs : List V} {g : TG} {tb : TS} {D : Ends} {σ : L2.St} {H0 H : Hp} (hσ : σ[n]? = some (some (.ref a))) (hc : SqL K H0 a xs ∨ SqT K H0 a xs) (hs0 : Same H0 H) (Pv : Nat → L2.St → Hp → Prop) (h0 : Pv 0 σ H) (hl : ∀ i σ G, i ≤ xs.length → Pv i σ G → Same H0 G)
    (hs : ∀ i x σ H, xs[i]? = some x → Pv i σ H → g x σ H fun σ2 H2 => tb { D with nx := Pv (i + 1), ct := Pv (i + 1), bk := D.nx } σ2 H2) (hd : ∀ σ H, Pv xs.length σ H → D.nx σ H) : tFor (iSeq K (tVar n)) g tb D σ H := by
  rcases hc with hc | hc
  · exact .inl ⟨_, hσ, a, rfl, ⟨_, hs0.seq hc⟩, for_list Pv h0 (fun i σ G h p => (hl i σ G h p).seq hc) hs hd⟩
  · exact .inr ⟨_, hσ, a, rfl, ⟨_, Cm.sameT hs0 hc⟩, for_tup Pv h0 (fun i σ G h p => Cm.sameT (hl i σ G h p) hc) hs hd⟩
end SeqI

set_option Elab.async false
set_option linter.all false
set_option maxRecDepth 100000
set_option maxHeartbeats 4000000
/-! t[::-1], t a tuple. -/
namespace RevS
open PySem PySem.Spec PyProof.Rows L2 HT
section
variable {prog : Program} {w : World} {A : Around} {E : Value → Shared → Prop} {s : Shared}
theorem fm_congr {α β : Type} {f g : α → Option β} : ∀ {l : List α}, (∀ x ∈ l, f x = g x) → l.filterMap f = l.filterMap g
  | [], _ => rfl
  | x :: l, h => by
    rw [List.filterMap_cons, List.filterMap_cons, h x List.mem_cons_self, fm_congr (l := l) fun y hy => h y (List.mem_cons_of_mem _ hy)]
theorem adjust_back (n : Nat) : Builtin.Slice.sliceAdjust none none (-1) (n : Int) = ((n : Int) - 1, -1) := rfl
theorem places_back (n : Nat) : Builtin.Slice.slicePlaces ((n : Int) - 1) (-1) (-1) = n := by
  unfold Builtin.Slice.slicePlaces
  have h1 : ¬ ((-1 : Int) > 0) := by decide
  rw [if_neg h1]
  by_cases h : (n : Int) - 1 > -1
  · rw [if_pos h, show (-(-1) : Int) = 1 by decide, Int.ediv_one]
    omega
  · rw [if_neg h]
    omega
theorem pick_back (xs : Array Value) : ((List.range xs.size).filterMap fun (m : Nat) => xs[(((xs.size : Int) - 1) + (m : Int) * -1).toNat]?).toArray = xs.toList.reverse.toArray := by
  congr 1
  rw [← PySem.W.krv_all xs, ← List.filterMap_reverse, ← PySem.W.krv_range, List.filterMap_map]
  refine fm_congr fun m hm => ?_
  have h := List.mem_range.mp hm
  have e : (((xs.size : Int) - 1) + (m : Int) * -1).toNat = xs.size - 1 - m := by omega
  show xs[(((xs.size : Int) - 1) + (m : Int) * -1).toNat]? = xs[xs.size - 1 - m]?
  rw [e]
theorem applied_back {sl : Addr} {vl vu vs : Value} {n : Nat} {Q : Int × Int × Nat → Shared → Prop} (hs : s.heap.IsSliceOf sl vl vu vs) (pl : IsPart vl none) (pu : IsPart vu none) (ps : IsPart vs (some (-1)))
    (h : Q ((n : Int) - 1, -1, n) s) : wpAny (model prog w) A (Builtin.Slice.sliceApplied (.ref sl) (pure (n : Int))) Q E s := by
  obtain ⟨os, hos, hcs, hds⟩ := id hs
  unfold Builtin.Slice.sliceApplied Builtin.Slice.sliceFields
  refine wpAny_bind (wpAny_bind (wpAny_field hos hds (x := vl) rfl (wpAny_bind (wpAny_field hos hds (x := vu) rfl (wpAny_bind (wpAny_field hos hds (x := vs) rfl (wpAny_pure ?_)))))))
  refine wpAny_bind (slicePart_ ps ?_)
  show wpAny _ _ (if ((-1 : Int) == 0) = true then _ else _) _ _ s
  rw [if_neg (by decide)]
  refine wpAny_bind (slicePart_ pl (wpAny_bind (slicePart_ pu (wpAny_bind (wpAny_pure ?_)))))
  show wpAny _ _ (match Builtin.Slice.sliceAdjust none none (-1) (n : Int) with | (lo, hi) => pure (lo, (-1 : Int), Builtin.Slice.slicePlaces lo hi (-1))) _ _ s
  rw [adjust_back]
  show wpAny _ _ (pure ((n : Int) - 1, (-1 : Int), Builtin.Slice.slicePlaces ((n : Int) - 1) (-1) (-1))) _ _ s
  rw [places_back]
  exact wpAny_pure h
theorem getItem_back {t sl : Addr} {items : Array Value} {vl vu vs : Value} {Q : Value → Shared → Prop} (ht : IsTup s.heap t items) (hs : s.heap.IsSliceOf sl vl vu vs) (pl : IsPart vl none) (pu : IsPart vu none) (ps : IsPart vs (some (-1)))
    (h : Q (.ref s.heap.objs.size) { s with heap := s.heap.push { cls := .type "tuple", data := .seq items.toList.reverse.toArray } })
    (hsz : items.size ≤ sizeLine) : wpAny (model prog w) A (getItem (.ref t) (.ref sl)) Q E s := by
  have htake : sizeOk (.seq items.toList.reverse.toArray) := by
    show items.toList.reverse.toArray.size ≤ sizeLine
    rw [List.size_toArray, List.length_reverse, Array.length_toList]
    exact hsz
  obtain ⟨os, hos, hcs, hds⟩ := id hs
  have hTs : s.TypeIs (.ref sl) "slice" := ⟨os, hos, hcs⟩
  unfold getItem
  try with_reducible refine wpAny_holding ?_
  first | refine wpAny_bind (wpAny_pure ?_) | skip
  refine wpAny_bind (wpAny_sequenceKey ht.typeIs (by decide) ?_)
  refine wpAny_bind (wpAny_callSpecial?_slot (name := Str.ofString "__getitem__") ht.typeIs PyProof.Rows.slot_tuple_getitem
    (wpAny_call_entry PyProof.Rows.slot_tuple_getitem ht.typeIs entry_tuple_getitem ?_ (args_tuple_getitem _ _)))
  show wpAny _ _ (Builtin.Tuple.tupleItemsOf (.ref t) >>= _) _ _ s
  refine wpAny_bind (tupleItemsOf_ ht ?_)
  refine wpAny_bind (wpAny_typeOf hTs ?_)
  rw [if_pos (by decide)]
  refine wpAny_bind (applied_back hs pl pu ps ?_)
  have hno : ¬ ((((items.size : Int) - 1) == 0 && (-1 : Int) == 1 && items.size == items.size) = true) := by
    intro q
    rw [Bool.and_eq_true, Bool.and_eq_true] at q
    exact absurd q.1.2 (by decide)
  show wpAny _ _ (if (((items.size : Int) - 1) == 0 && (-1 : Int) == 1 && items.size == items.size) = true then _ else _) _ _ s
  rw [if_neg hno, pick_back]
  first
    | exact wpAny_bind (m := Builtin.Tuple.tupleExact _) (wpAny_newObj_type (wpAny_pure ⟨_, rfl, wpAny_pure h⟩) htake)
    | exact wpAny_bind (m := Builtin.Tuple.tupleExact _) (wpAny_newObj_type (wpAny_bind (wpAny_pure (wpAny_pure ⟨_, rfl, wpAny_pure h⟩))) htake)
    | exact wpAny_bind (wpAny_bind (m := Builtin.Tuple.tupleExact _) (wpAny_newObj_type (wpAny_pure (wpAny_pure ⟨_, rfl, wpAny_pure h⟩)) htake))
    | exact wpAny_bind (wpAny_bind (m := Builtin.Tuple.tupleExact _) (wpAny_newObj_type (wpAny_pure ⟨_, rfl, wpAny_pure h⟩) htake))
end
section
variable {X : Cx}
def tRevT (K : PySem.W.Frag) (te : TE) : TE := fun σ H Q => te σ H fun x H1 => ∃ a xs, x = .ref a ∧ SqT K H1 a xs ∧ ∀ p, H1 p = none → Q (.ref p) (upd H1 p (.tup xs.reverse))
theorem pe_revT {e : Expr} {te : TE} {k : Nat} {p1 p2 p3 pos : Pos} (he : PE X e te) : PE X (.Subscript e (.Slice none none (some (.UnaryOp .USub (.Constant (.int 1) k p1) p2)) p3) pos) (tRevT X.K te) := by
  refine ⟨fun pins s σ H Q I h => ?_⟩
  refine Subscript_ (thn (he.run pins s σ H _ I h) fun v s1 ⟨x, H1, I1, r1, q1⟩ => ?_)
  obtain ⟨a, xs, ex, hx, q⟩ := q1
  subst ex
  cases r1
  have hst : PO X (some (.UnaryOp .USub (.Constant (.int 1) k p1) p2)) (tPart (tUn (rU fun i => .int (-i)) (tC (.int 1)))) := po_some (pe_un un_neg pe_int)
  refine wpAny_Slice (thn (po_none.run pins s1 σ H1 (fun o H2 => o = none ∧ H2 = H1) I1 ⟨rfl, rfl⟩) fun vl s2 ⟨l, H2, I2, pl, el, e2⟩ => ?_)
  subst el e2
  refine thn (po_none.run pins s2 σ H2 (fun o H3 => o = none ∧ H3 = H2) I2 ⟨rfl, rfl⟩) fun vu s3 ⟨u, H3, I3, pu, eu, e3⟩ => ?_
  subst eu e3
  refine thn (hst.run pins s3 σ H3 (fun o H4 => o = some (-1) ∧ H4 = H3) I3 ⟨1, rfl, -1, rfl, rfl, rfl⟩) fun vs s4 ⟨o, H4, I4, ps, eo, e4⟩ => ?_
  subst eo e4
  have I5 : Inv X pins σ H4 { s4 with heap := s4.heap.push { cls := .type "slice", data := .fields #[vl, vu, vs] } } := I4.kept (t' := s4.toks) fun b ob q => Heap.get?_push_of_some _ q
  obtain ⟨its, r, ht, hz⟩ := I5.tuple hx
  have hlen := r.length
  show wpAny (model X.prog X.w) X.A (subscriptTail e (.Slice none none (some (.UnaryOp .USub (.Constant (.int 1) k p1) p2)) p3) (.ref a) (.ref s4.heap.objs.size)) (EP X pins σ Q) X.xe { s4 with heap := s4.heap.push { cls := .type "slice", data := .fields #[vl, vu, vs] } }
  refine tail_any (ops := [.ref a, .ref s4.heap.objs.size]) ht.typeIs (PyProof.Rows.slot_tuple_getitem.lookup) ?_ (by with_unfolding_all rfl)
  refine getItem_back ht (Heap.IsSliceOf.new _ vl vu vs) pl pu ps ?_ (by rw [List.size_toArray]; omega)
  refine ⟨.ref _, _, I5.laid (t' := s4.toks) (o := .tup xs.reverse) (fun b ob q => Heap.get?_push_of_some _ q) (Nat.le_refl _) ?_, rfl, q _ (I5.hok.fresh (Nat.le_refl _))⟩
  exact ⟨by rw [List.length_reverse]; exact hz, _, r.reverse, IsTup.new _ _⟩
/-- xs[::-1] of a list: a new list -/
def tRevL (K : PySem.W.Frag) (te : TE) : TE := fun σ H Q => te σ H fun x H1 => ∃ a xs, x = .ref a ∧ SqL K H1 a xs ∧ ∀ p, H1 p = none → Q (.ref p) (upd H1 p (.lst xs.reverse))
theorem pe_revL {e : Expr} {te : TE} {k : Nat} {p1 p2 p3 pos : Pos} (he : PE X e te) : PE X (.Subscript e (.Slice none none (some (.UnaryOp .USub (.Constant (.int 1) k p1) p2)) p3) pos) (tRevL X.K te) := by
  refine ⟨fun pins s σ H Q I h => ?_⟩
  refine Subscript_ (thn (he.run pins s σ H _ I h) fun v s1 ⟨x, H1, I1, r1, q1⟩ => ?_)
  obtain ⟨a, xs, ex, hx, q⟩ := q1
  subst ex
  cases r1
  have hst : PO X (some (.UnaryOp .USub (.Constant (.int 1) k p1) p2)) (tPart (tUn (rU fun i => .int (-i)) (tC (.int 1)))) := po_some (pe_un un_neg pe_int)
  refine wpAny_Slice (thn (po_none.run pins s1 σ H1 (fun o H2 => o = none ∧ H2 = H1) I1 ⟨rfl, rfl⟩) fun vl s2 ⟨l, H2, I2, pl, el, e2⟩ => ?_)
  subst el e2
  refine thn (po_none.run pins s2 σ H2 (fun o H3 => o = none ∧ H3 = H2) I2 ⟨rfl, rfl⟩) fun vu s3 ⟨u, H3, I3, pu, eu, e3⟩ => ?_
  subst eu e3
  refine thn (hst.run pins s3 σ H3 (fun o H4 => o = some (-1) ∧ H4 = H3) I3 ⟨1, rfl, -1, rfl, rfl, rfl⟩) fun vs s4 ⟨o, H4, I4, ps, eo, e4⟩ => ?_
  subst eo e4
  have I5 : Inv X pins σ H4 { s4 with heap := s4.heap.push { cls := .type "slice", data := .fields #[vl, vu, vs] } } := I4.kept (t' := s4.toks) fun b ob q => Heap.get?_push_of_some _ q
  obtain ⟨its, r, ht, hz⟩ := I5.list hx
  have hlen := r.length
  show wpAny (model X.prog X.w) X.A (subscriptTail e (.Slice none none (some (.UnaryOp .USub (.Constant (.int 1) k p1) p2)) p3) (.ref a) (.ref s4.heap.objs.size)) (EP X pins σ Q) X.xe { s4 with heap := s4.heap.push { cls := .type "slice", data := .fields #[vl, vu, vs] } }
  refine tail_any (ops := [.ref a, .ref s4.heap.objs.size]) ht.isList.typeIs (slot_list_getitem.lookup) ?_ (by with_unfolding_all rfl)
  refine wpAny_getItem_list_slice ht.isList (Heap.IsSliceOf.new _ vl vu vs) pl pu ps (by simp) ?_ (by rw [List.size_toArray]; omega)
  rw [PySem.W.krv_pick]
  refine ⟨.ref _, _, I5.laid (t' := s4.toks) (o := .lst xs.reverse) (fun b ob q => Heap.get?_push_of_some _ q) (Nat.le_refl _) ?_, rfl, q _ (I5.hok.fresh (Nat.le_refl _))⟩
  exact ⟨by rw [List.length_reverse]; exact hz, _, 0, r.reverse, Heap.get?_push_size _ rfl⟩
end
end RevS

set_option Elab.async false
set_option linter.all false
set_option maxRecDepth 100000
set_option maxHeartbeats 4000000
/-! tuple(reversed(t)), t a tuple. -/
namespace RevT2
open PySem PySem.Spec PyProof.Rows L2 RT
theorem nolen_rt : typeLookup (.type "reversed") "__len__" = pure none := by rw [typeLookup_type, builtinLookup_eq_fast]; kernel_rfl
theorem hint_rt : typeLookup (.type "reversed") "__length_hint__" = pure (some (.builtin "reversed.__length_hint__")) := by rw [typeLookup_type, builtinLookup_eq_fast]; kernel_rfl
theorem slot_rt_hint : Slot "reversed" "__length_hint__" "reversed.__length_hint__" :=
  .of (owner := "reversed") (n := "__length_hint__") (by rw [typeLookup_type, builtinLookup_eq_fast]; kernel_rfl) (by decide +kernel) (by decide +kernel) (by decide +kernel)
    (by first | exact .inl (by decide +kernel) | exact .inr (by decide +kernel)) (by rw [isSubtype_type]; kernel_rfl)
theorem entry_rt_hint : entryFor table "reversed.__length_hint__" = some Builtin.«reversed.__length_hint__» := entryFor_of_tree (by kernel_rfl)
theorem args_rt_hint (a : Value) : argsOk "reversed.__length_hint__" ⟨[a], []⟩ := by
  unfold argsOk; rw [signature?_of (id := "reversed.__length_hint__") (n := ['_', '_', 't', 'n', 'i', 'h', '_', 'h', 't', 'g', 'n', 'e', 'l', '_', '_']) (o := ['d', 'e', 's', 'r', 'e', 'v', 'e', 'r']) (by kernel_rfl) owner_rt]; kernel_rfl
theorem bind_rt_hint (self : Value) : bindSpecial (.builtin "reversed.__length_hint__") self = pure (.builtin "reversed.__length_hint__", [self]) := slot_rt_hint.bind self
theorem tup_at {h h' : Heap} {t : Addr} {items : Array Value} (x : IsTup h t items) (e : ∀ o, h.get? t = some o → h'.get? t = some o) : IsTup h' t items := let ⟨o, ho, r⟩ := x; ⟨o, e _ ho, r⟩
theorem walks_rt {prog : Program} {w : World} {A : Around} (hh : A.handled = none) (I t : Addr) (hne : t ≠ I) (items : Array Value) (hsz : items.size ≤ sizeLine) :
    Walks prog w A I [I, t] [I] items.size (fun i v => items[items.size - 1 - i]? = some v) (fun i h => i ≤ items.size ∧ IsRt h I t ((items.size : Int) - 1 - (i : Int)) ∧ IsTup h t items) where
  sub := fun b hb => by simp at hb; simp [hb]
  frame := fun _ _ _ x hk => ⟨x.1, x.2.1.at fun o e => hk I (by simp) o e, tup_at x.2.2 fun o e => hk t (by simp) o e⟩
  item := fun i s Q E hi x hQ => by
    have e : (items.size : Int) - 1 - (i : Int) = ((items.size - 1 - i : Nat) : Int) := by omega
    have hit := x.2.1
    rw [e] at hit
    have hx : items[items.size - 1 - i]? = some (items[items.size - 1 - i]'(by omega)) := Array.getElem?_eq_getElem (by omega)
    refine next_rt_item hit x.2.2 hx hsz fun h' hit' hs' => ?_
    have e2 : ((items.size - 1 - i : Nat) : Int) - 1 = (items.size : Int) - 1 - ((i + 1 : Nat) : Int) := by omega
    rw [e2] at hit'
    exact hQ _ h' (s.toks + 1) hx ⟨hi, hit', tup_at x.2.2 fun o eo => (hs'.2 t hne).trans eo⟩ fun b o hb eo => hs'.extBut b o (fun h => hb (by simp [h])) eo
  done := fun s Q E x hQ => by
    have e : (items.size : Int) - 1 - (items.size : Int) = -1 := by omega
    have hit := x.2.1
    rw [e] at hit
    exact next_rt_end hh hit fun h' he' => hQ h' s.toks fun b o hb eo => he' b o (fun h => hb (by simp [h])) eo
  self := fun _ _ _ _ x hQ => iter_rt x.2.1 hQ
section
variable {prog : Program} {w : World} {A : Around} {E : Value → Shared → Prop} {s : Shared}
theorem collect_rt {it t : Addr} {items : Array Value} {Q : List Value → Shared → Prop} (hh : A.handled = none) (hit : IsRt s.heap it t ((items.size : Int) - 1)) (hl : IsTup s.heap t items) (hne : t ≠ it) (hn : items.size ≤ sizeLine)
    (hQ : ∀ (h' : Heap) (tk : Nat) (acc : Array Value), (∀ b o, b ≠ it → s.heap.get? b = some o → h'.get? b = some o) → ItemsOf (fun i v => items[items.size - 1 - i]? = some v) acc items.size → Q acc.toList { s with heap := h', toks := tk }) :
    wpAny (model prog w) A (collect (.ref it)) Q E s := by
  have W := (walks_rt (prog := prog) (w := w) (A := A.in1) hh it t hne items hn).toS
  obtain ⟨oi, hoi, _⟩ := id hit
  obtain ⟨ol, hol, _⟩ := id hl
  have hSi : s.heap.objs.size ≠ it := Nat.ne_of_gt (Heap.lt_size hoi)
  have hSl : s.heap.objs.size ≠ t := Nat.ne_of_gt (Heap.lt_size hol)
  have hSf : s.heap.objs.size ∉ [it, t] := by simp only [List.mem_cons, List.not_mem_nil, or_false, not_or]; exact ⟨hSi, hSl⟩
  unfold collect
  refine wpAny_bind (wpAny_runValue (codeAny_builtin F.entry_proto_collect ?_))
  rw [Around.under_plainId F.plain_proto_collect _]
  show wpAny _ A.in1 (newList [] >>= fun l' => again (.builtin "list.__iadd__" ⟨[l', .ref it], []⟩)) _ _ s
  refine wpAny_bind (wpAny_newObj_type ?_)
  refine wpAny_pure ⟨plainId_quiet F.plain_list_iadd _, codeAny_builtin F.entry_list_iadd ?_⟩
  rw [Around.under_plainId F.plain_list_iadd _]
  have hS₁ : (s.heap.push { cls := .type "list", data := .seq ([] : List Value).toArray }).get? s.heap.objs.size = some { cls := .type "list", data := .seq ([] : List Value).toArray } := Heap.get?_push_size _ rfl
  have hit1 : IsRt (s.heap.push { cls := .type "list", data := .seq ([] : List Value).toArray }) it t ((items.size : Int) - 1) := hit.at fun o e => Heap.get?_push_of_some _ e
  have hl1 : IsTup (s.heap.push { cls := .type "list", data := .seq ([] : List Value).toArray }) t items := tup_at hl fun o e => Heap.get?_push_of_some _ e
  have hT : ({ s with heap := s.heap.push { cls := .type "list", data := .seq ([] : List Value).toArray } } : Shared).TypeIs (.ref it) "reversed" := IsRt.typeIs (s := { s with heap := s.heap.push { cls := .type "list", data := .seq ([] : List Value).toArray } }) hit1
  have h1 : Builtin.List.listSameRef (.ref s.heap.objs.size) (.ref it) = false := by simp [Builtin.List.listSameRef, hSi]
  show wpAny _ A.in1 (Builtin.List.listExtendWith (.ref s.heap.objs.size) (.ref it) (.ref s.heap.objs.size)) _ _ _
  unfold Builtin.List.listExtendWith
  refine wpAny_bind (wpAny_typeOf hT ?_)
  rw [if_neg (by rw [h1]; decide)]
  refine wpAny_bind (iter_rt (s := { s with heap := s.heap.push { cls := .type "list", data := .seq ([] : List Value).toArray } }) hit1 ?_)
  refine wpAny_bind (wpAny_holding ?_)
  unfold Builtin.List.listLengthHint
  refine wpAny_bind (wpAny_specialOf hT nolen_rt ?_)
  show wpAny _ A.in1 (specialOf (Value.ref it) (Str.ofString "__length_hint__") >>= _) _ _ _
  refine wpAny_bind (wpAny_specialOf hT hint_rt ?_)
  generalize hid : ("reversed.__length_hint__" : String) = id0
  wp_delta
  rw [show splitId id0 = some ("reversed", "__length_hint__") from by subst hid; decide +kernel]
  subst hid
  refine wpAny_bind (wpAny_isInstance (b := true) hT (by rw [isSubtype_type]; kernel_rfl) ?_)
  rw [if_neg (by decide)]
  try dsimp only
  rw [if_neg (by decide +kernel)]
  refine wpAny_bind (wpAny_rule ?_)
  refine wpAny_bind (wpAny_of_eq (bind_rt_hint _) ?_)
  try dsimp only
  refine wpAny_bind (wpAny_attempt (wpAny_call_entry slot_rt_hint hT entry_rt_hint ?_ (args_rt_hint _)))
  unfold Builtin.«reversed.__length_hint__»
  obtain ⟨oi1, hoi1, hci1, hdi1⟩ := id hit1
  refine wpAny_bind (wpAny_of_eq (a := Value.ref it) rfl ?_)
  try dsimp only
  refine wpAny_bind (wpAny_field hoi1 hdi1 (x := .ref t) rfl ?_)
  try dsimp only
  rw [show (Value.ref t == Value.none) = false from rfl, if_neg Bool.false_ne_true]
  try dsimp only
  refine wpAny_bind (len_tuple hl1 (by have := sizeLine_eq; omega) ?_)
  refine wpAny_bind (wpAny_of_eq (a := some ((items.size : Nat) : Int)) rfl ?_)
  try dsimp only
  refine wpAny_bind (wpAny_field (s := { s with heap := s.heap.push { cls := .type "list", data := .seq ([] : List Value).toArray }, toks := s.toks + 1 + 1 }) hoi1 hdi1 (x := rawInt ((items.size : Int) - 1)) rfl ?_)
  show wpAny _ _ (if (items.size : Int) < ((items.size : Int) - 1) + 1 then _ else retInt ((items.size : Int) - 1 + 1)) _ _ _
  rw [if_neg (by omega), show (items.size : Int) - 1 + 1 = ((items.size : Nat) : Int) by omega]
  unfold retInt
  refine wpAny_bind (wpAny_mkInt ?_)
  refine wpAny_pure ⟨_, rfl, ?_⟩
  try dsimp only
  have ea : ∀ (i : Int) (t : Tok), asInt? (Value.int i t) = (pure (some i) : Sem (Option Int)) := fun _ _ => rfl
  rw [ea, pure_bind]
  try dsimp only
  have hfit : Builtin.List.listFitsIndex (items.size : Int) = true := fitsIndex_of (by omega) (by have := sizeLine_eq; omega)
  have hlong : Builtin.List.listTooLong ((items.size : Int).toNat) = false := by
    rw [Int.toNat_natCast]
    exact decide_eq_false (by omega)
  rw [hfit, if_neg (by decide)]
  try dsimp only
  rw [if_neg (by omega)]
  try dsimp only
  rw [hlong, if_neg Bool.false_ne_true]
  refine wpAny_pure ?_
  have e0 : ((items.size : Nat) : Int) - 1 - ((0 : Nat) : Int) = (items.size : Int) - 1 := by omega
  by_cases hz : items.size = 0
  · rw [if_neg (by rw [hz]; decide +kernel)]
    refine wpAny_pure ⟨plainId_quiet F.plain_extend_loop _, codeAny_extend_loopS W hn _ hSf _ items.size 0 _ _ _ rfl (Nat.zero_le _) ⟨Nat.zero_le _, by rw [e0]; exact hit1, hl1⟩ hS₁ (ItemsOf.nil _) fun s' acc' c' hm hS' hacc => ?_⟩
    show wpAny _ A (load s.heap.objs.size >>= _) _ _ s'
    refine wpAny_bind (wpAny_load hS' ?_)
    refine wpAny_pure ?_
    rw [Moved.eq_with hm]
    refine hQ s'.heap s'.toks acc' (fun b o hb e => hm.heap b o (fun hmem => ?_) (Heap.get?_push_of_some _ e)) hacc
    rcases List.mem_cons.mp hmem with e' | hmem
    · exact absurd (Heap.lt_size e) (by rw [e']; exact Nat.lt_irrefl _)
    · exact hb (List.mem_singleton.mp hmem)
  · rw [if_pos (by rw [show (((items.size : Nat) : Int) != 0) = true from bne_iff_ne.mpr (by omega), Bool.true_or])]
    clear hfit hlong
    show wpAny _ A.in1 (rule "list.extend.makes-room" >>= fun _ => Builtin.List.listTouch (.ref s.heap.objs.size) >>= fun _ =>
      again (.builtin "list.extend.loop" ⟨[.ref s.heap.objs.size, .ref it, .ref s.heap.objs.size], []⟩)) _ _ _
    refine wpAny_bind (wpAny_rule ?_)
    refine wpAny_bind ?_
    show wpAny _ A.in1 (updateSeq s.heap.objs.size (·.push .none) >>= fun _ => updateSeq s.heap.objs.size (·.pop)) _ _ _
    refine wpAny_bind (wpAny_updateSeq hS₁ rfl ?_)
    have hS₂ := Heap.get?_update_self (Obj.mapSeq (·.push Value.none)) hS₁ rfl
    refine wpAny_updateSeq hS₂ rfl ?_
    have hS₃ := Heap.get?_update_self (Obj.mapSeq (·.pop)) hS₂ rfl
    have oth : ∀ b o, b ≠ s.heap.objs.size → (s.heap.push { cls := .type "list", data := .seq ([] : List Value).toArray }).get? b = some o →
        (((s.heap.push { cls := .type "list", data := .seq ([] : List Value).toArray }).update s.heap.objs.size (Obj.mapSeq (·.push Value.none))).update s.heap.objs.size (Obj.mapSeq (·.pop))).get? b = some o :=
      fun b o hb e => (Heap.get?_update_other _ _ (Ne.symm hb)).trans ((Heap.get?_update_other _ _ (Ne.symm hb)).trans e)
    refine wpAny_pure ⟨plainId_quiet F.plain_extend_loop _, codeAny_extend_loopS W hn _ hSf _ items.size 0 _ _ _ rfl (Nat.zero_le _) ⟨Nat.zero_le _, by rw [e0]; exact hit1.at fun o e => oth _ o hSi.symm e, tup_at hl1 fun o e => oth _ o hSl.symm e⟩ hS₃ (ItemsOf.nil _) fun s' acc' c' hm hS' hacc => ?_⟩
    show wpAny _ A (load s.heap.objs.size >>= _) _ _ s'
    refine wpAny_bind (wpAny_load hS' ?_)
    refine wpAny_pure ?_
    rw [Moved.eq_with hm]
    refine hQ s'.heap s'.toks acc' (fun b o hb e => hm.heap b o (fun hmem => ?_) (oth b o (fun z => by subst z; exact absurd (Heap.lt_size e) (Nat.lt_irrefl _)) (Heap.get?_push_of_some _ e))) hacc
    rcases List.mem_cons.mp hmem with e' | hmem
    · exact absurd (Heap.lt_size e) (by rw [e']; exact Nat.lt_irrefl _)
    · exact hb (List.mem_singleton.mp hmem)
theorem code_tuple_rt {it t : Addr} {items : Array Value} {Q₁ : Value → Shared → Prop} (hh : A.handled = none) (hit : IsRt s.heap it t ((items.size : Int) - 1)) (hl : IsTup s.heap t items) (hne : t ≠ it) (hn : items.size ≤ sizeLine)
    (h : ∀ (h' : Heap) (tk : Nat) (acc : Array Value), (∀ b o, b ≠ it → s.heap.get? b = some o → h'.get? b = some o) → ItemsOf (fun i v => items[items.size - 1 - i]? = some v) acc items.size →
      Q₁ (.ref h'.objs.size) { s with heap := h'.push { cls := .type "tuple", data := .seq acc }, toks := tk }) :
    codeAny (model prog w) A (.call (.builtin "tuple.__new__") ⟨[.type "tuple", .ref it], []⟩) (wants Q₁ E) s := by
  refine codeAny_of_tree ?_
  show wpAny _ A.in1 (do checkBuiltinCall "tuple.__new__" ⟨[.type "tuple", .ref it], []⟩; again (.builtin "tuple.__new__" ⟨[.type "tuple", .ref it], []⟩)) _ _ s
  refine wpAny_bind (wpAny_of_eq (F.newCall_tuple_1 _) (wpAny_pure ⟨plainId_quiet F.plain_tuple_new _, codeAny_builtin F.entry_tuple_new ?_⟩))
  rw [Around.under_plainId F.plain_tuple_new _]
  have hsub := sub_tuple_self
  have hinit := init_tuple_lookup
  have hmh := madeHere_tuple
  have hTI : s.TypeIs (.ref it) "reversed" := hit.typeIs
  have hh1 : A.in1.handled = none := hh
  wp_walk using wpAny_typeOf hTI, collect_rt (A := A.in1) hh1 hit hl hne hn
  intro h' tk acc hk hacc
  show wpAny _ _ (Builtin.Tuple.tupleExact acc.toList.toArray >>= fun v => ret v) _ _ _
  unfold Builtin.Tuple.tupleExact
  refine wpAny_bind (wpAny_newObj_type ?_ (by show acc.toList.toArray.size ≤ sizeLine; simp only [Array.toArray_toList]; rw [hacc.1]; exact hn))
  refine wpAny_pure ?_
  have e : acc.toList.toArray = acc := by simp
  rw [e]
  exact h h' tk acc hk hacc
theorem call_tuple_rt {it t : Addr} {items : Array Value} {Q : Value → Shared → Prop} (hh : A.handled = none) (hit : IsRt s.heap it t ((items.size : Int) - 1)) (hl : IsTup s.heap t items) (hne : t ≠ it) (hn : items.size ≤ sizeLine)
    (hQ : ∀ (h' : Heap) (tk : Nat) (acc : Array Value), (∀ b o, b ≠ it → s.heap.get? b = some o → h'.get? b = some o) → ItemsOf (fun i v => items[items.size - 1 - i]? = some v) acc items.size →
      Q (.ref h'.objs.size) { s with heap := h'.push { cls := .type "tuple", data := .seq acc }, toks := tk }) :
    wpAny (model prog w) A (call (.type "tuple") [.ref it]) Q E s := by
  refine callType_codes (Q₁ := fun obj s₁ => s₁.TypeIs obj "tuple" ∧ Q obj s₁) F.called_tuple (F.typeCall_tuple_1 _) F.entry_object_init
    (code_tuple_rt (A := A.in1) hh hit hl hne hn fun h' tk acc hk hacc => ⟨⟨_, Heap.get?_push_size _ rfl, rfl⟩, hQ h' tk acc hk hacc⟩) fun obj s₁ h₁ => ?_
  exact ⟨h₁.1, F.args_object_init_2 obj _, object_init_meets F.called_tuple.init.lookup F.called_tuple.made (by decide) prog w A.in1 _ s₁ ⟨h₁.1, rfl, h₁.2⟩⟩
end
/-- tuple(reversed(t)), t a tuple: a new tuple -/
def tTupRevT (K : PySem.W.Frag) (te : TE) : TE := fun σ H Q => te σ H fun v H1 => ∃ (a : Addr) (xs : List V), v = .ref a ∧ SqT K H1 a xs ∧ ∀ q, H1 q = none → Q (.ref q) (upd H1 q (.tup xs.reverse))
section
variable {X : Cx}
theorem pe_tupRevT {e : Expr} {te : TE} {p p2 pos pos2 : Pos} (hc : X.calm = true) (hg : Gl X "tuple") (hm : X.mg "tuple" = none) (hg2 : Gl X "reversed") (hm2 : X.mg "reversed" = none) (he : PE X e te)
    (hs : starEach [e] X.env = (false, eval e X.env) :: starEach [] X.env := by rfl)
    (hs2 : starEach [.Call (.Name "reversed" p2) [e] [] pos2] X.env = (false, eval (.Call (.Name "reversed" p2) [e] [] pos2) X.env) :: starEach [] X.env := by rfl) :
    PE X (.Call (.Name "tuple" p) [.Call (.Name "reversed" p2) [e] [] pos2] [] pos) (tTupRevT X.K te) := by
  refine ⟨fun pins s σ H Q I h => ?_⟩
  refine Call_ (ld_blt I hg hm boot_tuple (PyProof.Rows.callWith_type1 (args_cons (Call_ (ld_blt I hg2 hm2 PyProof.Rows.boot_reversed (PyProof.Rows.callWith_type1 (args_cons (thn (he.run pins s σ H _ I h) fun u s1 ⟨v, H1, I1, r1, q1⟩ => args_nil ?_) hs) hs rfl))) hs2) hs2 rfl))
  obtain ⟨a, xs, ev, hq, q⟩ := q1
  subst ev
  obtain rfl : u = Value.ref a := r1
  obtain ⟨its, rv, p', hz⟩ := I1.tuple hq
  have hn : its.toArray.size ≤ sizeLine := by rw [List.size_toArray, ← rv.length]; exact hz
  refine call_reversed_tup p' (fun A E Q k => len_tuple p' (by have := sizeLine_eq; omega) k) (args_nil ?_)
  have k0 : ∀ b o, s1.heap.get? b = some o → (s1.heap.push (rtObj a ((its.toArray.size : Int) - 1))).get? b = some o := fun b o e => Heap.get?_push_of_some _ e
  have I2 : Inv X pins σ H1 { s1 with heap := s1.heap.push (rtObj a ((its.toArray.size : Int) - 1)), toks := s1.toks + 1 + 1 } := I1.kept k0
  obtain ⟨f0, f1, f2, f3, f4, f5⟩ := I1.fpOk (H' := H1) (b := s1.heap.objs.size) (Nat.le_refl _) (I1.hok.fresh (Nat.le_refl _))
  obtain ⟨ol, hol, _⟩ := id p'
  have hne : a ≠ s1.heap.objs.size := Nat.ne_of_lt (Heap.lt_size hol)
  refine call_tuple_rt (s := { s1 with heap := s1.heap.push (rtObj a ((its.toArray.size : Int) - 1)), toks := s1.toks + 1 + 1 }) (I1.ok.hd hc) ⟨_, Heap.get?_push_size _ rfl, rfl, rfl⟩ (tup_at p' fun o e => Heap.get?_push_of_some _ e) hne hn fun h' tk acc hk hi => ?_
  have I3 : Inv X pins σ H1 { s1 with heap := h', toks := tk } := I2.turned (t' := tk) (fun b o hb e => hk b o hb e) f0 f1 f3 f4 f5
  refine ⟨.ref h'.objs.size, upd H1 h'.objs.size (.tup xs.reverse), I3.laid (t' := tk) (fun c o e => Heap.get?_push_of_some _ e) (Nat.le_refl _) (show ObjOk X.prog X.w _ _ _ (.tup xs.reverse) from ⟨by rw [List.length_reverse]; exact hz, acc.toList, vals_rev rv hi, ?_⟩), rfl, q _ (I3.hok.fresh (Nat.le_refl _))⟩
  rw [Array.toArray_toList]
  exact IsTup.new _ _
end
end RevT2

set_option Elab.async false
set_option linter.all false
set_option maxRecDepth 100000
/-! x > y of data (tuples: the first difference decides), and a list comprehension over zip of two tuples of any lengths. -/
namespace GtD
open PySem PySem.Spec PyProof.Rows L2 RZ
section
variable {X : Cx}
def rGtD (K : PySem.W.Frag) : R2 := fun x y H Q => ∃ d e, Dp K H x d ∧ Dp K H y e ∧ PySem.W.alike d e = true ∧ d ≠ .none ∧ d.depth ≤ 40 ∧ Q (.bl (PySem.W.dataLt e d)) H
theorem op_gtD (hu : X.A.units + 64 < cLine) : OpR X (compareOp .Gt) (rGtD X.K) := by
  intro pins s σ H x y v u Q I rx ry h
  obtain ⟨d, e, hd, he, al, nn, dp, q⟩ := h
  obtain ⟨as, r1⟩ := Dp.reads I d x v hd rx
  obtain ⟨bs, r2⟩ := Dp.reads I e y u he ry
  exact PySem.W.gt_data r1 r2 al nn (by have := Nat.min_le_left d.depth e.depth; omega) ⟨.bl _, H, I, rfl, q⟩
end
theorem lc_zipT {K : PySem.W.Frag} {a b : Addr} {xs ys : List V} {g : TG} {tt : TT} {te : TE} {vs : List Nat} {σ : L2.St} {H1 : Hp} {D : Addr} {Qd : Hp → Prop} (Pv : Nat → Hp → Prop) (h0 : Pv 0 (upd H1 D (.lst []))) (hq : ∀ i H, Pv i H → SqT K H a xs ∧ SqT K H b ys)
    (hs : ∀ (i : Nat) (x y : V) (T : Addr) (H : Hp), xs[i]? = some x → ys[i]? = some y → Pv i H → H T = none → g (.ref T) (wipe σ vs) (upd H T (.tup [x, y])) fun σ2 H2 => wipe σ2 vs = wipe σ vs ∧ tt σ2 H2 fun b H3 =>
      if b = true then te σ2 H3 fun y H4 => ∃ acc, H4 D = some (.lst acc) ∧ acc.length < sizeLine ∧ Pv (i + 1) (upd H4 D (.lst (acc ++ [y]))) else Pv (i + 1) H3) (hd : ∀ H, Pv (min xs.length ys.length) H → Qd H) :
    ∃ W : Nat → Nat → Hp → Prop, (∃ m, W 0 m (upd H1 D (.lst []))) ∧ ∀ i m H, W i m H →
      ((ItzT K a b).stop i H ∧ Qd H) ∨ ((ItzT K a b).go i H ∧ ∃ Nx : Hp → Prop, (∀ H', Nx H' → ∃ m', m' < m ∧ W (i + 1) m' H') ∧ ∀ x H', (ItzT K a b).yld i H x H' → g x (wipe σ vs) H' fun σ2 H2 => wipe σ2 vs = wipe σ vs ∧ tt σ2 H2 fun b H3 =>
        if b = true then te σ2 H3 fun y H4 => ∃ acc, H4 D = some (.lst acc) ∧ acc.length < sizeLine ∧ Nx (upd H4 D (.lst (acc ++ [y]))) else Nx H3) := by
  refine ⟨fun i m H => m = min xs.length ys.length - i ∧ i ≤ min xs.length ys.length ∧ Pv i H, ⟨min xs.length ys.length, by simp, Nat.zero_le _, h0⟩, ?_⟩
  rintro i m H ⟨rfl, hi, p⟩
  obtain ⟨qx, qy⟩ := hq i H p
  by_cases hlt : i < min xs.length ys.length
  · have h1 : i < xs.length := by omega
    have h2 : i < ys.length := by omega
    have hx : xs[i]? = some xs[i] := List.getElem?_eq_getElem h1
    have hy : ys[i]? = some ys[i] := List.getElem?_eq_getElem h2
    refine .inr ⟨⟨xs, ys, _, _, qx, qy, hx, hy⟩, Pv (i + 1), fun H' p' => ⟨min xs.length ys.length - (i + 1), by omega, rfl, hlt, p'⟩, fun v H' y => ?_⟩
    obtain ⟨T, x', y', rfl, hT, rfl, f1, f2⟩ := y
    exact hs i x' y' T H (f1 xs qx) (f2 ys qy) p hT
  · have e : i = min xs.length ys.length := by omega
    subst e
    exact .inl ⟨⟨xs, ys, qx, qy, by omega⟩, hd H p⟩
end GtD

set_option Elab.async false
set_option linter.all false
set_option maxRecDepth 100000
set_option maxHeartbeats 4000000
/-! xs[a:b:c] of a list, a, b, c numbers as they stand (c > 0); xs.index(y, k). -/
namespace LsX
open PySem PySem.Spec PyProof.Rows L2 HT
section
variable {X : Cx}
def pickV (xs : List V) (lo hi st : Int) : List V := (sliceRange (sliceBounds (some lo) (some hi) (some st) xs.length).1 (sliceBounds (some lo) (some hi) (some st) xs.length).2.1 (sliceBounds (some lo) (some hi) (some st) xs.length).2.2).filterMap (xs[·]?)
def tStepL (K : PySem.W.Frag) (te : TE) (lo hi st : Int) : TE := fun σ H Q => te σ H fun x H1 => ∃ a xs, x = .ref a ∧ SqL K H1 a xs ∧ (pickV xs lo hi st).length ≤ sizeLine ∧ ∀ p, H1 p = none → Q (.ref p) (upd H1 p (.lst (pickV xs lo hi st)))
theorem vals_pick {xs : List V} {us : List Value} (r : Vals xs us) : ∀ l : List Nat, Vals (l.filterMap (xs[·]?)) (l.filterMap (us[·]?))
  | [] => .nil
  | i :: l => by
    rw [List.filterMap_cons, List.filterMap_cons]
    have hl := r.length
    by_cases h : i < xs.length
    · have e : xs[i]? = some xs[i] := List.getElem?_eq_getElem h
      obtain ⟨u, hu, ru⟩ := r.get e
      rw [e, hu]
      exact .cons ru (vals_pick r l)
    · rw [List.getElem?_eq_none (by omega), List.getElem?_eq_none (by omega)]
      exact vals_pick r l
theorem pe_stepL {e : Expr} {te : TE} {lo hi st : Int} {k1 k2 k3 : Nat} {p1 p2 p3 p4 pos : Pos} (he : PE X e te) (h0 : st ≠ 0) : PE X (.Subscript e (.Slice (some (.Constant (.int lo) k1 p1)) (some (.Constant (.int hi) k2 p2)) (some (.Constant (.int st) k3 p3)) p4) pos) (tStepL X.K te lo hi st) := by
  refine ⟨fun pins s σ H Q I h => ?_⟩
  refine Subscript_ (thn (he.run pins s σ H _ I h) fun v s1 ⟨x, H1, I1, r1, q1⟩ => ?_)
  obtain ⟨a, xs, ex, hx, hpl, q⟩ := q1
  subst ex
  cases r1
  have po : ∀ (z : Int) (k : Nat) (p : Pos), PO X (some (.Constant (.int z) k p)) (tPart (tC (.int z))) := fun z k p => po_some pe_int
  refine wpAny_Slice (thn ((po lo k1 p1).run pins s1 σ H1 (fun o H2 => o = some lo ∧ H2 = H1) I1 ⟨lo, rfl, rfl, rfl⟩) fun vl s2 ⟨l, H2, I2, pl, el, e2⟩ => ?_)
  subst el e2
  refine thn ((po hi k2 p2).run pins s2 σ H2 (fun o H3 => o = some hi ∧ H3 = H2) I2 ⟨hi, rfl, rfl, rfl⟩) fun vu s3 ⟨u, H3, I3, pu, eu, e3⟩ => ?_
  subst eu e3
  refine thn ((po st k3 p3).run pins s3 σ H3 (fun o H4 => o = some st ∧ H4 = H3) I3 ⟨st, rfl, rfl, rfl⟩) fun vs s4 ⟨o, H4, I4, ps, eo, e4⟩ => ?_
  subst eo e4
  have I5 : Inv X pins σ H4 { s4 with heap := s4.heap.push { cls := .type "slice", data := .fields #[vl, vu, vs] } } := I4.kept (t' := s4.toks) fun b ob q => Heap.get?_push_of_some _ q
  obtain ⟨its, r, ht, hz⟩ := I5.list hx
  have hlen := r.length
  show wpAny (model X.prog X.w) X.A (subscriptTail e (.Slice (some (.Constant (.int lo) k1 p1)) (some (.Constant (.int hi) k2 p2)) (some (.Constant (.int st) k3 p3)) p4) (.ref a) (.ref s4.heap.objs.size)) (EP X pins σ Q) X.xe { s4 with heap := s4.heap.push { cls := .type "slice", data := .fields #[vl, vu, vs] } }
  refine tail_any (ops := [.ref a, .ref s4.heap.objs.size]) ht.isList.typeIs (slot_list_getitem.lookup) ?_ (by with_unfolding_all rfl)
  refine wpAny_getItem_list_slice ht.isList (Heap.IsSliceOf.new _ vl vu vs) pl pu ps (by simpa using h0) ?_ (by rw [List.size_toArray]; omega)
  have ep : slicePick its.toArray (some lo) (some hi) (some st) = (((sliceRange (sliceBounds (some lo) (some hi) (some st) xs.length).1 (sliceBounds (some lo) (some hi) (some st) xs.length).2.1 (sliceBounds (some lo) (some hi) (some st) xs.length).2.2).filterMap (its[·]?))).toArray := by
    unfold slicePick
    rw [List.size_toArray, ← hlen]
    congr 2
    funext i
    exact List.getElem?_toArray
  rw [ep]
  refine ⟨.ref _, _, I5.laid (t' := s4.toks) (o := .lst (pickV xs lo hi st)) (fun b ob q => Heap.get?_push_of_some _ q) (Nat.le_refl _) ?_, rfl, q _ (I5.hok.fresh (Nat.le_refl _))⟩
  exact ⟨hpl, _, 0, vals_pick r _, Heap.get?_push_size _ rfl⟩
theorem pick_eq {xs : List V} {hi : Int} {l : List Nat} (h : hi ≤ (xs.length : Int)) (h0 : 0 ≤ hi) (e : sliceRange 0 hi 2 = l) : pickV xs 0 hi 2 = l.filterMap (xs[·]?) := by
  unfold pickV
  have e1 : (sliceBounds (some 0) (some hi) (some 2) xs.length).1 = 0 := by
    show max (0 : Int) (min (if (0 : Int) < 0 then 0 + (xs.length : Int) else 0) (xs.length : Int)) = 0
    rw [if_neg (by decide)]
    omega
  have e2 : (sliceBounds (some 0) (some hi) (some 2) xs.length).2.1 = hi := by
    show max (0 : Int) (min (if hi < 0 then hi + (xs.length : Int) else hi) (xs.length : Int)) = hi
    rw [if_neg (by omega)]
    omega
  have e3 : (sliceBounds (some 0) (some hi) (some 2) xs.length).2.2 = 2 := rfl
  rw [e1, e2, e3, e]
/-- xs.index(y, k) -/
theorem list_indexAt3 (l : Addr) (items : Array Value) (n : Nat) (dd : Option Addr) (sl : Array (Option Value)) (x : Value) (e : Value → Bool) (i j : Nat) (ti : Tok) (hij : i ≤ j) (hj : j < items.size) (hsmall : (j : Int) < 2 ^ 63 - 1)
    (hit : e items[j] = true) (hno : ∀ m (hm : m < items.size), i ≤ m → m < j → e items[m] = false) :
    Meets (Builtin.«list.index» ⟨[.ref l, x, .int (i : Int) ti], []⟩)
      (fun A R s => s.heap.get? l = some { cls := .type "list", dict := dd, data := .seq items n, slots := sl } ∧ (∀ y, y ∈ items → SeqAt.EqAt A.in1 s y x (e y)) ∧ R (.ok (.ret (.int j s.toks))) { s with toks := s.toks + 1 }) := by
  intro prog w A R s h
  obtain ⟨hp, g, d, tk, os⟩ := s; obtain ⟨hl, he, h⟩ := h
  wp_walk using wpAny_loadPart' hl
  have a1 : ((fun i : Int => if i < 0 then max 0 (i + (items.size : Int)) else i) ((some (i : Int)).getD 0)) = ((i : Nat) : Int) := by
    show (if (i : Int) < 0 then max 0 ((i : Int) + (items.size : Int)) else (i : Int)) = (i : Int)
    rw [if_neg (by omega)]
  have a2 : ((fun i : Int => if i < 0 then max 0 (i + (items.size : Int)) else i) ((none : Option Int).getD (2 ^ 63 - 1))) = 2 ^ 63 - 1 := by simp
  rw [a1, a2]
  exact ⟨plainId_quiet MeetsSeq.plain_index_loop _, codeAny_builtin MeetsSeq.entry_index_loop (by
    rw [Around.under_plainId MeetsSeq.plain_index_loop _]
    exact SeqAt.index_loopAt l items n dd sl x e (2 ^ 63 - 1) j hj hsmall hit _ i rfl hij (fun m hm h1 h2 => hno m hm h1 h2) prog w A R _ ⟨hl, he, h⟩)⟩
def rIndexFrom (K : PySem.W.Frag) : V → List V → Hp → VK → Prop := fun x xs H Q => ∃ (a : Addr) (ys : List V) (y : V) (i j : Nat) (z : V), x = V.ref a ∧ xs = [y, .int (i : Int)] ∧ SqL K H a ys ∧ flatV y = true ∧ ys.all flatV = true ∧ i ≤ j ∧ ys[j]? = some z ∧ eqV z y = true ∧
  (∀ (m : Nat) (z' : V), i ≤ m → m < j → ys[m]? = some z' → eqV z' y = false) ∧ Q (.int (j : Nat)) H
theorem mt_indexFrom : MtR X "list.index" (rIndexFrom X.K) := by
  intro pins s σ H x xs v us Q I rx rxs h
  obtain ⟨a, ys, y, i, j, z, rfl, rfl, hs, fy, fys, hij, hz, hzj, hno, q⟩ := h
  cases rx
  cases rxs with
  | cons ry rt =>
    cases rt with
    | cons ri rt =>
      cases rt
      obtain ⟨ti, rfl⟩ := ri
      rename_i uy
      obtain ⟨its, rv, ⟨⟨cls, dd, data, sl⟩, n, ho, hc, hdn, hd⟩, hlen⟩ := I.list hs
      simp only at hc hd
      subst hc hd
      obtain ⟨u, hu, ru⟩ := rv.get hz
      obtain ⟨hjl, hje⟩ := List.getElem?_eq_some_iff.mp hu
      have hvl := rv.length
      have hj : j < its.toArray.size := by simpa using hjl
      have hsl := sizeLine_eq
      refine call_meets PySem.F.slot_list_index ⟨_, ho, rfl⟩ PySem.F.entry_list_index (PySem.F.args_list_index_3 _ _ _)
        (list_indexAt3 a its.toArray n dd sl uy (eqU y) i j ti hij hj (by omega) ?_ ?_) ⟨ho, fun u' hu' => mem_eqAt ry fy rv fys u' (by simpa using hu'), ?_⟩
      · have e1 : its.toArray[j] = u := by simpa using hje
        rw [e1, eqU_of ru (flat_at fys hz)]
        exact hzj
      · intro m hm hi hmj
        have hml : m < its.length := by simpa using hm
        have hmy : m < ys.length := by omega
        have hy' : ys[m]? = some ys[m] := List.getElem?_eq_getElem hmy
        obtain ⟨u2, hu2, ru2⟩ := rv.get hy'
        obtain ⟨_, hme⟩ := List.getElem?_eq_some_iff.mp hu2
        have e1 : its.toArray[m] = u2 := by simpa using hme
        rw [e1, eqU_of ru2 (flat_at fys hy')]
        exact hno m _ hi hmj hy'
      · exact ⟨.int (j : Nat), H, I.tok _, ⟨_, rfl⟩, q⟩
/-- a text put together, its reading a word -/
def tJ (ts : List TE) : TE := fun σ H Q => tJs ts Str.empty σ H fun out H1 => Q (.str out) H1
theorem pe_joinedJ {v1 v2 : Expr} {rest : List Expr} {ts : List TE} {pos : Pos} (h : PJ X (v1 :: v2 :: rest) ts) : PE X (.JoinedStr (v1 :: v2 :: rest) pos) (tJ ts) := pe_joined h
/-- an expression whose ways are joined by a word -/
def tCutV (te : TE) : TE := fun σ H Q => ∃ R : VK, te σ H R ∧ ∀ x H', R x H' → Q x H'
theorem pe_cutV {e : Expr} {te : TE} (h : PE X e te) : PE X e (tCutV te) :=
  ⟨fun pins s σ H Q I ⟨R, h1, h2⟩ => thn (h.run pins s σ H R I h1) fun v s1 ⟨x, H1, I1, r, q⟩ => ⟨x, H1, I1, r, h2 _ _ q⟩⟩
/-- a method of a built-in type, in a try's body -/
theorem pe_bmK {K : PySem.W.Frag} {T : String} {r : V → List V → Hp → VK → Prop} {to : TE} {t : TA} {e : Expr} (hK : X.K = K) (h : PE X e (tBM X.K T r to t)) : PE X e (tBM K T r to t) := by
  subst hK
  exact h
/-- for i, x in enumerate(xs): .. -/
theorem for_enumL {K : PySem.W.Frag} {l : Addr} {xs : List V} {tg : TG} {bd : TS} {E : Ends} {τ : L2.St} {G : Hp} (Inv : Nat → L2.St → Hp → Prop) (start : Inv 0 τ G) (there : ∀ j σ H, j ≤ xs.length → Inv j σ H → SqL K H l xs) (turn : ∀ j x T σ H, xs[j]? = some x → Inv j σ H → H T = none → tg (.ref T) σ (upd H T (.tup [.int (j : Nat), x])) fun σ2 H2 => bd { E with nx := Inv (j + 1), ct := Inv (j + 1), bk := E.nx } σ2 H2) (behind : ∀ σ H, Inv xs.length σ H → E.nx σ H) : ∃ B : Nat → Nat → L2.St → Hp → Prop, (∃ r, B 0 r τ G) ∧ ∀ j r σ H, B j r σ H → ((Ite K l).stop j H ∧ E.nx σ H) ∨ ((Ite K l).go j H ∧ ∃ N : L2.St → Hp → Prop, (∀ σ' H', N σ' H' → ∃ r', r' < r ∧ B (j + 1) r' σ' H') ∧ ∀ v H', (Ite K l).yld j H v H' → tg v σ H' fun σ2 H2 => bd { E with nx := N, ct := N, bk := E.nx } σ2 H2) := by
  refine ⟨fun j r σ H => r = xs.length - j ∧ j ≤ xs.length ∧ Inv j σ H, ⟨_, rfl, Nat.zero_le _, start⟩, ?_⟩
  rintro j r σ H ⟨rfl, hj, inv⟩
  have hq := there j σ H hj inv
  rcases Nat.lt_or_ge j xs.length with lt | ge
  · refine .inr ⟨⟨xs, xs[j], hq, List.getElem?_eq_getElem lt⟩, Inv (j + 1), fun σ' H' inv' => ⟨xs.length - (j + 1), by omega, rfl, lt, inv'⟩, fun v H' y => ?_⟩
    obtain ⟨T, x, rfl, hT, rfl, hx⟩ := y
    exact turn j x T σ H (hx xs hq) inv hT
  · have e : j = xs.length := by omega
    subst e
    exact .inl ⟨⟨xs, hq, Nat.le_refl _⟩, behind σ H inv⟩
end
end LsX

set_option Elab.async false
set_option linter.all false
set_option maxRecDepth 100000
/-! How many different tuples of ints a list has: len(set(xs)), xs without one twice; and x not in t, t a tuple of data. -/
namespace TupIn
open PySem PySem.Spec PyProof.Rows L2
theorem got_len {ks L : List (Addr × List Int)} (g : Got ks ks.length L) (nk : (ks.map (·.2)).Nodup) (nl : (L.map (·.2)).Nodup) : L.length = ks.length := by
  have p : (L.map (·.2)).Perm (ks.map (·.2)) := (List.perm_ext_iff_of_nodup nl nk).mpr fun x => by
    constructor
    · intro h
      obtain ⟨q, hq, rfl⟩ := List.mem_map.mp h
      exact List.mem_map.mpr ⟨q, List.mem_of_mem_take (g.sub q hq), rfl⟩
    · intro h
      obtain ⟨q, hq, rfl⟩ := List.mem_map.mp h
      exact g.all q (by rw [List.take_length]; exact hq)
  have := p.length_eq
  rwa [List.length_map, List.length_map] at this
section
variable {X : Cx}
/-- len(set(xs)), xs a list of different tuples of ints -/
def tLenSetT (K : PySem.W.Frag) (ta : TE) : TE := fun σ H Q => ta σ H fun x H1 => ∃ (l : Addr) (ks : List (Addr × List Int)), x = .ref l ∧ SqL K H1 l (ks.map fun p => V.ref p.1) ∧ (∀ p ∈ ks, SqT K H1 p.1 (p.2.map V.int)) ∧ ks.length < 64 ∧ (ks.map (·.2)).Nodup ∧ Q (.int ks.length) H1
theorem pe_lenSetT {e : Expr} {te : TE} {p p2 q pos : Pos} (hc : X.calm = true) (hu : X.A.units + 64 < cLine) (hg : Gl X "len") (hm : X.mg "len" = none) (hg2 : Gl X "set") (hm2 : X.mg "set" = none) (he : PE X e te)
    (na : starEach [e] X.env = (false, eval e X.env) :: starEach [] X.env := by rfl) : PE X (.Call (.Name "len" p) [.Call (.Name "set" p2) [e] [] q] [] pos) (tLenSetT X.K te) := by
  refine ⟨fun pins s σ H Q I h => Call_ (ld_blt I hg hm boot_len (PyProof.Rows.callWith_builtin1 (PyProof.Rows.args_cons (Call_ (ld_blt I hg2 hm2 PyProof.Rows.boot_set (PyProof.Rows.callWith_type1 (PyProof.Rows.args_cons (thn (he.run pins s σ H _ I h) fun v s1 ⟨x, H1, I1, r1, q1⟩ => PyProof.Rows.args_nil ?_) na) na rfl))) rfl) rfl rfl))⟩
  obtain ⟨l, ks, rfl, hl, hk, hf, nd, q1⟩ := q1
  cases r1
  obtain ⟨its, rv, pl, hz⟩ := I1.list hl
  refine call_set_tups (P := X.prog) (w := X.w) ks (I1.ok.hd hc) pl.isList (by simpa using refs_of_vals rv) (fun p hp => I1.isT (hk p hp)) hf (by omega) fun h' tk L es ep t R g k => PyProof.Rows.args_nil ?_
  obtain ⟨o, ho, hex, hd⟩ := R.ob
  have I2 : Inv X pins σ H1 { s1 with heap := h', toks := tk } := I1.kept k
  have hn : es.size = ks.length := (SetTR.size (s := { s1 with heap := h', toks := tk }) R).trans (got_len g nd R.nd)
  exact call_len_set ho hex hd (SetTR.fits (s := { s1 with heap := h', toks := tk }) R) (by rw [hn] <;> omega) ⟨.int ks.length, H1, I2.tok _, ⟨_, by rw [hn]⟩, q1⟩
/-- x not in t, t a tuple of data -/
def rNotInT (K : PySem.W.Frag) : R2 := fun x y H Q => ∃ d ds, Dp K H x d ∧ Dp K H y (.tuple ds) ∧ SeqAt.shaped d = true ∧ SeqAt.shaped (.tuple ds) = true ∧ Q (.bl (!ds.any fun z => PyData.eqv z d)) H
theorem op_notInT (hu : X.A.units + 65 < cLine) : OpR X (compareOp .NotIn) (rNotInT X.K) := by
  intro pins s σ H x y v u Q I rx ry h
  obtain ⟨d, ds, hd, he, sd, se, q⟩ := h
  obtain ⟨as, r1⟩ := Dp.reads I d x v hd rx
  obtain ⟨bs, r2⟩ := Dp.reads I (.tuple ds) y u he ry
  exact SeqAt.notIn_tuple_reads r2 r1 (SeqAt.canLay_of_shaped se) (SeqAt.canLay_of_shaped sd) (room_in_shaped sd hu) ⟨.bl _, H, I, rfl, q⟩
theorem u65 {A : Around} {k : Nat} (hr : Room k A) : A.units + 65 < cLine := by have := hr.un; omega
theorem any_in {ds : List PyData} {d : PyData} (h : d ∈ ds) (s : PyData.eqv d d = true) : (ds.any fun z => PyData.eqv z d) = true := List.any_eq_true.mpr ⟨d, h, s⟩
end
end TupIn

set_option Elab.async false
set_option linter.all false
set_option maxRecDepth 100000
set_option maxHeartbeats 4000000
--%OPEN Cm Pt ND
--%VAR variable {P : Program} {w : World} {K : PySem.W.Frag} {mg : Str → Option Value} {base : Heap} {a : Fds}
namespace K04
open PySem PySem.Spec PyProof.Rows L2 Cm Pt ND
open PySem PySem.Spec PyProof.Rows L2
def topS (i : Nat) : Stmt := PySem.Challenge.pw_portage_k04_whole_conformity.main.body.getD i (.Pass ⟨0, 0, 0, 0⟩)
abbrev s_operations_of : Stmt := topS 5
abbrev N_operations_of : List Str := ["part", "name", "params", "result", "_", "param"]
theorem sc_operations_of : FnScope N_operations_of ["part"] (defScope s_operations_of) := ⟨rfl, rfl, rfl, by decide +kernel, rfl, by decide +kernel, by decide +kernel⟩
abbrev s_relation : Stmt := topS 6
abbrev N_relation : List Str := ["program", "interfaces", "makers", "held", "found", "name", "operations", "part", "goal"]
theorem sc_relation : FnScope N_relation ["program"] (defScope s_relation) := ⟨rfl, rfl, rfl, by decide +kernel, rfl, by decide +kernel, by decide +kernel⟩
abbrev s_conforms : Stmt := topS 7
abbrev N_conforms : List Str := ["program", "name", "interface", "interfaces", "makers", "part"]
theorem sc_conforms : FnScope N_conforms ["program", "name", "interface"] (defScope s_conforms) := ⟨rfl, rfl, rfl, by decide +kernel, rfl, by decide +kernel, by decide +kernel⟩
abbrev s_greatest : Stmt := topS 8
abbrev N_greatest : List Str := ["interfaces", "name", "goal", "held", "kept"]
theorem sc_greatest : FnScope N_greatest ["interfaces"] (defScope s_greatest) := ⟨rfl, rfl, rfl, by decide +kernel, rfl, by decide +kernel, by decide +kernel⟩
abbrev s_u_conforms : Stmt := topS 9
abbrev N_u_conforms : List Str := ["operations", "wanted", "held", "goal", "operation"]
theorem sc_u_conforms : FnScope N_u_conforms ["operations", "wanted", "held"] (defScope s_u_conforms) := ⟨rfl, rfl, rfl, by decide +kernel, rfl, by decide +kernel, by decide +kernel⟩
abbrev s_stands_for : Stmt := topS 10
abbrev N_stands_for : List Str := ["operation", "goal", "held", "name", "kinds", "result", "goal_name", "goal_kinds", "goal_result", "kind", "wanted"]
theorem sc_stands_for : FnScope N_stands_for ["operation", "goal", "held"] (defScope s_stands_for) := ⟨rfl, rfl, rfl, by decide +kernel, rfl, by decide +kernel, by decide +kernel⟩
abbrev s_kind_conforms : Stmt := topS 11
abbrev N_kind_conforms : List Str := ["kind", "goal", "held"]
theorem sc_kind_conforms : FnScope N_kind_conforms ["kind", "goal", "held"] (defScope s_kind_conforms) := ⟨rfl, rfl, rfl, by decide +kernel, rfl, by decide +kernel, by decide +kernel⟩
abbrev s_lw_row : Stmt := topS 13
abbrev N_lw_row : List Str := ["script", "row", "k", "cell", "turn", "mixed"]
theorem sc_lw_row : FnScope N_lw_row ["script"] (defScope s_lw_row) := ⟨rfl, rfl, rfl, by decide +kernel, rfl, by decide +kernel, by decide +kernel⟩
abbrev s_lw_at : Stmt := topS 14
abbrev N_lw_at : List Str := ["row", "at"]
theorem sc_lw_at : FnScope N_lw_at ["row", "at"] (defScope s_lw_at) := ⟨rfl, rfl, rfl, by decide +kernel, rfl, by decide +kernel, by decide +kernel⟩
abbrev s_lw_operations : Stmt := topS 15
abbrev N_lw_operations : List Str := ["row", "at", "names", "operations", "word", "number", "kinds", "params"]
theorem sc_lw_operations : FnScope N_lw_operations ["row", "at", "names"] (defScope s_lw_operations) := ⟨rfl, rfl, rfl, by decide +kernel, rfl, by decide +kernel, by decide +kernel⟩
abbrev s_lw_program : Stmt := topS 16
abbrev N_lw_program : List Str := ["row", "names", "interfaces", "k", "operations", "number", "word", "params", "result", "makers", "made", "pairs", "j"]
theorem sc_lw_program : FnScope N_lw_program ["row"] (defScope s_lw_program) := ⟨rfl, rfl, rfl, by decide +kernel, rfl, by decide +kernel, by decide +kernel⟩
abbrev s_lw_table : Stmt := topS 17
abbrev N_lw_table : List Str := ["program", "table", "name", "operations", "params", "fields", "word", "kinds", "result", "pairs", "block", "one", "kind"]
theorem sc_lw_table : FnScope N_lw_table ["program"] (defScope s_lw_table) := ⟨rfl, rfl, rfl, by decide +kernel, rfl, by decide +kernel, by decide +kernel⟩
abbrev s_lw_ok : Stmt := topS 18
abbrev N_lw_ok : List Str := ["first", "second", "pairs"]
theorem sc_lw_ok : FnScope N_lw_ok ["first", "second", "pairs"] (defScope s_lw_ok) := ⟨rfl, rfl, rfl, by decide +kernel, rfl, by decide +kernel, by decide +kernel⟩
abbrev s_lw_holds : Stmt := topS 19
abbrev N_lw_holds : List Str := ["table", "pair", "pairs", "word", "kinds", "result", "found", "one", "k"]
theorem sc_lw_holds : FnScope N_lw_holds ["table", "pair", "pairs"] (defScope s_lw_holds) := ⟨rfl, rfl, rfl, by decide +kernel, rfl, by decide +kernel, by decide +kernel⟩
abbrev s_lw_greatest : Stmt := topS 20
abbrev N_lw_greatest : List Str := ["program", "table", "pairs", "name", "changed", "kept", "pair", "one"]
theorem sc_lw_greatest : FnScope N_lw_greatest ["program"] (defScope s_lw_greatest) := ⟨rfl, rfl, rfl, by decide +kernel, rfl, by decide +kernel, by decide +kernel⟩
abbrev s_lw_missing : Stmt := topS 21
abbrev N_lw_missing : List Str := ["program", "name", "interface", "why"]
theorem sc_lw_missing : FnScope N_lw_missing ["program", "name", "interface"] (defScope s_lw_missing) := ⟨rfl, rfl, rfl, by decide +kernel, rfl, by decide +kernel, by decide +kernel⟩
abbrev s_law : Stmt := topS 22
abbrev N_law : List Str := ["script", "row", "program", "pairs", "told", "turned", "table", "interfaces", "name", "interface", "first", "second", "one", "third"]
theorem sc_law : FnScope N_law ["script"] (defScope s_law) := ⟨rfl, rfl, rfl, by decide +kernel, rfl, by decide +kernel, by decide +kernel⟩
/-- the function objects that the top has made -/
structure Fds where
  d_operations_of : FuncData
  d_relation : FuncData
  d_conforms : FuncData
  d_greatest : FuncData
  d_u_conforms : FuncData
  d_stands_for : FuncData
  d_kind_conforms : FuncData
  d_lw_row : FuncData
  d_lw_at : FuncData
  d_lw_operations : FuncData
  d_lw_program : FuncData
  d_lw_table : FuncData
  d_lw_ok : FuncData
  d_lw_holds : FuncData
  d_lw_greatest : FuncData
  d_lw_missing : FuncData
  d_law : FuncData
/-- what the walks ask of the top -/
structure Txt (K : PySem.W.Frag) (mg : Str → Option Value) (w : World) (a : Fds) : Prop where
  F_operations_of : Cm.FnP K "operations_of" s_operations_of (He.ga K "operations_of") a.d_operations_of
  b_operations_of : Binds K a.d_operations_of ["part"] []
  g_operations_of : mg "operations_of" = some (.ref (He.ga K "operations_of"))
  F_relation : Cm.FnP K "relation" s_relation (He.ga K "relation") a.d_relation
  b_relation : Binds K a.d_relation ["program"] []
  g_relation : mg "relation" = some (.ref (He.ga K "relation"))
  F_conforms : Cm.FnP K "conforms" s_conforms (He.ga K "conforms") a.d_conforms
  b_conforms : Binds K a.d_conforms ["program", "name", "interface"] []
  g_conforms : mg "conforms" = some (.ref (He.ga K "conforms"))
  F_greatest : Cm.FnP K "_greatest" s_greatest (He.ga K "_greatest") a.d_greatest
  b_greatest : Binds K a.d_greatest ["interfaces"] []
  g_greatest : mg "_greatest" = some (.ref (He.ga K "_greatest"))
  F_u_conforms : Cm.FnP K "_conforms" s_u_conforms (He.ga K "_conforms") a.d_u_conforms
  b_u_conforms : Binds K a.d_u_conforms ["operations", "wanted", "held"] []
  g_u_conforms : mg "_conforms" = some (.ref (He.ga K "_conforms"))
  F_stands_for : Cm.FnP K "_stands_for" s_stands_for (He.ga K "_stands_for") a.d_stands_for
  b_stands_for : Binds K a.d_stands_for ["operation", "goal", "held"] []
  g_stands_for : mg "_stands_for" = some (.ref (He.ga K "_stands_for"))
  F_kind_conforms : Cm.FnP K "_kind_conforms" s_kind_conforms (He.ga K "_kind_conforms") a.d_kind_conforms
  b_kind_conforms : Binds K a.d_kind_conforms ["kind", "goal", "held"] []
  g_kind_conforms : mg "_kind_conforms" = some (.ref (He.ga K "_kind_conforms"))
  F_lw_row : Cm.FnP K "_law_row" s_lw_row (He.ga K "_law_row") a.d_lw_row
  b_lw_row : Binds K a.d_lw_row ["script"] []
  g_lw_row : mg "_law_row" = some (.ref (He.ga K "_law_row"))
  F_lw_at : Cm.FnP K "_law_at" s_lw_at (He.ga K "_law_at") a.d_lw_at
  b_lw_at : Binds K a.d_lw_at ["row", "at"] []
  g_lw_at : mg "_law_at" = some (.ref (He.ga K "_law_at"))
  F_lw_operations : Cm.FnP K "_law_operations" s_lw_operations (He.ga K "_law_operations") a.d_lw_operations
  b_lw_operations : Binds K a.d_lw_operations ["row", "at", "names"] []
  g_lw_operations : mg "_law_operations" = some (.ref (He.ga K "_law_operations"))
  F_lw_program : Cm.FnP K "_law_program" s_lw_program (He.ga K "_law_program") a.d_lw_program
  b_lw_program : Binds K a.d_lw_program ["row"] []
  g_lw_program : mg "_law_program" = some (.ref (He.ga K "_law_program"))
  F_lw_table : Cm.FnP K "_law_table" s_lw_table (He.ga K "_law_table") a.d_lw_table
  b_lw_table : Binds K a.d_lw_table ["program"] []
  g_lw_table : mg "_law_table" = some (.ref (He.ga K "_law_table"))
  F_lw_ok : Cm.FnP K "_law_ok" s_lw_ok (He.ga K "_law_ok") a.d_lw_ok
  b_lw_ok : Binds K a.d_lw_ok ["first", "second", "pairs"] []
  g_lw_ok : mg "_law_ok" = some (.ref (He.ga K "_law_ok"))
  F_lw_holds : Cm.FnP K "_law_holds" s_lw_holds (He.ga K "_law_holds") a.d_lw_holds
  b_lw_holds : Binds K a.d_lw_holds ["table", "pair", "pairs"] []
  g_lw_holds : mg "_law_holds" = some (.ref (He.ga K "_law_holds"))
  F_lw_greatest : Cm.FnP K "_law_greatest" s_lw_greatest (He.ga K "_law_greatest") a.d_lw_greatest
  b_lw_greatest : Binds K a.d_lw_greatest ["program"] []
  g_lw_greatest : mg "_law_greatest" = some (.ref (He.ga K "_law_greatest"))
  F_lw_missing : Cm.FnP K "_law_missing" s_lw_missing (He.ga K "_law_missing") a.d_lw_missing
  b_lw_missing : Binds K a.d_lw_missing ["program", "name", "interface"] []
  g_lw_missing : mg "_law_missing" = some (.ref (He.ga K "_law_missing"))
  F_law : Cm.FnP K "law" s_law (He.ga K "law") a.d_law
  b_law : Binds K a.d_law ["script"] []
  g_law : mg "law" = some (.ref (He.ga K "law"))
  g_PortError : mg "PortError" = some (.ref (He.ga K "PortError"))
  g_NotAllowed : mg "NotAllowed" = some (.ref (He.ga K "NotAllowed"))
  g_Missing : mg "Missing" = some (.ref (He.ga K "Missing"))
  g_tuple : mg "tuple" = none
  g_len : mg "len" = none
  g_list : mg "list" = none
  g_sorted : mg "sorted" = none
  g_any : mg "any" = none
  g_all : mg "all" = none
  g_zip : mg "zip" = none
  g_range : mg "range" = none
  g_abs : mg "abs" = none
  g_int : mg "int" = none
  g_str : mg "str" = none
  g_isinstance : mg "isinstance" = none
  g_reversed : mg "reversed" = none
  x_Missing : PySem.W.excIn K (He.ga K "Missing") [.type "ValueError", .type "Exception", .type "BaseException", .type "object"] "ValueError.__new__" = true
  k_Missing : PySem.W.keepIn K (.ref (He.ga K "Missing")) = true
  s_Missing : PySem.W.subIn K (.ref (He.ga K "Missing")) (.type "BaseException") = some true
  t_Missing : PySem.W.typeIn K (.ref (He.ga K "Missing")) = some (.type "type")
  m1_ : PySem.W.findIn K (.ref (He.ga K "Missing")) "__getattribute__" = some (some (.builtin "BaseException.__getattribute__"))
  m2_ : PySem.W.findIn K (.ref (He.ga K "Missing")) "__getattr__" = some none
  m4_ : PySem.W.hasDictIn K (He.ga K "Missing") = true
  m5_ : PySem.W.findIn K (.ref (He.ga K "Missing")) "__class__" = some (some (.builtin "object.__class__"))
  m6_ : PySem.W.specialIn K (.builtin "object.__class__") "__get__" = some (some (.builtin "getset_descriptor.__get__"))
  m7_ : PySem.W.takesIn K (.builtin "object.__class__") = some true
  m8_ : PySem.W.mroIn K (He.ga K "Missing") (.type "object") = some true
  e1_ : PySem.W.exmOne K (.ref (He.ga K "Missing")) (.ref (He.ga K "Missing")) = some true
  e2_ : PySem.W.kitOne K (.ref (He.ga K "Missing")) (.ref (He.ga K "PortError")) = some true
  e3_ : PySem.W.kitOne K (.ref (He.ga K "Missing")) (.ref (He.ga K "NotAllowed")) = some false
variable {P : Program} {w : World} {K : PySem.W.Frag} {mg : Str → Option Value} {base : Heap} {a : Fds}
abbrev Pr := Str × Str
abbrev Op := Str × List Str × Str
def opD (o : Op) : PyData := .tuple [.str o.1, .tuple (o.2.1.map .str), .str o.2.2]
def opsD (os : List Op) : PyData := .tuple (os.map opD)
/-- a kind in the place of another one, as far as hd tells -/
def kcF (hd : List Pr) (k g : Str) : Bool := (decide (k = ("int" : Str)) && decide (g = ("int" : Str))) || hd.contains (k, g)
def stF (hd : List Pr) (o g : Op) : Bool := decide (o.1 = g.1) && (decide (o.2.1.length = g.2.1.length) && (kcF hd o.2.2 g.2.2 && (o.2.1.zip g.2.1).all fun x => kcF hd x.2 x.1))
def cfF (hd : List Pr) (os gs : List Op) : Bool := gs.all fun g => os.any fun o => stF hd o g
/-- the key that a pair is -/
def prK (p : Pr) : NestedKey := .tup [.text p.1, .text p.2]
def prV (p : Pr) : NestedKey × V := (prK p, .bl true)
/-- the pairs at d, locked or not -/
def HdAt (P : Program) (w : World) (K : PySem.W.Frag) (H : Hp) (d : Addr) (hd : List Pr) : Prop := LockN.NAny P w K H d (hd.map prV)
theorem HdAt.keep {H H' : Hp} {d : Addr} {hd : List Pr} (s : Same H H') (h : HdAt P w K H d hd) : HdAt P w K H' d hd := by
  refine LockN.NAny.keep (TK.of (Same.tups s)) ?_ h
  rcases h with ⟨xs, h1, h2⟩ | ⟨o, xs, h1, h2⟩
  · rw [h1, s _ _ h1]
  · rw [h1, s _ _ h1]
theorem pr_key {H : Hp} {v : V} {p : Pr} (r : Rp K H v (.tuple [.str p.1, .str p.2])) : KeyAt K H v (prK p) := ⟨r, by show NestedKey.depth (.tup [.text p.1, .text p.2]) ≤ 8; simp [NestedKey.depth, NestedKey.depthAll], _, rfl⟩
theorem prK_inj {p q : Pr} (h : prK p = prK q) : p = q := by
  obtain ⟨a, b⟩ := p
  obtain ⟨c, d⟩ := q
  injection h with h
  injection h with h1 h2
  injection h2 with h2 _
  injection h1 with h1
  injection h2 with h2
  exact Prod.ext h1 h2
theorem val_pr : ∀ (hd : List Pr) (p : Pr), (valV (hd.map prV) (prK p)).isSome = hd.contains p
  | [], p => rfl
  | q :: r, p => by
    have ih := val_pr r p
    unfold valV at ih ⊢
    rw [List.map_cons, List.find?_cons]
    by_cases e : q = p
    · have e1 : decide ((prV q).1 = prK p) = true := decide_eq_true (by rw [e]; rfl)
      rw [e1, e]
      simp
    · have e1 : decide ((prV q).1 = prK p) = false := decide_eq_false fun z => e (prK_inj z)
      rw [e1]
      have e2 : (q :: r).contains p = r.contains p := by
        rw [List.contains_cons]
        have : (p == q) = false := beq_eq_false_iff_ne.mpr fun z => e z.symm
        rw [this, Bool.false_or]
      rw [e2]
      exact ih
def spKC (P : Program) (w : World) (K : PySem.W.Frag) : Sp := fun vs H Q _ => ∃ (k g : Str) (d : Addr) (hd : List Pr), vs = [.str k, .str g, .ref d] ∧ HdAt P w K H d hd ∧ ∀ H', Same H H' → Q (.bl (kcF hd k g)) H'
theorem ok_kind_conforms (T : Txt K mg w a) : FnOk P w K mg base CX0 1 (He.ga K "_kind_conforms") a.d_kind_conforms ["kind", "goal", "held"] (spKC P w K) := by
  refine T.F_kind_conforms.ok sc_kind_conforms (fun vs H Q E h => ?_) (fun cdv A outer s H vs Q E hr h => ?_)
  · obtain ⟨_, _, _, _, rfl, _⟩ := h
    rfl
  · obtain ⟨k, g, d, hd, rfl, hg, q⟩ := h
    refine ⟨_, PSs.nox (pss_one (ps_ret (pe_or (pe_and (pe_cmpR op_eq (pv 0) pe_str (nomark _)) (pe_one (pe_cmpR op_eq (pv 1) pe_str (nomark _)))) (pe_one (pe_cmp (LockN.pc_ain (ND.nu_of hr) (pe_tup (pa_cons (pv 0) (pa_cons (pv 1) pa_nil))) (pv 2))))))), ?_⟩
    rw [show L2.start N_kind_conforms [.str k, .str g, .ref d] = [some (.str k), some (.str g), some (.ref d)] from rfl]
    have last : (kcF hd k g = hd.contains (k, g)) → ∀ (Q2 : VK), (∀ H', Same H H' → Q2 (.bl (kcF hd k g)) H') → (LockN.tAIn P w K false (tTup (tCons (tVar 0) (tCons (tVar 1) tNil))) (tVar 2)) [some (.str k), some (.str g), some (.ref d)] H Q2 := fun e Q2 q2 => by
      refine ⟨_, rfl, _, rfl, Cm.small (by show 2 ≤ 100000; decide), fun p np => ⟨_, rfl, d, _, prK (k, g), rfl, hg.keep (Cm.same_new np), pr_key (p := (k, g)) (Rp.made np (.cons (.str k) (.cons (.str g) .nil))), ?_⟩⟩
      have q3 := q2 _ (Cm.same_new (o := .tup [.str k, .str g]) np)
      rw [e, ← val_pr] at q3
      exact q3
    refine ⟨_, rfl, rfl, _, rfl, Cm.itES (fun e => ?_) fun e => ?_⟩
    · refine ⟨_, rfl, rfl, _, rfl, Cm.itES (fun e2 => ?_) fun e2 => ?_⟩
      · have q2 := q H (Same.refl H)
        rw [show kcF hd k g = true by unfold kcF; rw [decide_eq_true e, decide_eq_true e2]; rfl] at q2
        exact q2
      · exact last (by unfold kcF; rw [decide_eq_false e2, Bool.and_false, Bool.false_or]) _ q
    · refine ⟨false, rfl, ?_⟩
      rw [if_neg (by decide)]
      exact last (by unfold kcF; rw [decide_eq_false e, Bool.false_and, Bool.false_or]) _ q
theorem strs_inv {H : Hp} : ∀ {us : List V} {ks : List Str}, Rps K H us (ks.map PyData.str) → us = ks.map V.str
  | us, [], r => r.nil_inv
  | us, k :: ks, r => by
    obtain ⟨v, vs, rfl, h1, h2⟩ := Rps.cons_inv (show Rps K H us (PyData.str k :: ks.map PyData.str) from r)
    obtain rfl := h1.str_inv
    rw [strs_inv h2]
    rfl
/-- an operation, taken apart -/
theorem op_inv {H : Hp} {v : V} {o : Op} (r : Rp K H v (opD o)) : ∃ (c d : Addr), v = .ref c ∧ SqT K H c [.str o.1, .ref d, .str o.2.2] ∧ SqT K H d (o.2.1.map V.str) := by
  obtain ⟨c, xs, rfl, hc, rs⟩ := r.tup_inv
  obtain ⟨w1, xs, rfl, r1, rs⟩ := rs.cons_inv
  obtain ⟨w2, xs, rfl, r2, rs⟩ := rs.cons_inv
  obtain ⟨w3, xs, rfl, r3, rs⟩ := rs.cons_inv
  obtain rfl := rs.nil_inv
  obtain rfl := r1.str_inv
  obtain rfl := r3.str_inv
  obtain ⟨d, ys, rfl, hd, rd⟩ := r2.tup_inv
  obtain rfl := strs_inv rd
  exact ⟨c, d, rfl, hc, hd⟩
def spSF (P : Program) (w : World) (K : PySem.W.Frag) : Sp := fun vs H Q _ => ∃ (u v : V) (o g : Op) (d : Addr) (hd : List Pr), vs = [u, v, .ref d] ∧ Rp K H u (opD o) ∧ Rp K H v (opD g) ∧ o.2.1.length ≤ 1000 ∧ HdAt P w K H d hd ∧ ∀ H', Same H H' → Q (.bl (stF hd o g)) H'
theorem ok_stands_for (T : Txt K mg w a) : FnOk P w K mg base CX0 2 (He.ga K "_stands_for") a.d_stands_for ["operation", "goal", "held"] (spSF P w K) := by
  have gk := ok_kind_conforms (P := P) (w := w) (base := base) T
  refine T.F_stands_for.ok sc_stands_for (fun vs H Q E h => ?_) (fun cdv A outer s H vs Q E hr h => ?_)
  · obtain ⟨_, _, _, _, _, _, rfl, _⟩ := h
    rfl
  · obtain ⟨u, v, o, g, d, hd, rfl, ru, rv, lo, hg, q⟩ := h
    refine ⟨_, PSs.nox (pss_cons (ps_asg (pv 0) (pg_tup (by rfl) (pgs_cons (pg_name (i := 3) sc_stands_for.nd rfl (Or.inl rfl)) (pgs_cons (pg_name (i := 4) sc_stands_for.nd rfl (Or.inl rfl)) (pgs_cons (pg_name (i := 5) sc_stands_for.nd rfl (Or.inl rfl)) pgs_nil)))))
      (pss_cons (ps_asg (pv 1) (pg_tup (by rfl) (pgs_cons (pg_name (i := 6) sc_stands_for.nd rfl (Or.inl rfl)) (pgs_cons (pg_name (i := 7) sc_stands_for.nd rfl (Or.inl rfl)) (pgs_cons (pg_name (i := 8) sc_stands_for.nd rfl (Or.inl rfl)) pgs_nil)))))
      (pss_cons (ps_if (PW.pt (pw_or (pt_cmpR op_ne (pv 3) (pv 6) (nomark _)) (pw_or (pt_cmpR op_ne (pe_callB call_len_seq (by rfl) T.g_len boot_len (pa_cons (pv 4) pa_nil)) (pe_callB call_len_seq (by rfl) T.g_len boot_len (pa_cons (pv 7) pa_nil)) (nomark _)) (pw_or1 (pt_not (pt_val (pe_call gk (hr.mono (by omega)) (by rfl) T.g_kind_conforms T.F_kind_conforms.kp T.b_kind_conforms .nil pass0 (pa_cons (pv 5) (pa_cons (pv 8) (pa_cons (pv 2) pa_nil)))))))))) (pss_one (ps_ret pe_bl)) pss_nil)
      (pss_one (ps_ret (pe_callB (cr_all rfl) (by rfl) T.g_all boot_all (pa_cons (pe_lc (own := [("kind", 9), ("wanted", 10)]) (g := gTup K 2 (gCons (gName 9) (gCons (gName 10) gNil))) (tt := tYes)  (by rfl) sc_stands_for.nd (RZ.pi_zipA (by rfl) T.g_zip (pa_cons (pv 4) (pa_cons (pv 7) pa_nil))) (blkOk_by (own := [("kind", 9), ("wanted", 10)]) (N := N_stands_for) (sc := defScope s_stands_for) (by decide +kernel)) (fun _ _ _ _ _ => (pg_tup (by rfl) (pgs_cons (pg_name (i := 9) sc_stands_for.nd rfl (Or.inl rfl)) (pgs_cons (pg_name (i := 10) sc_stands_for.nd rfl (Or.inl rfl)) pgs_nil)))) (fun _ _ _ _ _ => pts_nil) (fun _ _ _ _ _ => (pe_call gk (hr.mono (by omega)) (by rfl) T.g_kind_conforms T.F_kind_conforms.kp T.b_kind_conforms .nil pass0 (pa_cons (pv 10) (pa_cons (pv 9) (pa_cons (pv 2) pa_nil)))))) pa_nil))))))), ?_⟩
    rw [show L2.start N_stands_for [u, v, .ref d] = [some u, some v, some (.ref d), none, none, none, none, none, none, none, none] from rfl]
    obtain ⟨c1, d1, rfl, hc1, hd1⟩ := op_inv ru
    obtain ⟨c2, d2, rfl, hc2, hd2⟩ := op_inv rv
    refine ⟨_, rfl, c1, _, rfl, hc1, rfl, _, _, rfl, _, _, rfl, _, _, rfl, rfl, ?_⟩
    simp only [gName, List.set_cons_succ, List.set_cons_zero]
    refine ⟨_, rfl, c2, _, rfl, hc2, rfl, _, _, rfl, _, _, rfl, _, _, rfl, rfl, ?_⟩
    simp only [gName, List.set_cons_succ, List.set_cons_zero]
    have no : ∀ {Q2 : Prop}, stF hd o g = false → (Q (.bl false) H → Q2) → Q2 := fun e f => f (by have := q H (Same.refl H); rw [e] at this; exact this)
    refine ⟨_, rfl, _, rfl, rfl, _, rfl, Cm.itNS (fun e => ?_) fun e => ?_⟩
    · refine no ?_ fun z => z
      unfold stF
      rw [decide_eq_false e, Bool.false_and]
    refine ⟨_, rfl, d1, _, rfl, .inr hd1, _, rfl, d2, _, rfl, .inr hd2, rfl, _, rfl, Cm.itDn (fun e2 => ?_) fun e2 => ?_⟩
    · refine Cm.itB (fun _ => ?_) fun z => nomatch z
      refine no ?_ fun z => z
      unfold stF
      rw [decide_eq_false (show ¬ o.2.1.length = g.2.1.length from fun z => e2 (by rw [List.length_map, List.length_map, z])), Bool.false_and, Bool.and_false]
    have el : o.2.1.length = g.2.1.length := by
      have e3 := V.int.inj e2
      rw [List.length_map, List.length_map] at e3
      exact Int.ofNat.inj e3
    refine ⟨_, rfl, _, rfl, _, rfl, o.2.2, g.2.2, d, hd, rfl, hg, fun H1 s1 => ⟨_, rfl, Cm.itBn (fun e3 => ?_) fun e3 => ?_⟩⟩
    · have q1 := q H1 s1
      rw [show stF hd o g = false by unfold stF; rw [e3, Bool.false_and, Bool.and_false, Bool.and_false]] at q1
      exact q1
    have hd11 := Cm.sameT s1 hd1
    have hd21 := Cm.sameT s1 hd2
    have hg1 := hg.keep s1
    refine ⟨_, rfl, _, rfl, d1, d2, _, _, rfl, .inr ⟨hd11, hd21, fun D nD => ?_⟩⟩
    refine GtD.lc_zipT (K := K) (a := d1) (b := d2) (xs := o.2.1.map V.str) (ys := g.2.1.map V.str) (fun j Hj => Same H1 Hj ∧ ∃ bs : List Bool, Hj D = some (.lst (bs.map V.bl)) ∧ bs = ((o.2.1.zip g.2.1).take j).map (fun x => kcF hd x.2 x.1) ∧ bs.length ≤ j) ⟨Cm.same_new nD, [], upd_same, rfl, Nat.le_refl _⟩ (fun j Hj b => ⟨Cm.sameT b.1 hd11, Cm.sameT b.1 hd21⟩) (fun j x y Tq Hj hx hy ⟨sJ, bs, hD, eb, lb⟩ nT => ?_) fun Hj ⟨sJ, bs, hD, eb, lb⟩ => ?_
    · rw [List.getElem?_map] at hx hy
      obtain ⟨x', hx', rfl⟩ := Option.map_eq_some_iff.mp hx
      obtain ⟨y', hy', rfl⟩ := Option.map_eq_some_iff.mp hy
      have sT := sJ.trans (Cm.same_new (o := .tup [V.str x', V.str y']) nT)
      have lj := (List.getElem?_eq_some_iff.mp hx').1
      refine ⟨Tq, _, rfl, Cm.sqt_new, rfl, _, _, rfl, _, _, rfl, rfl, rfl, ?_⟩
      refine ⟨_, rfl, _, rfl, _, rfl, y', x', d, hd, rfl, hg1.keep sT, fun H7 s7 => ?_⟩
      refine ⟨_, s7 _ _ (Cm.same_new nT _ _ hD), Cm.smallL (by rw [List.length_map]; omega), Cm.same_mut (sT.trans s7) nD, bs ++ [kcF hd y' x'], ?_, ?_, by rw [List.length_append]; simp only [List.length_cons, List.length_nil]; omega⟩
      · rw [upd_same, List.map_append]
        rfl
      · have ez : (o.2.1.zip g.2.1)[j]? = some (x', y') := List.getElem?_zip_eq_some.mpr ⟨hx', hy'⟩
        rw [List.take_succ, ez, List.map_append, eb]
        rfl
    · rw [List.length_map, List.length_map, List.take_of_length_le (by rw [List.length_zip]; exact Nat.le_refl _)] at eb
      refine ⟨D, bs, rfl, SqL.of hD, ?_⟩
      have q1 := q Hj (s1.trans sJ)
      have ez : stF hd o g = bs.all id := by
        unfold stF
        rw [decide_eq_true e, decide_eq_true el, e3, eb, List.all_map]
        rfl
      rw [ez] at q1
      exact q1
def spCF (P : Program) (w : World) (K : PySem.W.Frag) : Sp := fun vs H Q _ => ∃ (u v : V) (os gs : List Op) (d : Addr) (hd : List Pr), vs = [u, v, .ref d] ∧ Rp K H u (opsD os) ∧ Rp K H v (opsD gs) ∧ os.length ≤ 1000 ∧ (∀ o ∈ os, o.2.1.length ≤ 1000) ∧ HdAt P w K H d hd ∧ ∀ H', Same H H' → Q (.bl (cfF hd os gs)) H'
theorem ok_u_conforms (T : Txt K mg w a) : FnOk P w K mg base CX0 3 (He.ga K "_conforms") a.d_u_conforms ["operations", "wanted", "held"] (spCF P w K) := by
  have gk := ok_stands_for (P := P) (w := w) (base := base) T
  refine T.F_u_conforms.ok sc_u_conforms (fun vs H Q E h => ?_) (fun cdv A outer s H vs Q E hr h => ?_)
  · obtain ⟨_, _, _, _, _, _, rfl, _⟩ := h
    rfl
  · obtain ⟨u, v, os, gs, d, hd, rfl, ru, rv, lo, lk, hg, q⟩ := h
    refine ⟨_, PSs.nox (pss_cons (ps_for PassesOwn.never rfl (pi_tup (pv 1)) (pg_name (i := 3) sc_u_conforms.nd rfl (Or.inr rfl))
      (pss_one (ps_if (pt_not (pt_val (pe_callB (cr_any rfl) (by rfl) T.g_any boot_any (pa_cons (pe_lc (own := [("operation", 4)]) (g := gName 4) (tt := tYes)  (by rfl) sc_u_conforms.nd (pi_tup (pv 0)) (blkOk_by (own := [("operation", 4)]) (N := N_u_conforms) (sc := defScope s_u_conforms) (by decide +kernel)) (fun _ _ _ _ _ => pg_name (i := 4) sc_u_conforms.nd rfl (Or.inl rfl)) (fun _ _ _ _ _ => pts_nil) (fun _ _ _ _ _ => (pe_call gk (hr.mono (by omega)) (by rfl) T.g_stands_for T.F_stands_for.kp T.b_stands_for .nil pass0 (pa_cons (pv 4) (pa_cons (pv 3) (pa_cons (pv 2) pa_nil)))))) pa_nil)))) (pss_one (ps_ret pe_bl)) pss_nil)))
      (pss_one (ps_ret pe_bl))), ?_⟩
    rw [show L2.start N_u_conforms [u, v, .ref d] = [some u, some v, some (.ref d), none, none] from rfl]
    obtain ⟨c1, xs, rfl, hc1, rs1⟩ := ru.tup_inv
    obtain ⟨c2, ys, rfl, hc2, rs2⟩ := rv.tup_inv
    have l1 := rs1.len
    have l2 := rs2.len
    rw [List.length_map] at l1 l2
    refine ⟨_, rfl, c2, rfl, ⟨_, hc2⟩, ?_⟩
    refine for_tup (K := K) (a := c2) (xs := ys) (D := { nx := _, rt := Q }) (fun i σ Hi => ∃ x3 x4 : Option V, σ = [some (.ref c1), some (.ref c2), some (.ref d), x3, x4] ∧ Same H Hi ∧ (gs.take i).all (fun g => os.any fun o => stF hd o g) = true) ⟨none, none, rfl, Same.refl H, rfl⟩ (fun i σ Hi _ b => ?_) (fun i x σ Hi hx b => ?_) fun σ Hi b => ?_
    · obtain ⟨_, _, _, sI, _⟩ := b
      exact Cm.sameT sI hc2
    · obtain ⟨x3, x4, rfl, sI, al⟩ := b
      simp only [gName, List.set_cons_succ, List.set_cons_zero]
      have hi : i < gs.length := by
        have := (List.getElem?_eq_some_iff.mp hx).1
        omega
      obtain ⟨x', hx', rx⟩ := rs2.at_ (i := i) (d := opD gs[i]) (by rw [List.getElem?_map, List.getElem?_eq_getElem hi]; rfl)
      rw [hx] at hx'
      cases hx'
      have rx1 := rx.keep (Same.tups sI)
      have hc11 := Cm.sameT sI hc1
      refine ⟨_, rfl, c1, rfl, ⟨_, hc11⟩, fun D nD => ?_⟩
      refine lc_tup (K := K) (a := c1) (xs := xs) (fun j Hj => Same Hi Hj ∧ ∃ bs : List Bool, Hj D = some (.lst (bs.map V.bl)) ∧ bs = (os.take j).map (fun o => stF hd o gs[i]) ∧ bs.length ≤ j) ⟨Cm.same_new nD, [], upd_same, rfl, Nat.le_refl _⟩ (fun j Hj _ b => Cm.sameT b.1 hc11) (fun j y Hj hy ⟨sJ, bs, hD, eb, lb⟩ => ?_) fun Hj ⟨sJ, bs, hD, eb, lb⟩ => ?_
      · refine ⟨rfl, ?_⟩
        have hj : j < os.length := by
          have := (List.getElem?_eq_some_iff.mp hy).1
          omega
        obtain ⟨y', hy', ry⟩ := rs1.at_ (i := j) (d := opD os[j]) (by rw [List.getElem?_map, List.getElem?_eq_getElem hj]; rfl)
        rw [hy] at hy'
        cases hy'
        have sIJ := sI.trans sJ
        refine ⟨_, rfl, _, rfl, _, rfl, y, x, os[j], gs[i], d, hd, rfl, ry.keep (Same.tups sIJ), rx1.keep (Same.tups sJ), lk _ (List.getElem_mem hj), hg.keep sIJ, fun H7 s7 => ?_⟩
        refine ⟨_, s7 _ _ hD, Cm.smallL (by rw [List.length_map]; omega), Cm.same_mut (sJ.trans s7) nD, bs ++ [stF hd os[j] gs[i]], ?_, ?_, by rw [List.length_append]; simp only [List.length_cons, List.length_nil]; omega⟩
        · rw [upd_same, List.map_append]
          rfl
        · rw [List.take_succ, List.getElem?_eq_getElem hj, List.map_append, eb]
          rfl
      · rw [l1, List.take_length] at eb
        refine ⟨D, bs, rfl, SqL.of hD, _, rfl, Cm.itBn (fun e => ?_) fun e => ?_⟩
        · have q1 := q Hj (sI.trans sJ)
          have ez : cfF hd os gs = false := by
            unfold cfF
            refine List.all_eq_false.mpr ⟨gs[i], List.getElem_mem hi, ?_⟩
            rw [eb, List.any_map] at e
            exact Bool.eq_false_iff.mp e
          rw [ez] at q1
          exact q1
        · refine ⟨_, _, rfl, sI.trans sJ, ?_⟩
          rw [List.take_succ, List.getElem?_eq_getElem hi, List.all_append, al]
          rw [eb, List.any_map] at e
          simp only [Option.toList, List.all_cons, List.all_nil, Bool.and_true, Bool.true_and]
          exact e
    · obtain ⟨x3, x4, rfl, sI, al⟩ := b
      rw [l2, List.take_length] at al
      have q1 := q Hi sI
      rw [show cfF hd os gs = true from al] at q1
      exact q1
def look (tb : List (Str × List Op)) (n : Str) : List Op := ((tb.find? fun x => decide (x.1 = n)).map (·.2)).getD []
def allP (ns : List Str) : List Pr := ns.flatMap fun n => ns.map fun g => (n, g)
def stepF (tb : List (Str × List Op)) (hd : List Pr) : List Pr := hd.filter fun p => cfF hd (look tb p.1) (look tb p.2)
def grF (tb : List (Str × List Op)) : Nat → List Pr → List Pr
  | 0, hd => hd
  | n + 1, hd => if (stepF tb hd).length = hd.length then stepF tb hd else grF tb n (stepF tb hd)
/-! ### tables: names with operations -/
abbrev Tb := List (Str × List Op)
def tkv (tb : Tb) (vs : List V) : List (L2.Key × V) := List.zipWith (fun x v => ((.inr x.1 : L2.Key), v)) tb vs
structure TbOk (tb : Tb) : Prop where
  len : tb.length ≤ 50
  nd : (tb.map (·.1)).Nodup
  ops : ∀ x ∈ tb, x.2.length ≤ 1000 ∧ ∀ o ∈ x.2, o.2.1.length ≤ 1000
  sok : ∀ x ∈ tb, PyData.strOk x.1 = true
theorem tkv_at : ∀ {tb : Tb} {vs : List V} {i : Nat}, tb.length = vs.length → (tkv tb vs)[i]? = (match tb[i]?, vs[i]? with | some x, some v => some (.inr x.1, v) | _, _ => none)
  | [], [], i, _ => by cases i <;> rfl
  | x :: tb, v :: vs, 0, _ => rfl
  | x :: tb, v :: vs, i + 1, h => tkv_at (tb := tb) (vs := vs) (i := i) (Nat.succ.inj h)
  | [], _ :: _, _, h => nomatch h
  | _ :: _, [], _, h => nomatch h
theorem look_at {tb : Tb} (nd : (tb.map (·.1)).Nodup) {i : Nat} {x : Str × List Op} (h : tb[i]? = some x) : look tb x.1 = x.2 := by
  unfold look
  have mem := List.mem_of_getElem? h
  cases e : tb.find? fun y => decide (y.1 = x.1) with
  | none => exact absurd (decide_eq_true rfl) (List.find?_eq_none.mp e x mem)
  | some y =>
    have h1 : y.1 = x.1 := by simpa using List.find?_some e
    have h2 := List.mem_of_find?_eq_some e
    obtain ⟨k, hk⟩ := List.mem_iff_getElem?.mp h2
    have lk := (List.getElem?_eq_some_iff.mp hk).1
    have li := (List.getElem?_eq_some_iff.mp h).1
    have ek := (List.getElem?_eq_some_iff.mp hk).2
    have ei := (List.getElem?_eq_some_iff.mp h).2
    have : k = i := by
      refine (List.getElem_inj (h₀ := by rw [List.length_map]; exact lk) (h₁ := by rw [List.length_map]; exact li) nd).mp ?_
      rw [List.getElem_map, List.getElem_map, ek, ei, h1]
    subst this
    rw [hk] at h
    rw [Option.some.inj h]
    rfl
theorem val_tkv : ∀ {tb : Tb} {vs : List V} {i : Nat} {x : Str × List Op} {v : V}, (tb.map (·.1)).Nodup → tb[i]? = some x → vs[i]? = some v → valV (tkv tb vs) (.inr x.1) = some v
  | [], _, i, _, _, _, h, _ => by simp at h
  | _ :: _, [], i, _, _, _, _, h => by simp at h
  | y :: tb, u :: vs, 0, x, v, _, h1, h2 => by
    cases h1
    cases h2
    show valV ((.inr y.1, u) :: tkv tb vs) (.inr y.1) = some u
    unfold valV
    rw [List.find?_cons_of_pos (by simp)]
    rfl
  | y :: tb, u :: vs, i + 1, x, v, nd, h1, h2 => by
    rw [List.map_cons, List.nodup_cons] at nd
    have ne : y.1 ≠ x.1 := fun z => nd.1 (by rw [z]; exact List.mem_map.mpr ⟨x, List.mem_of_getElem? (by simpa using h1), rfl⟩)
    show valV ((.inr y.1, u) :: tkv tb vs) (.inr x.1) = some v
    unfold valV
    rw [List.find?_cons_of_neg (by simp; exact ne)]
    exact val_tkv nd.2 (by simpa using h1) (by simpa using h2)
/-- a table, not locked -/
def TabAt (K : PySem.W.Frag) (H : Hp) (d : Addr) (tb : Tb) : Prop := ∃ vs, H d = some (.dK (tkv tb vs)) ∧ Rps K H vs (tb.map fun x => opsD x.2)
/-- locked or not -/
def TabR (K : PySem.W.Frag) (H : Hp) (d : Addr) (tb : Tb) : Prop := ∃ vs, Rd H d (.dK (tkv tb vs)) ∧ Rps K H vs (tb.map fun x => opsD x.2)
theorem TabAt.r {H : Hp} {d : Addr} {tb : Tb} (h : TabAt K H d tb) : TabR K H d tb := by
  obtain ⟨vs, h1, h2⟩ := h
  exact ⟨vs, .inl h1, h2⟩
theorem TabAt.same {H H' : Hp} {d : Addr} {tb : Tb} (s : Same H H') (h : TabAt K H d tb) : TabAt K H' d tb := by
  obtain ⟨vs, h1, h2⟩ := h
  exact ⟨vs, s _ _ h1, h2.keep (Same.tups s)⟩
theorem TabR.same {H H' : Hp} {d : Addr} {tb : Tb} (s : Same H H') (h : TabR K H d tb) : TabR K H' d tb := by
  obtain ⟨vs, h1, h2⟩ := h
  refine ⟨vs, ?_, h2.keep (Same.tups s)⟩
  rcases h1 with h1 | ⟨o, h1⟩
  · exact .inl (s _ _ h1)
  · exact .inr ⟨o, s _ _ h1⟩
theorem TabR.get {H : Hp} {d : Addr} {tb : Tb} (ok : TbOk tb) (h : TabR K H d tb) {x : Str × List Op} (hx : x ∈ tb) : ∃ v, DGet H d (.str x.1) (some v) ∧ Rp K H v (opsD x.2) ∧ look tb x.1 = x.2 := by
  obtain ⟨vs, h1, h2⟩ := h
  obtain ⟨i, hi⟩ := List.mem_iff_getElem?.mp hx
  obtain ⟨v, hv, rv⟩ := h2.at_ (i := i) (d := opsD x.2) (by rw [List.getElem?_map, hi]; rfl)
  exact ⟨v, .inl ⟨_, .inr x.1, h1, rfl, (val_tkv ok.nd hi hv).symm⟩, rv, look_at ok.nd hi⟩
theorem same_unlock {H H' : Hp} {d : Addr} {u x : HO} (h : H d = some u) (s : Same (L2.upd H d x) H') : Same H (L2.upd H' d u) := fun b o e => by
  by_cases z : b = d
  · subst z
    rw [h] at e
    cases e
    exact upd_same
  · exact (upd_ne z).trans (s _ _ ((upd_ne z).trans e))
theorem tk_at {H : Hp} {d : Addr} {u o : HO} (h : H d = some u) (n1 : ∀ xs, u ≠ .tup xs) (n2 : ∀ o xs, u ≠ .frz o (.tup xs)) : TK K H (L2.upd H d o) := fun a xs q => by
  rcases q with (q | ⟨ob, q⟩) | q
  · by_cases z : a = d
    · subst z
      rw [h] at q
      exact absurd (Option.some.inj q) (n1 xs)
    · exact .inl (.inl ((upd_ne z).trans q))
  · by_cases z : a = d
    · subst z
      rw [h] at q
      exact absurd (Option.some.inj q) (n2 ob xs)
    · exact .inl (.inr ⟨ob, (upd_ne z).trans q⟩)
  · exact .inr q
theorem put_new {l : List Pr} {p : Pr} (h : p ∉ l) : putK (l.map prV) (prK p) (.bl true) = (l ++ [p]).map prV := by
  unfold putK
  rw [if_neg, List.map_append]
  · rfl
  · intro z
    obtain ⟨q, hq, e⟩ := List.any_eq_true.mp z
    obtain ⟨r, hr, rfl⟩ := List.mem_map.mp hq
    exact h (by rw [← prK_inj (of_decide_eq_true e)]; exact hr)
def PrsAt (P : Program) (w : World) (K : PySem.W.Frag) (H : Hp) (d : Addr) (l : List Pr) : Prop := NDct P w K H d (l.map prV)
theorem PrsAt.keep {H H' : Hp} {d : Addr} {l : List Pr} (t : TK K H H') (e : H' d = H d) (h : PrsAt P w K H d l) : PrsAt P w K H' d l := NDct.keep t e h
theorem PrsAt.same {H H' : Hp} {d : Addr} {l : List Pr} (s : Same H H') (h : PrsAt P w K H d l) : PrsAt P w K H' d l := by
  obtain ⟨xs, h1, _⟩ := id h
  exact h.keep (TK.same s) (by rw [h1]; exact s _ _ h1)
theorem PrsAt.hd {H : Hp} {d : Addr} {l : List Pr} (h : PrsAt P w K H d l) : HdAt P w K H d l := .inl h
/-- what the iteration comes to -/
def gr0 (tb : Tb) : List Pr := grF tb ((allP (tb.map (·.1))).length + 1) (allP (tb.map (·.1)))
def spGr (P : Program) (w : World) (K : PySem.W.Frag) : Sp := fun vs H Q _ => ∃ (d : Addr) (tb : Tb), vs = [.ref d] ∧ TabAt K H d tb ∧ TbOk tb ∧
  ∀ (H' : Hp) (p : Addr), Same H H' → PrsAt P w K H' p (gr0 tb) → (gr0 tb).Nodup → Q (.ref p) H'
theorem mem_allP {ns : List Str} {p : Pr} : p ∈ allP ns ↔ p.1 ∈ ns ∧ p.2 ∈ ns := by
  unfold allP
  rw [List.mem_flatMap]
  constructor
  · rintro ⟨n, hn, h⟩
    obtain ⟨g, hg, rfl⟩ := List.mem_map.mp h
    exact ⟨hn, hg⟩
  · rintro ⟨h1, h2⟩
    exact ⟨p.1, h1, List.mem_map.mpr ⟨p.2, h2, rfl⟩⟩
theorem allP_succ {ns : List Str} {i : Nat} {x : Str} (h : ns[i]? = some x) : (ns.take (i + 1)).flatMap (fun n => ns.map fun g => (n, g)) = (ns.take i).flatMap (fun n => ns.map fun g => (n, g)) ++ ns.map fun g => (x, g) := by
  rw [List.take_succ, h, List.flatMap_append]
  show _ ++ List.flatMap _ [x] = _
  rw [List.flatMap_cons, List.flatMap_nil, List.append_nil]
theorem fresh_pr {ns : List Str} (nd : ns.Nodup) {i j : Nat} {x y : Str} (hx : ns[i]? = some x) (hy : ns[j]? = some y) : (x, y) ∉ (ns.take i).flatMap (fun n => ns.map fun g => (n, g)) ++ (ns.take j).map fun g => (x, g) := by
  have no : ∀ {k : Nat} {z : Str}, ns[k]? = some z → z ∉ ns.take k := fun {k z} hz hm => by
    obtain ⟨l, hl⟩ := List.mem_iff_getElem?.mp hm
    rw [List.getElem?_take] at hl
    split at hl
    · rename_i lt
      have a1 := List.getElem?_eq_some_iff.mp hz
      have a2 := List.getElem?_eq_some_iff.mp hl
      have := (List.getElem_inj (h₀ := a2.1) (h₁ := a1.1) nd).mp (a2.2.trans a1.2.symm)
      omega
    · cases hl
  intro h
  rcases List.mem_append.mp h with h | h
  · obtain ⟨n, hn, h⟩ := List.mem_flatMap.mp h
    obtain ⟨g, _, e⟩ := List.mem_map.mp h
    have e1 := congrArg Prod.fst e
    exact no hx (by rw [← (show n = x from e1)]; exact hn)
  · obtain ⟨g, hg, e⟩ := List.mem_map.mp h
    have e1 := congrArg Prod.snd e
    exact no hy (by rw [← (show g = y from e1)]; exact hg)
theorem allP_nodup {ns : List Str} (nd : ns.Nodup) : (allP ns).Nodup := by
  have go : ∀ i, i ≤ ns.length → ((ns.take i).flatMap (fun n => ns.map fun g => (n, g))).Nodup := by
    intro i
    induction i with
    | zero => intro _; exact List.nodup_nil
    | succ i ih =>
      intro h
      have hx : ns[i]? = some ns[i] := List.getElem?_eq_getElem (by omega)
      rw [allP_succ hx]
      have go2 : ∀ j, j ≤ ns.length → ((ns.take i).flatMap (fun n => ns.map fun g => (n, g)) ++ (ns.take j).map fun g => (ns[i], g)).Nodup := by
        intro j
        induction j with
        | zero => intro _; rw [List.take_zero, List.map_nil, List.append_nil]; exact ih (by omega)
        | succ j ih2 =>
          intro hj
          have hy : ns[j]? = some ns[j] := List.getElem?_eq_getElem (by omega)
          rw [List.take_succ, hy, List.map_append, ← List.append_assoc]
          refine List.nodup_append.mpr ⟨ih2 (by omega), by simp, ?_⟩
          intro a ha b hb e
          have hb : b = (ns[i], ns[j]) := by simpa using hb
          rw [e, hb] at ha
          exact fresh_pr nd hx hy ha
      have := go2 ns.length (Nat.le_refl _)
      rw [List.take_length] at this
      exact this
  have := go ns.length (Nat.le_refl _)
  rw [List.take_length] at this
  exact this
theorem allP_len (ns l : List Str) : (l.flatMap (fun n => ns.map fun g => (n, g))).length = l.length * ns.length := by
  induction l with
  | nil => simp
  | cons a r ih => rw [List.flatMap_cons, List.length_append, ih, List.length_map, List.length_cons, Nat.succ_mul, Nat.add_comm]
/-- all stays but what stands at kp, which is no tuple -/
theorem tk_keepN {H H' : Hp} {c : Addr} {u : HO} (k : Keep c H H') (h : H c = some u) (n1 : ∀ xs, u ≠ .tup xs) (n2 : ∀ o xs, u ≠ .frz o (.tup xs)) : TK K H H' := fun a xs q => by
  rcases q with (q | ⟨ob, q⟩) | q
  · by_cases z : a = c
    · subst z
      rw [h] at q
      exact absurd (Option.some.inj q) (n1 xs)
    · exact .inl (.inl (k _ _ q z))
  · by_cases z : a = c
    · subst z
      rw [h] at q
      exact absurd (Option.some.inj q) (n2 ob xs)
    · exact .inl (.inr ⟨ob, k _ _ q z⟩)
  · exact .inr q
/-- the pairs of the first i that stay, as far as l tells -/
def stI (tb : Tb) (l : List Pr) (i : Nat) : List Pr := (l.take i).filter fun p => cfF l (look tb p.1) (look tb p.2)
theorem stI_succ {tb : Tb} {l : List Pr} {i : Nat} {p : Pr} (h : l[i]? = some p) : stI tb l (i + 1) = stI tb l i ++ (if cfF l (look tb p.1) (look tb p.2) = true then [p] else []) := by
  unfold stI
  rw [List.take_succ, h, List.filter_append]
  congr 1
  show List.filter _ [p] = _
  by_cases z : cfF l (look tb p.1) (look tb p.2) = true
  · rw [if_pos z]
    simp [List.filter, z]
  · rw [if_neg z]
    simp [List.filter, Bool.eq_false_iff.mpr z]
theorem stI_fresh {tb : Tb} {l : List Pr} (nd : l.Nodup) {i : Nat} {p : Pr} (h : l[i]? = some p) : p ∉ stI tb l i := fun hm => by
  have hm := (List.mem_filter.mp hm).1
  obtain ⟨k, hk⟩ := List.mem_iff_getElem?.mp hm
  rw [List.getElem?_take] at hk
  split at hk
  · rename_i lt
    have a1 := List.getElem?_eq_some_iff.mp h
    have a2 := List.getElem?_eq_some_iff.mp hk
    have := (List.getElem_inj (h₀ := a2.1) (h₁ := a1.1) nd).mp (a2.2.trans a1.2.symm)
    omega
  · cases hk
theorem ok_greatest (T : Txt K mg w a) : FnOk P w K mg base CX0 4 (He.ga K "_greatest") a.d_greatest ["interfaces"] (spGr P w K) := by
  have gk := ok_u_conforms (P := P) (w := w) (base := base) T
  refine T.F_greatest.ok sc_greatest (fun vs H Q E h => ?_) (fun cdv A outer s H vs Q E hr h => ?_)
  · obtain ⟨_, _, rfl, _⟩ := h
    rfl
  · obtain ⟨d, tb, rfl, ht, ok, q⟩ := h
    refine ⟨_, PSs.nox (pss_cons (ps_lock (NDc2.ps_setNdc2 (i := 3) (own := [("name", 1), ("goal", 2)]) (vs1 := [2]) (g := gName 1) (g1 := gName 2) (tk := (tTup (tCons (tVar 1) (tCons (tVar 2) tNil)))) (tv := (tC (.bl true))) (by rfl) sc_greatest.nd rfl rfl (NDc2.sw_dict rfl rfl rfl (by decide +kernel)) (ND.nu_of hr) (pi_keys (pv 0)) (blkOk_by (own := [("name", 1), ("goal", 2)]) (N := N_greatest) (sc := defScope s_greatest) (by decide +kernel)) (by decide) (fun _ _ _ _ _ => (pg_name (i := 1) sc_greatest.nd rfl (Or.inl rfl))) (fun _ _ _ _ _ => (pi_keys (pv 0))) (fun _ _ _ _ _ => (pg_name (i := 2) sc_greatest.nd rfl (Or.inl rfl))) (fun _ _ _ _ _ => (pe_tup (pa_cons (pv 1) (pa_cons (pv 2) pa_nil)))) (fun _ _ _ _ _ => pe_bl)))
      (pss_one (ps_while PassesOwn.never (pt_val pe_bl)
      (pss_cons (ps_set (i := 4) sc_greatest.nd rfl (Or.inl rfl) ND.pe_nnew)
      (pss_cons (ps_lock (ps_for PassesOwn.never rfl (NKey.pi_nkeys (pv 3)) (pg_tup (by rfl) (pgs_cons (pg_name (i := 1) sc_greatest.nd rfl (Or.inl rfl)) (pgs_cons (pg_name (i := 2) sc_greatest.nd rfl (Or.inl rfl)) pgs_nil)))
      (pss_one (ps_if (pt_val (pe_call gk (hr.mono (by omega)) (by rfl) T.g_u_conforms T.F_u_conforms.kp T.b_u_conforms .nil pass0 (pa_cons (pe_dget (hu_of hr) (pv 0) (pv 1) (fun _ _ => rfl)) (pa_cons (pe_dget (hu_of hr) (pv 0) (pv 2) (fun _ _ => rfl)) (pa_cons (pv 3) pa_nil))))) (pss_one (ND.ps_nput (ND.nu_of hr) (pv 4) (pe_tup (pa_cons (pv 1) (pa_cons (pv 2) pa_nil))) pe_bl rfl)) pss_nil))))
      (pss_cons (ps_if (pt_cmpR op_eq (pe_callB ListK.call_lenN (by rfl) T.g_len boot_len (pa_cons (pv 4) pa_nil)) (pe_callB ListK.call_lenN (by rfl) T.g_len boot_len (pa_cons (pv 3) pa_nil)) (nomark _)) (pss_one (ps_ret (pv 4))) pss_nil)
      (pss_one (ps_set (i := 3) sc_greatest.nd rfl (Or.inl rfl) (pv 4))))))))), ?_⟩
    rw [show L2.start N_greatest [.ref d] = [some (.ref d), none, none, none, none] from rfl]
    obtain ⟨vs, hd, rv⟩ := id ht
    have lv := rv.len
    rw [List.length_map] at lv
    refine ⟨d, _, hd, True.intro, fun od => ?_⟩
    have hd1 : (L2.upd H d (.frz od (.dK (tkv tb vs)))) d = some (.frz od (.dK (tkv tb vs))) := upd_same
    have un : ∀ {H' : Hp}, Same (L2.upd H d (.frz od (.dK (tkv tb vs)))) H' → Same H (L2.upd H' d (.dK (tkv tb vs))) := fun s => same_unlock hd s
    generalize L2.upd H d (.frz od (.dK (tkv tb vs))) = H1 at *
    have lk : (tkv tb vs).length = tb.length := by unfold tkv; rw [List.length_zipWith, lv]; exact Nat.min_self _
    have ka : ∀ {i : Nat} {k : L2.Key} {v : V}, (tkv tb vs)[i]? = some (k, v) → ∃ x, (tb.map (·.1))[i]? = some x ∧ k = .inr x := fun {i k v} e => by
      rw [tkv_at lv.symm] at e
      cases e1 : tb[i]? with
      | none => rw [e1] at e; cases e
      | some x =>
        cases e2 : vs[i]? with
        | none => rw [e1, e2] at e; cases e
        | some u =>
          rw [e1, e2] at e
          cases e
          exact ⟨x.1, by rw [List.getElem?_map, e1]; rfl, rfl⟩
    refine ⟨_, rfl, d, od, rfl, .inl ⟨_, hd1, fun D o nD gD => ?_⟩⟩
    have lm : (tb.map (·.1)).length = tb.length := List.length_map ..
    have l50 := ok.len
    have nd := ok.nd
    have e0 : (tb.map (·.1)).take 0 = [] := rfl
    generalize hns : tb.map (·.1) = ns at *
    have put : ∀ {Hx : Hp} {l : List Pr} {x y : Str} {p : Addr}, PrsAt P w K Hx D l → Hx p = none → (x, y) ∉ l → l.length ≤ 2500 → ∀ {Nx : Hp → Prop}, (∀ o, PrsAt P w K (L2.upd (L2.upd Hx p (.tup [.str x, .str y])) D o) D (l ++ [(x, y)]) → Nx (L2.upd (L2.upd Hx p (.tup [.str x, .str y])) D o)) →
        ∃ kvs k, NDct P w K (L2.upd Hx p (.tup [.str x, .str y])) D kvs ∧ KeyAt K (L2.upd Hx p (.tup [.str x, .str y])) (.ref p) k ∧ kvs.length < sizeLine ∧ ∀ o, NDct P w K (L2.upd (L2.upd Hx p (.tup [.str x, .str y])) D o) D (putK kvs k (.bl true)) → Nx (L2.upd (L2.upd Hx p (.tup [.str x, .str y])) D o) := fun {Hx l x y p} g np hn hl Nx go => by
      refine ⟨l.map prV, prK (x, y), PrsAt.same (Cm.same_new np) g, pr_key (p := (x, y)) (Rp.made np (.cons (.str x) (.cons (.str y) .nil))), Cm.smallL (by rw [List.length_map]; omega), fun o g2 => go o ?_⟩
      rw [put_new hn] at g2
      exact g2
    refine NDc2.outer_it walk_keys (fun i Hi => Same H1 Hi ∧ PrsAt P w K Hi D ((ns.take i).flatMap fun n => ns.map fun g => (n, g))) ⟨Cm.same_mut (Same.refl H1) nD, gD⟩ (fun i Hi _ b => b.1 _ _ hd1) (fun i x Hi Hi' hi ⟨sI, gI⟩ ⟨eH, k, v, hk, ex⟩ => ?_) fun Hn ⟨sN, gN⟩ => ?_
    · subst eH
      obtain ⟨xn, hx, rfl⟩ := ka hk
      subst ex
      have li : i < ns.length := by omega
      refine ⟨rfl, _, rfl, d, od, rfl, .inl ⟨_, sI _ _ hd1, ?_⟩⟩
      refine NDc2.inner_it walk_keys (fun j Hj => Same H1 Hj ∧ PrsAt P w K Hj D ((ns.take i).flatMap (fun n => ns.map fun g => (n, g)) ++ (ns.take j).map fun g => (xn, g))) ⟨sI, by rw [List.take_zero, List.map_nil, List.append_nil]; exact gI⟩ (fun j Hj _ b => b.1 _ _ hd1) (fun j y Hj Hj' hj ⟨sJ, gJ⟩ ⟨eH, k2, v2, hk2, ey⟩ => ?_) fun Hj ⟨sJ, gJ⟩ => ?_
      · subst eH
        obtain ⟨yn, hy, rfl⟩ := ka hk2
        subst ey
        refine ⟨rfl, _, rfl, _, rfl, Cm.small (by show 2 ≤ 100000; decide), fun p np => ?_⟩
        refine put (Nx := fun Hj => Same H1 Hj ∧ PrsAt P w K Hj D ((ns.take i).flatMap (fun n => ns.map fun g => (n, g)) ++ (ns.take (j + 1)).map fun g => (xn, g))) gJ np (fresh_pr nd hx hy) ?_ fun o g2 => ⟨Cm.same_mut (sJ.trans (Cm.same_new np)) nD, ?_⟩
        · have b1 : ((ns.take i).flatMap (fun n => ns.map fun g => (n, g))).length ≤ i * ns.length := by
            have : ∀ l : List Str, (l.flatMap (fun n => ns.map fun g => (n, g))).length = l.length * ns.length := fun l => by
              induction l with
              | nil => simp
              | cons a r ih => rw [List.flatMap_cons, List.length_append, ih, List.length_map, List.length_cons, Nat.succ_mul, Nat.add_comm]
            rw [this, List.length_take]
            exact Nat.mul_le_mul_right _ (Nat.min_le_left ..)
          have lj : j < ns.length := by omega
          have b2 : i * ns.length + ns.length ≤ ns.length * ns.length := by
            rw [← Nat.succ_mul]
            exact Nat.mul_le_mul_right _ li
          have b3 : ns.length * ns.length ≤ 50 * 50 := Nat.mul_le_mul (by omega) (by omega)
          rw [List.length_append, List.length_map, List.length_take]
          omega
        · rw [List.append_assoc] at g2
          have e1 : (ns.take (j + 1)).map (fun g => (xn, g)) = (ns.take j).map (fun g => (xn, g)) ++ [(xn, yn)] := by
            rw [List.take_succ, hy, List.map_append]
            rfl
          rw [e1]
          exact g2
      · rw [lk, ← lm, List.take_length, ← allP_succ hx] at gJ
        exact ⟨sJ, gJ⟩
    rw [lk, ← lm, List.take_length] at gN
    refine ⟨sN _ _ hd1, ?_⟩
    have nDd : D ≠ d := fun z => by rw [z, hd1] at nD; cases nD
    have gA : PrsAt P w K (L2.upd Hn d (.dK (tkv tb vs))) D (allP ns) := PrsAt.keep (tk_at (sN _ _ hd1) (fun _ z => by cases z) fun _ _ z => by cases z) (upd_ne nDd) gN
    have s2 := un sN
    have ht2 := ht.same s2
    generalize L2.upd Hn d (.dK (tkv tb vs)) = H2 at *
    simp only [List.set_cons_succ, List.set_cons_zero]
    have ndA := allP_nodup nd
    have lA : (allP ns).length ≤ 2500 := by
      unfold allP
      rw [allP_len]
      have h50 : ns.length ≤ 50 := by omega
      exact Nat.mul_le_mul h50 h50
    have look2 : ∀ {H' : Hp} {x : Str}, TabR K H' d tb → x ∈ ns → ∃ v, DGet H' d (.str x) (some v) ∧ Rp K H' v (opsD (look tb x)) ∧ (look tb x).length ≤ 1000 ∧ ∀ o ∈ look tb x, o.2.1.length ≤ 1000 := fun {H' x} ht hx => by
      rw [← hns] at hx
      obtain ⟨z, hz, rfl⟩ := List.mem_map.mp hx
      obtain ⟨v, g1, g2, g3⟩ := ht.get ok hz
      rw [g3]
      exact ⟨v, g1, g2, ok.ops z hz⟩
    generalize hR : grF tb ((allP ns).length + 1) (allP ns) = R at *
    have eR : gr0 tb = R := by
      unfold gr0
      rw [hns]
      exact hR
    refine ⟨fun m σ Hw => ∃ (x1 x2 x4 : Option V) (c : Addr) (l : List Pr), σ = [some (.ref d), x1, x2, some (.ref c), x4] ∧ Same H Hw ∧ PrsAt P w K Hw c l ∧ l.Nodup ∧ l.length = m ∧ (∀ p ∈ l, p ∈ allP ns) ∧ l.length ≤ (allP ns).length ∧ ∃ n, m < n ∧ grF tb n l = R, ⟨_, none, none, none, D, _, rfl, s2, gA, ndA, rfl, fun p h => h, Nat.le_refl _, _, Nat.lt_succ_self _, hR⟩, fun m σ Hw ⟨x1, x2, x4, c, l, e, sw, gc, ndl, em, sub, le, n, hn, hg⟩ => ?_⟩
    subst e
    refine ⟨true, rfl, Cm.itB (fun _ => ?_) fun z => nomatch z⟩
    refine ⟨_, fun σ' H' h => h, ?_⟩
    refine fun kp o nk gk0 => ?_
    simp only [gName, List.set_cons_succ, List.set_cons_zero]
    have sk := sw.trans (Cm.same_new (o := o) nk)
    have gc1 := gc.same (Cm.same_new (o := o) nk)
    have nkH : H kp = none := by
      cases z : H kp with
      | none => rfl
      | some u => rw [sw _ _ z] at nk; cases nk
    obtain ⟨xs, hc, kn⟩ := id gc1
    have ckp : c ≠ kp := fun z => by
      obtain ⟨_, hc0, _⟩ := gc
      rw [z, nk] at hc0
      cases hc0
    have hkp : PrsAt P w K (L2.upd Hw kp o) kp [] := gk0
    generalize L2.upd Hw kp o = Hk at *
    refine ⟨c, _, hc, True.intro, fun oc => ?_⟩
    have unl : ∀ {H' : Hp}, Same (L2.upd Hk c (.frz oc (ndO P w xs c))) H' → Same Hk (L2.upd H' c (ndO P w xs c)) := fun s => same_unlock hc s
    have tkf : TK K Hk (L2.upd Hk c (.frz oc (ndO P w xs c))) := TK.upd (by rw [hc]; exact True.intro)
    have hcf : (L2.upd Hk c (.frz oc (ndO P w xs c))) c = some (.frz oc (ndO P w xs c)) := upd_same
    have hkf : (L2.upd Hk c (.frz oc (ndO P w xs c))) kp = Hk kp := upd_ne ckp.symm
    obtain ⟨ks, hkk, _⟩ := id hkp
    have hkf2 := hkf.trans hkk
    have gkf : PrsAt P w K (L2.upd Hk c (.frz oc (ndO P w xs c))) kp (stI tb l 0) := PrsAt.keep tkf hkf hkp
    have dc : d ≠ c := fun z => by
      have := sk _ _ hd
      rw [z, hc] at this
      cases this
    have dkp : d ≠ kp := fun z => by
      rw [z, nkH] at hd
      cases hd
    have hdf : (L2.upd Hk c (.frz oc (ndO P w xs c))) d = some (.dK (tkv tb vs)) := (upd_ne dc).trans (sk _ _ hd)
    have rvf : Rps K (L2.upd Hk c (.frz oc (ndO P w xs c))) vs (tb.map fun x => opsD x.2) := rps_keep ((TK.same sk).trans tkf) rv
    have knf := KN.keep tkf kn
    have offc : ∀ {b : Addr} {o : HO}, b ≠ c → Hk b = some o → (L2.upd Hk c (.frz oc (ndO P w xs c))) b = some o := fun n h => (upd_ne n).trans h
    generalize L2.upd Hk c (.frz oc (ndO P w xs c)) = Hf at *
    refine ⟨_, rfl, c, oc, _, rfl, ⟨xs, hcf, knf⟩, ?_⟩
    have lm2 : (l.map prV).length = l.length := List.length_map ..
    refine for_it (D := ⟨_, _, _, _⟩) NKey.walk_nkeys (fun i σ Hi => ∃ x1 x2 : Option V, σ = [some (.ref d), x1, x2, some (.ref c), some (.ref kp)] ∧ Keep kp Hf Hi ∧ PrsAt P w K Hi kp (stI tb l i)) ⟨x1, x2, rfl, fun _ _ h _ => h, gkf⟩ (fun i σ Hi _ ⟨_, _, _, kI, gI⟩ => ?_) (fun i y σ Hi Hi' hi ⟨y1, y2, e, kI, gI⟩ ⟨eH, k, v, hk, ky⟩ => ?_) fun σ Hn ⟨y1, y2, e, kN, gN⟩ => ?_
    · exact ⟨xs, kI _ _ hcf ckp, KN.keep (tk_keepN kI hkf2 (fun _ z => by cases z) fun _ _ z => by cases z) knf⟩
    · subst e eH
      have tkI : TK K Hf Hi' := tk_keepN kI hkf2 (fun _ z => by cases z) fun _ _ z => by cases z
      rw [List.getElem?_map] at hk
      obtain ⟨p, hp, e⟩ := Option.map_eq_some_iff.mp hk
      have ek : k = prK p := (congrArg Prod.fst e).symm
      subst ek
      have mp := mem_allP.mp (sub p (List.mem_of_getElem? hp))
      obtain ⟨t, zs, rfl, hts, rs⟩ := (show Rp K Hi' y (.tuple [.str p.1, .str p.2]) from ky.1).tup_inv
      obtain ⟨w1, zs, rfl, r1, rs⟩ := rs.cons_inv
      obtain ⟨w2, zs, rfl, r2, rs⟩ := rs.cons_inv
      obtain rfl := rs.nil_inv
      obtain rfl := r1.str_inv
      obtain rfl := r2.str_inv
      refine ⟨t, _, rfl, hts, rfl, _, _, rfl, _, _, rfl, rfl, ?_⟩
      simp only [gName, List.set_cons_succ, List.set_cons_zero]
      have htI : TabR K Hi' d tb := ⟨vs, .inl (kI _ _ hdf dkp), rps_keep tkI rvf⟩
      obtain ⟨v1, g1, g2, g3, g4⟩ := look2 htI mp.1
      obtain ⟨v2, g5, g6, g7, g8⟩ := look2 htI mp.2
      have hdI : HdAt P w K Hi' c l := .inr ⟨oc, xs, kI _ _ hcf ckp, KN.keep tkI knf⟩
      refine ⟨_, rfl, _, rfl, d, v1, rfl, g1, _, rfl, _, rfl, d, v2, rfl, g5, _, rfl, v1, v2, _, _, c, l, rfl, g2, g6, g3, g4, hdI, fun H5 s5 => ⟨_, rfl, Cm.itB (fun e => ?_) fun e => ?_⟩⟩
      · refine ⟨_, rfl, _, rfl, _, rfl, Cm.small (by show 2 ≤ 100000; decide), fun tp ntp => ?_⟩
        have s6 := s5.trans (Cm.same_new (o := .tup [.str p.1, .str p.2]) ntp)
        have g6 := gI.same s6
        refine ⟨kp, _, prK p, rfl, g6, pr_key (Rp.made ntp (.cons (.str _) (.cons (.str _) .nil))), Cm.smallL (by rw [List.length_map]; have := List.length_filter_le (fun p => cfF l (look tb p.1) (look tb p.2)) (l.take i); unfold stI; rw [List.length_take] at this; omega), fun o g => ⟨_, _, rfl, fun b ob hb nb => ?_, ?_⟩⟩
        · exact (upd_ne nb).trans (s6 _ _ (kI _ _ hb nb))
        · rw [put_new (stI_fresh ndl hp)] at g
          rw [stI_succ hp, if_pos e]
          exact g
      · refine ⟨_, _, rfl, fun b ob hb nb => s5 _ _ (kI _ _ hb nb), ?_⟩
        rw [stI_succ hp, if_neg (by rw [e]; decide), List.append_nil]
        exact gI.same s5
    · subst e
      have eS : stI tb l (l.map prV).length = stepF tb l := by
        unfold stI stepF
        rw [lm2, List.take_length]
      rw [eS] at gN
      refine ⟨kN _ _ hcf ckp, ?_⟩
      have g3 : PrsAt P w K (L2.upd Hn c (ndO P w xs c)) kp (stepF tb l) := PrsAt.keep (tk_at (kN _ _ hcf ckp) (fun _ z => by cases z) fun o z => by
        intro q
        unfold ndO at q
        cases q) (upd_ne ckp.symm) gN
      have s3 : Same H (L2.upd Hn c (ndO P w xs c)) := fun b o hb => by
        have nb : b ≠ kp := fun z => by rw [z, nkH] at hb; cases hb
        have h1 := sk _ _ hb
        by_cases z : b = c
        · subst z
          rw [hc] at h1
          cases h1
          exact upd_same
        · exact (upd_ne z).trans (kN _ _ (offc z h1) nb)
      have gc3 : PrsAt P w K (L2.upd Hn c (ndO P w xs c)) c l := by
        have t1 : TK K Hn (L2.upd Hn c (ndO P w xs c)) := tk_at (kN _ _ hcf ckp) (fun _ z => by cases z) fun o z => by
          intro q
          unfold ndO at q
          cases q
        exact ⟨xs, upd_same, KN.keep ((tk_keepN kN hkf2 (fun _ z => by cases z) fun _ _ z => by cases z).trans t1) knf⟩
      generalize L2.upd Hn c (ndO P w xs c) = H3 at *
      have ndS : (stepF tb l).Nodup := ndl.sublist List.filter_sublist
      have lS : (stepF tb l).length ≤ l.length := List.length_filter_le _ _
      obtain ⟨n', rfl⟩ : ∃ n', n = n' + 1 := ⟨n - 1, by omega⟩
      have eg : grF tb (n' + 1) l = if (stepF tb l).length = l.length then stepF tb l else grF tb n' (stepF tb l) := rfl
      rw [eg] at hg
      refine ⟨_, rfl, kp, _, rfl, g3, _, rfl, c, _, rfl, gc3, rfl, _, rfl, Cm.itEI (fun e => ?_) fun e => ?_⟩
      · rw [List.length_map, List.length_map] at e
        rw [if_pos (Int.ofNat.inj e)] at hg
        have e5 : stepF tb l = gr0 tb := hg.trans eR.symm
        rw [e5] at g3 ndS
        exact ⟨_, rfl, q H3 kp s3 g3 ndS⟩
      · rw [List.length_map, List.length_map] at e
        have ne : ¬ (stepF tb l).length = l.length := fun z => e (by rw [z])
        rw [if_neg ne] at hg
        exact ⟨_, rfl, (stepF tb l).length, by omega, _, _, _, kp, stepF tb l, rfl, s3, g3, ndS, rfl, fun p hp => sub p (List.mem_filter.mp hp).1, by omega, n', by omega, hg⟩
/-! ### programs, as far as kinds go -/
abbrev Ig := Str × List Op
def blkD : PyData := .tuple [.tuple [.str "return", .tuple [.str "nil"]]]
def pnm (n : Nat) : List Str := (List.range n).map fun j : Nat => ("p" : Str) ++ Str.ofString (toString ((j : Nat) : Int))
def pairsD (ks : List Str) : List PyData := List.zipWith (fun n k => PyData.tuple [.str n, .str k]) (pnm ks.length) ks
def mopD (o : Op) : PyData := .tuple [.str o.1, .tuple (pairsD o.2.1), .str o.2.2, blkD]
def ifD (x : Ig) : PyData := .tuple [.str x.1, opsD x.2]
def mkD (x : Ig) : PyData := .tuple [.str x.1, .tuple [], .tuple [], .tuple (x.2.map mopD)]
def OpsB (os : List Op) : Prop := os.length ≤ 1000 ∧ ∀ o ∈ os, o.2.1.length ≤ 1000
theorem pairsD_at {ks : List Str} {j : Nat} {k : Str} (h : ks[j]? = some k) : ∃ n, (pairsD ks)[j]? = some (.tuple [.str n, .str k]) := by
  unfold pairsD
  have hj := (List.getElem?_eq_some_iff.mp h).1
  refine ⟨("p" : Str) ++ Str.ofString (toString ((j : Nat) : Int)), ?_⟩
  rw [List.getElem?_zipWith]
  unfold pnm
  rw [List.getElem?_map, List.getElem?_range hj, h]
  rfl
theorem pairsD_len (ks : List Str) : (pairsD ks).length = ks.length := by
  unfold pairsD pnm
  rw [List.length_zipWith, List.length_map, List.length_range]
  exact Nat.min_self _
theorem strs_rps {H : Hp} : ∀ ks : List Str, Rps K H (ks.map V.str) (ks.map PyData.str)
  | [] => .nil
  | k :: ks => .cons (.str k) (strs_rps ks)
def spOps (K : PySem.W.Frag) : Sp := fun vs H Q _ => ∃ (v : V) (x : Ig), vs = [v] ∧ (Rp K H v (ifD x) ∨ Rp K H v (mkD x)) ∧ OpsB x.2 ∧ ∀ v' H', Same H H' → Rp K H' v' (opsD x.2) → Q v' H'
theorem ok_operations_of (T : Txt K mg w a) : FnOk P w K mg base CX0 4 (He.ga K "operations_of") a.d_operations_of ["part"] (spOps K) := by
  refine T.F_operations_of.ok sc_operations_of (fun vs H Q E h => ?_) (fun cdv A outer s H vs Q E hr h => ?_)
  · obtain ⟨_, _, rfl, _⟩ := h
    rfl
  · obtain ⟨v, x, rfl, r, ⟨lo, lk⟩, q⟩ := h
    refine ⟨_, PSs.nox (pss_cons (ps_if (pt_cmpR op_eq (pe_callB call_len_seq (by rfl) T.g_len boot_len (pa_cons (pv 0) pa_nil)) pe_int (nomark _)) (pss_one (ps_ret (pe_ix ix_tup (pv 0) pe_int (fun _ _ => rfl)))) pss_nil)
      (pss_one (ps_ret (pe_callTy call_tuple_of (by rfl) T.g_tuple boot_tuple (pa_cons (pe_lc (own := [("name", 1), ("params", 2), ("result", 3), ("_", 4)]) (g := gTup K 4 (gCons (gName 1) (gCons (gName 2) (gCons (gName 3) (gCons (gName 4) gNil))))) (tt := tYes) (te := (tTup (tCons (tVar 1) (tCons (tCB (RComp.rTupOf K) (tCons (tLc (iTup K (tVar 2)) (gName 5) tYes (tOp (rIxT K) (tVar 5) (tC (.int 1))) [5]) tNil)) (tCons (tVar 3) tNil))))) (by rfl) sc_operations_of.nd (pi_tup (pe_ix ix_tup (pv 0) pe_int (fun _ _ => rfl))) (blkOk_by (own := [("name", 1), ("params", 2), ("result", 3), ("_", 4)]) (N := N_operations_of) (sc := defScope s_operations_of) (by decide +kernel)) (fun _ _ _ _ _ => (pg_tup (by rfl) (pgs_cons (pg_name (i := 1) sc_operations_of.nd rfl (Or.inl rfl)) (pgs_cons (pg_name (i := 2) sc_operations_of.nd rfl (Or.inl rfl)) (pgs_cons (pg_name (i := 3) sc_operations_of.nd rfl (Or.inl rfl)) (pgs_cons (pg_name (i := 4) sc_operations_of.nd rfl (Or.inl rfl)) pgs_nil)))))) (fun _ _ _ _ _ => pts_nil) (fun _ _ _ _ _ => (pe_tup (pa_cons (pv 1) (pa_cons (pe_callTy (Nst.tuple_of K rfl) (by rfl) T.g_tuple boot_tuple (pa_cons (pe_lc (own := [("param", 5)]) (g := gName 5) (tt := tYes) (te := (tOp (rIxT K) (tVar 5) (tC (.int 1)))) (by rfl) sc_operations_of.nd (pi_tup (pv 2)) (blkOk_by (own := [("param", 5)]) (by first | kernel_rfl | rfl)) (fun _ _ _ _ _ => pg_name (i := 5) sc_operations_of.nd rfl (Or.inl rfl)) (fun _ _ _ _ _ => pts_nil) (fun _ _ _ _ _ => (pe_ix (r := rIxT K) ix_tup (pv 5) pe_int (fun _ _ => rfl)))) pa_nil)) (pa_cons (pv 3) pa_nil)))))) pa_nil))))), ?_⟩
    rw [show L2.start N_operations_of [v] = [some v, none, none, none, none, none] from rfl]
    rcases r with r | r
    · obtain ⟨c, xs, rfl, hc, rs⟩ := r.tup_inv
      obtain ⟨w1, xs, rfl, r1, rs⟩ := rs.cons_inv
      obtain ⟨w2, xs, rfl, r2, rs⟩ := rs.cons_inv
      obtain rfl := rs.nil_inv
      exact ⟨_, rfl, c, _, rfl, .inr hc, rfl, _, rfl, Cm.itEI (fun _ => ⟨_, rfl, c, _, 1, _, rfl, rfl, hc, atI_nat (j := 1) rfl, q _ _ (Same.refl H) r2⟩) fun e => absurd rfl e⟩
    · obtain ⟨c, xs, rfl, hc, rs⟩ := r.tup_inv
      obtain ⟨w1, xs, rfl, r1, rs⟩ := rs.cons_inv
      obtain ⟨w2, xs, rfl, r2, rs⟩ := rs.cons_inv
      obtain ⟨w3, xs, rfl, r3, rs⟩ := rs.cons_inv
      obtain ⟨w4, xs, rfl, r4, rs⟩ := rs.cons_inv
      obtain rfl := rs.nil_inv
      obtain ⟨c4, ys, rfl, hc4, rs4⟩ := r4.tup_inv
      have l4 := rs4.len
      rw [List.length_map] at l4
      refine ⟨_, rfl, c, _, rfl, .inr hc, rfl, _, rfl, Cm.itEI (fun e => absurd (show ((4 : Nat) : Int) = 2 from e) (by decide)) fun _ => ?_⟩
      refine ⟨_, rfl, c, _, 3, _, rfl, rfl, hc, atI_nat (j := 3) rfl, c4, rfl, ⟨_, hc4⟩, fun D nD => ?_⟩
      refine lc_tup (K := K) (a := c4) (xs := ys) (fun j Hj => Same H Hj ∧ ∃ us, Hj D = some (.lst us) ∧ Rps K Hj us ((x.2.take j).map opD) ∧ us.length ≤ j) ⟨Cm.same_new nD, [], upd_same, .nil, Nat.le_refl _⟩ (fun j Hj _ b => Cm.sameT b.1 hc4) (fun j y Hj hy ⟨sJ, us, hD, ru, lu⟩ => ?_) fun Hj ⟨sJ, us, hD, ru, lu⟩ => ?_
      · have hj : j < x.2.length := by
          have := (List.getElem?_eq_some_iff.mp hy).1
          omega
        obtain ⟨y', hy', ry⟩ := rs4.at_ (i := j) (d := mopD x.2[j]) (by rw [List.getElem?_map, List.getElem?_eq_getElem hj]; rfl)
        rw [hy] at hy'
        cases hy'
        have ry1 := ry.keep (Same.tups sJ)
        have lo := lk _ (List.getElem_mem hj)
        generalize ho : x.2[j] = o at *
        obtain ⟨t, zs, rfl, hts, rt⟩ := ry1.tup_inv
        obtain ⟨a1, zs, rfl, q1, rt⟩ := rt.cons_inv
        obtain ⟨a2, zs, rfl, q2, rt⟩ := rt.cons_inv
        obtain ⟨a3, zs, rfl, q3, rt⟩ := rt.cons_inv
        obtain ⟨a4, zs, rfl, q4, rt⟩ := rt.cons_inv
        obtain rfl := rt.nil_inv
        obtain rfl := q1.str_inv
        obtain rfl := q3.str_inv
        obtain ⟨pp, ps, rfl, hpp, rp⟩ := q2.tup_inv
        have lp := rp.len
        rw [pairsD_len] at lp
        refine ⟨t, _, rfl, hts, rfl, _, _, rfl, _, _, rfl, _, _, rfl, _, _, rfl, rfl, rfl, ?_⟩
        refine ⟨_, rfl, _, rfl, pp, rfl, ⟨_, hpp⟩, fun D2 nD2 => ?_⟩
        refine lc_tup (K := K) (a := pp) (xs := ps) (fun i Hi => Same Hj Hi ∧ Hi D2 = some (.lst ((o.2.1.take i).map V.str))) ⟨Cm.same_new nD2, upd_same⟩ (fun i Hi _ b => Cm.sameT b.1 hpp) (fun i z Hi hz ⟨sI, hI⟩ => ?_) fun Hi ⟨sI, hI⟩ => ?_
        · have hi : i < o.2.1.length := by
            have := (List.getElem?_eq_some_iff.mp hz).1
            omega
          obtain ⟨n, hn⟩ := pairsD_at (List.getElem?_eq_getElem hi)
          obtain ⟨z', hz', rz⟩ := rp.at_ hn
          rw [hz] at hz'
          cases hz'
          obtain ⟨t2, zs, rfl, ht2, rt2⟩ := (rz.keep (Same.tups sI)).tup_inv
          obtain ⟨b1, zs, rfl, p1, rt2⟩ := rt2.cons_inv
          obtain ⟨b2, zs, rfl, p2, rt2⟩ := rt2.cons_inv
          obtain rfl := rt2.nil_inv
          obtain rfl := p2.str_inv
          refine ⟨rfl, ?_⟩
          refine ⟨_, rfl, t2, _, 1, _, rfl, rfl, ht2, atI_nat (j := 1) rfl, _, hI, Cm.smallL (by rw [List.length_map, List.length_take]; omega), Cm.same_mut sI nD2, ?_⟩
          rw [upd_same, List.take_succ, List.getElem?_eq_getElem hi, List.map_append]
          rfl
        · rw [lp, List.take_length] at hI
          refine ⟨D2, _, rfl, .inl ⟨SqL.of hI, fun l nl => ?_⟩⟩
          have s1 := sI.trans (Cm.same_new (o := .tup (o.2.1.map V.str)) nl)
          have rl : Rp K (L2.upd Hi l (.tup (o.2.1.map V.str))) (.ref l) (.tuple (o.2.1.map .str)) := Rp.made nl (strs_rps _)
          generalize L2.upd Hi l _ = Hl at *
          refine ⟨_, rfl, Cm.small (by show 3 ≤ 100000; decide), fun t3 nt3 => ?_⟩
          have s2 := s1.trans (Cm.same_new (o := .tup [.str o.1, .ref l, .str o.2.2]) nt3)
          have r3 : Rp K (L2.upd Hl t3 (.tup [.str o.1, .ref l, .str o.2.2])) (.ref t3) (opD o) := Rp.made nt3 (.cons (.str _) (.cons rl (.cons (.str _) .nil)))
          generalize L2.upd Hl t3 _ = Hm at *
          have hD3 := s2 _ _ hD
          have kt : Tups Hm (L2.upd Hm D (.lst (us ++ [.ref t3]))) := Keep.tups (fun b o hb ne => (upd_ne ne).trans hb) hD3
          refine ⟨us, hD3, Cm.smallL (by omega), Cm.same_mut (sJ.trans s2) nD, us ++ [.ref t3], upd_same, ?_, by rw [List.length_append]; simp only [List.length_cons, List.length_nil]; omega⟩
          have e1 : (x.2.take (j + 1)).map opD = (x.2.take j).map opD ++ [opD o] := by
            rw [List.take_succ, List.getElem?_eq_getElem hj, List.map_append, ho]
            rfl
          rw [e1]
          exact Rps.app ((ru.keep (Same.tups s2)).keep kt) (.cons (r3.keep kt) .nil)
      · rw [l4, List.take_length] at ru
        refine ⟨D, us, rfl, .inl ⟨SqL.of hD, fun l nl => ?_⟩⟩
        exact q _ _ (sJ.trans (Cm.same_new nl)) (Rp.made nl ru)
def progD (igs mks : List Ig) (b : PyData) : PyData := .tuple [.tuple (igs.map ifD), .tuple (mks.map mkD), b]
def prD (p : Pr) : PyData := .tuple [.str p.1, .str p.2]
/-- the pairs of a maker -/
def mkP (igs : List Ig) (hd : List Pr) (m : Ig) : List Pr := (igs.filter fun g => cfF hd m.2 g.2).map fun g => (m.1, g.1)
/-- all pairs -/
def relP (igs mks : List Ig) : List Pr := gr0 igs ++ mks.flatMap (mkP igs (gr0 igs))
def relD (igs mks : List Ig) : List PyData := SortN.srt ((relP igs mks).map prD)
theorem tab_snoc {tb : Tb} {i : Nat} {x : Ig} {us : List V} {v : V} (nd : (tb.map (·.1)).Nodup) (h : tb[i]? = some x) (hl : us.length = i) : putK (tkv (tb.take i) us) (.inr x.1) v = tkv (tb.take (i + 1)) (us ++ [v]) := by
  have e1 : tb.take (i + 1) = tb.take i ++ [x] := by
    rw [List.take_succ, h]
    rfl
  have li := (List.getElem?_eq_some_iff.mp h).1
  have lt : (tb.take i).length = us.length := by
    rw [List.length_take]
    omega
  have e2 : tkv (tb.take (i + 1)) (us ++ [v]) = tkv (tb.take i) us ++ [(.inr x.1, v)] := by
    unfold tkv
    rw [e1, List.zipWith_append lt]
    rfl
  rw [e2]
  unfold putK
  rw [if_neg]
  intro z
  obtain ⟨q, hq, e⟩ := List.any_eq_true.mp z
  have e := of_decide_eq_true e
  obtain ⟨k, hk⟩ := List.mem_iff_getElem?.mp hq
  have hk2 : (tkv (tb.take i) us)[k]? = some (q.1, q.2) := hk
  rw [tkv_at lt] at hk2
  cases e3 : (tb.take i)[k]? with
  | none => rw [e3] at hk2; cases hk2
  | some y =>
    cases e4 : us[k]? with
    | none => rw [e3, e4] at hk2; cases hk2
    | some u =>
      rw [e3, e4] at hk2
      have e5 : (.inr y.1 : L2.Key) = q.1 := congrArg (fun z => (z.getD (.inr "", .non)).1) hk2
      rw [e] at e5
      injection e5 with e5
      rw [List.getElem?_take] at e3
      split at e3
      · rename_i lt
        have hk := (List.getElem?_eq_some_iff.mp e3).1
        have : k = i := by
          refine (List.getElem_inj (h₀ := by rw [List.length_map]; exact hk) (h₁ := by rw [List.length_map]; exact li) nd).mp ?_
          rw [List.getElem_map, List.getElem_map, (List.getElem?_eq_some_iff.mp e3).2, (List.getElem?_eq_some_iff.mp h).2, e5]
        omega
      · cases e3
/-- the table of some parts -/
theorem tab_dc {x0 x1 : Option V} {te : TE} {c : Addr} {xs : List V} {igs : List Ig} {dat : Ig → PyData} {H : Hp} {Q : VK} (hte : ∀ R : VK, R (.ref c) H → te [x0, x1, none, none, none, none, none, none, none] H R)
    (hd : ∀ x, dat x = ifD x ∨ dat x = mkD x) (hc : SqT K H c xs) (rx : Rps K H xs (igs.map dat)) (ok : TbOk igs) (q : ∀ H' D, Same H H' → H D = none → TabAt K H' D igs → Q (.ref D) H') :
    tDc (iTup K te) (gName 7) tYes (tOp (rIxT K) (tVar 7) (tC (V.int 0))) (tCall (spOps K) [] E0 (tCons (tVar 7) tNil)) [7] [x0, x1, none, none, none, none, none, none, none] H Q := by
  have l1 := rx.len
  rw [List.length_map] at l1
  have l50 := ok.len
  refine hte _ ⟨c, rfl, ⟨_, hc⟩, fun D nD => ?_⟩
  refine dc_tup (K := K) (a := c) (xs := xs) (fun j Hj => Same H Hj ∧ ∃ us, Hj D = some (.dK (tkv (igs.take j) us)) ∧ Rps K Hj us ((igs.take j).map fun x => opsD x.2) ∧ us.length = j) ⟨Cm.same_new nD, [], upd_same, .nil, rfl⟩ (fun j Hj _ b => Cm.sameT b.1 hc) (fun j y Hj hy ⟨sJ, us, hD, ru, lu⟩ => ?_) fun Hj ⟨sJ, us, hD, ru, lu⟩ => ?_
  · refine ⟨rfl, ?_⟩
    have hj : j < igs.length := by
      have := (List.getElem?_eq_some_iff.mp hy).1
      omega
    obtain ⟨y', hy', ry⟩ := rx.at_ (i := j) (d := dat igs[j]) (by rw [List.getElem?_map, List.getElem?_eq_getElem hj]; rfl)
    rw [hy] at hy'
    cases hy'
    have ry1 := ry.keep (Same.tups sJ)
    have nm : ∃ t zs, y = .ref t ∧ SqT K Hj t (.str igs[j].1 :: zs) := by
      rcases hd igs[j] with e | e
      · rw [e] at ry1
        obtain ⟨t, zs, rfl, ht, rt⟩ := ry1.tup_inv
        obtain ⟨a1, zs, rfl, q1, rt⟩ := rt.cons_inv
        obtain rfl := q1.str_inv
        exact ⟨t, zs, rfl, ht⟩
      · rw [e] at ry1
        obtain ⟨t, zs, rfl, ht, rt⟩ := ry1.tup_inv
        obtain ⟨a1, zs, rfl, q1, rt⟩ := rt.cons_inv
        obtain rfl := q1.str_inv
        exact ⟨t, zs, rfl, ht⟩
    obtain ⟨t, zs, rfl, ht⟩ := nm
    have rr : Rp K Hj (.ref t) (ifD igs[j]) ∨ Rp K Hj (.ref t) (mkD igs[j]) := by
      rcases hd igs[j] with e | e
      · rw [e] at ry1
        exact .inl ry1
      · rw [e] at ry1
        exact .inr ry1
    refine ⟨_, rfl, t, _, 0, _, rfl, rfl, ht, atI_nat (j := 0) rfl, _, rfl, _, igs[j], rfl, rr, ok.ops _ (List.getElem_mem hj), fun v' H5 s5 r5 => ?_⟩
    refine ⟨_, .inr igs[j].1, rfl, s5 _ _ hD, Cm.smallL (by unfold tkv; rw [List.length_zipWith, List.length_take]; omega), Cm.same_mut (sJ.trans s5) nD, us ++ [v'], ?_, ?_, by rw [List.length_append, lu]; rfl⟩
    · rw [upd_same, tab_snoc ok.nd (List.getElem?_eq_getElem hj) lu]
    · have e1 : (igs.take (j + 1)).map (fun x => opsD x.2) = (igs.take j).map (fun x => opsD x.2) ++ [opsD igs[j].2] := by
        rw [List.take_succ, List.getElem?_eq_getElem hj, List.map_append]
        rfl
      rw [e1]
      have tk : TK K H5 (L2.upd H5 D (.dK (putK (tkv (igs.take j) us) (.inr igs[j].1) v'))) := TK.upd (by rw [s5 _ _ hD]; exact True.intro)
      exact rps_keep tk (Rps.app (ru.keep (Same.tups s5)) (.cons r5 .nil))
  · rw [l1, List.take_length] at ru hD
    exact q _ _ sJ nD ⟨us, hD, ru⟩
theorem mkP_succ {igs : List Ig} {hd : List Pr} {mks : List Ig} {i : Nat} {m : Ig} (h : mks[i]? = some m) : (mks.take (i + 1)).flatMap (mkP igs hd) = (mks.take i).flatMap (mkP igs hd) ++ mkP igs hd m := by
  rw [List.take_succ, h, List.flatMap_append]
  simp
theorem mkP_len {igs : List Ig} {hd : List Pr} {m : Ig} : (mkP igs hd m).length ≤ igs.length := by
  unfold mkP
  rw [List.length_map]
  exact List.length_filter_le _ _
theorem mkPs_len {igs : List Ig} {hd : List Pr} : ∀ mks : List Ig, (mks.flatMap (mkP igs hd)).length ≤ mks.length * igs.length
  | [] => by simp
  | m :: r => by
    rw [List.flatMap_cons, List.length_append, List.length_cons, Nat.succ_mul]
    have := mkPs_len (igs := igs) (hd := hd) r
    have := mkP_len (igs := igs) (hd := hd) (m := m)
    omega
theorem step_len {tb : Tb} {hd : List Pr} : (stepF tb hd).length ≤ hd.length := List.length_filter_le _ _
theorem gr_len {tb : Tb} : ∀ (n : Nat) (hd : List Pr), (grF tb n hd).length ≤ hd.length
  | 0, hd => Nat.le_refl _
  | n + 1, hd => by
    unfold grF
    split
    · exact step_len
    · exact Nat.le_trans (gr_len n _) step_len
theorem gr0_len {tb : Tb} (ok : TbOk tb) : (gr0 tb).length ≤ 2500 := by
  refine Nat.le_trans (gr_len _ _) ?_
  unfold allP
  rw [allP_len, List.length_map]
  have := ok.len
  exact Nat.mul_le_mul this this
theorem keys_prs {H : Hp} : ∀ {l : List Pr} {us : List V}, Paired (fun (p : NestedKey × V) (u : V) => KeyAt K H u p.1) (l.map prV) us → Rps K H us (l.map prD)
  | [], _, .nil => .nil
  | _ :: _, _, .cons h t => .cons h.1 (keys_prs t)
theorem prs_alike (l : List Pr) : PySem.W.AllAlike (l.map prD) := PySem.W.AllAlike.of fun b b' => by simp [prD, PySem.W.alike, PySem.W.alikeAll]
theorem prs_sortable (l : List Pr) : PySem.W.Sortable (l.map prD) := PySem.W.Sortable.tuples fun b => ⟨_, _, rfl⟩
theorem prs_depth (l : List Pr) : ∀ d ∈ l.map prD, d.depth ≤ 50 := fun d hd => by
  obtain ⟨p, _, rfl⟩ := List.mem_map.mp hd
  simp [prD, PyData.depth, PyData.depthAll]
def spRel (K : PySem.W.Frag) : Sp := fun vs H Q _ => ∃ (v : V) (igs mks : List Ig) (b : PyData), vs = [v] ∧ Rp K H v (progD igs mks b) ∧ TbOk igs ∧ TbOk mks ∧
  ∀ H' p ys, Same H H' → H p = none → H' p = some (.lst ys) → Rps K H' ys (relD igs mks) → Q (.ref p) H'
theorem ok_relation (T : Txt K mg w a) : FnOk P w K mg base CX0 5 (He.ga K "relation") a.d_relation ["program"] (spRel K) := by
  have gc := ok_u_conforms (P := P) (w := w) (base := base) T
  have go := ok_operations_of (P := P) (w := w) (base := base) T
  have gg := ok_greatest (P := P) (w := w) (base := base) T
  refine T.F_relation.ok sc_relation (fun vs H Q E h => ?_) (fun cdv A outer s H vs Q E hr h => ?_)
  · obtain ⟨_, _, _, _, rfl, _⟩ := h
    rfl
  · obtain ⟨v, igs, mks, b, rfl, r, oki, okm, q⟩ := h
    refine ⟨_, PSs.nox (pss_cons (ps_set (i := 1) sc_relation.nd rfl (Or.inr rfl) (pe_dc (own := [("part", 7)]) (g := gName 7) (tt := tYes) (tk := (tOp (rIxT K) (tVar 7) (tC (.int 0))))  (by rfl) sc_relation.nd (pi_tup (pe_ix ix_tup (pv 0) pe_int (fun _ _ => rfl))) (blkOk_by (own := [("part", 7)]) (N := N_relation) (sc := defScope s_relation) (by decide +kernel)) (fun _ _ _ _ _ => (pg_name (i := 7) sc_relation.nd rfl (Or.inl rfl))) (fun _ _ _ _ _ => pts_nil) (fun _ _ _ _ _ => (pe_ix ix_tup (pv 7) pe_int (fun _ _ => rfl))) (fun _ _ _ _ _ => (pe_call go (hr.mono (by omega)) (by rfl) T.g_operations_of T.F_operations_of.kp T.b_operations_of .nil pass0 (pa_cons (pv 7) pa_nil)))))
      (pss_cons (NDc2.ps_setDc (i := 2) (own := [("part", 7)]) (g := gName 7) (tt := tYes) (tk := (tOp (rIxT K) (tVar 7) (tC (.int 0))))  (by rfl) sc_relation.nd rfl rfl (NDc2.sw_dict rfl rfl rfl (by decide +kernel)) (pi_tup (pe_ix ix_tup (pv 0) pe_int (fun _ _ => rfl))) (blkOk_by (own := [("part", 7)]) (N := N_relation) (sc := defScope s_relation) (by decide +kernel)) (fun _ _ _ _ _ => (pg_name (i := 7) sc_relation.nd rfl (Or.inl rfl))) (fun _ _ _ _ _ => pts_nil) (fun _ _ _ _ _ => (pe_ix ix_tup (pv 7) pe_int (fun _ _ => rfl))) (fun _ _ _ _ _ => (pe_call go (hr.mono (by omega)) (by rfl) T.g_operations_of T.F_operations_of.kp T.b_operations_of .nil pass0 (pa_cons (pv 7) pa_nil))))
      (pss_cons (ps_set (i := 3) sc_relation.nd rfl (Or.inr rfl) (pe_call gg (hr.mono (by omega)) (by rfl) T.g_greatest T.F_greatest.kp T.b_greatest .nil pass0 (pa_cons (pv 1) pa_nil)))
      (pss_cons (ps_set (i := 4) sc_relation.nd rfl (Or.inl rfl) (pe_callTy (ListK.call_listN rfl) (by rfl) T.g_list boot_list (pa_cons (pv 3) pa_nil)))
      (pss_cons (ps_lock (ps_for PassesOwn.never rfl (pi_items (pv 2)) (pg_tup (by rfl) (pgs_cons (pg_name (i := 5) sc_relation.nd rfl (Or.inr rfl)) (pgs_cons (pg_name (i := 6) sc_relation.nd rfl (Or.inr rfl)) pgs_nil)))
      (pss_one (ps_expr (pe_bm PySem.F.plainAttrs_list PySem.F.slot_list_extend PySem.F.type_list_extend mt_extend (pv 4) (pa_cons (pe_lock (pe_lc (own := [("goal", 8)]) (g := gName 8)  (te := (tTup (tCons (tVar 5) (tCons (tVar 8) tNil)))) (by rfl) sc_relation.nd (pi_keys (pv 1)) (blkOk_by (own := [("goal", 8)]) (N := N_relation) (sc := defScope s_relation) (by decide +kernel)) (fun _ _ _ _ _ => pg_name (i := 8) sc_relation.nd rfl (Or.inl rfl)) (fun _ _ _ _ _ => pts_one (pt_val (pe_call gc (hr.mono (by omega)) (by rfl) T.g_u_conforms T.F_u_conforms.kp T.b_u_conforms .nil pass0 (pa_cons (pv 6) (pa_cons (pe_dget (hu_of hr) (pv 1) (pv 8) (fun _ _ => rfl)) (pa_cons (pv 3) pa_nil)))))) (fun _ _ _ _ _ => (pe_tup (pa_cons (pv 5) (pa_cons (pv 8) pa_nil)))))) pa_nil))))))
      (pss_one (ps_ret (pe_callB (SortN.call_sortL rfl hr.units) (by rfl) T.g_sorted boot_sorted (pa_cons (pv 4) pa_nil))))))))), ?_⟩
    rw [show L2.start N_relation [v] = [some v, none, none, none, none, none, none, none, none] from rfl]
    obtain ⟨c, xs, rfl, hc, rs⟩ := r.tup_inv
    obtain ⟨w1, xs, rfl, r1, rs⟩ := rs.cons_inv
    obtain ⟨w2, xs, rfl, r2, rs⟩ := rs.cons_inv
    obtain ⟨w3, xs, rfl, r3, rs⟩ := rs.cons_inv
    obtain rfl := rs.nil_inv
    obtain ⟨c1, xs1, rfl, hc1, rs1⟩ := r1.tup_inv
    obtain ⟨c2, xs2, rfl, hc2, rs2⟩ := r2.tup_inv
    dsimp only [tSeq, tAsg, tRet]
    refine tab_dc (fun R h => ⟨_, rfl, c, _, 0, _, rfl, rfl, hc, atI_nat (j := 0) rfl, h⟩) (fun x => .inl rfl) hc1 rs1 oki fun H1 d1 s1 n1 t1 => ?_
    simp only [gName, List.set_cons_succ, List.set_cons_zero]
    have hcA := Cm.sameT s1 hc
    dsimp only [tSeq, tAsg, tRet]
    refine tab_dc (fun R h => ⟨_, rfl, c, _, 1, _, rfl, rfl, hcA, atI_nat (j := 1) rfl, h⟩) (fun x => .inr rfl) (Cm.sameT s1 hc2) (rs2.keep (Same.tups s1)) okm fun H2 d2 s2 n2 t2 => ?_
    simp only [gName, List.set_cons_succ, List.set_cons_zero]
    have t1b := t1.same s2
    refine ⟨_, rfl, d1, igs, rfl, t1b, oki, fun H3 hd s3 g3 nd3 => ?_⟩
    simp only [gName, List.set_cons_succ, List.set_cons_zero]
    refine ⟨_, rfl, hd, _, rfl, g3, fun f us nf ku => ?_⟩
    have ru := keys_prs ku
    simp only [gName, List.set_cons_succ, List.set_cons_zero]
    generalize hG : gr0 igs = G at *
    have lG : G.length ≤ 2500 := by rw [← hG]; exact gr0_len oki
    have s4 : Same H3 (L2.upd H3 f (.lst us)) := Cm.same_new nf
    have ru4 := ru.keep (Same.tups s4)
    have t1d := (t1b.same s3).same s4
    have t2d := (t2.same s3).same s4
    have g4 := g3.same s4
    have hf : (L2.upd H3 f (.lst us)) f = some (.lst us) := upd_same
    have n2H : H d2 = none := by
      cases z : H d2 with
      | none => rfl
      | some u => rw [s1 _ _ z] at n2; cases n2
    have nfH : H f = none := by
      cases z : H f with
      | none => rfl
      | some u => rw [s3 _ _ (s2 _ _ (s1 _ _ z))] at nf; cases nf
    have s04 := ((s1.trans s2).trans s3).trans s4
    have d21 : d1 ≠ d2 := fun z => by
      obtain ⟨_, h, _⟩ := t1
      rw [z, n2] at h
      cases h
    have lu : us.length = G.length := by
      have := ru.len
      rw [List.length_map] at this
      exact this
    generalize L2.upd H3 f (.lst us) = H4 at *
    obtain ⟨vs1, hd1, rv1⟩ := id t1d
    obtain ⟨vs2, hd2, rv2⟩ := id t2d
    have lv1 := rv1.len
    have lv2 := rv2.len
    rw [List.length_map] at lv1 lv2
    have k1 : (tkv igs vs1).length = igs.length := by unfold tkv; rw [List.length_zipWith, lv1]; exact Nat.min_self _
    have k2 : (tkv mks vs2).length = mks.length := by unfold tkv; rw [List.length_zipWith, lv2]; exact Nat.min_self _
    have l50 := oki.len
    have m50 := okm.len
    have f2 : f ≠ d2 := fun z => by rw [z, hd2] at hf; cases hf
    have f1 : f ≠ d1 := fun z => by rw [z, hd1] at hf; cases hf
    obtain ⟨xsg, hg4, kg⟩ := id g4
    have hf' : hd ≠ f := fun z => by
      rw [z, hf] at hg4
      cases hg4
    have h2' : hd ≠ d2 := fun z => by
      rw [z, hd2] at hg4
      cases hg4
    refine ⟨d2, _, hd2, True.intro, fun od => ?_⟩
    have h2f : (L2.upd H4 d2 (.frz od (.dK (tkv mks vs2)))) d2 = some (.frz od (.dK (tkv mks vs2))) := upd_same
    have off : ∀ {b o}, b ≠ d2 → H4 b = some o → (L2.upd H4 d2 (.frz od (.dK (tkv mks vs2)))) b = some o := fun n h => (upd_ne n).trans h
    have tk4 : TK K H4 (L2.upd H4 d2 (.frz od (.dK (tkv mks vs2)))) := TK.upd (by rw [hd2]; exact True.intro)
    have hd1F := off d21 hd1
    have hfF := off f2 hf
    have g5 : PrsAt P w K (L2.upd H4 d2 (.frz od (.dK (tkv mks vs2)))) hd G := PrsAt.keep tk4 (upd_ne h2') g4
    have ru5 := rps_keep tk4 ru4
    have rv1F := rps_keep tk4 rv1
    have rv2F := rps_keep tk4 rv2
    generalize L2.upd H4 d2 (.frz od (.dK (tkv mks vs2))) = H5 at *
    refine ⟨_, rfl, d2, od, _, rfl, h2f, ?_⟩
    refine for_it (D := ⟨_, _, _, _⟩) walk_items (fun i σ Hi => ∃ x5 x6 : Option V, σ = [some (.ref c), some (.ref d1), some (.ref d2), some (.ref hd), some (.ref f), x5, x6, none, none] ∧ Keep f H5 Hi ∧ ∃ ws, Hi f = some (.lst ws) ∧ Rps K Hi ws ((G ++ (mks.take i).flatMap (mkP igs G)).map prD)) ⟨none, none, rfl, fun _ _ h _ => h, us, hfF, by rw [List.take_zero, List.flatMap_nil, List.append_nil]; exact ru5⟩ (fun i σ Hi _ ⟨_, _, _, kI, _⟩ => kI _ _ h2f f2.symm) (fun i y σ Hi Hi' hi ⟨x5, x6, e, kI, ws, hw, rw1⟩ ⟨t, a1, a2, ey, nt, eH, e1, e2⟩ => ?_) fun σ Hn ⟨x5, x6, e, kN, ws, hw, rw1⟩ => ?_
    · subst e ey eH
      have him : i < mks.length := by omega
      have ek := tkv_at (i := i) lv2.symm
      obtain ⟨v2, hv2, rv⟩ := rv2F.at_ (i := i) (d := opsD mks[i].2) (by rw [List.getElem?_map, List.getElem?_eq_getElem him]; rfl)
      rw [List.getElem?_eq_getElem him, hv2] at ek
      dsimp only at e1 e2
      rw [ek] at e1 e2
      obtain rfl : V.str mks[i].1 = a1 := Option.some.inj e1
      obtain rfl : v2 = a2 := Option.some.inj e2
      have om := okm.ops _ (List.getElem_mem him)
      have hmi := List.getElem?_eq_getElem him
      generalize mks[i] = m at *
      have tkI : TK K H5 Hi := tk_keepN kI hfF (fun _ z => by cases z) fun _ _ z => by cases z
      have sT : Same Hi (L2.upd Hi t (.tup [.str m.1, v2])) := Cm.same_new nt
      refine ⟨t, _, rfl, Cm.sqt_new, rfl, _, _, rfl, _, _, rfl, rfl, ?_⟩
      simp only [gName, List.set_cons_succ, List.set_cons_zero]
      have hwT := sT _ _ hw
      have h1T := sT _ _ (kI _ _ hd1F f1.symm)
      have tkT : TK K H5 (L2.upd Hi t (.tup [.str m.1, v2])) := tkI.trans (TK.same sT)
      have rwT := rw1.keep (Same.tups sT)
      have gT : PrsAt P w K (L2.upd Hi t (.tup [.str m.1, v2])) hd G := by
        obtain ⟨xs0, h0, k0⟩ := id g5
        exact ⟨xs0, sT _ _ (kI _ _ h0 hf'), KN.keep tkT k0⟩
      have kT : Keep f H5 (L2.upd Hi t (.tup [.str m.1, v2])) := fun b o h n => sT _ _ (kI _ _ h n)
      have rv1T := rps_keep tkT rv1F
      have rvT := rp_keep tkT rv
      generalize L2.upd Hi t (.tup [.str m.1, v2]) = HT at *
      refine ⟨_, rfl, .inl ⟨rfl, _, SqL.of hwT⟩, ?_⟩
      refine ⟨d1, _, h1T, True.intro, fun oe => ?_⟩
      have hE : (L2.upd HT d1 (.frz oe (.dK (tkv igs vs1)))) d1 = some (.frz oe (.dK (tkv igs vs1))) := upd_same
      have tkE : TK K HT (L2.upd HT d1 (.frz oe (.dK (tkv igs vs1)))) := TK.upd (by rw [h1T]; exact True.intro)
      have unE : ∀ {H' : Hp}, Same (L2.upd HT d1 (.frz oe (.dK (tkv igs vs1)))) H' → Same HT (L2.upd H' d1 (.dK (tkv igs vs1))) := fun s => same_unlock h1T s
      have hd1x : hd ≠ d1 := fun z => by
        obtain ⟨xs0, h0, k0⟩ := id gT
        rw [z, h1T] at h0
        cases h0
      have gE : PrsAt P w K (L2.upd HT d1 (.frz oe (.dK (tkv igs vs1)))) hd G := PrsAt.keep tkE (upd_ne hd1x) gT
      have rv1E := rps_keep tkE rv1T
      have rvE := rp_keep tkE rvT
      generalize L2.upd HT d1 (.frz oe (.dK (tkv igs vs1))) = HE at *
      refine ⟨_, rfl, d1, oe, rfl, .inl ⟨_, hE, fun D nD => ?_⟩⟩
      refine lc_it walk_keys (fun j Hj => Same HE Hj ∧ ∃ zs, Hj D = some (.lst zs) ∧ Rps K Hj zs ((((igs.take j).filter fun g => cfF G m.2 g.2).map fun g => (m.1, g.1)).map prD) ∧ zs.length ≤ j) ⟨Cm.same_new nD, [], upd_same, .nil, Nat.le_refl _⟩ (fun j Hj _ b => b.1 _ _ hE) (fun j y Hj Hj' hj ⟨sJ, zs, hD, rz, lz⟩ ⟨eH, k, u, hk, ey⟩ => ?_) fun Hj ⟨sJ, zs, hD, rz, lz⟩ => ?_
      · subst eH ey
        have hjm : j < igs.length := by omega
        have ek := tkv_at (i := j) lv1.symm
        obtain ⟨v1, hv1, rv⟩ := rv1E.at_ (i := j) (d := opsD igs[j].2) (by rw [List.getElem?_map, List.getElem?_eq_getElem hjm]; rfl)
        rw [List.getElem?_eq_getElem hjm, hv1] at ek
        rw [ek] at hk
        obtain ⟨rfl, rfl⟩ := Prod.mk.inj (Option.some.inj hk)
        have htR : TabR K Hj' d1 igs := ⟨vs1, .inr ⟨oe, sJ _ _ hE⟩, rv1E.keep (Same.tups sJ)⟩
        obtain ⟨v1', g1, g2, g3⟩ := htR.get oki (List.getElem_mem hjm)
        have hjg := List.getElem?_eq_getElem hjm
        have eT : (igs.take (j + 1)) = igs.take j ++ [igs[j]] := by
          rw [List.take_succ, hjg]
          rfl
        refine ⟨rfl, ?_⟩
        refine ⟨_, rfl, _, rfl, _, rfl, d1, v1', rfl, g1, _, rfl, v2, v1', m.2, igs[j].2, hd, G, rfl, rvE.keep (Same.tups sJ), g2, om.1, om.2, .inl (gE.same sJ), fun H7 s7 => ⟨_, rfl, Cm.itB (fun e => ?_) fun e => ?_⟩⟩
        · refine ⟨_, rfl, _, rfl, Cm.small (by show 2 ≤ 100000; decide), fun t2 nt2 => ?_⟩
          have s8 := s7.trans (Cm.same_new (o := .tup [.str m.1, .str igs[j].1]) nt2)
          have r8 : Rp K (L2.upd H7 t2 (.tup [.str m.1, .str igs[j].1])) (.ref t2) (prD (m.1, igs[j].1)) := Rp.made nt2 (.cons (.str _) (.cons (.str _) .nil))
          have hD8 := s8 _ _ hD
          have tk9 : TK K (L2.upd H7 t2 (.tup [.str m.1, .str igs[j].1])) (L2.upd (L2.upd H7 t2 (.tup [.str m.1, .str igs[j].1])) D (.lst (zs ++ [.ref t2]))) := TK.upd (by rw [hD8]; exact True.intro)
          refine ⟨zs, hD8, Cm.smallL (by omega), Cm.same_mut (sJ.trans s8) nD, zs ++ [.ref t2], upd_same, ?_, by rw [List.length_append]; simp only [List.length_cons, List.length_nil]; omega⟩
          rw [eT, List.filter_append, List.map_append, List.map_append]
          refine rps_keep tk9 (Rps.app (rz.keep (Same.tups s8)) ?_)
          rw [List.filter_cons_of_pos (by simpa using e)]
          exact .cons r8 .nil
        · refine ⟨sJ.trans s7, zs, s7 _ _ hD, ?_, by omega⟩
          rw [eT, List.filter_append, List.filter_cons_of_neg (by rw [e]; decide), List.filter_nil, List.append_nil]
          exact rz.keep (Same.tups s7)
      · rw [k1, List.take_length] at rz
        refine ⟨sJ _ _ hE, ?_⟩
        have sU := unE sJ
        have Dd : D ≠ d1 := fun z => by rw [z, hE] at nD; cases nD
        have hDU : (L2.upd Hj d1 (.dK (tkv igs vs1))) D = some (.lst zs) := (upd_ne Dd).trans hD
        have tkU : TK K Hj (L2.upd Hj d1 (.dK (tkv igs vs1))) := tk_at (sJ _ _ hE) (fun _ z => by cases z) fun _ _ z => by cases z
        have rzU := rps_keep tkU rz
        generalize L2.upd Hj d1 (.dK (tkv igs vs1)) = HU at *
        have hfU := sU _ _ hwT
        have lw := rw1.len
        rw [List.length_map, List.length_append] at lw
        have b1 := mkPs_len (igs := igs) (hd := G) (mks.take i)
        have b2 : (mks.take i).length * igs.length ≤ 50 * 50 := Nat.mul_le_mul (by rw [List.length_take]; omega) l50
        have tkF : TK K HU (L2.upd HU f (.lst (ws ++ zs))) := TK.upd (by rw [hfU]; exact True.intro)
        refine ⟨f, D, ws, zs, rfl, rfl, hfU, hDU, Cm.small (by omega), _, _, rfl, fun b o h n => (upd_ne n).trans (sU _ _ (kT _ _ h n)), ws ++ zs, upd_same, ?_⟩
        rw [mkP_succ hmi, ← List.append_assoc, List.map_append]
        exact rps_keep tkF (Rps.app (rwT.keep (Same.tups sU)) rzU)
    · subst e
      rw [k2, List.take_length] at rw1
      have hn2 := kN _ _ h2f f2.symm
      refine ⟨hn2, ?_⟩
      have tkL : TK K Hn (L2.upd Hn d2 (.dK (tkv mks vs2))) := tk_at hn2 (fun _ z => by cases z) fun _ _ z => by cases z
      have hfL : (L2.upd Hn d2 (.dK (tkv mks vs2))) f = some (.lst ws) := (upd_ne f2).trans hw
      have rL := rps_keep tkL rw1
      have sL : Same H (L2.upd Hn d2 (.dK (tkv mks vs2))) := fun b o h => by
        have nb2 : b ≠ d2 := fun z => by rw [z, n2H] at h; cases h
        have nbf : b ≠ f := fun z => by rw [z, nfH] at h; cases h
        exact (upd_ne nb2).trans (kN _ _ (off nb2 (s04 _ _ h)) nbf)
      generalize L2.upd Hn d2 (.dK (tkv mks vs2)) = HL at *
      have eR : relP igs mks = G ++ mks.flatMap (mkP igs G) := by
        unfold relP
        rw [hG]
      refine ⟨_, rfl, f, ws, _, rfl, SqL.of hfL, rL, prs_alike _, prs_sortable _, prs_depth _, fun ys p ry np => ?_⟩
      have npH : H p = none := by
        cases z : H p with
        | none => rfl
        | some u => rw [sL _ _ z] at np; cases np
      have sP : Same HL (L2.upd HL p (.lst ys)) := Cm.same_new np
      refine q _ p ys (sL.trans sP) npH upd_same ?_
      unfold relD
      rw [eR]
      exact ry.keep (Same.tups sP)
/-! ### conforms -/
abbrev nms (igs : List Ig) : List Str := igs.map (·.1)
theorem prD_inj {p q : Pr} (h : prD p = prD q) : p = q := by
  obtain ⟨a, b⟩ := p
  obtain ⟨c, d⟩ := q
  injection h with h
  injection h with h1 h2
  injection h2 with h2 _
  injection h1 with h1
  injection h2 with h2
  exact Prod.ext h1 h2
theorem eqv_pr (p q : Pr) : PyData.eqv (prD p) (prD q) = decide (p = q) := by
  obtain ⟨a, b⟩ := p
  obtain ⟨c, d⟩ := q
  by_cases h1 : a = c <;> by_cases h2 : b = d <;> simp [prD, PyData.eqv, PyData.eqvAll, h1, h2]
theorem any_pr (l : List Pr) (p : Pr) : ((SortN.srt (l.map prD)).any fun z => PyData.eqv z (prD p)) = l.contains p := by
  rw [Bool.eq_iff_iff, List.any_eq_true, List.contains_iff_mem]
  constructor
  · rintro ⟨z, hz, e⟩
    obtain ⟨q, hq, rfl⟩ := List.mem_map.mp (List.mem_mergeSort.mp hz)
    rw [eqv_pr] at e
    rw [← of_decide_eq_true e]
    exact hq
  · intro h
    exact ⟨prD p, List.mem_mergeSort.mpr (List.mem_map.mpr ⟨p, h, rfl⟩), by rw [eqv_pr]; exact decide_eq_true rfl⟩
theorem any_pr' (l : List Pr) (p : Pr) : ((l.map prD).any fun z => PyData.eqv z (prD p)) = l.contains p := by
  rw [Bool.eq_iff_iff, List.any_eq_true, List.contains_iff_mem]
  constructor
  · rintro ⟨z, hz, e⟩
    obtain ⟨q, hq, rfl⟩ := List.mem_map.mp hz
    rw [eqv_pr] at e
    rw [← of_decide_eq_true e]
    exact hq
  · intro h
    exact ⟨prD p, List.mem_map.mpr ⟨p, h, rfl⟩, by rw [eqv_pr]; exact decide_eq_true rfl⟩
theorem step_sub {tb : Tb} {hd : List Pr} {p : Pr} (h : p ∈ stepF tb hd) : p ∈ hd := (List.mem_filter.mp h).1
theorem gr_sub {tb : Tb} : ∀ (n : Nat) (hd : List Pr) {p : Pr}, p ∈ grF tb n hd → p ∈ hd
  | 0, hd, p, h => h
  | n + 1, hd, p, h => by
    unfold grF at h
    split at h
    · exact step_sub h
    · exact step_sub (gr_sub n _ h)
theorem gr0_sub {tb : Tb} {p : Pr} (h : p ∈ gr0 tb) : p.1 ∈ nms tb ∧ p.2 ∈ nms tb := mem_allP.mp (gr_sub _ _ h)
theorem relP_sub {igs mks : List Ig} {p : Pr} (h : p ∈ relP igs mks) : p.1 ∈ nms igs ++ nms mks ∧ p.2 ∈ nms igs := by
  rcases List.mem_append.mp h with h | h
  · obtain ⟨h1, h2⟩ := gr0_sub h
    exact ⟨List.mem_append.mpr (.inl h1), h2⟩
  · obtain ⟨m, hm, h⟩ := List.mem_flatMap.mp h
    obtain ⟨g, hg, rfl⟩ := List.mem_map.mp h
    exact ⟨List.mem_append.mpr (.inr (List.mem_map.mpr ⟨m, hm, rfl⟩)), List.mem_map.mpr ⟨g, (List.mem_filter.mp hg).1, rfl⟩⟩
theorem nms_sok {tb : Tb} (ok : TbOk tb) {x : Str} (h : x ∈ nms tb) : PyData.strOk x = true := by
  obtain ⟨z, hz, rfl⟩ := List.mem_map.mp h
  exact ok.sok z hz
theorem relP_sok {igs mks : List Ig} (oki : TbOk igs) (okm : TbOk mks) {p : Pr} (h : p ∈ relP igs mks) : PyData.strOk p.1 = true ∧ PyData.strOk p.2 = true := by
  obtain ⟨h1, h2⟩ := relP_sub h
  refine ⟨?_, nms_sok oki h2⟩
  rcases List.mem_append.mp h1 with h1 | h1
  · exact nms_sok oki h1
  · exact nms_sok okm h1
theorem layAll_of : ∀ {l : List PyData}, (∀ d ∈ l, d.canLay0 = true) → PyData.canLayAll0 l = true
  | [], _ => by simp [PyData.canLayAll0]
  | x :: l, h => by simp [PyData.canLayAll0, h x List.mem_cons_self, layAll_of fun d hd => h d (List.mem_cons_of_mem _ hd)]
theorem depAll_of {n : Nat} : ∀ {l : List PyData}, (∀ d ∈ l, d.depth ≤ n) → PyData.depthAll l ≤ n
  | [], _ => by simp [PyData.depthAll]
  | x :: l, h => by
    have h1 := h x List.mem_cons_self
    have h2 := depAll_of (l := l) fun d hd => h d (List.mem_cons_of_mem _ hd)
    simp only [PyData.depthAll]
    omega
theorem pr_lay {p : Pr} (h : PyData.strOk p.1 = true ∧ PyData.strOk p.2 = true) : (prD p).canLay0 = true := by
  simp [prD, PyData.canLay0, PyData.canLayAll0, h.1, h.2]
theorem pr_dep (p : Pr) : (prD p).depth ≤ 10 := by simp [prD, PyData.depth, PyData.depthAll]
theorem pr_shaped {p : Pr} (h : PyData.strOk p.1 = true ∧ PyData.strOk p.2 = true) : SeqAt.shaped (prD p) = true := Nst.shaped_of (pr_lay h) (Nat.le_trans (pr_dep p) (by decide))
theorem prs_shaped {l : List PyData} {ps : List Pr} (hl : ∀ d ∈ l, ∃ p ∈ ps, d = prD p) (h : ∀ p ∈ ps, PyData.strOk p.1 = true ∧ PyData.strOk p.2 = true) : SeqAt.shaped (.list l) = true := by
  refine Nst.shaped_of ?_ ?_
  · simp only [PyData.canLay0]
    exact layAll_of fun d hd => by
      obtain ⟨p, hp, rfl⟩ := hl d hd
      exact pr_lay (h p hp)
  · have := depAll_of (n := 10) (l := l) fun d hd => by
      obtain ⟨p, hp, rfl⟩ := hl d hd
      exact pr_dep p
    simp only [PyData.depth]
    omega
theorem relD_shaped {igs mks : List Ig} (oki : TbOk igs) (okm : TbOk mks) : SeqAt.shaped (.list (relD igs mks)) = true := prs_shaped (ps := relP igs mks) (fun d hd => by
  obtain ⟨p, hp, rfl⟩ := List.mem_map.mp (List.mem_mergeSort.mp hd)
  exact ⟨p, hp, rfl⟩) fun p hp => relP_sok oki okm hp
/-- the names of some parts -/
theorem nm_lc {x0 x1 x2 x3 : Option V} {te : TE} {c : Addr} {xs : List V} {igs : List Ig} {dat : Ig → PyData} {H : Hp} {Q : VK} (hte : ∀ R : VK, R (.ref c) H → te [x0, x1, x2, x3, none, none] H R)
    (hd : ∀ x, dat x = ifD x ∨ dat x = mkD x) (hc : SqT K H c xs) (rx : Rps K H xs (igs.map dat)) (ok : TbOk igs) (q : ∀ H' D, Same H H' → H D = none → H' D = some (.lst ((nms igs).map V.str)) → Q (.ref D) H') :
    tLc (iTup K te) (gName 5) tYes (tOp (rIxT K) (tVar 5) (tC (V.int 0))) [5] [x0, x1, x2, x3, none, none] H Q := by
  have l1 := rx.len
  rw [List.length_map] at l1
  have l50 := ok.len
  refine hte _ ⟨c, rfl, ⟨_, hc⟩, fun D nD => ?_⟩
  refine lc_tup (K := K) (a := c) (xs := xs) (fun j Hj => Same H Hj ∧ Hj D = some (.lst (((nms igs).take j).map V.str))) ⟨Cm.same_new nD, upd_same⟩ (fun j Hj _ b => Cm.sameT b.1 hc) (fun j y Hj hy ⟨sJ, hD⟩ => ?_) fun Hj ⟨sJ, hD⟩ => ?_
  · refine ⟨rfl, ?_⟩
    have hj : j < igs.length := by
      have := (List.getElem?_eq_some_iff.mp hy).1
      omega
    obtain ⟨y', hy', ry⟩ := rx.at_ (i := j) (d := dat igs[j]) (by rw [List.getElem?_map, List.getElem?_eq_getElem hj]; rfl)
    rw [hy] at hy'
    cases hy'
    have ry1 := ry.keep (Same.tups sJ)
    have nm : ∃ t zs, y = .ref t ∧ SqT K Hj t (.str igs[j].1 :: zs) := by
      rcases hd igs[j] with e | e
      · rw [e] at ry1
        obtain ⟨t, zs, rfl, ht, rt⟩ := ry1.tup_inv
        obtain ⟨a1, zs, rfl, q1, rt⟩ := rt.cons_inv
        obtain rfl := q1.str_inv
        exact ⟨t, zs, rfl, ht⟩
      · rw [e] at ry1
        obtain ⟨t, zs, rfl, ht, rt⟩ := ry1.tup_inv
        obtain ⟨a1, zs, rfl, q1, rt⟩ := rt.cons_inv
        obtain rfl := q1.str_inv
        exact ⟨t, zs, rfl, ht⟩
    obtain ⟨t, zs, rfl, ht⟩ := nm
    refine ⟨_, rfl, t, _, 0, _, rfl, rfl, ht, atI_nat (j := 0) rfl, _, hD, Cm.smallL (by rw [List.length_map, List.length_take]; omega), Cm.same_mut sJ nD, ?_⟩
    rw [upd_same, List.take_succ, List.getElem?_map, List.getElem?_eq_getElem hj, List.map_append]
    rfl
  · rw [l1, show igs.length = (nms igs).length from (List.length_map _).symm, List.take_length] at hD
    exact q _ _ sJ nD hD
def spConf (K : PySem.W.Frag) : Sp := fun vs H Q E => ∃ (v : V) (x y : Str) (igs mks : List Ig) (b : PyData), vs = [v, .str x, .str y] ∧ Rp K H v (progD igs mks b) ∧ TbOk igs ∧ TbOk mks ∧ x.length ≤ 1000 ∧ y.length ≤ 1000 ∧ PyData.strOk x = true ∧ PyData.strOk y = true ∧
  ((x ∈ nms igs ++ nms mks ∧ y ∈ nms igs) → ∀ H', Same H H' → Q (.bl ((relP igs mks).contains (x, y))) H') ∧ (¬ (x ∈ nms igs ++ nms mks ∧ y ∈ nms igs) → ∀ H', Same H H' → E (.ref (He.ga K "Missing")) none H')
theorem ok_conforms (T : Txt K mg w a) : FnOk P w K mg base (L2.CX P w) 6 (He.ga K "conforms") a.d_conforms ["program", "name", "interface"] (spConf K) := by
  have gr := ok_relation (P := P) (w := w) (base := base) T
  refine T.F_conforms.ok (CX := L2.CX P w) sc_conforms (fun vs H Q E h => ?_) (fun cdv A outer s H vs Q E hr h => ?_)
  · obtain ⟨_, _, _, _, _, _, rfl, _⟩ := h
    rfl
  · obtain ⟨v, x, y, igs, mks, b, rfl, r, oki, okm, lx, ly, kx, ky, q1, q2⟩ := h
    refine ⟨_, (pss_cons (ps_setLc (i := 3) (own := [("part", 5)]) (g := gName 5) (tt := tYes) (te := (tOp (rIxT K) (tVar 5) (tC (.int 0)))) (by rfl) sc_conforms.nd rfl rfl (sw_true rfl rfl rfl (by decide +kernel)) (pi_tup (pe_ix ix_tup (pv 0) pe_int (fun _ _ => rfl))) (blkOk_by (own := [("part", 5)]) (N := N_conforms) (sc := defScope s_conforms) (by decide +kernel)) (fun _ _ _ _ _ => pg_name (i := 5) sc_conforms.nd rfl (Or.inl rfl)) (fun _ _ _ _ _ => pts_nil) (fun _ _ _ _ _ => (pe_ix (r := rIxT K) ix_tup (pv 5) pe_int (fun _ _ => rfl))))
      (pss_cons (ps_setLc (i := 4) (own := [("part", 5)]) (g := gName 5) (tt := tYes) (te := (tOp (rIxT K) (tVar 5) (tC (.int 0)))) (by rfl) sc_conforms.nd rfl rfl (sw_true rfl rfl rfl (by decide +kernel)) (pi_tup (pe_ix ix_tup (pv 0) pe_int (fun _ _ => rfl))) (blkOk_by (own := [("part", 5)]) (N := N_conforms) (sc := defScope s_conforms) (by decide +kernel)) (fun _ _ _ _ _ => pg_name (i := 5) sc_conforms.nd rfl (Or.inl rfl)) (fun _ _ _ _ _ => pts_nil) (fun _ _ _ _ _ => (pe_ix (r := rIxT K) ix_tup (pv 5) pe_int (fun _ _ => rfl))))
      (pss_cons (ps_if (PW.pt (pw_or (pt_cmpR op_notIn_seq (pv 1) (pe_op op_cat (pv 3) (pv 4)) (by rfl)) (pw_or1 (pt_cmpR op_notIn_seq (pv 2) (pv 3) (by rfl))))) (pss_one (ps_raise rfl (takes_of rfl rfl rfl rfl) (SkE.pmk_own1 PySem.F.excBase_ValueError T.x_Missing T.g_Missing T.k_Missing (raises_own T.s_Missing T.t_Missing) (by rfl) (LsX.pe_joinedJ (.cons pe_str (.cons (pe_fmt (pv 1)) (.cons pe_str (.cons (pe_fmt (pv 2)) .nil)))))))) pss_nil)
      (pss_one (ps_ret (pe_cmpR (op_inD (TupIn.u65 hr)) (pe_tup (pa_cons (pv 1) (pa_cons (pv 2) pa_nil))) (pe_call gr (hr.mono (by omega)) (by rfl) T.g_relation T.F_relation.kp T.b_relation .nil pass0 (pa_cons (pv 0) pa_nil)) (by rfl))))))), ?_⟩
    rw [show L2.start N_conforms [v, .str x, .str y] = [some v, some (.str x), some (.str y), none, none, none] from rfl]
    obtain ⟨c, xs, rfl, hc, rs⟩ := id r.tup_inv
    obtain ⟨w1, xs, rfl, r1, rs⟩ := rs.cons_inv
    obtain ⟨w2, xs, rfl, r2, rs⟩ := rs.cons_inv
    obtain ⟨w3, xs, rfl, r3, rs⟩ := rs.cons_inv
    obtain rfl := rs.nil_inv
    obtain ⟨c1, xs1, rfl, hc1, rs1⟩ := r1.tup_inv
    obtain ⟨c2, xs2, rfl, hc2, rs2⟩ := r2.tup_inv
    dsimp only [tSeq, tAsg, tRet]
    refine nm_lc (fun R h => ⟨_, rfl, c, _, 0, _, rfl, rfl, hc, atI_nat (j := 0) rfl, h⟩) (fun x => .inl rfl) hc1 rs1 oki fun H1 l1 s1 n1 h1 => ?_
    simp only [gName, List.set_cons_succ, List.set_cons_zero]
    dsimp only [tSeq, tAsg, tRet]
    have hcA := Cm.sameT s1 hc
    refine nm_lc (fun R h => ⟨_, rfl, c, _, 1, _, rfl, rfl, hcA, atI_nat (j := 1) rfl, h⟩) (fun x => .inr rfl) (Cm.sameT s1 hc2) (rs2.keep (Same.tups s1)) okm fun H2 l2 s2 n2 h2 => ?_
    simp only [gName, List.set_cons_succ, List.set_cons_zero]
    dsimp only [tSeq]
    have inS : ∀ (H : Hp) (l : Addr) (ks : List Str) (z : Str) (R : VK), H l = some (.lst (ks.map V.str)) → R (.bl (!decide (z ∈ ks))) H → rIn K true (.str z) (.ref l) H R := fun H l ks z R hl h => by
      refine ⟨l, _, rfl, .inl (SqL.of hl), rfl, by rw [List.all_map]; exact List.all_eq_true.mpr fun _ _ => rfl, ?_⟩
      rw [show (if true = true then !inV (.str z) (ks.map V.str) else inV (.str z) (ks.map V.str)) = !decide (z ∈ ks) from by
        rw [if_pos rfl]
        congr 1
        rw [Bool.eq_iff_iff, decide_eq_true_iff]
        unfold inV
        rw [List.any_eq_true]
        constructor
        · rintro ⟨u, hu, e⟩
          obtain ⟨k, hk, rfl⟩ := List.mem_map.mp hu
          have : k = z := by simpa [eqV] using e
          rw [← this]
          exact hk
        · intro hz
          exact ⟨.str z, List.mem_map.mpr ⟨z, hz, rfl⟩, by simp [eqV]⟩]
      exact h
    have h1b := s2 _ _ h1
    have lni : (nms igs).length ≤ 50 := by rw [List.length_map]; exact oki.len
    have lnm : (nms mks).length ≤ 50 := by rw [List.length_map]; exact okm.len
    have rr : ∀ H', Same H2 H' → ¬ (x ∈ nms igs ++ nms mks ∧ y ∈ nms igs) → LsX.tJ [tC (V.str (Str.ofString "there is no ")), tFmt (tVar 1), tC (V.str (Str.ofString " or no interface ")), tFmt (tVar 2)] [some (.ref c), some (.str x), some (.str y), some (.ref l1), some (.ref l2), none] H' fun x H1 => E (.ref (He.ga K "Missing")) none H1 := fun H' s' hn => by
      have e1 : (Str.empty ++ ("there is no " : Str)).length ≤ 100 := by decide +kernel
      have e2 : (" or no interface " : Str).length ≤ 100 := by decide +kernel
      have l1 : ((Str.empty ++ ("there is no " : Str)) ++ x).length ≤ 1200 := by
        rw [Str.length_append]
        omega
      have l2 : (((Str.empty ++ ("there is no " : Str)) ++ x) ++ (" or no interface " : Str)).length ≤ 1400 := by
        rw [Str.length_append]
        omega
      refine ⟨("there is no " : Str), rfl, Cm.small (by omega), _, rfl, .inl ⟨x, rfl, Cm.small (by omega), x, rfl, Cm.small (by omega), (" or no interface " : Str), rfl, Cm.small (by omega), _, rfl, .inl ⟨y, rfl, Cm.small (by omega), y, rfl, ?_, ?_⟩⟩⟩
      · rw [Str.length_append]
        exact Cm.small (by omega)
      · exact q2 hn _ ((s1.trans s2).trans s')
    refine ⟨_, rfl, _, rfl, _, rfl, l1, l2, _, _, rfl, rfl, h1b, h2, Cm.small (by simp only [List.length_map] at *; omega), fun p np => ?_⟩
    have s3 : Same H2 (L2.upd H2 p (.lst ((nms igs).map V.str ++ (nms mks).map V.str))) := Cm.same_new np
    refine inS _ p (nms igs ++ nms mks) x _ (by rw [upd_same, List.map_append]) ?_
    refine ⟨_, rfl, Cm.itBn (fun e => ?_) fun e => ?_⟩
    · show (if true = true then _ else _)
      rw [if_pos rfl]
      exact rr _ s3 fun h => by rw [decide_eq_true h.1] at e; cases e
    refine ⟨_, rfl, _, rfl, inS _ l1 (nms igs) y _ (s3 _ _ h1b) ⟨_, rfl, Cm.itBn (fun e2 => ?_) fun e2 => ?_⟩⟩
    · exact rr _ s3 fun h => by rw [decide_eq_true h.2] at e2; cases e2
    have s4 := (s1.trans s2).trans s3
    generalize L2.upd H2 p (.lst ((nms igs).map V.str ++ (nms mks).map V.str)) = H3 at *
    refine ⟨_, rfl, _, rfl, Cm.small (by show 2 ≤ 100000; decide), fun t nt => ?_⟩
    have s5 := s4.trans (Cm.same_new (o := .tup [.str x, .str y]) nt)
    have rt : Rp K (L2.upd H3 t (.tup [.str x, .str y])) (.ref t) (prD (x, y)) := Rp.made nt (.cons (.str _) (.cons (.str _) .nil))
    generalize L2.upd H3 t (.tup [.str x, .str y]) = H4 at *
    refine ⟨_, rfl, _, igs, mks, b, rfl, r.keep (Same.tups s5), oki, okm, fun H6 d ys s6 nd hd ry => ?_⟩
    have dl : Dp K H6 (.ref d) (.list (relD igs mks)) := Dp.lst (SqL.of hd) ry.dp
    refine ⟨_, _, (rt.keep (Same.tups s6)).dp, dl, pr_shaped ⟨kx, ky⟩, relD_shaped oki okm, ?_⟩
    have q3 := q1 ⟨of_decide_eq_true e, of_decide_eq_true e2⟩ _ (s5.trans s6)
    rw [← any_pr] at q3
    exact q3
/-! ### the row of numbers -/
def RowOk (ns : List Int) : Prop := ns.length ≤ 4000 ∧ ∀ n ∈ ns, 0 ≤ n ∧ n < 1009
def spRow (K : PySem.W.Frag) : Sp := fun vs H Q _ => ∃ (a : Addr) (ss : List Int), vs = [.ref a] ∧ SqL K H a (ss.map V.int) ∧ ss.length ≤ 63 ∧
  ∀ (H' : Hp) (p : Addr) (ns : List Int), Same H H' → H p = none → H' p = some (.lst (ns.map V.int)) → RowOk ns → Q (.ref p) H'
theorem m1009 (x : Int) : 0 ≤ x % 1009 ∧ x % 1009 < 1009 := by omega
theorem ok_lw_row (T : Txt K mg w a) : FnOk P w K mg base CX0 1 (He.ga K "_law_row") a.d_lw_row ["script"] (spRow K) := by
  refine T.F_lw_row.ok sc_lw_row (fun vs H Q E h => ?_) (fun cdv A outer s H vs Q E hr h => ?_)
  · obtain ⟨_, _, rfl, _⟩ := h
    rfl
  obtain ⟨sa, ss, rfl, hs, hl, q⟩ := h
  refine ⟨_, PSs.nox (pss_cons (ps_set (i := 1) sc_lw_row.nd rfl (Or.inl rfl) (pe_lst pa_nil))
      (pss_cons (ps_for PassesOwn.never rfl (pi_range1 (by rfl) T.g_range (pa_cons (pe_callB call_len_seq (by rfl) T.g_len boot_len (pa_cons (pv 0) pa_nil)) pa_nil)) (pg_name (i := 2) sc_lw_row.nd rfl (Or.inl rfl))
      (pss_cons (ps_set (i := 3) sc_lw_row.nd rfl (Or.inl rfl) (pe_callB call_abs (by rfl) T.g_abs boot_abs (pa_cons (pe_callTy call_int1 (by rfl) T.g_int boot_int (pa_cons (pe_ix ix_list (pv 0) (pv 2) (fun _ _ => rfl)) pa_nil)) pa_nil)))
      (pss_one (ps_if (pt_cmpR op_ge (pv 3) (pe_op op_pow pe_int pe_int) (nomark _)) (pss_one (ps_for PassesOwn.never rfl (pi_range1 (by rfl) T.g_range (pa_cons pe_int pa_nil)) (pg_name (i := 4) sc_lw_row.nd rfl (Or.inl rfl))
      (pss_one (ps_if (pt_cmpR op_gt (pv 3) pe_int (nomark _)) (pss_cons (ps_expr (pe_bm PySem.F.plainAttrs_list PySem.F.slot_list_append PySem.F.type_list_append mt_append (pv 1) (pa_cons (pe_op op_mod (pe_callTy call_int1 (by rfl) T.g_int boot_int (pa_cons (pv 3) pa_nil)) pe_int) pa_nil)))
      (pss_one (ps_set (i := 3) sc_lw_row.nd rfl (Or.inl rfl) (pe_op op_fdiv (pv 3) pe_int)))) pss_nil)))) (pss_cons (ps_set (i := 5) sc_lw_row.nd rfl (Or.inl rfl) (pe_op op_mod (pe_callTy call_int1 (by rfl) T.g_int boot_int (pa_cons (pe_op op_add (pe_op op_add (pe_op op_mul (pv 3) pe_int) (pe_op op_mul (pv 2) pe_int)) pe_int) pa_nil)) pe_int))
      (pss_one (ps_for PassesOwn.never rfl (pi_range1 (by rfl) T.g_range (pa_cons pe_int pa_nil)) (pg_name (i := 4) sc_lw_row.nd rfl (Or.inl rfl))
      (pss_cons (ps_set (i := 5) sc_lw_row.nd rfl (Or.inl rfl) (pe_op op_mod (pe_callTy call_int1 (by rfl) T.g_int boot_int (pa_cons (pe_op op_add (pe_op op_add (pe_op op_mul (pv 5) pe_int) (pe_op op_mul pe_int (pv 4))) pe_int) pa_nil)) pe_int))
      (pss_one (ps_expr (pe_bm PySem.F.plainAttrs_list PySem.F.slot_list_append PySem.F.type_list_append mt_append (pv 1) (pa_cons (pe_op op_mod (pe_callTy call_int1 (by rfl) T.g_int boot_int (pa_cons (pe_op op_fdiv (pv 5) pe_int) pa_nil)) pe_int) pa_nil))))))))))))
      (pss_one (ps_ret (pv 1))))), ?_⟩
  refine ⟨Nat.zero_le _, fun p np => ?_⟩
  have s0 : Same H (upd H p (.lst [])) := Cm.same_new np
  refine ⟨_, rfl, sa, _, rfl, .inl (s0.seq hs), _, rfl, (by rw [List.length_map]; omega), (by rw [List.length_map]; omega), ?_⟩
  refine for_range (fun i σ H2 => ∃ (ns : List Int) (x2 x3 x4 x5 : Option V), σ = [some (.ref sa), some (.ref p), x2, x3, x4, x5] ∧ Same H H2 ∧ H2 p = some (.lst (ns.map V.int)) ∧ ns.length ≤ 40 * i ∧ ∀ n ∈ ns, 0 ≤ n ∧ n < 1009)
    ⟨[], none, none, none, none, rfl, s0, upd_same, Nat.zero_le _, fun n h => nomatch h⟩ (fun i σ H2 hi ⟨ns, x2, x3, x4, x5, e, s2, hp, hn, ha⟩ => ?_) fun σ H2 ⟨ns, x2, x3, x4, x5, e, s2, hp, hn, ha⟩ => ?_
  · subst e
    have hi' : i < ss.length := by
      have h := hi
      rw [List.length_map] at h
      omega
    have hi63 : i < 63 := by omega
    obtain ⟨c, _, ec⟩ := Cm.at_int (ns := ss) (i := 0 + (i : Int)) (by omega) (by omega)
    have more : ∀ {ns : List Int} {x : Int}, (∀ n ∈ ns, 0 ≤ n ∧ n < 1009) → ∀ n ∈ ns ++ [x % 1009], 0 ≤ n ∧ n < 1009 := fun {ns x} h n hm => by
      rcases List.mem_append.mp hm with h2 | h2
      · exact h n h2
      · rw [List.mem_singleton.mp h2]
        exact m1009 x
    refine ⟨_, rfl, _, rfl, sa, _, _, _, rfl, rfl, s2.seq hs, ec, .inl ⟨_, rfl, _, rfl, ?_⟩⟩
    refine ⟨_, rfl, _, _, rfl, rfl, ⟨by decide, by decide, by decide⟩, _, _, rfl, rfl, _, rfl, Cm.itD (fun _ => ?_) fun _ => ?_⟩
    · refine ⟨_, rfl, (by decide), (by decide), ?_⟩
      refine for_range (fun j σ H3 => ∃ (ns : List Int) (cell : Int) (x4 : Option V), σ = [some (.ref sa), some (.ref p), some (.int (0 + (i : Int))), some (.int cell), x4, x5] ∧ Same H H3 ∧ H3 p = some (.lst (ns.map V.int)) ∧ ns.length ≤ 40 * i + j ∧ ∀ n ∈ ns, 0 ≤ n ∧ n < 1009)
        ⟨ns, _, _, rfl, s2, hp, (by omega), ha⟩ (fun j σ H3 hj ⟨ns, cell, x4, e, s3, hp3, hn3, ha3⟩ => ?_) fun σ H3 ⟨ns, cell, x4, e, s3, hp3, hn3, ha3⟩ => ?_
      · subst e
        have hj' : j < 40 := hj
        refine ⟨_, rfl, _, _, rfl, rfl, _, rfl, Cm.itD (fun _ => ?_) (fun _ => ?_)⟩
        · refine ⟨_, rfl, .inl ⟨rfl, _, SqL.of hp3⟩, _, rfl, .inl ⟨_, rfl, _, _, rfl, rfl, (by show (0 : Int) < 1009; decide), ?_⟩⟩
          refine ⟨p, _, _, rfl, rfl, hp3, Cm.smallL (by rw [List.length_map]; omega), ?_⟩
          refine ⟨_, rfl, _, _, rfl, rfl, ⟨by decide, by decide⟩, ?_⟩
          refine ⟨ns ++ [cell % 1009], _, _, rfl, Cm.same_mut s3 np, ?_, by rw [List.length_append, List.length_singleton]; omega, more ha3⟩
          rw [upd_same, List.map_append]
          rfl
        · exact ⟨ns, cell, _, rfl, s3, hp3, by omega, ha3⟩
      · subst e
        exact ⟨ns, _, _, _, _, rfl, s3, hp3, (by have h40 : ns.length ≤ 40 * i + 40 := hn3; omega), ha3⟩
    · refine ⟨_, rfl, _, _, rfl, rfl, .inr ⟨by decide, by decide⟩, _, rfl, _, _, rfl, rfl, .inr ⟨by decide, by decide⟩, _, _, rfl, rfl, _, _, rfl, rfl, .inl ⟨_, rfl, _, _, rfl, rfl, (by show (0 : Int) < 2147483647; decide), ?_⟩⟩
      refine ⟨_, rfl, (by decide), (by decide), ?_⟩
      refine for_range (fun j σ H3 => ∃ (ns : List Int) (m : Int) (x4 : Option V), σ = [some (.ref sa), some (.ref p), some (.int (0 + (i : Int))), some (.int (if c < 0 then -c else c)), x4, some (.int m)] ∧ Same H H3 ∧ H3 p = some (.lst (ns.map V.int)) ∧ ns.length ≤ 40 * i + j ∧ ∀ n ∈ ns, 0 ≤ n ∧ n < 1009)
        ⟨ns, _, _, rfl, s2, hp, (by omega), ha⟩ (fun j σ H3 hj ⟨ns, m, x4, e, s3, hp3, hn3, ha3⟩ => ?_) fun σ H3 ⟨ns, m, x4, e, s3, hp3, hn3, ha3⟩ => ?_
      · subst e
        have hj' : j < 6 := hj
        refine ⟨_, rfl, _, _, rfl, rfl, .inr ⟨by decide, by decide⟩, _, rfl, _, _, rfl, rfl, .inl ⟨by decide, by decide⟩, _, _, rfl, rfl, _, _, rfl, rfl, .inl ⟨_, rfl, _, _, rfl, rfl, (by show (0 : Int) < 2147483647; decide), ?_⟩⟩
        refine ⟨_, rfl, .inl ⟨rfl, _, SqL.of hp3⟩, _, rfl, _, _, rfl, rfl, ⟨by decide, by decide⟩, .inl ⟨_, rfl, _, _, rfl, rfl, (by show (0 : Int) < 1009; decide), ?_⟩⟩
        refine ⟨p, _, _, rfl, rfl, hp3, Cm.smallL (by rw [List.length_map]; omega), ?_⟩
        refine ⟨ns ++ [(m * 16807 + 11 * (0 + (j : Int)) + 1) % 2147483647 / 7 % 1009], _, _, rfl, Cm.same_mut s3 np, ?_, by rw [List.length_append, List.length_singleton]; omega, more ha3⟩
        rw [upd_same, List.map_append]
        rfl
      · subst e
        exact ⟨ns, _, _, _, _, rfl, s3, hp3, (by have h6 : ns.length ≤ 40 * i + 6 := hn3; omega), ha3⟩
  · subst e
    refine ⟨_, rfl, q H2 p ns s2 np hp ⟨?_, ha⟩⟩
    rw [List.length_map, Int.toNat_natCast] at hn
    omega
def spAt (K : PySem.W.Frag) : Sp := fun vs H Q _ => ∃ (a : Addr) (ns : List Int) (i : Int), vs = [.ref a, .int i] ∧ SqL K H a (ns.map V.int) ∧ (∀ n ∈ ns, 0 ≤ n ∧ n < 1009) ∧ ∀ n : Int, 0 ≤ n → n < 1009 → Q (.int n) H
theorem ok_lw_at (T : Txt K mg w a) : FnOk P w K mg base CX0 1 (He.ga K "_law_at") a.d_lw_at ["row", "at"] (spAt K) := by
  refine T.F_lw_at.ok sc_lw_at (fun vs H Q E h => ?_) (fun cdv A outer s H vs Q E hr h => ?_)
  · obtain ⟨_, _, _, rfl, _⟩ := h
    rfl
  obtain ⟨ra, ns, i, rfl, hr, ha, q⟩ := h
  refine ⟨_, PSs.nox (pss_cons (ps_if (pt_chain op_le op_lt pe_int (pv 1) (pe_callB call_len_seq (by rfl) T.g_len boot_len (pa_cons (pv 0) pa_nil))) (pss_one (ps_ret (pe_ix ix_list (pv 0) (pv 1) (fun _ _ => rfl)))) pss_nil)
      (pss_one (ps_ret pe_int))), ?_⟩
  refine ⟨_, rfl, _, _, rfl, rfl, _, rfl, Cm.itD (fun h0 => ⟨_, rfl, ra, _, rfl, .inl hr, _, _, rfl, rfl, _, rfl, Cm.itD (fun h1 => ?_) (fun _ => q 0 (by decide) (by decide))⟩) (fun _ => ⟨_, rfl, Cm.itB (fun z => nomatch z) (fun _ => q 0 (by decide) (by decide))⟩)⟩
  rw [List.length_map] at h1
  obtain ⟨n, hn, e⟩ := Cm.at_int (ns := ns) (i := i) h0 h1
  exact ⟨_, rfl, _, rfl, ra, _, _, _, rfl, rfl, hr, e, q n (ha n hn).1 (ha n hn).2⟩
/-! ### operations from the row -/
def lets6 : List Str := ["A", "B", "C", "D", "E", "F"]
def knd (ns : List Str) : List Str := "int" :: ns
/-- the operations that the law builds -/
structure OpsG (ns : List Str) (os : List Op) : Prop where
  len : os.length ≤ 3
  nd : (os.map (·.1)).Nodup
  nm : ∀ o ∈ os, PyData.strOk o.1 = true ∧ o.1.length ≤ 10
  ar : ∀ o ∈ os, o.2.1.length ≤ 2
  ks : ∀ o ∈ os, (∀ k ∈ o.2.1, k ∈ knd ns) ∧ o.2.2 ∈ knd ns
theorem cut_lst (ks : List Str) (lo hi : Option Int) : ∃ ls : List Str, cutV (ks.map V.str) lo hi = ls.map V.str ∧ ls.length ≤ ks.length ∧ ∀ k ∈ ls, k ∈ ks := by
  refine ⟨(ks.drop (HT.sIx (ks.map V.str).length 0 lo)).take (HT.sIx (ks.map V.str).length (ks.map V.str).length hi - HT.sIx (ks.map V.str).length 0 lo), ?_, ?_, fun k hk => List.mem_of_mem_drop (List.mem_of_mem_take hk)⟩
  · unfold cutV
    rw [← List.map_drop, ← List.map_take]
  · rw [List.length_take, List.length_drop]
    omega
def fgh : List Str := ["f", "g", "h"]
theorem OpsG.nil {ns : List Str} : OpsG ns [] := ⟨Nat.zero_le _, List.nodup_nil, (fun _ h => nomatch h), (fun _ h => nomatch h), (fun _ h => nomatch h)⟩
theorem fgh_ok : ∀ x ∈ fgh, PyData.strOk x = true ∧ x.length ≤ 10 := by
  intro x hx
  have : x = "f" ∨ x = "g" ∨ x = "h" := by simpa [fgh] using hx
  rcases this with rfl | rfl | rfl <;> exact ⟨by decide +kernel, by decide +kernel⟩
theorem fgh_nd : fgh.Nodup := by decide +kernel
def spOp (K : PySem.W.Frag) : Sp := fun vs H Q _ => ∃ (ra na : Addr) (row : List Int) (i : Int) (ns : List Str), vs = [.ref ra, .int i, .ref na] ∧ SqL K H ra (row.map V.int) ∧ (∀ n ∈ row, 0 ≤ n ∧ n < 1009) ∧ H na = some (.lst (ns.map V.str)) ∧ 0 < ns.length ∧ ns.length ≤ 6 ∧
  ∀ (H' : Hp) (v : V) (os : List Op), Same H H' → Rp K H' v (opsD os) → OpsG ns os → Q v H'
theorem ok_lw_operations (T : Txt K mg w a) : FnOk P w K mg base CX0 2 (He.ga K "_law_operations") a.d_lw_operations ["row", "at", "names"] (spOp K) := by
  have gat := ok_lw_at (P := P) (w := w) (base := base) T
  refine T.F_lw_operations.ok sc_lw_operations (fun vs H Q E h => ?_) (fun cdv A outer s H vs Q E hr h => ?_)
  · obtain ⟨_, _, _, _, _, rfl, _⟩ := h
    rfl
  obtain ⟨ra, na, row, i, ns, rfl, hra, ha, hn, l0, l6, q⟩ := h
  refine ⟨_, PSs.nox (pss_cons (ps_set (i := 3) sc_lw_operations.nd rfl (Or.inl rfl) (pe_lst pa_nil))
      (pss_cons (ps_for PassesOwn.never rfl (pi_list (pe_lst (pa_cons pe_str (pa_cons pe_str (pa_cons pe_str pa_nil))))) (pg_name (i := 4) sc_lw_operations.nd rfl (Or.inl rfl))
      (pss_cons (ps_set (i := 5) sc_lw_operations.nd rfl (Or.inl rfl) (pe_callTy call_int1 (by rfl) T.g_int boot_int (pa_cons (pe_call gat (hr.mono (by omega)) (by rfl) T.g_lw_at T.F_lw_at.kp T.b_lw_at .nil pass0 (pa_cons (pv 0) (pa_cons (pv 1) pa_nil))) pa_nil)))
      (pss_cons (ps_set (i := 1) sc_lw_operations.nd rfl (Or.inl rfl) (pe_op op_add (pv 1) pe_int))
      (pss_one (ps_if (pt_cmpR op_gt (pe_op op_mod (pv 5) pe_int) pe_int (nomark _)) (pss_cons (ps_set (i := 6) sc_lw_operations.nd rfl (Or.inl rfl) (pe_op op_cat (pe_lst (pa_cons pe_str pa_nil)) (pv 2)))
      (pss_cons (ps_set (i := 7) sc_lw_operations.nd rfl (Or.inl rfl) (pe_slice sl_list (pe_lst (pa_cons (pe_ix ix_list (pv 6) (pe_op op_mod (pe_op op_fdiv (pv 5) pe_int) (pe_callB call_len_seq (by rfl) T.g_len boot_len (pa_cons (pv 6) pa_nil))) (fun _ _ => rfl)) (pa_cons (pe_ix ix_list (pv 6) (pe_op op_mod (pe_op op_fdiv (pv 5) pe_int) (pe_callB call_len_seq (by rfl) T.g_len boot_len (pa_cons (pv 6) pa_nil))) (fun _ _ => rfl)) pa_nil))) po_none (po_some (pe_op op_mod (pe_op op_mod (pv 5) pe_int) pe_int))))
      (pss_one (ps_expr (pe_bm PySem.F.plainAttrs_list PySem.F.slot_list_append PySem.F.type_list_append mt_append (pv 3) (pa_cons (pe_tup (pa_cons (pv 4) (pa_cons (pe_callTy call_tuple_of (by rfl) T.g_tuple boot_tuple (pa_cons (pv 7) pa_nil)) (pa_cons (pe_ix ix_list (pv 6) (pe_op op_mod (pe_op op_fdiv (pv 5) pe_int) (pe_callB call_len_seq (by rfl) T.g_len boot_len (pa_cons (pv 6) pa_nil))) (fun _ _ => rfl)) pa_nil)))) pa_nil)))))) pss_nil)))))
      (pss_one (ps_ret (pe_callTy call_tuple_of (by rfl) T.g_tuple boot_tuple (pa_cons (pv 3) pa_nil)))))), ?_⟩
  rw [show L2.start N_lw_operations [.ref ra, .int i, .ref na] = [some (.ref ra), some (.int i), some (.ref na), none, none, none, none, none] from rfl]
  dsimp only [tSeq, tAsg]
  refine ⟨Nat.zero_le _, fun oa noa => ?_⟩
  simp only [gName, List.set_cons_succ, List.set_cons_zero]
  have s0 : Same H (L2.upd H oa (.lst [])) := Cm.same_new noa
  have ho : (L2.upd H oa (.lst [])) oa = some (.lst []) := upd_same
  generalize L2.upd H oa (.lst []) = H0 at *
  refine ⟨Cm.small (by show 3 ≤ 100000; decide), fun a0 n0 => ⟨a0, rfl, ⟨_, SqL.of upd_same⟩, ?_⟩⟩
  have s1 := s0.trans (Cm.same_new (o := .lst (fgh.map V.str)) n0)
  have ho1 := Cm.same_new (o := .lst (fgh.map V.str)) n0 _ _ ho
  have h01 : (L2.upd H0 a0 (.lst (fgh.map V.str))) a0 = some (.lst (fgh.map V.str)) := upd_same
  have na0 : H a0 = none := by
    cases z : H a0 with
    | none => rfl
    | some u => rw [s0 _ _ z] at n0; cases n0
  have ne0 : a0 ≠ oa := fun z => by rw [z, ho] at n0; cases n0
  show ∃ W : Nat → Nat → L2.St → Hp → Prop, (∃ m, W 0 m _ (L2.upd H0 a0 (.lst (fgh.map V.str)))) ∧ _
  generalize L2.upd H0 a0 (.lst (fgh.map V.str)) = H1 at *
  refine for_list (K := K) (a := a0) (xs := fgh.map V.str) (D := { nx := _, rt := Q }) (fun i σ Hi => ∃ (j : Int) (x4 x5 x6 x7 : Option V) (ws : List V) (os : List Op), σ = [some (.ref ra), some (.int j), some (.ref na), some (.ref oa), x4, x5, x6, x7] ∧ Same H Hi ∧ Hi a0 = some (.lst (fgh.map V.str)) ∧
    Hi oa = some (.lst ws) ∧ Rps K Hi ws (os.map opD) ∧ OpsG ns os ∧ os.length ≤ i ∧ ∀ o ∈ os, o.1 ∈ fgh.take i) ⟨i, none, none, none, none, [], [], rfl, s1, h01, ho1, .nil, OpsG.nil, Nat.le_refl _, fun _ h => nomatch h⟩ (fun i σ Hi _ ⟨_, _, _, _, _, _, _, _, _, h, _⟩ => SqL.of h) (fun i x σ Hi hx ⟨j, x4, x5, x6, x7, ws, os, e, sI, hA, hO, rO, gO, lO, mO⟩ => ?_) fun σ Hn ⟨j, x4, x5, x6, x7, ws, os, e, sI, hA, hO, rO, gO, lO, mO⟩ => ?_
  · subst e
    rw [List.getElem?_map] at hx
    obtain ⟨wd, hw, rfl⟩ := Option.map_eq_some_iff.mp hx
    have hi3 : i < 3 := (List.getElem?_eq_some_iff.mp hw).1
    simp only [gName, List.set_cons_succ, List.set_cons_zero]
    dsimp only [tSeq, tAsg]
    refine ⟨_, rfl, _, rfl, ra, row, j, rfl, sI.seq hra, ha, fun n g0 g1 => .inl ⟨_, rfl, ?_⟩⟩
    simp only [gName, List.set_cons_succ, List.set_cons_zero]
    dsimp only [tSeq, tAsg]
    refine ⟨_, rfl, _, _, rfl, rfl, ?_⟩
    simp only [gName, List.set_cons_succ, List.set_cons_zero]
    have skip : ∀ (x6 x7 : Option V), ∃ (j' : Int) (y4 y5 y6 y7 : Option V) (ws' : List V) (os' : List Op), [some (.ref ra), some (.int (j + 1)), some (.ref na), some (.ref oa), some (.str wd), some (.int n), x6, x7] = [some (.ref ra), some (.int j'), some (.ref na), some (.ref oa), y4, y5, y6, y7] ∧ Same H Hi ∧ Hi a0 = some (.lst (fgh.map V.str)) ∧
        Hi oa = some (.lst ws') ∧ Rps K Hi ws' (os'.map opD) ∧ OpsG ns os' ∧ os'.length ≤ i + 1 ∧ ∀ o ∈ os', o.1 ∈ fgh.take (i + 1) := fun x6 x7 =>
      ⟨_, _, _, _, _, ws, os, rfl, sI, hA, hO, rO, gO, by omega, fun o h => List.mem_of_mem_take (i := i) (by rw [List.take_take, Nat.min_eq_left (by omega)]; exact mO o h)⟩
    refine ⟨_, rfl, _, _, rfl, rfl, (by show (0 : Int) < 3; decide), _, _, rfl, rfl, _, rfl, Cm.itD (fun _ => ?_) fun _ => skip _ _⟩
    dsimp only [tSeq, tAsg]
    refine ⟨Cm.small (by show 1 ≤ 100000; decide), fun p1 n1 => ⟨_, rfl, p1, na, _, _, rfl, rfl, upd_same, Cm.same_new n1 _ _ (sI _ _ hn), Cm.small (by rw [List.length_map]; simp only [List.length_cons, List.length_nil]; omega), fun p2 n2 => ?_⟩⟩
    simp only [gName, List.set_cons_succ, List.set_cons_zero]
    have hk : (L2.upd (L2.upd Hi p1 (.lst [.str "int"])) p2 (.lst ([.str "int"] ++ ns.map V.str))) p2 = some (.lst ((knd ns).map V.str)) := upd_same
    have s2 : Same Hi (L2.upd (L2.upd Hi p1 (.lst [.str "int"])) p2 (.lst ([.str "int"] ++ ns.map V.str))) := (Cm.same_new n1).trans (Cm.same_new n2)
    generalize L2.upd (L2.upd Hi p1 (.lst [.str "int"])) p2 (.lst ([.str "int"] ++ ns.map V.str)) = H2 at *
    have lk : (((knd ns).map V.str).length : Int) = (ns.length : Int) + 1 := by
      rw [List.length_map]
      unfold knd
      rw [List.length_cons]
      omega
    have ix : ∀ m : Int, ∃ k, k ∈ knd ns ∧ atI ((knd ns).map V.str) (m % (((knd ns).map V.str).length : Int)) = some (.str k) := fun m => by
      have h1 := Int.emod_nonneg m (b := (((knd ns).map V.str).length : Int)) (by omega)
      have h2 := Int.emod_lt_of_pos m (b := (((knd ns).map V.str).length : Int)) (by omega)
      refine Cm.at_str h1 ?_
      rw [List.length_map] at h2 ⊢
      exact h2
    have lp : (0 : Int) < (((knd ns).map V.str).length : Int) := by omega
    obtain ⟨k1, m1, e1⟩ := ix (n / 3)
    obtain ⟨k2, m2, e2⟩ := ix (n / 30)
    obtain ⟨k3, m3, e3⟩ := ix (n / 7)
    dsimp only [tSeq, tAsg]
    refine ⟨_, rfl, _, rfl, _, _, rfl, rfl, ⟨by decide, by decide⟩, _, rfl, p2, _, rfl, .inl (SqL.of hk), _, _, rfl, rfl, lp, p2, _, _, _, rfl, rfl, SqL.of hk, e1, ?_⟩
    refine ⟨_, rfl, _, rfl, _, _, rfl, rfl, ⟨by decide, by decide⟩, _, rfl, p2, _, rfl, .inl (SqL.of hk), _, _, rfl, rfl, lp, p2, _, _, _, rfl, rfl, SqL.of hk, e2, Cm.small (by show 2 ≤ 100000; decide), fun p3 n3 => ?_⟩
    have s3 := s2.trans (Cm.same_new (o := .lst [.str k1, .str k2]) n3)
    have h3 : (L2.upd H2 p3 (.lst [.str k1, .str k2])) p3 = some (.lst (([k1, k2] : List Str).map V.str)) := upd_same
    have hk3 := Cm.same_new (o := .lst [.str k1, .str k2]) n3 _ _ hk
    generalize L2.upd H2 p3 (.lst [.str k1, .str k2]) = H3 at *
    refine ⟨_, rfl, _, _, rfl, rfl, (by show (0 : Int) < 5; decide), _, _, rfl, rfl, (by show (0 : Int) < 3; decide), _, rfl, p3, _, rfl, SqL.of h3, fun p4 n4 => ?_⟩
    obtain ⟨ls, el, ll, ml⟩ := cut_lst [k1, k2] none (some (n % 5 % 3))
    rw [el]
    simp only [gName, List.set_cons_succ, List.set_cons_zero]
    have s4 := s3.trans (Cm.same_new (o := .lst (ls.map V.str)) n4)
    have h4 : (L2.upd H3 p4 (.lst (ls.map V.str))) p4 = some (.lst (ls.map V.str)) := upd_same
    have hk4 := Cm.same_new (o := .lst (ls.map V.str)) n4 _ _ hk3
    generalize L2.upd H3 p4 (.lst (ls.map V.str)) = H4 at *
    have hO4 := s4 _ _ hO
    refine ⟨_, rfl, .inl ⟨rfl, _, SqL.of hO4⟩, _, rfl, _, rfl, p4, _, rfl, .inl ⟨SqL.of h4, fun p5 n5 => ?_⟩⟩
    have s5 := s4.trans (Cm.same_new (o := .tup (ls.map V.str)) n5)
    have r5 : Rp K (L2.upd H4 p5 (.tup (ls.map V.str))) (.ref p5) (.tuple (ls.map PyData.str)) := Rp.made n5 (strs_rps _)
    have hk5 := Cm.same_new (o := .tup (ls.map V.str)) n5 _ _ hk4
    generalize L2.upd H4 p5 (.tup (ls.map V.str)) = H5 at *
    refine ⟨_, rfl, _, rfl, _, _, rfl, rfl, ⟨by decide, by decide⟩, _, rfl, p2, _, rfl, .inl (SqL.of hk5), _, _, rfl, rfl, lp, p2, _, _, _, rfl, rfl, SqL.of hk5, e3, Cm.small (by show 3 ≤ 100000; decide), fun p6 n6 => ?_⟩
    have s6 := s5.trans (Cm.same_new (o := .tup [.str wd, .ref p5, .str k3]) n6)
    have r6 : Rp K (L2.upd H5 p6 (.tup [.str wd, .ref p5, .str k3])) (.ref p6) (opD (wd, ls, k3)) := Rp.made n6 (.cons (.str _) (.cons r5 (.cons (.str _) .nil)))
    generalize L2.upd H5 p6 (.tup [.str wd, .ref p5, .str k3]) = H6 at *
    have hO6 := s6 _ _ hO
    have lw : ws.length = os.length := by
      have := rO.len
      rw [List.length_map] at this
      exact this
    have tk : TK K H6 (L2.upd H6 oa (.lst (ws ++ [.ref p6]))) := TK.upd (by rw [hO6]; exact True.intro)
    have mo : ∀ o ∈ os ++ [(wd, ls, k3)], o ∈ os ∨ o = (wd, ls, k3) := fun o h => by
      rcases List.mem_append.mp h with h | h
      · exact .inl h
      · exact .inr (List.mem_singleton.mp h)
    have tki : fgh.take (i + 1) = fgh.take i ++ [wd] := by
      rw [List.take_succ, hw]
      rfl
    have fr : wd ∉ os.map (·.1) := fun h => by
      obtain ⟨o, ho, e⟩ := List.mem_map.mp h
      have h1 := mO o ho
      have nd := fgh_nd
      rw [e] at h1
      have h2 : (fgh.take (i + 1)).Nodup := nd.sublist (List.take_sublist _ _)
      rw [tki, List.nodup_append] at h2
      exact h2.2.2 wd h1 wd (List.mem_singleton.mpr rfl) rfl
    refine ⟨oa, ws, _, rfl, rfl, hO6, Cm.smallL (by omega), j + 1, _, _, _, _, ws ++ [.ref p6], os ++ [(wd, ls, k3)], rfl, Cm.same_mut (sI.trans s6) noa, ?_, upd_same, ?_, ⟨?_, ?_, ?_, ?_, ?_⟩, by rw [List.length_append]; simp only [List.length_cons, List.length_nil]; omega, ?_⟩
    · rw [upd_ne ne0]
      exact s6 _ _ hA
    · rw [List.map_append]
      exact rps_keep tk (Rps.app (rO.keep (Same.tups s6)) (.cons r6 .nil))
    · rw [List.length_append]
      simp only [List.length_cons, List.length_nil]
      omega
    · rw [List.map_append, List.nodup_append]
      refine ⟨gO.nd, by simp, fun a ha b hb e => ?_⟩
      rw [e, List.mem_singleton.mp (show b ∈ [wd] from hb)] at ha
      exact fr ha
    · intro o ho
      rcases mo o ho with h | rfl
      · exact gO.nm o h
      · exact fgh_ok wd (List.mem_of_getElem? hw)
    · intro o ho
      rcases mo o ho with h | rfl
      · exact gO.ar o h
      · exact ll
    · intro o ho
      rcases mo o ho with h | rfl
      · exact gO.ks o h
      · refine ⟨fun k hk => ?_, m3⟩
        have : k = k1 ∨ k = k2 := by simpa using ml k hk
        rcases this with rfl | rfl
        · exact m1
        · exact m2
    · intro o ho
      rw [tki]
      rcases mo o ho with h | rfl
      · exact List.mem_append.mpr (.inl (mO o h))
      · exact List.mem_append.mpr (.inr (List.mem_singleton.mpr rfl))
  · subst e
    refine ⟨_, rfl, oa, _, rfl, .inl ⟨SqL.of hO, fun l nl => ?_⟩⟩
    exact q _ _ os (sI.trans (Cm.same_new nl)) (Rp.made nl rO) gO
/-! ### the program from the row -/
def lawB : PyData := .tuple [.tuple [.str "return", .tuple [.str "int", .int 1]]]
def mkN : List Str := ["M0", "M1", "M2", "M3"]
structure ProgG (igs mks : List Ig) : Prop where
  n0 : 0 < igs.length
  n6 : igs.length ≤ 6
  nm : nms igs = lets6.take igs.length
  m4 : mks.length ≤ 4
  mn : nms mks = mkN.take mks.length
  io : ∀ x ∈ igs, OpsG (nms igs) x.2
  mo : ∀ x ∈ mks, OpsG (nms igs) x.2
def spPr (K : PySem.W.Frag) : Sp := fun vs H Q _ => ∃ (ra : Addr) (row : List Int), vs = [.ref ra] ∧ SqL K H ra (row.map V.int) ∧ (∀ n ∈ row, 0 ≤ n ∧ n < 1009) ∧ ∀ (H' : Hp) (v : V) (igs mks : List Ig), Same H H' → Rp K H' v (progD igs mks lawB) → ProgG igs mks → Q v H'
theorem cut_take04 {xs : List V} {k : Nat} : cutV xs none (some (k : Int)) = xs.take k := by
  unfold cutV
  rw [HT.sIx_nat, show HT.sIx xs.length 0 none = 0 from rfl, List.drop_zero, Nat.sub_zero]
  rcases Nat.le_total k xs.length with h | h
  · rw [Nat.min_eq_left h]
  · rw [Nat.min_eq_right h, List.take_length, List.take_of_length_le h]
abbrev rTupS (K : PySem.W.Frag) : List V → Hp → VK → Prop := fun xs H Q => ∃ p ys, xs = [.ref p] ∧ ((SqL K H p ys ∧ ∀ l, H l = none → Q (.ref l) (L2.upd H l (.tup ys))) ∨ (SqT K H p ys ∧ Q (.ref p) H))
/-- tuple(x): a tuple, nothing else changes -/
theorem tup_s {H : Hp} {o : Addr} {ws : List V} {Q : VK} (ho : SqL K H o ws ∨ SqT K H o ws) (q : ∀ H' l, Same H H' → SqT K H' l ws → Q (.ref l) H') : rTupS K [.ref o] H Q := by
  rcases ho with h | h
  · exact ⟨o, ws, rfl, .inl ⟨h, fun l nl => q _ _ (Cm.same_new nl) Cm.sqt_new⟩⟩
  · exact ⟨o, ws, rfl, .inr ⟨h, q _ _ (Same.refl _) h⟩⟩
/-- the interface is appended -/
theorem app_if {Hc : Hp} {ra na ia o : Addr} {k : Nat} {ns : List Str} {nm : Str} {vs ws : List V} {igs : List Ig} {os : List Op} {y5 y6 y7 y8 : Option V} {z : List (Option V)} {Nx : Hp → Prop}
    (hn : Hc na = some (.lst (ns.map V.str))) (hk : ns[k]? = some nm) (hi : Hc ia = some (.lst vs)) (lv : vs.length ≤ 100) (ho : SqL K Hc o ws ∨ SqT K Hc o ws) (rv : Rps K Hc vs (igs.map ifD)) (ro : Rps K Hc ws (os.map opD))
    (q : ∀ H' vs', Keep ia Hc H' → H' ia = some (.lst vs') → Rps K H' vs' ((igs ++ [(nm, os)]).map ifD) → Nx H') :
    tBM K "list" rAppend (tVar 2) (tCons (tTup (tCons (tOp (rIxL K) (tVar 1) (tVar 3)) (tCons (tCB (rTupS K) (tCons (tVar 4) tNil)) tNil))) tNil)
      (some (.ref ra) :: some (.ref na) :: some (.ref ia) :: some (.int (0 + (k : Int))) :: some (.ref o) :: y5 :: y6 :: y7 :: y8 :: z) Hc fun _ H1 => Nx H1 := by
  have e1 : atI (ns.map V.str) (0 + (k : Int)) = some (.str nm) := by
    rw [Int.zero_add]
    exact atI_nat (j := k) (by rw [List.getElem?_map, hk]; rfl)
  refine ⟨_, rfl, .inl ⟨rfl, _, SqL.of hi⟩, _, rfl, _, rfl, na, _, _, _, rfl, rfl, SqL.of hn, e1, _, rfl, ?_⟩
  dsimp only [tNil, tCons, tTup]
  refine tup_s ho fun H1 l s1 hl => ?_
  refine ⟨Cm.small (by show 2 ≤ 100000; decide), fun t nt => ?_⟩
  have s2 := s1.trans (Cm.same_new (o := .tup [.str nm, .ref l]) nt)
  have rl : Rp K H1 (.ref l) (opsD os) := .tup hl (ro.keep (Same.tups s1))
  have rt : Rp K (L2.upd H1 t (.tup [.str nm, .ref l])) (.ref t) (ifD (nm, os)) := Rp.made nt (.cons (.str _) (.cons rl .nil))
  generalize L2.upd H1 t (.tup [.str nm, .ref l]) = H2 at *
  have hi2 := s2 _ _ hi
  have tk : TK K H2 (L2.upd H2 ia (.lst (vs ++ [.ref t]))) := TK.upd (by rw [hi2]; exact True.intro)
  refine ⟨ia, vs, _, rfl, rfl, hi2, Cm.smallL (by omega), q _ _ (fun b u h n => (upd_ne n).trans (s2 _ _ h)) upd_same ?_⟩
  rw [List.map_append]
  exact rps_keep tk (Rps.app (rv.keep (Same.tups s2)) (.cons rt .nil))
theorem OpsG.swap {ns : List Str} {o : Op} {os : List Op} {k : Str} (h : OpsG ns (o :: os)) (hk : k ∈ knd ns) : OpsG ns ((o.1, o.2.1, k) :: os) := by
  refine ⟨h.len, h.nd, fun x hx => ?_, fun x hx => ?_, fun x hx => ?_⟩
  · rcases List.mem_cons.mp hx with rfl | hx
    · exact h.nm o List.mem_cons_self
    · exact h.nm x (List.mem_cons_of_mem _ hx)
  · rcases List.mem_cons.mp hx with rfl | hx
    · exact h.ar o List.mem_cons_self
    · exact h.ar x (List.mem_cons_of_mem _ hx)
  · rcases List.mem_cons.mp hx with rfl | hx
    · exact ⟨(h.ks o List.mem_cons_self).1, hk⟩
    · exact h.ks x (List.mem_cons_of_mem _ hx)
theorem pairsD_get {ks : List Str} {j : Nat} {k : Str} (h : ks[j]? = some k) : (pairsD ks)[j]? = some (.tuple [.str (("p" : Str) ++ Str.ofString (toString (0 + (j : Int)))), .str k]) := by
  unfold pairsD
  have hj := (List.getElem?_eq_some_iff.mp h).1
  rw [List.getElem?_zipWith]
  unfold pnm
  rw [List.getElem?_map, List.getElem?_range hj, h, Int.zero_add]
  rfl
theorem small_log {i : Nat} (h : i < 10) : (0 + (i : Int)).natAbs.log2 < 1920 := by
  have : (0 + (i : Int)).natAbs = i := by omega
  rw [this]
  have := Nat.log2_le_self i
  omega
theorem small_dig {i : Nat} (h : i < 4) : (Str.ofString (toString (0 + (i : Int)))).length ≤ 10 := by
  have : i = 0 ∨ i = 1 ∨ i = 2 ∨ i = 3 := by omega
  rcases this with rfl | rfl | rfl | rfl <;> decide +kernel
theorem l6_len : lets6.length = 6 := by decide +kernel
theorem ok_lw_program (T : Txt K mg w a) : FnOk P w K mg base CX0 3 (He.ga K "_law_program") a.d_lw_program ["row"] (spPr K) := by
  have gat := ok_lw_at (P := P) (w := w) (base := base) T
  have gop := ok_lw_operations (P := P) (w := w) (base := base) T
  refine T.F_lw_program.ok sc_lw_program (fun vs H Q E h => ?_) (fun cdv A outer s H vs Q E hr h => ?_)
  · obtain ⟨_, _, rfl, _⟩ := h
    rfl
  obtain ⟨ra, row, rfl, hra, ha, q⟩ := h
  refine ⟨_, PSs.nox (pss_cons (ps_set (i := 1) sc_lw_program.nd rfl (Or.inl rfl) (pe_slice sl_list (pe_lst (pa_cons pe_str (pa_cons pe_str (pa_cons pe_str (pa_cons pe_str (pa_cons pe_str (pa_cons pe_str pa_nil))))))) po_none (po_some (pe_op op_add pe_int (pe_op op_mod (pe_callTy call_int1 (by rfl) T.g_int boot_int (pa_cons (pe_call gat (hr.mono (by omega)) (by rfl) T.g_lw_at T.F_lw_at.kp T.b_lw_at .nil pass0 (pa_cons (pv 0) (pa_cons pe_int pa_nil))) pa_nil)) pe_int)))))
      (pss_cons (ps_set (i := 2) sc_lw_program.nd rfl (Or.inl rfl) (pe_lst pa_nil))
      (pss_cons (ps_for PassesOwn.never rfl (pi_range1 (by rfl) T.g_range (pa_cons (pe_callB call_len_seq (by rfl) T.g_len boot_len (pa_cons (pv 1) pa_nil)) pa_nil)) (pg_name (i := 3) sc_lw_program.nd rfl (Or.inl rfl))
      (pss_cons (ps_set (i := 4) sc_lw_program.nd rfl (Or.inl rfl) (pe_call gop (hr.mono (by omega)) (by rfl) T.g_lw_operations T.F_lw_operations.kp T.b_lw_operations .nil pass0 (pa_cons (pv 0) (pa_cons (pe_op op_add pe_int (pe_op op_mul pe_int (pv 3))) (pa_cons (pv 1) pa_nil)))))
      (pss_cons (ps_set (i := 5) sc_lw_program.nd rfl (Or.inl rfl) (pe_callTy call_int1 (by rfl) T.g_int boot_int (pa_cons (pe_call gat (hr.mono (by omega)) (by rfl) T.g_lw_at T.F_lw_at.kp T.b_lw_at .nil pass0 (pa_cons (pv 0) (pa_cons (pe_op op_add pe_int (pv 3)) pa_nil))) pa_nil)))
      (pss_cons (ps_if (PW.pt (pw_and (pt_cmpR op_gt (pv 3) pe_int (nomark _)) (pw_and1 (pt_cmpR op_eq (pe_op op_mod (pv 5) pe_int) pe_int (nomark _))))) (pss_cons (ps_set (i := 4) sc_lw_program.nd rfl (Or.inl rfl) (pe_callTy call_list_of (by rfl) T.g_list boot_list (pa_cons (pe_ix ix_tup (pe_ix ix_list (pv 2) (pe_op op_mod (pe_op op_fdiv (pv 5) pe_int) (pv 3)) (fun _ _ => rfl)) pe_int (fun _ _ => rfl)) pa_nil)))
      (pss_one (ps_if (PW.pt (pw_and (pt_cmpR op_gt (pe_callB call_len_seq (by rfl) T.g_len boot_len (pa_cons (pv 4) pa_nil)) pe_int (nomark _)) (pw_and1 (pt_cmpR op_eq (pe_op op_mod (pe_op op_fdiv (pv 5) pe_int) pe_int) pe_int (nomark _))))) (pss_cons (ps_asg (pe_ix ix_list (pv 4) pe_int (fun _ _ => rfl)) (pg_tup (by rfl) (pgs_cons (pg_name (i := 6) sc_lw_program.nd rfl (Or.inl rfl)) (pgs_cons (pg_name (i := 7) sc_lw_program.nd rfl (Or.inr rfl)) (pgs_cons (pg_name (i := 8) sc_lw_program.nd rfl (Or.inl rfl)) pgs_nil)))))
      (pss_one (ps_asg (pe_tup (pa_cons (pv 6) (pa_cons (pv 7) (pa_cons (pe_ix ix_list (pe_op op_cat (pe_lst (pa_cons pe_str pa_nil)) (pv 1)) (pe_op op_mod (pe_op op_fdiv (pv 5) pe_int) (pe_op op_add pe_int (pe_callB call_len_seq (by rfl) T.g_len boot_len (pa_cons (pv 1) pa_nil)))) (fun _ _ => rfl)) pa_nil)))) (pg_sub (pv 4) pe_int set_list)))) pss_nil))) pss_nil)
      (pss_one (ps_expr (pe_bm PySem.F.plainAttrs_list PySem.F.slot_list_append PySem.F.type_list_append mt_append (pv 2) (pa_cons (pe_tup (pa_cons (pe_ix ix_list (pv 1) (pv 3) (fun _ _ => rfl)) (pa_cons (pe_callTy call_tuple_of (by rfl) T.g_tuple boot_tuple (pa_cons (pv 4) pa_nil)) pa_nil))) pa_nil))))))))
      (pss_cons (ps_set (i := 9) sc_lw_program.nd rfl (Or.inl rfl) (pe_lst pa_nil))
      (pss_cons (ps_for PassesOwn.never rfl (pi_range1 (by rfl) T.g_range (pa_cons (pe_op op_mod (pe_callTy call_int1 (by rfl) T.g_int boot_int (pa_cons (pe_call gat (hr.mono (by omega)) (by rfl) T.g_lw_at T.F_lw_at.kp T.b_lw_at .nil pass0 (pa_cons (pv 0) (pa_cons pe_int pa_nil))) pa_nil)) pe_int) pa_nil)) (pg_name (i := 3) sc_lw_program.nd rfl (Or.inl rfl))
      (pss_cons (ps_set (i := 4) sc_lw_program.nd rfl (Or.inl rfl) (pe_call gop (hr.mono (by omega)) (by rfl) T.g_lw_operations T.F_lw_operations.kp T.b_lw_operations .nil pass0 (pa_cons (pv 0) (pa_cons (pe_op op_add pe_int (pe_op op_mul pe_int (pv 3))) (pa_cons (pv 1) pa_nil)))))
      (pss_cons (ps_set (i := 5) sc_lw_program.nd rfl (Or.inl rfl) (pe_callTy call_int1 (by rfl) T.g_int boot_int (pa_cons (pe_call gat (hr.mono (by omega)) (by rfl) T.g_lw_at T.F_lw_at.kp T.b_lw_at .nil pass0 (pa_cons (pv 0) (pa_cons (pe_op op_add pe_int (pv 3)) pa_nil))) pa_nil)))
      (pss_cons (ps_if (pt_cmpR op_eq (pe_op op_mod (pv 5) pe_int) pe_int (nomark _)) (pss_one (ps_set (i := 4) sc_lw_program.nd rfl (Or.inl rfl) (pe_ix ix_tup (pe_ix ix_list (pv 2) (pe_op op_mod (pe_op op_fdiv (pv 5) pe_int) (pe_callB call_len_seq (by rfl) T.g_len boot_len (pa_cons (pv 2) pa_nil))) (fun _ _ => rfl)) pe_int (fun _ _ => rfl)))) pss_nil)
      (pss_cons (ps_set (i := 10) sc_lw_program.nd rfl (Or.inl rfl) (pe_lst pa_nil))
      (pss_cons (ps_for PassesOwn.never rfl (SeqI.pi_seq (pv 4)) (pg_tup (by rfl) (pgs_cons (pg_name (i := 6) sc_lw_program.nd rfl (Or.inl rfl)) (pgs_cons (pg_name (i := 7) sc_lw_program.nd rfl (Or.inr rfl)) (pgs_cons (pg_name (i := 8) sc_lw_program.nd rfl (Or.inl rfl)) pgs_nil))))
      (pss_cons (ps_set (i := 11) sc_lw_program.nd rfl (Or.inl rfl) (pe_callTy call_tuple_of (by rfl) T.g_tuple boot_tuple (pa_cons (pe_lc (own := [("j", 12)]) (g := gName 12) (tt := tYes)  (by rfl) sc_lw_program.nd (pi_range1 (by rfl) T.g_range (pa_cons (pe_callB call_len_seq (by rfl) T.g_len boot_len (pa_cons (pv 7) pa_nil)) pa_nil)) (blkOk_by (own := [("j", 12)]) (N := N_lw_program) (sc := defScope s_lw_program) (by decide +kernel)) (fun _ _ _ _ _ => pg_name (i := 12) sc_lw_program.nd rfl (Or.inl rfl)) (fun _ _ _ _ _ => pts_nil) (fun _ _ _ _ _ => (pe_tup (pa_cons (pe_op op_add_str pe_str (pe_callTy call_str_int (by rfl) T.g_str boot_str (pa_cons (pv 12) pa_nil))) (pa_cons (pe_ix (r := rIxT K) ix_tup (pv 7) (pv 12) (fun _ _ => rfl)) pa_nil))))) pa_nil)))
      (pss_one (ps_expr (pe_bm PySem.F.plainAttrs_list PySem.F.slot_list_append PySem.F.type_list_append mt_append (pv 10) (pa_cons (pe_tup (pa_cons (pv 6) (pa_cons (pv 11) (pa_cons (pv 8) (pa_cons (pe_tup (pa_cons (pe_tup (pa_cons pe_str (pa_cons (pe_tup (pa_cons pe_str pa_nil)) pa_nil))) pa_nil)) pa_nil))))) pa_nil))))))
      (pss_one (ps_expr (pe_bm PySem.F.plainAttrs_list PySem.F.slot_list_append PySem.F.type_list_append mt_append (pv 9) (pa_cons (pe_tup (pa_cons (pe_op op_add_str pe_str (pe_callTy call_str_int (by rfl) T.g_str boot_str (pa_cons (pv 3) pa_nil))) (pa_cons (pe_tup pa_nil) (pa_cons (pe_tup pa_nil) (pa_cons (pe_callTy call_tuple_of (by rfl) T.g_tuple boot_tuple (pa_cons (pv 10) pa_nil)) pa_nil))))) pa_nil))))))))))
      (pss_one (ps_ret (pe_tup (pa_cons (pe_callTy call_tuple_of (by rfl) T.g_tuple boot_tuple (pa_cons (pv 2) pa_nil)) (pa_cons (pe_callTy call_tuple_of (by rfl) T.g_tuple boot_tuple (pa_cons (pv 9) pa_nil)) (pa_cons (pe_tup (pa_cons (pe_tup (pa_cons pe_str (pa_cons (pe_tup (pa_cons pe_str (pa_cons pe_int pa_nil))) pa_nil))) pa_nil)) pa_nil))))))))))), ?_⟩
  rw [show L2.start N_lw_program [.ref ra] = [some (.ref ra), none, none, none, none, none, none, none, none, none, none, none, none] from rfl]
  dsimp only [tSeq, tAsg]
  refine ⟨Cm.small (by show 6 ≤ 100000; decide), fun p0 n0 => ?_⟩
  have s0 : Same H (L2.upd H p0 (.lst ([V.str "A", V.str "B", V.str "C", V.str "D", V.str "E", V.str "F"] : List V))) := Cm.same_new n0
  have h0 : (L2.upd H p0 (.lst ([V.str "A", V.str "B", V.str "C", V.str "D", V.str "E", V.str "F"] : List V))) p0 = some (.lst ([V.str "A", V.str "B", V.str "C", V.str "D", V.str "E", V.str "F"] : List V)) := upd_same
  generalize L2.upd H p0 (.lst ([V.str "A", V.str "B", V.str "C", V.str "D", V.str "E", V.str "F"] : List V)) = H0 at *
  refine ⟨_, rfl, ra, row, 0, rfl, s0.seq hra, ha, fun c g0 g1 => .inl ⟨_, rfl, _, _, rfl, rfl, (by show (0 : Int) < 6; decide), _, _, rfl, rfl, _, rfl, p0, _, rfl, SqL.of h0, fun na nna => ?_⟩⟩
  have hcut : cutV ([V.str "A", V.str "B", V.str "C", V.str "D", V.str "E", V.str "F"] : List V) none (some (1 + c % 6)) = (lets6.take (1 + (c % 6).toNat)).map V.str := by
    have : (1 + c % 6 : Int) = ((1 + (c % 6).toNat : Nat) : Int) := by omega
    rw [this, cut_take04, List.map_take]
    rfl
  rw [hcut]
  have ln : (lets6.take (1 + (c % 6).toNat)).length = 1 + (c % 6).toNat := by
    rw [List.length_take, l6_len]
    omega
  have l6 : (lets6.take (1 + (c % 6).toNat)).length ≤ 6 := by
    rw [ln]
    omega
  have l0 : 0 < (lets6.take (1 + (c % 6).toNat)).length := by
    rw [ln]
    omega
  have ens : lets6.take (1 + (c % 6).toNat) = lets6.take (lets6.take (1 + (c % 6).toNat)).length := by rw [ln]
  generalize lets6.take (1 + (c % 6).toNat) = ns at *
  have s1 := s0.trans (Cm.same_new (o := .lst (ns.map V.str)) nna)
  have hna1 : (L2.upd H0 na (.lst (ns.map V.str))) na = some (.lst (ns.map V.str)) := upd_same
  generalize L2.upd H0 na (.lst (ns.map V.str)) = H1 at *
  simp only [gName, List.set_cons_succ, List.set_cons_zero]
  dsimp only [tSeq, tAsg]
  refine ⟨Nat.zero_le _, fun ia nia => ?_⟩
  simp only [gName, List.set_cons_succ, List.set_cons_zero]
  dsimp only [tSeq, tAsg]
  have s2 := s1.trans (Cm.same_new (o := .lst []) nia)
  have hna2 := Cm.same_new (o := .lst []) nia _ _ hna1
  have hia2 : (L2.upd H1 ia (.lst [])) ia = some (.lst []) := upd_same
  have niaH : H ia = none := by
    cases z : H ia with
    | none => rfl
    | some u => rw [s1 _ _ z] at nia; cases nia
  have nana : na ≠ ia := fun z => by rw [z, nia] at hna1; cases hna1
  generalize L2.upd H1 ia (.lst []) = H2 at *
  refine ⟨_, rfl, na, _, rfl, .inl (SqL.of hna2), _, rfl, (by rw [List.length_map]; omega), (by rw [List.length_map]; omega), ?_⟩
  refine for_range (fun k σ Hi => ∃ (x3 x4 x5 x6 x7 x8 : Option V) (vs : List V) (igs : List Ig), σ = [some (.ref ra), some (.ref na), some (.ref ia), x3, x4, x5, x6, x7, x8, none, none, none, none] ∧ Same H Hi ∧ Hi na = some (.lst (ns.map V.str)) ∧ Hi ia = some (.lst vs) ∧ Rps K Hi vs (igs.map ifD) ∧ igs.length = k ∧ nms igs = ns.take k ∧ ∀ x ∈ igs, OpsG ns x.2)
    ⟨none, none, none, none, none, none, [], [], rfl, s2, hna2, hia2, .nil, rfl, rfl, fun _ h => nomatch h⟩ (fun k σ Hi hk ⟨x3, x4, x5, x6, x7, x8, vs, igs, e, sI, hnI, hiI, rI, lI, nI, oI⟩ => ?_) fun σ Hi ⟨x3, x4, x5, x6, x7, x8, vs, igs, e, sI, hnI, hiI, rI, lI, nI, oI⟩ => ?_
  · subst e
    rw [List.length_map, Int.toNat_natCast] at hk
    simp only [gName, List.set_cons_succ, List.set_cons_zero]
    dsimp only [tSeq, tAsg]
    have hnm := List.getElem?_eq_getElem hk
    have lvs : vs.length = k := by
      have := rI.len
      rw [List.length_map] at this
      omega
    refine ⟨_, rfl, _, rfl, _, _, rfl, rfl, .inl ⟨by decide, by decide⟩, _, _, rfl, rfl, _, rfl, ra, na, row, _, ns, rfl, sI.seq hra, ha, hnI, l0, l6, fun H3 v os s3 r3 g3 => ?_⟩
    simp only [gName, List.set_cons_succ, List.set_cons_zero]
    dsimp only [tSeq, tAsg]
    have s03 := sI.trans s3
    refine ⟨_, rfl, _, rfl, _, _, rfl, rfl, ra, row, _, rfl, s03.seq hra, ha, fun n g0 g1 => .inl ⟨_, rfl, ?_⟩⟩
    simp only [gName, List.set_cons_succ, List.set_cons_zero]
    dsimp only [tSeq, tAsg]
    have hn3 := s3 _ _ hnI
    have hi3 := s3 _ _ hiI
    have rI3 := rI.keep (Same.tups s3)
    have fin : ∀ (Hc : Hp) (o : Addr) (ws : List V) (os : List Op) (y5 y6 y7 y8 : Option V), Same H3 Hc → (SqL K Hc o ws ∨ SqT K Hc o ws) → Rps K Hc ws (os.map opD) → OpsG ns os →
        tBM K "list" rAppend (tVar 2) (tCons (tTup (tCons (tOp (rIxL K) (tVar 1) (tVar 3)) (tCons (tCB (rTupS K) (tCons (tVar 4) tNil)) tNil))) tNil)
        [some (.ref ra), some (.ref na), some (.ref ia), some (.int (0 + (k : Int))), some (.ref o), y5, y6, y7, y8, none, none, none, none] Hc fun _ H1 => 
        ∃ (x3 x4 x5 x6 x7 x8 : Option V) (vs : List V) (igs : List Ig), [some (.ref ra), some (.ref na), some (.ref ia), some (.int (0 + (k : Int))), some (.ref o), y5, y6, y7, y8, none, none, none, none] = [some (.ref ra), some (.ref na), some (.ref ia), x3, x4, x5, x6, x7, x8, none, none, none, none] ∧ Same H H1 ∧ H1 na = some (.lst (ns.map V.str)) ∧ H1 ia = some (.lst vs) ∧ Rps K H1 vs (igs.map ifD) ∧ igs.length = k + 1 ∧ nms igs = ns.take (k + 1) ∧ ∀ x ∈ igs, OpsG ns x.2 :=
      fun Hc o ws os y5 y6 y7 y8 sc ho ro go => by
        refine app_if (sc _ _ hn3) hnm (sc _ _ hi3) (by omega) ho (rI3.keep (Same.tups sc)) ro fun H' vs' kp hv rv => ?_
        refine ⟨_, _, _, _, _, _, vs', igs ++ [(ns[k], os)], rfl, (fun b u h => kp b u (sc _ _ (s03 _ _ h)) fun z => by rw [z, niaH] at h; cases h), kp _ _ (sc _ _ hn3) nana, hv, rv, by rw [List.length_append, lI]; rfl, ?_, fun x hx => ?_⟩
        · rw [List.take_succ, hnm, nms, List.map_append, show igs.map (·.1) = ns.take k from nI]
          rfl
        · rcases List.mem_append.mp hx with h | h
          · exact oI x h
          · rw [List.mem_singleton.mp h]
            exact go
    obtain ⟨o3, ws3, rfl, ho3, ro3⟩ := r3.tup_inv
    have base_ := fin H3 o3 ws3 os (some (.int n)) x6 x7 x8 (Same.refl _) (.inr ho3) ro3 g3
    refine ⟨_, rfl, _, _, rfl, rfl, _, rfl, Cm.itD (fun hk0 => ?_) fun _ => Cm.itB (fun z => nomatch z) fun _ => base_⟩
    refine ⟨_, rfl, _, _, rfl, rfl, (by show (0 : Int) < 2; decide), rfl, _, rfl, Cm.itEI (fun _ => ?_) fun _ => base_⟩
    have hlt : (n / 2 % (0 + (k : Int))).toNat < igs.length := by
      have h1 := Int.emod_nonneg (n / 2) (b := 0 + (k : Int)) (by omega)
      have h2 := Int.emod_lt_of_pos (n / 2) (b := 0 + (k : Int)) (by omega)
      omega
    obtain ⟨u, hu, ru⟩ := rI3.at_ (i := (n / 2 % (0 + (k : Int))).toNat) (d := ifD igs[(n / 2 % (0 + (k : Int))).toNat]) (by rw [List.getElem?_map, List.getElem?_eq_getElem hlt]; rfl)
    have e3 := atI_nat hu
    rw [Int.toNat_of_nonneg (Int.emod_nonneg (n / 2) (b := 0 + (k : Int)) (by omega))] at e3
    have gx := oI _ (List.getElem_mem hlt)
    generalize igs[(n / 2 % (0 + (k : Int))).toNat] = x at *
    obtain ⟨tu, us, rfl, htu, rus⟩ := ru.tup_inv
    obtain ⟨w1, us, rfl, q1, rus⟩ := rus.cons_inv
    obtain ⟨w2, us, rfl, q2, rus⟩ := rus.cons_inv
    obtain rfl := rus.nil_inv
    obtain ⟨ou, ows, rfl, hou, rou⟩ := q2.tup_inv
    dsimp only [tSeq, tAsg]
    refine ⟨_, rfl, _, rfl, _, _, rfl, rfl, ⟨by decide, by decide⟩, _, rfl, _, _, rfl, rfl, (by show (0 : Int) < 0 + (k : Int); omega), ia, vs, _, _, rfl, rfl, SqL.of hi3, e3, tu, _, 1, _, rfl, rfl, htu, atI_nat (j := 1) rfl, ou, ows, rfl, .inr hou, fun l nl => ?_⟩
    simp only [gName, List.set_cons_succ, List.set_cons_zero]
    have s4 : Same H3 (L2.upd H3 l (.lst ows)) := Cm.same_new nl
    have hl4 : (L2.upd H3 l (.lst ows)) l = some (.lst ows) := upd_same
    have ro4 := rou.keep (Same.tups s4)
    have nl3 := nl
    generalize L2.upd H3 l (.lst ows) = H4 at *
    have copy_ := fin H4 l ows x.2 (some (.int n)) x6 x7 x8 s4 (.inl (SqL.of hl4)) ro4 gx
    refine ⟨_, rfl, l, _, rfl, .inl (SqL.of hl4), _, _, rfl, rfl, _, rfl, Cm.itD (fun hp => ?_) fun _ => Cm.itB (fun z => nomatch z) fun _ => copy_⟩
    refine ⟨_, rfl, _, _, rfl, rfl, ⟨by decide, by decide⟩, _, _, rfl, rfl, (by show (0 : Int) < 2; decide), rfl, _, rfl, Cm.itEI (fun _ => ?_) fun _ => copy_⟩
    obtain ⟨o0, os0, ex⟩ : ∃ o0 os0, x.2 = o0 :: os0 := by
      cases e : x.2 with
      | nil =>
        rw [e] at rou
        obtain rfl := Rps.nil_inv rou
        exact absurd hp (by decide)
      | cons o0 os0 => exact ⟨o0, os0, rfl⟩
    rw [ex] at ro4 gx
    obtain ⟨w0, ows, rfl, r0, ro5⟩ := Rps.cons_inv (show Rps K H4 ows (opD o0 :: os0.map opD) from ro4)
    obtain ⟨c0, d0, rfl, hc0, hd0⟩ := op_inv r0
    dsimp only [tSeq, tAsg]
    refine ⟨_, rfl, l, _, 0, _, rfl, rfl, SqL.of hl4, atI_nat (j := 0) rfl, c0, _, rfl, hc0, rfl, _, _, rfl, _, _, rfl, _, _, rfl, rfl, ?_⟩
    simp only [gName, List.set_cons_succ, List.set_cons_zero]
    dsimp only [tSeq, tAsg]
    refine ⟨_, rfl, _, rfl, Cm.small (by show 1 ≤ 100000; decide), fun p1 n1 => ⟨_, rfl, p1, na, _, _, rfl, rfl, upd_same, Cm.same_new n1 _ _ (s4 _ _ hn3), Cm.small (by rw [List.length_map]; simp only [List.length_cons, List.length_nil]; omega), fun p2 n2 => ?_⟩⟩
    have hk5 : (L2.upd (L2.upd H4 p1 (.lst [.str "int"])) p2 (.lst ([.str "int"] ++ ns.map V.str))) p2 = some (.lst ((knd ns).map V.str)) := upd_same
    have s5 : Same H4 (L2.upd (L2.upd H4 p1 (.lst [.str "int"])) p2 (.lst ([.str "int"] ++ ns.map V.str))) := (Cm.same_new n1).trans (Cm.same_new n2)
    generalize L2.upd (L2.upd H4 p1 (.lst [.str "int"])) p2 (.lst ([.str "int"] ++ ns.map V.str)) = H5 at *
    have hn5 := s5 _ _ (s4 _ _ hn3)
    have ix : ∃ k, k ∈ knd ns ∧ atI ((knd ns).map V.str) (n / 8 % (1 + ((ns.map V.str).length : Int))) = some (.str k) := by
      have h1 := Int.emod_nonneg (n / 8) (b := 1 + ((ns.map V.str).length : Int)) (by omega)
      have h2 := Int.emod_lt_of_pos (n / 8) (b := 1 + ((ns.map V.str).length : Int)) (by omega)
      refine Cm.at_str h1 ?_
      unfold knd
      rw [List.length_cons]
      rw [List.length_map] at h2 ⊢
      omega
    obtain ⟨k8, m8, e8⟩ := ix
    refine ⟨_, rfl, _, _, rfl, rfl, ⟨by decide, by decide⟩, _, rfl, na, _, rfl, .inl (SqL.of hn5), _, _, rfl, rfl, _, _, rfl, rfl, (by show (0 : Int) < 1 + ((ns.map V.str).length : Int); omega), p2, _, _, _, rfl, rfl, SqL.of hk5, e8, Cm.small (by show 3 ≤ 100000; decide), fun p3 n3 => ?_⟩
    have s6 := s5.trans (Cm.same_new (o := .tup [.str o0.1, .ref d0, .str k8]) n3)
    have r6 : Rp K (L2.upd H5 p3 (.tup [.str o0.1, .ref d0, .str k8])) (.ref p3) (opD (o0.1, o0.2.1, k8)) := Rp.made n3 (.cons (.str _) (.cons (.tup (Cm.sameT s5 hd0) (strs_rps _)) (.cons (.str _) .nil)))
    generalize L2.upd H5 p3 (.tup [.str o0.1, .ref d0, .str k8]) = H6 at *
    have hl6 := s6 _ _ hl4
    have tk : TK K H6 (L2.upd H6 l (.lst (.ref p3 :: ows))) := TK.upd (by rw [hl6]; exact True.intro)
    have i0 : ixN ((.ref c0 : V) :: ows).length 0 = some 0 := by
      unfold ixN
      rw [if_pos (by decide), if_pos (by rw [List.length_cons]; omega)]
      rfl
    refine ⟨_, rfl, l, _, 0, 0, rfl, rfl, hl6, i0, ?_⟩
    refine fin _ l (.ref p3 :: ows) ((o0.1, o0.2.1, k8) :: os0) _ _ _ _ ?_ (.inl (SqL.of upd_same)) (.cons (rp_keep tk r6) (rps_keep tk (ro5.keep (Same.tups s6)))) (gx.swap m8)
    exact Cm.same_mut (s4.trans s6) nl3
  · subst e
    rw [List.length_map, Int.toNat_natCast] at lI nI
    have nsL : igs.length = ns.length := lI
    rw [List.take_length] at nI
    dsimp only [tSeq, tAsg]
    refine ⟨Nat.zero_le _, fun ma nma => ?_⟩
    simp only [gName, List.set_cons_succ, List.set_cons_zero]
    dsimp only [tSeq, tAsg]
    have sM : Same Hi (L2.upd Hi ma (.lst [])) := Cm.same_new nma
    have hma : (L2.upd Hi ma (.lst [])) ma = some (.lst []) := upd_same
    have nmaH : H ma = none := by
      cases z : H ma with
      | none => rfl
      | some u => rw [sI _ _ z] at nma; cases nma
    generalize L2.upd Hi ma (.lst []) = Hm at *
    refine ⟨_, rfl, ra, row, 1, rfl, (sI.trans sM).seq hra, ha, fun c2 c20 c21 => .inl ⟨_, rfl, _, _, rfl, rfl, (by show (0 : Int) < 5; decide), _, rfl, (by omega), (by omega), ?_⟩⟩
    have h5 : (c2 % 5).toNat ≤ 4 := by omega
    generalize (c2 % 5).toNat = mm at *
    refine for_range (fun k σ Hk => ∃ (x3 x4 x5 x6 x7 x8 x10 x11 : Option V) (ms : List V) (mks : List Ig), σ = [some (.ref ra), some (.ref na), some (.ref ia), x3, x4, x5, x6, x7, x8, some (.ref ma), x10, x11, none] ∧ Same Hi Hk ∧ Hk ma = some (.lst ms) ∧ Rps K Hk ms (mks.map mkD) ∧ mks.length = k ∧ nms mks = mkN.take k ∧ ∀ x ∈ mks, OpsG ns x.2)
      ⟨x3, x4, x5, x6, x7, x8, none, none, [], [], rfl, sM, hma, .nil, rfl, rfl, fun _ h => nomatch h⟩ (fun k σ Hk hk ⟨y3, y4, y5, y6, y7, y8, y10, y11, ms, mks, e, sK, hmK, rK, lK, nK, oK⟩ => ?_) fun σ Hk ⟨y3, y4, y5, y6, y7, y8, y10, y11, ms, mks, e, sK, hmK, rK, lK, nK, oK⟩ => ?_
    · subst e
      simp only [gName, List.set_cons_succ, List.set_cons_zero]
      dsimp only [tSeq, tAsg]
      have s0K := sI.trans sK
      have lms : ms.length = k := by
        have := rK.len
        rw [List.length_map] at this
        omega
      refine ⟨_, rfl, _, rfl, _, _, rfl, rfl, .inl ⟨by decide, by decide⟩, _, _, rfl, rfl, _, rfl, ra, na, row, _, ns, rfl, s0K.seq hra, ha, sK _ _ hnI, l0, l6, fun H3 v os0 s3 r3 g3 => ?_⟩
      simp only [gName, List.set_cons_succ, List.set_cons_zero]
      dsimp only [tSeq, tAsg]
      have s03 := s0K.trans s3
      have sK3 := sK.trans s3
      refine ⟨_, rfl, _, rfl, _, _, rfl, rfl, ra, row, _, rfl, s03.seq hra, ha, fun n g0 g1 => .inl ⟨_, rfl, ?_⟩⟩
      simp only [gName, List.set_cons_succ, List.set_cons_zero]
      dsimp only [tSeq, tAsg]
      have hi3 := sK3 _ _ hiI
      have rI3 := rI.keep (Same.tups sK3)
      have hm3 := s3 _ _ hmK
      have nmd : ∀ {b}, Hi b = none → H b = none := fun {b} h => by
        cases z : H b with
        | none => rfl
        | some u => rw [sI _ _ z] at h; cases h
      obtain ⟨o3, ws3, rfl, ho3, ro3⟩ := r3.tup_inv
      have mk : mkN[k]? = some ("M" ++ Str.ofString (toString (0 + (k : Int)))) := by
        have : k = 0 ∨ k = 1 ∨ k = 2 ∨ k = 3 := by omega
        rcases this with rfl | rfl | rfl | rfl <;> decide +kernel
      have lvs : vs.length = ns.length := by
        have := rI.len
        rw [List.length_map] at this
        omega
      refine ⟨_, rfl, _, _, rfl, rfl, (by show (0 : Int) < 2; decide), rfl, _, rfl, Cm.itEI (fun _ => ?gA) fun _ => ?gB⟩
      case' gA =>
        have hlt : (n / 2 % (vs.length : Int)).toNat < igs.length := by
          have h1 := Int.emod_nonneg (n / 2) (b := (vs.length : Int)) (by omega)
          have h2 := Int.emod_lt_of_pos (n / 2) (b := (vs.length : Int)) (by omega)
          omega
        obtain ⟨u, hu, ru⟩ := rI3.at_ (i := (n / 2 % (vs.length : Int)).toNat) (d := ifD igs[(n / 2 % (vs.length : Int)).toNat]) (by rw [List.getElem?_map, List.getElem?_eq_getElem hlt]; rfl)
        have e3 := atI_nat hu
        rw [Int.toNat_of_nonneg (Int.emod_nonneg (n / 2) (b := (vs.length : Int)) (by omega))] at e3
        have gx := oI _ (List.getElem_mem hlt)
        generalize igs[(n / 2 % (vs.length : Int)).toNat] = x at *
        obtain ⟨tu, us, rfl, htu, rus⟩ := ru.tup_inv
        obtain ⟨w1, us, rfl, q1, rus⟩ := rus.cons_inv
        obtain ⟨w2, us, rfl, q2, rus⟩ := rus.cons_inv
        obtain rfl := rus.nil_inv
        dsimp only [tSeq, tAsg]
        refine ⟨_, rfl, _, rfl, _, _, rfl, rfl, ⟨by decide, by decide⟩, _, rfl, ia, vs, rfl, .inl (SqL.of hi3), _, _, rfl, rfl, (by show (0 : Int) < (vs.length : Int); omega), ia, vs, _, _, rfl, rfl, SqL.of hi3, e3, tu, _, 1, _, rfl, rfl, htu, atI_nat (j := 1) rfl, ?_⟩
        simp only [gName, List.set_cons_succ, List.set_cons_zero]
        clear ho3 ro3 g3
        generalize x.2 = os0 at *
        obtain ⟨o3, ws3, rfl, ho3, ro3⟩ := q2.tup_inv
        have g3 := gx
      all_goals
        dsimp only [tNext, tSeq, tAsg]
        refine ⟨Nat.zero_le _, fun md nmd3 => ?_⟩
        simp only [gName, List.set_cons_succ, List.set_cons_zero]
        dsimp only [tNext, tSeq, tAsg]
        have s34 : Same H3 (L2.upd H3 md (.lst [])) := Cm.same_new nmd3
        have hmd : (L2.upd H3 md (.lst [])) md = some (.lst []) := upd_same
        have lws : ws3.length = os0.length := by
          have := ro3.len
          rw [List.length_map] at this
          exact this
        generalize L2.upd H3 md (.lst []) = H4 at *
        refine SeqI.for_seq (K := K) (a := o3) (xs := ws3) rfl (.inr ho3) s34 (fun j σ Hj => ∃ (x6 x7 x8 x11 : Option V) (ds : List V), σ = [some (.ref ra), some (.ref na), some (.ref ia), some (.int (0 + (k : Int))), some (.ref o3), some (.int n), x6, x7, x8, some (.ref ma), some (.ref md), x11, none] ∧ Same H3 Hj ∧ Hj md = some (.lst ds) ∧ Rps K Hj ds ((os0.take j).map mopD) ∧ ds.length = j) ⟨_, _, _, _, [], rfl, s34, hmd, .nil, rfl⟩ (fun j σ G _ ⟨_, _, _, _, _, _, h, _⟩ => h) (fun j x σ Hj hx ⟨z6, z7, z8, z11, ds, e, sJ, hdJ, rdJ, ldJ⟩ => ?_) fun σ Hj ⟨z6, z7, z8, z11, ds, e, sJ, hdJ, rdJ, ldJ⟩ => ?_
        · subst e
          have hj : j < os0.length := by
            have := (List.getElem?_eq_some_iff.mp hx).1
            omega
          obtain ⟨x', hx', rx⟩ := ro3.at_ (i := j) (d := opD os0[j]) (by rw [List.getElem?_map, List.getElem?_eq_getElem hj]; rfl)
          rw [hx] at hx'
          cases hx'
          have hjo := List.getElem?_eq_getElem hj
          have ar := g3.ar _ (List.getElem_mem hj)
          have l3 := g3.len
          generalize os0[j] = o at *
          obtain ⟨c, d, rfl, hc, hd⟩ := op_inv (rx.keep (Same.tups sJ))
          refine ⟨c, _, rfl, hc, rfl, _, _, rfl, _, _, rfl, _, _, rfl, rfl, ?_⟩
          simp only [gName, List.set_cons_succ, List.set_cons_zero]
          dsimp only [tNext, tSeq, tAsg]
          refine ⟨_, rfl, d, _, rfl, .inr hd, _, rfl, (by rw [List.length_map]; omega), (by rw [List.length_map]; omega), fun D nD => ?_⟩
          refine lc_range (n := ((o.2.1.map V.str).length : Int).toNat) (fun i Hi => Same Hj Hi ∧ ∃ us, Hi D = some (.lst us) ∧ Rps K Hi us ((pairsD o.2.1).take i) ∧ us.length = i) ⟨Cm.same_new nD, [], upd_same, .nil, rfl⟩ (fun i Hi hi ⟨sI2, us, hD, ru, lu⟩ => ?_) fun Hi ⟨sI2, us, hD, ru, lu⟩ => ?_
          · refine ⟨rfl, ?_⟩
            have hi2 : i < o.2.1.length := by
              rw [Int.toNat_natCast, List.length_map] at hi
              exact hi
            have eg := List.getElem?_eq_getElem hi2
            have eat : atI (o.2.1.map V.str) (0 + (i : Int)) = some (.str o.2.1[i]) := by
              rw [Int.zero_add]
              exact atI_nat (j := i) (by rw [List.getElem?_map, eg]; rfl)
            have lp : (("p" : Str)).length = 1 := by decide +kernel
            have ld := small_dig (i := i) (by omega)
            refine ⟨_, rfl, _, rfl, small_log (by omega), _, _, rfl, rfl, Cm.small (by omega), _, rfl, _, rfl, d, _, _, _, rfl, rfl, Cm.sameT sI2 hd, eat, Cm.small (by show 2 ≤ 100000; decide), fun t nt => ?_⟩
            have rt : Rp K (L2.upd Hi t (.tup [.str (("p" : Str) ++ Str.ofString (toString (0 + (i : Int)))), .str o.2.1[i]])) (.ref t) (.tuple [.str (("p" : Str) ++ Str.ofString (toString (0 + (i : Int)))), .str o.2.1[i]]) := Rp.made nt (.cons (.str _) (.cons (.str _) .nil))
            have st := Cm.same_new (o := .tup [.str (("p" : Str) ++ Str.ofString (toString (0 + (i : Int)))), .str o.2.1[i]]) nt
            generalize L2.upd Hi t (.tup [.str (("p" : Str) ++ Str.ofString (toString (0 + (i : Int)))), .str o.2.1[i]]) = Ht at *
            have hDt := st _ _ hD
            have tk : TK K Ht (L2.upd Ht D (.lst (us ++ [.ref t]))) := TK.upd (by rw [hDt]; exact True.intro)
            refine ⟨us, hDt, Cm.smallL (by omega), Cm.same_mut (sI2.trans st) nD, us ++ [.ref t], upd_same, ?_, by rw [List.length_append, lu]; rfl⟩
            rw [List.take_succ, pairsD_get eg]
            exact rps_keep tk (Rps.app (ru.keep (Same.tups st)) (.cons rt .nil))
          · rw [Int.toNat_natCast, List.length_map, show o.2.1.length = (pairsD o.2.1).length from (pairsD_len _).symm, List.take_length] at ru
            refine ⟨D, us, rfl, .inl ⟨SqL.of hD, fun l nl => ?_⟩⟩
            have rl : Rp K (L2.upd Hi l (.tup us)) (.ref l) (.tuple (pairsD o.2.1)) := Rp.made nl ru
            have sl := sI2.trans (Cm.same_new (o := .tup us) nl)
            generalize L2.upd Hi l (.tup us) = Hl at *
            simp only [gName, List.set_cons_succ, List.set_cons_zero]
            have hdl := sl _ _ hdJ
            refine ⟨_, rfl, .inl ⟨rfl, _, SqL.of hdl⟩, _, rfl, _, rfl, _, rfl, Cm.small (by show 1 ≤ 100000; decide), fun a1 n1 => ⟨Cm.small (by show 2 ≤ 100000; decide), fun a2 n2 => ⟨Cm.small (by show 1 ≤ 100000; decide), fun a3 n3 => ⟨Cm.small (by show 4 ≤ 100000; decide), fun a4 n4 => ?_⟩⟩⟩⟩
            have t1 : Rp K (L2.upd Hl a1 (.tup [.str "nil"])) (.ref a1) (.tuple [.str "nil"]) := Rp.made n1 (.cons (.str _) .nil)
            have u1 := Cm.same_new (o := .tup [.str "nil"]) n1
            generalize L2.upd Hl a1 (.tup [.str "nil"]) = G1 at *
            have t2 : Rp K (L2.upd G1 a2 (.tup [.str "return", .ref a1])) (.ref a2) (.tuple [.str "return", .tuple [.str "nil"]]) := Rp.made n2 (.cons (.str _) (.cons t1 .nil))
            have u2 := Cm.same_new (o := .tup [.str "return", .ref a1]) n2
            generalize L2.upd G1 a2 (.tup [.str "return", .ref a1]) = G2 at *
            have t3 : Rp K (L2.upd G2 a3 (.tup [.ref a2])) (.ref a3) blkD := Rp.made n3 (.cons t2 .nil)
            have u3 := Cm.same_new (o := .tup [.ref a2]) n3
            generalize L2.upd G2 a3 (.tup [.ref a2]) = G3 at *
            have u13 := (u1.trans u2).trans u3
            have t4 : Rp K (L2.upd G3 a4 (.tup [.str o.1, .ref l, .str o.2.2, .ref a3])) (.ref a4) (mopD o) := Rp.made n4 (.cons (.str _) (.cons (rl.keep (Same.tups u13)) (.cons (.str _) (.cons t3 .nil))))
            have u4 := Cm.same_new (o := .tup [.str o.1, .ref l, .str o.2.2, .ref a3]) n4
            generalize L2.upd G3 a4 (.tup [.str o.1, .ref l, .str o.2.2, .ref a3]) = G4 at *
            have uA := u13.trans u4
            have hd4 := uA _ _ hdl
            have tk : TK K G4 (L2.upd G4 md (.lst (ds ++ [.ref a4]))) := TK.upd (by rw [hd4]; exact True.intro)
            refine ⟨md, ds, _, rfl, rfl, hd4, Cm.smallL (by omega), _, _, _, _, ds ++ [.ref a4], rfl, Cm.same_mut ((sJ.trans sl).trans uA) nmd3, upd_same, ?_, by rw [List.length_append, ldJ]; rfl⟩
            rw [List.take_succ, hjo, List.map_append]
            exact rps_keep tk (Rps.app (rdJ.keep (Same.tups (sl.trans uA))) (.cons t4 .nil))
        · subst e
          rw [lws, List.take_length] at rdJ
          have k4 : k < 4 := by omega
          have lp : (("M" : Str)).length = 1 := by decide +kernel
          have ld := small_dig (i := k) k4
          have hmJ := sJ _ _ hm3
          refine ⟨_, rfl, .inl ⟨rfl, _, SqL.of hmJ⟩, _, rfl, _, rfl, small_log (by omega), _, _, rfl, rfl, Cm.small (by omega), Nat.zero_le _, fun a1 n1 => ⟨Nat.zero_le _, fun a2 n2 => ⟨_, rfl, md, ds, rfl, .inl ⟨SqL.of (((Cm.same_new n1).trans (Cm.same_new n2)) _ _ hdJ), fun a3 n3 => ⟨Cm.small (by show 4 ≤ 100000; decide), fun a4 n4 => ?_⟩⟩⟩⟩⟩
          have t1 : Rp K (L2.upd Hj a1 (.tup [])) (.ref a1) (.tuple []) := Rp.made n1 .nil
          have u1 := Cm.same_new (o := .tup []) n1
          generalize L2.upd Hj a1 (.tup []) = G1 at *
          have t2 : Rp K (L2.upd G1 a2 (.tup [])) (.ref a2) (.tuple []) := Rp.made n2 .nil
          have u2 := Cm.same_new (o := .tup []) n2
          generalize L2.upd G1 a2 (.tup []) = G2 at *
          have t3 : Rp K (L2.upd G2 a3 (.tup ds)) (.ref a3) (.tuple (os0.map mopD)) := Rp.made n3 (rdJ.keep (Same.tups (u1.trans u2)))
          have u3 := Cm.same_new (o := .tup ds) n3
          generalize L2.upd G2 a3 (.tup ds) = G3 at *
          have t4 : Rp K (L2.upd G3 a4 (.tup [.str (("M" : Str) ++ Str.ofString (toString (0 + (k : Int)))), .ref a1, .ref a2, .ref a3])) (.ref a4) (mkD ((("M" : Str) ++ Str.ofString (toString (0 + (k : Int)))), os0)) := Rp.made n4 (.cons (.str _) (.cons (t1.keep (Same.tups (u2.trans u3))) (.cons (t2.keep (Same.tups u3)) (.cons t3 .nil))))
          have u4 := Cm.same_new (o := .tup [.str (("M" : Str) ++ Str.ofString (toString (0 + (k : Int)))), .ref a1, .ref a2, .ref a3]) n4
          generalize L2.upd G3 a4 (.tup [.str (("M" : Str) ++ Str.ofString (toString (0 + (k : Int)))), .ref a1, .ref a2, .ref a3]) = G4 at *
          have uA := ((u1.trans u2).trans u3).trans u4
          have hm4 := uA _ _ hmJ
          have tk : TK K G4 (L2.upd G4 ma (.lst (ms ++ [.ref a4]))) := TK.upd (by rw [hm4]; exact True.intro)
          refine ⟨ma, ms, _, rfl, rfl, hm4, Cm.smallL (by omega), _, _, _, _, _, _, _, _, ms ++ [.ref a4], mks ++ [((("M" : Str) ++ Str.ofString (toString (0 + (k : Int)))), os0)], rfl, Cm.same_mut ((sK3.trans sJ).trans uA) nma, upd_same, ?_, by rw [List.length_append, lK]; rfl, ?_, fun x hx => ?_⟩
          · rw [List.map_append]
            exact rps_keep tk (Rps.app (rK.keep (Same.tups ((s3.trans sJ).trans uA))) (.cons t4 .nil))
          · rw [List.take_succ, mk, nms, List.map_append, show mks.map (·.1) = mkN.take k from nK]
            rfl
          · rcases List.mem_append.mp hx with h | h
            · exact oK x h
            · rw [List.mem_singleton.mp h]
              exact g3
    · subst e
      dsimp only [tSeq, tAsg, tRet]
      have hi2 := sK _ _ hiI
      have ri2 := rI.keep (Same.tups sK)
      refine ⟨_, rfl, ia, _, rfl, .inl ⟨SqL.of hi2, fun l1 nl1 => ?_⟩⟩
      have s1' := sK.trans (Cm.same_new (o := .tup vs) nl1)
      have r1' : Rp K (L2.upd Hk l1 (.tup vs)) (.ref l1) (.tuple (igs.map ifD)) := Rp.made nl1 ri2
      have hm1 := Cm.same_new (o := .tup vs) nl1 _ _ hmK
      have rK1 := rK.keep (Same.tups (Cm.same_new (o := .tup vs) nl1))
      generalize L2.upd Hk l1 (.tup vs) = G1 at *
      refine ⟨_, rfl, ma, _, rfl, .inl ⟨SqL.of hm1, fun l2 nl2 => ?_⟩⟩
      have s2' := Cm.same_new (H := G1) (o := .tup ms) nl2
      have r2' : Rp K (L2.upd G1 l2 (.tup ms)) (.ref l2) (.tuple (mks.map mkD)) := Rp.made nl2 rK1
      generalize L2.upd G1 l2 (.tup ms) = G2 at *
      refine ⟨Cm.small (by show 2 ≤ 100000; decide), fun l3 nl3 => ⟨Cm.small (by show 2 ≤ 100000; decide), fun l4 nl4 => ⟨Cm.small (by show 1 ≤ 100000; decide), fun l5 nl5 => ⟨Cm.small (by show 3 ≤ 100000; decide), fun l6 nl6 => ?_⟩⟩⟩⟩
      have t3 : Rp K (L2.upd G2 l3 (.tup [.str "int", .int 1])) (.ref l3) (.tuple [.str "int", .int 1]) := Rp.made nl3 (.cons (.str _) (.cons (.int _) .nil))
      have u3 := Cm.same_new (o := .tup [.str "int", .int 1]) nl3
      generalize L2.upd G2 l3 (.tup [.str "int", .int 1]) = G3 at *
      have t4 : Rp K (L2.upd G3 l4 (.tup [.str "return", .ref l3])) (.ref l4) (.tuple [.str "return", .tuple [.str "int", .int 1]]) := Rp.made nl4 (.cons (.str _) (.cons t3 .nil))
      have u4 := Cm.same_new (o := .tup [.str "return", .ref l3]) nl4
      generalize L2.upd G3 l4 (.tup [.str "return", .ref l3]) = G4 at *
      have t5 : Rp K (L2.upd G4 l5 (.tup [.ref l4])) (.ref l5) lawB := Rp.made nl5 (.cons t4 .nil)
      have u5 := Cm.same_new (o := .tup [.ref l4]) nl5
      generalize L2.upd G4 l5 (.tup [.ref l4]) = G5 at *
      have u25 := (u3.trans u4).trans u5
      have t6 : Rp K (L2.upd G5 l6 (.tup [.ref l1, .ref l2, .ref l5])) (.ref l6) (progD igs mks lawB) := Rp.made nl6 (.cons (r1'.keep (Same.tups (s2'.trans u25))) (.cons (r2'.keep (Same.tups u25)) (.cons t5 .nil)))
      refine q _ _ igs mks ((((sI.trans s1').trans s2').trans u25).trans (Cm.same_new nl6)) t6 ⟨by omega, by omega, ?_, by omega, ?_, ?_, ?_⟩
      · rw [nI, nsL]
        exact ens
      · rw [nK, lK]
      · rw [nI]
        exact oI
      · rw [nI]
        exact oK
/-! ### the table -/
def OpL (K : PySem.W.Frag) (H : Hp) (o : Op) (w : V) : Prop := ∃ t kl, w = .ref t ∧ SqT K H t [.str o.1, .ref kl, .str o.2.2] ∧ H kl = some (.lst (o.2.1.map V.str))
/-- .. not at D -/
def OpX (D : Addr) (K : PySem.W.Frag) (H : Hp) (o : Op) (w : V) : Prop := ∃ t kl, w = .ref t ∧ SqT K H t [.str o.1, .ref kl, .str o.2.2] ∧ H kl = some (.lst (o.2.1.map V.str)) ∧ kl ≠ D
def RowL (K : PySem.W.Frag) (H : Hp) (x : Ig) (v : V) : Prop := ∃ l ws, v = .ref l ∧ H l = some (.lst ws) ∧ Paired (OpL K H) x.2 ws
def TL (K : PySem.W.Frag) (H : Hp) (d : Addr) (tb : Tb) : Prop := ∃ vs, H d = some (.dK (tkv tb vs)) ∧ Paired (RowL K H) tb vs
theorem OpL.keep {H H' : Hp} {z : Addr} {os : List Op} {ws : List V} (tk : TK K H H') (kp : ∀ b xs, H b = some (.lst xs) → H' b = some (.lst xs)) (h : Paired (OpL K H) os ws) : Paired (OpL K H') os ws := Paired.mapP h fun _ _ ⟨t, kl, e, h1, h2⟩ => ⟨t, kl, e, tk _ _ h1, kp _ _ h2⟩
theorem RowL.keep {H H' : Hp} {tb : Tb} {vs : List V} (tk : TK K H H') (kp : ∀ b xs, H b = some (.lst xs) → H' b = some (.lst xs)) (h : Paired (RowL K H) tb vs) : Paired (RowL K H') tb vs := Paired.mapP h fun _ _ ⟨l, ws, e, h1, h2⟩ => ⟨l, ws, e, kp _ _ h1, Paired.mapP h2 fun _ _ ⟨t, kl, e, h1, h2⟩ => ⟨t, kl, e, tk _ _ h1, kp _ _ h2⟩⟩
theorem TL.same {H H' : Hp} {d : Addr} {tb : Tb} (s : Same H H') (h : TL K H d tb) : TL K H' d tb := by
  obtain ⟨vs, h1, h2⟩ := h
  exact ⟨vs, s _ _ h1, RowL.keep (TK.same s) (fun b xs h => s _ _ h) h2⟩
theorem take_snoc {α : Type} {l : List α} {i : Nat} {x : α} (h : l[i]? = some x) : l.take (i + 1) = l.take i ++ [x] := by
  rw [List.take_succ, h]
  rfl
theorem tl_put {H : Hp} {d : Addr} {tb : Tb} {vs : List V} {i : Nat} {x : Ig} {u : V} (nd : (nms tb).Nodup) (h : tb[i]? = some x) (hd : H d = some (.dK (tkv (tb.take i) vs))) (hp : Paired (RowL K H) (tb.take i) vs) (hr : RowL K H x u) :
    (L2.upd H d (.dK (putK (tkv (tb.take i) vs) (.inr x.1) u))) d = some (.dK (tkv (tb.take (i + 1)) (vs ++ [u]))) ∧ Paired (RowL K (L2.upd H d (.dK (putK (tkv (tb.take i) vs) (.inr x.1) u)))) (tb.take (i + 1)) (vs ++ [u]) := by
  have li := (List.getElem?_eq_some_iff.mp h).1
  have lv : vs.length = i := by
    have := hp.length
    rw [List.length_take] at this
    omega
  refine ⟨by rw [upd_same, tab_snoc nd h lv], ?_⟩
  rw [take_snoc h]
  refine RowL.keep (TK.upd (by rw [hd]; exact True.intro)) (fun b xs hb => ?_) (Paired.snoc hp hr)
  rw [upd_ne fun z => by rw [z, hd] at hb; cases hb]
  exact hb
theorem tkv_len {tb : Tb} {vs : List V} (h : tb.length = vs.length) : (tkv tb vs).length = tb.length := by
  unfold tkv
  rw [List.length_zipWith, h]
  exact Nat.min_self _
theorem OpX.step {H : Hp} {D t kl : Addr} {o : Op} {os : List Op} {us : List V} (hD : H D = some (.lst us)) (hp : Paired (OpX D K H) os us) (ht : SqT K H t [.str o.1, .ref kl, .str o.2.2]) (hk : H kl = some (.lst (o.2.1.map V.str))) (ne : kl ≠ D) :
    Paired (OpX D K (L2.upd H D (.lst (us ++ [.ref t])))) (os ++ [o]) (us ++ [.ref t]) := by
  have tk : TK K H (L2.upd H D (.lst (us ++ [.ref t]))) := TK.upd (by rw [hD]; exact True.intro)
  refine Paired.snoc (Paired.mapP hp fun _ _ ⟨t, kl, e, h1, h2, h3⟩ => ⟨t, kl, e, tk _ _ h1, (upd_ne h3).trans h2, h3⟩) ⟨t, kl, rfl, tk _ _ ht, (upd_ne ne).trans hk, ne⟩
theorem OpX.same {H H' : Hp} {D : Addr} {os : List Op} {us : List V} (s : Same H H') (hp : Paired (OpX D K H) os us) : Paired (OpX D K H') os us := Paired.mapP hp fun _ _ ⟨t, kl, e, h1, h2, h3⟩ => ⟨t, kl, e, Cm.sameT s h1, s _ _ h2, h3⟩
theorem OpX.fin {H : Hp} {D : Addr} {os : List Op} {us : List V} (hp : Paired (OpX D K H) os us) : Paired (OpL K H) os us := Paired.mapP hp fun _ _ ⟨t, kl, e, h1, h2, _⟩ => ⟨t, kl, e, h1, h2⟩
def spTab (K : PySem.W.Frag) : Sp := fun vs H Q _ => ∃ (v : V) (igs mks : List Ig) (b : PyData), vs = [v] ∧ Rp K H v (progD igs mks b) ∧ (nms (igs ++ mks)).Nodup ∧ igs.length ≤ 50 ∧ mks.length ≤ 50 ∧ (∀ x ∈ igs ++ mks, x.2.length ≤ 50 ∧ ∀ o ∈ x.2, o.2.1.length ≤ 50) ∧
  ∀ H' d, Same H H' → H d = none → TL K H' d (igs ++ mks) → Q (.ref d) H'
theorem ok_lw_table (T : Txt K mg w a) : FnOk P w K mg base CX0 1 (He.ga K "_law_table") a.d_lw_table ["program"] (spTab K) := by
  refine T.F_lw_table.ok sc_lw_table (fun vs H Q E h => ?_) (fun cdv A outer s H vs Q E hr h => ?_)
  · obtain ⟨_, _, _, _, rfl, _⟩ := h
    rfl
  obtain ⟨v, igs, mks, b, rfl, r, nd, li, lm, lo, q⟩ := h
  refine ⟨_, PSs.nox (pss_cons (ps_set (i := 1) sc_lw_table.nd rfl (Or.inl rfl) pe_dnewK)
      (pss_cons (ps_for PassesOwn.never rfl (pi_tup (pe_ix ix_tup (pv 0) pe_int (fun _ _ => rfl))) (pg_tup (by rfl) (pgs_cons (pg_name (i := 2) sc_lw_table.nd rfl (Or.inl rfl)) (pgs_cons (pg_name (i := 3) sc_lw_table.nd rfl (Or.inl rfl)) pgs_nil)))
      (pss_one (ps_dput (hu_of hr) (pv 1) (pv 2) (pe_lc (own := [("word", 6), ("kinds", 7), ("result", 8)]) (g := gTup K 3 (gCons (gName 6) (gCons (gName 7) (gCons (gName 8) gNil)))) (tt := tYes)  (by rfl) sc_lw_table.nd (pi_tup (pv 3)) (blkOk_by (own := [("word", 6), ("kinds", 7), ("result", 8)]) (N := N_lw_table) (sc := defScope s_lw_table) (by decide +kernel)) (fun _ _ _ _ _ => (pg_tup (by rfl) (pgs_cons (pg_name (i := 6) sc_lw_table.nd rfl (Or.inl rfl)) (pgs_cons (pg_name (i := 7) sc_lw_table.nd rfl (Or.inl rfl)) (pgs_cons (pg_name (i := 8) sc_lw_table.nd rfl (Or.inl rfl)) pgs_nil))))) (fun _ _ _ _ _ => pts_nil) (fun _ _ _ _ _ => (pe_tup (pa_cons (pv 6) (pa_cons (pe_callTy (ListK.list_of K rfl) (by rfl) T.g_list boot_list (pa_cons (pv 7) pa_nil)) (pa_cons (pv 8) pa_nil)))))) rfl)))
      (pss_cons (ps_for PassesOwn.never rfl (pi_tup (pe_ix ix_tup (pv 0) pe_int (fun _ _ => rfl))) (pg_tup (by rfl) (pgs_cons (pg_name (i := 2) sc_lw_table.nd rfl (Or.inl rfl)) (pgs_cons (pg_name (i := 4) sc_lw_table.nd rfl (Or.inl rfl)) (pgs_cons (pg_name (i := 5) sc_lw_table.nd rfl (Or.inl rfl)) (pgs_cons (pg_name (i := 3) sc_lw_table.nd rfl (Or.inl rfl)) pgs_nil)))))
      (pss_one (ps_dput (hu_of hr) (pv 1) (pv 2) (pe_lc (own := [("word", 6), ("pairs", 9), ("result", 8), ("block", 10)]) (g := gTup K 4 (gCons (gName 6) (gCons (gName 9) (gCons (gName 8) (gCons (gName 10) gNil))))) (tt := tYes) (te := (tTup (tCons (tVar 6) (tCons (tLc (iTup K (tVar 9)) (gTup K 2 (gCons (gName 11) (gCons (gName 12) gNil))) tYes (tVar 12) [11, 12]) (tCons (tVar 8) tNil))))) (by rfl) sc_lw_table.nd (pi_tup (pv 3)) (blkOk_by (own := [("word", 6), ("pairs", 9), ("result", 8), ("block", 10)]) (N := N_lw_table) (sc := defScope s_lw_table) (by decide +kernel)) (fun _ _ _ _ _ => (pg_tup (by rfl) (pgs_cons (pg_name (i := 6) sc_lw_table.nd rfl (Or.inl rfl)) (pgs_cons (pg_name (i := 9) sc_lw_table.nd rfl (Or.inl rfl)) (pgs_cons (pg_name (i := 8) sc_lw_table.nd rfl (Or.inl rfl)) (pgs_cons (pg_name (i := 10) sc_lw_table.nd rfl (Or.inl rfl)) pgs_nil)))))) (fun _ _ _ _ _ => pts_nil) (fun _ _ _ _ _ => (pe_tup (pa_cons (pv 6) (pa_cons (pe_lc (own := [("one", 11), ("kind", 12)]) (g := gTup K 2 (gCons (gName 11) (gCons (gName 12) gNil))) (tt := tYes)  (by rfl) sc_lw_table.nd (pi_tup (pv 9)) (blkOk_by (own := [("one", 11), ("kind", 12)]) (by first | kernel_rfl | rfl)) (fun _ _ _ _ _ => (pg_tup (by rfl) (pgs_cons (pg_name (i := 11) sc_lw_table.nd rfl (Or.inl rfl)) (pgs_cons (pg_name (i := 12) sc_lw_table.nd rfl (Or.inl rfl)) pgs_nil)))) (fun _ _ _ _ _ => pts_nil) (fun _ _ _ _ _ => (pv 12))) (pa_cons (pv 8) pa_nil)))))) rfl)))
      (pss_one (ps_ret (pv 1)))))), ?_⟩
  rw [show L2.start N_lw_table [v] = [some v, none, none, none, none, none, none, none, none, none, none, none, none] from rfl]
  obtain ⟨c, xs, rfl, hc, rs⟩ := r.tup_inv
  obtain ⟨w1, xs, rfl, r1, rs⟩ := rs.cons_inv
  obtain ⟨w2, xs, rfl, r2, rs⟩ := rs.cons_inv
  obtain ⟨w3, xs, rfl, r3, rs⟩ := rs.cons_inv
  obtain rfl := rs.nil_inv
  obtain ⟨c1, xs1, rfl, hc1, rs1⟩ := r1.tup_inv
  obtain ⟨c2, xs2, rfl, hc2, rs2⟩ := r2.tup_inv
  have l1 := rs1.len
  have l2 := rs2.len
  rw [List.length_map] at l1 l2
  dsimp only [tSeq, tAsg]
  refine fun d nd0 => ?_
  simp only [gName, List.set_cons_succ, List.set_cons_zero]
  dsimp only [tSeq, tAsg]
  have s0 : Same H (L2.upd H d (.dK [])) := Cm.same_new nd0
  have hd0 : (L2.upd H d (.dK [])) d = some (.dK []) := upd_same
  generalize L2.upd H d (.dK []) = H0 at *
  have hcA := Cm.sameT s0 hc
  have ll : (igs ++ mks).length ≤ 100 := by rw [List.length_append]; omega
  refine ⟨_, rfl, c, _, 0, _, rfl, rfl, hcA, atI_nat (j := 0) rfl, c1, rfl, ⟨_, Cm.sameT s0 hc1⟩, ?_⟩
  refine for_tup (K := K) (a := c1) (xs := xs1) (D := { nx := _, rt := Q }) (fun i σ Hi => ∃ (x2 x3 x4 x5 : Option V) (vs : List V), σ = [some (.ref c), some (.ref d), x2, x3, x4, x5, none, none, none, none, none, none, none] ∧ Same H Hi ∧ Hi d = some (.dK (tkv ((igs ++ mks).take i) vs)) ∧ Paired (RowL K Hi) ((igs ++ mks).take i) vs) ⟨none, none, none, none, [], rfl, s0, hd0, .nil⟩ (fun i σ Hi _ ⟨_, _, _, _, _, _, sI, _⟩ => Cm.sameT sI hc1) (fun i x σ Hi hx ⟨x2, x3, x4, x5, vs, e, sI, hdI, pI⟩ => ?_) fun σ Hi ⟨x2, x3, x4, x5, vs, e, sI, hdI, pI⟩ => ?_
  · subst e
    have hi : i < igs.length := by
      have := (List.getElem?_eq_some_iff.mp hx).1
      omega
    obtain ⟨x', hx', rx⟩ := rs1.at_ (i := i) (d := ifD igs[i]) (by rw [List.getElem?_map, List.getElem?_eq_getElem hi]; rfl)
    rw [hx] at hx'
    cases hx'
    have hti : (igs ++ mks)[i]? = some igs[i] := by rw [List.getElem?_append_left hi, List.getElem?_eq_getElem hi]
    have lo1 := lo _ (List.mem_append.mpr (.inl (List.getElem_mem hi)))
    generalize igs[i] = g at *
    obtain ⟨t, us, rfl, ht, ru⟩ := (rx.keep (Same.tups sI)).tup_inv
    obtain ⟨a1, us, rfl, q1, ru⟩ := ru.cons_inv
    obtain ⟨a2, us, rfl, q2, ru⟩ := ru.cons_inv
    obtain rfl := ru.nil_inv
    obtain rfl := q1.str_inv
    obtain ⟨to, os, rfl, hto, ro⟩ := q2.tup_inv
    have los := ro.len
    rw [List.length_map] at los
    refine ⟨t, _, rfl, ht, rfl, _, _, rfl, _, _, rfl, rfl, ?_⟩
    simp only [gName, List.set_cons_succ, List.set_cons_zero]
    refine ⟨_, rfl, to, rfl, ⟨_, hto⟩, fun D nD => ?_⟩
    refine lc_tup (K := K) (a := to) (xs := os) (fun j Hj => Same Hi Hj ∧ ∃ us, Hj D = some (.lst us) ∧ Paired (OpX D K Hj) (g.2.take j) us ∧ us.length = j) ⟨Cm.same_new nD, [], upd_same, .nil, rfl⟩ (fun j Hj _ b => Cm.sameT b.1 hto) (fun j y Hj hy ⟨sJ, us, hD, pJ, lJ⟩ => ?_) fun Hj ⟨sJ, us, hD, pJ, lJ⟩ => ?_
    · have hj : j < g.2.length := by
        have := (List.getElem?_eq_some_iff.mp hy).1
        omega
      obtain ⟨y', hy', ry⟩ := ro.at_ (i := j) (d := opD g.2[j]) (by rw [List.getElem?_map, List.getElem?_eq_getElem hj]; rfl)
      rw [hy] at hy'
      cases hy'
      have hgj := List.getElem?_eq_getElem hj
      generalize g.2[j] = o at *
      obtain ⟨e1, e2, rfl, he1, he2⟩ := op_inv (ry.keep (Same.tups sJ))
      refine ⟨e1, _, rfl, he1, rfl, _, _, rfl, _, _, rfl, _, _, rfl, rfl, rfl, ?_⟩
      refine ⟨_, rfl, _, rfl, e2, _, rfl, .inr he2, fun l nl => ⟨_, rfl, Cm.small (by show 3 ≤ 100000; decide), fun t3 n3 => ?_⟩⟩
      have u1 := Cm.same_new (o := .lst (o.2.1.map V.str)) nl
      have hl : (L2.upd Hj l (.lst (o.2.1.map V.str))) l = some (.lst (o.2.1.map V.str)) := upd_same
      generalize L2.upd Hj l (.lst (o.2.1.map V.str)) = G1 at *
      have u2 := Cm.same_new (o := .tup [.str o.1, .ref l, .str o.2.2]) n3
      have ht3 : SqT K (L2.upd G1 t3 (.tup [.str o.1, .ref l, .str o.2.2])) t3 [.str o.1, .ref l, .str o.2.2] := Cm.sqt_new
      generalize L2.upd G1 t3 (.tup [.str o.1, .ref l, .str o.2.2]) = G2 at *
      have hl2 := u2 _ _ hl
      have u12 := u1.trans u2
      have hD2 := u12 _ _ hD
      have lD : l ≠ D := fun z => by rw [z, hD] at nl; cases nl
      refine ⟨us, hD2, Cm.smallL (by omega), Cm.same_mut (sJ.trans u12) nD, us ++ [.ref t3], upd_same, ?_, by rw [List.length_append, lJ]; rfl⟩
      rw [take_snoc hgj]
      exact OpX.step hD2 (OpX.same u12 pJ) ht3 hl2 lD
    · rw [los, List.take_length] at pJ
      have nDd : D ≠ d := fun z => by rw [z, hdI] at nD; cases nD
      have hdJ := sJ _ _ hdI
      have pI2 := RowL.keep (TK.same sJ) (fun b xs h => sJ _ _ h) pI
      obtain ⟨h1, h2⟩ := tl_put nd hti hdJ pI2 (u := .ref D) ⟨D, us, rfl, hD, OpX.fin pJ⟩
      have lvs : (tkv ((igs ++ mks).take i) vs).length ≤ 100 := by
        rw [tkv_len pI.length, List.length_take]
        omega
      exact ⟨_, rfl, _, rfl, d, _, rfl, .inl ⟨_, .inr g.1, hdJ, rfl, Cm.smallL (by omega), rfl⟩, _, _, _, _, _, rfl, Cm.same_mut (sI.trans sJ) nd0, h1, h2⟩
  · subst e
    rw [l1] at hdI pI
    have hcI := Cm.sameT sI hc
    dsimp only [tSeq, tAsg]
    refine ⟨_, rfl, c, _, 1, _, rfl, rfl, hcI, atI_nat (j := 1) rfl, c2, rfl, ⟨_, Cm.sameT sI hc2⟩, ?_⟩
    refine for_tup (K := K) (a := c2) (xs := xs2) (D := { nx := _, rt := Q }) (fun i σ Hi => ∃ (x2 x3 x4 x5 : Option V) (vs : List V), σ = [some (.ref c), some (.ref d), x2, x3, x4, x5, none, none, none, none, none, none, none] ∧ Same H Hi ∧ Hi d = some (.dK (tkv ((igs ++ mks).take (igs.length + i)) vs)) ∧ Paired (RowL K Hi) ((igs ++ mks).take (igs.length + i)) vs) ⟨_, _, _, _, vs, rfl, sI, hdI, pI⟩ (fun i σ Hi _ ⟨_, _, _, _, _, _, sI, _⟩ => Cm.sameT sI hc2) (fun i x σ Hi hx ⟨x2, x3, x4, x5, vs, e, sI, hdI, pI⟩ => ?_) fun σ Hi ⟨x2, x3, x4, x5, vs, e, sI, hdI, pI⟩ => ?_
    · subst e
      have hi : i < mks.length := by
        have := (List.getElem?_eq_some_iff.mp hx).1
        omega
      obtain ⟨x', hx', rx⟩ := rs2.at_ (i := i) (d := mkD mks[i]) (by rw [List.getElem?_map, List.getElem?_eq_getElem hi]; rfl)
      rw [hx] at hx'
      cases hx'
      have hti : (igs ++ mks)[igs.length + i]? = some mks[i] := by rw [List.getElem?_append_right (by omega), Nat.add_sub_cancel_left, List.getElem?_eq_getElem hi]
      have lo1 := lo _ (List.mem_append.mpr (.inr (List.getElem_mem hi)))
      generalize mks[i] = g at *
      obtain ⟨t, us, rfl, ht, ru⟩ := (rx.keep (Same.tups sI)).tup_inv
      obtain ⟨a1, us, rfl, q1, ru⟩ := ru.cons_inv
      obtain ⟨a2, us, rfl, q2, ru⟩ := ru.cons_inv
      obtain ⟨a3, us, rfl, q3, ru⟩ := ru.cons_inv
      obtain ⟨a4, us, rfl, q4, ru⟩ := ru.cons_inv
      obtain rfl := ru.nil_inv
      obtain rfl := q1.str_inv
      obtain ⟨to, os, rfl, hto, ro⟩ := q4.tup_inv
      have los := ro.len
      rw [List.length_map] at los
      refine ⟨t, _, rfl, ht, rfl, _, _, rfl, _, _, rfl, _, _, rfl, _, _, rfl, rfl, ?_⟩
      simp only [gName, List.set_cons_succ, List.set_cons_zero]
      refine ⟨_, rfl, to, rfl, ⟨_, hto⟩, fun D nD => ?_⟩
      refine lc_tup (K := K) (a := to) (xs := os) (fun j Hj => Same Hi Hj ∧ ∃ us, Hj D = some (.lst us) ∧ Paired (OpX D K Hj) (g.2.take j) us ∧ us.length = j) ⟨Cm.same_new nD, [], upd_same, .nil, rfl⟩ (fun j Hj _ b => Cm.sameT b.1 hto) (fun j y Hj hy ⟨sJ, us, hD, pJ, lJ⟩ => ?_) fun Hj ⟨sJ, us, hD, pJ, lJ⟩ => ?_
      · have hj : j < g.2.length := by
          have := (List.getElem?_eq_some_iff.mp hy).1
          omega
        obtain ⟨y', hy', ry⟩ := ro.at_ (i := j) (d := mopD g.2[j]) (by rw [List.getElem?_map, List.getElem?_eq_getElem hj]; rfl)
        rw [hy] at hy'
        cases hy'
        have hgj := List.getElem?_eq_getElem hj
        have lo2 := lo1.2 _ (List.getElem_mem hj)
        generalize g.2[j] = o at *
        obtain ⟨e1, zs, rfl, he1, rt⟩ := (ry.keep (Same.tups sJ)).tup_inv
        obtain ⟨b1, zs, rfl, p1, rt⟩ := rt.cons_inv
        obtain ⟨b2, zs, rfl, p2, rt⟩ := rt.cons_inv
        obtain ⟨b3, zs, rfl, p3, rt⟩ := rt.cons_inv
        obtain ⟨b4, zs, rfl, p4, rt⟩ := rt.cons_inv
        obtain rfl := rt.nil_inv
        obtain rfl := p1.str_inv
        obtain rfl := p3.str_inv
        obtain ⟨pp, ps, rfl, hpp, rp⟩ := p2.tup_inv
        have lp := rp.len
        rw [pairsD_len] at lp
        refine ⟨e1, _, rfl, he1, rfl, _, _, rfl, _, _, rfl, _, _, rfl, _, _, rfl, rfl, rfl, ?_⟩
        refine ⟨_, rfl, _, rfl, pp, rfl, ⟨_, hpp⟩, fun D2 nD2 => ?_⟩
        refine lc_tup (K := K) (a := pp) (xs := ps) (fun i Hi => Same Hj Hi ∧ Hi D2 = some (.lst ((o.2.1.take i).map V.str))) ⟨Cm.same_new nD2, upd_same⟩ (fun i Hi _ b => Cm.sameT b.1 hpp) (fun i z Hi hz ⟨sI2, hI⟩ => ?_) fun Hi ⟨sI2, hI⟩ => ?_
        · have hi : i < o.2.1.length := by
            have := (List.getElem?_eq_some_iff.mp hz).1
            omega
          obtain ⟨n, hn⟩ := pairsD_at (List.getElem?_eq_getElem hi)
          obtain ⟨z', hz', rz⟩ := rp.at_ hn
          rw [hz] at hz'
          cases hz'
          obtain ⟨t2, zs, rfl, ht2, rt2⟩ := (rz.keep (Same.tups sI2)).tup_inv
          obtain ⟨b1, zs, rfl, p1, rt2⟩ := rt2.cons_inv
          obtain ⟨b2, zs, rfl, p2, rt2⟩ := rt2.cons_inv
          obtain rfl := rt2.nil_inv
          obtain rfl := p1.str_inv
          obtain rfl := p2.str_inv
          refine ⟨t2, _, rfl, ht2, rfl, _, _, rfl, _, _, rfl, rfl, rfl, ?_⟩
          refine ⟨_, rfl, _, hI, Cm.smallL (by rw [List.length_map, List.length_take]; omega), Cm.same_mut sI2 nD2, ?_⟩
          rw [upd_same, List.take_succ, List.getElem?_eq_getElem hi, List.map_append]
          rfl
        · rw [lp, List.take_length] at hI
          have hD1 := sI2 _ _ hD
          have D2D : D2 ≠ D := fun z => by rw [z, hD] at nD2; cases nD2
          refine ⟨_, rfl, Cm.small (by show 3 ≤ 100000; decide), fun t3 n3 => ?_⟩
          have u2 := Cm.same_new (o := .tup [.str o.1, .ref D2, .str o.2.2]) n3
          have ht3 : SqT K (L2.upd Hi t3 (.tup [.str o.1, .ref D2, .str o.2.2])) t3 [.str o.1, .ref D2, .str o.2.2] := Cm.sqt_new
          generalize L2.upd Hi t3 (.tup [.str o.1, .ref D2, .str o.2.2]) = G2 at *
          have u12 := sI2.trans u2
          refine ⟨us, u12 _ _ hD, Cm.smallL (by omega), Cm.same_mut (sJ.trans u12) nD, us ++ [.ref t3], upd_same, ?_, by rw [List.length_append, lJ]; rfl⟩
          rw [take_snoc hgj]
          exact OpX.step (u12 _ _ hD) (OpX.same u12 pJ) ht3 (u2 _ _ hI) D2D
      · rw [los, List.take_length] at pJ
        have hdJ := sJ _ _ hdI
        have pI2 := RowL.keep (TK.same sJ) (fun b xs h => sJ _ _ h) pI
        obtain ⟨h1, h2⟩ := tl_put nd hti hdJ pI2 (u := .ref D) ⟨D, us, rfl, hD, OpX.fin pJ⟩
        have lvs : (tkv ((igs ++ mks).take (igs.length + i)) vs).length ≤ 100 := by
          rw [tkv_len pI.length, List.length_take]
          omega
        exact ⟨_, rfl, _, rfl, d, _, rfl, .inl ⟨_, .inr g.1, hdJ, rfl, Cm.smallL (by omega), rfl⟩, _, _, _, _, _, rfl, Cm.same_mut (sI.trans sJ) nd0, h1, h2⟩
    · subst e
      rw [l2, ← List.length_append, List.take_length] at hdI pI
      exact ⟨_, rfl, q _ _ sI nd0 ⟨vs, hdI, pI⟩⟩
/-! ### one pair, as the law tells it -/
def okF (ps : List Pr) (x y : Str) : Bool := if x = "int" ∨ y = "int" then decide (x = y) else ps.contains (x, y)
def PrL (K : PySem.W.Frag) (H : Hp) (d : Addr) (ps : List Pr) : Prop := ∃ ws, H d = some (.lst ws) ∧ Rps K H ws (ps.map prD)
def PsOk (ps : List Pr) : Prop := ∀ p ∈ ps, PyData.strOk p.1 = true ∧ PyData.strOk p.2 = true
theorem PrL.same {H H' : Hp} {d : Addr} {ps : List Pr} (s : Same H H') (h : PrL K H d ps) : PrL K H' d ps := by
  obtain ⟨ws, h1, h2⟩ := h
  exact ⟨ws, s _ _ h1, h2.keep (Same.tups s)⟩
def spOk (K : PySem.W.Frag) : Sp := fun vs H Q _ => ∃ (x y : Str) (d : Addr) (ps : List Pr), vs = [.str x, .str y, .ref d] ∧ PrL K H d ps ∧ PsOk ps ∧ PyData.strOk x = true ∧ PyData.strOk y = true ∧ ∀ H', Same H H' → Q (.bl (okF ps x y)) H'
theorem in_pairs {H : Hp} {x y : Str} {d t : Addr} {ps : List Pr} {Q : VK} (hp : PrL K H d ps) (ok : PsOk ps) (kx : PyData.strOk x = true) (ky : PyData.strOk y = true) (ht : SqT K H t [.str x, .str y]) (q : Q (.bl (ps.contains (x, y))) H) : rInD K (.ref t) (.ref d) H Q := by
  obtain ⟨ws, h1, h2⟩ := hp
  have rt : Rp K H (.ref t) (prD (x, y)) := .tup ht (.cons (.str _) (.cons (.str _) .nil))
  refine ⟨_, _, rt.dp, Dp.lst (SqL.of h1) h2.dp, pr_shaped ⟨kx, ky⟩, prs_shaped (ps := ps) (fun d hd => ?_) ok, ?_⟩
  · obtain ⟨p, hp, rfl⟩ := List.mem_map.mp hd
    exact ⟨p, hp, rfl⟩
  · rw [any_pr']
    exact q
theorem ok_lw_ok (T : Txt K mg w a) : FnOk P w K mg base CX0 1 (He.ga K "_law_ok") a.d_lw_ok ["first", "second", "pairs"] (spOk K) := by
  refine T.F_lw_ok.ok sc_lw_ok (fun vs H Q E h => ?_) (fun cdv A outer s H vs Q E hr h => ?_)
  · obtain ⟨_, _, _, _, rfl, _⟩ := h
    rfl
  obtain ⟨x, y, d, ps, rfl, hp, ok, kx, ky, q⟩ := h
  refine ⟨_, PSs.nox (pss_cons (ps_if (pt_cmpR op_in_seq pe_str (pe_lst (pa_cons (pv 0) (pa_cons (pv 1) pa_nil))) (by rfl)) (pss_one (ps_ret (pe_cmpR op_eq (pv 0) (pv 1) (nomark _)))) pss_nil)
      (pss_one (ps_ret (pe_cmpR (op_inD (TupIn.u65 hr)) (pe_tup (pa_cons (pv 0) (pa_cons (pv 1) pa_nil))) (pv 2) (by rfl))))), ?_⟩
  rw [show L2.start N_lw_ok [.str x, .str y, .ref d] = [some (.str x), some (.str y), some (.ref d)] from rfl]
  have ei : inV (.str "int") [.str x, .str y] = decide (x = "int" ∨ y = "int") := by
    unfold inV
    by_cases h1 : x = "int" <;> by_cases h2 : y = "int" <;> simp [eqV, h1, h2]
  dsimp only [tSeq, tRet]
  refine ⟨_, rfl, _, rfl, Cm.small (by show 2 ≤ 100000; decide), fun l nl => ⟨l, _, rfl, .inl (SqL.of upd_same), rfl, rfl, _, rfl, ?_⟩⟩
  rw [if_neg (by decide : ¬ false = true), ei]
  have s1 : Same H (L2.upd H l (.lst [.str x, .str y])) := Cm.same_new nl
  generalize L2.upd H l (.lst [.str x, .str y]) = H1 at *
  refine Cm.itD (fun e => ?_) fun e => ?_
  · refine ⟨_, rfl, _, rfl, rfl, ?_⟩
    have q1 := q H1 s1
    unfold okF at q1
    rw [if_pos e, ← Cm.deq_str] at q1
    exact q1
  · refine ⟨_, rfl, _, rfl, Cm.small (by show 2 ≤ 100000; decide), fun t nt => ?_⟩
    have s2 := s1.trans (Cm.same_new (o := .tup [.str x, .str y]) nt)
    have q1 := q _ s2
    unfold okF at q1
    rw [if_neg e] at q1
    exact ⟨_, rfl, in_pairs (hp.same s2) ok kx ky Cm.sqt_new q1⟩
def hitF (g : Op) (o : Op) : Bool := decide (o.1 = g.1) && decide (o.2.1.length = g.2.1.length)
def hoF (tb : Tb) (ps : List Pr) (p : Pr) : Bool := (look tb p.2).all fun g => match (look tb p.1).filter (hitF g) with
  | [] => false
  | f :: _ => okF ps f.2.2 g.2.2 && (g.2.1.zip f.2.1).all fun x => okF ps x.1 x.2
/-- what the law's table has -/
structure TlOk (tb : Tb) : Prop where
  nd : (nms tb).Nodup
  len : tb.length ≤ 100
  ops : ∀ x ∈ tb, x.2.length ≤ 50 ∧ ∀ o ∈ x.2, o.2.1.length ≤ 50 ∧ (∀ k ∈ o.2.1, PyData.strOk k = true) ∧ PyData.strOk o.2.2 = true
theorem paired_at {α β : Type} {F : α → β → Prop} {as : List α} {bs : List β} (h : Paired F as bs) : ∀ {i : Nat} {x : α}, as[i]? = some x → ∃ y, bs[i]? = some y ∧ F x y := by
  induction h with
  | nil => intro i x e; simp at e
  | cons h t ih =>
    intro i x e
    cases i with
    | zero =>
      cases e
      exact ⟨_, rfl, h⟩
    | succ i => exact ih (by simpa using e)
theorem TL.get {H : Hp} {d : Addr} {tb : Tb} {n : Str} (ok : TlOk tb) (h : TL K H d tb) (hn : n ∈ nms tb) : ∃ l ws, DGet H d (.str n) (some (.ref l)) ∧ H l = some (.lst ws) ∧ Paired (OpL K H) (look tb n) ws ∧ ∃ x ∈ tb, look tb n = x.2 := by
  obtain ⟨vs, h1, h2⟩ := h
  obtain ⟨x, hx, rfl⟩ := List.mem_map.mp hn
  obtain ⟨i, hi⟩ := List.mem_iff_getElem?.mp hx
  obtain ⟨v, hv, l, ws, rfl, hl, hp⟩ := paired_at h2 hi
  refine ⟨l, ws, .inl ⟨_, .inr x.1, .inl h1, rfl, (val_tkv ok.nd hi hv).symm⟩, hl, ?_, x, hx, look_at ok.nd hi⟩
  rw [look_at ok.nd hi]
  exact hp
def hit1 (ps : List Pr) (os : List Op) (g : Op) : Bool := match os.filter (hitF g) with
  | [] => false
  | f :: _ => okF ps f.2.2 g.2.2 && (g.2.1.zip f.2.1).all fun x => okF ps x.1 x.2
theorem hoF_eq (tb : Tb) (ps : List Pr) (p : Pr) : hoF tb ps p = (look tb p.2).all (hit1 ps (look tb p.1)) := rfl
def spHo (K : PySem.W.Frag) : Sp := fun vs H Q _ => ∃ (d c t : Addr) (tb : Tb) (ps : List Pr) (p : Pr), vs = [.ref d, .ref t, .ref c] ∧ TL K H d tb ∧ TlOk tb ∧ SqT K H t [.str p.1, .str p.2] ∧ PrL K H c ps ∧ PsOk ps ∧ p.1 ∈ nms tb ∧ p.2 ∈ nms tb ∧ ∀ H', Same H H' → Q (.bl (hoF tb ps p)) H'
theorem ok_lw_holds (T : Txt K mg w a) : FnOk P w K mg base CX0 2 (He.ga K "_law_holds") a.d_lw_holds ["table", "pair", "pairs"] (spHo K) := by
  have gok := ok_lw_ok (P := P) (w := w) (base := base) T
  refine T.F_lw_holds.ok sc_lw_holds (fun vs H Q E h => ?_) (fun cdv A outer s H vs Q E hr h => ?_)
  · obtain ⟨_, _, _, _, _, _, rfl, _⟩ := h
    rfl
  obtain ⟨d, c, t, tb, ps, p, rfl, hd, ok, ht, hc, okp, m1, m2, q⟩ := h
  refine ⟨_, PSs.nox (pss_cons (ps_for PassesOwn.never rfl (pi_list (pe_dget (hu_of hr) (pv 0) (pe_ix ix_tup (pv 1) pe_int (fun _ _ => rfl)) (fun _ _ => rfl))) (pg_tup (by rfl) (pgs_cons (pg_name (i := 3) sc_lw_holds.nd rfl (Or.inr rfl)) (pgs_cons (pg_name (i := 4) sc_lw_holds.nd rfl (Or.inr rfl)) (pgs_cons (pg_name (i := 5) sc_lw_holds.nd rfl (Or.inl rfl)) pgs_nil))))
      (pss_cons (ps_set (i := 6) sc_lw_holds.nd rfl (Or.inr rfl) (pe_lc (own := [("one", 7)]) (g := gName 7)   (by rfl) sc_lw_holds.nd (pi_list (pe_dget (hu_of hr) (pv 0) (pe_ix ix_tup (pv 1) pe_int (fun _ _ => rfl)) (fun _ _ => rfl))) (blkOk_by (own := [("one", 7)]) (N := N_lw_holds) (sc := defScope s_lw_holds) (by decide +kernel)) (fun _ _ _ _ _ => pg_name (i := 7) sc_lw_holds.nd rfl (Or.inl rfl)) (fun _ _ _ _ _ => pts_one (PW.pt (pw_and (pt_cmpR op_eq (pe_ix (r := rIxT K) ix_tup (pv 7) pe_int (fun _ _ => rfl)) (pv 3) (nomark _)) (pw_and1 (pt_cmpR op_eq (pe_callB (Nst.len_seq K rfl) (by rfl) T.g_len boot_len (pa_cons (pe_ix (r := rIxT K) ix_tup (pv 7) pe_int (fun _ _ => rfl)) pa_nil)) (pe_callB (Nst.len_seq K rfl) (by rfl) T.g_len boot_len (pa_cons (pv 4) pa_nil)) (nomark _)))))) (fun _ _ _ _ _ => (pv 7))))
      (pss_cons (ps_if (PW.pt (pw_or (pt_cmpR op_eq (pe_callB call_len_seq (by rfl) T.g_len boot_len (pa_cons (pv 6) pa_nil)) pe_int (nomark _)) (pw_or1 (pt_not (pt_val (pe_call gok (hr.mono (by omega)) (by rfl) T.g_lw_ok T.F_lw_ok.kp T.b_lw_ok .nil pass0 (pa_cons (pe_ix ix_tup (pe_ix ix_list (pv 6) pe_int (fun _ _ => rfl)) pe_int (fun _ _ => rfl)) (pa_cons (pv 5) (pa_cons (pv 2) pa_nil))))))))) (pss_one (ps_ret pe_bl)) pss_nil)
      (pss_one (ps_if (pt_not (pt_val (pe_callB (cr_all rfl) (by rfl) T.g_all boot_all (pa_cons (pe_lc (own := [("k", 8)]) (g := gName 8) (tt := tYes)  (by rfl) sc_lw_holds.nd (pi_range1 (by rfl) T.g_range (pa_cons (pe_callB call_len_seq (by rfl) T.g_len boot_len (pa_cons (pv 4) pa_nil)) pa_nil)) (blkOk_by (own := [("k", 8)]) (N := N_lw_holds) (sc := defScope s_lw_holds) (by decide +kernel)) (fun _ _ _ _ _ => pg_name (i := 8) sc_lw_holds.nd rfl (Or.inl rfl)) (fun _ _ _ _ _ => pts_nil) (fun _ _ _ _ _ => (pe_call gok (hr.mono (by omega)) (by rfl) T.g_lw_ok T.F_lw_ok.kp T.b_lw_ok .nil pass0 (pa_cons (pe_ix (r := rIxL K) ix_list (pv 4) (pv 8) (fun _ _ => rfl)) (pa_cons (pe_ix (r := rIxL K) ix_list (pe_ix (r := rIxT K) ix_tup (pe_ix (r := rIxL K) ix_list (pv 6) pe_int (fun _ _ => rfl)) pe_int (fun _ _ => rfl)) (pv 8) (fun _ _ => rfl)) (pa_cons (pv 2) pa_nil)))))) pa_nil)))) (pss_one (ps_ret pe_bl)) pss_nil)))))
      (pss_one (ps_ret pe_bl))), ?_⟩
  rw [show L2.start N_lw_holds [.ref d, .ref t, .ref c] = [some (.ref d), some (.ref t), some (.ref c), none, none, none, none, none, none] from rfl]
  obtain ⟨l2, ws2, g2, hl2, pr2, x2, hx2, ex2⟩ := hd.get ok m2
  have lo2 := ok.ops _ hx2
  rw [← ex2] at lo2
  dsimp only [tSeq, tAsg, tRet]
  refine ⟨_, rfl, _, rfl, t, _, 1, _, rfl, rfl, ht, atI_nat (j := 1) rfl, d, _, rfl, g2, l2, rfl, ⟨_, SqL.of hl2⟩, ?_⟩
  have lp2 := pr2.length
  rw [hoF_eq] at q
  refine for_list (K := K) (a := l2) (xs := ws2) (D := { nx := _, rt := Q }) (fun i σ Hi => ∃ x3 x4 x5 x6 : Option V, σ = [some (.ref d), some (.ref t), some (.ref c), x3, x4, x5, x6, none, none] ∧ Same H Hi ∧ ((look tb p.2).take i).all (hit1 ps (look tb p.1)) = true) ⟨none, none, none, none, rfl, Same.refl H, rfl⟩ (fun i σ Hi _ ⟨_, _, _, _, _, sI, _⟩ => SqL.of (sI _ _ hl2)) (fun i x σ Hi hx ⟨x3, x4, x5, x6, e, sI, al⟩ => ?_) fun σ Hi ⟨x3, x4, x5, x6, e, sI, al⟩ => ?_
  · subst e
    have hi : i < (look tb p.2).length := by
      have := (List.getElem?_eq_some_iff.mp hx).1
      omega
    have hgi := List.getElem?_eq_getElem hi
    obtain ⟨x', hx', tg, kg, exr, htg, hkg⟩ := paired_at pr2 hgi
    rw [hx] at hx'
    cases hx'
    subst exr
    have lg := lo2.2 _ (List.getElem_mem hi)
    have mg2 := List.getElem_mem hi
    generalize (look tb p.2)[i] = g at *
    have no : hit1 ps (look tb p.1) g = false → ∀ H', Same H H' → Q (.bl false) H' := fun e H' s' => by
      have q1 := q H' s'
      rw [List.all_eq_false.mpr ⟨g, mg2, by rw [e]; decide⟩] at q1
      exact q1
    refine ⟨tg, _, rfl, Cm.sameT sI htg, rfl, _, _, rfl, _, _, rfl, _, _, rfl, rfl, ?_⟩
    simp only [gName, List.set_cons_succ, List.set_cons_zero]
    dsimp only [tSeq, tAsg, tRet]
    obtain ⟨l1, ws1, g1, hl1, pr1, x1, hx1, ex1⟩ := (hd.same sI).get ok m1
    have lo1 := ok.ops _ hx1
    rw [← ex1] at lo1
    have lp1 := pr1.length
    have hkgI := sI _ _ hkg
    refine ⟨_, rfl, _, rfl, t, _, 0, _, rfl, rfl, Cm.sameT sI ht, atI_nat (j := 0) rfl, d, _, rfl, g1, l1, rfl, ⟨_, SqL.of hl1⟩, fun D nD => ?_⟩
    refine lc_list (K := K) (a := l1) (xs := ws1) (fun j Hj => Same Hi Hj ∧ ∃ us, Hj D = some (.lst us) ∧ Paired (OpX D K Hj) (((look tb p.1).take j).filter (hitF g)) us ∧ us.length ≤ j) ⟨Cm.same_new nD, [], upd_same, .nil, Nat.le_refl _⟩ (fun j Hj _ b => SqL.of (b.1 _ _ hl1)) (fun j y Hj hy ⟨sJ, us, hD, pJ, lJ⟩ => ?_) fun Hj ⟨sJ, us, hD, pJ, lJ⟩ => ?_
    · have hj : j < (look tb p.1).length := by
        have := (List.getElem?_eq_some_iff.mp hy).1
        omega
      have hgj := List.getElem?_eq_getElem hj
      obtain ⟨y', hy', to, ko, eyr, hto, hko⟩ := paired_at pr1 hgj
      rw [hy] at hy'
      cases hy'
      subst eyr
      generalize (look tb p.1)[j] = o at *
      have htoJ := Cm.sameT sJ hto
      have hkoJ := sJ _ _ hko
      have kD : ko ≠ D := fun z => by rw [z, nD] at hko; cases hko
      have skip : hitF g o = false → Same Hi Hj ∧ ∃ us, Hj D = some (.lst us) ∧ Paired (OpX D K Hj) (((look tb p.1).take (j + 1)).filter (hitF g)) us ∧ us.length ≤ j + 1 := fun e => by
        refine ⟨sJ, us, hD, ?_, by omega⟩
        rw [take_snoc hgj, List.filter_append, List.filter_cons_of_neg (by rw [e]; decide), List.filter_nil, List.append_nil]
        exact pJ
      refine ⟨rfl, ?_⟩
      refine ⟨_, rfl, to, _, 0, _, rfl, rfl, htoJ, atI_nat (j := 0) rfl, _, rfl, rfl, _, rfl, Cm.itES (fun e => ?_) fun e => Cm.itB (fun z => nomatch z) fun _ => skip (by unfold hitF; rw [decide_eq_false e, Bool.false_and])⟩
      refine ⟨_, rfl, to, _, 1, _, rfl, rfl, htoJ, atI_nat (j := 1) rfl, ko, _, rfl, .inl (SqL.of hkoJ), _, rfl, kg, _, rfl, .inl (SqL.of (sJ _ _ hkgI)), rfl, _, rfl, Cm.itEI (fun e2 => ?_) fun e2 => skip ?_⟩
      · rw [List.length_map, List.length_map] at e2
        refine ⟨_, rfl, us, hD, Cm.smallL (by omega), Cm.same_mut sJ nD, us ++ [.ref to], upd_same, ?_, by rw [List.length_append]; simp only [List.length_cons, List.length_nil]; omega⟩
        rw [take_snoc hgj, List.filter_append, List.filter_cons_of_pos (by unfold hitF; rw [decide_eq_true e, decide_eq_true (Int.ofNat.inj e2)]; rfl)]
        exact OpX.step hD pJ htoJ hkoJ kD
      · unfold hitF
        rw [List.length_map, List.length_map] at e2
        rw [decide_eq_false (show ¬ o.2.1.length = g.2.1.length from fun z => e2 (by rw [z])), Bool.and_false]
    · rw [← lp1, List.take_length] at pJ
      have pF := OpX.fin pJ
      have sIJ := sI.trans sJ
      have subF : ∀ f ∈ (look tb p.1).filter (hitF g), f ∈ look tb p.1 := fun f hf => (List.mem_filter.mp hf).1
      have h1 : ∀ {os}, (look tb p.1).filter (hitF g) = os → hit1 ps (look tb p.1) g = match os with
        | [] => false
        | f :: _ => okF ps f.2.2 g.2.2 && (g.2.1.zip f.2.1).all fun x => okF ps x.1 x.2 := fun {os} e => by
        unfold hit1
        rw [e]
      simp only [gName, List.set_cons_succ, List.set_cons_zero]
      dsimp only [tSeq, tAsg, tRet]
      have hDJ := SqL.of (K := K) hD
      refine ⟨_, rfl, D, _, rfl, .inl hDJ, rfl, _, rfl, Cm.itEI (fun e => ?_) fun e => ?_⟩
      · show (if true = true then _ else _)
        rw [if_pos rfl]
        refine no ?_ Hj sIJ
        have : us = [] := List.length_eq_zero_iff.mp (Int.ofNat.inj (show ((us.length : Nat) : Int) = ((0 : Nat) : Int) from e))
        rw [this] at pF
        cases hf : (look tb p.1).filter (hitF g) with
        | nil => exact h1 hf
        | cons a b => rw [hf] at pF; cases pF
      · cases hf : (look tb p.1).filter (hitF g) with
        | nil =>
          rw [hf] at pF
          cases pF
          exact absurd rfl e
        | cons f fs =>
          have mf := subF f (by rw [hf]; exact List.mem_cons_self)
          have lf := lo1.2 _ mf
          have hh := h1 hf
          dsimp only at hh
          have el : f.2.1.length = g.2.1.length := by
            have := (List.mem_filter.mp (show f ∈ (look tb p.1).filter (hitF g) by rw [hf]; exact List.mem_cons_self)).2
            unfold hitF at this
            exact of_decide_eq_true (Bool.and_eq_true_iff.mp this).2
          rw [hf] at pF
          obtain ⟨u0, hu0, t0, k0, eu, ht0, hk0⟩ := paired_at pF (i := 0) (x := f) rfl
          subst eu
          have hcJ := hc.same sIJ
          refine ⟨_, rfl, D, _, 0, _, rfl, rfl, hDJ, atI_nat (j := 0) hu0, t0, _, 2, _, rfl, rfl, ht0, atI_nat (j := 2) rfl, _, rfl, _, rfl, f.2.2, g.2.2, c, ps, rfl, hcJ, okp, lf.2.2, lg.2.2, fun H7 s7 => ⟨_, rfl, Cm.itBn (fun e3 => ?_) fun e3 => ?_⟩⟩
          · exact no (by rw [hh, e3, Bool.false_and]) H7 (sIJ.trans s7)
          · have s07 := sIJ.trans s7
            have hkg7 := (sJ.trans s7) _ _ hkgI
            have hD7 := SqL.of (K := K) (s7 _ _ hD)
            have ht07 := Cm.sameT s7 ht0
            have hk07 := s7 _ _ hk0
            have hc7 := hcJ.same s7
            refine ⟨_, rfl, kg, _, rfl, .inl (SqL.of hkg7), _, rfl, (by rw [List.length_map]; omega), (by rw [List.length_map]; omega), fun D2 nD2 => ?_⟩
            refine lc_range (n := ((g.2.1.map V.str).length : Int).toNat) (fun k Hk => Same H7 Hk ∧ ∃ bs : List Bool, Hk D2 = some (.lst (bs.map V.bl)) ∧ bs = ((g.2.1.zip f.2.1).take k).map (fun x => okF ps x.1 x.2) ∧ bs.length ≤ k) ⟨Cm.same_new nD2, [], upd_same, rfl, Nat.le_refl _⟩ (fun k Hk hk ⟨sK, bs, hD2, eb, lb⟩ => ?_) fun Hk ⟨sK, bs, hD2, eb, lb⟩ => ?_
            · rw [Int.toNat_natCast, List.length_map] at hk
              have ekg := List.getElem?_eq_getElem hk
              have ekf := List.getElem?_eq_getElem (show k < f.2.1.length by omega)
              have a1 : atI (g.2.1.map V.str) (0 + (k : Int)) = some (.str g.2.1[k]) := by
                rw [Int.zero_add]
                exact atI_nat (j := k) (by rw [List.getElem?_map, ekg]; rfl)
              have a2 : atI (f.2.1.map V.str) (0 + (k : Int)) = some (.str (f.2.1[k]'(by omega))) := by
                rw [Int.zero_add]
                exact atI_nat (j := k) (by rw [List.getElem?_map, ekf]; rfl)
              have kg1 := lg.2.1 _ (List.getElem_mem hk)
              have kf1 := lf.2.1 _ (List.getElem_mem (show k < f.2.1.length by omega))
              refine ⟨rfl, ?_⟩
              refine ⟨_, rfl, _, rfl, kg, _, _, _, rfl, rfl, SqL.of (sK _ _ hkg7), a1, _, rfl, D, _, 0, _, rfl, rfl, SqL.of ((s7.trans sK) _ _ hD), atI_nat (j := 0) hu0, t0, _, 1, _, rfl, rfl, Cm.sameT sK ht07, atI_nat (j := 1) rfl, _, rfl, k0, _, _, _, rfl, rfl, SqL.of (sK _ _ hk07), a2, _, rfl, _, _, c, ps, rfl, hc7.same sK, okp, kg1, kf1, fun H8 s8 => ?_⟩
              refine ⟨_, s8 _ _ hD2, Cm.smallL (by rw [List.length_map]; omega), Cm.same_mut (sK.trans s8) nD2, bs ++ [okF ps g.2.1[k] (f.2.1[k]'(by omega))], by rw [upd_same, List.map_append]; rfl, ?_, by rw [List.length_append]; simp only [List.length_cons, List.length_nil]; omega⟩
              have ez : (g.2.1.zip f.2.1)[k]? = some (g.2.1[k], f.2.1[k]'(by omega)) := List.getElem?_zip_eq_some.mpr ⟨ekg, ekf⟩
              rw [take_snoc ez, List.map_append, eb]
              rfl
            · rw [Int.toNat_natCast, List.length_map, List.take_of_length_le (by rw [List.length_zip]; omega)] at eb
              have eh : hit1 ps (look tb p.1) g = bs.all id := by
                rw [hh, e3, Bool.true_and, eb, List.all_map]
                rfl
              refine ⟨D2, bs, rfl, SqL.of hD2, _, rfl, Cm.itBn (fun e4 => ?_) fun e4 => ?_⟩
              · exact no (by rw [eh]; exact e4) Hk (s07.trans sK)
              · refine ⟨_, _, _, _, rfl, s07.trans sK, ?_⟩
                rw [take_snoc hgi, List.all_append, al]
                simp only [List.all_cons, List.all_nil, Bool.and_true, Bool.true_and]
                rw [eh]
                exact e4
  · subst e
    rw [← lp2, List.take_length] at al
    have q1 := q Hi sI
    rw [al] at q1
    exact q1
/-! ### the greatest relation, as the law finds it -/
def stepL (tb : Tb) (ps : List Pr) : List Pr := ps.filter fun p => hoF tb ps p
def lwF (tb : Tb) : Nat → List Pr → List Pr
  | 0, ps => ps
  | n + 1, ps => if (stepL tb ps).length < ps.length then lwF tb n (stepL tb ps) else stepL tb ps
def allQ (ns gs : List Str) : List Pr := ns.flatMap fun n => gs.map fun g => (n, g)
def lwR (igs mks : List Ig) : List Pr := lwF (igs ++ mks) ((allQ (nms (igs ++ mks)) (nms igs)).length + 1) (allQ (nms (igs ++ mks)) (nms igs))
/-- what the law's programs have -/
structure PgOk (igs mks : List Ig) : Prop where
  li : igs.length ≤ 50
  lm : mks.length ≤ 50
  nd : (nms (igs ++ mks)).Nodup
  sk : ∀ n ∈ nms (igs ++ mks), PyData.strOk n = true
  ops : ∀ x ∈ igs ++ mks, x.2.length ≤ 50 ∧ ∀ o ∈ x.2, o.2.1.length ≤ 50 ∧ (∀ k ∈ o.2.1, PyData.strOk k = true) ∧ PyData.strOk o.2.2 = true
theorem PgOk.tl {igs mks : List Ig} (h : PgOk igs mks) : TlOk (igs ++ mks) := ⟨h.nd, by rw [List.length_append]; have := h.li; have := h.lm; omega, h.ops⟩
def spLg (K : PySem.W.Frag) : Sp := fun vs H Q _ => ∃ (v : V) (igs mks : List Ig) (b : PyData), vs = [v] ∧ Rp K H v (progD igs mks b) ∧ PgOk igs mks ∧ ∀ H' p ys, Same H H' → H p = none → H' p = some (.lst ys) → Rps K H' ys (SortN.srt ((lwR igs mks).map prD)) → Q (.ref p) H'
theorem allQ_len (ns gs : List Str) : (allQ ns gs).length = ns.length * gs.length := by
  unfold allQ
  induction ns with
  | nil => simp
  | cons a r ih => rw [List.flatMap_cons, List.length_append, ih, List.length_map, List.length_cons, Nat.succ_mul, Nat.add_comm]
theorem allQ_succ {ns gs : List Str} {i : Nat} {n : Str} (h : ns[i]? = some n) : allQ (ns.take (i + 1)) gs = allQ (ns.take i) gs ++ gs.map fun g => (n, g) := by
  unfold allQ
  rw [take_snoc h, List.flatMap_append]
  simp
theorem mem_allQ {ns gs : List Str} {p : Pr} : p ∈ allQ ns gs ↔ p.1 ∈ ns ∧ p.2 ∈ gs := by
  unfold allQ
  rw [List.mem_flatMap]
  constructor
  · rintro ⟨n, hn, h⟩
    obtain ⟨g, hg, rfl⟩ := List.mem_map.mp h
    exact ⟨hn, hg⟩
  · rintro ⟨h1, h2⟩
    exact ⟨p.1, h1, List.mem_map.mpr ⟨p.2, h2, rfl⟩⟩
theorem ok_lw_greatest (T : Txt K mg w a) : FnOk P w K mg base CX0 3 (He.ga K "_law_greatest") a.d_lw_greatest ["program"] (spLg K) := by
  have gt := ok_lw_table (P := P) (w := w) (base := base) T
  have gh := ok_lw_holds (P := P) (w := w) (base := base) T
  refine T.F_lw_greatest.ok sc_lw_greatest (fun vs H Q E h => ?_) (fun cdv A outer s H vs Q E hr h => ?_)
  · obtain ⟨_, _, _, _, rfl, _⟩ := h
    rfl
  obtain ⟨v, igs, mks, b, rfl, r, ok, q⟩ := h
  refine ⟨_, PSs.nox (pss_cons (ps_set (i := 1) sc_lw_greatest.nd rfl (Or.inr rfl) (pe_call gt (hr.mono (by omega)) (by rfl) T.g_lw_table T.F_lw_table.kp T.b_lw_table .nil pass0 (pa_cons (pv 0) pa_nil)))
      (pss_cons (ps_set (i := 2) sc_lw_greatest.nd rfl (Or.inr rfl) (pe_lst pa_nil))
      (pss_cons (ps_lock (ps_for PassesOwn.never rfl (pi_keys (pv 1)) (pg_name (i := 3) sc_lw_greatest.nd rfl (Or.inr rfl))
      (pss_one (ps_set (i := 2) sc_lw_greatest.nd rfl (Or.inr rfl) (pe_op op_cat (pv 2) (pe_lc (own := [("one", 7)]) (g := gName 7) (tt := tYes) (te := (tTup (tCons (tVar 3) (tCons (tOp (rIxT K) (tVar 7) (tC (.int 0))) tNil)))) (by rfl) sc_lw_greatest.nd (pi_tup (pe_ix ix_tup (pv 0) pe_int (fun _ _ => rfl))) (blkOk_by (own := [("one", 7)]) (N := N_lw_greatest) (sc := defScope s_lw_greatest) (by decide +kernel)) (fun _ _ _ _ _ => pg_name (i := 7) sc_lw_greatest.nd rfl (Or.inl rfl)) (fun _ _ _ _ _ => pts_nil) (fun _ _ _ _ _ => (pe_tup (pa_cons (pv 3) (pa_cons (pe_ix (r := rIxT K) ix_tup (pv 7) pe_int (fun _ _ => rfl)) pa_nil))))))))))
      (pss_cons (ps_set (i := 4) sc_lw_greatest.nd rfl (Or.inl rfl) pe_bl)
      (pss_cons (ps_while PassesOwn.never (pt_val (pv 4))
      (pss_cons (ps_setLc (i := 5) (own := [("pair", 6)]) (g := gName 6)   (by rfl) sc_lw_greatest.nd rfl rfl (sw_true rfl rfl rfl (by decide +kernel)) (pi_list (pv 2)) (blkOk_by (own := [("pair", 6)]) (N := N_lw_greatest) (sc := defScope s_lw_greatest) (by decide +kernel)) (fun _ _ _ _ _ => pg_name (i := 6) sc_lw_greatest.nd rfl (Or.inl rfl)) (fun _ _ _ _ _ => pts_one (pt_val (pe_call gh (hr.mono (by omega)) (by rfl) T.g_lw_holds T.F_lw_holds.kp T.b_lw_holds .nil pass0 (pa_cons (pv 1) (pa_cons (pv 6) (pa_cons (pv 2) pa_nil)))))) (fun _ _ _ _ _ => (pv 6)))
      (pss_cons (ps_set (i := 4) sc_lw_greatest.nd rfl (Or.inl rfl) (pe_cmpR op_lt (pe_callB call_len_seq (by rfl) T.g_len boot_len (pa_cons (pv 5) pa_nil)) (pe_callB call_len_seq (by rfl) T.g_len boot_len (pa_cons (pv 2) pa_nil)) (nomark _)))
      (pss_one (ps_set (i := 2) sc_lw_greatest.nd rfl (Or.inr rfl) (pv 5))))))
      (pss_one (ps_ret (pe_callB (SortN.call_sortL rfl hr.units) (by rfl) T.g_sorted boot_sorted (pa_cons (pv 2) pa_nil))))))))), ?_⟩
  rw [show L2.start N_lw_greatest [v] = [some v, none, none, none, none, none, none, none] from rfl]
  obtain ⟨c, xs, rfl, hc, rs⟩ := id r.tup_inv
  obtain ⟨w1, xs, rfl, r1, rs⟩ := rs.cons_inv
  obtain ⟨w2, xs, rfl, r2, rs⟩ := rs.cons_inv
  obtain ⟨w3, xs, rfl, r3, rs⟩ := rs.cons_inv
  obtain rfl := rs.nil_inv
  obtain ⟨c1, xs1, rfl, hc1, rs1⟩ := r1.tup_inv
  have l1 := rs1.len
  rw [List.length_map] at l1
  have li := ok.li
  have lm := ok.lm
  have ltb : (igs ++ mks).length ≤ 100 := by rw [List.length_append]; omega
  dsimp only [tSeq, tAsg, tRet]
  refine ⟨_, rfl, _, igs, mks, b, rfl, r, ok.nd, ok.li, ok.lm, fun x hx => ⟨(ok.ops x hx).1, fun o ho => ((ok.ops x hx).2 o ho).1⟩, fun H1 d s1 nd1 t1 => ?_⟩
  simp only [gName, List.set_cons_succ, List.set_cons_zero]
  dsimp only [tSeq, tAsg, tRet]
  refine ⟨Nat.zero_le _, fun p0 n0 => ?_⟩
  simp only [gName, List.set_cons_succ, List.set_cons_zero]
  dsimp only [tSeq, tAsg, tRet]
  have s2 := s1.trans (Cm.same_new (o := .lst []) n0)
  have t2 := t1.same (Cm.same_new (o := .lst []) n0)
  have hp2 : (L2.upd H1 p0 (.lst [])) p0 = some (.lst []) := upd_same
  have np0 : H p0 = none := by
    cases z : H p0 with
    | none => rfl
    | some u => rw [s1 _ _ z] at n0; cases n0
  generalize L2.upd H1 p0 (.lst []) = H2 at *
  have tlo := ok.tl
  have sok := ok.sk
  have eN : nms igs <+: nms (igs ++ mks) := ⟨nms mks, by unfold nms; rw [List.map_append]⟩
  have lN : (nms (igs ++ mks)).length = (igs ++ mks).length := List.length_map _
  generalize htb : igs ++ mks = tb at *
  obtain ⟨vs, hd2, pr2⟩ := id t2
  have lv := pr2.length
  refine ⟨d, _, hd2, True.intro, fun od => ?_⟩
  have hd3 : (L2.upd H2 d (.frz od (.dK (tkv tb vs)))) d = some (.frz od (.dK (tkv tb vs))) := upd_same
  have un : ∀ {H' : Hp}, Same (L2.upd H2 d (.frz od (.dK (tkv tb vs)))) H' → Same H2 (L2.upd H' d (.dK (tkv tb vs))) := fun s => same_unlock hd2 s
  have tk2 : TK K H2 (L2.upd H2 d (.frz od (.dK (tkv tb vs)))) := TK.upd (by rw [hd2]; exact True.intro)
  have off : ∀ {b o}, b ≠ d → H2 b = some o → (L2.upd H2 d (.frz od (.dK (tkv tb vs)))) b = some o := fun n h => (upd_ne n).trans h
  have pd : p0 ≠ d := fun z => by rw [z, hd2] at hp2; cases hp2
  have hp3 := off pd hp2
  have hc3 := tk2 _ _ (Cm.sameT s2 hc)
  have hc13 := tk2 _ _ (Cm.sameT s2 hc1)
  have rs3 := rps_keep tk2 (rs1.keep (Same.tups s2))
  generalize L2.upd H2 d (.frz od (.dK (tkv tb vs))) = H3 at *
  refine ⟨_, rfl, d, od, rfl, .inl ⟨_, hd3, ?_⟩⟩
  have lk := tkv_len lv
  refine for_it (D := ⟨_, _, _, _⟩) walk_keys (fun i σ Hi => ∃ (x3 : Option V) (pr : Addr) (ws : List V), σ = [some (.ref c), some (.ref d), some (.ref pr), x3, none, none, none, none] ∧ Same H3 Hi ∧ Hi pr = some (.lst ws) ∧ Rps K Hi ws ((allQ ((nms tb).take i) (nms igs)).map prD)) ⟨none, p0, [], rfl, Same.refl _, hp3, .nil⟩ (fun i σ Hi _ ⟨_, _, _, _, s, _⟩ => s _ _ hd3) (fun i y σ Hi Hi' hi ⟨x3, pr, ws, e, sI, hpr, rw1⟩ ⟨eH, k, u, hk, ey⟩ => ?_) fun σ Hn ⟨x3, pr, ws, e, sN, hpr, rw1⟩ => ?_
  · subst e eH
    have him : i < tb.length := by omega
    have ek := tkv_at (i := i) lv
    rw [hk, List.getElem?_eq_getElem him] at ek
    have e4 : ∃ n, k = .inr n ∧ (nms tb)[i]? = some n := by
      cases e5 : vs[i]? with
      | none => rw [e5] at ek; cases ek
      | some u2 =>
        rw [e5] at ek
        cases ek
        exact ⟨_, rfl, by unfold nms; rw [List.getElem?_map, List.getElem?_eq_getElem him]; rfl⟩
    obtain ⟨n, rfl, hn⟩ := e4
    obtain rfl : y = V.str n := ey
    simp only [gName, List.set_cons_succ, List.set_cons_zero]
    have lws := rw1.len
    rw [List.length_map, allQ_len, List.length_take] at lws
    have lws2 : ws.length ≤ 100 * 50 := by
      rw [lws]
      refine Nat.mul_le_mul ?_ (by show (igs.map _).length ≤ 50; rw [List.length_map]; omega)
      omega
    refine ⟨_, rfl, _, rfl, c, _, 0, _, rfl, rfl, Cm.sameT sI hc3, atI_nat (j := 0) rfl, c1, rfl, ⟨_, Cm.sameT sI hc13⟩, fun D nD => ?_⟩
    have hc1I := Cm.sameT sI hc13
    have rsI := rs3.keep (Same.tups sI)
    refine lc_tup (K := K) (a := c1) (xs := xs1) (fun j Hj => Same Hi' Hj ∧ ∃ us, Hj D = some (.lst us) ∧ Rps K Hj us ((((nms igs).take j).map fun g => (n, g)).map prD) ∧ us.length = j) ⟨Cm.same_new nD, [], upd_same, .nil, rfl⟩ (fun j Hj _ b => Cm.sameT b.1 hc1I) (fun j y Hj hy ⟨sJ, us, hD, rJ, lJ⟩ => ?_) fun Hj ⟨sJ, us, hD, rJ, lJ⟩ => ?_
    · refine ⟨rfl, ?_⟩
      have hj : j < igs.length := by
        have := (List.getElem?_eq_some_iff.mp hy).1
        omega
      obtain ⟨y', hy', ry⟩ := rsI.at_ (i := j) (d := ifD igs[j]) (by rw [List.getElem?_map, List.getElem?_eq_getElem hj]; rfl)
      rw [hy] at hy'
      cases hy'
      have hgj : (nms igs)[j]? = some igs[j].1 := by unfold nms; rw [List.getElem?_map, List.getElem?_eq_getElem hj]; rfl
      obtain ⟨t, zs, rfl, ht, rt⟩ := (ry.keep (Same.tups sJ)).tup_inv
      obtain ⟨a1, zs, rfl, q1, rt⟩ := rt.cons_inv
      obtain rfl := q1.str_inv
      refine ⟨_, rfl, _, rfl, t, _, 0, _, rfl, rfl, ht, atI_nat (j := 0) rfl, Cm.small (by show 2 ≤ 100000; decide), fun t2 nt2 => ?_⟩
      have s8 := Cm.same_new (o := .tup [.str n, .str igs[j].1]) nt2
      have r8 : Rp K (L2.upd Hj t2 (.tup [.str n, .str igs[j].1])) (.ref t2) (prD (n, igs[j].1)) := Rp.made nt2 (.cons (.str _) (.cons (.str _) .nil))
      generalize L2.upd Hj t2 (.tup [.str n, .str igs[j].1]) = G at *
      have hD8 := s8 _ _ hD
      have tk9 : TK K G (L2.upd G D (.lst (us ++ [.ref t2]))) := TK.upd (by rw [hD8]; exact True.intro)
      refine ⟨us, hD8, Cm.smallL (by omega), Cm.same_mut (sJ.trans s8) nD, us ++ [.ref t2], upd_same, ?_, by rw [List.length_append, lJ]; rfl⟩
      rw [take_snoc hgj, List.map_append, List.map_append]
      exact rps_keep tk9 (Rps.app (rJ.keep (Same.tups s8)) (.cons r8 .nil))
    · rw [l1, show igs.length = (nms igs).length from (List.length_map _).symm, List.take_length] at rJ
      refine ⟨pr, D, ws, us, rfl, rfl, sJ _ _ hpr, hD, Cm.small (by omega), fun p np => ?_⟩
      simp only [gName, List.set_cons_succ, List.set_cons_zero]
      have sp := Cm.same_new (o := .lst (ws ++ us)) np
      refine ⟨_, p, ws ++ us, rfl, (sI.trans sJ).trans sp, upd_same, ?_⟩
      rw [allQ_succ hn, List.map_append]
      exact (Rps.app (rw1.keep (Same.tups sJ)) rJ).keep (Same.tups sp)
  · subst e
    rw [lk, ← lN, List.take_length] at rw1
    have hdn := sN _ _ hd3
    refine ⟨hdn, ?_⟩
    have sU := un sN
    have prd : pr ≠ d := fun z => by rw [z, hdn] at hpr; cases hpr
    have hprU : (L2.upd Hn d (.dK (tkv tb vs))) pr = some (.lst ws) := (upd_ne prd).trans hpr
    have tkU : TK K Hn (L2.upd Hn d (.dK (tkv tb vs))) := tk_at hdn (fun _ z => by cases z) fun _ _ z => by cases z
    have rwU := rps_keep tkU rw1
    have t3 := t2.same sU
    have s3 := s2.trans sU
    generalize L2.upd Hn d (.dK (tkv tb vs)) = HU at *
    simp only [gName, List.set_cons_succ, List.set_cons_zero]
    dsimp only [tSeq, tAsg, tRet]
    have memA : ∀ p ∈ allQ (nms tb) (nms igs), p.1 ∈ nms tb ∧ p.2 ∈ nms tb := fun p hp => ⟨(mem_allQ.mp hp).1, eN.subset (mem_allQ.mp hp).2⟩
    have lenA : (allQ (nms tb) (nms igs)).length ≤ 100 * 50 := by
      rw [allQ_len]
      exact Nat.mul_le_mul (by omega) (by show (igs.map _).length ≤ 50; rw [List.length_map]; omega)
    have eR : lwR igs mks = lwF tb ((allQ (nms tb) (nms igs)).length + 1) (allQ (nms tb) (nms igs)) := by
      unfold lwR
      rw [htb]
    generalize lwR igs mks = R at *
    refine ⟨fun m σ Hw => ∃ (x3 x5 : Option V) (pr : Addr) (ch : Bool) (ps : List Pr), σ = [some (.ref c), some (.ref d), some (.ref pr), x3, some (.bl ch), x5, none, none] ∧ Same HU Hw ∧ PrL K Hw pr ps ∧ (∀ p ∈ ps, p ∈ allQ (nms tb) (nms igs)) ∧ ps.length ≤ 5000 ∧
      (if ch = true then m = ps.length + 1 ∧ ∃ n, ps.length < n ∧ lwF tb n ps = R else m = 0 ∧ ps = R), ⟨_, x3, none, pr, true, _, rfl, Same.refl _, ⟨ws, hprU, rwU⟩, fun _ h => h, by omega, by rw [if_pos rfl]; exact ⟨rfl, _, Nat.lt_succ_self _, eR.symm⟩⟩, fun m σ Hw ⟨x3, x5, pr, ch, ps, e, sW, hP, sub, lps, hch⟩ => ?_⟩
    subst e
    obtain ⟨ws, hpr, rw1⟩ := id hP
    have lws := rw1.len
    rw [List.length_map] at lws
    refine ⟨_, rfl, ch, rfl, Cm.itB (fun e => ?_) fun e => ?_⟩
    · rw [if_pos e] at hch
      obtain ⟨em, n, hn, hR⟩ := hch
      refine ⟨_, fun σ' H' h => h, ?_⟩
      have okp : PsOk ps := fun p hp => ⟨sok _ (memA p (sub p hp)).1, sok _ (memA p (sub p hp)).2⟩
      refine ⟨_, rfl, pr, rfl, ⟨_, SqL.of hpr⟩, fun D nD => ?_⟩
      refine lc_list (K := K) (a := pr) (xs := ws) (fun j Hj => Same Hw Hj ∧ ∃ us, Hj D = some (.lst us) ∧ Rps K Hj us (((ps.take j).filter fun p => hoF tb ps p).map prD) ∧ us.length ≤ j) ⟨Cm.same_new nD, [], upd_same, .nil, Nat.le_refl _⟩ (fun j Hj _ b => SqL.of (b.1 _ _ hpr)) (fun j y Hj hy ⟨sJ, us, hD, rJ, lJ⟩ => ?_) fun Hj ⟨sJ, us, hD, rJ, lJ⟩ => ?_
      · refine ⟨rfl, ?_⟩
        have hj : j < ps.length := by
          have := (List.getElem?_eq_some_iff.mp hy).1
          omega
        have hgj := List.getElem?_eq_getElem hj
        obtain ⟨y', hy', ry⟩ := rw1.at_ (i := j) (d := prD ps[j]) (by rw [List.getElem?_map, hgj]; rfl)
        rw [hy] at hy'
        cases hy'
        have mp := memA _ (sub _ (List.getElem_mem hj))
        generalize ps[j] = p at *
        have ryJ := ry.keep (Same.tups sJ)
        obtain ⟨t, zs, rfl, ht, rt⟩ := id ryJ.tup_inv
        obtain ⟨a1, zs, rfl, q1, rt⟩ := rt.cons_inv
        obtain ⟨a2, zs, rfl, q2, rt⟩ := rt.cons_inv
        obtain rfl := rt.nil_inv
        obtain rfl := q1.str_inv
        obtain rfl := q2.str_inv
        refine ⟨_, rfl, _, rfl, _, rfl, d, pr, t, tb, ps, p, rfl, (t3.same sW).same sJ, tlo, ht, hP.same sJ, okp, mp.1, mp.2, fun H7 s7 => ⟨_, rfl, Cm.itB (fun e2 => ?_) fun e2 => ?_⟩⟩
        · have hD7 := s7 _ _ hD
          have tk9 : TK K H7 (L2.upd H7 D (.lst (us ++ [.ref t]))) := TK.upd (by rw [hD7]; exact True.intro)
          refine ⟨_, rfl, us, hD7, Cm.smallL (by omega), Cm.same_mut (sJ.trans s7) nD, us ++ [.ref t], upd_same, ?_, by rw [List.length_append]; simp only [List.length_cons, List.length_nil]; omega⟩
          rw [take_snoc hgj, List.filter_append, List.filter_cons_of_pos (by simpa using e2), List.map_append]
          exact rps_keep tk9 (Rps.app (rJ.keep (Same.tups s7)) (.cons (ryJ.keep (Same.tups s7)) .nil))
        · refine ⟨sJ.trans s7, us, s7 _ _ hD, ?_, by omega⟩
          rw [take_snoc hgj, List.filter_append, List.filter_cons_of_neg (by rw [e2]; decide), List.filter_nil, List.append_nil]
          exact rJ.keep (Same.tups s7)
      · rw [lws, List.take_length] at rJ
        have lus := rJ.len
        rw [List.length_map] at lus
        have eS : stepL tb ps = ps.filter fun p => hoF tb ps p := rfl
        rw [← eS] at rJ lus
        simp only [gName, List.set_cons_succ, List.set_cons_zero]
        dsimp only [tSeq, tAsg, tRet]
        refine ⟨_, rfl, D, us, rfl, .inl (SqL.of hD), _, rfl, pr, ws, rfl, .inl (SqL.of (sJ _ _ hpr)), _, _, rfl, rfl, ?_⟩
        simp only [gName, List.set_cons_succ, List.set_cons_zero]
        dsimp only [tSeq, tAsg, tRet]
        have lS : (stepL tb ps).length ≤ ps.length := List.length_filter_le _ _
        have subS : ∀ p ∈ stepL tb ps, p ∈ allQ (nms tb) (nms igs) := fun p hp => sub p (List.mem_filter.mp hp).1
        obtain ⟨n', rfl⟩ : ∃ n', n = n' + 1 := ⟨n - 1, by omega⟩
        have eg : lwF tb (n' + 1) ps = if (stepL tb ps).length < ps.length then lwF tb n' (stepL tb ps) else stepL tb ps := rfl
        rw [eg] at hR
        by_cases lt : (stepL tb ps).length < ps.length
        · rw [if_pos lt] at hR
          refine ⟨_, rfl, (stepL tb ps).length + 1, by omega, _, _, D, _, stepL tb ps, rfl, sW.trans sJ, ⟨us, hD, rJ⟩, subS, by omega, ?_⟩
          rw [if_pos (decide_eq_true (by omega))]
          exact ⟨rfl, n', by omega, hR⟩
        · rw [if_neg lt] at hR
          refine ⟨_, rfl, 0, by omega, _, _, D, _, stepL tb ps, rfl, sW.trans sJ, ⟨us, hD, rJ⟩, subS, by omega, ?_⟩
          rw [if_neg (by rw [decide_eq_false (by omega)]; decide)]
          exact ⟨rfl, hR⟩
    · rw [if_neg (by rw [e]; decide)] at hch
      obtain ⟨_, rfl⟩ := hch
      refine ⟨_, rfl, pr, ws, _, rfl, SqL.of hpr, rw1, prs_alike _, prs_sortable _, prs_depth _, fun ys p ry np => ?_⟩
      have npH : H p = none := by
        cases z : H p with
        | none => rfl
        | some u => rw [(s3.trans sW) _ _ z] at np; cases np
      have sP : Same Hw (L2.upd Hw p (.lst ys)) := Cm.same_new np
      exact q _ p ys ((s3.trans sW).trans sP) npH upd_same (ry.keep (Same.tups sP))
/-! ### sorted pairs -/
/-! ### rows in the order of their names -/
theorem toks_inj {x y : PyData} (h : PySem.W.alike x y = true) (e : PySem.W.keyToks x = PySem.W.keyToks y) : PyData.eqv x y = true := by
  cases hq : PyData.eqv x y with
  | true => rfl
  | false =>
    have h2 := (PySem.W.toks_eqv x y h).2 hq [] [.inl 0]
    rw [e, PySem.W.lex_pre, PyProof.Rows.lex_irrefl] at h2
    exact absurd h2 (by decide)
theorem dle_anti {x y : PyData} (h : PySem.W.alike x y = true) (h1 : SortN.dle x y = true) (h2 : SortN.dle y x = true) : PyData.eqv x y = true := by
  refine toks_inj h (PyProof.Rows.lex_total (O := PyProof.Rows.itemOrd) _ _ ?_ ?_)
  · have : (!PyProof.Rows.lexLt PyProof.Rows.itemOrd (PySem.W.keyToks x) (PySem.W.keyToks y)) = true := h2
    simpa using this
  · have : (!PyProof.Rows.lexLt PyProof.Rows.itemOrd (PySem.W.keyToks y) (PySem.W.keyToks x)) = true := h1
    simpa using this
def Anti (l : List PyData) : Prop := ∀ a ∈ l, ∀ b ∈ l, SortN.dle a b = true → SortN.dle b a = true → a = b
theorem srt_perm {l m : List PyData} (p : l.Perm m) (an : Anti l) : SortN.srt l = SortN.srt m := by
  refine List.Perm.eq_of_pairwise (le := fun a b => SortN.dle a b = true) (fun a b ha hb h1 h2 => an a ((List.mergeSort_perm l _).mem_iff.mp ha) b (p.mem_iff.mpr ((List.mergeSort_perm m _).mem_iff.mp hb)) h1 h2)
    (PySem.W.sort_pairwise (PySem.W.sortLe_total _ _ _) l) (PySem.W.sort_pairwise (PySem.W.sortLe_total _ _ _) m) ?_
  exact (List.mergeSort_perm l _).trans (p.trans (List.mergeSort_perm m _).symm)
theorem srt_srt (l : List PyData) : SortN.srt (SortN.srt l) = SortN.srt l := List.mergeSort_of_pairwise (PySem.W.sort_pairwise (PySem.W.sortLe_total _ _ _) l)
theorem anti_pr (l : List Pr) : Anti (l.map prD) := fun a ha b hb h1 h2 => by
  obtain ⟨x, hx, rfl⟩ := List.mem_map.mp ha
  obtain ⟨y, hy, rfl⟩ := List.mem_map.mp hb
  have h3 := dle_anti (by simp [prD, PySem.W.alike, PySem.W.alikeAll]) h1 h2
  rw [eqv_pr] at h3
  rw [of_decide_eq_true h3]
theorem srt_same {l m : List Pr} (nl : l.Nodup) (nm : m.Nodup) (h : ∀ p, p ∈ l ↔ p ∈ m) : SortN.srt (l.map prD) = SortN.srt (m.map prD) :=
  srt_perm (((List.perm_ext_iff_of_nodup nl nm).mpr h).map prD) (anti_pr l)
/-! ### the greatest of the relations that keep -/
theorem filter_len {α : Type} {f : α → Bool} {l : List α} (h : (l.filter f).length = l.length) : ∀ x ∈ l, f x = true := List.length_filter_eq_length_iff.mp h
theorem gr_fix {tb : Tb} : ∀ (n : Nat) (l : List Pr), l.length < n → ∀ p ∈ grF tb n l, cfF (grF tb n l) (look tb p.1) (look tb p.2) = true
  | 0, l, h => absurd h (Nat.not_lt_zero _)
  | n + 1, l, h => by
    unfold grF
    by_cases e : (stepF tb l).length = l.length
    · rw [if_pos e]
      have h1 := filter_len e
      have e2 : stepF tb l = l := List.filter_eq_self.mpr h1
      rw [e2]
      exact h1
    · rw [if_neg e]
      have : (stepF tb l).length ≤ l.length := step_len
      exact gr_fix n (stepF tb l) (by omega)
theorem kc_mono {a b : List Pr} (h : ∀ p ∈ a, p ∈ b) {k g : Str} (e : kcF a k g = true) : kcF b k g = true := by
  unfold kcF at *
  rcases Bool.or_eq_true_iff.mp e with e | e
  · rw [e, Bool.true_or]
  · rw [List.contains_iff_mem] at e
    rw [show b.contains (k, g) = true from List.contains_iff_mem.mpr (h _ e), Bool.or_true]
theorem st_mono {a b : List Pr} (h : ∀ p ∈ a, p ∈ b) {o g : Op} (e : stF a o g = true) : stF b o g = true := by
  unfold stF at *
  simp only [Bool.and_eq_true] at *
  exact ⟨e.1, e.2.1, kc_mono h e.2.2.1, List.all_eq_true.mpr fun x hx => kc_mono h (List.all_eq_true.mp e.2.2.2 x hx)⟩
theorem cf_mono {a b : List Pr} (h : ∀ p ∈ a, p ∈ b) {os gs : List Op} (e : cfF a os gs = true) : cfF b os gs = true := by
  unfold cfF at *
  refine List.all_eq_true.mpr fun g hg => ?_
  obtain ⟨o, ho, e2⟩ := List.any_eq_true.mp (List.all_eq_true.mp e g hg)
  exact List.any_eq_true.mpr ⟨o, ho, st_mono h e2⟩
theorem gr_max {tb : Tb} {S : List Pr} (hS : ∀ p ∈ S, cfF S (look tb p.1) (look tb p.2) = true) : ∀ (n : Nat) (l : List Pr), (∀ p ∈ S, p ∈ l) → ∀ p ∈ S, p ∈ grF tb n l
  | 0, l, h => h
  | n + 1, l, h => by
    have h2 : ∀ p ∈ S, p ∈ stepF tb l := fun p hp => List.mem_filter.mpr ⟨h p hp, cf_mono h (hS p hp)⟩
    unfold grF
    split
    · exact h2
    · exact gr_max hS n _ h2
theorem gr0_fix {tb : Tb} {p : Pr} (h : p ∈ gr0 tb) : cfF (gr0 tb) (look tb p.1) (look tb p.2) = true := gr_fix _ _ (Nat.lt_succ_self _) p h
theorem gr0_max {tb : Tb} {S : List Pr} (sub : ∀ p ∈ S, p.1 ∈ nms tb ∧ p.2 ∈ nms tb) (hS : ∀ p ∈ S, cfF S (look tb p.1) (look tb p.2) = true) {p : Pr} (h : p ∈ S) : p ∈ gr0 tb :=
  gr_max hS _ _ (fun q hq => mem_allP.mpr (sub q hq)) p h
theorem gr_nd {tb : Tb} : ∀ (n : Nat) (l : List Pr), l.Nodup → (grF tb n l).Nodup
  | 0, l, h => h
  | n + 1, l, h => by
    have h2 : (stepF tb l).Nodup := h.sublist List.filter_sublist
    unfold grF
    split
    · exact h2
    · exact gr_nd n _ h2
/-! ### the law's way -/
theorem lw_fix {tb : Tb} : ∀ (n : Nat) (l : List Pr), l.length < n → ∀ p ∈ lwF tb n l, hoF tb (lwF tb n l) p = true
  | 0, l, h => absurd h (Nat.not_lt_zero _)
  | n + 1, l, h => by
    unfold lwF
    have le : (stepL tb l).length ≤ l.length := List.length_filter_le _ _
    by_cases e : (stepL tb l).length < l.length
    · rw [if_pos e]
      exact lw_fix n (stepL tb l) (by omega)
    · rw [if_neg e]
      have h1 : ∀ x ∈ l, hoF tb l x = true := filter_len (show (l.filter fun p => hoF tb l p).length = l.length from by show (stepL tb l).length = l.length; omega)
      have e2 : stepL tb l = l := List.filter_eq_self.mpr h1
      rw [e2]
      exact h1
theorem lw_sub {tb : Tb} : ∀ (n : Nat) (l : List Pr) {p : Pr}, p ∈ lwF tb n l → p ∈ l
  | 0, l, p, h => h
  | n + 1, l, p, h => by
    unfold lwF at h
    split at h
    · exact (List.mem_filter.mp (lw_sub n _ h)).1
    · exact (List.mem_filter.mp h).1
theorem lw_nd {tb : Tb} : ∀ (n : Nat) (l : List Pr), l.Nodup → (lwF tb n l).Nodup
  | 0, l, h => h
  | n + 1, l, h => by
    have h2 : (stepL tb l).Nodup := h.sublist List.filter_sublist
    unfold lwF
    split
    · exact lw_nd n _ h2
    · exact h2
theorem lw_max {tb : Tb} {S A : List Pr} (mono : ∀ l : List Pr, (∀ p ∈ l, p ∈ A) → (∀ p ∈ S, p ∈ l) → ∀ p ∈ S, hoF tb l p = true) : ∀ (n : Nat) (l : List Pr), (∀ p ∈ l, p ∈ A) → (∀ p ∈ S, p ∈ l) → ∀ p ∈ S, p ∈ lwF tb n l
  | 0, l, _, h => h
  | n + 1, l, hl, h => by
    have h2 : ∀ p ∈ S, p ∈ stepL tb l := fun p hp => List.mem_filter.mpr ⟨h p hp, mono l hl h p hp⟩
    unfold lwF
    split
    · exact lw_max mono n _ (fun p hp => hl p (List.mem_filter.mp hp).1) h2
    · exact h2
/-! ### one pair: the law's way and the program's -/
def NoInt (hd : List Pr) : Prop := ∀ p ∈ hd, p.1 ≠ ("int" : Str) ∧ p.2 ≠ ("int" : Str)
theorem ok_kc {hd : List Pr} (ni : NoInt hd) (x y : Str) : okF hd x y = kcF hd x y := by
  unfold okF kcF
  have nc : (x = "int" ∨ y = "int") → hd.contains (x, y) = false := fun h => by
    cases e : hd.contains (x, y) with
    | false => rfl
    | true =>
      have := ni _ (List.contains_iff_mem.mp e)
      rcases h with h | h
      · exact absurd h this.1
      · exact absurd h this.2
  by_cases h : x = "int" ∨ y = "int"
  · rw [if_pos h, nc h, Bool.or_false]
    by_cases h1 : x = "int" <;> by_cases h2 : y = "int"
    · rw [decide_eq_true h1, decide_eq_true h2, decide_eq_true (h1.trans h2.symm)]
      rfl
    · rw [decide_eq_false h2, Bool.and_false, decide_eq_false fun z => h2 (z.symm.trans h1)]
    · rw [decide_eq_false h1, Bool.false_and, decide_eq_false fun z => h1 (z.trans h2)]
    · exact absurd h (by rintro (h | h) <;> contradiction)
  · rw [if_neg h, decide_eq_false fun z => h (.inl z), Bool.false_and, Bool.false_or]
theorem zip_swap {α β : Type} (f : α → β → Bool) : ∀ (l : List α) (m : List β), ((l.zip m).all fun x => f x.1 x.2) = (m.zip l).all fun x => f x.2 x.1
  | [], [] => rfl
  | [], _ :: _ => rfl
  | _ :: _, [] => rfl
  | a :: l, b :: m => by
    rw [List.zip_cons_cons, List.zip_cons_cons, List.all_cons, List.all_cons, zip_swap f l m]
theorem hit_st {hd : List Pr} (ni : NoInt hd) (g : Op) : ∀ {os : List Op}, (os.map (·.1)).Nodup → hit1 hd os g = os.any fun o => stF hd o g
  | [], _ => rfl
  | o :: os, nd => by
    rw [List.map_cons, List.nodup_cons] at nd
    have ih := hit_st ni g (os := os) nd.2
    have est : stF hd o g = (hitF g o && (okF hd o.2.2 g.2.2 && (g.2.1.zip o.2.1).all fun x => okF hd x.1 x.2)) := by
      unfold stF hitF
      rw [Bool.and_assoc, ok_kc ni, zip_swap fun a b => okF hd a b]
      simp only [ok_kc ni]
    rw [List.any_cons, est]
    cases h : hitF g o with
    | false =>
      have : hit1 hd (o :: os) g = hit1 hd os g := by
        unfold hit1
        rw [List.filter_cons_of_neg (by rw [h]; decide)]
      rw [this, ih, Bool.false_and, Bool.false_or]
    | true =>
      have hn : o.1 = g.1 := by
        unfold hitF at h
        exact of_decide_eq_true (Bool.and_eq_true_iff.mp h).1
      have no : (os.any fun o => stF hd o g) = false := List.any_eq_false.mpr fun x hx hst => by
        unfold stF at hst
        have := of_decide_eq_true (Bool.and_eq_true_iff.mp hst).1
        exact nd.1 (List.mem_map.mpr ⟨x, hx, this.trans hn.symm⟩)
      rw [no, Bool.or_false, Bool.true_and]
      unfold hit1
      rw [List.filter_cons_of_pos h]
theorem ho_cf {tb : Tb} {hd : List Pr} (ni : NoInt hd) {p : Pr} (nd : ((look tb p.1).map (·.1)).Nodup) : hoF tb hd p = cfF hd (look tb p.1) (look tb p.2) := by
  rw [hoF_eq]
  unfold cfF
  congr 1
  funext g
  exact hit_st ni g nd
/-! ### both ways give the same pairs -/
theorem nm_all : (lets6 ++ mkN).Nodup ∧ ∀ x ∈ lets6 ++ mkN, x ≠ ("int" : Str) ∧ PyData.strOk x = true ∧ x.length ≤ 10 := by
  constructor
  · decide +kernel
  · have : (lets6 ++ mkN).all (fun x => decide (x ≠ ("int" : Str)) && (PyData.strOk x && decide (x.length ≤ 10))) = true := by decide +kernel
    intro x hx
    have h := List.all_eq_true.mp this x hx
    simp only [Bool.and_eq_true, decide_eq_true_eq] at h
    exact ⟨h.1, h.2.1, h.2.2⟩
section
variable {igs mks : List Ig} (h : ProgG igs mks)
include h
theorem pg_sub : (nms (igs ++ mks)).Sublist (lets6 ++ mkN) := by
  have e : nms (igs ++ mks) = lets6.take igs.length ++ mkN.take mks.length := by
    rw [← h.nm, ← h.mn]
    exact List.map_append
  rw [e]
  exact (List.take_sublist _ _).append (List.take_sublist _ _)
theorem pg_nd : (nms (igs ++ mks)).Nodup := nm_all.1.sublist (pg_sub h)
theorem pg_nm {x : Str} (hx : x ∈ nms (igs ++ mks)) : x ≠ ("int" : Str) ∧ PyData.strOk x = true ∧ x.length ≤ 10 := nm_all.2 x ((pg_sub h).subset hx)
theorem pg_in {x : Str} (hx : x ∈ nms igs) : x ∈ nms (igs ++ mks) := by
  unfold nms at *
  rw [List.map_append]
  exact List.mem_append.mpr (.inl hx)
theorem pg_inm {x : Str} (hx : x ∈ nms mks) : x ∈ nms (igs ++ mks) := by
  unfold nms at *
  rw [List.map_append]
  exact List.mem_append.mpr (.inr hx)
theorem pg_ndi : (nms igs).Nodup := (pg_nd h).sublist (by unfold nms; rw [List.map_append]; exact List.sublist_append_left _ _)
theorem pg_ndm : (nms mks).Nodup := (pg_nd h).sublist (by unfold nms; rw [List.map_append]; exact List.sublist_append_right _ _)
theorem pg_look {x : Ig} (hx : x ∈ igs ++ mks) : look (igs ++ mks) x.1 = x.2 := by
  obtain ⟨i, hi⟩ := List.mem_iff_getElem?.mp hx
  exact look_at (pg_nd h) hi
theorem pg_looki {x : Ig} (hx : x ∈ igs) : look igs x.1 = x.2 := by
  obtain ⟨i, hi⟩ := List.mem_iff_getElem?.mp hx
  exact look_at (pg_ndi h) hi
theorem pg_same {n : Str} (hn : n ∈ nms igs) : look (igs ++ mks) n = look igs n := by
  obtain ⟨x, hx, rfl⟩ := List.mem_map.mp hn
  rw [pg_look h (List.mem_append.mpr (.inl hx)), pg_looki h hx]
theorem pg_ops {n : Str} (hn : n ∈ nms (igs ++ mks)) : OpsG (nms igs) (look (igs ++ mks) n) := by
  obtain ⟨x, hx, rfl⟩ := List.mem_map.mp hn
  rw [pg_look h hx]
  rcases List.mem_append.mp hx with hx | hx
  · exact h.io x hx
  · exact h.mo x hx
/-- pairs of names -/
def PrIn (igs mks : List Ig) (l : List Pr) : Prop := ∀ p ∈ l, p.1 ∈ nms (igs ++ mks) ∧ p.2 ∈ nms igs
omit h in
theorem prIn_def {l : List Pr} : PrIn igs mks l ↔ ∀ p ∈ l, p.1 ∈ nms (igs ++ mks) ∧ p.2 ∈ nms igs := Iff.rfl
theorem pg_noint {l : List Pr} (hl : PrIn igs mks l) : NoInt l := fun p hp => ⟨(pg_nm h (hl p hp).1).1, (pg_nm h (pg_in h (hl p hp).2)).1⟩
theorem pg_ho {l : List Pr} (hl : PrIn igs mks l) {p : Pr} (h1 : p.1 ∈ nms (igs ++ mks)) : hoF (igs ++ mks) l p = cfF l (look (igs ++ mks) p.1) (look (igs ++ mks) p.2) :=
  ho_cf (pg_noint h hl) (pg_ops h h1).nd
omit h in
theorem rel_in : PrIn igs mks (relP igs mks) := fun p hp => by
  obtain ⟨h1, h2⟩ := relP_sub hp
  refine ⟨?_, h2⟩
  unfold nms at *
  rw [List.map_append]
  exact h1
omit h in
theorem lw_in : PrIn igs mks (lwR igs mks) := fun p hp => mem_allQ.mp (lw_sub _ _ hp)
theorem rel_cf {p : Pr} (hp : p ∈ relP igs mks) : cfF (gr0 igs) (look (igs ++ mks) p.1) (look (igs ++ mks) p.2) = true := by
  rcases List.mem_append.mp hp with hp | hp
  · obtain ⟨h1, h2⟩ := gr0_sub hp
    rw [pg_same h h1, pg_same h h2]
    exact gr0_fix hp
  · obtain ⟨m, hm, hp⟩ := List.mem_flatMap.mp hp
    obtain ⟨g, hg, rfl⟩ := List.mem_map.mp hp
    obtain ⟨hg1, hg2⟩ := List.mem_filter.mp hg
    rw [pg_look h (List.mem_append.mpr (.inr hm)), pg_look h (List.mem_append.mpr (.inl hg1))]
    exact hg2
theorem rel_lw {p : Pr} (hp : p ∈ relP igs mks) : p ∈ lwR igs mks := by
  refine lw_max (S := relP igs mks) (A := allQ (nms (igs ++ mks)) (nms igs)) (fun l hl hs q hq => ?_) _ _ (fun q hq => hq) (fun q hq => mem_allQ.mpr (rel_in q hq)) p hp
  rw [pg_ho h (fun q hq => mem_allQ.mp (hl q hq)) (rel_in q hq).1]
  exact cf_mono (fun r hr => hs r (List.mem_append.mpr (.inl hr))) (rel_cf h hq)
/-- what an operation's kinds reach: pairs of interfaces only -/
theorem cf_part {l : List Pr} (hl : PrIn igs mks l) {os gs : List Op} (ho : OpsG (nms igs) os) (hg : OpsG (nms igs) gs) (e : cfF l os gs = true) : cfF (l.filter fun p => decide (p.1 ∈ nms igs)) os gs = true := by
  have kc : ∀ {x y : Str}, x ∈ knd (nms igs) → kcF l x y = true → kcF (l.filter fun p => decide (p.1 ∈ nms igs)) x y = true := fun {x y} hx e => by
    unfold kcF at *
    by_cases hi : x = "int" ∧ y = "int"
    · rw [decide_eq_true hi.1, decide_eq_true hi.2]
      rfl
    · have hc : (x, y) ∈ l := by
        rcases Bool.or_eq_true_iff.mp e with e | e
        · have := Bool.and_eq_true_iff.mp e
          exact absurd ⟨of_decide_eq_true this.1, of_decide_eq_true this.2⟩ hi
        · exact List.contains_iff_mem.mp e
      have hx2 : x ∈ nms igs := by
        rcases List.mem_cons.mp hx with e | e
        · exact absurd e (pg_noint h hl _ hc).1
        · exact e
      rw [show (l.filter fun p => decide (p.1 ∈ nms igs)).contains (x, y) = true from List.contains_iff_mem.mpr (List.mem_filter.mpr ⟨hc, decide_eq_true hx2⟩), Bool.or_true]
  unfold cfF at *
  refine List.all_eq_true.mpr fun g hgm => ?_
  obtain ⟨o, hom, e2⟩ := List.any_eq_true.mp (List.all_eq_true.mp e g hgm)
  refine List.any_eq_true.mpr ⟨o, hom, ?_⟩
  unfold stF at *
  simp only [Bool.and_eq_true] at *
  refine ⟨e2.1, e2.2.1, kc (ho.ks o hom).2 e2.2.2.1, List.all_eq_true.mpr fun x hx => kc ((hg.ks g hgm).1 x.2 (List.of_mem_zip hx).2) (List.all_eq_true.mp e2.2.2.2 x hx)⟩
theorem lw_cf {p : Pr} (hp : p ∈ lwR igs mks) : cfF (lwR igs mks) (look (igs ++ mks) p.1) (look (igs ++ mks) p.2) = true := by
  rw [← pg_ho h lw_in (lw_in p hp).1]
  exact lw_fix _ _ (Nat.lt_succ_self _) p hp
theorem lw_gr0 {p : Pr} (hp : p ∈ (lwR igs mks).filter fun p => decide (p.1 ∈ nms igs)) : p ∈ gr0 igs := by
  refine gr0_max (S := (lwR igs mks).filter fun p => decide (p.1 ∈ nms igs)) (fun q hq => ?_) (fun q hq => ?_) hp
  · obtain ⟨q1, q2⟩ := List.mem_filter.mp hq
    exact ⟨of_decide_eq_true q2, (lw_in q q1).2⟩
  · obtain ⟨q1, q2⟩ := List.mem_filter.mp hq
    have i1 := lw_in q q1
    have c1 := cf_part h lw_in (pg_ops h i1.1) (pg_ops h (pg_in h i1.2)) (lw_cf h q1)
    rw [pg_same h (of_decide_eq_true q2), pg_same h i1.2] at c1
    exact c1
theorem lw_rel {p : Pr} (hp : p ∈ lwR igs mks) : p ∈ relP igs mks := by
  have i1 := lw_in p hp
  by_cases hi : p.1 ∈ nms igs
  · exact List.mem_append.mpr (.inl (lw_gr0 h (List.mem_filter.mpr ⟨hp, decide_eq_true hi⟩)))
  · have hm : p.1 ∈ nms mks := by
      have := i1.1
      unfold nms at this hi
      rw [List.map_append] at this
      rcases List.mem_append.mp this with z | z
      · exact absurd z hi
      · exact z
    obtain ⟨m, hm, e1⟩ := List.mem_map.mp hm
    obtain ⟨g, hg, e2⟩ := List.mem_map.mp i1.2
    have c1 := cf_mono (fun q hq => lw_gr0 h hq) (cf_part h lw_in (pg_ops h i1.1) (pg_ops h (pg_in h i1.2)) (lw_cf h hp))
    rw [← e1, ← e2, pg_look h (List.mem_append.mpr (.inr hm)), pg_look h (List.mem_append.mpr (.inl hg))] at c1
    refine List.mem_append.mpr (.inr (List.mem_flatMap.mpr ⟨m, hm, List.mem_map.mpr ⟨g, List.mem_filter.mpr ⟨hg, c1⟩, ?_⟩⟩))
    exact Prod.ext e1 e2
theorem rel_iff (p : Pr) : p ∈ relP igs mks ↔ p ∈ lwR igs mks := ⟨rel_lw h, lw_rel h⟩
end
theorem allQ_nd {ns gs : List Str} (h1 : ns.Nodup) (h2 : gs.Nodup) : (allQ ns gs).Nodup := by
  unfold allQ
  induction ns with
  | nil => exact List.nodup_nil
  | cons a r ih =>
    rw [List.nodup_cons] at h1
    rw [List.flatMap_cons, List.nodup_append]
    refine ⟨?_, ih h1.2, fun x hx y hy e => ?_⟩
    · exact List.pairwise_map.mpr (h2.imp fun hne e => hne (congrArg Prod.snd e))
    · obtain ⟨g, _, rfl⟩ := List.mem_map.mp hx
      obtain ⟨n, hn, hy⟩ := List.mem_flatMap.mp hy
      obtain ⟨g2, _, rfl⟩ := List.mem_map.mp hy
      have : a = n := congrArg Prod.fst e
      exact h1.1 (this ▸ hn)
theorem gr_sl {tb : Tb} : ∀ (n : Nat) (l : List Pr), (grF tb n l).Sublist l
  | 0, l => List.Sublist.refl _
  | n + 1, l => by
    unfold grF
    split
    · exact List.filter_sublist
    · exact (gr_sl n _).trans List.filter_sublist
theorem mk_sl {igs : List Ig} {hd : List Pr} : ∀ mks : List Ig, (mks.flatMap (mkP igs hd)).Sublist (allQ (nms mks) (nms igs))
  | [] => List.Sublist.refl _
  | m :: r => by
    have e : allQ (nms (m :: r)) (nms igs) = (nms igs).map (fun g => (m.1, g)) ++ allQ (nms r) (nms igs) := rfl
    rw [e, List.flatMap_cons]
    refine List.Sublist.append ?_ (mk_sl r)
    unfold mkP nms
    rw [List.map_map]
    exact List.filter_sublist.map _
theorem rel_nd {igs mks : List Ig} (nd : (nms (igs ++ mks)).Nodup) : (relP igs mks).Nodup := by
  have e : nms (igs ++ mks) = nms igs ++ nms mks := List.map_append
  have ei : (nms igs).Nodup := nd.sublist (by rw [e]; exact List.sublist_append_left _ _)
  have e2 : allQ (nms (igs ++ mks)) (nms igs) = allP (nms igs) ++ allQ (nms mks) (nms igs) := by
    rw [e]
    unfold allQ allP
    rw [List.flatMap_append]
  exact (allQ_nd nd ei).sublist (by rw [e2]; exact (gr_sl _ _).append (mk_sl mks))
theorem lw_nodup {igs mks : List Ig} (nd : (nms (igs ++ mks)).Nodup) : (lwR igs mks).Nodup := lw_nd _ _ (allQ_nd nd (nd.sublist (by unfold nms; rw [List.map_append]; exact List.sublist_append_left _ _)))
theorem relD_eq {igs mks : List Ig} (h : ProgG igs mks) : relD igs mks = SortN.srt ((lwR igs mks).map prD) := srt_same (rel_nd (pg_nd h)) (lw_nodup (pg_nd h)) (rel_iff h)
/-! ### the order of the parts does not matter -/
theorem look_perm {tb tb' : Tb} (nd : (nms tb).Nodup) (p : tb.Perm tb') {n : Str} (hn : n ∈ nms tb) : look tb' n = look tb n := by
  obtain ⟨x, hx, rfl⟩ := List.mem_map.mp hn
  obtain ⟨i, hi⟩ := List.mem_iff_getElem?.mp hx
  obtain ⟨j, hj⟩ := List.mem_iff_getElem?.mp (p.mem_iff.mp hx)
  rw [look_at nd hi, look_at ((p.map _).nodup_iff.mp nd) hj]
theorem gr0_perm {tb tb' : Tb} (nd : (nms tb).Nodup) (pm : tb.Perm tb') {p : Pr} (hp : p ∈ gr0 tb) : p ∈ gr0 tb' := by
  refine gr0_max (S := gr0 tb) (fun q hq => ?_) (fun q hq => ?_) hp
  · obtain ⟨h1, h2⟩ := gr0_sub hq
    exact ⟨(pm.map _).mem_iff.mp h1, (pm.map _).mem_iff.mp h2⟩
  · obtain ⟨h1, h2⟩ := gr0_sub hq
    rw [look_perm nd pm h1, look_perm nd pm h2]
    exact gr0_fix hq
theorem rel_perm {igs mks igs' mks' : List Ig} (nd : (nms igs).Nodup) (p1 : igs.Perm igs') (p2 : mks.Perm mks') {p : Pr} (hp : p ∈ relP igs mks) : p ∈ relP igs' mks' := by
  rcases List.mem_append.mp hp with hp | hp
  · exact List.mem_append.mpr (.inl (gr0_perm nd p1 hp))
  · obtain ⟨m, hm, hp⟩ := List.mem_flatMap.mp hp
    obtain ⟨g, hg, rfl⟩ := List.mem_map.mp hp
    obtain ⟨hg1, hg2⟩ := List.mem_filter.mp hg
    exact List.mem_append.mpr (.inr (List.mem_flatMap.mpr ⟨m, p2.mem_iff.mp hm, List.mem_map.mpr ⟨g, List.mem_filter.mpr ⟨p1.mem_iff.mp hg1, cf_mono (fun q hq => gr0_perm nd p1 hq) hg2⟩, rfl⟩⟩))
theorem relD_rev {igs mks : List Ig} (h : ProgG igs mks) : relD igs.reverse mks.reverse = relD igs mks := by
  have p1 := (List.reverse_perm igs).symm
  have p2 := (List.reverse_perm mks).symm
  have nd := pg_ndi h
  have nd' : (nms (igs.reverse ++ mks.reverse)).Nodup := ((List.Perm.append p1 p2).map _).nodup_iff.mp (pg_nd h)
  exact srt_same (rel_nd nd') (rel_nd (pg_nd h)) fun p => ⟨rel_perm ((p1.map _).nodup_iff.mp nd) p1.symm p2.symm, rel_perm nd p1 p2⟩
/-! ### each interface conforms to itself, and conformity goes on over two steps -/
theorem kc_comp {a b c : List Pr} (hc : ∀ x y z, (x, y) ∈ a → (y, z) ∈ b → (x, z) ∈ c) (na : NoInt a) (nb : NoInt b) {x y z : Str} (h1 : kcF a x y = true) (h2 : kcF b y z = true) : kcF c x z = true := by
  unfold kcF at *
  rcases Bool.or_eq_true_iff.mp h1 with h1 | h1
  · obtain ⟨e1, e2⟩ := Bool.and_eq_true_iff.mp h1
    rcases Bool.or_eq_true_iff.mp h2 with h2 | h2
    · obtain ⟨_, e4⟩ := Bool.and_eq_true_iff.mp h2
      rw [e1, e4]
      rfl
    · exact absurd (of_decide_eq_true e2) (nb _ (List.contains_iff_mem.mp h2)).1
  · rcases Bool.or_eq_true_iff.mp h2 with h2 | h2
    · obtain ⟨e3, _⟩ := Bool.and_eq_true_iff.mp h2
      exact absurd (of_decide_eq_true e3) (na _ (List.contains_iff_mem.mp h1)).2
    · rw [show c.contains (x, z) = true from List.contains_iff_mem.mpr (hc _ _ _ (List.contains_iff_mem.mp h1) (List.contains_iff_mem.mp h2)), Bool.or_true]
theorem all_zip {α β : Type} {f : α × β → Bool} {l : List α} {m : List β} : ((l.zip m).all f = true) ↔ ∀ (i : Nat) (x : α) (y : β), l[i]? = some x → m[i]? = some y → f (x, y) = true := by
  rw [List.all_eq_true]
  constructor
  · intro h i x y h1 h2
    exact h _ (List.mem_iff_getElem?.mpr ⟨i, List.getElem?_zip_eq_some.mpr ⟨h1, h2⟩⟩)
  · intro h z hz
    obtain ⟨i, hi⟩ := List.mem_iff_getElem?.mp hz
    obtain ⟨h1, h2⟩ := List.getElem?_zip_eq_some.mp hi
    exact h i z.1 z.2 h1 h2
theorem st_comp {a c : List Pr} (hc : ∀ x y z, (x, y) ∈ a → (y, z) ∈ a → (x, z) ∈ c) (na : NoInt a) {o p q : Op} (h1 : stF a o p = true) (h2 : stF a p q = true) : stF c o q = true := by
  unfold stF at *
  simp only [Bool.and_eq_true, decide_eq_true_eq] at *
  refine ⟨h1.1.trans h2.1, h1.2.1.trans h2.2.1, kc_comp hc na na h1.2.2.1 h2.2.2.1, all_zip.mpr fun i x y hx hy => ?_⟩
  have lt : i < p.2.1.length := by
    have := (List.getElem?_eq_some_iff.mp hx).1
    omega
  have hp := List.getElem?_eq_getElem lt
  have a1 : kcF a y p.2.1[i] = true := all_zip.mp h2.2.2.2 i _ _ hp hy
  have a2 : kcF a p.2.1[i] x = true := all_zip.mp h1.2.2.2 i _ _ hx hp
  exact kc_comp hc na na a1 a2
theorem cf_comp {a c : List Pr} (hc : ∀ x y z, (x, y) ∈ a → (y, z) ∈ a → (x, z) ∈ c) (na : NoInt a) {os ps qs : List Op} (h1 : cfF a os ps = true) (h2 : cfF a ps qs = true) : cfF c os qs = true := by
  unfold cfF at *
  refine List.all_eq_true.mpr fun q hq => ?_
  obtain ⟨p, hp, e2⟩ := List.any_eq_true.mp (List.all_eq_true.mp h2 q hq)
  obtain ⟨o, ho, e1⟩ := List.any_eq_true.mp (List.all_eq_true.mp h1 p hp)
  exact List.any_eq_true.mpr ⟨o, ho, st_comp hc na e1 e2⟩
theorem rel_trans {igs mks : List Ig} (h : ProgG igs mks) {x y z : Str} (h1 : (x, y) ∈ relP igs mks) (h2 : (y, z) ∈ relP igs mks) : (x, z) ∈ relP igs mks := by
  let C : List Pr := (allQ (nms (igs ++ mks)) (nms igs)).filter fun q => (nms igs).any fun y => (relP igs mks).contains (q.1, y) && (relP igs mks).contains (y, q.2)
  have hC : ∀ x y z, (x, y) ∈ relP igs mks → (y, z) ∈ relP igs mks → (x, z) ∈ C := fun x y z a b =>
    List.mem_filter.mpr ⟨mem_allQ.mpr ⟨(rel_in _ a).1, (rel_in _ b).2⟩, List.any_eq_true.mpr ⟨y, (rel_in _ a).2, by rw [show (relP igs mks).contains (x, y) = true from List.contains_iff_mem.mpr a, show (relP igs mks).contains (y, z) = true from List.contains_iff_mem.mpr b]; rfl⟩⟩
  refine lw_rel h (lw_max (S := C) (A := allQ (nms (igs ++ mks)) (nms igs)) (fun l hl hs q hq => ?_) _ _ (fun q hq => hq) (fun q hq => (List.mem_filter.mp hq).1) _ (hC _ _ _ h1 h2))
  obtain ⟨q1, q2⟩ := List.mem_filter.mp hq
  obtain ⟨b, hb, e⟩ := List.any_eq_true.mp q2
  obtain ⟨ea, eb⟩ := Bool.and_eq_true_iff.mp e
  have ma := List.contains_iff_mem.mp ea
  have mb := List.contains_iff_mem.mp eb
  rw [pg_ho h (fun r hr => mem_allQ.mp (hl r hr)) (mem_allQ.mp q1).1]
  have up : ∀ r ∈ gr0 igs, r ∈ relP igs mks := fun r hr => List.mem_append.mpr (.inl hr)
  have c1 : cfF (gr0 igs) (look (igs ++ mks) q.1) (look (igs ++ mks) b) = true := rel_cf h ma
  have c2 : cfF (gr0 igs) (look (igs ++ mks) b) (look (igs ++ mks) q.2) = true := rel_cf h mb
  exact cf_mono hs (cf_comp hC (pg_noint h rel_in) (cf_mono up c1) (cf_mono up c2))
theorem rel_self {igs mks : List Ig} (h : ProgG igs mks) {n : Str} (hn : n ∈ nms igs) : (n, n) ∈ relP igs mks := by
  refine List.mem_append.mpr (.inl (gr0_max (S := (nms igs).map fun n => (n, n)) (fun q hq => ?_) (fun q hq => ?_) (List.mem_map.mpr ⟨n, hn, rfl⟩)))
  · obtain ⟨m, hm, rfl⟩ := List.mem_map.mp hq
    exact ⟨hm, hm⟩
  · obtain ⟨m, hm, rfl⟩ := List.mem_map.mp hq
    have g := pg_ops h (pg_in h hm)
    rw [pg_same h hm] at g
    have kc : ∀ {k : Str}, k ∈ knd (nms igs) → kcF ((nms igs).map fun n => (n, n)) k k = true := fun {k} hk => by
      unfold kcF
      rcases List.mem_cons.mp hk with e | e
      · rw [decide_eq_true e]
        rfl
      · rw [show ((nms igs).map fun n => (n, n)).contains (k, k) = true from List.contains_iff_mem.mpr (List.mem_map.mpr ⟨k, e, rfl⟩), Bool.or_true]
    show cfF _ (look igs m) (look igs m) = true
    unfold cfF
    refine List.all_eq_true.mpr fun o ho => List.any_eq_true.mpr ⟨o, ho, ?_⟩
    unfold stF
    simp only [Bool.and_eq_true, decide_eq_true_eq]
    refine ⟨trivial, trivial, kc (g.ks o ho).2, all_zip.mpr fun i x y hx hy => ?_⟩
    rw [hx] at hy
    obtain rfl := Option.some.inj hy
    exact kc ((g.ks o ho).1 x (List.mem_of_getElem? hx))
/-! ### what the specs ask -/
theorem kn_sok {igs mks : List Ig} (h : ProgG igs mks) {k : Str} (hk : k ∈ knd (nms igs)) : PyData.strOk k = true := by
  rcases List.mem_cons.mp hk with e | e
  · rw [e]
    decide +kernel
  · exact (pg_nm h (pg_in h e)).2.1
theorem pg_tbi {igs mks : List Ig} (h : ProgG igs mks) : TbOk igs := ⟨by have := h.n6; omega, pg_ndi h, fun x hx => ⟨by have := (h.io x hx).len; omega, fun o ho => by have := (h.io x hx).ar o ho; omega⟩, fun x hx => (pg_nm h (pg_in h (List.mem_map.mpr ⟨x, hx, rfl⟩))).2.1⟩
theorem pg_tbm {igs mks : List Ig} (h : ProgG igs mks) : TbOk mks := ⟨by have := h.m4; omega, pg_ndm h, fun x hx => ⟨by have := (h.mo x hx).len; omega, fun o ho => by have := (h.mo x hx).ar o ho; omega⟩, fun x hx => (pg_nm h (pg_inm h (List.mem_map.mpr ⟨x, hx, rfl⟩))).2.1⟩
theorem tb_rev {tb : Tb} (h : TbOk tb) : TbOk tb.reverse := ⟨by rw [List.length_reverse]; exact h.len, ((List.reverse_perm tb).symm.map _).nodup_iff.mp h.nd, fun x hx => h.ops x (List.mem_reverse.mp hx), fun x hx => h.sok x (List.mem_reverse.mp hx)⟩
theorem pg_pg {igs mks : List Ig} (h : ProgG igs mks) : PgOk igs mks := by
  refine ⟨by have := h.n6; omega, by have := h.m4; omega, pg_nd h, fun n hn => (pg_nm h hn).2.1, fun x hx => ?_⟩
  have g : OpsG (nms igs) x.2 := by
    rcases List.mem_append.mp hx with hx | hx
    · exact h.io x hx
    · exact h.mo x hx
  exact ⟨by have := g.len; omega, fun o ho => ⟨by have := g.ar o ho; omega, fun k hk => kn_sok h ((g.ks o ho).1 k hk), kn_sok h (g.ks o ho).2⟩⟩
/-! ### what is missing -/
theorem Txt.e_Missing (T : Txt K mg w a) : ExcC K (He.ga K "Missing") := ⟨T.m1_, T.m2_, T.s_Missing, T.m4_, T.m5_, T.m6_, T.m7_, T.m8_⟩
theorem pss_cls {X : Cx} {cls cls' : Value} {d d' : Option Addr} {ss : List Stmt} {t : TS} (h : cls = cls' → d = d' → PSs X ss t) : PSs X ss (fun D σ H => cls = cls' ∧ d = d' ∧ t D σ H) :=
  ⟨fun pins s σ H D I hh => (h hh.1 hh.2.1).run pins s σ H D I hh.2.2⟩
theorem zc_of {cls cls' : Value} {d d' : Option Addr} {o : Obj} (h1 : cls = cls') (h2 : d = d') (hz : Zc cls d o) : Zc cls' d' o := by
  subst h1 h2
  exact hz
def spMi (K : PySem.W.Frag) : Sp := fun vs H Q E => ∃ (v : V) (x y : Str) (igs mks : List Ig) (b : PyData), vs = [v, .str x, .str y] ∧ Rp K H v (progD igs mks b) ∧ TbOk igs ∧ TbOk mks ∧ x.length ≤ 1000 ∧ y.length ≤ 1000 ∧ PyData.strOk x = true ∧ PyData.strOk y = true ∧
  ¬ (x ∈ nms igs ++ nms mks ∧ y ∈ nms igs) ∧ ∀ H', Same H H' → Q (.bl true) H'
theorem ok_missing (T : Txt K mg w a) : FnOk P w K mg base CX0 7 (He.ga K "_law_missing") a.d_lw_missing ["program", "name", "interface"] (spMi K) := by
  have gco := ok_conforms (P := P) (w := w) (base := base) T
  refine T.F_lw_missing.ok sc_lw_missing (fun vs H Q E h => ?_) (fun cdv A outer s H vs Q E hr h => ?_)
  · obtain ⟨_, _, _, _, _, _, rfl, _⟩ := h
    rfl
  obtain ⟨v, x, y, igs, mks, b, rfl, r, oki, okm, lx, ly, kx, ky, hn, q⟩ := h
  refine ⟨_, PSs.nox (pss_cons (ps_try_as (i := 3) rfl rfl sc_lw_missing.nd rfl rfl ⟨rfl, by decide, .inl T.g_Missing⟩ takes0 (fun W pn xe tk _ => (pss_one (ps_expr (pe_callS gco (hr.mono (by omega)) (by rfl) T.g_conforms T.F_conforms.kp T.b_conforms (fun σ => passAt tk σ) (pa_cons (pv 0) (pa_cons (pv 1) (pa_cons (pv 2) pa_nil)))))))
      (fun a oe cls d pn hz hf => pss_cls (cls' := .ref (He.ga K "Missing")) (d' := none) fun z1 z2 => (pss_one (ps_ret (pe_and (pe_callB (call_isE T.e_Missing (zc_of z1 z2 hz) hf) (by rfl) T.g_isinstance boot_isinstance (pa_cons (pv 3) (pa_cons (pe_glob (v := .ref (He.ga K "PortError")) (by rfl) T.g_PortError rfl) pa_nil))) (pe_one (pe_not (pe_callB (call_isE T.e_Missing (zc_of z1 z2 hz) hf) (by rfl) T.g_isinstance boot_isinstance (pa_cons (pv 3) (pa_cons (pe_glob (v := .ref (He.ga K "NotAllowed")) (by rfl) T.g_NotAllowed rfl) pa_nil))))))))))
      (pss_one (ps_ret pe_bl))), ?_⟩
  rw [show L2.start N_lw_missing [v, .str x, .str y] = [some v, some (.str x), some (.str y), none] from rfl]
  refine ⟨_, rfl, _, rfl, _, rfl, v, x, y, igs, mks, b, rfl, r, oki, okm, lx, ly, kx, ky, (fun h => absurd h hn), fun _ H1 s1 => ⟨true, T.e1_, fun _ e' ha => ⟨rfl, rfl, ?_⟩, fun z => nomatch z⟩⟩
  refine ⟨_, rfl, _, .ref (He.ga K "PortError"), true, rfl, (fun u h => h), T.e2_, true, rfl, ?_⟩
  rw [if_pos rfl]
  refine ⟨_, rfl, _, .ref (He.ga K "NotAllowed"), false, rfl, (fun u h => h), T.e3_, ?_⟩
  exact ⟨false, rfl, q _ s1⟩
def spLaw (K : PySem.W.Frag) : Sp := fun vs H Q _ => ∃ (a : Addr) (ss : List Int), vs = [.ref a] ∧ SqL K H a (ss.map V.int) ∧ ss.length ≤ 63 ∧ ∀ H', Q (.bl true) H'
theorem rps_rev {H : Hp} : ∀ {vs : List V} {ds : List PyData}, Rps K H vs ds → Rps K H vs.reverse ds.reverse
  | _, _, .nil => .nil
  | _, _, .cons h r => by
    rw [List.reverse_cons, List.reverse_cons]
    exact Rps.app (rps_rev r) (.cons h .nil)
/-- the pairs in their order -/
theorem sp_ex (l : List Pr) : ∃ m : List Pr, m.map prD = SortN.srt (l.map prD) ∧ m.Perm l := by
  refine ⟨l.mergeSort fun a b => SortN.dle (prD a) (prD b), (PySem.W.sort_maps prD fun a _ b _ => rfl), List.mergeSort_perm _ _⟩
theorem ok_law (T : Txt K mg w a) : FnOk P w K mg base CX0 8 (He.ga K "law") a.d_law ["script"] (spLaw K) := by
  have gmi := ok_missing (P := P) (w := w) (base := base) T
  have gco := ok_conforms (P := P) (w := w) (base := base) T
  have gre := ok_relation (P := P) (w := w) (base := base) T
  have glg := ok_lw_greatest (P := P) (w := w) (base := base) T
  have gpr := ok_lw_program (P := P) (w := w) (base := base) T
  have grw := ok_lw_row (P := P) (w := w) (base := base) T
  have gtb := ok_lw_table (P := P) (w := w) (base := base) T
  refine T.F_law.ok sc_law (fun vs H Q E h => ?_) (fun cdv A outer s H vs Q E hr h => ?_)
  · obtain ⟨_, _, rfl, _⟩ := h
    rfl
  obtain ⟨sa, ss, rfl, hs, hl, q⟩ := h
  refine ⟨_, PSs.nox (pss_cons (ps_set (i := 1) sc_law.nd rfl (Or.inl rfl) (pe_call grw (hr.mono (by omega)) (by rfl) T.g_lw_row T.F_lw_row.kp T.b_lw_row .nil pass0 (pa_cons (pv 0) pa_nil)))
      (pss_cons (ps_set (i := 2) sc_law.nd rfl (Or.inl rfl) (pe_call gpr (hr.mono (by omega)) (by rfl) T.g_lw_program T.F_lw_program.kp T.b_lw_program .nil pass0 (pa_cons (pv 1) pa_nil)))
      (pss_cons (ps_set (i := 3) sc_law.nd rfl (Or.inr rfl) (pe_call glg (hr.mono (by omega)) (by rfl) T.g_lw_greatest T.F_lw_greatest.kp T.b_lw_greatest .nil pass0 (pa_cons (pv 2) pa_nil)))
      (pss_cons (ps_set (i := 4) sc_law.nd rfl (Or.inl rfl) (pe_call gre (hr.mono (by omega)) (by rfl) T.g_relation T.F_relation.kp T.b_relation .nil pass0 (pa_cons (pv 2) pa_nil)))
      (pss_cons (ps_if (PW.pt (pw_or (pt_not (pt_val (pe_callB call_isi (by rfl) T.g_isinstance boot_isinstance (pa_cons (pv 4) (pa_cons (pe_bltn (v := .ty "list") (by rfl) T.g_list boot_list rfl) pa_nil))))) (pw_or1 (pt_cmpR (op_neD hr.units) (pv 4) (pv 3) (nomark _))))) (pss_one (ps_ret pe_bl)) pss_nil)
      (pss_cons (ps_set (i := 5) sc_law.nd rfl (Or.inl rfl) (pe_tup (pa_cons (RevT2.pe_tupRevT (by rfl) (by rfl) T.g_tuple (by rfl) T.g_reversed (pe_ix ix_tup (pv 2) pe_int (fun _ _ => rfl))) (pa_cons (RevT2.pe_tupRevT (by rfl) (by rfl) T.g_tuple (by rfl) T.g_reversed (pe_ix ix_tup (pv 2) pe_int (fun _ _ => rfl))) (pa_cons (pe_ix ix_tup (pv 2) pe_int (fun _ _ => rfl)) pa_nil)))))
      (pss_cons (ps_if (pt_cmpR (op_neD hr.units) (pe_call gre (hr.mono (by omega)) (by rfl) T.g_relation T.F_relation.kp T.b_relation .nil pass0 (pa_cons (pv 5) pa_nil)) (pv 3) (nomark _)) (pss_one (ps_ret pe_bl)) pss_nil)
      (pss_cons (ps_set (i := 6) sc_law.nd rfl (Or.inl rfl) (pe_call gtb (hr.mono (by omega)) (by rfl) T.g_lw_table T.F_lw_table.kp T.b_lw_table .nil pass0 (pa_cons (pv 2) pa_nil)))
      (pss_cons (ps_setLc (i := 7) (own := [("one", 12)]) (g := gName 12) (tt := tYes) (te := (tOp (rIxT K) (tVar 12) (tC (.int 0)))) (by rfl) sc_law.nd rfl rfl (sw_true rfl rfl rfl (by decide +kernel)) (pi_tup (pe_ix ix_tup (pv 2) pe_int (fun _ _ => rfl))) (blkOk_by (own := [("one", 12)]) (N := N_law) (sc := defScope s_law) (by decide +kernel)) (fun _ _ _ _ _ => pg_name (i := 12) sc_law.nd rfl (Or.inl rfl)) (fun _ _ _ _ _ => pts_nil) (fun _ _ _ _ _ => (pe_ix (r := rIxT K) ix_tup (pv 12) pe_int (fun _ _ => rfl))))
      (pss_cons (ps_lock (ps_for PassesOwn.never rfl (pi_keys (pv 6)) (pg_name (i := 8) sc_law.nd rfl (Or.inl rfl))
      (pss_one (ps_for PassesOwn.never rfl (pi_list (pv 7)) (pg_name (i := 9) sc_law.nd rfl (Or.inl rfl))
      (pss_one (ps_if (pt_cmpR op_ne (pe_callS gco (hr.mono (by omega)) (by rfl) T.g_conforms T.F_conforms.kp T.b_conforms (fun σ => passAt takes0 σ) (pa_cons (pv 2) (pa_cons (pv 8) (pa_cons (pv 9) pa_nil)))) (pe_cmpR (op_inD (TupIn.u65 hr)) (pe_tup (pa_cons (pv 8) (pa_cons (pv 9) pa_nil))) (pv 3) (by rfl)) (nomark _)) (pss_one (ps_ret pe_bl)) pss_nil))))))
      (pss_cons (ps_if (pt_not (pt_val (pe_callB (cr_all rfl) (by rfl) T.g_all boot_all (pa_cons (pe_lc (own := [("name", 8)]) (g := gName 8) (tt := tYes)  (by rfl) sc_law.nd (pi_list (pv 7)) (blkOk_by (own := [("name", 8)]) (N := N_law) (sc := defScope s_law) (by decide +kernel)) (fun _ _ _ _ _ => pg_name (i := 8) sc_law.nd rfl (Or.inl rfl)) (fun _ _ _ _ _ => pts_nil) (fun _ _ _ _ _ => (pe_cmpR (ListK.in_of K rfl (TupIn.u65 hr)) (pe_tup (pa_cons (pv 8) (pa_cons (pv 8) pa_nil))) (pv 3) (by rfl)))) pa_nil)))) (pss_one (ps_ret pe_bl)) pss_nil)
      (pss_cons (ps_for PassesOwn.never rfl (pi_list (pv 3)) (pg_tup (by rfl) (pgs_cons (pg_name (i := 10) sc_law.nd rfl (Or.inr rfl)) (pgs_cons (pg_name (i := 11) sc_law.nd rfl (Or.inr rfl)) pgs_nil)))
      (pss_one (ps_if (pt_not (pt_val (pe_callB (cr_all rfl) (by rfl) T.g_all boot_all (pa_cons (pe_lc (own := [("one", 12), ("third", 13)]) (g := gTup K 2 (gCons (gName 12) (gCons (gName 13) gNil))) (tt := (tTest (tOp rEq (tVar 12) (tVar 11))))  (by rfl) sc_law.nd (pi_list (pv 3)) (blkOk_by (own := [("one", 12), ("third", 13)]) (N := N_law) (sc := defScope s_law) (by decide +kernel)) (fun _ _ _ _ _ => (pg_tup (by rfl) (pgs_cons (pg_name (i := 12) sc_law.nd rfl (Or.inl rfl)) (pgs_cons (pg_name (i := 13) sc_law.nd rfl (Or.inl rfl)) pgs_nil)))) (fun _ _ _ _ _ => pts_one (pt_cmpR op_eq (pv 12) (pv 11) (nomark _))) (fun _ _ _ _ _ => (pe_cmpR (ListK.in_of K rfl (TupIn.u65 hr)) (pe_tup (pa_cons (pv 10) (pa_cons (pv 13) pa_nil))) (pv 3) (by rfl)))) pa_nil)))) (pss_one (ps_ret pe_bl)) pss_nil)))
      (pss_one (ps_ret (pe_and (pe_call gmi (hr.mono (by omega)) (by rfl) T.g_lw_missing T.F_lw_missing.kp T.b_lw_missing .nil pass0 (pa_cons (pv 2) (pa_cons pe_str (pa_cons pe_str pa_nil)))) (pe_and (pe_call gmi (hr.mono (by omega)) (by rfl) T.g_lw_missing T.F_lw_missing.kp T.b_lw_missing .nil pass0 (pa_cons (pv 2) (pa_cons pe_str (pa_cons pe_str pa_nil)))) (pe_one (pe_call gmi (hr.mono (by omega)) (by rfl) T.g_lw_missing T.F_lw_missing.kp T.b_lw_missing .nil pass0 (pa_cons (pv 2) (pa_cons pe_str (pa_cons pe_str pa_nil))))))))))))))))))))), ?_⟩
  rw [show L2.start N_law [.ref sa] = [some (.ref sa), none, none, none, none, none, none, none, none, none, none, none, none, none] from rfl]
  dsimp only [tSeq, tAsg, tRet]
  refine ⟨_, rfl, sa, ss, rfl, hs, hl, fun H1 ra row s1 n1 h1 rok => ?_⟩
  simp only [gName, List.set_cons_succ, List.set_cons_zero]
  dsimp only [tSeq, tAsg, tRet]
  refine ⟨_, rfl, ra, row, rfl, SqL.of h1, rok.2, fun H2 v igs mks s2 r2 pg => ?_⟩
  simp only [gName, List.set_cons_succ, List.set_cons_zero]
  dsimp only [tSeq, tAsg, tRet]
  refine ⟨_, rfl, v, igs, mks, lawB, rfl, r2, pg_pg pg, fun H3 p3 ys3 s3 n3 h3 r3 => ?_⟩
  simp only [gName, List.set_cons_succ, List.set_cons_zero]
  dsimp only [tSeq, tAsg, tRet]
  have tbi := pg_tbi pg
  have tbm := pg_tbm pg
  have r3v := r2.keep (Same.tups s3)
  refine ⟨_, rfl, v, igs, mks, lawB, rfl, r3v, tbi, tbm, fun H4 p4 ys4 s4 n4 h4 r4 => ?_⟩
  simp only [gName, List.set_cons_succ, List.set_cons_zero]
  dsimp only [tSeq, tAsg, tRet]
  rw [← relD_eq pg] at r3
  have sh := relD_shaped tbi tbm
  have d4 : Dp K H4 (.ref p4) (.list (relD igs mks)) := Dp.lst (SqL.of h4) r4.dp
  have d3 : Dp K H4 (.ref p3) (.list (relD igs mks)) := Dp.lst (SqL.of (s4 _ _ h3)) (r3.keep (Same.tups s4)).dp
  have neD : ∀ {x y : V} {H : Hp} {R : VK}, Dp K H x (.list (relD igs mks)) → Dp K H y (.list (relD igs mks)) → R (.bl false) H → rNeD K x y H R := fun {x y H R} a b h => by
    refine ⟨_, _, a, b, sh, sh, ?_⟩
    rw [Nst.eqv_self sh]
    exact h
  refine ⟨_, rfl, _, _, _, _, true, rfl, .ty "list", TyX.base (TyOf.lst h4), kit_ty (by decide +kernel), true, rfl, ?_⟩
  refine Cm.itBn (fun e => nomatch e) fun _ => ?_
  refine ⟨_, rfl, _, rfl, neD d4 d3 ⟨_, rfl, Cm.itB (fun e => nomatch e) fun _ => ?_⟩⟩
  have r4v := r3v.keep (Same.tups s4)
  obtain ⟨c, xs, rfl, hc, rs⟩ := id r4v.tup_inv
  obtain ⟨w1, xs, rfl, r1, rs⟩ := rs.cons_inv
  obtain ⟨w2, xs, rfl, r2', rs⟩ := rs.cons_inv
  obtain ⟨w3, xs, rfl, r3', rs⟩ := rs.cons_inv
  obtain rfl := rs.nil_inv
  obtain ⟨c1, xs1, rfl, hc1, rs1⟩ := r1.tup_inv
  obtain ⟨c2, xs2, rfl, hc2, rs2⟩ := r2'.tup_inv
  have rv1 : Rps K H4 xs1.reverse (igs.reverse.map ifD) := by rw [List.map_reverse]; exact rps_rev rs1
  have rv2 : Rps K H4 xs2.reverse (mks.reverse.map mkD) := by rw [List.map_reverse]; exact rps_rev rs2
  dsimp only [tNext, tSeq, tAsg, tRet]
  refine ⟨_, rfl, c, _, 0, _, rfl, rfl, hc, atI_nat (j := 0) rfl, c1, xs1, rfl, hc1, fun q1 nq1 => ?_⟩
  have u1 := Cm.same_new (o := .tup xs1.reverse) nq1
  have t1 : Rp K (L2.upd H4 q1 (.tup xs1.reverse)) (.ref q1) (.tuple (igs.reverse.map ifD)) := Rp.made nq1 rv1
  generalize L2.upd H4 q1 (.tup xs1.reverse) = G1 at *
  refine ⟨_, rfl, c, _, 1, _, rfl, rfl, Cm.sameT u1 hc, atI_nat (j := 1) rfl, c2, xs2, rfl, Cm.sameT u1 hc2, fun q2 nq2 => ?_⟩
  have u2 := Cm.same_new (o := .tup xs2.reverse) nq2
  have t2 : Rp K (L2.upd G1 q2 (.tup xs2.reverse)) (.ref q2) (.tuple (mks.reverse.map mkD)) := Rp.made nq2 (rv2.keep (Same.tups u1))
  generalize L2.upd G1 q2 (.tup xs2.reverse) = G2 at *
  refine ⟨_, rfl, c, _, 2, _, rfl, rfl, Cm.sameT (u1.trans u2) hc, atI_nat (j := 2) rfl, Cm.small (by show 3 ≤ 100000; decide), fun q3 nq3 => ?_⟩
  have u3 := Cm.same_new (o := .tup [.ref q1, .ref q2, w3]) nq3
  have t3 : Rp K (L2.upd G2 q3 (.tup [.ref q1, .ref q2, w3])) (.ref q3) (progD igs.reverse mks.reverse lawB) := Rp.made nq3 (.cons (t1.keep (Same.tups u2)) (.cons t2 (.cons (r3'.keep (Same.tups (u1.trans u2))) .nil)))
  generalize L2.upd G2 q3 (.tup [.ref q1, .ref q2, w3]) = G3 at *
  have u13 := (u1.trans u2).trans u3
  simp only [gName, List.set_cons_succ, List.set_cons_zero]
  dsimp only [tSeq, tAsg, tRet]
  refine ⟨_, rfl, _, igs.reverse, mks.reverse, lawB, rfl, t3, tb_rev tbi, tb_rev tbm, fun H5 p5 ys5 s5 n5 h5 r5 => ?_⟩
  rw [relD_rev pg] at r5
  have s45 := u13.trans s5
  have d5 : Dp K H5 (.ref p5) (.list (relD igs mks)) := Dp.lst (SqL.of h5) r5.dp
  obtain ⟨SP, eSP, pSP⟩ := sp_ex (relP igs mks)
  have h3P : PrL K H3 p3 SP := ⟨ys3, h3, by rw [eSP]; exact r3⟩
  have d3' : Dp K H5 (.ref p3) (.list (relD igs mks)) := Dp.lst (SqL.of (s45 _ _ (s4 _ _ h3))) (r3.keep (Same.tups (s4.trans s45))).dp
  refine ⟨_, rfl, neD d5 d3' ⟨_, rfl, Cm.itB (fun e => nomatch e) fun _ => ?_⟩⟩
  have rv5 := r4v.keep (Same.tups s45)
  have ok := pg_pg pg
  dsimp only [tNext, tSeq, tAsg, tRet]
  refine ⟨_, rfl, _, igs, mks, lawB, rfl, rv5, ok.nd, ok.li, ok.lm, fun x hx => ⟨(ok.ops x hx).1, fun o ho => ((ok.ops x hx).2 o ho).1⟩, fun H6 d6 s6 n6 tl6 => ?_⟩
  simp only [gName, List.set_cons_succ, List.set_cons_zero]
  dsimp only [tSeq, tAsg, tRet]
  have s46 := s45.trans s6
  have hc6 := Cm.sameT s46 hc
  have hc16 := Cm.sameT s46 hc1
  have rs16 := rs1.keep (Same.tups s46)
  have l1 := rs1.len
  rw [List.length_map] at l1
  have n6 := pg.n6
  have lni : (nms igs).length = igs.length := List.length_map _
  refine ⟨_, rfl, c, _, 0, _, rfl, rfl, hc6, atI_nat (j := 0) rfl, c1, rfl, ⟨_, hc16⟩, fun li nli => ?_⟩
  refine lc_tup (K := K) (a := c1) (xs := xs1) (fun j Hj => Same H6 Hj ∧ Hj li = some (.lst (((nms igs).take j).map V.str))) ⟨Cm.same_new nli, upd_same⟩ (fun j Hj _ b => Cm.sameT b.1 hc16) (fun j y Hj hy ⟨sJ, hD⟩ => ?_) fun H7 ⟨s7, hli⟩ => ?_
  · refine ⟨rfl, ?_⟩
    have hj : j < igs.length := by
      have := (List.getElem?_eq_some_iff.mp hy).1
      omega
    obtain ⟨y', hy', ry⟩ := rs16.at_ (i := j) (d := ifD igs[j]) (by rw [List.getElem?_map, List.getElem?_eq_getElem hj]; rfl)
    rw [hy] at hy'
    cases hy'
    have hgj : (nms igs)[j]? = some igs[j].1 := by unfold nms; rw [List.getElem?_map, List.getElem?_eq_getElem hj]; rfl
    obtain ⟨t, zs, rfl, ht, rt⟩ := (ry.keep (Same.tups sJ)).tup_inv
    obtain ⟨a1, zs, rfl, q1, rt⟩ := rt.cons_inv
    obtain rfl := q1.str_inv
    refine ⟨_, rfl, t, _, 0, _, rfl, rfl, ht, atI_nat (j := 0) rfl, _, hD, Cm.smallL (by rw [List.length_map, List.length_take]; omega), Cm.same_mut sJ nli, ?_⟩
    rw [upd_same, take_snoc hgj, List.map_append]
    rfl
  rw [l1, ← lni, List.take_length] at hli
  simp only [gName, List.set_cons_succ, List.set_cons_zero]
  dsimp only [tNext, tSeq, tAsg, tRet]
  have s47 := s46.trans s7
  have s37 := s4.trans s47
  obtain ⟨vs, hd7, pr7⟩ := id (tl6.same s7)
  have lv := pr7.length
  have okP : PsOk SP := fun p hp => relP_sok tbi tbm (pSP.mem_iff.mp hp)
  have rv7 := r4v.keep (Same.tups s47)
  have hP7 := h3P.same s37
  have same_c : ∀ x y, (relP igs mks).contains (x, y) = SP.contains (x, y) := fun x y => by
    rw [Bool.eq_iff_iff, List.contains_iff_mem, List.contains_iff_mem, pSP.mem_iff]
  refine ⟨d6, _, hd7, True.intro, fun od => ?_⟩
  have hd8 : (L2.upd H7 d6 (.frz od (.dK (tkv (igs ++ mks) vs)))) d6 = some (.frz od (.dK (tkv (igs ++ mks) vs))) := upd_same
  have un : ∀ {H' : Hp}, Same (L2.upd H7 d6 (.frz od (.dK (tkv (igs ++ mks) vs)))) H' → Same H7 (L2.upd H' d6 (.dK (tkv (igs ++ mks) vs))) := fun s => same_unlock hd7 s
  have tk8 : TK K H7 (L2.upd H7 d6 (.frz od (.dK (tkv (igs ++ mks) vs)))) := TK.upd (by rw [hd7]; exact True.intro)
  have lid : li ≠ d6 := fun z => by rw [z, hd7] at hli; cases hli
  have hli8 : (L2.upd H7 d6 (.frz od (.dK (tkv (igs ++ mks) vs)))) li = some (.lst ((nms igs).map V.str)) := (upd_ne lid).trans hli
  have rv8 := rp_keep tk8 rv7
  have hP8 : PrL K (L2.upd H7 d6 (.frz od (.dK (tkv (igs ++ mks) vs)))) p3 SP := by
    obtain ⟨ws, a, b⟩ := hP7
    have : p3 ≠ d6 := fun z => by rw [z, hd7] at a; cases a
    exact ⟨ws, (upd_ne this).trans a, rps_keep tk8 b⟩
  generalize L2.upd H7 d6 (.frz od (.dK (tkv (igs ++ mks) vs))) = H8 at *
  have lk := tkv_len lv
  refine ⟨_, rfl, d6, od, rfl, .inl ⟨_, hd8, ?_⟩⟩
  refine for_it (D := ⟨_, _, _, _⟩) walk_keys (fun i σ Hi => ∃ x8 x9 : Option V, σ = [some (.ref sa), some (.ref ra), some (.ref c), some (.ref p3), some (.ref p4), some (.ref q3), some (.ref d6), some (.ref li), x8, x9, none, none, none, none] ∧ Same H8 Hi) ⟨none, none, rfl, Same.refl _⟩ (fun i σ Hi _ ⟨_, _, _, s⟩ => s _ _ hd8) (fun i y σ Hi Hi' hi ⟨x8, x9, e, sI⟩ ⟨eH, k, u, hk, ey⟩ => ?_) fun σ Hn ⟨x8, x9, e, sN⟩ => ?_
  · subst e eH
    have him : i < (igs ++ mks).length := by omega
    have ek := tkv_at (i := i) lv
    rw [hk, List.getElem?_eq_getElem him] at ek
    have e4 : ∃ n, k = .inr n ∧ n ∈ nms (igs ++ mks) := by
      cases e5 : vs[i]? with
      | none => rw [e5] at ek; cases ek
      | some u2 =>
        rw [e5] at ek
        cases ek
        exact ⟨_, rfl, List.mem_map.mpr ⟨_, List.getElem_mem him, rfl⟩⟩
    obtain ⟨n, rfl, hn⟩ := e4
    obtain rfl : y = V.str n := ey
    simp only [gName, List.set_cons_succ, List.set_cons_zero]
    have nx := pg_nm pg hn
    refine ⟨_, rfl, li, rfl, ⟨_, SqL.of (sI _ _ hli8)⟩, ?_⟩
    refine for_list (K := K) (a := li) (xs := (nms igs).map V.str) (D := ⟨_, _, _, _⟩) (fun j σ Hj => ∃ x9 : Option V, σ = [some (.ref sa), some (.ref ra), some (.ref c), some (.ref p3), some (.ref p4), some (.ref q3), some (.ref d6), some (.ref li), some (.str n), x9, none, none, none, none] ∧ Same H8 Hj) ⟨_, rfl, sI⟩ (fun j σ Hj _ ⟨_, _, s⟩ => SqL.of (s _ _ hli8)) (fun j z σ Hj hz ⟨x9, e, sJ⟩ => ?_) fun σ Hj ⟨x9, e, sJ⟩ => ⟨_, _, e, sJ⟩
    subst e
    rw [List.getElem?_map] at hz
    obtain ⟨g, hg, rfl⟩ := Option.map_eq_some_iff.mp hz
    have hgm := List.mem_of_getElem? hg
    have gx := pg_nm pg (pg_in pg hgm)
    have both : n ∈ nms igs ++ nms mks ∧ g ∈ nms igs := ⟨by unfold nms at *; rw [← List.map_append]; exact hn, hgm⟩
    simp only [gName, List.set_cons_succ, List.set_cons_zero]
    refine ⟨_, rfl, _, rfl, _, rfl, _, n, g, igs, mks, lawB, rfl, rv8.keep (Same.tups sJ), tbi, tbm, by omega, by omega, nx.2.1, gx.2.1, fun _ H9 s9 => ?_, fun hn => absurd both hn⟩
    refine ⟨_, rfl, _, rfl, Cm.small (by show 2 ≤ 100000; decide), fun t nt => ⟨_, rfl, ?_⟩⟩
    have sT := Cm.same_new (o := .tup [.str n, .str g]) nt
    refine in_pairs (((hP8.same sJ).same s9).same sT) okP nx.2.1 gx.2.1 Cm.sqt_new ?_
    refine ⟨rfl, _, rfl, Cm.itDn (fun h => absurd (congrArg V.bl (same_c n g)) h) fun _ => ⟨_, rfl, (sJ.trans s9).trans sT⟩⟩
  · subst e
    have hn8 := sN _ _ hd8
    refine ⟨hn8, ?_⟩
    have sU := un sN
    generalize L2.upd Hn d6 (.dK (tkv (igs ++ mks) vs)) = HU at *
    dsimp only [tNext, tSeq, tAsg, tRet]
    have hliU := sU _ _ hli
    have rvU := rv7.keep (Same.tups sU)
    have hPU := hP7.same sU
    have inSP : ∀ {x y : Str}, (x, y) ∈ relP igs mks → SP.contains (x, y) = true := fun h => List.contains_iff_mem.mpr (pSP.mem_iff.mpr h)
    refine ⟨_, rfl, li, rfl, ⟨_, SqL.of hliU⟩, fun D nD => ?_⟩
    refine lc_list (K := K) (a := li) (xs := (nms igs).map V.str) (fun j Hj => Same HU Hj ∧ ∃ bs : List Bool, Hj D = some (.lst (bs.map V.bl)) ∧ (∀ b ∈ bs, b = true) ∧ bs.length ≤ j) ⟨Cm.same_new nD, [], upd_same, (fun _ h => nomatch h), Nat.le_refl _⟩ (fun j Hj _ b => SqL.of (b.1 _ _ hliU)) (fun j y Hj hy ⟨sJ, bs, hD, ab, lb⟩ => ?_) fun Hj ⟨sJ, bs, hD, ab, lb⟩ => ?_
    · refine ⟨rfl, ?_⟩
      rw [List.getElem?_map] at hy
      obtain ⟨n, hn, rfl⟩ := Option.map_eq_some_iff.mp hy
      have hnm := List.mem_of_getElem? hn
      have hjl := (List.getElem?_eq_some_iff.mp hn).1
      have nx := pg_nm pg (pg_in pg hnm)
      refine ⟨_, rfl, _, rfl, Cm.small (by show 2 ≤ 100000; decide), fun t nt => ⟨_, rfl, ?_⟩⟩
      have sT := Cm.same_new (o := .tup [.str n, .str n]) nt
      refine in_pairs ((hPU.same sJ).same sT) okP nx.2.1 nx.2.1 Cm.sqt_new ?_
      refine ⟨_, sT _ _ hD, Cm.smallL (by rw [List.length_map]; omega), Cm.same_mut (sJ.trans sT) nD, bs ++ [SP.contains (n, n)], by rw [upd_same, List.map_append]; rfl, fun b hb => ?_, by rw [List.length_append]; simp only [List.length_cons, List.length_nil]; omega⟩
      rcases List.mem_append.mp hb with hb | hb
      · exact ab b hb
      · rw [List.mem_singleton.mp hb]
        exact inSP (rel_self pg hnm)
    refine ⟨D, bs, rfl, SqL.of hD, _, rfl, Cm.itBn (fun e => ?_) fun _ => ?_⟩
    · rw [show bs.all id = true from List.all_eq_true.mpr fun b hb => ab b hb] at e
      cases e
    dsimp only [tNext, tSeq, tAsg, tRet]
    have hPJ := hPU.same sJ
    have rvJ := rvU.keep (Same.tups sJ)
    obtain ⟨ws, hws, rws⟩ := id hPJ
    have lws := rws.len
    rw [List.length_map] at lws
    have lSP : SP.length ≤ 5000 := by
      have h1 := pSP.length_eq
      have h2 : (relP igs mks).length ≤ (allP (nms igs) ++ allQ (nms mks) (nms igs)).length := ((gr_sl _ _).append (mk_sl mks)).length_le
      rw [List.length_append, allQ_len] at h2
      unfold allP at h2
      rw [allP_len] at h2
      have m4 := pg.m4
      have lm : (nms mks).length = mks.length := List.length_map _
      have a1 : (nms igs).length * (nms igs).length ≤ 6 * 6 := Nat.mul_le_mul (by omega) (by omega)
      have a2 : (nms mks).length * (nms igs).length ≤ 4 * 6 := Nat.mul_le_mul (by omega) (by omega)
      omega
    refine ⟨_, rfl, p3, rfl, ⟨_, SqL.of hws⟩, ?_⟩
    refine for_list (K := K) (a := p3) (xs := ws) (D := { nx := _, rt := Q }) (fun i σ Hi => ∃ x8 x9 x10 x11 : Option V, σ = [some (.ref sa), some (.ref ra), some (.ref c), some (.ref p3), some (.ref p4), some (.ref q3), some (.ref d6), some (.ref li), x8, x9, x10, x11, none, none] ∧ Same Hj Hi) ⟨_, _, _, _, rfl, Same.refl _⟩ (fun i σ Hi _ ⟨_, _, _, _, _, s⟩ => SqL.of (s _ _ hws)) (fun i y σ Hi hy ⟨x8, x9, x10, x11, e, sI⟩ => ?_) fun σ Hi ⟨x8, x9, x10, x11, e, sI⟩ => ?_
    · subst e
      have hi : i < SP.length := by
        have := (List.getElem?_eq_some_iff.mp hy).1
        omega
      obtain ⟨y', hy', ry⟩ := rws.at_ (i := i) (d := prD SP[i]) (by rw [List.getElem?_map, List.getElem?_eq_getElem hi]; rfl)
      rw [hy] at hy'
      cases hy'
      have mp := pSP.mem_iff.mp (List.getElem_mem hi)
      have kp := okP _ (List.getElem_mem hi)
      generalize SP[i] = p at *
      obtain ⟨x1, x2⟩ := p
      obtain ⟨t, zs, rfl, ht, rt⟩ := (ry.keep (Same.tups sI)).tup_inv
      obtain ⟨a1, zs, rfl, q1, rt⟩ := rt.cons_inv
      obtain ⟨a2, zs, rfl, q2, rt⟩ := rt.cons_inv
      obtain rfl := rt.nil_inv
      obtain rfl := q1.str_inv
      obtain rfl := q2.str_inv
      refine ⟨t, _, rfl, ht, rfl, _, _, rfl, _, _, rfl, rfl, ?_⟩
      simp only [gName, List.set_cons_succ, List.set_cons_zero]
      refine ⟨_, rfl, p3, rfl, ⟨_, SqL.of (sI _ _ hws)⟩, fun D2 nD2 => ?_⟩
      refine lc_list (K := K) (a := p3) (xs := ws) (fun j Hk => Same Hi Hk ∧ ∃ bs : List Bool, Hk D2 = some (.lst (bs.map V.bl)) ∧ (∀ b ∈ bs, b = true) ∧ bs.length ≤ j) ⟨Cm.same_new nD2, [], upd_same, (fun _ h => nomatch h), Nat.le_refl _⟩ (fun j Hk _ b => SqL.of (b.1 _ _ (sI _ _ hws))) (fun j y Hk hy2 ⟨sK, bs, hD, ab, lb⟩ => ?_) fun Hk ⟨sK, bs, hD, ab, lb⟩ => ?_
      · have hj : j < SP.length := by
          have := (List.getElem?_eq_some_iff.mp hy2).1
          omega
        obtain ⟨y', hy', ry⟩ := rws.at_ (i := j) (d := prD SP[j]) (by rw [List.getElem?_map, List.getElem?_eq_getElem hj]; rfl)
        rw [hy2] at hy'
        cases hy'
        have mq := pSP.mem_iff.mp (List.getElem_mem hj)
        have kq := okP _ (List.getElem_mem hj)
        generalize SP[j] = p at *
        obtain ⟨y1, y2⟩ := p
        obtain ⟨t2, zs, rfl, ht2, rt⟩ := (ry.keep (Same.tups (sI.trans sK))).tup_inv
        obtain ⟨b1, zs, rfl, g1, rt⟩ := rt.cons_inv
        obtain ⟨b2, zs, rfl, g2, rt⟩ := rt.cons_inv
        obtain rfl := rt.nil_inv
        obtain rfl := g1.str_inv
        obtain rfl := g2.str_inv
        refine ⟨t2, _, rfl, ht2, rfl, _, _, rfl, _, _, rfl, rfl, rfl, ?_⟩
        refine ⟨_, rfl, _, rfl, rfl, _, rfl, Cm.itES (fun e => ?_) fun e => ⟨sK, bs, hD, ab, by omega⟩⟩
        dsimp only at e
        subst e
        refine ⟨_, rfl, _, rfl, Cm.small (by show 2 ≤ 100000; decide), fun t3 nt3 => ⟨_, rfl, ?_⟩⟩
        have sT := Cm.same_new (o := .tup [.str x1, .str y2]) nt3
        refine in_pairs ((hPJ.same (sI.trans sK)).same sT) okP kp.1 kq.2 Cm.sqt_new ?_
        refine ⟨_, sT _ _ hD, Cm.smallL (by rw [List.length_map]; omega), Cm.same_mut (sK.trans sT) nD2, bs ++ [SP.contains (x1, y2)], by rw [upd_same, List.map_append]; rfl, fun b hb => ?_, by rw [List.length_append]; simp only [List.length_cons, List.length_nil]; omega⟩
        rcases List.mem_append.mp hb with hb | hb
        · exact ab b hb
        · rw [List.mem_singleton.mp hb]
          exact inSP (rel_trans pg mp mq)
      · refine ⟨D2, bs, rfl, SqL.of hD, _, rfl, Cm.itBn (fun e => ?_) fun _ => ⟨_, _, _, _, rfl, sI.trans sK⟩⟩
        rw [show bs.all id = true from List.all_eq_true.mpr fun b hb => ab b hb] at e
        cases e
    · subst e
      dsimp only [tNext, tSeq, tAsg, tRet]
      have rvI := rvJ.keep (Same.tups sI)
      have sz : ("Z" : Str).length ≤ 1000 ∧ ("A" : Str).length ≤ 1000 ∧ ("M0" : Str).length ≤ 1000 ∧ ("int" : Str).length ≤ 1000 := by decide +kernel
      have so : PyData.strOk "Z" = true ∧ PyData.strOk "A" = true ∧ PyData.strOk "M0" = true ∧ PyData.strOk "int" = true := by decide +kernel
      have z1 : ("Z" : Str) ∉ lets6 ++ mkN := by decide +kernel
      have z2 : ("M0" : Str) ∉ lets6 := by decide +kernel
      have z3 : ("int" : Str) ∉ lets6 := by decide +kernel
      have subI : ∀ x ∈ nms igs, x ∈ lets6 := fun x hx => by
        rw [pg.nm] at hx
        exact List.mem_of_mem_take hx
      have subA : ∀ x ∈ nms igs ++ nms mks, x ∈ lets6 ++ mkN := fun x hx => by
        rcases List.mem_append.mp hx with hx | hx
        · exact List.mem_append.mpr (.inl (subI x hx))
        · rw [pg.mn] at hx
          exact List.mem_append.mpr (.inr (List.mem_of_mem_take hx))
      refine ⟨_, rfl, _, "Z", "A", igs, mks, lawB, rfl, rvI, tbi, tbm, sz.1, sz.2.1, so.1, so.2.1, (fun h => z1 (subA _ h.1)), fun E1 e1 => ⟨true, rfl, ?_⟩⟩
      rw [if_pos rfl]
      refine ⟨_, rfl, _, "A", "M0", igs, mks, lawB, rfl, rvI.keep (Same.tups e1), tbi, tbm, sz.2.1, sz.2.2.1, so.2.1, so.2.2.1, (fun h => z2 (subI _ h.2)), fun E2 e2 => ⟨true, rfl, ?_⟩⟩
      rw [if_pos rfl]
      exact ⟨_, rfl, _, "A", "int", igs, mks, lawB, rfl, (rvI.keep (Same.tups e1)).keep (Same.tups e2), tbi, tbm, sz.2.1, sz.2.2.2, so.2.1, so.2.2.2, (fun h => z3 (subI _ h.2)), fun E3 e3 => q _⟩
def fn : List He.DefD := [⟨("operations_of", none), "operations_of", "operations_of", defArgs s_operations_of, defBody s_operations_of, defScope s_operations_of, [], []⟩,
  ⟨("relation", none), "relation", "relation", defArgs s_relation, defBody s_relation, defScope s_relation, [], []⟩,
  ⟨("conforms", none), "conforms", "conforms", defArgs s_conforms, defBody s_conforms, defScope s_conforms, [], []⟩,
  ⟨("_greatest", none), "_greatest", "_greatest", defArgs s_greatest, defBody s_greatest, defScope s_greatest, [], []⟩,
  ⟨("_conforms", none), "_conforms", "_conforms", defArgs s_u_conforms, defBody s_u_conforms, defScope s_u_conforms, [], []⟩,
  ⟨("_stands_for", none), "_stands_for", "_stands_for", defArgs s_stands_for, defBody s_stands_for, defScope s_stands_for, [], []⟩,
  ⟨("_kind_conforms", none), "_kind_conforms", "_kind_conforms", defArgs s_kind_conforms, defBody s_kind_conforms, defScope s_kind_conforms, [], []⟩,
  ⟨("_law_row", none), "_law_row", "_law_row", defArgs s_lw_row, defBody s_lw_row, defScope s_lw_row, [], []⟩,
  ⟨("_law_at", none), "_law_at", "_law_at", defArgs s_lw_at, defBody s_lw_at, defScope s_lw_at, [], []⟩,
  ⟨("_law_operations", none), "_law_operations", "_law_operations", defArgs s_lw_operations, defBody s_lw_operations, defScope s_lw_operations, [], []⟩,
  ⟨("_law_program", none), "_law_program", "_law_program", defArgs s_lw_program, defBody s_lw_program, defScope s_lw_program, [], []⟩,
  ⟨("_law_table", none), "_law_table", "_law_table", defArgs s_lw_table, defBody s_lw_table, defScope s_lw_table, [], []⟩,
  ⟨("_law_ok", none), "_law_ok", "_law_ok", defArgs s_lw_ok, defBody s_lw_ok, defScope s_lw_ok, [], []⟩,
  ⟨("_law_holds", none), "_law_holds", "_law_holds", defArgs s_lw_holds, defBody s_lw_holds, defScope s_lw_holds, [], []⟩,
  ⟨("_law_greatest", none), "_law_greatest", "_law_greatest", defArgs s_lw_greatest, defBody s_lw_greatest, defScope s_lw_greatest, [], []⟩,
  ⟨("_law_missing", none), "_law_missing", "_law_missing", defArgs s_lw_missing, defBody s_lw_missing, defScope s_lw_missing, [], []⟩,
  ⟨("law", none), "law", "law", defArgs s_law, defBody s_law, defScope s_law, [], []⟩]
def fas : List He.Fa := [.glo "operations_of", .glo "relation", .glo "conforms", .glo "_greatest", .glo "_conforms", .glo "_stands_for", .glo "_kind_conforms", .glo "_law_row", .glo "_law_at", .glo "_law_operations", .glo "_law_program", .glo "_law_table", .glo "_law_ok", .glo "_law_holds", .glo "_law_greatest", .glo "_law_missing", .glo "law", .glo "PortError", .glo "NotAllowed", .glo "Missing", .free "tuple", .free "len", .free "list", .free "sorted", .free "any", .free "all", .free "zip", .free "range", .free "abs", .free "int", .free "str", .free "isinstance", .free "reversed"]
def tabs : List He.Tab := []
def okX (K : PySem.W.Frag) : Bool := PySem.W.excIn K (He.ga K "Missing") [.type "ValueError", .type "Exception", .type "BaseException", .type "object"] "ValueError.__new__" && (PySem.W.keepIn K (.ref (He.ga K "Missing")) && ((PySem.W.subIn K (.ref (He.ga K "Missing")) (.type "BaseException") == some true) && ((PySem.W.typeIn K (.ref (He.ga K "Missing")) == some (.type "type")) && ((PySem.W.findIn K (.ref (He.ga K "Missing")) "__getattribute__" == some (some (.builtin "BaseException.__getattribute__"))) && ((PySem.W.findIn K (.ref (He.ga K "Missing")) "__getattr__" == some none) && (PySem.W.hasDictIn K (He.ga K "Missing") && ((PySem.W.findIn K (.ref (He.ga K "Missing")) "__class__" == some (some (.builtin "object.__class__"))) && ((PySem.W.specialIn K (.builtin "object.__class__") "__get__" == some (some (.builtin "getset_descriptor.__get__"))) && ((PySem.W.takesIn K (.builtin "object.__class__") == some true) && ((PySem.W.mroIn K (He.ga K "Missing") (.type "object") == some true) && ((PySem.W.exmOne K (.ref (He.ga K "Missing")) (.ref (He.ga K "Missing")) == some true) && ((PySem.W.kitOne K (.ref (He.ga K "Missing")) (.ref (He.ga K "PortError")) == some true) && ((PySem.W.kitOne K (.ref (He.ga K "Missing")) (.ref (He.ga K "NotAllowed")) == some false))))))))))))))
abbrev R : PySem.W.OpenRow := PySem.W.OpenLaw.row PySem.Challenge.rw_portage_k04_whole_conformity
abbrev hk : PySem.W.Hook := Cm.hookX 4 fas fn tabs okX
def ob (s : PySem.W.SharedT) : Cm.AlX := Cm.obsXG 4 fas fn tabs okX (HandSHeadRun.getT s)
theorem ob_eq (s : PySem.W.SharedT) : ob s = hk.obs s.abs := Cm.obsXG_eq (HandSHeadRun.getT_eq s)
abbrev loose : List Str := (["PortError", "NotAllowed", "Missing", "operations_of", "relation", "conforms", "_greatest", "_conforms", "_stands_for", "_kind_conforms", "_law_row", "_law_at", "_law_operations", "_law_program", "_law_table", "_law_ok", "_law_holds", "_law_greatest", "_law_missing"] : List Str)
theorem run (w : World) : HandSHeadRun.RunEq R (PySem.W.view R.prog [22]) hk ob 4000 loose w := by
  intro os
  kernel_rfl
theorem facts {P : Program} {w : World} {K : PySem.W.Frag} {h : Heap} {mg : Str → Option Value} {f : Addr} (X : K.In h) (G : h.Ns mainGlobals mg) (hfa : mg ("law" : Str) = some (.ref f)) (ok : okX K = true) (c : He.SaysT fas fn tabs w K) :
    ∃ fd : FuncData, (∀ (s : Shared) (v : Value), BindsTo s fd ⟨[v], []⟩ [("script", v)]) ∧ ∀ base : Heap, K.In base → base.Ns mainGlobals mg → FnOk P w K mg base CX0 8 f fd ["script"] (spLaw K) := by
  obtain ⟨d_operations_of, F_operations_of⟩ := c.d.def_ 0 rfl
  obtain ⟨d_relation, F_relation⟩ := c.d.def_ 1 rfl
  obtain ⟨d_conforms, F_conforms⟩ := c.d.def_ 2 rfl
  obtain ⟨d_greatest, F_greatest⟩ := c.d.def_ 3 rfl
  obtain ⟨d_u_conforms, F_u_conforms⟩ := c.d.def_ 4 rfl
  obtain ⟨d_stands_for, F_stands_for⟩ := c.d.def_ 5 rfl
  obtain ⟨d_kind_conforms, F_kind_conforms⟩ := c.d.def_ 6 rfl
  obtain ⟨d_lw_row, F_lw_row⟩ := c.d.def_ 7 rfl
  obtain ⟨d_lw_at, F_lw_at⟩ := c.d.def_ 8 rfl
  obtain ⟨d_lw_operations, F_lw_operations⟩ := c.d.def_ 9 rfl
  obtain ⟨d_lw_program, F_lw_program⟩ := c.d.def_ 10 rfl
  obtain ⟨d_lw_table, F_lw_table⟩ := c.d.def_ 11 rfl
  obtain ⟨d_lw_ok, F_lw_ok⟩ := c.d.def_ 12 rfl
  obtain ⟨d_lw_holds, F_lw_holds⟩ := c.d.def_ 13 rfl
  obtain ⟨d_lw_greatest, F_lw_greatest⟩ := c.d.def_ 14 rfl
  obtain ⟨d_lw_missing, F_lw_missing⟩ := c.d.def_ 15 rfl
  obtain ⟨d_law, F_law⟩ := c.d.def_ 16 rfl
  have e := hfa.symm.trans (He.glo_ok X G (c.d.fact 16 (f := .glo "law") rfl))
  cases e
  unfold okX at ok
  simp only [Bool.and_eq_true] at ok
  obtain ⟨o0, o1, o2, o3, o4, o5, o6, o7, o8, o9, o10, o11, o12, o13⟩ := ok
  have T : Txt K mg w ⟨d_operations_of, d_relation, d_conforms, d_greatest, d_u_conforms, d_stands_for, d_kind_conforms, d_lw_row, d_lw_at, d_lw_operations, d_lw_program, d_lw_table, d_lw_ok, d_lw_holds, d_lw_greatest, d_lw_missing, d_law⟩ := {
    F_operations_of := F_operations_of
    b_operations_of := F_operations_of.bindsN (ps := ["part"]) fun _ _ _ _ _ _ us hl => match us, hl with | [_], _ => rfl
    g_operations_of := He.glo_ok X G (c.d.fact 0 (f := .glo "operations_of") rfl)
    F_relation := F_relation
    b_relation := F_relation.bindsN (ps := ["program"]) fun _ _ _ _ _ _ us hl => match us, hl with | [_], _ => rfl
    g_relation := He.glo_ok X G (c.d.fact 1 (f := .glo "relation") rfl)
    F_conforms := F_conforms
    b_conforms := F_conforms.bindsN (ps := ["program", "name", "interface"]) fun _ _ _ _ _ _ us hl => match us, hl with | [_, _, _], _ => rfl
    g_conforms := He.glo_ok X G (c.d.fact 2 (f := .glo "conforms") rfl)
    F_greatest := F_greatest
    b_greatest := F_greatest.bindsN (ps := ["interfaces"]) fun _ _ _ _ _ _ us hl => match us, hl with | [_], _ => rfl
    g_greatest := He.glo_ok X G (c.d.fact 3 (f := .glo "_greatest") rfl)
    F_u_conforms := F_u_conforms
    b_u_conforms := F_u_conforms.bindsN (ps := ["operations", "wanted", "held"]) fun _ _ _ _ _ _ us hl => match us, hl with | [_, _, _], _ => rfl
    g_u_conforms := He.glo_ok X G (c.d.fact 4 (f := .glo "_conforms") rfl)
    F_stands_for := F_stands_for
    b_stands_for := F_stands_for.bindsN (ps := ["operation", "goal", "held"]) fun _ _ _ _ _ _ us hl => match us, hl with | [_, _, _], _ => rfl
    g_stands_for := He.glo_ok X G (c.d.fact 5 (f := .glo "_stands_for") rfl)
    F_kind_conforms := F_kind_conforms
    b_kind_conforms := F_kind_conforms.bindsN (ps := ["kind", "goal", "held"]) fun _ _ _ _ _ _ us hl => match us, hl with | [_, _, _], _ => rfl
    g_kind_conforms := He.glo_ok X G (c.d.fact 6 (f := .glo "_kind_conforms") rfl)
    F_lw_row := F_lw_row
    b_lw_row := F_lw_row.bindsN (ps := ["script"]) fun _ _ _ _ _ _ us hl => match us, hl with | [_], _ => rfl
    g_lw_row := He.glo_ok X G (c.d.fact 7 (f := .glo "_law_row") rfl)
    F_lw_at := F_lw_at
    b_lw_at := F_lw_at.bindsN (ps := ["row", "at"]) fun _ _ _ _ _ _ us hl => match us, hl with | [_, _], _ => rfl
    g_lw_at := He.glo_ok X G (c.d.fact 8 (f := .glo "_law_at") rfl)
    F_lw_operations := F_lw_operations
    b_lw_operations := F_lw_operations.bindsN (ps := ["row", "at", "names"]) fun _ _ _ _ _ _ us hl => match us, hl with | [_, _, _], _ => rfl
    g_lw_operations := He.glo_ok X G (c.d.fact 9 (f := .glo "_law_operations") rfl)
    F_lw_program := F_lw_program
    b_lw_program := F_lw_program.bindsN (ps := ["row"]) fun _ _ _ _ _ _ us hl => match us, hl with | [_], _ => rfl
    g_lw_program := He.glo_ok X G (c.d.fact 10 (f := .glo "_law_program") rfl)
    F_lw_table := F_lw_table
    b_lw_table := F_lw_table.bindsN (ps := ["program"]) fun _ _ _ _ _ _ us hl => match us, hl with | [_], _ => rfl
    g_lw_table := He.glo_ok X G (c.d.fact 11 (f := .glo "_law_table") rfl)
    F_lw_ok := F_lw_ok
    b_lw_ok := F_lw_ok.bindsN (ps := ["first", "second", "pairs"]) fun _ _ _ _ _ _ us hl => match us, hl with | [_, _, _], _ => rfl
    g_lw_ok := He.glo_ok X G (c.d.fact 12 (f := .glo "_law_ok") rfl)
    F_lw_holds := F_lw_holds
    b_lw_holds := F_lw_holds.bindsN (ps := ["table", "pair", "pairs"]) fun _ _ _ _ _ _ us hl => match us, hl with | [_, _, _], _ => rfl
    g_lw_holds := He.glo_ok X G (c.d.fact 13 (f := .glo "_law_holds") rfl)
    F_lw_greatest := F_lw_greatest
    b_lw_greatest := F_lw_greatest.bindsN (ps := ["program"]) fun _ _ _ _ _ _ us hl => match us, hl with | [_], _ => rfl
    g_lw_greatest := He.glo_ok X G (c.d.fact 14 (f := .glo "_law_greatest") rfl)
    F_lw_missing := F_lw_missing
    b_lw_missing := F_lw_missing.bindsN (ps := ["program", "name", "interface"]) fun _ _ _ _ _ _ us hl => match us, hl with | [_, _, _], _ => rfl
    g_lw_missing := He.glo_ok X G (c.d.fact 15 (f := .glo "_law_missing") rfl)
    F_law := F_law
    b_law := F_law.bindsN (ps := ["script"]) fun _ _ _ _ _ _ us hl => match us, hl with | [_], _ => rfl
    g_law := He.glo_ok X G (c.d.fact 16 (f := .glo "law") rfl)
    g_PortError := He.glo_ok X G (c.d.fact 17 (f := .glo "PortError") rfl)
    g_NotAllowed := He.glo_ok X G (c.d.fact 18 (f := .glo "NotAllowed") rfl)
    g_Missing := He.glo_ok X G (c.d.fact 19 (f := .glo "Missing") rfl)
    g_tuple := He.free_ok X G (c.d.fact 20 (f := .free "tuple") rfl)
    g_len := He.free_ok X G (c.d.fact 21 (f := .free "len") rfl)
    g_list := He.free_ok X G (c.d.fact 22 (f := .free "list") rfl)
    g_sorted := He.free_ok X G (c.d.fact 23 (f := .free "sorted") rfl)
    g_any := He.free_ok X G (c.d.fact 24 (f := .free "any") rfl)
    g_all := He.free_ok X G (c.d.fact 25 (f := .free "all") rfl)
    g_zip := He.free_ok X G (c.d.fact 26 (f := .free "zip") rfl)
    g_range := He.free_ok X G (c.d.fact 27 (f := .free "range") rfl)
    g_abs := He.free_ok X G (c.d.fact 28 (f := .free "abs") rfl)
    g_int := He.free_ok X G (c.d.fact 29 (f := .free "int") rfl)
    g_str := He.free_ok X G (c.d.fact 30 (f := .free "str") rfl)
    g_isinstance := He.free_ok X G (c.d.fact 31 (f := .free "isinstance") rfl)
    g_reversed := He.free_ok X G (c.d.fact 32 (f := .free "reversed") rfl)
    x_Missing := o0
    k_Missing := o1
    s_Missing := eq_of_beq o2
    t_Missing := eq_of_beq o3
    m1_ := eq_of_beq o4
    m2_ := eq_of_beq o5
    m4_ := o6
    m5_ := eq_of_beq o7
    m6_ := eq_of_beq o8
    m7_ := eq_of_beq o9
    m8_ := eq_of_beq o10
    e1_ := eq_of_beq o11
    e2_ := eq_of_beq o12
    e3_ := eq_of_beq o13
  }
  have b := Cm.bindsA_of (x := "law") (st := s_law) (ps := ["script"]) F_law fun _ _ _ _ _ _ us hl => match us, hl with | [_], _ => rfl
  exact ⟨d_law, fun s v => b s [v] rfl, fun base _ _ => ok_law T⟩
end K04
open PySem PySem.W PySem.Calls PyProof.Rows
set_option maxHeartbeats 0 in
theorem PySem.Challenge.cw_portage_k04_whole_conformity_holds : PySem.Challenge.rw_portage_k04_whole_conformity.Holds := by
  w_on; o_law
  refine HandSHeadRun.head_any (r := OpenLaw.row PySem.Challenge.rw_portage_k04_whole_conformity) (q := view (OpenLaw.row PySem.Challenge.rw_portage_k04_whole_conformity).prog [22]) (H := K04.hk) (ob := K04.ob) (M := 4000) (loose := K04.loose) (d := HandSHeadRun.topDef (OpenLaw.row PySem.Challenge.rw_portage_k04_whole_conformity).prog 22) (kwd := []) K04.ob_eq
    (by kernel_rfl) (fun s => by kernel_rfl) K04.run (by kernel_rfl) (by kernel_rfl) (by kernel_rfl) (by rfl) (by first | assumption | decide +kernel) (by decide +kernel) ⟨rfl, rfl, rfl, rfl, rfl, by decide +kernel⟩ ?hw ?hc
  case hw => w_witness2
  case hc =>
    refine L2.walk_ofE (l := PySem.Challenge.rw_portage_k04_whole_conformity) (n := 63) (k := 8) (x := "script") (CX := L2.CX0) rfl (by decide) (by kernel_rfl) ⟨rfl, by decide, by decide⟩ ?F (fun _ _ _ _ z => z)
    intro w mg fa h Y G hmg0
    obtain ⟨K, KX, ok, c⟩ := Y
    have hmg : mg ("law" : PySem.Str) = some (.ref fa) := by
      have e : (HandSHeadRun.topDef (OpenLaw.row PySem.Challenge.rw_portage_k04_whole_conformity).prog 22).name = ("law" : PySem.Str) := by kernel_rfl
      rw [← e]
      exact hmg0
    obtain ⟨fd, hb, hF⟩ := K04.facts (P := (PySem.Challenge.rw_portage_k04_whole_conformity).prog) (w := w) KX G hmg ok c
    exact ⟨K, fd, K04.spLaw K, KX, hb, fun H a ns hl _ hS => ⟨a, ns, rfl, hS, hl, fun _ => rfl⟩, hF⟩

