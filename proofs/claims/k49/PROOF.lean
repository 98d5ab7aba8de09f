import PyProof.Rows.All
import Wide.All
import OpenK.AllK
import Wide.FinOn
import KE.KStateDown
import Lean
import HandS.ForMost
import HandS.Defaults
import HandS.More
import HandS.Flow
import HandS.Style
import HandS.StrMore
import HandS.IsInst
import HandS.TupAny
import HandS.TupMul
import HandS.Head0
import HandS.Head1
import HandS.Head2
import HandS.HeadEnd
import HandS.HeadHook1
import HandS.HeadHook2
import HandS.HeadHook3
import KE.KeyNested
import PyProof.DictMoreH
import KE.KTupSum
import HandS.ExcOwn
import HandS.WordsExc
import HandS.ExcIs
import HandS.RaiseMore
import PySem.Challenge.RW_portage_k49_whole_ways_never_go_round
set_option Elab.async false
set_option linter.all false
set_option maxRecDepth 100000
set_option maxHeartbeats 4000000
/-! What my proofs have in common: a Hook with one more test, and small words. -/
namespace Cm
open PySem PySem.Spec PyProof.Rows L2 He

abbrev FnP (K : PySem.W.Frag) (x : Str) (st : Stmt) (f : Addr) (fd : FuncData) : Prop := FunD K x x (defArgs st) (defBody st) (defScope st) [] [] f fd
theorem bindsA_of {K : PySem.W.Frag} {x : Str} {st : Stmt} {f : Addr} {fd : FuncData} {ps : List Str} (F : FnP K x st f fd)
    (h : ∀ (kV doc pm : Value) (an : Option Addr) (cdv ct : Value) (us : List Value), us.length = ps.length → bindArgs (PySem.W.fnOf x x (defArgs st) (defBody st) (defScope st) .none kV doc pm an cdv ct) ⟨us, []⟩ = pure (ps.zip us)) (s : Shared) (us : List Value) (hl : us.length = ps.length) : BindsTo s fd ⟨us, []⟩ (ps.zip us) := FunD.bindsA F h s us hl

/-! ### heaps that grow -/
theorem same_new {H : Hp} {p : Addr} {o : HO} (h : H p = none) : Same H (upd H p o) := fun b x e => by
  rw [upd_ne (ne_of_none e h)]
  exact e
theorem same_mut {H H' : Hp} {p : Addr} {o : HO} (s : Same H H') (h : H p = none) : Same H (upd H' p o) := fun b x e => by
  rw [upd_ne (ne_of_none e h)]
  exact s b x e
theorem sameT {K : PySem.W.Frag} {H H' : Hp} {a : Addr} {xs : List V} (s : Same H H') (h : SqT K H a xs) : SqT K H' a xs := by
  rcases h with (h | ⟨o, h⟩) | h
  · exact .inl (.inl (s _ _ h))
  · exact .inl (.inr ⟨o, s _ _ h⟩)
  · exact .inr h
theorem sqt_new {K : PySem.W.Frag} {H : Hp} {p : Addr} {xs : List V} : SqT K (upd H p (.tup xs)) p xs := .inl (.inl upd_same)
theorem sql_new {K : PySem.W.Frag} {H : Hp} {p : Addr} {xs : List V} : SqL K (upd H p (.lst xs)) p xs := .inl (.inl upd_same)
theorem small {n : Nat} (h : n ≤ 100000) : n ≤ sizeLine := by
  rw [sizeLine_eq]
  omega
theorem smallL {n : Nat} (h : n ≤ 100000) : n < sizeLine := by
  rw [sizeLine_eq]
  omega
/-! ### tests -/
theorem itV {x : Bool} {A B : Prop} (h1 : x = true → A) (h2 : x = false → B) : if (if false = true then !x else x) = true then A else B := by
  cases x
  · exact h2 rfl
  · exact h1 rfl
theorem itVn {x : Bool} {A B : Prop} (h1 : x = false → A) (h2 : x = true → B) : if (if true = true then !x else x) = true then A else B := by
  cases x
  · exact h1 rfl
  · exact h2 rfl
theorem itB {x : Bool} {A B : Prop} (h1 : x = true → A) (h2 : x = false → B) : if x = true then A else B := by
  cases x
  · exact h2 rfl
  · exact h1 rfl
theorem itBn {x : Bool} {A B : Prop} (h1 : x = false → A) (h2 : x = true → B) : if (!x) = true then A else B := by
  cases x
  · exact h1 rfl
  · exact h2 rfl
theorem itD {c : Prop} [Decidable c] {A B : Prop} (h1 : c → A) (h2 : ¬ c → B) : if decide c = true then A else B := by
  by_cases h : c
  · rw [if_pos (decide_eq_true h)]
    exact h1 h
  · rw [if_neg (by rw [decide_eq_false h]; decide)]
    exact h2 h
theorem itDn {c : Prop} [Decidable c] {A B : Prop} (h1 : ¬ c → A) (h2 : c → B) : if (!decide c) = true then A else B := by
  by_cases h : c
  · rw [if_neg (by rw [decide_eq_true h]; decide)]
    exact h2 h
  · rw [if_pos (by rw [decide_eq_false h]; rfl)]
    exact h1 h
theorem deq_int {i j : Int} : decide (V.int i = V.int j) = decide (i = j) := by
  by_cases h : i = j
  · rw [h, decide_eq_true rfl, decide_eq_true rfl]
  · rw [decide_eq_false h, decide_eq_false fun e => h (V.int.inj e)]
theorem deq_str {x y : Str} : decide (V.str x = V.str y) = decide (x = y) := by
  by_cases h : x = y
  · rw [h, decide_eq_true rfl, decide_eq_true rfl]
  · rw [decide_eq_false h, decide_eq_false fun e => h (V.str.inj e)]
theorem deq_bl {x y : Bool} : decide (V.bl x = V.bl y) = decide (x = y) := by
  by_cases h : x = y
  · rw [h, decide_eq_true rfl, decide_eq_true rfl]
  · rw [decide_eq_false h, decide_eq_false fun e => h (V.bl.inj e)]
theorem itEI {x y : Int} {A B : Prop} (h1 : x = y → A) (h2 : ¬ x = y → B) : if decide (V.int x = V.int y) = true then A else B := by
  rw [deq_int]
  exact itD h1 h2
theorem itES {x y : Str} {A B : Prop} (h1 : x = y → A) (h2 : ¬ x = y → B) : if decide (V.str x = V.str y) = true then A else B := by
  rw [deq_str]
  exact itD h1 h2
theorem itNI {x y : Int} {A B : Prop} (h1 : ¬ x = y → A) (h2 : x = y → B) : if (!decide (V.int x = V.int y)) = true then A else B := by
  rw [deq_int]
  exact itDn h1 h2
theorem itNS {x y : Str} {A B : Prop} (h1 : ¬ x = y → A) (h2 : x = y → B) : if (!decide (V.str x = V.str y)) = true then A else B := by
  rw [deq_str]
  exact itDn h1 h2
theorem str_nil {z : Str} (h : z.cps.toList = []) : z = ⟨#[]⟩ := by
  obtain ⟨c⟩ := z
  have e : c = #[] := by simpa using h
  rw [e]
/-! ### items -/
theorem at_in {xs : List V} {i : Int} (h0 : 0 ≤ i) (h1 : i < (xs.length : Int)) : ∃ v, v ∈ xs ∧ atI xs i = some v := by
  obtain ⟨j, rfl⟩ := Int.eq_ofNat_of_zero_le h0
  have h2 : j < xs.length := by omega
  exact ⟨xs[j], List.getElem_mem h2, atI_nat (List.getElem?_eq_getElem h2)⟩
theorem at_str {ws : List Str} {i : Int} (h0 : 0 ≤ i) (h1 : i < (ws.length : Int)) : ∃ w, w ∈ ws ∧ atI (ws.map V.str) i = some (.str w) := by
  obtain ⟨v, hv, e⟩ := at_in (xs := ws.map V.str) h0 (by rw [List.length_map]; exact h1)
  obtain ⟨w, hw, rfl⟩ := List.mem_map.mp hv
  exact ⟨w, hw, e⟩
theorem at_int {ns : List Int} {i : Int} (h0 : 0 ≤ i) (h1 : i < (ns.length : Int)) : ∃ n, n ∈ ns ∧ atI (ns.map V.int) i = some (.int n) := by
  obtain ⟨v, hv, e⟩ := at_in (xs := ns.map V.int) h0 (by rw [List.length_map]; exact h1)
  obtain ⟨n, hn, rfl⟩ := List.mem_map.mp hv
  exact ⟨n, hn, e⟩
/-! ### a Hook with one more test -/
abbrev AlX : Type := Bool × AlT
def obsX (fa : List Fa) (fn : List DefD) (ts : List Tab) (ok : PySem.W.Frag → Bool) (K : PySem.W.Frag) : AlX := (ok K, obsT fa fn ts K)
def obsXG (n : Nat) (fa : List Fa) (fn : List DefD) (ts : List Tab) (ok : PySem.W.Frag → Bool) (g : Addr → Option Obj) : AlX := obsX fa fn ts ok (frG g (asD g n))
def hookX (n : Nat) (fa : List Fa) (fn : List DefD) (ts : List Tab) (ok : PySem.W.Frag → Bool) : PySem.W.Hook where
  α := AlX
  obs := fun s => obsXG n fa fn ts ok s.heap.get?
  val := fun w => (true, valT fn ts w)
  says := fun w h => ∃ K : PySem.W.Frag, K.In h ∧ ok K = true ∧ SaysT fa fn ts w K
  of := fun w s e => ⟨frG s.heap.get? (asD s.heap.get? n), frG_in, congrArg (fun z : AlX => z.1) e, congrArg (fun z : AlX => z.2) e⟩
  keeps := fun _ _ _ ⟨K, hK, o, c⟩ k => ⟨K, PySem.W.Frag.In.keeps hK k, o, c⟩
theorem obsXG_eq {n : Nat} {fa : List Fa} {fn : List DefD} {ts : List Tab} {ok : PySem.W.Frag → Bool} {g : Addr → Option Obj} {s : Shared} (h : ∀ a, g a = s.heap.get? a) : obsXG n fa fn ts ok g = (hookX n fa fn ts ok).obs s := by
  have e : g = s.heap.get? := funext h
  rw [e] <;> rfl
end Cm

set_option Elab.async false
set_option linter.all false
set_option maxRecDepth 100000
set_option maxHeartbeats 4000000
/-! Program trees: expressions, statements, what they are as data, their code. No word of any one statement here. -/
namespace Pt
open PySem PySem.Spec PyProof.Rows L2

/-! ### data that never changes: numbers, texts, truth values, tuples of such -/
mutual
inductive Rp (K : PySem.W.Frag) (H : Hp) : V → PyData → Prop
  | non : Rp K H .non .none
  | bl (b : Bool) : Rp K H (.bl b) (.bool b)
  | int (i : Int) : Rp K H (.int i) (.int i)
  | str (x : Str) : Rp K H (.str x) (.str x)
  | tup {a : Addr} {xs : List V} {ds : List PyData} : SqT K H a xs → Rps K H xs ds → Rp K H (.ref a) (.tuple ds)
inductive Rps (K : PySem.W.Frag) (H : Hp) : List V → List PyData → Prop
  | nil : Rps K H [] []
  | cons {v : V} {vs : List V} {d : PyData} {ds : List PyData} : Rp K H v d → Rps K H vs ds → Rps K H (v :: vs) (d :: ds)
end
/-- all that was tracked stays, but what stands at c -/
def Keep (c : Addr) (H H' : Hp) : Prop := ∀ b o, H b = some o → b ≠ c → H' b = some o
theorem Keep.refl (c : Addr) (H : Hp) : Keep c H H := fun _ _ h _ => h
theorem Keep.trans {c : Addr} {H H1 H2 : Hp} (a : Keep c H H1) (b : Keep c H1 H2) : Keep c H H2 := fun x o h n => b x o (a x o h n) n
theorem Keep.of {c : Addr} {H H' : Hp} (s : Same H H') : Keep c H H' := fun b o h _ => s b o h
/-- what was tracked and is no list stays -/
def Tups (H H' : Hp) : Prop := ∀ b o, H b = some o → (∀ xs, o ≠ .lst xs) → H' b = some o
theorem Same.tups {H H' : Hp} (s : Same H H') : Tups H H' := fun b o h _ => s b o h
theorem Keep.tups {c : Addr} {H H' : Hp} {xs : List V} (k : Keep c H H') (h : H c = some (.lst xs)) : Tups H H' := fun b o hb no => k b o hb fun e => by
  subst e
  rw [h] at hb
  exact no xs (Option.some.inj hb).symm
section
variable {K : PySem.W.Frag} {H H' : Hp}
theorem Tups.sqt (k : Tups H H') {a : Addr} {xs : List V} (h : SqT K H a xs) : SqT K H' a xs := by
  rcases h with (h | ⟨o, h⟩) | h
  · exact .inl (.inl (k _ _ h fun _ e => by cases e))
  · exact .inl (.inr ⟨o, k _ _ h fun _ e => by cases e⟩)
  · exact .inr h
mutual
theorem Rp.keep (k : Tups H H') : ∀ {v : V} {d : PyData}, Rp K H v d → Rp K H' v d
  | _, _, .non => .non
  | _, _, .bl b => .bl b
  | _, _, .int i => .int i
  | _, _, .str x => .str x
  | _, _, .tup h r => .tup (k.sqt h) (Rps.keep k r)
theorem Rps.keep (k : Tups H H') : ∀ {vs : List V} {ds : List PyData}, Rps K H vs ds → Rps K H' vs ds
  | _, _, .nil => .nil
  | _, _, .cons h r => .cons (Rp.keep k h) (Rps.keep k r)
end
mutual
theorem Rp.dp : ∀ {v : V} {d : PyData}, Rp K H v d → Dp K H v d
  | _, _, .non => .non
  | _, _, .bl b => .bl b
  | _, _, .int i => .int i
  | _, _, .str x => .str x
  | _, _, .tup h r => .tup h (Rps.dp r)
theorem Rps.dp : ∀ {vs : List V} {ds : List PyData}, Rps K H vs ds → DpAll K H vs ds
  | _, _, .nil => .nil
  | _, _, .cons h r => .cons (Rp.dp h) (Rps.dp r)
end
theorem Rps.len : ∀ {vs : List V} {ds : List PyData}, Rps K H vs ds → vs.length = ds.length
  | _, _, .nil => rfl
  | _, _, .cons _ r => congrArg (· + 1) (Rps.len r)
theorem Rps.app : ∀ {vs us : List V} {ds es : List PyData}, Rps K H vs ds → Rps K H us es → Rps K H (vs ++ us) (ds ++ es)
  | _, _, _, _, .nil, r => r
  | _, _, _, _, .cons h r, s => .cons h (Rps.app r s)
theorem Rps.at_ : ∀ {vs : List V} {ds : List PyData} {i : Nat} {d : PyData}, Rps K H vs ds → ds[i]? = some d → ∃ v, vs[i]? = some v ∧ Rp K H v d
  | _, _, 0, _, .cons h _, e => ⟨_, rfl, by cases e; exact h⟩
  | _, _, i + 1, _, .cons _ r, e => Rps.at_ (i := i) r e
theorem Rps.drop : ∀ {vs : List V} {ds : List PyData} (n : Nat), Rps K H vs ds → Rps K H (vs.drop n) (ds.drop n)
  | _, _, 0, r => r
  | _, _, _ + 1, .nil => .nil
  | _, _, n + 1, .cons _ r => Rps.drop n r
theorem Rps.take : ∀ {vs : List V} {ds : List PyData} (n : Nat), Rps K H vs ds → Rps K H (vs.take n) (ds.take n)
  | _, _, 0, _ => .nil
  | _, _, _ + 1, .nil => .nil
  | _, _, n + 1, .cons h r => .cons h (Rps.take n r)
theorem Rps.one {v : V} {d : PyData} (h : Rp K H v d) : Rps K H [v] [d] := .cons h .nil
theorem Rp.tup_inv {v : V} {ds : List PyData} (h : Rp K H v (.tuple ds)) : ∃ a vs, v = .ref a ∧ SqT K H a vs ∧ Rps K H vs ds := by
  cases h with
  | tup h r => exact ⟨_, _, rfl, h, r⟩
theorem Rp.str_inv {v : V} {x : Str} (h : Rp K H v (.str x)) : v = .str x := by
  cases h
  rfl
theorem Rp.int_inv {v : V} {i : Int} (h : Rp K H v (.int i)) : v = .int i := by
  cases h
  rfl
theorem Rp.bl_inv {v : V} {b : Bool} (h : Rp K H v (.bool b)) : v = .bl b := by
  cases h
  rfl
theorem Rps.cons_inv {vs : List V} {d : PyData} {ds : List PyData} (h : Rps K H vs (d :: ds)) : ∃ v r, vs = v :: r ∧ Rp K H v d ∧ Rps K H r ds := by
  cases h with
  | cons a b => exact ⟨_, _, rfl, a, b⟩
theorem Rps.nil_inv {vs : List V} (h : Rps K H vs []) : vs = [] := by
  cases h
  rfl
theorem Rp.new {p : Addr} {vs : List V} {ds : List PyData} (h : H' p = some (.tup vs)) (r : Rps K H' vs ds) : Rp K H' (.ref p) (.tuple ds) := .tup (.inl (.inl h)) r
/-- a new tuple of what stood before -/
theorem Rp.made {p : Addr} {vs : List V} {ds : List PyData} (hp : H p = none) (r : Rps K H vs ds) : Rp K (upd H p (.tup vs)) (.ref p) (.tuple ds) := .tup (.inl (.inl upd_same)) (r.keep (Same.tups (Cm.same_new hp)))
/-- a list stays where its content is another than c's -/
theorem Keep.seq {c a : Addr} {xs ys : List V} (k : Keep c H H') (hc : H c = some (.lst ys)) (ne : xs ≠ ys) (h : SqL K H a xs) : SqL K H' a xs := by
  rcases h with (h | ⟨o, h⟩) | h
  · refine .inl (.inl (k _ _ h fun e => ?_))
    rw [e, hc] at h
    cases h
    exact ne rfl
  · refine .inl (.inr ⟨o, k _ _ h fun e => ?_⟩)
    rw [e, hc] at h
    cases h
  · exact .inr h
end

/-- tuple + tuple -/
theorem cat_rp {K : PySem.W.Frag} {H : Hp} {x y : V} {ds es : List PyData} {Q : VK} (hx : Rp K H x (.tuple ds)) (hy : Rp K H y (.tuple es)) (hl : ds.length + es.length ≤ 10000000) (h : ∀ (v : V) (H' : Hp), Same H H' → Rp K H' v (.tuple (ds ++ es)) → Q v H') : rCatA K x y H Q := by
  obtain ⟨a, xs, rfl, ha, hxs⟩ := hx.tup_inv
  obtain ⟨b, ys, rfl, hb, hys⟩ := hy.tup_inv
  refine ⟨a, b, xs, ys, rfl, rfl, ha, hb, ?_, fun e => ?_, fun _ e => ?_, fun _ _ p np => ?_⟩
  · rw [hxs.len, hys.len, sizeLine_eq]
    omega
  · subst e
    cases hxs
    exact h _ _ (Same.refl H) hy
  · subst e
    cases hys
    rw [List.append_nil] at h
    exact h _ _ (Same.refl H) hx
  · exact h _ _ (Cm.same_new np) (Rp.made np (hxs.app hys))
/-- a tuple from a place on -/
theorem from_rp {K : PySem.W.Frag} {H : Hp} {x : V} {ds : List PyData} {k : Nat} {Q : VK} (hx : Rp K H x (.tuple ds)) (hk : k ≤ ds.length) (h : ∀ (v : V) (H' : Hp), Same H H' → Rp K H' v (.tuple (ds.drop k)) → Q v H') : rSlA K x (some (k : Int)) none H Q := by
  obtain ⟨a, xs, rfl, ha, hxs⟩ := hx.tup_inv
  have hl := hxs.len
  have e0 : HT.sIx xs.length 0 (some (k : Int)) = k := by
    rw [show HT.sIx xs.length 0 (some (k : Int)) = min k xs.length from HT.sIx_nat _ 0 k]
    omega
  refine ⟨a, xs, rfl, ha, fun e => ?_, fun _ p np => ?_⟩
  · have z := e.1
    rw [e0] at z
    subst z
    exact h _ _ (Same.refl H) hx
  · have ec : cutV xs (some (k : Int)) none = xs.drop k := by
      unfold cutV
      rw [e0, HT.sIx_none]
      exact List.take_of_length_le (by rw [List.length_drop]; exact Nat.le_refl _)
    rw [ec]
    exact h _ _ (Cm.same_new np) (Rp.made np (hxs.drop k))
/-! ### equality of data is reflexive; its form -/
/-- numbers, texts, truth values, None -/
def leafD : PyData → Bool
  | .none => true
  | .bool _ => true
  | .int _ => true
  | .str _ => true
  | _ => false

/-! ### expressions and statements -/
mutual
inductive E where
  | int (n : Int)
  | name (x : Str)
  | choice (o : Bool) (l r : E)
  | call (r : E) (f : Str) (as : Es)
  | new (m : Str) (as : Es)
  | plain (w : Str) (as : Es)
inductive Es where
  | nil
  | cons (e : E) (es : Es)
end
mutual
inductive S where
  | letS (x k : Str) (e : E)
  | setS (x : Str) (e : E)
  | ifS (e : E) (b c : Ss)
  | whileS (e : E) (b : Ss)
  | doS (e : E)
  | fork (r : E) (f : Str) (as : Es)
  | plain (w : Str) (as : Es)
inductive Ss where
  | nil
  | cons (s : S) (ss : Ss)
end
def cw (o : Bool) : Str := if o then "or" else "and"
mutual
def E.d : E → PyData
  | .int n => .tuple [.str "int", .int n]
  | .name x => .tuple [.str "name", .str x]
  | .choice o l r => .tuple [.str (cw o), l.d, r.d]
  | .call r f as => .tuple [.str "call", r.d, .str f, .tuple as.ds]
  | .new m as => .tuple [.str "new", .str m, .tuple as.ds]
  | .plain w as => .tuple (.str w :: as.ds)
def Es.ds : Es → List PyData
  | .nil => []
  | .cons e es => e.d :: es.ds
end
mutual
def S.d : S → PyData
  | .letS x k e => .tuple [.str "let", .str x, .str k, e.d]
  | .setS x e => .tuple [.str "set", .str x, e.d]
  | .ifS e b c => .tuple [.str "if", e.d, .tuple b.ds, .tuple c.ds]
  | .whileS e b => .tuple [.str "while", e.d, .tuple b.ds]
  | .doS e => .tuple [.str "do", e.d]
  | .fork r f as => .tuple [.str "fork", r.d, .str f, .tuple as.ds]
  | .plain w as => .tuple (.str w :: as.ds)
def Ss.ds : Ss → List PyData
  | .nil => []
  | .cons s ss => s.d :: ss.ds
end
def Es.list : Es → List E
  | .nil => []
  | .cons e es => e :: es.list
def Ss.list : Ss → List S
  | .nil => []
  | .cons s ss => s :: ss.list
def Ss.of : List S → Ss
  | [] => .nil
  | s :: ss => .cons s (Ss.of ss)
def Ss.app : Ss → Ss → Ss
  | .nil, c => c
  | .cons s b, c => .cons s (b.app c)
def Es.len : Es → Nat
  | .nil => 0
  | .cons _ es => es.len + 1
theorem Es.ds_len : ∀ es : Es, es.ds.length = es.len
  | .nil => rfl
  | .cons _ es => congrArg (· + 1) (Es.ds_len es)
theorem Es.list_ds : ∀ es : Es, es.ds = es.list.map E.d
  | .nil => rfl
  | .cons _ es => congrArg (_ :: ·) (Es.list_ds es)
theorem Ss.list_ds : ∀ es : Ss, es.ds = es.list.map S.d
  | .nil => rfl
  | .cons _ es => congrArg (_ :: ·) (Ss.list_ds es)
theorem Ss.app_ds : ∀ b c : Ss, (b.app c).ds = b.ds ++ c.ds
  | .nil, _ => rfl
  | .cons _ b, c => congrArg (_ :: ·) (Ss.app_ds b c)
theorem Ss.app_list : ∀ b c : Ss, (b.app c).list = b.list ++ c.list
  | .nil, _ => rfl
  | .cons _ b, c => congrArg (_ :: ·) (Ss.app_list b c)
theorem Ss.of_list : ∀ l : List S, (Ss.of l).list = l
  | [] => rfl
  | _ :: l => congrArg (_ :: ·) (Ss.of_list l)
/-! ### the names that are used; the names of lets -/
mutual
def E.uses : E → List Str
  | .int _ => []
  | .name x => [x]
  | .choice _ l r => l.uses ++ r.uses
  | .call r _ as => r.uses ++ as.uses
  | .new _ as => as.uses
  | .plain _ as => as.uses
def Es.uses : Es → List Str
  | .nil => []
  | .cons e es => e.uses ++ es.uses
end
mutual
def S.uses : S → List Str
  | .letS x _ e => x :: e.uses
  | .setS x e => x :: e.uses
  | .ifS e b c => e.uses ++ (b.uses ++ c.uses)
  | .whileS e b => e.uses ++ b.uses
  | .doS e => e.uses
  | .fork r _ as => r.uses ++ as.uses
  | .plain _ as => as.uses
def Ss.uses : Ss → List Str
  | .nil => []
  | .cons s ss => s.uses ++ ss.uses
end
mutual
def S.lets : S → List Str
  | .letS x _ _ => [x]
  | .ifS _ b c => b.lets ++ c.lets
  | .whileS _ b => b.lets
  | _ => []
def Ss.lets : Ss → List Str
  | .nil => []
  | .cons s ss => s.lets ++ ss.lets
end
theorem Ss.app_lets : ∀ b c : Ss, (b.app c).lets = b.lets ++ c.lets
  | .nil, _ => rfl
  | .cons s b, c => by
    show s.lets ++ (b.app c).lets = (s.lets ++ b.lets) ++ c.lets
    rw [Ss.app_lets b c, List.append_assoc]
theorem Ss.app_uses : ∀ b c : Ss, (b.app c).uses = b.uses ++ c.uses
  | .nil, _ => rfl
  | .cons s b, c => by
    show s.uses ++ (b.app c).uses = (s.uses ++ b.uses) ++ c.uses
    rw [Ss.app_uses b c, List.append_assoc]
/-! ### words in their places -/
abbrev plainE : List Str := ["nil", "self", "add", "sub", "mul", "less", "most", "same", "not"]
abbrev leafE : List Str := ["nil", "self"]
def Es.isNil : Es → Bool
  | .nil => true
  | .cons _ _ => false
abbrev plainB : List Str := ["return", "print", "move"]
/-- how many parts stand behind a word -/
def arE (w : Str) : Nat := if w ∈ leafE then 0 else if w = "not" then 1 else 2
def arB (w : Str) : Nat := if w = "move" then 2 else 1
mutual
def E.wf : E → Bool
  | .int _ => true
  | .name _ => true
  | .choice _ l r => l.wf && r.wf
  | .call r _ as => r.wf && as.wf
  | .new _ as => as.wf
  | .plain w as => (decide (w ∈ plainE) && decide (as.len = arE w)) && as.wf
def Es.wf : Es → Bool
  | .nil => true
  | .cons e es => e.wf && es.wf
end
mutual
def S.wf : S → Bool
  | .letS _ _ e => e.wf
  | .setS _ e => e.wf
  | .ifS e b c => e.wf && (b.wf && c.wf)
  | .whileS e b => e.wf && b.wf
  | .doS e => e.wf
  | .fork r _ as => r.wf && as.wf
  | .plain w as => (decide (w ∈ plainB) && decide (as.len = arB w)) && as.wf
def Ss.wf : Ss → Bool
  | .nil => true
  | .cons s ss => s.wf && ss.wf
end
theorem Ss.app_wf : ∀ b c : Ss, (b.app c).wf = (b.wf && c.wf)
  | .nil, _ => rfl
  | .cons s b, c => by
    show (s.wf && (b.app c).wf) = ((s.wf && b.wf) && c.wf)
    rw [Ss.app_wf b c, Bool.and_assoc]
theorem and2 {a b : Bool} (h1 : a = true) (h2 : b = true) : (a && b) = true := by rw [h1, h2]; rfl
theorem wfP {w : Str} {e : E} {as : Es} (h1 : decide (w ∈ plainB) = true) (h3 : (Es.cons e as).len = arB w) (h2 : (Es.cons e as).wf = true) : (S.plain w (.cons e as)).wf = true := and2 (and2 h1 (decide_eq_true h3)) h2
theorem ar_nil {w : Str} (h : decide (0 = arE w) = true) : w ∈ leafE := by
  by_cases e : w ∈ leafE
  · exact e
  · have h' := of_decide_eq_true h
    unfold arE at h'
    rw [if_neg e] at h'
    split at h' <;> omega
theorem ar_some {w : Str} {n : Nat} (h : decide (n + 1 = arE w) = true) : ¬ w ∈ leafE := fun e => by
  have h' := of_decide_eq_true h
  unfold arE at h'
  rw [if_pos e] at h'
  omega
theorem wfW {e : E} {b : Ss} (h1 : e.wf = true) (h2 : b.wf = true) : (S.whileS e b).wf = true := and2 h1 h2
theorem wfC {e : E} {es : Es} (h1 : e.wf = true) (h2 : es.wf = true) : (Es.cons e es).wf = true := and2 h1 h2
theorem wfSs {e : S} {es : Ss} (h1 : e.wf = true) (h2 : es.wf = true) : (Ss.cons e es).wf = true := and2 h1 h2
/-! ### depth -/
mutual
def E.dep : E → Nat
  | .int _ => 0
  | .name _ => 0
  | .choice _ l r => max l.dep r.dep + 1
  | .call r _ as => max r.dep as.dep + 1
  | .new _ as => as.dep + 1
  | .plain _ as => as.dep + 1
def Es.dep : Es → Nat
  | .nil => 0
  | .cons e es => max e.dep es.dep
end
mutual
def S.dep : S → Nat
  | .letS _ _ e => e.dep + 1
  | .setS _ e => e.dep + 1
  | .ifS e b c => max e.dep (max b.dep c.dep) + 1
  | .whileS e b => max e.dep b.dep + 1
  | .doS e => e.dep + 1
  | .fork r _ as => max r.dep as.dep + 1
  | .plain _ as => as.dep + 1
def Ss.dep : Ss → Nat
  | .nil => 0
  | .cons s ss => max s.dep ss.dep
end
/-! ### the number of instructions -/
mutual
def E.sz : E → Nat
  | .int _ => 1
  | .name _ => 1
  | .choice o l r => l.sz + r.sz + (if o then 2 else 0) + 5
  | .call r _ as => r.sz + as.sz + 1
  | .new _ as => as.sz + 1
  | .plain _ as => as.sz + 1
def Es.sz : Es → Nat
  | .nil => 0
  | .cons e es => e.sz + es.sz
end
mutual
def S.sz : S → Nat
  | .letS _ _ e => e.sz + 1
  | .setS _ e => e.sz + 1
  | .ifS e b c => e.sz + 1 + b.sz + (match c with | .nil => 0 | .cons _ _ => 1) + c.sz
  | .whileS e b => e.sz + b.sz + 2
  | .doS e => e.sz + 1
  | .fork r _ as => r.sz + as.sz + 1
  | .plain _ as => as.sz + 1
def Ss.sz : Ss → Nat
  | .nil => 0
  | .cons s ss => s.sz + ss.sz
end
theorem Ss.app_dep : ∀ b c : Ss, (b.app c).dep = max b.dep c.dep
  | .nil, _ => (Nat.zero_max _).symm
  | .cons s b, c => by
    show max s.dep (b.app c).dep = max (max s.dep b.dep) c.dep
    rw [Ss.app_dep b c, Nat.max_assoc]
theorem Ss.app_sz : ∀ b c : Ss, (b.app c).sz = b.sz + c.sz
  | .nil, _ => (Nat.zero_add _).symm
  | .cons s b, c => by
    show s.sz + (b.app c).sz = (s.sz + b.sz) + c.sz
    rw [Ss.app_sz b c, Nat.add_assoc]
/-! ### code -/
def I1 (x : Str) : PyData := .tuple [.str x]
def I2 (x : Str) (n : Int) : PyData := .tuple [.str x, .int n]
def I3 (x y : Str) (n : Int) : PyData := .tuple [.str x, .str y, .int n]
/-- what turns the parts of an or -/
def tn (o : Bool) : List PyData := if o then [I1 "not"] else []
def kn (o : Bool) : Nat := if o then 1 else 0
def ends (o : Bool) (d : Nat) : List PyData := [I2 "push" (if o then 0 else 1), I2 "jump" ((d : Int) + 1), I2 "push" (if o then 1 else 0)]
abbrev Plc := Str → Str × Int
mutual
def E.code (pl : Plc) : E → Nat → List PyData
  | .int n, _ => [I2 "push" n]
  | .name x, _ => [I2 (pl x).1 (pl x).2]
  | .choice o l r, at_ => (l.code pl at_ ++ tn o) ++ [I2 "unless" ((at_ + l.sz + kn o + 1 + r.sz + kn o + 3 : Nat) : Int)] ++ (r.code pl (at_ + l.sz + kn o + 1) ++ tn o) ++ [I2 "unless" ((at_ + l.sz + kn o + 1 + r.sz + kn o + 3 : Nat) : Int)] ++ ends o (at_ + l.sz + kn o + 1 + r.sz + kn o + 3)
  | .call r f as, at_ => (r.code pl at_ ++ as.code pl (at_ + r.sz)) ++ [I3 "call" f as.len]
  | .new m as, at_ => as.code pl at_ ++ [I3 "new" m as.len]
  | .plain w as, at_ => as.code pl at_ ++ [I1 w]
def Es.code (pl : Plc) : Es → Nat → List PyData
  | .nil, _ => []
  | .cons e es, at_ => e.code pl at_ ++ es.code pl (at_ + e.sz)
end
mutual
def S.code (pl : Plc) : S → Nat → List PyData
  | .letS x _ e, at_ => e.code pl at_ ++ [I2 ("set" ++ (pl x).1) (pl x).2]
  | .setS x e, at_ => e.code pl at_ ++ [I2 ("set" ++ (pl x).1) (pl x).2]
  | .ifS e b .nil, at_ => e.code pl at_ ++ [I2 "unless" ((at_ + e.sz + 1 + b.sz : Nat) : Int)] ++ b.code pl (at_ + e.sz + 1)
  | .ifS e b (.cons s ss), at_ => e.code pl at_ ++ [I2 "unless" ((at_ + e.sz + 1 + b.sz + 1 : Nat) : Int)] ++ b.code pl (at_ + e.sz + 1) ++ [I2 "jump" ((at_ + e.sz + 1 + b.sz + 1 + (s.sz + ss.sz) : Nat) : Int)] ++
      (s.code pl (at_ + e.sz + 1 + b.sz + 1) ++ ss.code pl (at_ + e.sz + 1 + b.sz + 1 + s.sz))
  | .whileS e b, at_ => e.code pl at_ ++ [I2 "unless" ((at_ + e.sz + 1 + b.sz + 1 : Nat) : Int)] ++ b.code pl (at_ + e.sz + 1) ++ [I2 "jump" (at_ : Nat)]
  | .doS e, at_ => e.code pl at_ ++ [I1 "drop"]
  | .fork r f as, at_ => (r.code pl at_ ++ as.code pl (at_ + r.sz)) ++ [I3 "fork" f as.len]
  | .plain w as, at_ => as.code pl at_ ++ [I1 w]
def Ss.code (pl : Plc) : Ss → Nat → List PyData
  | .nil, _ => []
  | .cons s ss, at_ => s.code pl at_ ++ ss.code pl (at_ + s.sz)
end
theorem tn_len (o : Bool) : (tn o).length = kn o := by cases o <;> rfl
mutual
theorem E.code_len (pl : Plc) : ∀ (e : E) (a : Nat), (e.code pl a).length = e.sz
  | .int _, _ => rfl
  | .name _, _ => rfl
  | .choice o l r, a => by
    have h1 := E.code_len pl l a
    have h2 := E.code_len pl r (a + l.sz + kn o + 1)
    simp only [E.code, List.length_append, List.length_cons, List.length_nil, h1, h2, tn_len, ends, E.sz]
    cases o <;> simp [kn] <;> omega
  | .call r f as, a => by
    have h1 := E.code_len pl r a
    have h2 := Es.code_len pl as (a + r.sz)
    simp only [E.code, List.length_append, List.length_cons, List.length_nil, h1, h2, E.sz]
  | .new m as, a => by
    have h2 := Es.code_len pl as a
    simp only [E.code, List.length_append, List.length_cons, List.length_nil, h2, E.sz]
  | .plain w as, a => by
    have h2 := Es.code_len pl as a
    simp only [E.code, List.length_append, List.length_cons, List.length_nil, h2, E.sz]
theorem Es.code_len (pl : Plc) : ∀ (es : Es) (a : Nat), (es.code pl a).length = es.sz
  | .nil, _ => rfl
  | .cons e es, a => by
    have h1 := E.code_len pl e a
    have h2 := Es.code_len pl es (a + e.sz)
    simp only [Es.code, List.length_append, h1, h2, Es.sz]
end
mutual
theorem S.code_len (pl : Plc) : ∀ (s : S) (a : Nat), (s.code pl a).length = s.sz
  | .letS x k e, a => by simp only [S.code, List.length_append, List.length_cons, List.length_nil, E.code_len, S.sz]
  | .setS x e, a => by simp only [S.code, List.length_append, List.length_cons, List.length_nil, E.code_len, S.sz]
  | .ifS e b .nil, a => by
    have h := Ss.code_len pl b (a + e.sz + 1)
    simp only [S.code, List.length_append, List.length_cons, List.length_nil, E.code_len, h, S.sz, Ss.sz]
    omega
  | .ifS e b (.cons s ss), a => by
    have h := Ss.code_len pl b (a + e.sz + 1)
    have h1 := S.code_len pl s (a + e.sz + 1 + b.sz + 1)
    have h2 := Ss.code_len pl ss (a + e.sz + 1 + b.sz + 1 + s.sz)
    simp only [S.code, List.length_append, List.length_cons, List.length_nil, E.code_len, h, h1, h2, S.sz, Ss.sz]
  | .whileS e b, a => by
    have h := Ss.code_len pl b (a + e.sz + 1)
    simp only [S.code, List.length_append, List.length_cons, List.length_nil, E.code_len, h, S.sz]
    omega
  | .doS e, a => by simp only [S.code, List.length_append, List.length_cons, List.length_nil, E.code_len, S.sz]
  | .fork r f as, a => by simp only [S.code, List.length_append, List.length_cons, List.length_nil, E.code_len, Es.code_len, S.sz]
  | .plain w as, a => by simp only [S.code, List.length_append, List.length_cons, List.length_nil, Es.code_len, S.sz]
theorem Ss.code_len (pl : Plc) : ∀ (ss : Ss) (a : Nat), (ss.code pl a).length = ss.sz
  | .nil, _ => rfl
  | .cons s ss, a => by
    have h1 := S.code_len pl s a
    have h2 := Ss.code_len pl ss (a + s.sz)
    simp only [Ss.code, List.length_append, h1, h2, Ss.sz]
end
/-! ### rows of expressions, of statements, taken to a place -/
def Es.take : Es → Nat → Es
  | _, 0 => .nil
  | .nil, _ + 1 => .nil
  | .cons e es, n + 1 => .cons e (es.take n)
def Ss.take : Ss → Nat → Ss
  | _, 0 => .nil
  | .nil, _ + 1 => .nil
  | .cons e es, n + 1 => .cons e (es.take n)
theorem Es.take_next {pl : Plc} : ∀ {es : Es} {i : Nat} {e : E} (a : Nat), es.list[i]? = some e → (es.take (i + 1)).code pl a = (es.take i).code pl a ++ e.code pl (a + (es.take i).sz) ∧ (es.take (i + 1)).sz = (es.take i).sz + e.sz
  | .cons e es, 0, _, a, h => by
    cases h
    constructor
    · show e.code pl a ++ (es.take 0).code pl (a + e.sz) = [] ++ e.code pl (a + 0)
      cases es <;> simp [Es.take, Es.code]
    · show e.sz + (es.take 0).sz = 0 + e.sz
      cases es <;> simp [Es.take, Es.sz]
  | .cons e es, i + 1, f, a, h => by
    have ih := Es.take_next (pl := pl) (es := es) (i := i) (e := f) (a + e.sz) h
    constructor
    · show e.code pl a ++ (es.take (i + 1)).code pl (a + e.sz) = (e.code pl a ++ (es.take i).code pl (a + e.sz)) ++ f.code pl (a + (e.sz + (es.take i).sz))
      rw [ih.1, List.append_assoc, Nat.add_assoc a]
    · show e.sz + (es.take (i + 1)).sz = e.sz + (es.take i).sz + f.sz
      rw [ih.2]
      omega
  | .nil, i, _, _, h => by cases h
theorem Es.take_all : ∀ es : Es, es.take es.list.length = es
  | .nil => rfl
  | .cons e es => congrArg (Es.cons e) (Es.take_all es)
theorem Es.take_sz : ∀ (es : Es) (i : Nat), (es.take i).sz ≤ es.sz
  | es, 0 => by cases es <;> exact Nat.zero_le _
  | .nil, _ + 1 => Nat.le_refl _
  | .cons e es, i + 1 => Nat.add_le_add_left (Es.take_sz es i) _
theorem Ss.take_next {pl : Plc} : ∀ {es : Ss} {i : Nat} {e : S} (a : Nat), es.list[i]? = some e → (es.take (i + 1)).code pl a = (es.take i).code pl a ++ e.code pl (a + (es.take i).sz) ∧ (es.take (i + 1)).sz = (es.take i).sz + e.sz
  | .cons e es, 0, _, a, h => by
    cases h
    constructor
    · show e.code pl a ++ (es.take 0).code pl (a + e.sz) = [] ++ e.code pl (a + 0)
      cases es <;> simp [Ss.take, Ss.code]
    · show e.sz + (es.take 0).sz = 0 + e.sz
      cases es <;> simp [Ss.take, Ss.sz]
  | .cons e es, i + 1, f, a, h => by
    have ih := Ss.take_next (pl := pl) (es := es) (i := i) (e := f) (a + e.sz) h
    constructor
    · show e.code pl a ++ (es.take (i + 1)).code pl (a + e.sz) = (e.code pl a ++ (es.take i).code pl (a + e.sz)) ++ f.code pl (a + (e.sz + (es.take i).sz))
      rw [ih.1, List.append_assoc, Nat.add_assoc a]
    · show e.sz + (es.take (i + 1)).sz = e.sz + (es.take i).sz + f.sz
      rw [ih.2]
      omega
  | .nil, i, _, _, h => by cases h
theorem Ss.take_all : ∀ es : Ss, es.take es.list.length = es
  | .nil => rfl
  | .cons e es => congrArg (Ss.cons e) (Ss.take_all es)
theorem Ss.take_sz : ∀ (es : Ss) (i : Nat), (es.take i).sz ≤ es.sz
  | es, 0 => by cases es <;> exact Nat.zero_le _
  | .nil, _ + 1 => Nat.le_refl _
  | .cons e es, i + 1 => Nat.add_le_add_left (Ss.take_sz es i) _
/-- the parts of a row -/
theorem Es.part : ∀ {es : Es} {e : E}, e ∈ es.list → (es.wf = true → e.wf = true) ∧ (∀ x ∈ e.uses, x ∈ es.uses) ∧ e.dep ≤ es.dep ∧ e.sz ≤ es.sz
  | .cons f fs, e, h => by
    rcases List.mem_cons.mp (show e ∈ f :: fs.list from h) with rfl | h
    · exact ⟨fun w => (Bool.and_eq_true_iff.mp w).1, fun x hx => List.mem_append_left _ hx, Nat.le_max_left _ _, Nat.le_add_right _ _⟩
    · obtain ⟨h1, h2, h3, h4⟩ := Es.part h
      exact ⟨fun w => h1 (Bool.and_eq_true_iff.mp w).2, fun x hx => List.mem_append_right _ (h2 x hx), Nat.le_trans h3 (Nat.le_max_right _ _), Nat.le_trans h4 (Nat.le_add_left _ _)⟩
  | .nil, _, h => by cases h
theorem Ss.part : ∀ {es : Ss} {e : S}, e ∈ es.list → (es.wf = true → e.wf = true) ∧ (∀ x ∈ e.uses, x ∈ es.uses) ∧ e.dep ≤ es.dep ∧ e.sz ≤ es.sz
  | .cons f fs, e, h => by
    rcases List.mem_cons.mp (show e ∈ f :: fs.list from h) with rfl | h
    · exact ⟨fun w => (Bool.and_eq_true_iff.mp w).1, fun x hx => List.mem_append_left _ hx, Nat.le_max_left _ _, Nat.le_add_right _ _⟩
    · obtain ⟨h1, h2, h3, h4⟩ := Ss.part h
      exact ⟨fun w => h1 (Bool.and_eq_true_iff.mp w).2, fun x hx => List.mem_append_right _ (h2 x hx), Nat.le_trans h3 (Nat.le_max_right _ _), Nat.le_trans h4 (Nat.le_add_left _ _)⟩
  | .nil, _, h => by cases h
theorem Rps.at_E {K : PySem.W.Frag} {H : Hp} {vs : List V} {es : Es} {i : Nat} {v : V} (r : Rps K H vs es.ds) (h : vs[i]? = some v) : ∃ e, es.list[i]? = some e ∧ Rp K H v e.d := by
  rw [Es.list_ds] at r
  have hl := r.len
  rw [List.length_map] at hl
  have hi : i < es.list.length := by
    rw [← hl]
    exact (List.getElem?_eq_some_iff.mp h).1
  have e1 : es.list[i]? = some es.list[i] := List.getElem?_eq_getElem hi
  obtain ⟨u, hu, ru⟩ := r.at_ (i := i) (d := es.list[i].d) (by rw [List.getElem?_map, e1]; rfl)
  rw [h] at hu
  cases hu
  exact ⟨_, e1, ru⟩
theorem Rps.at_S {K : PySem.W.Frag} {H : Hp} {vs : List V} {es : Ss} {i : Nat} {v : V} (r : Rps K H vs es.ds) (h : vs[i]? = some v) : ∃ e, es.list[i]? = some e ∧ Rp K H v e.d := by
  rw [Ss.list_ds] at r
  have hl := r.len
  rw [List.length_map] at hl
  have hi : i < es.list.length := by
    rw [← hl]
    exact (List.getElem?_eq_some_iff.mp h).1
  have e1 : es.list[i]? = some es.list[i] := List.getElem?_eq_getElem hi
  obtain ⟨u, hu, ru⟩ := r.at_ (i := i) (d := es.list[i].d) (by rw [List.getElem?_map, e1]; rfl)
  rw [h] at hu
  cases hu
  exact ⟨_, e1, ru⟩
/-- an item of a tuple of data -/
theorem ix_rp {K : PySem.W.Frag} {H : Hp} {x : V} {ds : List PyData} {i : Nat} {d : PyData} {Q : VK} (hx : Rp K H x (.tuple ds)) (hi : ds[i]? = some d) (h : ∀ v, Rp K H v d → Q v H) : rIxT K x (.int (i : Nat)) H Q := by
  obtain ⟨a, xs, rfl, ha, hxs⟩ := hx.tup_inv
  obtain ⟨v, hv, rv⟩ := hxs.at_ hi
  exact ⟨a, xs, _, v, rfl, rfl, ha, atI_nat hv, h v rv⟩
theorem len_rp {K : PySem.W.Frag} {H : Hp} {x : V} {ds : List PyData} (hx : Rp K H x (.tuple ds)) : ∃ a xs, x = .ref a ∧ SqT K H a xs ∧ xs.length = ds.length := by
  obtain ⟨a, xs, rfl, ha, hxs⟩ := hx.tup_inv
  exact ⟨a, xs, rfl, ha, hxs.len⟩
/-- where the names are kept: a dict of places -/
def PlAt (K : PySem.W.Frag) (H : Hp) (nd : Addr) (pl : Plc) (N : List Str) : Prop := ∃ kvs, H nd = some (.dK kvs) ∧ ∀ x ∈ N, (pl x).1.length ≤ 1000 ∧ ∃ v, valV kvs (.inr x : Key) = some v ∧ Rp K H v (.tuple [.str (pl x).1, .int (pl x).2])
theorem PlAt.same {K : PySem.W.Frag} {H H' : Hp} {nd : Addr} {pl : Plc} {N : List Str} (p : PlAt K H nd pl N) (s : Same H H') : PlAt K H' nd pl N := by
  obtain ⟨kvs, h, q⟩ := p
  exact ⟨kvs, s _ _ h, fun x hx => ⟨(q x hx).1, by
    obtain ⟨v, h1, h2⟩ := (q x hx).2
    exact ⟨v, h1, h2.keep (Same.tups s)⟩⟩⟩
end Pt

set_option Elab.async false
set_option linter.all false
set_option maxRecDepth 100000
set_option maxHeartbeats 4000000
/-! Dicts whose keys are tuples of any depth (names of processes, of objects): {}, d[k], d[k] = v, del d[k], k in d, d.get. -/
namespace ND
open PySem PySem.W PySem.Spec PyProof.Rows L2 Pt

/-- tuples stay -/
abbrev TK (K : PySem.W.Frag) (H H' : Hp) : Prop := ∀ c xs, SqT K H c xs → SqT K H' c xs
theorem TK.refl {K : PySem.W.Frag} {H : Hp} : TK K H H := fun _ _ h => h
theorem TK.trans {K : PySem.W.Frag} {H H1 H2 : Hp} (a : TK K H H1) (b : TK K H1 H2) : TK K H H2 := fun c xs h => b c xs (a c xs h)
theorem TK.same {K : PySem.W.Frag} {H H' : Hp} (s : Same H H') : TK K H H' := fun _ _ h => Cm.sameT s h
theorem TK.of {K : PySem.W.Frag} {H H' : Hp} (t : Tups H H') : TK K H H' := fun _ _ h => t.sqt h
/-- what may be written is no tuple -/
theorem TK.upd {K : PySem.W.Frag} {H : Hp} {a : Addr} {o : HO} (m : Mut (H a)) : TK K H (upd H a o) := fun c xs h => by
  rcases h with (h | ⟨u, h⟩) | h
  · refine .inl (.inl ?_)
    rw [upd_ne fun z => by subst z; rw [h] at m; exact m]
    exact h
  · refine .inl (.inr ⟨u, ?_⟩)
    rw [upd_ne fun z => by subst z; rw [h] at m; exact m]
    exact h
  · exact .inr h
mutual
theorem rp_keep {K : PySem.W.Frag} {H H' : Hp} (k : TK K H H') : ∀ {v : V} {d : PyData}, Rp K H v d → Rp K H' v d
  | _, _, .non => .non
  | _, _, .bl b => .bl b
  | _, _, .int i => .int i
  | _, _, .str x => .str x
  | _, _, .tup h r => .tup (k _ _ h) (rps_keep k r)
theorem rps_keep {K : PySem.W.Frag} {H H' : Hp} (k : TK K H H') : ∀ {vs : List V} {ds : List PyData}, Rps K H vs ds → Rps K H' vs ds
  | _, _, .nil => .nil
  | _, _, .cons h r => .cons (rp_keep k h) (rps_keep k r)
end
/-- the value v is the key k -/
def KeyAt (K : PySem.W.Frag) (H : Hp) (v : V) (k : NestedKey) : Prop := Rp K H v k.data ∧ k.depth ≤ 8 ∧ ∃ ks, k = .tup ks
theorem KeyAt.keep {K : PySem.W.Frag} {H H' : Hp} {v : V} {k : NestedKey} (t : TK K H H') (h : KeyAt K H v k) : KeyAt K H' v k := ⟨rp_keep t h.1, h.2⟩
theorem KeyAt.ref {K : PySem.W.Frag} {H : Hp} {v : V} {k : NestedKey} (h : KeyAt K H v k) : ∃ b, v = .ref b := by
  obtain ⟨r, _, ks, rfl⟩ := h
  obtain ⟨a, xs, rfl, _⟩ := r.tup_inv
  exact ⟨a, rfl⟩
section
variable {X : Cx} {pins : List (Addr × Obj)} {σ : L2.St} {H : Hp} {s : Shared}
mutual
theorem is_of (I : Inv X pins σ H s) : ∀ (k : NestedKey) (v : V) (u : Value), Rp X.K H v k.data → RelV v u → NestedIs s.heap k u
  | .none, v, u, r, ru => by
    simp only [NestedKey.data] at r
    cases r
    cases ru
    exact .none
  | .num i, v, u, r, ru => by
    simp only [NestedKey.data] at r
    cases r
    obtain ⟨t, rfl⟩ := ru
    exact .int _ _
  | .text x, v, u, r, ru => by
    simp only [NestedKey.data] at r
    cases r
    obtain ⟨t, rfl⟩ := ru
    exact .text _ _
  | .tup ks, v, u, r, ru => by
    simp only [NestedKey.data] at r
    obtain ⟨a, vs, rfl, ha, hvs⟩ := r.tup_inv
    cases ru
    obtain ⟨its, rv, ⟨o, ho, hc, n, hd⟩, hz⟩ := I.tuple ha
    exact .tup ho hc hd (by simpa using all_of I ks vs its hvs rv)
theorem all_of (I : Inv X pins σ H s) : ∀ (ks : List NestedKey) (vs : List V) (us : List Value), Rps X.K H vs (NestedKey.datas ks) → Vals vs us → NestedAll s.heap ks us
  | [], vs, us, r, ru => by
    simp only [NestedKey.datas] at r
    cases r
    cases ru
    exact .nil
  | k :: ks, vs, us, r, ru => by
    simp only [NestedKey.datas] at r
    cases r with
    | cons h t =>
      cases ru with
      | cons h' t' => exact .cons (is_of I k _ _ h h') (all_of I ks _ _ t t')
end
theorem key_of (I : Inv X pins σ H s) {b : Addr} {k : NestedKey} (h : KeyAt X.K H (.ref b) k) : (nestedKind X.prog X.w).is s.heap k b := ⟨is_of I k _ _ h.1 rfl, h.2.1⟩
end

/-- the dict at a holds xs -/
def ndO (P : Program) (w : World) (xs : List (NestedKey × Addr × Value)) (a : Addr) : HO := .ext fun h => (a == sysModules) = false ∧ xs.length ≤ sizeLine ∧
  ∃ o es ep, h.get? a = some o ∧ o.ExactDict ∧ o.data = .dict es ep ∧ es.toList = xs.map (entryOfKey (nestedKind P w)) ∧ (xs.map (·.1)).Nodup
abbrev KN (K : PySem.W.Frag) (H : Hp) : List (NestedKey × V) → List (NestedKey × Addr × Value) → Prop := Paired fun p q => p.1 = q.1 ∧ KeyAt K H (.ref q.2.1) p.1 ∧ RelV p.2 q.2.2
/-- at a stands a dict with these entries -/
def NDct (P : Program) (w : World) (K : PySem.W.Frag) (H : Hp) (a : Addr) (kvs : List (NestedKey × V)) : Prop := ∃ xs, H a = some (ndO P w xs a) ∧ KN K H kvs xs
section
variable {P : Program} {w : World} {K : PySem.W.Frag} {H H' : Hp} {a : Addr} {kvs : List (NestedKey × V)}
theorem KN.keep (t : TK K H H') {xs : List (NestedKey × Addr × Value)} (h : KN K H kvs xs) : KN K H' kvs xs := Paired.mapP h fun _ _ z => ⟨z.1, z.2.1.keep t, z.2.2⟩
theorem NDct.keep (t : TK K H H') (e : H' a = H a) (h : NDct P w K H a kvs) : NDct P w K H' a kvs := by
  obtain ⟨xs, h1, h2⟩ := h
  exact ⟨xs, e.trans h1, KN.keep t h2⟩
theorem NDct.same (t : Same H H') (h : NDct P w K H a kvs) : NDct P w K H' a kvs := by
  obtain ⟨xs, h1, h2⟩ := h
  exact ⟨xs, t _ _ h1, KN.keep (TK.same t) h2⟩
theorem NDct.some (h : NDct P w K H a kvs) : ∃ o, H a = some o ∧ (∀ xs, o ≠ .lst xs) ∧ (∀ xs, o ≠ .tup xs) ∧ Mut (H a) := by
  obtain ⟨xs, h1, h2⟩ := h
  exact ⟨_, h1, (fun _ z => nomatch z), (fun _ z => nomatch z), by rw [h1]; exact True.intro⟩
theorem KN.val {xs : List (NestedKey × Addr × Value)} (r : KN K H kvs xs) (k : NestedKey) : RelO (valV kvs k) ((atKey xs k).map (·.2)) := by
  induction r with
  | nil => exact True.intro
  | @cons p q ps qs h t ih =>
    obtain ⟨h1, _, h2⟩ := h
    by_cases e : p.1 = k
    · have e' : q.1 = k := h1.symm.trans e
      have b : atKey (q :: qs) k = some q.2 := by simp [atKey, List.find?_cons, e']
      rw [valV_pos e, b]; exact h2
    · have e' : ¬ q.1 = k := fun z => e (h1.trans z)
      have b : atKey (q :: qs) k = atKey qs k := by simp [atKey, List.find?_cons, e']
      rw [valV_neg e, b]; exact ih
theorem KN.repl {xs : List (NestedKey × Addr × Value)} (r : KN K H kvs xs) (k : NestedKey) {y : V} {u : Value} (ry : RelV y u) :
    KN K H (kvs.map fun kv => if kv.1 = k then (kv.1, y) else kv) (xs.map (putAt k u)) := by
  induction r with
  | nil => exact .nil
  | @cons p q ps qs h t ih =>
    rw [List.map_cons, List.map_cons]
    refine .cons ?_ ih
    obtain ⟨h1, h2, h3⟩ := h
    unfold putAt
    by_cases e : p.1 = k
    · rw [if_pos e, if_pos (h1.symm.trans e)]; exact ⟨h1, h2, ry⟩
    · rw [if_neg e, if_neg (fun z => e (h1.trans z))]; exact ⟨h1, h2, h3⟩
theorem KN.put {xs : List (NestedKey × Addr × Value)} (r : KN K H kvs xs) (k : NestedKey) {b : Addr} {y : V} {u : Value} (hb : KeyAt K H (.ref b) k) (ry : RelV y u) :
    KN K H (putK kvs k y) (storedH xs k b u) := by
  have e : (kvs.any fun kv => decide (kv.1 = k)) = (atKey xs k).isSome := by
    rw [valV_any, (r.val k).isSome_eq, Option.isSome_map]
  unfold putK storedH
  rw [e]
  by_cases q : (atKey xs k).isSome = true
  · rw [if_pos q, if_pos q]; exact r.repl k ry
  · rw [if_neg q, if_neg q]; exact Paired.snoc r ⟨rfl, hb, ry⟩
theorem KN.drop {xs : List (NestedKey × Addr × Value)} (r : KN K H kvs xs) (k : NestedKey) : KN K H (dropK kvs k) (withoutH xs k) := by
  induction r with
  | nil => exact .nil
  | @cons p q ps qs h t ih =>
    obtain ⟨h1, h2, h3⟩ := h
    unfold dropK withoutH at ih ⊢
    rw [List.filter_cons, List.filter_cons]
    by_cases e : p.1 = k
    · have e' : q.1 = k := h1.symm.trans e
      simp only [e, e', decide_true, Bool.not_true, ne_eq, not_true_eq_false, decide_false, Bool.false_eq_true, if_false]
      exact ih
    · have e' : ¬ q.1 = k := fun z => e (h1.trans z)
      simp only [e, e', decide_false, Bool.not_false, ne_eq, not_false_eq_true, decide_true, if_true]
      exact .cons ⟨h1, h2, h3⟩ ih
end

section
variable {X : Cx} {pins : List (Addr × Obj)} {σ : L2.St} {H : Hp} {s : Shared} {a b : Addr} {v : V} {u r : Value} {k : NestedKey} {kvs : List (NestedKey × V)} {A : Around} {E : Value → Shared → Prop}
theorem nd_of (I : Inv X pins σ H s) (g : NDct X.prog X.w X.K H a kvs) : kvs.length ≤ sizeLine ∧ (a == sysModules) = false ∧ ∃ xs, H a = some (ndO X.prog X.w xs a) ∧ KN X.K H kvs xs ∧ s.heap.DictOfH (nestedKind X.prog X.w) a xs := by
  obtain ⟨xs, e, r⟩ := g
  obtain ⟨⟨hd, hz, o, es, ep, h1, h2, h3, h4, h5⟩, _⟩ := (show ObjOk X.prog X.w H s.heap a (ndO X.prog X.w xs a) from I.hok a _ e)
  refine ⟨by rw [Paired.length r]; exact hz, hd, xs, e, r, o, es, ep, h1, h2, h3, h4, fun x hx => ?_, h5⟩
  have all : ∀ {l : List (NestedKey × V)} {m : List (NestedKey × Addr × Value)}, KN X.K H l m → ∀ x ∈ m, (nestedKind X.prog X.w).is s.heap x.1 x.2.1 := by
    intro l m q
    induction q with
    | nil => intro x hx; exact nomatch hx
    | @cons p q ps qs hq t ih =>
      intro x hx
      rcases List.mem_cons.mp hx with e | hx
      · subst e
        exact key_of I (by rw [← hq.1]; exact hq.2.1)
      · exact ih x hx
  exact all r x hx
theorem nd_ok {P : Program} {w : World} {H' : Hp} {h' : Heap} {xs : List (NestedKey × Addr × Value)} (hd : (a == sysModules) = false) (hz : xs.length ≤ sizeLine) (dd : h'.DictOfH (nestedKind P w) a xs) :
    ObjOk P w H' h' a (ndO P w xs a) := by
  obtain ⟨o, es, ep, h1, h2, h3, h4, _, h5⟩ := dd
  exact ⟨⟨hd, hz, o, es, ep, h1, h2, h3, h4, h5⟩, ⟨o, h1⟩, fun g1 g2 ⟨q1, q2, o', es', ep', p1, p⟩ k => ⟨q1, q2, o', es', ep', k _ p1, p⟩⟩
theorem nd_type (I : Inv X pins σ H s) (g : NDct X.prog X.w X.K H a kvs) : s.TypeIs (.ref a) "dict" ∧ (∀ b, Value.ref a = .ref b → ∃ ob, s.heap.get? b = some ob ∧ ob.dict = none) := by
  obtain ⟨_, _, xs, _, _, dd⟩ := nd_of I g
  refine ⟨dd.typeIs, fun b q => ?_⟩
  cases q
  obtain ⟨ob, _, _, h1, h2, _⟩ := dd
  exact ⟨ob, h1, h2.2.1⟩
theorem nd_getItem {Q : Value → Shared → Prop} (hu : A.units + 9 < cLine) (I : Inv X pins σ H s) (g : NDct X.prog X.w X.K H a kvs) (ky : KeyAt X.K H (.ref b) k) (l : valV kvs k = some v) (h : ∀ w' s', Inv X pins σ H s' → RelV v w' → Q w' s') :
    wpAny (model X.prog X.w) A (getItem (.ref a) (.ref b)) Q E s := by
  obtain ⟨_, _, xs, _, rel, dd⟩ := nd_of I g
  obtain ⟨w', hw, rw'⟩ := RelO.some_of (v := v) (o := (atKey xs k).map (·.2)) (by rw [← l]; exact rel.val k)
  obtain ⟨p, hp, hp2⟩ := Option.map_eq_some_iff.mp hw
  refine wpAny_getItem_heap (show A.in1.units + 8 < cLine by rw [Around.in1_units]; omega) (key_of I ky) dd hp ?_
  rw [hp2]
  exact h w' _ (I.tok _) rw'
theorem nd_in {Q : Value → Shared → Prop} (hu : A.units + 9 < cLine) (I : Inv X pins σ H s) (g : NDct X.prog X.w X.K H a kvs) (ky : KeyAt X.K H (.ref b) k) (h : ∀ s', Inv X pins σ H s' → Q (.bool (valV kvs k).isSome) s') :
    wpAny (model X.prog X.w) A (compareOp .In (.ref b) (.ref a)) Q E s := by
  obtain ⟨_, hd, xs, _, rel, dd⟩ := nd_of I g
  refine wpAny_in_heap (show A.in1.units + 8 < cLine by rw [Around.in1_units]; omega) (key_of I ky) hd dd ?_
  have q := (rel.val k).isSome_eq
  rw [Option.isSome_map] at q
  rw [← q]
  exact h _ (I.tok _)
theorem nd_notIn {Q : Value → Shared → Prop} (hu : A.units + 9 < cLine) (I : Inv X pins σ H s) (g : NDct X.prog X.w X.K H a kvs) (ky : KeyAt X.K H (.ref b) k) (h : ∀ s', Inv X pins σ H s' → Q (.bool (!(valV kvs k).isSome)) s') :
    wpAny (model X.prog X.w) A (compareOp .NotIn (.ref b) (.ref a)) Q E s := by
  obtain ⟨_, hd, xs, _, rel, dd⟩ := nd_of I g
  refine wpAny_notIn_heap (show A.in1.units + 8 < cLine by rw [Around.in1_units]; omega) (key_of I ky) hd dd ?_
  have q := (rel.val k).isSome_eq
  rw [Option.isSome_map] at q
  rw [← q]
  exact h _ (I.tok _)
theorem nd_get1 {Q : Value → Shared → Prop} (hu : A.units + 9 < cLine) (I : Inv X pins σ H s) (g : NDct X.prog X.w X.K H a kvs) (ky : KeyAt X.K H (.ref b) k) (h : ∀ w' s', Inv X pins σ H s' → RelV ((valV kvs k).getD .non) w' → Q w' s') :
    wpAny (model X.prog X.w) A (call (.builtin "dict.get") [.ref a, .ref b]) Q E s := by
  obtain ⟨_, hd, xs, _, rel, dd⟩ := nd_of I g
  refine call_meetsIn PySem.F.slot_dict_get dd.typeIs PySem.F.entry_dict_get (PySem.F.args_dict_get_2 _ _) (meetsH_dict_get (nestedKind X.prog X.w) a b hd) ⟨show A.in1.units + 8 < cLine by rw [Around.in1_units]; omega, k, xs, key_of I ky, dd, h _ _ (I.tok _) ?_⟩
  exact (rel.val k).getD rfl
theorem nd_get2 {d : V} {Q : Value → Shared → Prop} (hu : A.units + 9 < cLine) (I : Inv X pins σ H s) (g : NDct X.prog X.w X.K H a kvs) (ky : KeyAt X.K H (.ref b) k) (rd : RelV d r) (h : ∀ w' s', Inv X pins σ H s' → RelV ((valV kvs k).getD d) w' → Q w' s') :
    wpAny (model X.prog X.w) A (call (.builtin "dict.get") [.ref a, .ref b, r]) Q E s := by
  obtain ⟨_, hd, xs, _, rel, dd⟩ := nd_of I g
  refine call_meetsIn PySem.F.slot_dict_get dd.typeIs PySem.F.entry_dict_get (PySem.F.args_dict_get_3 _ _ _) (meetsH_dict_get_default (nestedKind X.prog X.w) a b hd r) ⟨show A.in1.units + 8 < cLine by rw [Around.in1_units]; omega, k, xs, key_of I ky, dd, h _ _ (I.tok _) ?_⟩
  exact (rel.val k).getD rd
/-- d[k] = v -/
theorem nd_setItem {Q : Unit → Shared → Prop} (hu : A.units + 9 < cLine) (I : Inv X pins σ H s) (g : NDct X.prog X.w X.K H a kvs) (ky : KeyAt X.K H (.ref b) k) (hl : kvs.length < sizeLine) (rv : RelV v r)
    (h : ∀ o s', NDct X.prog X.w X.K (upd H a o) a (putK kvs k v) → Inv X pins σ (upd H a o) s' → Q () s') :
    wpAny (model X.prog X.w) A (setItem (.ref a) (.ref b) r) Q E s := by
  obtain ⟨_, hd, xs, e, rel, dd⟩ := nd_of I g
  have hz : xs.length ≤ sizeLine := by rw [← Paired.length rel]; omega
  refine wpAny_setItem_heap (hsz := hz) (show A.in1.units + 8 < cLine by rw [Around.in1_units]; omega) (key_of I ky) dd fun h' dd' hs => ?_
  have rel' := rel.put k ky rv
  have hz' : (storedH xs k b r).length ≤ sizeLine := by
    rw [← Paired.length rel']
    have := length_putK kvs k v
    omega
  have he : ∃ q, h'.get? a = some q := let ⟨q, _, _, hq, _⟩ := dd'; ⟨q, hq⟩
  exact h (ndO X.prog X.w (storedH xs k b r) a) _ ⟨_, upd_same, KN.keep (TK.upd (H := H) (a := a) (by rw [e]; exact True.intro)) rel'⟩ (d_write I (by rw [e]; exact True.intro) hs he (nd_ok hd hz' dd'))
/-- del d[k] -/
theorem nd_delItem {Q : Unit → Shared → Prop} (hu : A.units + 9 < cLine) (I : Inv X pins σ H s) (g : NDct X.prog X.w X.K H a kvs) (ky : KeyAt X.K H (.ref b) k) (l : (valV kvs k).isSome = true)
    (h : ∀ o s', NDct X.prog X.w X.K (upd H a o) a (dropK kvs k) → Inv X pins σ (upd H a o) s' → Q () s') :
    wpAny (model X.prog X.w) A (delItem (.ref a) (.ref b)) Q E s := by
  obtain ⟨hl, hd, xs, e, rel, dd⟩ := nd_of I g
  have hz : xs.length ≤ sizeLine := by rw [← Paired.length rel]; exact hl
  have q := (rel.val k).isSome_eq
  rw [Option.isSome_map, l] at q
  obtain ⟨p, hp⟩ := Option.isSome_iff_exists.mp q.symm
  refine wpAny_delItem_heap (hsz := hz) (show A.in1.units + 8 < cLine by rw [Around.in1_units]; omega) (key_of I ky) hd dd hp fun h' dd' hs => ?_
  have rel' := rel.drop k
  have hz' : (withoutH xs k).length ≤ sizeLine := Nat.le_trans (by unfold withoutH; exact List.length_filter_le _ _) hz
  have he : ∃ q, h'.get? a = some q := let ⟨q, _, _, hq, _⟩ := dd'; ⟨q, hq⟩
  exact h (ndO X.prog X.w (withoutH xs k) a) _ ⟨_, upd_same, KN.keep (TK.upd (H := H) (a := a) (by rw [e]; exact True.intro)) rel'⟩ (d_write I (by rw [e]; exact True.intro) hs he (nd_ok hd hz' dd'))
end

/-! ### readings and rules -/
section
variable (P : Program) (w : World) (K : PySem.W.Frag)
/-- {} -/
def tNNew : TE := fun _ H Q => ∀ p o, H p = none → NDct P w K (upd H p o) p [] → Q (.ref p) (upd H p o)
/-- d[y] -/
def tNGet (td ty : TE) : TE := fun σ H Q => td σ H fun x H1 => ty σ H1 fun y H2 => ∃ a kvs k v, x = .ref a ∧ NDct P w K H2 a kvs ∧ KeyAt K H2 y k ∧ valV kvs k = some v ∧ Q v H2
/-- y in d, y not in d -/
def tNIn (neg : Bool) (ty td : TE) : TE := fun σ H Q => ty σ H fun y H1 => td σ H1 fun x H2 => ∃ a kvs k, x = .ref a ∧ NDct P w K H2 a kvs ∧ KeyAt K H2 y k ∧ Q (.bl (if neg then !(valV kvs k).isSome else (valV kvs k).isSome)) H2
/-- d.get(y), d.get(y, z) -/
def tNGet1 (td ty : TE) : TE := fun σ H Q => td σ H fun x H1 => ∃ a kvs, x = .ref a ∧ NDct P w K H1 a kvs ∧ ty σ H1 fun y H2 => ∃ kvs k, NDct P w K H2 a kvs ∧ KeyAt K H2 y k ∧ Q ((valV kvs k).getD .non) H2
def tNGet2 (td ty tz : TE) : TE := fun σ H Q => td σ H fun x H1 => ∃ a kvs, x = .ref a ∧ NDct P w K H1 a kvs ∧ ty σ H1 fun y H2 => tz σ H2 fun z H3 => ∃ kvs k, NDct P w K H3 a kvs ∧ KeyAt K H3 y k ∧ Q ((valV kvs k).getD z) H3
/-- d[y] = v -/
def sNPut (td ty tv : TE) : TS := fun D σ H => tv σ H fun v H1 => td σ H1 fun x H2 => ty σ H2 fun y H3 => ∃ a kvs k, x = .ref a ∧ NDct P w K H3 a kvs ∧ KeyAt K H3 y k ∧ kvs.length < sizeLine ∧
  ∀ o, NDct P w K (upd H3 a o) a (putK kvs k v) → D.nx σ (upd H3 a o)
/-- del d[y] -/
def sNDel (td ty : TE) : TS := fun D σ H => td σ H fun x H1 => ty σ H1 fun y H2 => ∃ a kvs k, x = .ref a ∧ NDct P w K H2 a kvs ∧ KeyAt K H2 y k ∧ (valV kvs k).isSome = true ∧
  ∀ o, NDct P w K (upd H2 a o) a (dropK kvs k) → D.nx σ (upd H2 a o)
end
section
variable {X : Cx} {o i e f value : Expr} {pos pos' tpos apos cpos : Pos} {td ty tv tz : TE}
theorem pe_nnew : PE X (.Dict [] [] pos) (tNNew X.prog X.w X.K) := ⟨fun pins s σ H Q I h => by
  have hb := I.big
  have ok : ObjOk X.prog X.w (upd H s.heap.objs.size (ndO X.prog X.w [] s.heap.objs.size)) (s.heap.push { cls := .type "dict", data := .dict #[] }) s.heap.objs.size (ndO X.prog X.w [] s.heap.objs.size) :=
    nd_ok (beq_eq_false_iff_ne.mpr (Ne.symm (Nat.ne_of_lt hb))) (Nat.zero_le _) ⟨_, #[], 0, Heap.get?_push_size _ rfl, ⟨rfl, rfl, rfl⟩, rfl, rfl, (fun x hx => nomatch hx), List.nodup_nil⟩
  exact wpAny_Dict_empty ⟨.ref s.heap.objs.size, _, I.laid (a := s.heap.objs.size) (o := ndO X.prog X.w [] s.heap.objs.size) (t' := s.toks) (fun _ _ q => Heap.get?_push_of_some _ q) (Nat.le_refl _) ok, rfl, h _ _ (I.hok.fresh (Nat.le_refl _)) ⟨[], upd_same, .nil⟩⟩⟩
theorem pe_nget (hu : X.A.units + 9 < cLine) (ho : PE X o td) (hi : PE X i ty) (hs : NoSl i) : PE X (.Subscript o i pos) (tNGet X.prog X.w X.K td ty) := by
  refine ⟨fun pins s σ H Q I h => ?_⟩
  refine subD_of PySem.F.slot_dict_getitem.lookup hs (thn (ho.run pins s σ H _ I h) fun u s1 ⟨x, H1, I1, rx, q1⟩ => thn (hi.run pins s1 σ H1 _ I1 q1) fun iv s2 ⟨y, H2, I2, ry, a, kvs, k, v, ex, g, ky, l, q2⟩ => ?_)
  subst ex
  obtain rfl : u = Value.ref a := rx
  obtain ⟨b, rfl⟩ := ky.ref
  obtain rfl : iv = Value.ref b := ry
  exact ⟨(nd_type I2 g).1, nd_getItem hu I2 g ky l fun w' s3 I3 rw' => ⟨v, H2, I3, rw', q2⟩⟩
theorem pc_nin (hu : X.A.units + 9 < cLine) (hi : PE X i ty) (ho : PE X o td) : PC X .In i o (tNIn X.prog X.w X.K false ty td) := by
  refine ⟨fun pins s σ H Q I h => ?_⟩
  refine thn (hi.run pins s σ H _ I h) fun iv s1 ⟨y, H1, I1, ry, q1⟩ => thn (ho.run pins s1 σ H1 _ I1 q1) fun u s2 ⟨x, H2, I2, rx, a, kvs, k, ex, g, ky, q2⟩ => ?_
  subst ex
  obtain rfl : u = Value.ref a := rx
  obtain ⟨b, rfl⟩ := ky.ref
  obtain rfl : iv = Value.ref b := ry
  exact nd_in hu I2 g ky fun s3 I3 => ⟨.bl (valV kvs k).isSome, H2, I3, rfl, q2⟩
theorem pc_nnotin (hu : X.A.units + 9 < cLine) (hi : PE X i ty) (ho : PE X o td) : PC X .NotIn i o (tNIn X.prog X.w X.K true ty td) := by
  refine ⟨fun pins s σ H Q I h => ?_⟩
  refine thn (hi.run pins s σ H _ I h) fun iv s1 ⟨y, H1, I1, ry, q1⟩ => thn (ho.run pins s1 σ H1 _ I1 q1) fun u s2 ⟨x, H2, I2, rx, a, kvs, k, ex, g, ky, q2⟩ => ?_
  subst ex
  obtain rfl : u = Value.ref a := rx
  obtain ⟨b, rfl⟩ := ky.ref
  obtain rfl : iv = Value.ref b := ry
  exact nd_notIn hu I2 g ky fun s3 I3 => ⟨.bl (!(valV kvs k).isSome), H2, I3, rfl, q2⟩
theorem ps_nput (hu : X.A.units + 9 < cLine) (ho : PE X o td) (hi : PE X i ty) (hv : PE X value tv) (hs : swapsWith value (some (.Subscript o i pos')) pos.line X.env = pure false) :
    PS X (.Assign [.Subscript o i pos'] value pos) (sNPut X.prog X.w X.K td ty tv) := by
  refine ⟨fun pins s σ H D I h => ?_⟩
  refine wpAny_Assign_Subscript (thn (hv.run pins s σ H _ I h) fun r s1 ⟨v, H1, I1, rv, q1⟩ => thn (ho.run pins s1 σ H1 _ I1 q1) fun u s2 ⟨x, H2, I2, rx, q2⟩ => thn (hi.run pins s2 σ H2 _ I2 q2) fun iv s3 ⟨y, H3, I3, ry, a, kvs, k, ex, g, ky, hl, q3⟩ => ?_) hs
  subst ex
  obtain rfl : u = Value.ref a := rx
  obtain ⟨b, rfl⟩ := ky.ref
  obtain rfl : iv = Value.ref b := ry
  exact nd_setItem hu I3 g ky hl rv fun o s4 g4 I4 => ⟨σ, _, I4, q3 o g4⟩
theorem ps_ndel (hu : X.A.units + 9 < cLine) (ho : PE X o td) (hi : PE X i ty) : PS X (.Delete [.Subscript o i tpos] pos) (sNDel X.prog X.w X.K td ty) := by
  refine ⟨fun pins s σ H D I h => ?_⟩
  refine wpAny_Delete (wpAny_deleteEach_cons (wpAny_delete_Subscript (thn (ho.run pins s σ H _ I h) fun u s1 ⟨x, H1, I1, rx, q1⟩ => thn (hi.run pins s1 σ H1 _ I1 q1) fun iv s2 ⟨y, H2, I2, ry, a, kvs, k, ex, g, ky, l, q2⟩ => ?_)))
  subst ex
  obtain rfl : u = Value.ref a := rx
  obtain ⟨b, rfl⟩ := ky.ref
  obtain rfl : iv = Value.ref b := ry
  exact nd_delItem hu I2 g ky l fun o s3 g3 I3 => wpAny_deleteEach_nil ⟨σ, _, I3, q2 o g3⟩
theorem pe_nget1 (hu : X.A.units + 9 < cLine) (ho : PE X o td) (he : PE X e ty) (m : M1 X o "get" apos e cpos) : PE X (.Call (.Attribute o "get" apos) [e] [] cpos) (tNGet1 X.prog X.w X.K td ty) := by
  refine ⟨fun pins s σ H Q I h => ?_⟩
  refine wpAny_Call_method m.base m.few m.line PySem.F.plainAttrs_dict PySem.F.slot_dict_get PySem.F.type_dict_get (thn (ho.run pins s σ H _ I h) fun u s1 ⟨x, H1, I1, rx, a, kvs0, ex, d, q1⟩ => ?_)
  subst ex
  obtain rfl : u = Value.ref a := rx
  obtain ⟨t1, t2⟩ := nd_type I1 d
  refine ⟨t1, t2, ?_⟩
  rw [m.trees]
  refine Calls.callWith_builtin rfl (Calls.evalArgs_plain (Calls.spliced_cons (thn (he.run pins s1 σ H1 _ I1 q1) fun iv s2 ⟨y, H2, I2, ry, kvs, k, g, ky, q2⟩ => Calls.spliced_nil ?_)))
  obtain ⟨b, rfl⟩ := ky.ref
  obtain rfl : iv = Value.ref b := ry
  exact nd_get1 hu I2 g ky fun w' s3 I3 rw' => ⟨_, H2, I3, rw', q2⟩
theorem pe_nget2 (hu : X.A.units + 9 < cLine) (ho : PE X o td) (he : PE X e ty) (hf : PE X f tz) (m : M2 X o "get" apos e f cpos) : PE X (.Call (.Attribute o "get" apos) [e, f] [] cpos) (tNGet2 X.prog X.w X.K td ty tz) := by
  refine ⟨fun pins s σ H Q I h => ?_⟩
  refine wpAny_Call_method m.base m.few m.line PySem.F.plainAttrs_dict PySem.F.slot_dict_get PySem.F.type_dict_get (thn (ho.run pins s σ H _ I h) fun u s1 ⟨x, H1, I1, rx, a, kvs0, ex, d, q1⟩ => ?_)
  subst ex
  obtain rfl : u = Value.ref a := rx
  obtain ⟨t1, t2⟩ := nd_type I1 d
  refine ⟨t1, t2, ?_⟩
  rw [m.trees]
  refine Calls.callWith_builtin rfl (Calls.evalArgs_plain (Calls.spliced_cons (thn (he.run pins s1 σ H1 _ I1 q1) fun iv s2 ⟨y, H2, I2, ry, q2⟩ =>
    Calls.spliced_cons (thn (hf.run pins s2 σ H2 _ I2 q2) fun fv s3 ⟨z, H3, I3, rz, kvs, k, g, ky, q3⟩ => Calls.spliced_nil ?_))))
  obtain ⟨b, rfl⟩ := ky.ref
  obtain rfl : iv = Value.ref b := ry
  exact nd_get2 hu I3 g ky rz fun w' s4 I4 rw' => ⟨_, H3, I4, rw', q3⟩
end
theorem nu_of {A : Around} {k : Nat} (hr : Room k A) : A.units + 9 < cLine := Nat.lt_of_le_of_lt (Nat.add_le_add_left (by decide : 9 ≤ 64) _) hr.units
end ND

set_option Elab.async false
set_option linter.all false
set_option maxRecDepth 100000
set_option maxHeartbeats 4000000
/-! sum(t), t a tuple of ints -/
namespace SumT
open PySem PySem.W PySem.Calls PyProof.Rows PyProof.V PySem.Spec L2
section
variable {X : Cx}
def rSumT (K : PySem.W.Frag) : List V → Hp → VK → Prop := fun vs H Q => ∃ (a : Addr) (ns : List Int), vs = [V.ref a] ∧ SqT K H a (ns.map V.int) ∧ Q (.int ns.sum) H
theorem cr_sumT (hc : X.calm = true) : CallR X (.builtin "sum") (rSumT X.K) := by
  intro pins s σ H vs us Q I r h
  obtain ⟨a, ns, rfl, hs, q⟩ := h
  obtain ⟨its, rv, pl, hz⟩ := I.tuple hs
  rw [Vals.ref1 r]
  obtain ⟨xs, e⟩ := rv.ints.allInts.items
  have hn : numsOf (intItems xs).toList = ns := by rw [← e]; exact rv.ints.numsOf
  rw [nums_intItems] at hn
  rw [e] at pl
  refine ktm_sumG (I.ok.hd hc) pl fun h' tk t' hk => ⟨.int _, H, I.kept hk, ⟨_, by rw [preSum_eq, List.take_of_length_le (by simp), hn]⟩, q⟩
end
end SumT

set_option Elab.async false
set_option linter.all false
set_option maxRecDepth 100000
set_option maxHeartbeats 4000000
/-! Rules whose readings name K, for the inside of comprehensions. -/
namespace Nst
open PySem PySem.Spec PyProof.Rows L2
def rLen (K : PySem.W.Frag) : List V → Hp → VK → Prop := fun xs H Q => ∃ p ys, xs = [V.ref p] ∧ (SqL K H p ys ∨ SqT K H p ys) ∧ Q (.int ys.length) H
theorem len_seq {X : Cx} (K : PySem.W.Frag) (h : X.K = K) : CallR X (.builtin "len") (rLen K) := by
  subst h
  exact call_len_seq
def rTupOf (K : PySem.W.Frag) : List V → Hp → VK → Prop := fun xs H Q => ∃ p ys, xs = [.ref p] ∧ ((SqL K H p ys ∧ ∀ l, H l = none → Q (.ref l) (upd H l (.tup ys))) ∨ (SqT K H p ys ∧ Q (.ref p) H))
theorem tuple_of {X : Cx} (K : PySem.W.Frag) (h : X.K = K) : CallR X (.type "tuple") (rTupOf K) := by
  subst h
  exact call_tuple_of
theorem at_item {xs : List V} {i : Int} (h0 : 0 ≤ i) (h1 : i < (xs.length : Int)) : ∃ y, xs[i.toNat]? = some y ∧ atI xs i = some y := by
  obtain ⟨j, rfl⟩ := Int.eq_ofNat_of_zero_le h0
  have h2 : j < xs.length := by omega
  exact ⟨xs[j], by rw [Int.toNat_natCast]; exact List.getElem?_eq_getElem h2, atI_nat (List.getElem?_eq_getElem h2)⟩
/-- tuple + tuple, whatever they hold -/
theorem cat_sq {K : PySem.W.Frag} {H : Hp} {a b : Addr} {xs ys : List V} {Q : VK} (ha : SqT K H a xs) (hb : SqT K H b ys) (hl : xs.length + ys.length ≤ 100000) (h : ∀ (r : Addr) (H' : Hp), Same H H' → SqT K H' r (xs ++ ys) → Q (.ref r) H') : rCatA K (.ref a) (.ref b) H Q := by
  refine ⟨a, b, xs, ys, rfl, rfl, ha, hb, Cm.small hl, fun e => ?_, fun _ e => ?_, fun _ _ p np => ?_⟩
  · subst e
    exact h b H (Same.refl H) hb
  · subst e
    exact h a H (Same.refl H) (by rw [List.append_nil]; exact ha)
  · exact h p _ (Cm.same_new np) Cm.sqt_new
theorem shaped_of {d : PyData} (h1 : d.canLay0 = true) (h2 : d.depth ≤ 64) : SeqAt.shaped d = true := by
  show (d.canLay0 && decide (d.depth ≤ 64)) = true
  rw [Bool.and_eq_true]
  exact ⟨h1, decide_eq_true h2⟩
theorem eqv_self {d : PyData} (h : SeqAt.shaped d = true) : PyData.eqv d d = true := SeqAt.eqv_refl _ (SeqAt.canLay_of_shaped h)
/-- a tuple of a text and two numbers -/
theorem shaped_w2 {x : Str} (h : PyData.strOk x = true) (i j : Int) : SeqAt.shaped (.tuple [.str x, .int i, .int j]) = true :=
  shaped_of (by simp [PyData.canLay0, PyData.canLayAll0, h]) (by simp [PyData.depth, PyData.depthAll])
end Nst

set_option Elab.async false
set_option linter.all false
set_option maxRecDepth 100000
set_option maxHeartbeats 4000000
/-! Calls of methods that may raise: within a try (pe_methT), and where it is known that nothing is raised (passF). -/
namespace MethT
open PySem PySem.Spec PyProof.Rows L2
theorem passF {X : Cx} : Passes (L2.CX X.prog X.w) X E0 := fun _ _ _ _ _ _ _ h => by
  obtain ⟨_, _, _, _, _, _, _, _, _, _, _, _, e⟩ := h
  exact e.elim
section
variable {X : Cx} {CX : CXT} {k : Nat} {f C : Addr} {fd : FuncData} {ps : List Str} {sp : Sp} {E : L2.St → XK} {x m : Str} {p pos apos : Pos} {e o : Expr} {es : List Expr} {ta : TE} {t : TA}
def tMethT (C : Addr) (m : Str) (sp : Sp) (E : L2.St → XK) (ta : TE) (t : TA) : TE := fun σ H Q => ta σ H fun x H1 => ∃ a dx fs, x = .ref a ∧ H1 a = some (.ins C dx fs) ∧ fs.lookup m = none ∧ t σ H1 fun vs H2 => sp (x :: vs) H2 Q (E σ)
theorem pe_methT {pl : Sem Bool} (he : PE X o ta) (c : Cls X.K C) (hm : Meth X.K C m f) (F : FnOk X.prog X.w X.K X.mg X.base CX k f fd ps sp) (hr : Room k X.A) (hb : Binds X.K fd ps []) (hx : ∀ σ, PassesAt CX X σ (E σ)) (ha : PA X (e :: es) t)
    (hst : starEach (e :: es) X.env = (false, eval e X.env) :: starEach es X.env := by rfl) (hpl : (backTo pos (starEach es X.env)).any (·.1) = false := by rfl)
    (ht : eval (.Call (.Attribute o m apos) (e :: es) [] pos) X.env = (do
      let ov ← eval o X.env
      standAt apos.atName
      let (f, first) ← holding [ov] (getMethod ov m pl)
      callWith pos f first (backTo pos (starEach (e :: es) X.env)) (backToKw pos (keywordEach [] X.env))) := by rfl) :
    PE X (.Call (.Attribute o m apos) (e :: es) [] pos) (tMethT C m sp E ta t) := by
  refine ⟨fun pins s σ H Q I h => ?_⟩
  refine PySem.W.methodCall_KW (pl := pl) (thn (he.run pins s σ H _ I h) fun u s1 ⟨x, H1, I1, rx, a, dx, fs, ex, ea, l, q⟩ => ?_) ht
  subst ex
  obtain rfl : u = Value.ref a := rx
  refine getmeth_ok I1 ea c hm l ?_
  refine PySem.W.callWith_K (first := [.ref a]) (h₀ := X.base) I.ok.mod.kin hm.kp (thn (ha.run pos pins s1 σ H1 _ I1 q) fun us s2 ⟨vs, H2, I2, r, q2⟩ => ⟨I2.kIn, ?_⟩) hst hpl
  exact run_fnS (us := .ref a :: us) (vs := .ref a :: vs) F hr hb (hx σ) I2 (.cons rfl r) q2
theorem pe_methT0 {pl : Sem Bool} (he : PE X o ta) (c : Cls X.K C) (hm : Meth X.K C m f) (F : FnOk X.prog X.w X.K X.mg X.base CX k f fd ps sp) (hr : Room k X.A) (hb : Binds X.K fd ps []) (hx : ∀ σ, PassesAt CX X σ (E σ))
    (ht : eval (.Call (.Attribute o m apos) [] [] pos) X.env = (do
      let ov ← eval o X.env
      standAt apos.atName
      let (f, first) ← holding [ov] (getMethod ov m pl)
      callWith pos f first (backTo pos (starEach [] X.env)) (backToKw pos (keywordEach [] X.env))) := by rfl) :
    PE X (.Call (.Attribute o m apos) [] [] pos) (tMethT C m sp E ta tNil) := by
  refine ⟨fun pins s σ H Q I h => ?_⟩
  refine PySem.W.methodCall_KW (pl := pl) (thn (he.run pins s σ H _ I h) fun u s1 ⟨x, H1, I1, rx, a, dx, fs, ex, ea, l, q⟩ => ?_) ht
  subst ex
  obtain rfl : u = Value.ref a := rx
  refine getmeth_ok I1 ea c hm l ?_
  exact PySem.W.callWith_K0 (first := [.ref a]) I1.kIn hm.kp (run_fnS (us := [.ref a]) (vs := [.ref a]) F hr hb (hx σ) I1 (.cons rfl .nil) q)
end
end MethT

set_option Elab.async false
set_option linter.all false
set_option maxRecDepth 100000
set_option maxHeartbeats 4000000
--%OPEN Cm Pt ND
--%VAR variable {P : Program} {w : World} {K : PySem.W.Frag} {mg : Str → Option Value} {base : Heap} {a : Fds}
namespace K49
open PySem PySem.Spec PyProof.Rows L2 Pt
open PySem PySem.Spec PyProof.Rows L2
def topS (i : Nat) : Stmt := PySem.Challenge.pw_portage_k49_whole_ways_never_go_round.main.body.getD i (.Pass ⟨0, 0, 0, 0⟩)
abbrev s_is_on_the_way : Stmt := topS 6
abbrev N_is_on_the_way : List Str := ["body"]
theorem sc_is_on_the_way : FnScope N_is_on_the_way ["body"] (defScope s_is_on_the_way) := ⟨rfl, rfl, rfl, by decide +kernel, rfl, by decide +kernel, by decide +kernel⟩
abbrev s_home_of : Stmt := topS 8
abbrev N_home_of : List Str := ["name", "places", "process", "k"]
theorem sc_home_of : FnScope N_home_of ["name", "places"] (defScope s_home_of) := ⟨rfl, rfl, rfl, by decide +kernel, rfl, by decide +kernel, by decide +kernel⟩
abbrev s_Finder_init : Stmt := inClass (topS 9) 0
abbrev N_Finder_init : List Str := ["self", "me", "places"]
theorem sc_Finder_init : FnScope N_Finder_init ["self", "me", "places"] (defScope s_Finder_init) := ⟨rfl, rfl, rfl, by decide +kernel, rfl, by decide +kernel, by decide +kernel⟩
abbrev s_Finder_hear : Stmt := inClass (topS 9) 1
abbrev N_Finder_hear : List Str := ["self", "name", "place", "count", "mark"]
theorem sc_Finder_hear : FnScope N_Finder_hear ["self", "name", "place", "count"] (defScope s_Finder_hear) := ⟨rfl, rfl, rfl, by decide +kernel, rfl, by decide +kernel, by decide +kernel⟩
abbrev s_Finder_mark : Stmt := inClass (topS 9) 2
abbrev N_Finder_mark : List Str := ["self", "name"]
theorem sc_Finder_mark : FnScope N_Finder_mark ["self", "name"] (defScope s_Finder_mark) := ⟨rfl, rfl, rfl, by decide +kernel, rfl, by decide +kernel, by decide +kernel⟩
abbrev s_Finder_way : Stmt := inClass (topS 9) 4
abbrev N_Finder_way : List Str := ["self", "name", "count", "here", "mark", "home"]
theorem sc_Finder_way : FnScope N_Finder_way ["self", "name", "count", "here"] (defScope s_Finder_way) := ⟨rfl, rfl, rfl, by decide +kernel, rfl, by decide +kernel, by decide +kernel⟩
abbrev s_Finder_park : Stmt := inClass (topS 9) 5
abbrev N_Finder_park : List Str := ["self", "body"]
theorem sc_Finder_park : FnScope N_Finder_park ["self", "body"] (defScope s_Finder_park) := ⟨rfl, rfl, rfl, by decide +kernel, rfl, by decide +kernel, by decide +kernel⟩
abbrev s_Finder_parked : Stmt := inClass (topS 9) 7
abbrev N_Finder_parked : List Str := ["self"]
theorem sc_Finder_parked : FnScope N_Finder_parked ["self"] (defScope s_Finder_parked) := ⟨rfl, rfl, rfl, by decide +kernel, rfl, by decide +kernel, by decide +kernel⟩
abbrev s_lw_numbers : Stmt := topS 11
abbrev N_lw_numbers : List Str := ["script", "many", "numbers", "k", "cell", "j", "mixed", "base", "last"]
theorem sc_lw_numbers : FnScope N_lw_numbers ["script", "many"] (defScope s_lw_numbers) := ⟨rfl, rfl, rfl, by decide +kernel, rfl, by decide +kernel, by decide +kernel⟩
abbrev s_lw_follow : Stmt := topS 12
abbrev N_lw_follow : List Str := ["finders", "name", "place", "count", "home", "step", "way", "mark"]
theorem sc_lw_follow : FnScope N_lw_follow ["finders", "name", "place", "count"] (defScope s_lw_follow) := ⟨rfl, rfl, rfl, by decide +kernel, rfl, by decide +kernel, by decide +kernel⟩
abbrev s_law : Stmt := topS 13
abbrev N_law : List Str := ["script", "numbers", "places", "name", "finders", "me", "finder", "k", "number", "place", "count"]
theorem sc_law : FnScope N_law ["script"] (defScope s_law) := ⟨rfl, rfl, rfl, by decide +kernel, rfl, by decide +kernel, by decide +kernel⟩
abbrev v_ON_THE_WAY : List He.Dv := [.str "call", .str "return", .str "please"]
/-- the function objects that the top has made -/
structure Fds where
  d_is_on_the_way : FuncData
  d_home_of : FuncData
  d_Finder_init : FuncData
  d_Finder_hear : FuncData
  d_Finder_mark : FuncData
  d_Finder_way : FuncData
  d_Finder_park : FuncData
  d_Finder_parked : FuncData
  d_lw_numbers : FuncData
  d_lw_follow : FuncData
  d_law : FuncData
/-- what the walks ask of the top -/
structure Txt (K : PySem.W.Frag) (mg : Str → Option Value) (w : World) (a : Fds) : Prop where
  F_is_on_the_way : Cm.FnP K "is_on_the_way" s_is_on_the_way (He.ga K "is_on_the_way") a.d_is_on_the_way
  b_is_on_the_way : Binds K a.d_is_on_the_way ["body"] []
  g_is_on_the_way : mg "is_on_the_way" = some (.ref (He.ga K "is_on_the_way"))
  F_home_of : Cm.FnP K "home_of" s_home_of (He.ga K "home_of") a.d_home_of
  b_home_of : Binds K a.d_home_of ["name", "places"] []
  g_home_of : mg "home_of" = some (.ref (He.ga K "home_of"))
  F_Finder_init : FunD K "__init__" "Finder.__init__" (defArgs s_Finder_init) (defBody s_Finder_init) (defScope s_Finder_init) [] [] (He.ma K (He.ga K "Finder") "__init__") a.d_Finder_init
  b_Finder_init : Binds K a.d_Finder_init ["self", "me", "places"] []
  k_Finder : Mk K (He.ga K "Finder") (He.ma K (He.ga K "Finder") "__init__")
  F_Finder_hear : FunD K "hear" "Finder.hear" (defArgs s_Finder_hear) (defBody s_Finder_hear) (defScope s_Finder_hear) [] [] (He.ma K (He.ga K "Finder") "hear") a.d_Finder_hear
  b_Finder_hear : Binds K a.d_Finder_hear ["self", "name", "place", "count"] []
  m_Finder_hear : Meth K (He.ga K "Finder") "hear" (He.ma K (He.ga K "Finder") "hear")
  F_Finder_mark : FunD K "mark" "Finder.mark" (defArgs s_Finder_mark) (defBody s_Finder_mark) (defScope s_Finder_mark) [] [] (He.ma K (He.ga K "Finder") "mark") a.d_Finder_mark
  b_Finder_mark : Binds K a.d_Finder_mark ["self", "name"] []
  m_Finder_mark : Meth K (He.ga K "Finder") "mark" (He.ma K (He.ga K "Finder") "mark")
  F_Finder_way : FunD K "way" "Finder.way" (defArgs s_Finder_way) (defBody s_Finder_way) (defScope s_Finder_way) [] [] (He.ma K (He.ga K "Finder") "way") a.d_Finder_way
  b_Finder_way : Binds K a.d_Finder_way ["self", "name", "count", "here"] []
  m_Finder_way : Meth K (He.ga K "Finder") "way" (He.ma K (He.ga K "Finder") "way")
  F_Finder_park : FunD K "park" "Finder.park" (defArgs s_Finder_park) (defBody s_Finder_park) (defScope s_Finder_park) [] [] (He.ma K (He.ga K "Finder") "park") a.d_Finder_park
  b_Finder_park : Binds K a.d_Finder_park ["self", "body"] []
  m_Finder_park : Meth K (He.ga K "Finder") "park" (He.ma K (He.ga K "Finder") "park")
  F_Finder_parked : FunD K "parked" "Finder.parked" (defArgs s_Finder_parked) (defBody s_Finder_parked) (defScope s_Finder_parked) [] [] (He.ma K (He.ga K "Finder") "parked") a.d_Finder_parked
  b_Finder_parked : Binds K a.d_Finder_parked ["self"] []
  m_Finder_parked : Meth K (He.ga K "Finder") "parked" (He.ma K (He.ga K "Finder") "parked")
  F_lw_numbers : Cm.FnP K "_law_numbers" s_lw_numbers (He.ga K "_law_numbers") a.d_lw_numbers
  b_lw_numbers : Binds K a.d_lw_numbers ["script", "many"] []
  g_lw_numbers : mg "_law_numbers" = some (.ref (He.ga K "_law_numbers"))
  F_lw_follow : Cm.FnP K "_law_follow" s_lw_follow (He.ga K "_law_follow") a.d_lw_follow
  b_lw_follow : Binds K a.d_lw_follow ["finders", "name", "place", "count"] []
  g_lw_follow : mg "_law_follow" = some (.ref (He.ga K "_law_follow"))
  F_law : Cm.FnP K "law" s_law (He.ga K "law") a.d_law
  b_law : Binds K a.d_law ["script"] []
  g_law : mg "law" = some (.ref (He.ga K "law"))
  g_ON_THE_WAY : mg "ON_THE_WAY" = some (.ref (He.ga K "ON_THE_WAY"))
  k_ON_THE_WAY : ∀ H, SqT K H (He.ga K "ON_THE_WAY") (v_ON_THE_WAY.map (He.Dv.v K))
  g_PortError : mg "PortError" = some (.ref (He.ga K "PortError"))
  g_NotAllowed : mg "NotAllowed" = some (.ref (He.ga K "NotAllowed"))
  g_Finder : mg "Finder" = some (.ref (He.ga K "Finder"))
  c_Finder : Cls K (He.ga K "Finder")
  n_Finder__me : NoAttr K (He.ga K "Finder") "_me"
  n_Finder__places : NoAttr K (He.ga K "Finder") "_places"
  n_Finder__marks : NoAttr K (He.ga K "Finder") "_marks"
  n_Finder__waiting : NoAttr K (He.ga K "Finder") "_waiting"
  g_sum : mg "sum" = none
  g_len : mg "len" = none
  g_tuple : mg "tuple" = none
  g_range : mg "range" = none
  g_abs : mg "abs" = none
  g_max : mg "max" = none
  g_int : mg "int" = none
  x_NotAllowed : PySem.W.excIn K (He.ga K "NotAllowed") [.type "ValueError", .type "Exception", .type "BaseException", .type "object"] "ValueError.__new__" = true
  k_NotAllowed : PySem.W.keepIn K (.ref (He.ga K "NotAllowed")) = true
  s_NotAllowed : PySem.W.subIn K (.ref (He.ga K "NotAllowed")) (.type "BaseException") = some true
  t_NotAllowed : PySem.W.typeIn K (.ref (He.ga K "NotAllowed")) = some (.type "type")
variable {P : Program} {w : World} {K : PySem.W.Frag} {mg : Str → Option Value} {base : Heap} {a : Fds}
/-! ### the numbers of a script (the family with % 10007) -/
abbrev NumOk (ns : List Int) : Prop := ∀ n ∈ ns, 0 ≤ n ∧ n < 2147483647
def spNum2 (K : PySem.W.Frag) : Sp := fun vs H Q _ => ∃ (l : Addr) (ns : List Int) (many : Nat), vs = [.ref l, .int many] ∧ SqL K H l (ns.map V.int) ∧ ns.length ≤ 63 ∧ many ≤ 1000 ∧
  ∀ (H' : Hp) (p : Addr) (ms : List Int), Same H H' → H p = none → H' p = some (.lst (ms.map V.int)) → ms.length = many → NumOk ms → Q (.ref p) H'
theorem num_snoc {ns : List Int} {n : Int} (h : NumOk ns) (h0 : 0 ≤ n) (h1 : n < 2147483647) : NumOk (ns ++ [n]) := fun m hm => by
  rcases List.mem_append.mp hm with hm | hm
  · exact h m hm
  · rw [List.mem_singleton.mp hm]
    exact ⟨h0, h1⟩
theorem map_snoc {ns : List Int} {n : Int} : ns.map V.int ++ [V.int n] = (ns ++ [n]).map V.int := by
  rw [List.map_append]
  rfl
theorem len_map {ns : List Int} : (ns.map V.int).length = ns.length := List.length_map ..
theorem pMod : (0 : Int) < 10007 := by decide
theorem pMersenne : (0 : Int) < 2147483647 := by decide
theorem mersenne (z : Int) : 0 ≤ z % 2147483647 ∧ z % 2147483647 < 2147483647 := by omega
theorem cut_all {xs : List V} {n : Nat} (h : xs.length = n) : cutV xs none (some (n : Int)) = xs := by
  unfold cutV
  rw [HT.sIx_nat, show HT.sIx xs.length 0 none = 0 from rfl]
  rw [← h, Nat.min_self]
  simp
theorem ok_lw_numbers (T : Txt K mg w a) : FnOk P w K mg base CX0 1 (He.ga K "_law_numbers") a.d_lw_numbers ["script", "many"] (spNum2 K) := by
  refine T.F_lw_numbers.ok sc_lw_numbers (fun vs H Q E h => ?_) (fun cdv A outer s H vs Q E hr h => ?_)
  · obtain ⟨l, ns, many, rfl, _⟩ := h
    rfl
  · obtain ⟨l, sc, many, rfl, hl, hsc, hm, q⟩ := h
    refine ⟨_, PSs.nox (pss_cons (ps_set (i := 2) sc_lw_numbers.nd rfl (Or.inl rfl) (pe_lst pa_nil))
      (pss_cons (ps_for PassesOwn.never rfl (pi_range1 (by rfl) T.g_range (pa_cons (pe_callB call_len_seq (by rfl) T.g_len boot_len (pa_cons (pv 0) pa_nil)) pa_nil)) (pg_name (i := 3) sc_lw_numbers.nd rfl (Or.inl rfl))
      (pss_cons (ps_set (i := 4) sc_lw_numbers.nd rfl (Or.inl rfl) (pe_callB call_abs (by rfl) T.g_abs boot_abs (pa_cons (pe_callTy call_int1 (by rfl) T.g_int boot_int (pa_cons (pe_ix ix_list (pv 0) (pv 3) (fun _ _ => rfl)) pa_nil)) pa_nil)))
      (pss_one (ps_if (pt_cmpR op_ge (pv 4) (pe_op op_pow pe_int pe_int) (nomark _)) (pss_one (ps_for PassesOwn.never rfl (pi_range1 (by rfl) T.g_range (pa_cons pe_int pa_nil)) (pg_name (i := 5) sc_lw_numbers.nd rfl (Or.inl rfl))
      (pss_one (ps_if (PW.pt (pw_and (pt_cmpR op_gt (pv 4) pe_int (nomark _)) (pw_and1 (pt_cmpR op_lt (pe_callB call_len_seq (by rfl) T.g_len boot_len (pa_cons (pv 2) pa_nil)) (pv 1) (nomark _))))) (pss_cons (ps_expr (pe_bm PySem.F.plainAttrs_list PySem.F.slot_list_append PySem.F.type_list_append mt_append (pv 2) (pa_cons (pe_op op_mod (pv 4) pe_int) pa_nil)))
      (pss_one (ps_set (i := 4) sc_lw_numbers.nd rfl (Or.inl rfl) (pe_op op_fdiv (pv 4) pe_int)))) pss_nil)))) (pss_one (ps_if (pt_cmpR op_lt (pe_callB call_len_seq (by rfl) T.g_len boot_len (pa_cons (pv 2) pa_nil)) (pv 1) (nomark _)) (pss_cons (ps_set (i := 6) sc_lw_numbers.nd rfl (Or.inl rfl) (pe_op op_mod (pe_callTy call_int1 (by rfl) T.g_int boot_int (pa_cons (pe_op op_add (pe_op op_add (pe_op op_mul (pv 4) pe_int) (pe_op op_mul (pv 3) pe_int)) pe_int) pa_nil)) pe_int))
      (pss_one (ps_expr (pe_bm PySem.F.plainAttrs_list PySem.F.slot_list_append PySem.F.type_list_append mt_append (pv 2) (pa_cons (pe_op op_fdiv (pe_op op_mod (pe_callTy call_int1 (by rfl) T.g_int boot_int (pa_cons (pe_op op_add (pe_op op_add (pe_op op_mul (pv 6) pe_int) (pe_op op_mul pe_int (pv 3))) pe_int) pa_nil)) pe_int) pe_int) pa_nil))))) pss_nil))))))
      (pss_cons (ps_set (i := 7) sc_lw_numbers.nd rfl (Or.inl rfl) (pe_callB call_len_seq (by rfl) T.g_len boot_len (pa_cons (pv 2) pa_nil)))
      (pss_cons (ps_set (i := 8) sc_lw_numbers.nd rfl (Or.inl rfl) (pe_op op_add pe_int (pe_callB call_len_seq (by rfl) T.g_len boot_len (pa_cons (pv 0) pa_nil))))
      (pss_cons (ps_for PassesOwn.never rfl (pi_range1 (by rfl) T.g_range (pa_cons (pe_callB (call_max2 rfl) (by rfl) T.g_max boot_max (pa_cons pe_int (pa_cons (pe_op op_sub (pv 1) (pv 7)) pa_nil))) pa_nil)) (pg_name (i := 3) sc_lw_numbers.nd rfl (Or.inl rfl))
      (pss_cons (ps_if (pt_cmpR op_gt (pv 7) pe_int (nomark _)) (pss_one (ps_set (i := 8) sc_lw_numbers.nd rfl (Or.inl rfl) (pe_op op_add (pv 8) (pe_ix ix_list (pv 2) (pe_op op_mod (pv 3) (pv 7)) (fun _ _ => rfl))))) pss_nil)
      (pss_cons (ps_set (i := 8) sc_lw_numbers.nd rfl (Or.inl rfl) (pe_op op_mod (pe_callTy call_int1 (by rfl) T.g_int boot_int (pa_cons (pe_op op_add (pe_op op_mul (pv 8) pe_int) (pv 3)) pa_nil)) pe_int))
      (pss_one (ps_expr (pe_bm PySem.F.plainAttrs_list PySem.F.slot_list_append PySem.F.type_list_append mt_append (pv 2) (pa_cons (pe_op op_fdiv (pv 8) pe_int) pa_nil)))))))
      (pss_one (ps_ret (pe_slice sl_list (pv 2) po_none (po_some (pv 1)))))))))), ?_⟩
    -- numbers = []
    refine ⟨Nat.zero_le _, fun p np => ?_⟩
    have s0 : Same H (upd H p (.lst [])) := Cm.same_new np
    -- for k in range(len(script))
    refine ⟨_, rfl, l, _, rfl, .inl (s0.seq hl), ((sc.map V.int).length : Int), rfl, by omega, by rw [len_map]; omega, ?_⟩
    rw [Int.toNat_natCast]
    refine for_range (fun i σ H2 => ∃ (ms : List Int) (x3 x4 x5 x6 : Option V), σ = [some (.ref l), some (.int many), some (.ref p), x3, x4, x5, x6, none, none] ∧ Same H H2 ∧ H2 p = some (.lst (ms.map V.int)) ∧ ms.length ≤ many ∧ NumOk ms)
      ⟨[], none, none, none, none, rfl, s0, upd_same, Nat.zero_le _, fun n h => nomatch h⟩ (fun i σ H2 hi ⟨ms, x3, x4, x5, x6, e, s2, hp, hn, ha⟩ => ?_) fun σ H2 ⟨ms, x3, x4, x5, x6, e, s2, hp, hn, ha⟩ => ?_
    · subst e
      rw [len_map] at hi
      obtain ⟨c, _, ec⟩ := Cm.at_int (ns := sc) (i := (0 + (i : Int))) (by omega) (by omega)
      refine ⟨_, rfl, _, rfl, l, _, _, _, rfl, rfl, s2.seq hl, ec, .inl ⟨_, rfl, _, rfl, ?_⟩⟩
      generalize (if c < 0 then -c else c) = c0
      refine ⟨_, rfl, _, _, rfl, rfl, ⟨by decide, by decide, by decide⟩, _, _, rfl, rfl, _, rfl, Cm.itD (fun _ => ?_) fun _ => ?_⟩
      · refine ⟨60, rfl, by decide, by decide, for_range (n := 60) (fun j σ H2 => ∃ (ms : List Int) (c : Int) (x5 : Option V), σ = [some (.ref l), some (.int many), some (.ref p), some (.int (0 + (i : Int))), some (.int c), x5, x6, none, none] ∧ Same H H2 ∧ H2 p = some (.lst (ms.map V.int)) ∧ ms.length ≤ many ∧ NumOk ms)
          ⟨ms, c0, x5, rfl, s2, hp, hn, ha⟩ (fun j σ H2 hj ⟨ms, c, x5, e, s2, hp, hn, ha⟩ => ?_) fun σ H2 ⟨ms, c, x5, e, s2, hp, hn, ha⟩ => ?_⟩
        · subst e
          refine ⟨_, rfl, _, _, rfl, rfl, _, rfl, Cm.itD (fun h1 => ?_) fun h1 => ?_⟩
          · refine ⟨_, rfl, p, _, rfl, .inl (SqL.of hp), _, rfl, _, _, rfl, rfl, _, rfl, Cm.itD (fun h2 => ?_) fun h2 => ?_⟩
            · rw [len_map] at h2
              refine ⟨_, rfl, .inl ⟨rfl, _, SqL.of hp⟩, _, rfl, _, _, rfl, rfl, pMod, p, _, _, rfl, rfl, hp, Cm.smallL (by rw [len_map]; omega), ?_⟩
              refine ⟨_, rfl, _, _, rfl, rfl, ⟨by decide, by decide⟩, ?_⟩
              exact ⟨ms ++ [c % 10007], _, _, rfl, Cm.same_mut s2 np, by rw [upd_same, map_snoc], by rw [List.length_append]; simp only [List.length_cons, List.length_nil]; omega, num_snoc ha (by omega) (by omega)⟩
            · exact ⟨ms, c, _, rfl, s2, hp, hn, ha⟩
          · exact ⟨ms, c, _, rfl, s2, hp, hn, ha⟩
        · subst e
          exact ⟨ms, _, _, _, _, rfl, s2, hp, hn, ha⟩
      · refine ⟨_, rfl, p, _, rfl, .inl (SqL.of hp), _, rfl, _, _, rfl, rfl, _, rfl, Cm.itD (fun h2 => ?_) fun h2 => ?_⟩
        · rw [len_map] at h2
          refine ⟨_, rfl, _, _, rfl, rfl, .inr ⟨by decide, by decide⟩, _, rfl, _, _, rfl, rfl, .inr ⟨by decide, by decide⟩, _, _, rfl, rfl, _, _, rfl, rfl, .inl ⟨_, rfl, _, _, rfl, rfl, pMersenne, ?_⟩⟩
          refine ⟨_, rfl, .inl ⟨rfl, _, SqL.of hp⟩, _, rfl, _, _, rfl, rfl, .inr ⟨by decide, by decide⟩, _, rfl, _, _, rfl, rfl, .inl ⟨by decide, by decide⟩, _, _, rfl, rfl, _, _, rfl, rfl, .inl ⟨_, rfl, _, _, rfl, rfl, pMersenne, _, _, rfl, rfl, ⟨by decide, by decide⟩, p, _, _, rfl, rfl, hp, Cm.smallL (by rw [len_map]; omega), ?_⟩⟩
          have hy := mersenne ((c0 * 48271 + (0 + (i : Int)) * 69621 + 11) % 2147483647 * 16807 + 7 * (0 + (i : Int)) + 3)
          exact ⟨ms ++ [((c0 * 48271 + (0 + (i : Int)) * 69621 + 11) % 2147483647 * 16807 + 7 * (0 + (i : Int)) + 3) % 2147483647 / 3], _, _, _, _, rfl, Cm.same_mut s2 np, by rw [upd_same, map_snoc], by rw [List.length_append]; simp only [List.length_cons, List.length_nil]; omega, num_snoc ha (by omega) (by omega)⟩
        · exact ⟨ms, _, _, _, _, rfl, s2, hp, hn, ha⟩
    · subst e
      -- base = len(numbers)
      refine ⟨_, rfl, p, _, rfl, .inl (SqL.of hp), ?_⟩
      rw [len_map]
      refine ⟨_, rfl, l, _, rfl, .inl (s2.seq hl), _, _, rfl, rfl, ?_⟩
      rw [len_map]
      -- for k in range(max(0, many - base))
      refine ⟨_, rfl, _, rfl, _, _, rfl, rfl, _, _, rfl, _, rfl, by split <;> omega, by split <;> omega, ?_⟩
      rw [show (if (many : Int) - (ms.length : Int) > 0 then (many : Int) - (ms.length : Int) else 0).toNat = many - ms.length by split <;> omega]
      have nb : NumOk ms := ha
      refine for_range (n := many - ms.length) (fun i σ H2 => ∃ (m2 : List Int) (L : Int) (x3 : Option V), σ = [some (.ref l), some (.int many), some (.ref p), x3, x4, x5, x6, some (.int ms.length), some (.int L)] ∧ (0 ≤ L ∧ L < 2147483647) ∧ Same H H2 ∧ H2 p = some (.lst (m2.map V.int)) ∧ m2.length = ms.length + i ∧ NumOk m2)
        ⟨ms, _, _, rfl, ⟨by omega, by omega⟩, s2, hp, rfl, ha⟩ (fun i σ H2 hi ⟨m2, L, x3, e, hL, s2, hp, hn2, ha⟩ => ?_) fun σ H2 ⟨m2, L, x3, e, hL, s2, hp, hn2, ha⟩ => ?_
      · subst e
        refine ⟨_, rfl, _, _, rfl, rfl, _, rfl, Cm.itD (fun hb => ?_) fun hb => ?_⟩
        · have hb0 : (0 : Int) < (ms.length : Int) := hb
          have g0 := Int.emod_nonneg (0 + (i : Int)) (show (ms.length : Int) ≠ 0 by omega)
          have g1 := Int.emod_lt_of_pos (0 + (i : Int)) hb0
          obtain ⟨v, hv, ev⟩ := Cm.at_int (ns := m2) (i := (0 + (i : Int)) % (ms.length : Int)) g0 (by omega)
          obtain ⟨hv0, hv1⟩ := ha v hv
          refine ⟨_, rfl, _, rfl, _, rfl, _, rfl, _, _, rfl, rfl, hb0, p, _, _, _, rfl, rfl, SqL.of hp, ev, _, _, rfl, rfl, ?_⟩
          refine ⟨_, rfl, _, _, rfl, rfl, .inr ⟨by decide, by decide⟩, _, rfl, _, _, rfl, rfl, .inl ⟨_, rfl, _, _, rfl, rfl, pMersenne, ?_⟩⟩
          have hy := mersenne ((L + v) * 48271 + (0 + (i : Int)))
          refine ⟨_, rfl, .inl ⟨rfl, _, SqL.of hp⟩, _, rfl, _, _, rfl, rfl, ⟨by decide, by decide⟩, p, _, _, rfl, rfl, hp, Cm.smallL (by rw [len_map]; omega), ?_⟩
          exact ⟨m2 ++ [((L + v) * 48271 + (0 + (i : Int))) % 2147483647 / 7], _, _, rfl, hy, Cm.same_mut s2 np, by rw [upd_same, map_snoc], by rw [List.length_append]; simp only [List.length_cons, List.length_nil]; omega, num_snoc ha (by omega) (by omega)⟩
        · refine ⟨_, rfl, _, _, rfl, rfl, .inr ⟨by decide, by decide⟩, _, rfl, _, _, rfl, rfl, .inl ⟨_, rfl, _, _, rfl, rfl, pMersenne, ?_⟩⟩
          have hy := mersenne (L * 48271 + (0 + (i : Int)))
          refine ⟨_, rfl, .inl ⟨rfl, _, SqL.of hp⟩, _, rfl, _, _, rfl, rfl, ⟨by decide, by decide⟩, p, _, _, rfl, rfl, hp, Cm.smallL (by rw [len_map]; omega), ?_⟩
          exact ⟨m2 ++ [(L * 48271 + (0 + (i : Int))) % 2147483647 / 7], _, _, rfl, hy, Cm.same_mut s2 np, by rw [upd_same, map_snoc], by rw [List.length_append]; simp only [List.length_cons, List.length_nil]; omega, num_snoc ha (by omega) (by omega)⟩
      · subst e
        have hl2 : m2.length = many := by omega
        refine ⟨_, rfl, _, rfl, _, rfl, p, _, rfl, SqL.of hp, fun p2 np2 => ?_⟩
        rw [cut_all (by rw [len_map]; exact hl2)]
        exact q _ p2 m2 (s2.trans (Cm.same_new np2)) (s2.free np2) upd_same hl2 ha
/-- numbers[x % len(numbers)] -/
theorem at_mod {ns : List Int} (x : Int) (h : 0 < ns.length) : (0 : Int) < ((ns.map V.int).length : Int) ∧ ∃ v, v ∈ ns ∧ atI (ns.map V.int) (x % ((ns.map V.int).length : Int)) = some (.int v) := by
  have hp : (0 : Int) < ((ns.map V.int).length : Int) := by
    rw [len_map]
    omega
  have h0 := Int.emod_nonneg x (show ((ns.map V.int).length : Int) ≠ 0 by omega)
  have h1 := Int.emod_lt_of_pos x hp
  obtain ⟨v, hv, ev⟩ := Cm.at_int (ns := ns) h0 (by rw [len_map] at h1 ⊢; exact h1)
  exact ⟨hp, v, hv, ev⟩
/-! ### homes -/
def homeF (ns : List Int) (k pl : Int) : Int := (ns.sum + 3 * (ns.length : Int) + k) % pl
def spHome (K : PySem.W.Frag) : Sp := fun vs H Q _ => ∃ (b pr : Addr) (ns : List Int) (k pl : Int), vs = [.ref b, .int pl] ∧ SqT K H b [.ref pr, .int k] ∧ SqT K H pr (ns.map V.int) ∧ 0 < pl ∧ Q (.int (homeF ns k pl)) H
theorem ok_home_of (T : Txt K mg w a) : FnOk P w K mg base CX0 1 (He.ga K "home_of") a.d_home_of ["name", "places"] (spHome K) := by
  refine T.F_home_of.ok sc_home_of (fun vs H Q E h => ?_) (fun cdv A outer s H vs Q E hr h => ?_)
  · obtain ⟨b, pr, ns, k, pl, rfl, _⟩ := h
    rfl
  · obtain ⟨b, pr, ns, k, pl, rfl, hb, hp, h0, q⟩ := h
    refine ⟨_, PSs.nox (pss_cons (ps_asg (pv 0) (pg_tup (by rfl) (pgs_cons (pg_name (i := 2) sc_home_of.nd rfl (Or.inl rfl)) (pgs_cons (pg_name (i := 3) sc_home_of.nd rfl (Or.inl rfl)) pgs_nil))))
      (pss_one (ps_ret (pe_op op_mod (pe_op op_add (pe_op op_add (pe_callB (SumT.cr_sumT rfl) (by rfl) T.g_sum boot_sum (pa_cons (pv 2) pa_nil)) (pe_op op_mul pe_int (pe_callB call_len_seq (by rfl) T.g_len boot_len (pa_cons (pv 2) pa_nil)))) (pv 3)) (pv 1))))), ?_⟩
    refine ⟨_, rfl, b, _, rfl, hb, rfl, _, _, rfl, _, _, rfl, rfl, ?_⟩
    refine ⟨_, rfl, pr, ns, rfl, hp, _, rfl, pr, _, rfl, .inr hp, _, _, rfl, rfl, .inl ⟨by decide, by decide⟩, _, _, rfl, rfl, _, rfl, _, _, rfl, rfl, _, rfl, _, _, rfl, rfl, h0, ?_⟩
    rw [List.length_map]
    exact q
/-! ### a finder: its attributes, its marks -/
open ND
abbrev CF (K : PySem.W.Frag) : Addr := He.ga K "Finder"
def fldsF (me pl : Int) (d wl : Addr) : List (Str × V) := putF "_waiting" (.ref wl) (putF "_marks" (.ref d) (putF "_places" (.int pl) (putF "_me" (.int me) [])))
theorem fl_wait {me pl : Int} {d wl : Addr} : (fldsF me pl d wl).lookup ("_waiting" : Str) = some (.ref wl) := by
  unfold fldsF
  rw [lookup_putF, if_pos rfl]
theorem fl_marks {me pl : Int} {d wl : Addr} : (fldsF me pl d wl).lookup ("_marks" : Str) = some (.ref d) := by
  unfold fldsF
  rw [lookup_putF, if_neg (by decide +kernel), lookup_putF, if_pos rfl]
theorem fl_places {me pl : Int} {d wl : Addr} : (fldsF me pl d wl).lookup ("_places" : Str) = some (.int pl) := by
  unfold fldsF
  rw [lookup_putF, if_neg (by decide +kernel), lookup_putF, if_neg (by decide +kernel), lookup_putF, if_pos rfl]
theorem fl_me {me pl : Int} {d wl : Addr} : (fldsF me pl d wl).lookup ("_me" : Str) = some (.int me) := by
  unfold fldsF
  rw [lookup_putF, if_neg (by decide +kernel), lookup_putF, if_neg (by decide +kernel), lookup_putF, if_neg (by decide +kernel), lookup_putF, if_pos rfl]
theorem fl_no {me pl : Int} {d wl : Addr} {m : Str} (h : m ∉ (["_waiting", "_marks", "_places", "_me"] : List Str)) : (fldsF me pl d wl).lookup m = none := by
  simp only [List.mem_cons, List.not_mem_nil, or_false, not_or] at h
  obtain ⟨h1, h2, h3, h4⟩ := h
  unfold fldsF
  rw [lookup_putF, if_neg h1, lookup_putF, if_neg h2, lookup_putF, if_neg h3, lookup_putF, if_neg h4]
  rfl
theorem putF_len (f : Str) (v : V) : ∀ fs : List (Str × V), (putF f v fs).length ≤ fs.length + 1
  | [] => Nat.le_refl _
  | (g, u) :: r => by
    have ih := putF_len f v r
    unfold putF
    split <;> simp only [List.length_cons] <;> omega
theorem fl_len {me pl : Int} {d wl : Addr} : (fldsF me pl d wl).length ≤ 4 := by
  unfold fldsF
  have h1 := putF_len "_waiting" (.ref wl) (putF "_marks" (.ref d) (putF "_places" (.int pl) (putF "_me" (.int me) [])))
  have h2 := putF_len "_marks" (.ref d) (putF "_places" (.int pl) (putF "_me" (.int me) []))
  have h3 := putF_len "_places" (.int pl) (putF "_me" (.int me) [])
  have h4 := putF_len "_me" (.int me) []
  simp only [List.length_nil] at h4
  omega
abbrev Marks : Type := List (NestedKey × (Int × Int))
def MVal (K : PySem.W.Frag) (H : Hp) (v : V) (m : Int × Int) : Prop := ∃ b, v = .ref b ∧ SqT K H b [.int m.1, .int m.2]
abbrev MksV (K : PySem.W.Frag) (H : Hp) : List (NestedKey × V) → Marks → Prop := Paired fun p q => p.1 = q.1 ∧ MVal K H p.2 q.2
def lookM : Marks → NestedKey → Option (Int × Int)
  | [], _ => none
  | (x, m) :: r, k => if x = k then some m else lookM r k
def putM : Marks → NestedKey → (Int × Int) → Marks
  | [], k, m => [(k, m)]
  | (x, n) :: r, k, m => if x = k then (x, m) :: r else (x, n) :: putM r k m
def MOpt (K : PySem.W.Frag) (H : Hp) (v : V) : Option (Int × Int) → Prop
  | none => v = .non
  | some m => MVal K H v m
theorem putM_len (k : NestedKey) (m : Int × Int) : ∀ ms : Marks, (putM ms k m).length ≤ ms.length + 1
  | [] => Nat.le_refl _
  | (x, n) :: r => by
    have ih := putM_len k m r
    unfold putM
    split <;> simp only [List.length_cons] <;> omega
theorem lookM_putM (k k' : NestedKey) (m : Int × Int) : ∀ ms : Marks, lookM (putM ms k m) k' = if k = k' then some m else lookM ms k'
  | [] => by
    unfold putM lookM
    rfl
  | (x, n) :: r => by
    have ih := lookM_putM k k' m r
    unfold putM
    by_cases e : x = k
    · rw [if_pos e]
      subst e
      unfold lookM
      split <;> rfl
    · rw [if_neg e]
      unfold lookM
      by_cases e2 : x = k'
      · rw [if_pos e2, if_pos e2, if_neg fun z => e (e2.trans z.symm)]
      · rw [if_neg e2, if_neg e2, ih]
section
variable {H H' : Hp}
theorem MVal.keep (t : TK K H H') {v : V} {m : Int × Int} (h : MVal K H v m) : MVal K H' v m := by
  obtain ⟨b, e, hb⟩ := h
  exact ⟨b, e, t _ _ hb⟩
theorem MksV.keep (t : TK K H H') {kvs : List (NestedKey × V)} {ms : Marks} (h : MksV K H kvs ms) : MksV K H' kvs ms := Paired.mapP h fun _ _ z => ⟨z.1, z.2.keep t⟩
theorem MksV.look {kvs : List (NestedKey × V)} {ms : Marks} (h : MksV K H kvs ms) (k : NestedKey) : MOpt K H ((valV kvs k).getD .non) (lookM ms k) := by
  induction h with
  | nil => exact rfl
  | @cons p q ps qs h t ih =>
    obtain ⟨x, m⟩ := q
    obtain ⟨h1, h2⟩ := h
    unfold lookM
    by_cases e : x = k
    · rw [if_pos e, valV_pos (h1.trans e)]
      exact h2
    · rw [if_neg e, valV_neg (fun z => e (h1.symm.trans z))]
      exact ih
theorem MksV.none_of {kvs : List (NestedKey × V)} {ms : Marks} (h : MksV K H kvs ms) (k : NestedKey) : (valV kvs k).isSome = (lookM ms k).isSome := by
  induction h with
  | nil => exact rfl
  | @cons p q ps qs h t ih =>
    obtain ⟨x, m⟩ := q
    obtain ⟨h1, h2⟩ := h
    unfold lookM
    by_cases e : x = k
    · rw [if_pos e, valV_pos (h1.trans e)]
      rfl
    · rw [if_neg e, valV_neg (fun z => e (h1.symm.trans z))]
      exact ih
theorem putK_cons {p : NestedKey × V} {r : List (NestedKey × V)} {k : NestedKey} {v : V} (e : ¬ p.1 = k) : putK (p :: r) k v = p :: putK r k v := by
  unfold putK
  rw [List.any_cons, decide_eq_false e, Bool.false_or]
  by_cases h : (r.any fun kv => decide (kv.1 = k)) = true
  · rw [if_pos h, if_pos h, List.map_cons, if_neg e]
  · rw [if_neg h, if_neg h, List.cons_append]
theorem map_same {k : NestedKey} {v : V} : ∀ r : List (NestedKey × V), (∀ p ∈ r, p.1 ≠ k) → (r.map fun kv => if kv.1 = k then (kv.1, v) else kv) = r
  | [], _ => rfl
  | p :: r, h => by
    rw [List.map_cons, if_neg (h p List.mem_cons_self), map_same r fun x hx => h x (List.mem_cons_of_mem _ hx)]
theorem putK_head {p : NestedKey × V} {r : List (NestedKey × V)} {k : NestedKey} {v : V} (e : p.1 = k) (h : ∀ x ∈ r, x.1 ≠ k) : putK (p :: r) k v = (p.1, v) :: r := by
  unfold putK
  rw [List.any_cons, decide_eq_true e, Bool.true_or, if_pos rfl, List.map_cons, if_pos e, map_same r h]
theorem MksV.put {kvs : List (NestedKey × V)} {ms : Marks} (h : MksV K H kvs ms) (nd : (ms.map (·.1)).Nodup) {k : NestedKey} {v : V} {m : Int × Int} (hv : MVal K H v m) : MksV K H (putK kvs k v) (putM ms k m) := by
  induction h with
  | nil => exact .cons ⟨rfl, hv⟩ .nil
  | @cons p q ps qs h t ih =>
    obtain ⟨x, n⟩ := q
    obtain ⟨h1, h2⟩ := h
    rw [List.map_cons, List.nodup_cons] at nd
    unfold putM
    by_cases e : x = k
    · subst e
      have ne : ∀ y ∈ ps, y.1 ≠ x := by
        intro y hy z
        have all : ∀ {l : List (NestedKey × V)} {l' : Marks}, MksV K H l l' → ∀ y ∈ l, y.1 ∈ l'.map (·.1) := by
          intro l l' r
          induction r with
          | nil => intro y hy; cases hy
          | @cons a b as bs h0 t0 ih0 =>
            intro y hy
            rw [List.map_cons]
            rcases List.mem_cons.mp hy with e | hy
            · rw [e, h0.1]
              exact List.mem_cons_self
            · exact List.mem_cons_of_mem _ (ih0 y hy)
        exact nd.1 (z ▸ all t y hy)
      rw [if_pos rfl, putK_head h1 ne]
      exact .cons ⟨h1, hv⟩ t
    · rw [if_neg e, putK_cons fun z => e (h1.symm.trans z)]
      exact .cons ⟨h1, h2⟩ (ih nd.2)
end
theorem putM_keys (k : NestedKey) (m : Int × Int) : ∀ ms : Marks, ∀ x ∈ (putM ms k m).map (·.1), x = k ∨ x ∈ ms.map (·.1)
  | [], x, h => by
    unfold putM at h
    exact .inl (List.mem_singleton.mp h)
  | (y, n) :: r, x, h => by
    unfold putM at h
    by_cases e : y = k
    · rw [if_pos e] at h
      exact .inr h
    · rw [if_neg e, List.map_cons] at h
      rcases List.mem_cons.mp h with z | h
      · exact .inr (z ▸ List.mem_cons_self)
      · rcases putM_keys k m r x h with z | z
        · exact .inl z
        · exact .inr (List.mem_cons_of_mem _ z)
theorem putM_nodup (k : NestedKey) (m : Int × Int) : ∀ ms : Marks, (ms.map (·.1)).Nodup → ((putM ms k m).map (·.1)).Nodup
  | [], _ => by
    unfold putM
    simp
  | (y, n) :: r, h => by
    rw [List.map_cons, List.nodup_cons] at h
    unfold putM
    by_cases e : y = k
    · rw [if_pos e, List.map_cons, List.nodup_cons]
      exact h
    · rw [if_neg e, List.map_cons, List.nodup_cons]
      exact ⟨fun z => (putM_keys k m r y z).elim (fun z => e z) h.1, putM_nodup k m r h.2⟩
/-- a finder stands at p -/
structure FindAt (P : Program) (w : World) (K : PySem.W.Frag) (H : Hp) (p d wl : Addr) (me pl : Int) (ms : Marks) (ws : List V) : Prop where
  ob : ∃ dx, H p = some (.ins (CF K) dx (fldsF me pl d wl))
  dc : ∃ kvs, NDct P w K H d kvs ∧ MksV K H kvs ms
  wt : H wl = some (.lst ws)
  nd : (ms.map (·.1)).Nodup
theorem FindAt.same {H H' : Hp} {p d wl : Addr} {me pl : Int} {ms : Marks} {ws : List V} (s : Same H H') (F : FindAt P w K H p d wl me pl ms ws) : FindAt P w K H' p d wl me pl ms ws := by
  obtain ⟨⟨dx, h1⟩, ⟨kvs, h2, h3⟩, h4, h5⟩ := F
  exact ⟨⟨dx, s _ _ h1⟩, ⟨kvs, h2.same s, MksV.keep (TK.same s) h3⟩, s _ _ h4, h5⟩
/-- one other object is written -/
theorem FindAt.other {H : Hp} {c : Addr} {o : HO} {p d wl : Addr} {me pl : Int} {ms : Marks} {ws : List V} (m : Mut (H c)) (n1 : p ≠ c) (n2 : d ≠ c) (n3 : wl ≠ c) (F : FindAt P w K H p d wl me pl ms ws) :
    FindAt P w K (upd H c o) p d wl me pl ms ws := by
  obtain ⟨⟨dx, h1⟩, ⟨kvs, h2, h3⟩, h4, h5⟩ := F
  exact ⟨⟨dx, by rw [upd_ne n1]; exact h1⟩, ⟨kvs, h2.keep (TK.upd m) (upd_ne n2), MksV.keep (TK.upd m) h3⟩, by rw [upd_ne n3]; exact h4, h5⟩
/-! ### Finder(me, places) -/
def spFInit (P : Program) (w : World) (K : PySem.W.Frag) : Sp := fun vs H Q _ => ∃ (p dx : Addr) (me pl : Int), vs = [.ref p, .int me, .int pl] ∧ H p = some (.ins (CF K) dx []) ∧
  ∀ (d wl : Addr) (H' : Hp), H d = none → H wl = none → FindAt P w K H' p d wl me pl [] [] → (∀ b o, H b = some o → b ≠ p → H' b = some o) → Q .non H'
theorem ok_Finder_init (T : Txt K mg w a) : FnOk P w K mg base CX0 1 (He.ma K (CF K) "__init__") a.d_Finder_init ["self", "me", "places"] (spFInit P w K) := by
  refine T.F_Finder_init.ok sc_Finder_init (fun vs H Q E h => ?_) (fun cdv A outer s H vs Q E hr h => ?_)
  · obtain ⟨p, dx, me, pl, rfl, _⟩ := h
    rfl
  · obtain ⟨p, dx, me, pl, rfl, hp, q⟩ := h
    refine ⟨_, PSs.nox (pss_cons (ps_fld (pv 0) (pv 1) rfl)
      (pss_cons (ps_fld (pv 0) (pv 2) rfl)
      (pss_cons (ps_fld (pv 0) ND.pe_nnew rfl)
      (pss_one (ps_fld (pv 0) (pe_lst pa_nil) rfl))))), ?_⟩
    refine ⟨_, rfl, _, rfl, p, CF K, dx, [], rfl, hp, T.c_Finder, T.n_Finder__me, by decide, ?_⟩
    refine ⟨_, rfl, _, rfl, p, CF K, dx, _, rfl, upd_same, T.c_Finder, T.n_Finder__places, by have := putF_len "_me" (.int me) []; simp only [List.length_nil] at this; omega, ?_⟩
    intro d o hd g
    have np : p ≠ d := ne_of_none upd_same hd
    refine ⟨_, rfl, p, CF K, dx, _, rfl, by rw [upd_ne np]; exact upd_same, T.c_Finder, T.n_Finder__marks, by have h1 := putF_len "_places" (.int pl) (putF "_me" (.int me) []); have h2 := putF_len "_me" (.int me) []; simp only [List.length_nil] at h2; omega, ?_⟩
    refine ⟨Nat.zero_le _, fun wl hw => ?_⟩
    have np2 : p ≠ wl := ne_of_none upd_same hw
    have nd2 : d ≠ wl := by
      obtain ⟨u, hu, _⟩ := g.some
      refine ne_of_none (o := u) ?_ hw
      rw [upd_ne np.symm]
      exact hu
    refine ⟨_, rfl, p, CF K, dx, _, rfl, by rw [upd_ne np2]; exact upd_same, T.c_Finder, T.n_Finder__waiting, by have h0 := putF_len "_marks" (.ref d) (putF "_places" (.int pl) (putF "_me" (.int me) [])); have h1 := putF_len "_places" (.int pl) (putF "_me" (.int me) []); have h2 := putF_len "_me" (.int me) []; simp only [List.length_nil] at h2; omega, ?_⟩
    have hdn : H d = none := by
      rw [upd_ne np.symm, upd_ne np.symm] at hd
      exact hd
    have hwn : H wl = none := by
      rw [upd_ne np2.symm, upd_ne nd2.symm, upd_ne np2.symm, upd_ne np2.symm] at hw
      exact hw
    refine q d wl _ hdn hwn ⟨⟨dx, upd_same⟩, ⟨[], ?_, .nil⟩, ?_, List.nodup_nil⟩ fun b u hb hn => ?_
    · obtain ⟨xs, h1, h2⟩ := g
      refine ⟨xs, ?_, ?_⟩
      · rw [upd_ne np.symm, upd_ne nd2, upd_ne np.symm]
        exact h1
      · cases h2
        exact .nil
    · rw [upd_ne np2.symm, upd_same]
    · rw [upd_ne hn, upd_ne (ne_of_none hb hwn), upd_ne hn, upd_ne (ne_of_none hb hdn), upd_ne hn, upd_ne hn]
      exact hb
/-! ### finder.mark(name) -/
def spFMark (P : Program) (w : World) (K : PySem.W.Frag) : Sp := fun vs H Q _ => ∃ (p d wl : Addr) (me pl : Int) (ms : Marks) (ws : List V) (nm : V) (k : NestedKey), vs = [.ref p, nm] ∧ FindAt P w K H p d wl me pl ms ws ∧ KeyAt K H nm k ∧
  ∀ v, MOpt K H v (lookM ms k) → Q v H
theorem ok_Finder_mark (T : Txt K mg w a) : FnOk P w K mg base CX0 1 (He.ma K (CF K) "mark") a.d_Finder_mark ["self", "name"] (spFMark P w K) := by
  refine T.F_Finder_mark.ok sc_Finder_mark (fun vs H Q E h => ?_) (fun cdv A outer s H vs Q E hr h => ?_)
  · obtain ⟨p, d, wl, me, pl, ms, ws, nm, k, rfl, _⟩ := h
    rfl
  · obtain ⟨p, d, wl, me, pl, ms, ws, nm, k, rfl, F, hk, q⟩ := h
    obtain ⟨⟨dx, h1⟩, ⟨kvs, h2, h3⟩, h4, h5⟩ := id F
    refine ⟨_, PSs.nox (pss_one (ps_ret (ND.pe_nget1 (ND.nu_of hr) (pe_fld (pv 0) rfl) (pv 1) ⟨rfl, rfl, rfl, rfl⟩))), ?_⟩
    exact ⟨_, rfl, p, CF K, dx, _, _, rfl, h1, T.c_Finder, T.n_Finder__marks, fl_marks, d, kvs, rfl, h2, _, rfl, kvs, k, h2, hk, q _ (h3.look k)⟩
/-- a mark is stored -/
theorem FindAt.put {H : Hp} {p d wl t : Addr} {me pl : Int} {ms : Marks} {ws : List V} {k : NestedKey} {q c : Int} {o : HO} {kvs : List (NestedKey × V)} (F : FindAt P w K H p d wl me pl ms ws) (h3 : MksV K H kvs ms) (hd : Mut (H d)) (nt : H t = none)
    (g : NDct P w K (upd (upd H t (.tup [.int q, .int c])) d o) d (putK kvs k (.ref t))) : FindAt P w K (upd (upd H t (.tup [.int q, .int c])) d o) p d wl me pl (putM ms k (q, c)) ws := by
  obtain ⟨⟨dx, h1⟩, ⟨kvs', h2, h3'⟩, h4, h5⟩ := F
  have s1 : Same H (upd H t (.tup [.int q, .int c])) := Cm.same_new nt
  obtain ⟨u, hu, nl, nt', mu⟩ := h2.some
  have np : p ≠ d := fun e => by
    subst e
    obtain ⟨xs, e2, _⟩ := h2
    rw [h1] at e2
    cases e2
  have nw : wl ≠ d := fun e => by
    subst e
    rw [h4] at hu
    cases hu
    exact nl _ rfl
  have nd1 : d ≠ t := ne_of_none hu nt
  have tk : TK K (upd H t (.tup [.int q, .int c])) (upd (upd H t (.tup [.int q, .int c])) d o) := TK.upd (by rw [upd_ne nd1]; exact hd)
  refine ⟨⟨dx, by rw [upd_ne np]; exact s1 _ _ h1⟩, ⟨_, g, ?_⟩, by rw [upd_ne nw]; exact s1 _ _ h4, putM_nodup _ _ _ h5⟩
  exact MksV.put (MksV.keep ((TK.same s1).trans tk) h3) h5 ⟨t, rfl, tk _ _ (.inl (.inl upd_same))⟩
/-! ### finder.hear(name, place, count) -/
def hearM (ms : Marks) (k : NestedKey) (q c : Int) : Marks := match lookM ms k with
  | none => putM ms k (q, c)
  | some m => if c > m.2 then putM ms k (q, c) else ms
def spFHear (P : Program) (w : World) (K : PySem.W.Frag) : Sp := fun vs H Q E => ∃ (p d wl : Addr) (me pl : Int) (ms : Marks) (ws : List V) (nm : V) (k : NestedKey) (q c : Int), vs = [.ref p, nm, .int q, .int c] ∧ FindAt P w K H p d wl me pl ms ws ∧ KeyAt K H nm k ∧ ms.length ≤ 1000 ∧
  ((0 ≤ q ∧ q < pl) → 0 ≤ c → ∀ H', FindAt P w K H' p d wl me pl (hearM ms k q c) ws → (∀ b o, H b = some o → b ≠ d → H' b = some o) → Q .non H') ∧
  (¬ ((0 ≤ q ∧ q < pl) ∧ 0 ≤ c) → E (.ref (He.ga K "NotAllowed")) none H)
theorem ok_Finder_hear (T : Txt K mg w a) : FnOk P w K mg base (L2.CX P w) 2 (He.ma K (CF K) "hear") a.d_Finder_hear ["self", "name", "place", "count"] (spFHear P w K) := by
  refine T.F_Finder_hear.ok (CX := L2.CX P w) sc_Finder_hear (fun vs H Q E h => ?_) (fun cdv A outer s H vs Q E hr h => ?_)
  · obtain ⟨p, d, wl, me, pl, ms, ws, nm, k, q, c, rfl, _⟩ := h
    rfl
  · obtain ⟨p, d, wl, me, pl, ms, ws, nm, k, q, c, rfl, F, hk, hl, ok, bad⟩ := h
    obtain ⟨⟨dx, h1⟩, ⟨kvs, h2, h3⟩, h4, h5⟩ := id F
    refine ⟨_, (pss_cons (ps_if (PW.pt (pw_or (pt_not (pt_chain op_le op_lt pe_int (pv 2) (pe_fld (pv 0) rfl))) (pw_or1 (pt_cmpR op_lt (pv 3) pe_int (nomark _))))) (pss_one (ps_raise rfl (takes_of rfl rfl rfl rfl) (SkE.pmk_own1 PySem.F.excBase_ValueError T.x_NotAllowed T.g_NotAllowed T.k_NotAllowed (raises_own T.s_NotAllowed T.t_NotAllowed) (by rfl) pe_str))) pss_nil)
      (pss_cons (ps_set (i := 4) sc_Finder_hear.nd rfl (Or.inl rfl) (pe_meth (pv 0) T.c_Finder T.m_Finder_mark (ok_Finder_mark T) (hr.mono (by omega)) T.b_Finder_mark .nil pass0 (pa_cons (pv 1) pa_nil)))
      (pss_one (ps_if (PW.pt (pw_or (pt_cmpR op_isN (pv 4) pe_non (nomark _)) (pw_or1 (pt_cmpR op_gt (pv 3) (pe_ix ix_tup (pv 4) pe_int (fun _ _ => rfl)) (nomark _))))) (pss_one (ND.ps_nput (ND.nu_of hr) (pe_fld (pv 0) rfl) (pv 1) (pe_tup (pa_cons (pv 2) (pa_cons (pv 3) pa_nil))) rfl)) pss_nil)))), ?_⟩
    rw [show L2.start N_Finder_hear [.ref p, nm, .int q, .int c] = [some (.ref p), some nm, some (.int q), some (.int c), none] from rfl]
    refine ⟨_, rfl, _, _, rfl, rfl, _, rfl, Cm.itD (fun hq => ?_) fun hq => ?_⟩
    · refine ⟨_, rfl, p, CF K, dx, _, _, rfl, h1, T.c_Finder, T.n_Finder__places, fl_places, _, _, rfl, rfl, _, rfl, Cm.itDn (fun hq1 => ?_) fun hq1 => ?_⟩
      · exact iteT (bad fun z => hq1 z.1.2)
      refine ⟨_, rfl, _, _, rfl, rfl, _, rfl, Cm.itD (fun hc => ?_) fun hc => ?_⟩
      · exact bad fun z => by omega
      refine ⟨_, rfl, p, dx, _, rfl, h1, fl_no (by decide +kernel), _, rfl, p, d, wl, me, pl, ms, ws, nm, k, rfl, F, hk, fun v hv => ?_⟩
      cases hm : lookM ms k with
      | none =>
        rw [hm] at hv
        obtain rfl : v = .non := hv
        have eh : hearM ms k q c = putM ms k (q, c) := by
          unfold hearM
          rw [hm]
        refine ⟨_, rfl, rfl, _, rfl, Cm.itD (fun _ => ?_) fun e => absurd rfl e⟩
        refine ⟨_, rfl, _, rfl, Cm.small (by show 2 ≤ 100000; decide), fun t nt => ?_⟩
        have s1 : Same H (upd H t (.tup [.int q, .int c])) := Cm.same_new nt
        refine ⟨_, rfl, p, CF K, dx, _, _, rfl, s1 _ _ h1, T.c_Finder, T.n_Finder__marks, fl_marks, _, rfl, d, kvs, k, rfl, h2.same s1, hk.keep (TK.same s1), Cm.smallL (by rw [Paired.length h3]; omega), fun o g => ?_⟩
        have hq2 := ok ⟨hq, hq1⟩ (by omega)
        rw [eh] at hq2
        exact hq2 _ (F.put h3 (h2.some.choose_spec.2.2.2) nt g)
          fun b u hb hn => by rw [upd_ne hn]; exact s1 b u hb
      | some m =>
        rw [hm] at hv
        obtain ⟨b, rfl, hb⟩ := hv
        refine ⟨_, rfl, rfl, _, rfl, Cm.itD (fun e => nomatch e) fun _ => ?_⟩
        refine ⟨_, rfl, _, rfl, b, _, 1, _, rfl, rfl, hb, atI_nat (j := 1) rfl, _, _, rfl, rfl, _, rfl, Cm.itD (fun e2 => ?_) fun e2 => ?_⟩
        · have eh : hearM ms k q c = putM ms k (q, c) := by
            unfold hearM
            rw [hm]
            exact if_pos e2
          refine ⟨_, rfl, _, rfl, Cm.small (by show 2 ≤ 100000; decide), fun t nt => ?_⟩
          have s1 : Same H (upd H t (.tup [.int q, .int c])) := Cm.same_new nt
          refine ⟨_, rfl, p, CF K, dx, _, _, rfl, s1 _ _ h1, T.c_Finder, T.n_Finder__marks, fl_marks, _, rfl, d, kvs, k, rfl, h2.same s1, hk.keep (TK.same s1), Cm.smallL (by rw [Paired.length h3]; omega), fun o g => ?_⟩
          have hq2 := ok ⟨hq, hq1⟩ (by omega)
          rw [eh] at hq2
          exact hq2 _ (F.put h3 (h2.some.choose_spec.2.2.2) nt g)
            fun b u hb hn => by rw [upd_ne hn]; exact s1 b u hb
        · have eh : hearM ms k q c = ms := by
            unfold hearM
            rw [hm]
            exact if_neg e2
          have hq2 := ok ⟨hq, hq1⟩ (by omega)
          rw [eh] at hq2
          exact hq2 H F fun b u hb _ => hb
    · exact ⟨_, rfl, iteT (bad fun z => hq z.1.1)⟩
/-! ### finder.way(name, count, here) -/
def wayF (me home : Int) (m : Option (Int × Int)) (c : Int) : Option (Int × Int) :=
  let rest : Option (Int × Int) := if c ≥ 0 ∨ home = me then none else some (home, -1)
  match m with
  | some (q, n) => if n > c ∧ q ≠ me then some (q, n) else rest
  | none => rest
def nameK (ns : List Int) (j : Int) : NestedKey := .tup [.tup (ns.map .num), .num j]
theorem datas_num : ∀ ns : List Int, NestedKey.datas (ns.map .num) = ns.map PyData.int
  | [] => rfl
  | n :: ns => by
    rw [List.map_cons, NestedKey.datas, List.map_cons, datas_num ns]
    rfl
theorem rps_ints {H : Hp} : ∀ {vs : List V} {ns : List Int}, Rps K H vs (ns.map PyData.int) → vs = ns.map V.int
  | vs, [], r => by
    cases r
    rfl
  | vs, n :: ns, r => by
    rw [List.map_cons] at r
    cases r with
    | cons h t =>
      cases h
      rw [rps_ints t]
      rfl
theorem ints_rps {H : Hp} : ∀ ns : List Int, Rps K H (ns.map V.int) (ns.map PyData.int)
  | [] => .nil
  | n :: ns => .cons (.int n) (ints_rps ns)
/-- the parts of a name -/
theorem key_parts {H : Hp} {v : V} {ns : List Int} {j : Int} (h : KeyAt K H v (nameK ns j)) : ∃ b pr, v = .ref b ∧ SqT K H b [.ref pr, .int j] ∧ SqT K H pr (ns.map V.int) := by
  obtain ⟨r, _⟩ := h
  have r' : Rp K H v (.tuple [.tuple (ns.map PyData.int), .int j]) := by
    have e : (nameK ns j).data = .tuple [.tuple (ns.map PyData.int), .int j] := by
      simp only [nameK, NestedKey.data, NestedKey.datas, datas_num]
    rw [← e]
    exact r
  obtain ⟨b, vs, rfl, hb, hvs⟩ := r'.tup_inv
  obtain ⟨v1, r1, rfl, h1, h2⟩ := hvs.cons_inv
  obtain ⟨v2, r2, rfl, h3, h4⟩ := h2.cons_inv
  obtain rfl := h4.nil_inv
  obtain rfl := h3.int_inv
  obtain ⟨pr, us, rfl, hp, hus⟩ := h1.tup_inv
  rw [rps_ints hus] at hp
  exact ⟨b, pr, rfl, hb, hp⟩
theorem key_make {H : Hp} {b pr : Addr} {ns : List Int} {j : Int} (hb : SqT K H b [.ref pr, .int j]) (hp : SqT K H pr (ns.map V.int)) : KeyAt K H (.ref b) (nameK ns j) := by
  refine ⟨?_, ?_, _, rfl⟩
  · have e : (nameK ns j).data = .tuple [.tuple (ns.map PyData.int), .int j] := by
      simp only [nameK, NestedKey.data, NestedKey.datas, datas_num]
    rw [e]
    exact .tup hb (.cons (.tup hp (ints_rps ns)) (.cons (.int j) .nil))
  · have e : ∀ l : List Int, NestedKey.depthAll (l.map .num) = 0 := by
      intro l
      induction l with
      | nil => rfl
      | cons n l ih => simp only [List.map_cons, NestedKey.depthAll, NestedKey.depth, ih, Nat.max_self]
    simp only [nameK, NestedKey.depth, NestedKey.depthAll, e]
    decide
def spFWay (P : Program) (w : World) (K : PySem.W.Frag) : Sp := fun vs H Q _ => ∃ (p d wl : Addr) (me pl : Int) (ms : Marks) (ws : List V) (nm : V) (ns : List Int) (j c : Int) (here : Bool), vs = [.ref p, nm, .int c, .bl here] ∧ FindAt P w K H p d wl me pl ms ws ∧ KeyAt K H nm (nameK ns j) ∧ 0 < pl ∧
  (here = true → Q (.str "here") H) ∧ (here = false → (wayF me (homeF ns j pl) (lookM ms (nameK ns j)) c = none → Q (.str "park") H) ∧
    ∀ q n, wayF me (homeF ns j pl) (lookM ms (nameK ns j)) c = some (q, n) → ∀ H' r, Same H H' → SqT K H' r [.str "go", .int q, .int n] → Q (.ref r) H')
theorem ok_Finder_way (T : Txt K mg w a) : FnOk P w K mg base CX0 2 (He.ma K (CF K) "way") a.d_Finder_way ["self", "name", "count", "here"] (spFWay P w K) := by
  refine T.F_Finder_way.ok sc_Finder_way (fun vs H Q E h => ?_) (fun cdv A outer s H vs Q E hr h => ?_)
  · obtain ⟨p, d, wl, me, pl, ms, ws, nm, ns, j, c, here, rfl, _⟩ := h
    rfl
  · obtain ⟨p, d, wl, me, pl, ms, ws, nm, ns, j, c, here, rfl, F, hk, hpl, q1, q2⟩ := h
    obtain ⟨⟨dx, h1⟩, ⟨kvs, h2, h3⟩, h4, h5⟩ := id F
    refine ⟨_, PSs.nox (pss_cons (ps_if (pt_val (pv 3)) (pss_one (ps_ret pe_str)) pss_nil)
      (pss_cons (ps_set (i := 4) sc_Finder_way.nd rfl (Or.inl rfl) (pe_meth (pv 0) T.c_Finder T.m_Finder_mark (ok_Finder_mark T) (hr.mono (by omega)) T.b_Finder_mark .nil pass0 (pa_cons (pv 1) pa_nil)))
      (pss_cons (ps_if (PW.pt (pw_and (pt_cmpR op_notN (pv 4) pe_non (nomark _)) (pw_and (pt_cmpR op_gt (pe_ix ix_tup (pv 4) pe_int (fun _ _ => rfl)) (pv 2) (nomark _)) (pw_and1 (pt_cmpR op_ne (pe_ix ix_tup (pv 4) pe_int (fun _ _ => rfl)) (pe_fld (pv 0) rfl) (nomark _)))))) (pss_one (ps_ret (pe_op op_catA (pe_tup (pa_cons pe_str pa_nil)) (pv 4)))) pss_nil)
      (pss_cons (ps_set (i := 5) sc_Finder_way.nd rfl (Or.inl rfl) (pe_call (ok_home_of T) (hr.mono (by omega)) (by rfl) T.g_home_of T.F_home_of.kp T.b_home_of .nil pass0 (pa_cons (pv 1) (pa_cons (pe_fld (pv 0) rfl) pa_nil))))
      (pss_cons (ps_if (PW.pt (pw_or (pt_cmpR op_ge (pv 2) pe_int (nomark _)) (pw_or1 (pt_cmpR op_eq (pv 5) (pe_fld (pv 0) rfl) (nomark _))))) (pss_one (ps_ret pe_str)) pss_nil)
      (pss_one (ps_ret (pe_tup (pa_cons pe_str (pa_cons (pv 5) (pa_cons (pe_un un_neg pe_int) pa_nil))))))))))), ?_⟩
    rw [show L2.start N_Finder_way [.ref p, nm, .int c, .bl here] = [some (.ref p), some nm, some (.int c), some (.bl here), none, none] from rfl]
    refine ⟨_, rfl, _, rfl, Cm.itB (fun e => ?_) fun e => ?_⟩
    · exact q1 e
    obtain ⟨q2, q3⟩ := q2 e
    refine ⟨_, rfl, p, dx, _, rfl, h1, fl_no (by decide +kernel), _, rfl, p, d, wl, me, pl, ms, ws, nm, _, rfl, F, hk, fun v hv => ?_⟩
    obtain ⟨b0, pr, rfl, hb0, hp0⟩ := key_parts hk
    cases hm : lookM ms (nameK ns j) with
    | none =>
      rw [hm] at hv q2 q3
      obtain rfl : v = .non := hv
      have ew : wayF me (homeF ns j pl) none c = if c ≥ 0 ∨ homeF ns j pl = me then none else some (homeF ns j pl, -1) := rfl
      refine ⟨_, rfl, rfl, _, rfl, Cm.itDn (fun e => absurd rfl e) fun _ => ?_⟩
      refine ⟨_, rfl, _, rfl, p, CF K, dx, _, _, rfl, h1, T.c_Finder, T.n_Finder__places, fl_places, b0, pr, ns, j, pl, rfl, hb0, hp0, hpl, ?_⟩
      refine ⟨_, rfl, _, _, rfl, rfl, _, rfl, Cm.itD (fun e1 => ?_) fun e1 => ?_⟩
      · exact q2 (ew.trans (if_pos (.inl e1)))
      refine ⟨_, rfl, _, rfl, p, CF K, dx, _, _, rfl, h1, T.c_Finder, T.n_Finder__me, fl_me, rfl, _, rfl, Cm.itEI (fun e2 => ?_) fun e2 => ?_⟩
      · exact q2 (ew.trans (if_pos (.inr e2)))
      refine ⟨_, rfl, _, rfl, Cm.small (by show 3 ≤ 100000; decide), fun t nt => ?_⟩
      exact q3 _ _ (ew.trans (if_neg fun z => z.elim e1 e2)) _ t (Cm.same_new nt) Cm.sqt_new
    | some m =>
      obtain ⟨mq, mn⟩ := m
      rw [hm] at hv q2 q3
      obtain ⟨b, rfl, hb⟩ := hv
      refine ⟨_, rfl, rfl, _, rfl, Cm.itDn (fun _ => ?_) fun e => nomatch e⟩
      refine ⟨_, rfl, b, _, 1, _, rfl, rfl, hb, atI_nat (j := 1) rfl, _, rfl, _, _, rfl, rfl, _, rfl, Cm.itD (fun f1 => ?_) fun f1 => ?_⟩
      · refine ⟨_, rfl, b, _, 0, _, rfl, rfl, hb, atI_nat (j := 0) rfl, _, rfl, p, CF K, dx, _, _, rfl, h1, T.c_Finder, T.n_Finder__me, fl_me, rfl, _, rfl, Cm.itNI (fun f2 => ?_) fun f2 => ?_⟩
        · refine ⟨Cm.small (by show 1 ≤ 100000; decide), fun t nt => ⟨_, rfl, Nst.cat_sq Cm.sqt_new (Cm.sameT (Cm.same_new nt) hb) (by show 3 ≤ 100000; decide) fun r H' s' hr' => ?_⟩⟩
          exact q3 mq mn (if_pos ⟨f1, f2⟩) _ r ((Cm.same_new nt).trans s') hr'
        · have ew : wayF me (homeF ns j pl) (some (mq, mn)) c = if c ≥ 0 ∨ homeF ns j pl = me then none else some (homeF ns j pl, -1) := if_neg fun z => z.2 f2
          refine ⟨_, rfl, _, rfl, p, CF K, dx, _, _, rfl, h1, T.c_Finder, T.n_Finder__places, fl_places, b0, pr, ns, j, pl, rfl, hb0, hp0, hpl, ?_⟩
          refine ⟨_, rfl, _, _, rfl, rfl, _, rfl, Cm.itD (fun e1 => ?_) fun e1 => ?_⟩
          · exact q2 (ew.trans (if_pos (.inl e1)))
          refine ⟨_, rfl, _, rfl, p, CF K, dx, _, _, rfl, h1, T.c_Finder, T.n_Finder__me, fl_me, rfl, _, rfl, Cm.itEI (fun e2 => ?_) fun e2 => ?_⟩
          · exact q2 (ew.trans (if_pos (.inr e2)))
          refine ⟨_, rfl, _, rfl, Cm.small (by show 3 ≤ 100000; decide), fun t nt => ?_⟩
          exact q3 _ _ (ew.trans (if_neg fun z => z.elim e1 e2)) _ t (Cm.same_new nt) Cm.sqt_new
      · have ew : wayF me (homeF ns j pl) (some (mq, mn)) c = if c ≥ 0 ∨ homeF ns j pl = me then none else some (homeF ns j pl, -1) := if_neg fun z => f1 z.1
        refine ⟨_, rfl, _, rfl, p, CF K, dx, _, _, rfl, h1, T.c_Finder, T.n_Finder__places, fl_places, b0, pr, ns, j, pl, rfl, hb0, hp0, hpl, ?_⟩
        refine ⟨_, rfl, _, _, rfl, rfl, _, rfl, Cm.itD (fun e1 => ?_) fun e1 => ?_⟩
        · exact q2 (ew.trans (if_pos (.inl e1)))
        refine ⟨_, rfl, _, rfl, p, CF K, dx, _, _, rfl, h1, T.c_Finder, T.n_Finder__me, fl_me, rfl, _, rfl, Cm.itEI (fun e2 => ?_) fun e2 => ?_⟩
        · exact q2 (ew.trans (if_pos (.inr e2)))
        refine ⟨_, rfl, _, rfl, Cm.small (by show 3 ≤ 100000; decide), fun t nt => ?_⟩
        exact q3 _ _ (ew.trans (if_neg fun z => z.elim e1 e2)) _ t (Cm.same_new nt) Cm.sqt_new
theorem wayF_none {me home c : Int} {m : Option (Int × Int)} (h : wayF me home m c = none) : (c ≥ 0 ∨ home = me) ∧ ∀ q n, m = some (q, n) → ¬ (n > c ∧ q ≠ me) := by
  unfold wayF at h
  cases m with
  | none =>
    by_cases e : c ≥ 0 ∨ home = me
    · exact ⟨e, fun _ _ z => nomatch z⟩
    · simp only [if_neg e] at h
      cases h
  | some qn =>
    obtain ⟨q, n⟩ := qn
    by_cases f : n > c ∧ q ≠ me
    · simp only [if_pos f] at h
      cases h
    · simp only [if_neg f] at h
      by_cases e : c ≥ 0 ∨ home = me
      · exact ⟨e, fun _ _ z => by cases z; exact f⟩
      · simp only [if_neg e] at h
        cases h
theorem wayF_some {me home c q n : Int} {m : Option (Int × Int)} (h : wayF me home m c = some (q, n)) : (m = some (q, n) ∧ n > c ∧ q ≠ me) ∨ (q = home ∧ n = -1 ∧ c < 0 ∧ home ≠ me) := by
  unfold wayF at h
  cases m with
  | none =>
    by_cases e : c ≥ 0 ∨ home = me
    · simp only [if_pos e] at h
      cases h
    · simp only [if_neg e] at h
      cases h
      exact .inr ⟨rfl, rfl, by omega, fun z => e (.inr z)⟩
  | some qn =>
    obtain ⟨q', n'⟩ := qn
    by_cases f : n' > c ∧ q' ≠ me
    · simp only [if_pos f] at h
      cases h
      exact .inl ⟨rfl, f⟩
    · simp only [if_neg f] at h
      by_cases e : c ≥ 0 ∨ home = me
      · simp only [if_pos e] at h
        cases h
      · simp only [if_neg e] at h
        cases h
        exact .inr ⟨rfl, rfl, by omega, fun z => e (.inr z)⟩
/-- a row of finders, all of whose marks of the object are in the world, with counts from 0 to 9 -/
abbrev MkOk (pl : Int) (m : Option (Int × Int)) : Prop := ∀ q n, m = some (q, n) → (0 ≤ q ∧ q < pl) ∧ 0 ≤ n ∧ n ≤ 9
def FsAt (P : Program) (w : World) (K : PySem.W.Frag) (H : Hp) (ps : List Addr) (pl : Int) (k : NestedKey) (c : Addr) : Prop := ∀ (i : Nat) (p : Addr), ps[i]? = some p → ∃ d wl ms, FindAt P w K H p d wl (i : Int) pl ms [] ∧ MkOk pl (lookM ms k) ∧ p ≠ c ∧ d ≠ c ∧ wl ≠ c
theorem FsAt.same {H H' : Hp} {ps : List Addr} {pl : Int} {k : NestedKey} {c : Addr} (s : Same H H') (F : FsAt P w K H ps pl k c) : FsAt P w K H' ps pl k c := fun i p h => by
  obtain ⟨d, wl, ms, h1, h2, h3⟩ := F i p h
  exact ⟨d, wl, ms, h1.same s, h2, h3⟩
def spFollow (P : Program) (w : World) (K : PySem.W.Frag) : Sp := fun vs H Q _ => ∃ (fl : Addr) (nm : V) (pn : Nat) (c : Int) (ps : List Addr) (ns : List Int) (j : Int), vs = [.ref fl, nm, .int pn, .int c] ∧ H fl = some (.lst (ps.map V.ref)) ∧ FsAt P w K H ps (ps.length : Int) (nameK ns j) fl ∧ KeyAt K H nm (nameK ns j) ∧
  pn < ps.length ∧ -1 ≤ c ∧ c ≤ 9 ∧ ∀ H', Same H H' → Q (.bl true) H'
theorem at_ref {ps : List Addr} {n : Nat} (h : n < ps.length) : ∃ p, ps[n]? = some p ∧ atI (ps.map V.ref) (n : Int) = some (.ref p) := by
  refine ⟨ps[n], List.getElem?_eq_getElem h, atI_nat ?_⟩
  rw [List.getElem?_map, List.getElem?_eq_getElem h]
  rfl
theorem ok_lw_follow (T : Txt K mg w a) : FnOk P w K mg base CX0 3 (He.ga K "_law_follow") a.d_lw_follow ["finders", "name", "place", "count"] (spFollow P w K) := by
  refine T.F_lw_follow.ok sc_lw_follow (fun vs H Q E h => ?_) (fun cdv A outer s H vs Q E hr h => ?_)
  · obtain ⟨fl, nm, pn, c, ps, ns, j, rfl, _⟩ := h
    rfl
  · obtain ⟨fl, nm, pn, c, ps, ns, j, rfl, hfl, FS, hk, hpn, hc1, hc9, q⟩ := h
    refine ⟨_, PSs.nox (pss_cons (ps_set (i := 4) sc_lw_follow.nd rfl (Or.inl rfl) (pe_call (ok_home_of T) (hr.mono (by omega)) (by rfl) T.g_home_of T.F_home_of.kp T.b_home_of .nil pass0 (pa_cons (pv 1) (pa_cons (pe_callB call_len_seq (by rfl) T.g_len boot_len (pa_cons (pv 0) pa_nil)) pa_nil))))
      (pss_cons (ps_for PassesOwn.never rfl (pi_range1 (by rfl) T.g_range (pa_cons pe_int pa_nil)) (pg_name (i := 5) sc_lw_follow.nd rfl (Or.inl rfl))
      (pss_cons (ps_set (i := 6) sc_lw_follow.nd rfl (Or.inl rfl) (pe_meth (pe_ix ix_list (pv 0) (pv 2) (fun _ _ => rfl)) T.c_Finder T.m_Finder_way (ok_Finder_way T) (hr.mono (by omega)) T.b_Finder_way .nil pass0 (pa_cons (pv 1) (pa_cons (pv 3) (pa_cons pe_bl pa_nil)))))
      (pss_cons (ps_if (pt_cmpR (op_eqD hr.units) (pv 6) pe_str (nomark _)) (pss_cons (ps_set (i := 7) sc_lw_follow.nd rfl (Or.inl rfl) (pe_meth (pe_ix ix_list (pv 0) (pv 2) (fun _ _ => rfl)) T.c_Finder T.m_Finder_mark (ok_Finder_mark T) (hr.mono (by omega)) T.b_Finder_mark .nil pass0 (pa_cons (pv 1) pa_nil)))
      (pss_cons (ps_if (PW.pt (pw_and (pt_cmpR op_lt (pv 3) pe_int (nomark _)) (pw_and1 (pt_cmpR op_ne (pv 2) (pv 4) (nomark _))))) (pss_one (ps_ret pe_bl)) pss_nil)
      (pss_one (ps_ret (pe_and (pe_cmpR op_le (pv 5) pe_int (nomark _)) (pe_one (pe_or (pe_cmpR op_isN (pv 7) pe_non (nomark _)) (pe_or (pe_cmpR op_eq (pe_ix ix_tup (pv 7) pe_int (fun _ _ => rfl)) (pv 2) (nomark _)) (pe_one (pe_cmpR op_le (pe_ix ix_tup (pv 7) pe_int (fun _ _ => rfl)) (pv 3) (nomark _))))))))))) pss_nil)
      (pss_cons (ps_if (PW.pt (pw_or (pt_cmpR op_ne (pe_callB call_len_seq (by rfl) T.g_len boot_len (pa_cons (pv 6) pa_nil)) pe_int (nomark _)) (pw_or (pt_cmpR op_ne (pe_ix ix_tup (pv 6) pe_int (fun _ _ => rfl)) pe_str (nomark _)) (pw_or1 (pt_cmpR op_eq (pe_ix ix_tup (pv 6) pe_int (fun _ _ => rfl)) (pv 2) (nomark _)))))) (pss_one (ps_ret pe_bl)) pss_nil)
      (pss_cons (ps_if (PW.pt (pw_and (pt_cmpR op_eq (pe_ix ix_tup (pv 6) pe_int (fun _ _ => rfl)) (pe_un un_neg pe_int) (nomark _)) (pw_and1 (PW.pt (pw_or (pt_cmpR op_gt (pv 5) pe_int (nomark _)) (pw_or (pt_cmpR op_ne (pv 3) (pe_un un_neg pe_int) (nomark _)) (pw_or1 (pt_cmpR op_ne (pe_ix ix_tup (pv 6) pe_int (fun _ _ => rfl)) (pv 4) (nomark _))))))))) (pss_one (ps_ret pe_bl)) pss_nil)
      (pss_cons (ps_if (PW.pt (pw_and (pt_cmpR op_ge (pe_ix ix_tup (pv 6) pe_int (fun _ _ => rfl)) pe_int (nomark _)) (pw_and1 (pt_cmpR op_le (pe_ix ix_tup (pv 6) pe_int (fun _ _ => rfl)) (pv 3) (nomark _))))) (pss_one (ps_ret pe_bl)) pss_nil)
      (pss_cons (ps_set (i := 2) sc_lw_follow.nd rfl (Or.inl rfl) (pe_ix ix_tup (pv 6) pe_int (fun _ _ => rfl)))
      (pss_one (ps_set (i := 3) sc_lw_follow.nd rfl (Or.inl rfl) (pe_ix ix_tup (pv 6) pe_int (fun _ _ => rfl)))))))))))
      (pss_one (ps_ret pe_bl)))), ?_⟩
    obtain ⟨b0, pr, rfl, hb0, hp0⟩ := key_parts hk
    have lps : ((ps.map V.ref).length : Int) = (ps.length : Int) := by rw [List.length_map]
    refine ⟨_, rfl, _, rfl, fl, _, rfl, .inl (SqL.of hfl), b0, pr, ns, j, _, rfl, hb0, hp0, by rw [lps]; omega, ?_⟩
    rw [lps]
    generalize hhome : homeF ns j (ps.length : Int) = home
    have hh0 : 0 ≤ home ∧ home < (ps.length : Int) := by
      rw [← hhome]
      exact ⟨Int.emod_nonneg _ (by omega), Int.emod_lt_of_pos _ (by omega)⟩
    refine ⟨14, rfl, by decide, by decide, for_range (n := 14) (fun i σ H2 => ∃ (pn : Nat) (c : Int) (x5 x6 x7 : Option V), σ = [some (.ref fl), some (.ref b0), some (.int pn), some (.int c), some (.int home), x5, x6, x7] ∧ Same H H2 ∧ pn < ps.length ∧ -1 ≤ c ∧ c ≤ 9 ∧ (i : Int) ≤ c + 2 ∧ (0 < i → c = -1 → (pn : Int) = home))
      ⟨pn, c, _, _, _, rfl, Same.refl H, hpn, hc1, hc9, by omega, fun z => absurd z (Nat.lt_irrefl 0)⟩ (fun i σ H2 hi ⟨pn, c, x5, x6, x7, e, s2, hpn, hc1, hc9, hic, hst⟩ => ?_) fun σ H2 ⟨pn, c, x5, x6, x7, e, s2, hpn, hc1, hc9, hic, hst⟩ => ?_⟩
    · subst e
      obtain ⟨p, hp, ep⟩ := at_ref hpn
      obtain ⟨d, wl, ms, F, ok, _⟩ := FS.same s2 pn p hp
      obtain ⟨⟨dx, h1⟩, _⟩ := id F
      have hk2 : KeyAt K H2 (.ref b0) (nameK ns j) := hk.keep (TK.same s2)
      have hfl2 := s2 _ _ hfl
      refine ⟨_, rfl, _, rfl, fl, _, _, _, rfl, rfl, SqL.of hfl2, ep, p, dx, _, rfl, h1, fl_no (by decide +kernel), _, rfl, _, rfl, p, d, wl, _, _, ms, _, _, ns, j, c, false, rfl, F, hk2, by omega, (fun e => nomatch e), fun _ => ⟨fun e1 => ?_, fun gq gn e1 H3 r s3 hr3 => ?_⟩⟩
      · rw [hhome] at e1
        obtain ⟨w1, w2⟩ := wayF_none e1
        refine ⟨_, rfl, _, _, .str "park", .str "park", by decide +kernel, by decide +kernel, _, rfl, Cm.itB (fun _ => ?_) fun z => absurd z (by decide +kernel)⟩
        refine ⟨_, rfl, _, rfl, fl, _, _, _, rfl, rfl, SqL.of hfl2, ep, p, dx, _, rfl, h1, fl_no (by decide +kernel), _, rfl, p, d, wl, _, _, ms, _, _, _, rfl, F, hk2, fun v hv => ?_⟩
        refine ⟨_, rfl, _, _, rfl, rfl, _, rfl, Cm.itD (fun g1 => ?_) fun g1 => ?_⟩
        · have ehome : home = (pn : Int) := w1.elim (fun z => absurd g1 (by omega)) id
          refine ⟨_, rfl, _, rfl, rfl, _, rfl, Cm.itNI (fun z => absurd ehome.symm z) fun _ => ?_⟩
          cases hm : lookM ms (nameK ns j) with
          | none =>
            rw [hm] at hv
            obtain rfl : v = .non := hv
            exact ⟨_, rfl, _, _, rfl, rfl, _, rfl, Cm.itD (fun _ => ⟨_, rfl, rfl, _, rfl, Cm.itD (fun _ => q H2 s2) fun z => absurd rfl z⟩) fun z => absurd (show (0 + (i : Int)) ≤ 11 by omega) z⟩
          | some m =>
            obtain ⟨mq, mn⟩ := m
            rw [hm] at hv
            obtain ⟨b, rfl, hb⟩ := hv
            have w3 := w2 mq mn hm
            refine ⟨_, rfl, _, _, rfl, rfl, _, rfl, Cm.itD (fun _ => ⟨_, rfl, rfl, _, rfl, Cm.itD (fun z => nomatch z) fun _ => ?_⟩) fun z => absurd (show (0 + (i : Int)) ≤ 11 by omega) z⟩
            refine ⟨_, rfl, b, _, 0, _, rfl, rfl, hb, atI_nat (j := 0) rfl, _, rfl, rfl, _, rfl, Cm.itEI (fun _ => q H2 s2) fun g2 => ?_⟩
            refine ⟨_, rfl, b, _, 1, _, rfl, rfl, hb, atI_nat (j := 1) rfl, _, rfl, _, _, rfl, rfl, ?_⟩
            have e5 := decide_eq_true (show mn ≤ c from Int.not_lt.mp fun z => w3 ⟨z, g2⟩)
            show Q (.bl (decide (mn ≤ c))) H2
            rw [e5]
            exact q H2 s2
        · refine iteF ?_
          cases hm : lookM ms (nameK ns j) with
          | none =>
            rw [hm] at hv
            obtain rfl : v = .non := hv
            exact ⟨_, rfl, _, _, rfl, rfl, _, rfl, Cm.itD (fun _ => ⟨_, rfl, rfl, _, rfl, Cm.itD (fun _ => q H2 s2) fun z => absurd rfl z⟩) fun z => absurd (show (0 + (i : Int)) ≤ 11 by omega) z⟩
          | some m =>
            obtain ⟨mq, mn⟩ := m
            rw [hm] at hv
            obtain ⟨b, rfl, hb⟩ := hv
            have w3 := w2 mq mn hm
            refine ⟨_, rfl, _, _, rfl, rfl, _, rfl, Cm.itD (fun _ => ⟨_, rfl, rfl, _, rfl, Cm.itD (fun z => nomatch z) fun _ => ?_⟩) fun z => absurd (show (0 + (i : Int)) ≤ 11 by omega) z⟩
            refine ⟨_, rfl, b, _, 0, _, rfl, rfl, hb, atI_nat (j := 0) rfl, _, rfl, rfl, _, rfl, Cm.itEI (fun _ => q H2 s2) fun g2 => ?_⟩
            refine ⟨_, rfl, b, _, 1, _, rfl, rfl, hb, atI_nat (j := 1) rfl, _, rfl, _, _, rfl, rfl, ?_⟩
            have e5 := decide_eq_true (show mn ≤ c from Int.not_lt.mp fun z => w3 ⟨z, g2⟩)
            show Q (.bl (decide (mn ≤ c))) H2
            rw [e5]
            exact q H2 s2
      · rw [hhome] at e1
        have hw := wayF_some e1
        have hk3 := hr3
        have rr : Rp K H3 (.ref r) (.tuple [.str "go", .int gq, .int gn]) := .tup hr3 (.cons (.str "go") (.cons (.int gq) (.cons (.int gn) .nil)))
        refine ⟨_, rfl, _, _, rr.dp, (Rp.str "park").dp, Nst.shaped_w2 (by decide +kernel) _ _, by decide +kernel, _, rfl, Cm.itB (fun z => absurd z (by simp [PyData.eqv])) fun _ => ?_⟩
        refine ⟨_, rfl, r, _, rfl, .inr hr3, rfl, _, rfl, Cm.itNI (fun z => absurd rfl z) fun _ => ?_⟩
        refine ⟨_, rfl, r, _, 0, _, rfl, rfl, hr3, atI_nat (j := 0) rfl, rfl, _, rfl, Cm.itNS (fun z => absurd rfl z) fun _ => ?_⟩
        have gne : gq ≠ (pn : Int) := by
          rcases hw with ⟨_, _, z⟩ | ⟨z1, _, _, z⟩
          · exact z
          · rw [z1]
            exact z
        refine ⟨_, rfl, r, _, 1, _, rfl, rfl, hr3, atI_nat (j := 1) rfl, _, rfl, rfl, _, rfl, Cm.itEI (fun z => absurd z gne) fun _ => ?_⟩
        have gin : 0 ≤ gq ∧ gq < (ps.length : Int) := by
          rcases hw with ⟨z, _⟩ | ⟨z1, _⟩
          · exact (ok gq gn z).1
          · rw [z1]
            exact hh0
        have s23 := s2.trans s3
        refine ⟨_, rfl, r, _, 2, _, rfl, rfl, hr3, atI_nat (j := 2) rfl, _, rfl, rfl, _, rfl, Cm.itEI (fun z => ?_) fun z => ?_⟩
        · -- way[2] == -1: one step to the home, at the beginning
          rcases hw with ⟨z1, z2, z3⟩ | ⟨z1, z2, z3, z4⟩
          · exact absurd (ok gq gn z1).2.1 (by omega)
          · have hi0 : i = 0 := Nat.eq_zero_of_not_pos fun z5 => z4 (hst z5 (by omega)).symm
            subst hi0
            refine ⟨_, rfl, _, _, rfl, rfl, _, rfl, Cm.itD (fun z5 => absurd z5 (by decide)) fun _ => ?_⟩
            refine ⟨_, rfl, _, rfl, rfl, _, rfl, Cm.itNI (fun z5 => absurd (show c = -1 by omega) z5) fun _ => ?_⟩
            refine ⟨_, rfl, r, _, 1, _, rfl, rfl, hr3, atI_nat (j := 1) rfl, _, rfl, rfl, _, rfl, Cm.itNI (fun z5 => absurd z1 z5) fun _ => ?_⟩
            refine ⟨_, rfl, r, _, 2, _, rfl, rfl, hr3, atI_nat (j := 2) rfl, _, _, rfl, rfl, _, rfl, Cm.itD (fun z5 => absurd z5 (by omega)) fun _ => ?_⟩
            have s23' : Same H H3 := s23
            have ec : ((gq.toNat : Nat) : Int) = gq := Int.toNat_of_nonneg gin.1
            refine ⟨_, rfl, r, _, 1, _, rfl, rfl, hr3, atI_nat (j := 1) rfl, ?_⟩
            refine ⟨_, rfl, r, _, 2, _, rfl, rfl, hr3, atI_nat (j := 2) rfl, ?_⟩
            refine ⟨gq.toNat, gn, _, _, _, by rw [ec]; rfl, s23, by omega, by omega, ?_, ?_, ?_⟩
            · omega
            · omega
            · intro _ _
              rw [ec]
              exact z1
        · refine iteF ?_
          rcases hw with ⟨z1, z2, z3⟩ | ⟨z1, z2, z3, z4⟩
          · have hb := (ok gq gn z1).2
            refine ⟨_, rfl, r, _, 2, _, rfl, rfl, hr3, atI_nat (j := 2) rfl, _, _, rfl, rfl, _, rfl, Cm.itD (fun _ => ?_) fun z5 => absurd hb.1 z5⟩
            refine ⟨_, rfl, r, _, 2, _, rfl, rfl, hr3, atI_nat (j := 2) rfl, _, rfl, _, _, rfl, rfl, _, rfl, Cm.itD (fun z5 => absurd z5 (by omega)) fun _ => ?_⟩
            have s23' : Same H H3 := s23
            have ec : ((gq.toNat : Nat) : Int) = gq := Int.toNat_of_nonneg gin.1
            refine ⟨_, rfl, r, _, 1, _, rfl, rfl, hr3, atI_nat (j := 1) rfl, ?_⟩
            refine ⟨_, rfl, r, _, 2, _, rfl, rfl, hr3, atI_nat (j := 2) rfl, ?_⟩
            refine ⟨gq.toNat, gn, _, _, _, by rw [ec]; rfl, s23, by omega, by omega, ?_, ?_, ?_⟩
            · omega
            · omega
            · intro _ z6
              omega
          · exact absurd z2 z
    · subst e
      omega
/-! ### the law -/
theorem hear_ok {ms : Marks} {k : NestedKey} {q c pl : Int} (h : MkOk pl (lookM ms k)) (hq : 0 ≤ q ∧ q < pl) (hc : 0 ≤ c ∧ c ≤ 9) : MkOk pl (lookM (hearM ms k q c) k) := fun q' c' e => by
  have e1 : lookM (putM ms k (q, c)) k = some (q, c) := by rw [lookM_putM, if_pos rfl]
  unfold hearM at e
  cases hm : lookM ms k with
  | none =>
    rw [hm] at e
    have e' : lookM (putM ms k (q, c)) k = some (q', c') := e
    rw [e1] at e'
    cases e'
    exact ⟨hq, hc⟩
  | some m =>
    rw [hm] at e h
    have e' : lookM (if c > m.2 then putM ms k (q, c) else ms) k = some (q', c') := e
    by_cases g : c > m.2
    · rw [if_pos g, e1] at e'
      cases e'
      exact ⟨hq, hc⟩
    · rw [if_neg g, hm] at e'
      cases e'
      exact h _ _ rfl
theorem hear_len (ms : Marks) (k : NestedKey) (q c : Int) : (hearM ms k q c).length ≤ ms.length + 1 := by
  have h := putM_len k (q, c) ms
  unfold hearM
  split
  · exact h
  · split
    · exact h
    · exact Nat.le_succ _
def spLaw (K : PySem.W.Frag) : Sp := fun vs H Q _ => ∃ (a : Addr) (ns : List Int), vs = [.ref a] ∧ SqL K H a (ns.map V.int) ∧ ns.length ≤ 63 ∧ ∀ H', Q (.bl true) H'
theorem ok_law (T : Txt K mg w a) : FnOk P w K mg base CX0 4 (He.ga K "law") a.d_law ["script"] (spLaw K) := by
  have gh := ok_Finder_hear (P := P) (w := w) (base := base) T
  refine T.F_law.ok sc_law (fun vs H Q E h => ?_) (fun cdv A outer s H vs Q E hr h => ?_)
  · obtain ⟨l, ns, rfl, _⟩ := h
    rfl
  · obtain ⟨l, sc, rfl, hl, hsc, q⟩ := h
    refine ⟨_, PSs.nox (pss_cons (ps_set (i := 1) sc_law.nd rfl (Or.inl rfl) (pe_call (ok_lw_numbers T) (hr.mono (by omega)) (by rfl) T.g_lw_numbers T.F_lw_numbers.kp T.b_lw_numbers .nil pass0 (pa_cons (pv 0) (pa_cons pe_int pa_nil))))
      (pss_cons (ps_set (i := 2) sc_law.nd rfl (Or.inl rfl) (pe_op op_add pe_int (pe_op op_mod (pe_ix ix_list (pv 1) pe_int (fun _ _ => rfl)) pe_int)))
      (pss_cons (ps_set (i := 3) sc_law.nd rfl (Or.inl rfl) (pe_tup (pa_cons (pe_ix ix_list (pe_lst (pa_cons (pe_tup pa_nil) (pa_cons (pe_tup (pa_cons pe_int pa_nil)) (pa_cons (pe_tup (pa_cons pe_int (pa_cons pe_int pa_nil))) pa_nil)))) (pe_op op_mod (pe_ix ix_list (pv 1) pe_int (fun _ _ => rfl)) pe_int) (fun _ _ => rfl)) (pa_cons (pe_op op_mod (pe_op op_fdiv (pe_ix ix_list (pv 1) pe_int (fun _ _ => rfl)) pe_int) pe_int) pa_nil))))
      (pss_cons (ps_set (i := 4) sc_law.nd rfl (Or.inl rfl) (pe_lst pa_nil))
      (pss_cons (ps_for PassesOwn.never rfl (pi_range1 (by rfl) T.g_range (pa_cons (pv 2) pa_nil)) (pg_name (i := 5) sc_law.nd rfl (Or.inl rfl))
      (pss_cons (ps_set (i := 6) sc_law.nd rfl (Or.inl rfl) (pe_make T.k_Finder (ok_Finder_init T) (hr.mono (by omega)) (by rfl) T.g_Finder T.b_Finder_init .nil pass0 (pa_cons (pv 5) (pa_cons (pv 2) pa_nil))))
      (pss_cons (ps_for PassesOwn.never rfl (pi_range1 (by rfl) T.g_range (pa_cons (pe_op op_mod (pe_ix ix_list (pv 1) (pe_callTy call_int1 (by rfl) T.g_int boot_int (pa_cons (pe_op op_add pe_int (pv 5)) pa_nil)) (fun _ _ => rfl)) pe_int) pa_nil)) (pg_name (i := 7) sc_law.nd rfl (Or.inl rfl))
      (pss_cons (ps_set (i := 8) sc_law.nd rfl (Or.inl rfl) (pe_ix ix_list (pv 1) (pe_callTy call_int1 (by rfl) T.g_int boot_int (pa_cons (pe_op op_add (pe_op op_add pe_int (pe_op op_mul pe_int (pv 5))) (pv 7)) pa_nil)) (fun _ _ => rfl)))
      (pss_one (ps_expr (pe_meth (pv 6) T.c_Finder T.m_Finder_hear gh (hr.mono (by omega)) T.b_Finder_hear .nil MethT.passF (pa_cons (pv 3) (pa_cons (pe_op op_mod (pv 8) (pv 2)) (pa_cons (pe_op op_mod (pe_op op_fdiv (pv 8) pe_int) pe_int) pa_nil))))))))
      (pss_one (ps_expr (pe_bm PySem.F.plainAttrs_list PySem.F.slot_list_append PySem.F.type_list_append mt_append (pv 4) (pa_cons (pv 6) pa_nil)))))))
      (pss_cons (ps_for PassesOwn.never rfl (pi_range1 (by rfl) T.g_range (pa_cons (pv 2) pa_nil)) (pg_name (i := 9) sc_law.nd rfl (Or.inl rfl))
      (pss_one (ps_for PassesOwn.never rfl (pi_range2 (by rfl) T.g_range (pa_cons (pe_un un_neg pe_int) (pa_cons pe_int pa_nil))) (pg_name (i := 10) sc_law.nd rfl (Or.inl rfl))
      (pss_one (ps_if (pt_not (pt_val (pe_call (ok_lw_follow T) (hr.mono (by omega)) (by rfl) T.g_lw_follow T.F_lw_follow.kp T.b_lw_follow .nil pass0 (pa_cons (pv 4) (pa_cons (pv 3) (pa_cons (pv 9) (pa_cons (pv 10) pa_nil))))))) (pss_one (ps_ret pe_bl)) pss_nil)))))
      (pss_one (ps_ret pe_bl)))))))), ?_⟩
    refine ⟨_, rfl, l, sc, 40, rfl, hl, hsc, by decide, fun H1 p ns s1 np hp hlen hok => ?_⟩
    obtain ⟨n0, hn0, e0⟩ := Cm.at_int (ns := ns) (i := 0) (by omega) (by omega)
    obtain ⟨n1, hn1, e1⟩ := Cm.at_int (ns := ns) (i := 1) (by omega) (by omega)
    obtain ⟨g0, _⟩ := hok n0 hn0
    obtain ⟨g1, _⟩ := hok n1 hn1
    refine ⟨_, rfl, p, _, _, _, rfl, rfl, SqL.of hp, e0, _, _, rfl, rfl, (by show (0 : Int) < 5; decide), _, _, rfl, rfl, ?_⟩
    -- name
    refine ⟨Nat.zero_le _, fun t0 nt0 => ⟨Cm.small (by show 1 ≤ 100000; decide), fun t1 nt1 => ⟨Cm.small (by show 2 ≤ 100000; decide), fun t2 nt2 => ⟨Cm.small (by show 3 ≤ 100000; decide), fun tl ntl => ?_⟩⟩⟩⟩
    have sA := ((Cm.same_new (o := .tup []) nt0).trans (Cm.same_new (o := .tup [.int 1]) nt1)).trans ((Cm.same_new (o := .tup [.int 0, .int 2]) nt2).trans (Cm.same_new (o := .lst [.ref t0, .ref t1, .ref t2]) ntl))
    have k0 : SqT K (upd (upd (upd (upd H1 t0 (.tup [])) t1 (.tup [.int 1])) t2 (.tup [.int 0, .int 2])) tl (.lst [.ref t0, .ref t1, .ref t2])) t0 (([] : List Int).map V.int) := Cm.sameT ((Cm.same_new nt1).trans ((Cm.same_new nt2).trans (Cm.same_new ntl))) Cm.sqt_new
    have k1 : SqT K (upd (upd (upd (upd H1 t0 (.tup [])) t1 (.tup [.int 1])) t2 (.tup [.int 0, .int 2])) tl (.lst [.ref t0, .ref t1, .ref t2])) t1 (([1] : List Int).map V.int) := Cm.sameT ((Cm.same_new nt2).trans (Cm.same_new ntl)) Cm.sqt_new
    have k2 : SqT K (upd (upd (upd (upd H1 t0 (.tup [])) t1 (.tup [.int 1])) t2 (.tup [.int 0, .int 2])) tl (.lst [.ref t0, .ref t1, .ref t2])) t2 (([0, 2] : List Int).map V.int) := Cm.sameT (Cm.same_new ntl) Cm.sqt_new
    have kl : SqL K (upd (upd (upd (upd H1 t0 (.tup [])) t1 (.tup [.int 1])) t2 (.tup [.int 0, .int 2])) tl (.lst [.ref t0, .ref t1, .ref t2])) tl [.ref t0, .ref t1, .ref t2] := Cm.sql_new
    have hpA := sA _ _ hp
    generalize upd (upd (upd (upd H1 t0 (.tup [])) t1 (.tup [.int 1])) t2 (.tup [.int 0, .int 2])) tl (.lst [.ref t0, .ref t1, .ref t2]) = HA at *
    obtain ⟨vp, hvp, evp⟩ := Cm.at_in (xs := [V.ref t0, V.ref t1, V.ref t2]) (i := n1 % 3) (by omega) (by show n1 % 3 < 3; omega)
    obtain ⟨pr, zs, rfl, hpr⟩ : ∃ (pr : Addr) (zs : List Int), vp = V.ref pr ∧ SqT K HA pr (zs.map V.int) := by
      simp only [List.mem_cons, List.not_mem_nil, or_false] at hvp
      rcases hvp with rfl | rfl | rfl
      · exact ⟨t0, [], rfl, k0⟩
      · exact ⟨t1, [1], rfl, k1⟩
      · exact ⟨t2, [0, 2], rfl, k2⟩
    refine ⟨_, rfl, p, _, _, _, rfl, rfl, SqL.of hpA, e1, _, _, rfl, rfl, (by show (0 : Int) < 3; decide), tl, _, _, _, rfl, rfl, kl, evp, ?_⟩
    refine ⟨_, rfl, p, _, _, _, rfl, rfl, SqL.of hpA, e1, _, _, rfl, rfl, ⟨by decide, by decide⟩, _, _, rfl, rfl, (by show (0 : Int) < 9; decide), Cm.small (by show 2 ≤ 100000; decide), fun b0 nb0 => ?_⟩
    have hk : KeyAt K (upd HA b0 (.tup [.ref pr, .int (n1 / 3 % 9)])) (.ref b0) (nameK zs (n1 / 3 % 9)) := key_make Cm.sqt_new (Cm.sameT (Cm.same_new nb0) hpr)
    have hpB := Cm.same_new (o := .tup [.ref pr, .int (n1 / 3 % 9)]) nb0 _ _ hpA
    generalize upd HA b0 (.tup [.ref pr, .int (n1 / 3 % 9)]) = HB at *
    -- finders
    refine ⟨Nat.zero_le _, fun fl nfl => ?_⟩
    have nfl' : HB fl = none := nfl
    rw [show L2.start N_law [.ref l] = [some (.ref l), none, none, none, none, none, none, none, none, none, none] from rfl]
    simp only [List.set_cons_succ, List.set_cons_zero]
    have sB : Same HB (upd HB fl (.lst [])) := Cm.same_new nfl
    refine ⟨_, rfl, _, rfl, by omega, by omega, ?_⟩
    generalize hpl : (2 + n0 % 5) = pl at *
    refine for_range (n := pl.toNat) (fun i σ H2 => ∃ (ps : List Addr) (x5 x6 x7 x8 : Option V), σ = [some (.ref l), some (.ref p), some (.int pl), some (.ref b0), some (.ref fl), x5, x6, x7, x8, none, none] ∧ Same HB H2 ∧ H2 fl = some (.lst (ps.map V.ref)) ∧ ps.length = i ∧ FsAt P w K H2 ps pl (nameK zs (n1 / 3 % 9)) fl)
      ⟨[], _, _, _, _, rfl, sB, upd_same, rfl, fun i p h => by cases h⟩ (fun i σ H2 hi ⟨ps, x5, x6, x7, x8, e, s2, hfl, lps, FS⟩ => ?_) fun σ H2 ⟨ps, x5, x6, x7, x8, e, s2, hfl, lps, FS⟩ => ?_
    · subst e
      -- finder = Finder(me, places)
      refine ⟨_, rfl, _, rfl, fun x dx nx ndx nex => ⟨x, dx, _, _, rfl, upd_same, fun d wl H3 hd hw F fr => ⟨rfl, ?_⟩⟩⟩
      have s3 : Same H2 H3 := fun b o hb => fr b o (by rw [upd_ne (ne_of_none hb nx), upd_ne (ne_of_none hb ndx)]; exact hb) (ne_of_none hb nx)
      have nxf : x ≠ fl := (ne_of_none hfl nx).symm
      have und : ∀ {b : Addr}, (upd (upd H2 dx (.own x)) x (.ins (CF K) dx [])) b = none → fl ≠ b := fun {b} hb => ne_of_none (by rw [upd_ne nxf.symm, upd_ne (ne_of_none hfl ndx)]; exact hfl) hb
      have ndf := (und hd).symm
      have nwf := (und hw).symm
      have nd2 : H2 d = none := by
        cases z : H2 d with
        | none => rfl
        | some o =>
          have := (fun (b : Addr) (o : HO) (hb : H2 b = some o) => show (upd (upd H2 dx (.own x)) x (.ins (CF K) dx [])) b = some o by rw [upd_ne (ne_of_none hb nx), upd_ne (ne_of_none hb ndx)]; exact hb) d o z
          rw [hd] at this
          cases this
      have hp3 := s3 _ _ (s2 _ _ hpB)
      obtain ⟨m0, hm0, em0⟩ := Cm.at_int (ns := ns) (i := 2 + (0 + (i : Int))) (by omega) (by omega)
      refine ⟨_, rfl, _, rfl, _, _, rfl, rfl, .inl ⟨_, rfl, p, _, _, _, rfl, rfl, SqL.of hp3, em0, _, _, rfl, rfl, (by show (0 : Int) < 3; decide), _, rfl, by omega, by omega, ?_⟩⟩
      refine for_range (n := (m0 % 3).toNat) (fun k σ H4 => ∃ (ms : Marks) (x7 x8 : Option V), σ = [some (.ref l), some (.ref p), some (.int pl), some (.ref b0), some (.ref fl), some (.int (0 + (i : Int))), some (.ref x), x7, x8, none, none] ∧ Same H2 H4 ∧ FindAt P w K H4 x d wl (0 + (i : Int)) pl ms [] ∧ MkOk pl (lookM ms (nameK zs (n1 / 3 % 9))) ∧ ms.length ≤ k)
        ⟨[], _, _, rfl, s3, F, (fun _ _ z => nomatch z), Nat.le_refl _⟩ (fun k σ H4 hk4 ⟨ms, x7, x8, e, s4, F, mo, lm⟩ => ?_) fun σ H4 ⟨ms, x7, x8, e, s4, F, mo, lm⟩ => ?_
      · subst e
        have hp4 := s4 _ _ (s2 _ _ hpB)
        obtain ⟨m1, hm1, em1⟩ := Cm.at_int (ns := ns) (i := 10 + 3 * (0 + (i : Int)) + (0 + (k : Int))) (by omega) (by omega)
        obtain ⟨u0, _⟩ := hok m1 hm1
        refine ⟨_, rfl, _, rfl, _, _, rfl, rfl, .inl ⟨by decide, by decide⟩, _, _, rfl, rfl, _, rfl, _, _, rfl, rfl, .inl ⟨_, rfl, p, _, _, _, rfl, rfl, SqL.of hp4, em1, ?_⟩⟩
        obtain ⟨⟨dx4, ho4⟩, _⟩ := id F
        have hq := And.intro (Int.emod_nonneg m1 (show pl ≠ 0 by omega)) (Int.emod_lt_of_pos m1 (show 0 < pl by omega))
        refine ⟨_, rfl, x, dx4, _, rfl, ho4, fl_no (by decide +kernel), _, rfl, _, rfl, _, rfl, _, _, rfl, rfl, (by show 0 < pl; omega), _, rfl, _, _, rfl, rfl, ⟨by decide, by decide⟩, _, _, rfl, rfl, (by show (0 : Int) < 10; decide), ?_⟩
        refine ⟨x, d, wl, _, _, ms, _, _, nameK zs (n1 / 3 % 9), _, _, rfl, F, hk.keep (TK.same (s2.trans s4)), by omega, fun _ _ H5 F5 fr5 => ?_, fun bad => absurd ⟨hq, by omega⟩ bad⟩
        have s5 : Same H2 H5 := fun b o hb => fr5 b o (s4 b o hb) (ne_of_none hb nd2)
        exact ⟨_, _, _, rfl, s5, F5, hear_ok mo hq (by omega), Nat.le_trans (hear_len ..) (by omega)⟩
      · subst e
        have hfl4 := s4 _ _ hfl
        refine ⟨_, rfl, .inl ⟨rfl, _, SqL.of hfl4⟩, _, rfl, fl, _, _, rfl, rfl, hfl4, Cm.smallL (by rw [List.length_map]; omega), ?_⟩
        refine ⟨ps ++ [x], _, _, _, _, rfl, fun b o hb => ?_, by rw [upd_same, List.map_append]; rfl, by rw [List.length_append, lps]; rfl, fun i' p' hp' => ?_⟩
        · rw [upd_ne (ne_of_none hb nfl')]
          exact s4 _ _ (s2 _ _ hb)
        · have mu : Mut (H4 fl) := by rw [hfl4]; exact True.intro
          by_cases hlt : i' < ps.length
          · rw [List.getElem?_append_left hlt] at hp'
            obtain ⟨d', wl', ms', F', mo', n1', n2', n3'⟩ := FS.same s4 i' p' hp'
            exact ⟨d', wl', ms', F'.other mu n1' n2' n3', mo', n1', n2', n3'⟩
          · have hi' : i' = ps.length := by
              have := (List.getElem?_eq_some_iff.mp hp').1
              rw [List.length_append] at this
              simp only [List.length_cons, List.length_nil] at this
              omega
            subst hi'
            rw [List.getElem?_append_right (Nat.le_refl _), Nat.sub_self] at hp'
            cases hp'
            rw [lps]
            have F' := F
            rw [Int.zero_add] at F'
            exact ⟨d, wl, ms, F'.other mu nxf ndf nwf, mo, nxf, ndf, nwf⟩
    · subst e
      refine ⟨_, rfl, _, rfl, by omega, by omega, ?_⟩
      have epl : pl = (ps.length : Int) := by omega
      refine for_range (n := pl.toNat) (fun i σ H3 => ∃ (x9 x10 : Option V), σ = [some (.ref l), some (.ref p), some (.int pl), some (.ref b0), some (.ref fl), x5, x6, x7, x8, x9, x10] ∧ Same H2 H3) ⟨_, _, rfl, Same.refl _⟩ (fun i σ H3 hi ⟨x9, x10, e, s3⟩ => ?_) fun σ H3 ⟨x9, x10, e, s3⟩ => q H3
      subst e
      refine ⟨_, rfl, _, _, rfl, by decide, ?_⟩
      refine for_range (lo := -1) (n := 11) (fun k σ H4 => ∃ (x10 : Option V), σ = [some (.ref l), some (.ref p), some (.int pl), some (.ref b0), some (.ref fl), x5, x6, x7, x8, some (.int (0 + (i : Int))), x10] ∧ Same H2 H4) ⟨_, rfl, s3⟩ (fun k σ H4 hk4 ⟨x10, e, s4⟩ => ?_) fun σ H4 ⟨x10, e, s4⟩ => ⟨_, _, e, s4⟩
      subst e
      refine ⟨_, rfl, _, rfl, _, rfl, _, rfl, fl, .ref b0, i, -1 + (k : Int), ps, zs, n1 / 3 % 9, by rw [Int.zero_add]; rfl, s4 _ _ hfl, ?_, hk.keep (TK.same (s2.trans s4)), by omega, by omega, by omega, fun H5 s5 => ?_⟩
      · rw [← epl]
        exact FS.same s4
      · exact ⟨_, rfl, iteF ⟨_, rfl, s4.trans s5⟩⟩
def fn : List He.DefD := [⟨("is_on_the_way", none), "is_on_the_way", "is_on_the_way", defArgs s_is_on_the_way, defBody s_is_on_the_way, defScope s_is_on_the_way, [], []⟩,
  ⟨("home_of", none), "home_of", "home_of", defArgs s_home_of, defBody s_home_of, defScope s_home_of, [], []⟩,
  ⟨("Finder", some "__init__"), "__init__", "Finder.__init__", defArgs s_Finder_init, defBody s_Finder_init, defScope s_Finder_init, [], []⟩,
  ⟨("Finder", some "hear"), "hear", "Finder.hear", defArgs s_Finder_hear, defBody s_Finder_hear, defScope s_Finder_hear, [], []⟩,
  ⟨("Finder", some "mark"), "mark", "Finder.mark", defArgs s_Finder_mark, defBody s_Finder_mark, defScope s_Finder_mark, [], []⟩,
  ⟨("Finder", some "way"), "way", "Finder.way", defArgs s_Finder_way, defBody s_Finder_way, defScope s_Finder_way, [], []⟩,
  ⟨("Finder", some "park"), "park", "Finder.park", defArgs s_Finder_park, defBody s_Finder_park, defScope s_Finder_park, [], []⟩,
  ⟨("Finder", some "parked"), "parked", "Finder.parked", defArgs s_Finder_parked, defBody s_Finder_parked, defScope s_Finder_parked, [], []⟩,
  ⟨("_law_numbers", none), "_law_numbers", "_law_numbers", defArgs s_lw_numbers, defBody s_lw_numbers, defScope s_lw_numbers, [], []⟩,
  ⟨("_law_follow", none), "_law_follow", "_law_follow", defArgs s_lw_follow, defBody s_lw_follow, defScope s_lw_follow, [], []⟩,
  ⟨("law", none), "law", "law", defArgs s_law, defBody s_law, defScope s_law, [], []⟩]
def fas : List He.Fa := [.glo "is_on_the_way", .glo "home_of", .mkr "Finder", .meth "Finder" "hear", .meth "Finder" "mark", .meth "Finder" "way", .meth "Finder" "park", .meth "Finder" "parked", .glo "_law_numbers", .glo "_law_follow", .glo "law", .glo "ON_THE_WAY", .glo "PortError", .glo "NotAllowed", .glo "Finder", .cls "Finder", .noat "Finder" "_me", .noat "Finder" "_places", .noat "Finder" "_marks", .noat "Finder" "_waiting", .free "sum", .free "len", .free "tuple", .free "range", .free "abs", .free "max", .free "int"]
def tabs : List He.Tab := []
def okX (K : PySem.W.Frag) : Bool := He.tupB K "ON_THE_WAY" v_ON_THE_WAY && (PySem.W.excIn K (He.ga K "NotAllowed") [.type "ValueError", .type "Exception", .type "BaseException", .type "object"] "ValueError.__new__" && (PySem.W.keepIn K (.ref (He.ga K "NotAllowed")) && ((PySem.W.subIn K (.ref (He.ga K "NotAllowed")) (.type "BaseException") == some true) && ((PySem.W.typeIn K (.ref (He.ga K "NotAllowed")) == some (.type "type"))))))
abbrev R : PySem.W.OpenRow := PySem.W.OpenLaw.row PySem.Challenge.rw_portage_k49_whole_ways_never_go_round
abbrev hk : PySem.W.Hook := Cm.hookX 5 fas fn tabs okX
def ob (s : PySem.W.SharedT) : Cm.AlX := Cm.obsXG 5 fas fn tabs okX (HandSHeadRun.getT s)
theorem ob_eq (s : PySem.W.SharedT) : ob s = hk.obs s.abs := Cm.obsXG_eq (HandSHeadRun.getT_eq s)
abbrev loose : List Str := (["_wall", "PortError", "NotAllowed", "ON_THE_WAY", "is_on_the_way", "home_of", "Finder", "_law_numbers", "_law_follow"] : List Str)
theorem run (w : World) : HandSHeadRun.RunEq R (PySem.W.view R.prog [13]) hk ob 4000 loose w := by
  intro os
  kernel_rfl
theorem facts {P : Program} {w : World} {K : PySem.W.Frag} {h : Heap} {mg : Str → Option Value} {f : Addr} (X : K.In h) (G : h.Ns mainGlobals mg) (hfa : mg ("law" : Str) = some (.ref f)) (ok : okX K = true) (c : He.SaysT fas fn tabs w K) :
    ∃ fd : FuncData, (∀ (s : Shared) (v : Value), BindsTo s fd ⟨[v], []⟩ [("script", v)]) ∧ ∀ base : Heap, K.In base → base.Ns mainGlobals mg → FnOk P w K mg base CX0 4 f fd ["script"] (spLaw K) := by
  obtain ⟨d_is_on_the_way, F_is_on_the_way⟩ := c.d.def_ 0 rfl
  obtain ⟨d_home_of, F_home_of⟩ := c.d.def_ 1 rfl
  obtain ⟨d_Finder_init, F_Finder_init⟩ := c.d.def_ 2 rfl
  obtain ⟨d_Finder_hear, F_Finder_hear⟩ := c.d.def_ 3 rfl
  obtain ⟨d_Finder_mark, F_Finder_mark⟩ := c.d.def_ 4 rfl
  obtain ⟨d_Finder_way, F_Finder_way⟩ := c.d.def_ 5 rfl
  obtain ⟨d_Finder_park, F_Finder_park⟩ := c.d.def_ 6 rfl
  obtain ⟨d_Finder_parked, F_Finder_parked⟩ := c.d.def_ 7 rfl
  obtain ⟨d_lw_numbers, F_lw_numbers⟩ := c.d.def_ 8 rfl
  obtain ⟨d_lw_follow, F_lw_follow⟩ := c.d.def_ 9 rfl
  obtain ⟨d_law, F_law⟩ := c.d.def_ 10 rfl
  have e := hfa.symm.trans (He.glo_ok X G (c.d.fact 10 (f := .glo "law") rfl))
  cases e
  unfold okX at ok
  simp only [Bool.and_eq_true] at ok
  obtain ⟨o0, o1, o2, o3, o4⟩ := ok
  have T : Txt K mg w ⟨d_is_on_the_way, d_home_of, d_Finder_init, d_Finder_hear, d_Finder_mark, d_Finder_way, d_Finder_park, d_Finder_parked, d_lw_numbers, d_lw_follow, d_law⟩ := {
    F_is_on_the_way := F_is_on_the_way
    b_is_on_the_way := F_is_on_the_way.bindsN (ps := ["body"]) fun _ _ _ _ _ _ us hl => match us, hl with | [_], _ => rfl
    g_is_on_the_way := He.glo_ok X G (c.d.fact 0 (f := .glo "is_on_the_way") rfl)
    F_home_of := F_home_of
    b_home_of := F_home_of.bindsN (ps := ["name", "places"]) fun _ _ _ _ _ _ us hl => match us, hl with | [_, _], _ => rfl
    g_home_of := He.glo_ok X G (c.d.fact 1 (f := .glo "home_of") rfl)
    F_Finder_init := F_Finder_init
    b_Finder_init := F_Finder_init.bindsN (ps := ["self", "me", "places"]) fun _ _ _ _ _ _ us hl => match us, hl with | [_, _, _], _ => rfl
    k_Finder := He.mkr_ok (c.d.fact 2 (f := .mkr "Finder") rfl)
    F_Finder_hear := F_Finder_hear
    b_Finder_hear := F_Finder_hear.bindsN (ps := ["self", "name", "place", "count"]) fun _ _ _ _ _ _ us hl => match us, hl with | [_, _, _, _], _ => rfl
    m_Finder_hear := He.meth_ok (c.d.fact 3 (f := .meth "Finder" "hear") rfl)
    F_Finder_mark := F_Finder_mark
    b_Finder_mark := F_Finder_mark.bindsN (ps := ["self", "name"]) fun _ _ _ _ _ _ us hl => match us, hl with | [_, _], _ => rfl
    m_Finder_mark := He.meth_ok (c.d.fact 4 (f := .meth "Finder" "mark") rfl)
    F_Finder_way := F_Finder_way
    b_Finder_way := F_Finder_way.bindsN (ps := ["self", "name", "count", "here"]) fun _ _ _ _ _ _ us hl => match us, hl with | [_, _, _, _], _ => rfl
    m_Finder_way := He.meth_ok (c.d.fact 5 (f := .meth "Finder" "way") rfl)
    F_Finder_park := F_Finder_park
    b_Finder_park := F_Finder_park.bindsN (ps := ["self", "body"]) fun _ _ _ _ _ _ us hl => match us, hl with | [_, _], _ => rfl
    m_Finder_park := He.meth_ok (c.d.fact 6 (f := .meth "Finder" "park") rfl)
    F_Finder_parked := F_Finder_parked
    b_Finder_parked := F_Finder_parked.bindsN (ps := ["self"]) fun _ _ _ _ _ _ us hl => match us, hl with | [_], _ => rfl
    m_Finder_parked := He.meth_ok (c.d.fact 7 (f := .meth "Finder" "parked") rfl)
    F_lw_numbers := F_lw_numbers
    b_lw_numbers := F_lw_numbers.bindsN (ps := ["script", "many"]) fun _ _ _ _ _ _ us hl => match us, hl with | [_, _], _ => rfl
    g_lw_numbers := He.glo_ok X G (c.d.fact 8 (f := .glo "_law_numbers") rfl)
    F_lw_follow := F_lw_follow
    b_lw_follow := F_lw_follow.bindsN (ps := ["finders", "name", "place", "count"]) fun _ _ _ _ _ _ us hl => match us, hl with | [_, _, _, _], _ => rfl
    g_lw_follow := He.glo_ok X G (c.d.fact 9 (f := .glo "_law_follow") rfl)
    F_law := F_law
    b_law := F_law.bindsN (ps := ["script"]) fun _ _ _ _ _ _ us hl => match us, hl with | [_], _ => rfl
    g_law := He.glo_ok X G (c.d.fact 10 (f := .glo "law") rfl)
    g_ON_THE_WAY := He.glo_ok X G (c.d.fact 11 (f := .glo "ON_THE_WAY") rfl)
    k_ON_THE_WAY := fun H => He.tupB_ok o0 H
    g_PortError := He.glo_ok X G (c.d.fact 12 (f := .glo "PortError") rfl)
    g_NotAllowed := He.glo_ok X G (c.d.fact 13 (f := .glo "NotAllowed") rfl)
    g_Finder := He.glo_ok X G (c.d.fact 14 (f := .glo "Finder") rfl)
    c_Finder := He.cls_ok (c.d.fact 15 (f := .cls "Finder") rfl)
    n_Finder__me := He.noat_ok (c.d.fact 16 (f := .noat "Finder" "_me") rfl)
    n_Finder__places := He.noat_ok (c.d.fact 17 (f := .noat "Finder" "_places") rfl)
    n_Finder__marks := He.noat_ok (c.d.fact 18 (f := .noat "Finder" "_marks") rfl)
    n_Finder__waiting := He.noat_ok (c.d.fact 19 (f := .noat "Finder" "_waiting") rfl)
    g_sum := He.free_ok X G (c.d.fact 20 (f := .free "sum") rfl)
    g_len := He.free_ok X G (c.d.fact 21 (f := .free "len") rfl)
    g_tuple := He.free_ok X G (c.d.fact 22 (f := .free "tuple") rfl)
    g_range := He.free_ok X G (c.d.fact 23 (f := .free "range") rfl)
    g_abs := He.free_ok X G (c.d.fact 24 (f := .free "abs") rfl)
    g_max := He.free_ok X G (c.d.fact 25 (f := .free "max") rfl)
    g_int := He.free_ok X G (c.d.fact 26 (f := .free "int") rfl)
    x_NotAllowed := o1
    k_NotAllowed := o2
    s_NotAllowed := eq_of_beq o3
    t_NotAllowed := eq_of_beq o4
  }
  have b := Cm.bindsA_of (x := "law") (st := s_law) (ps := ["script"]) F_law fun _ _ _ _ _ _ us hl => match us, hl with | [_], _ => rfl
  exact ⟨d_law, fun s v => b s [v] rfl, fun base _ _ => ok_law T⟩
end K49
open PySem PySem.W PySem.Calls PyProof.Rows
set_option maxHeartbeats 0 in
theorem PySem.Challenge.cw_portage_k49_whole_ways_never_go_round_holds : PySem.Challenge.rw_portage_k49_whole_ways_never_go_round.Holds := by
  w_on; o_law
  refine HandSHeadRun.head_any (r := OpenLaw.row PySem.Challenge.rw_portage_k49_whole_ways_never_go_round) (q := view (OpenLaw.row PySem.Challenge.rw_portage_k49_whole_ways_never_go_round).prog [13]) (H := K49.hk) (ob := K49.ob) (M := 4000) (loose := K49.loose) (d := HandSHeadRun.topDef (OpenLaw.row PySem.Challenge.rw_portage_k49_whole_ways_never_go_round).prog 13) (kwd := []) K49.ob_eq
    (by kernel_rfl) (fun s => by kernel_rfl) K49.run (by kernel_rfl) (by kernel_rfl) (by kernel_rfl) (by rfl) (by first | assumption | decide +kernel) (by decide +kernel) ⟨rfl, rfl, rfl, rfl, rfl, by decide +kernel⟩ ?hw ?hc
  case hw => w_witness2
  case hc =>
    refine L2.walk_ofE (l := PySem.Challenge.rw_portage_k49_whole_ways_never_go_round) (n := 63) (k := 4) (x := "script") (CX := L2.CX0) rfl (by decide) (by kernel_rfl) ⟨rfl, by decide, by decide⟩ ?F (fun _ _ _ _ z => z)
    intro w mg fa h Y G hmg0
    obtain ⟨K, KX, ok, c⟩ := Y
    have hmg : mg ("law" : PySem.Str) = some (.ref fa) := by
      have e : (HandSHeadRun.topDef (OpenLaw.row PySem.Challenge.rw_portage_k49_whole_ways_never_go_round).prog 13).name = ("law" : PySem.Str) := by kernel_rfl
      rw [← e]
      exact hmg0
    obtain ⟨fd, hb, hF⟩ := K49.facts (P := (PySem.Challenge.rw_portage_k49_whole_ways_never_go_round).prog) (w := w) KX G hmg ok c
    exact ⟨K, fd, K49.spLaw K, KX, hb, fun H a ns hl _ hS => ⟨a, ns, rfl, hS, hl, fun _ => rfl⟩, hF⟩

