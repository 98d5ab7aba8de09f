import PyProof.Rows.All
import Wide.All
import OpenK.AllK
import Wide.FinOn
import KE.KStateDown
import Lean
import HandS.ForMost
import HandS.Defaults
import HandS.More
import HandS.Flow
import HandS.Style
import HandS.StrMore
import HandS.IsInst
import HandS.TupAny
import HandS.TupMul
import HandS.Head0
import HandS.Head1
import HandS.Head2
import HandS.HeadEnd
import HandS.HeadHook1
import HandS.HeadHook2
import HandS.HeadHook3
import HandS.DictComp
import HandS.WordsDict
import PySem.Challenge.RW_portage_k21_code_by_its_rules
set_option Elab.async false
set_option linter.all false
set_option maxRecDepth 100000
set_option maxHeartbeats 4000000
/-! What my proofs have in common: a Hook with one more test, and small words. -/
namespace Cm
open PySem PySem.Spec PyProof.Rows L2 He

abbrev FnP (K : PySem.W.Frag) (x : Str) (st : Stmt) (f : Addr) (fd : FuncData) : Prop := FunD K x x (defArgs st) (defBody st) (defScope st) [] [] f fd
theorem bindsA_of {K : PySem.W.Frag} {x : Str} {st : Stmt} {f : Addr} {fd : FuncData} {ps : List Str} (F : FnP K x st f fd)
    (h : ∀ (kV doc pm : Value) (an : Option Addr) (cdv ct : Value) (us : List Value), us.length = ps.length → bindArgs (PySem.W.fnOf x x (defArgs st) (defBody st) (defScope st) .none kV doc pm an cdv ct) ⟨us, []⟩ = pure (ps.zip us)) (s : Shared) (us : List Value) (hl : us.length = ps.length) : BindsTo s fd ⟨us, []⟩ (ps.zip us) := FunD.bindsA F h s us hl

/-! ### heaps that grow -/
theorem same_new {H : Hp} {p : Addr} {o : HO} (h : H p = none) : Same H (upd H p o) := fun b x e => by
  rw [upd_ne (ne_of_none e h)]
  exact e
theorem same_mut {H H' : Hp} {p : Addr} {o : HO} (s : Same H H') (h : H p = none) : Same H (upd H' p o) := fun b x e => by
  rw [upd_ne (ne_of_none e h)]
  exact s b x e
theorem sameT {K : PySem.W.Frag} {H H' : Hp} {a : Addr} {xs : List V} (s : Same H H') (h : SqT K H a xs) : SqT K H' a xs := by
  rcases h with (h | ⟨o, h⟩) | h
  · exact .inl (.inl (s _ _ h))
  · exact .inl (.inr ⟨o, s _ _ h⟩)
  · exact .inr h
theorem sqt_new {K : PySem.W.Frag} {H : Hp} {p : Addr} {xs : List V} : SqT K (upd H p (.tup xs)) p xs := .inl (.inl upd_same)
theorem sql_new {K : PySem.W.Frag} {H : Hp} {p : Addr} {xs : List V} : SqL K (upd H p (.lst xs)) p xs := .inl (.inl upd_same)
theorem small {n : Nat} (h : n ≤ 100000) : n ≤ sizeLine := by
  rw [sizeLine_eq]
  omega
theorem smallL {n : Nat} (h : n ≤ 100000) : n < sizeLine := by
  rw [sizeLine_eq]
  omega
/-! ### tests -/
theorem itV {x : Bool} {A B : Prop} (h1 : x = true → A) (h2 : x = false → B) : if (if false = true then !x else x) = true then A else B := by
  cases x
  · exact h2 rfl
  · exact h1 rfl
theorem itVn {x : Bool} {A B : Prop} (h1 : x = false → A) (h2 : x = true → B) : if (if true = true then !x else x) = true then A else B := by
  cases x
  · exact h1 rfl
  · exact h2 rfl
theorem itB {x : Bool} {A B : Prop} (h1 : x = true → A) (h2 : x = false → B) : if x = true then A else B := by
  cases x
  · exact h2 rfl
  · exact h1 rfl
theorem itBn {x : Bool} {A B : Prop} (h1 : x = false → A) (h2 : x = true → B) : if (!x) = true then A else B := by
  cases x
  · exact h1 rfl
  · exact h2 rfl
theorem itD {c : Prop} [Decidable c] {A B : Prop} (h1 : c → A) (h2 : ¬ c → B) : if decide c = true then A else B := by
  by_cases h : c
  · rw [if_pos (decide_eq_true h)]
    exact h1 h
  · rw [if_neg (by rw [decide_eq_false h]; decide)]
    exact h2 h
theorem itDn {c : Prop} [Decidable c] {A B : Prop} (h1 : ¬ c → A) (h2 : c → B) : if (!decide c) = true then A else B := by
  by_cases h : c
  · rw [if_neg (by rw [decide_eq_true h]; decide)]
    exact h2 h
  · rw [if_pos (by rw [decide_eq_false h]; rfl)]
    exact h1 h
theorem deq_int {i j : Int} : decide (V.int i = V.int j) = decide (i = j) := by
  by_cases h : i = j
  · rw [h, decide_eq_true rfl, decide_eq_true rfl]
  · rw [decide_eq_false h, decide_eq_false fun e => h (V.int.inj e)]
theorem deq_str {x y : Str} : decide (V.str x = V.str y) = decide (x = y) := by
  by_cases h : x = y
  · rw [h, decide_eq_true rfl, decide_eq_true rfl]
  · rw [decide_eq_false h, decide_eq_false fun e => h (V.str.inj e)]
theorem deq_bl {x y : Bool} : decide (V.bl x = V.bl y) = decide (x = y) := by
  by_cases h : x = y
  · rw [h, decide_eq_true rfl, decide_eq_true rfl]
  · rw [decide_eq_false h, decide_eq_false fun e => h (V.bl.inj e)]
theorem itEI {x y : Int} {A B : Prop} (h1 : x = y → A) (h2 : ¬ x = y → B) : if decide (V.int x = V.int y) = true then A else B := by
  rw [deq_int]
  exact itD h1 h2
theorem itES {x y : Str} {A B : Prop} (h1 : x = y → A) (h2 : ¬ x = y → B) : if decide (V.str x = V.str y) = true then A else B := by
  rw [deq_str]
  exact itD h1 h2
theorem itNI {x y : Int} {A B : Prop} (h1 : ¬ x = y → A) (h2 : x = y → B) : if (!decide (V.int x = V.int y)) = true then A else B := by
  rw [deq_int]
  exact itDn h1 h2
theorem itNS {x y : Str} {A B : Prop} (h1 : ¬ x = y → A) (h2 : x = y → B) : if (!decide (V.str x = V.str y)) = true then A else B := by
  rw [deq_str]
  exact itDn h1 h2
theorem str_nil {z : Str} (h : z.cps.toList = []) : z = ⟨#[]⟩ := by
  obtain ⟨c⟩ := z
  have e : c = #[] := by simpa using h
  rw [e]
/-! ### items -/
theorem at_in {xs : List V} {i : Int} (h0 : 0 ≤ i) (h1 : i < (xs.length : Int)) : ∃ v, v ∈ xs ∧ atI xs i = some v := by
  obtain ⟨j, rfl⟩ := Int.eq_ofNat_of_zero_le h0
  have h2 : j < xs.length := by omega
  exact ⟨xs[j], List.getElem_mem h2, atI_nat (List.getElem?_eq_getElem h2)⟩
theorem at_str {ws : List Str} {i : Int} (h0 : 0 ≤ i) (h1 : i < (ws.length : Int)) : ∃ w, w ∈ ws ∧ atI (ws.map V.str) i = some (.str w) := by
  obtain ⟨v, hv, e⟩ := at_in (xs := ws.map V.str) h0 (by rw [List.length_map]; exact h1)
  obtain ⟨w, hw, rfl⟩ := List.mem_map.mp hv
  exact ⟨w, hw, e⟩
theorem at_int {ns : List Int} {i : Int} (h0 : 0 ≤ i) (h1 : i < (ns.length : Int)) : ∃ n, n ∈ ns ∧ atI (ns.map V.int) i = some (.int n) := by
  obtain ⟨v, hv, e⟩ := at_in (xs := ns.map V.int) h0 (by rw [List.length_map]; exact h1)
  obtain ⟨n, hn, rfl⟩ := List.mem_map.mp hv
  exact ⟨n, hn, e⟩
/-! ### a Hook with one more test -/
abbrev AlX : Type := Bool × AlT
def obsX (fa : List Fa) (fn : List DefD) (ts : List Tab) (ok : PySem.W.Frag → Bool) (K : PySem.W.Frag) : AlX := (ok K, obsT fa fn ts K)
def obsXG (n : Nat) (fa : List Fa) (fn : List DefD) (ts : List Tab) (ok : PySem.W.Frag → Bool) (g : Addr → Option Obj) : AlX := obsX fa fn ts ok (frG g (asD g n))
def hookX (n : Nat) (fa : List Fa) (fn : List DefD) (ts : List Tab) (ok : PySem.W.Frag → Bool) : PySem.W.Hook where
  α := AlX
  obs := fun s => obsXG n fa fn ts ok s.heap.get?
  val := fun w => (true, valT fn ts w)
  says := fun w h => ∃ K : PySem.W.Frag, K.In h ∧ ok K = true ∧ SaysT fa fn ts w K
  of := fun w s e => ⟨frG s.heap.get? (asD s.heap.get? n), frG_in, congrArg (fun z : AlX => z.1) e, congrArg (fun z : AlX => z.2) e⟩
  keeps := fun _ _ _ ⟨K, hK, o, c⟩ k => ⟨K, PySem.W.Frag.In.keeps hK k, o, c⟩
theorem obsXG_eq {n : Nat} {fa : List Fa} {fn : List DefD} {ts : List Tab} {ok : PySem.W.Frag → Bool} {g : Addr → Option Obj} {s : Shared} (h : ∀ a, g a = s.heap.get? a) : obsXG n fa fn ts ok g = (hookX n fa fn ts ok).obs s := by
  have e : g = s.heap.get? := funext h
  rw [e] <;> rfl
end Cm

set_option Elab.async false
set_option linter.all false
set_option maxRecDepth 100000
set_option maxHeartbeats 4000000
/-! Program trees: expressions, statements, what they are as data, their code. No word of any one statement here. -/
namespace Pt
open PySem PySem.Spec PyProof.Rows L2

/-! ### data that never changes: numbers, texts, truth values, tuples of such -/
mutual
inductive Rp (K : PySem.W.Frag) (H : Hp) : V → PyData → Prop
  | non : Rp K H .non .none
  | bl (b : Bool) : Rp K H (.bl b) (.bool b)
  | int (i : Int) : Rp K H (.int i) (.int i)
  | str (x : Str) : Rp K H (.str x) (.str x)
  | tup {a : Addr} {xs : List V} {ds : List PyData} : SqT K H a xs → Rps K H xs ds → Rp K H (.ref a) (.tuple ds)
inductive Rps (K : PySem.W.Frag) (H : Hp) : List V → List PyData → Prop
  | nil : Rps K H [] []
  | cons {v : V} {vs : List V} {d : PyData} {ds : List PyData} : Rp K H v d → Rps K H vs ds → Rps K H (v :: vs) (d :: ds)
end
/-- all that was tracked stays, but what stands at c -/
def Keep (c : Addr) (H H' : Hp) : Prop := ∀ b o, H b = some o → b ≠ c → H' b = some o
theorem Keep.refl (c : Addr) (H : Hp) : Keep c H H := fun _ _ h _ => h
theorem Keep.trans {c : Addr} {H H1 H2 : Hp} (a : Keep c H H1) (b : Keep c H1 H2) : Keep c H H2 := fun x o h n => b x o (a x o h n) n
theorem Keep.of {c : Addr} {H H' : Hp} (s : Same H H') : Keep c H H' := fun b o h _ => s b o h
/-- what was tracked and is no list stays -/
def Tups (H H' : Hp) : Prop := ∀ b o, H b = some o → (∀ xs, o ≠ .lst xs) → H' b = some o
theorem Same.tups {H H' : Hp} (s : Same H H') : Tups H H' := fun b o h _ => s b o h
theorem Keep.tups {c : Addr} {H H' : Hp} {xs : List V} (k : Keep c H H') (h : H c = some (.lst xs)) : Tups H H' := fun b o hb no => k b o hb fun e => by
  subst e
  rw [h] at hb
  exact no xs (Option.some.inj hb).symm
section
variable {K : PySem.W.Frag} {H H' : Hp}
theorem Tups.sqt (k : Tups H H') {a : Addr} {xs : List V} (h : SqT K H a xs) : SqT K H' a xs := by
  rcases h with (h | ⟨o, h⟩) | h
  · exact .inl (.inl (k _ _ h fun _ e => by cases e))
  · exact .inl (.inr ⟨o, k _ _ h fun _ e => by cases e⟩)
  · exact .inr h
mutual
theorem Rp.keep (k : Tups H H') : ∀ {v : V} {d : PyData}, Rp K H v d → Rp K H' v d
  | _, _, .non => .non
  | _, _, .bl b => .bl b
  | _, _, .int i => .int i
  | _, _, .str x => .str x
  | _, _, .tup h r => .tup (k.sqt h) (Rps.keep k r)
theorem Rps.keep (k : Tups H H') : ∀ {vs : List V} {ds : List PyData}, Rps K H vs ds → Rps K H' vs ds
  | _, _, .nil => .nil
  | _, _, .cons h r => .cons (Rp.keep k h) (Rps.keep k r)
end
mutual
theorem Rp.dp : ∀ {v : V} {d : PyData}, Rp K H v d → Dp K H v d
  | _, _, .non => .non
  | _, _, .bl b => .bl b
  | _, _, .int i => .int i
  | _, _, .str x => .str x
  | _, _, .tup h r => .tup h (Rps.dp r)
theorem Rps.dp : ∀ {vs : List V} {ds : List PyData}, Rps K H vs ds → DpAll K H vs ds
  | _, _, .nil => .nil
  | _, _, .cons h r => .cons (Rp.dp h) (Rps.dp r)
end
theorem Rps.len : ∀ {vs : List V} {ds : List PyData}, Rps K H vs ds → vs.length = ds.length
  | _, _, .nil => rfl
  | _, _, .cons _ r => congrArg (· + 1) (Rps.len r)
theorem Rps.app : ∀ {vs us : List V} {ds es : List PyData}, Rps K H vs ds → Rps K H us es → Rps K H (vs ++ us) (ds ++ es)
  | _, _, _, _, .nil, r => r
  | _, _, _, _, .cons h r, s => .cons h (Rps.app r s)
theorem Rps.at_ : ∀ {vs : List V} {ds : List PyData} {i : Nat} {d : PyData}, Rps K H vs ds → ds[i]? = some d → ∃ v, vs[i]? = some v ∧ Rp K H v d
  | _, _, 0, _, .cons h _, e => ⟨_, rfl, by cases e; exact h⟩
  | _, _, i + 1, _, .cons _ r, e => Rps.at_ (i := i) r e
theorem Rps.drop : ∀ {vs : List V} {ds : List PyData} (n : Nat), Rps K H vs ds → Rps K H (vs.drop n) (ds.drop n)
  | _, _, 0, r => r
  | _, _, _ + 1, .nil => .nil
  | _, _, n + 1, .cons _ r => Rps.drop n r
theorem Rps.take : ∀ {vs : List V} {ds : List PyData} (n : Nat), Rps K H vs ds → Rps K H (vs.take n) (ds.take n)
  | _, _, 0, _ => .nil
  | _, _, _ + 1, .nil => .nil
  | _, _, n + 1, .cons h r => .cons h (Rps.take n r)
theorem Rps.one {v : V} {d : PyData} (h : Rp K H v d) : Rps K H [v] [d] := .cons h .nil
theorem Rp.tup_inv {v : V} {ds : List PyData} (h : Rp K H v (.tuple ds)) : ∃ a vs, v = .ref a ∧ SqT K H a vs ∧ Rps K H vs ds := by
  cases h with
  | tup h r => exact ⟨_, _, rfl, h, r⟩
theorem Rp.str_inv {v : V} {x : Str} (h : Rp K H v (.str x)) : v = .str x := by
  cases h
  rfl
theorem Rp.int_inv {v : V} {i : Int} (h : Rp K H v (.int i)) : v = .int i := by
  cases h
  rfl
theorem Rp.bl_inv {v : V} {b : Bool} (h : Rp K H v (.bool b)) : v = .bl b := by
  cases h
  rfl
theorem Rps.cons_inv {vs : List V} {d : PyData} {ds : List PyData} (h : Rps K H vs (d :: ds)) : ∃ v r, vs = v :: r ∧ Rp K H v d ∧ Rps K H r ds := by
  cases h with
  | cons a b => exact ⟨_, _, rfl, a, b⟩
theorem Rps.nil_inv {vs : List V} (h : Rps K H vs []) : vs = [] := by
  cases h
  rfl
theorem Rp.new {p : Addr} {vs : List V} {ds : List PyData} (h : H' p = some (.tup vs)) (r : Rps K H' vs ds) : Rp K H' (.ref p) (.tuple ds) := .tup (.inl (.inl h)) r
/-- a new tuple of what stood before -/
theorem Rp.made {p : Addr} {vs : List V} {ds : List PyData} (hp : H p = none) (r : Rps K H vs ds) : Rp K (upd H p (.tup vs)) (.ref p) (.tuple ds) := .tup (.inl (.inl upd_same)) (r.keep (Same.tups (Cm.same_new hp)))
/-- a list stays where its content is another than c's -/
theorem Keep.seq {c a : Addr} {xs ys : List V} (k : Keep c H H') (hc : H c = some (.lst ys)) (ne : xs ≠ ys) (h : SqL K H a xs) : SqL K H' a xs := by
  rcases h with (h | ⟨o, h⟩) | h
  · refine .inl (.inl (k _ _ h fun e => ?_))
    rw [e, hc] at h
    cases h
    exact ne rfl
  · refine .inl (.inr ⟨o, k _ _ h fun e => ?_⟩)
    rw [e, hc] at h
    cases h
  · exact .inr h
end

/-- tuple + tuple -/
theorem cat_rp {K : PySem.W.Frag} {H : Hp} {x y : V} {ds es : List PyData} {Q : VK} (hx : Rp K H x (.tuple ds)) (hy : Rp K H y (.tuple es)) (hl : ds.length + es.length ≤ 10000000) (h : ∀ (v : V) (H' : Hp), Same H H' → Rp K H' v (.tuple (ds ++ es)) → Q v H') : rCatA K x y H Q := by
  obtain ⟨a, xs, rfl, ha, hxs⟩ := hx.tup_inv
  obtain ⟨b, ys, rfl, hb, hys⟩ := hy.tup_inv
  refine ⟨a, b, xs, ys, rfl, rfl, ha, hb, ?_, fun e => ?_, fun _ e => ?_, fun _ _ p np => ?_⟩
  · rw [hxs.len, hys.len, sizeLine_eq]
    omega
  · subst e
    cases hxs
    exact h _ _ (Same.refl H) hy
  · subst e
    cases hys
    rw [List.append_nil] at h
    exact h _ _ (Same.refl H) hx
  · exact h _ _ (Cm.same_new np) (Rp.made np (hxs.app hys))
/-- a tuple from a place on -/
theorem from_rp {K : PySem.W.Frag} {H : Hp} {x : V} {ds : List PyData} {k : Nat} {Q : VK} (hx : Rp K H x (.tuple ds)) (hk : k ≤ ds.length) (h : ∀ (v : V) (H' : Hp), Same H H' → Rp K H' v (.tuple (ds.drop k)) → Q v H') : rSlA K x (some (k : Int)) none H Q := by
  obtain ⟨a, xs, rfl, ha, hxs⟩ := hx.tup_inv
  have hl := hxs.len
  have e0 : HT.sIx xs.length 0 (some (k : Int)) = k := by
    rw [show HT.sIx xs.length 0 (some (k : Int)) = min k xs.length from HT.sIx_nat _ 0 k]
    omega
  refine ⟨a, xs, rfl, ha, fun e => ?_, fun _ p np => ?_⟩
  · have z := e.1
    rw [e0] at z
    subst z
    exact h _ _ (Same.refl H) hx
  · have ec : cutV xs (some (k : Int)) none = xs.drop k := by
      unfold cutV
      rw [e0, HT.sIx_none]
      exact List.take_of_length_le (by rw [List.length_drop]; exact Nat.le_refl _)
    rw [ec]
    exact h _ _ (Cm.same_new np) (Rp.made np (hxs.drop k))
/-! ### equality of data is reflexive; its form -/
/-- numbers, texts, truth values, None -/
def leafD : PyData → Bool
  | .none => true
  | .bool _ => true
  | .int _ => true
  | .str _ => true
  | _ => false

/-! ### expressions and statements -/
mutual
inductive E where
  | int (n : Int)
  | name (x : Str)
  | choice (o : Bool) (l r : E)
  | call (r : E) (f : Str) (as : Es)
  | new (m : Str) (as : Es)
  | plain (w : Str) (as : Es)
inductive Es where
  | nil
  | cons (e : E) (es : Es)
end
mutual
inductive S where
  | letS (x k : Str) (e : E)
  | setS (x : Str) (e : E)
  | ifS (e : E) (b c : Ss)
  | whileS (e : E) (b : Ss)
  | doS (e : E)
  | fork (r : E) (f : Str) (as : Es)
  | plain (w : Str) (as : Es)
inductive Ss where
  | nil
  | cons (s : S) (ss : Ss)
end
def cw (o : Bool) : Str := if o then "or" else "and"
mutual
def E.d : E → PyData
  | .int n => .tuple [.str "int", .int n]
  | .name x => .tuple [.str "name", .str x]
  | .choice o l r => .tuple [.str (cw o), l.d, r.d]
  | .call r f as => .tuple [.str "call", r.d, .str f, .tuple as.ds]
  | .new m as => .tuple [.str "new", .str m, .tuple as.ds]
  | .plain w as => .tuple (.str w :: as.ds)
def Es.ds : Es → List PyData
  | .nil => []
  | .cons e es => e.d :: es.ds
end
mutual
def S.d : S → PyData
  | .letS x k e => .tuple [.str "let", .str x, .str k, e.d]
  | .setS x e => .tuple [.str "set", .str x, e.d]
  | .ifS e b c => .tuple [.str "if", e.d, .tuple b.ds, .tuple c.ds]
  | .whileS e b => .tuple [.str "while", e.d, .tuple b.ds]
  | .doS e => .tuple [.str "do", e.d]
  | .fork r f as => .tuple [.str "fork", r.d, .str f, .tuple as.ds]
  | .plain w as => .tuple (.str w :: as.ds)
def Ss.ds : Ss → List PyData
  | .nil => []
  | .cons s ss => s.d :: ss.ds
end
def Es.list : Es → List E
  | .nil => []
  | .cons e es => e :: es.list
def Ss.list : Ss → List S
  | .nil => []
  | .cons s ss => s :: ss.list
def Ss.of : List S → Ss
  | [] => .nil
  | s :: ss => .cons s (Ss.of ss)
def Ss.app : Ss → Ss → Ss
  | .nil, c => c
  | .cons s b, c => .cons s (b.app c)
def Es.len : Es → Nat
  | .nil => 0
  | .cons _ es => es.len + 1
theorem Es.ds_len : ∀ es : Es, es.ds.length = es.len
  | .nil => rfl
  | .cons _ es => congrArg (· + 1) (Es.ds_len es)
theorem Es.list_ds : ∀ es : Es, es.ds = es.list.map E.d
  | .nil => rfl
  | .cons _ es => congrArg (_ :: ·) (Es.list_ds es)
theorem Ss.list_ds : ∀ es : Ss, es.ds = es.list.map S.d
  | .nil => rfl
  | .cons _ es => congrArg (_ :: ·) (Ss.list_ds es)
theorem Ss.app_ds : ∀ b c : Ss, (b.app c).ds = b.ds ++ c.ds
  | .nil, _ => rfl
  | .cons _ b, c => congrArg (_ :: ·) (Ss.app_ds b c)
theorem Ss.app_list : ∀ b c : Ss, (b.app c).list = b.list ++ c.list
  | .nil, _ => rfl
  | .cons _ b, c => congrArg (_ :: ·) (Ss.app_list b c)
theorem Ss.of_list : ∀ l : List S, (Ss.of l).list = l
  | [] => rfl
  | _ :: l => congrArg (_ :: ·) (Ss.of_list l)
/-! ### the names that are used; the names of lets -/
mutual
def E.uses : E → List Str
  | .int _ => []
  | .name x => [x]
  | .choice _ l r => l.uses ++ r.uses
  | .call r _ as => r.uses ++ as.uses
  | .new _ as => as.uses
  | .plain _ as => as.uses
def Es.uses : Es → List Str
  | .nil => []
  | .cons e es => e.uses ++ es.uses
end
mutual
def S.uses : S → List Str
  | .letS x _ e => x :: e.uses
  | .setS x e => x :: e.uses
  | .ifS e b c => e.uses ++ (b.uses ++ c.uses)
  | .whileS e b => e.uses ++ b.uses
  | .doS e => e.uses
  | .fork r _ as => r.uses ++ as.uses
  | .plain _ as => as.uses
def Ss.uses : Ss → List Str
  | .nil => []
  | .cons s ss => s.uses ++ ss.uses
end
mutual
def S.lets : S → List Str
  | .letS x _ _ => [x]
  | .ifS _ b c => b.lets ++ c.lets
  | .whileS _ b => b.lets
  | _ => []
def Ss.lets : Ss → List Str
  | .nil => []
  | .cons s ss => s.lets ++ ss.lets
end
theorem Ss.app_lets : ∀ b c : Ss, (b.app c).lets = b.lets ++ c.lets
  | .nil, _ => rfl
  | .cons s b, c => by
    show s.lets ++ (b.app c).lets = (s.lets ++ b.lets) ++ c.lets
    rw [Ss.app_lets b c, List.append_assoc]
theorem Ss.app_uses : ∀ b c : Ss, (b.app c).uses = b.uses ++ c.uses
  | .nil, _ => rfl
  | .cons s b, c => by
    show s.uses ++ (b.app c).uses = (s.uses ++ b.uses) ++ c.uses
    rw [Ss.app_uses b c, List.append_assoc]
/-! ### words in their places -/
abbrev plainE : List Str := ["nil", "self", "add", "sub", "mul", "less", "most", "same", "not"]
abbrev leafE : List Str := ["nil", "self"]
def Es.isNil : Es → Bool
  | .nil => true
  | .cons _ _ => false
abbrev plainB : List Str := ["return", "print", "move"]
/-- how many parts stand behind a word -/
def arE (w : Str) : Nat := if w ∈ leafE then 0 else if w = "not" then 1 else 2
def arB (w : Str) : Nat := if w = "move" then 2 else 1
mutual
def E.wf : E → Bool
  | .int _ => true
  | .name _ => true
  | .choice _ l r => l.wf && r.wf
  | .call r _ as => r.wf && as.wf
  | .new _ as => as.wf
  | .plain w as => (decide (w ∈ plainE) && decide (as.len = arE w)) && as.wf
def Es.wf : Es → Bool
  | .nil => true
  | .cons e es => e.wf && es.wf
end
mutual
def S.wf : S → Bool
  | .letS _ _ e => e.wf
  | .setS _ e => e.wf
  | .ifS e b c => e.wf && (b.wf && c.wf)
  | .whileS e b => e.wf && b.wf
  | .doS e => e.wf
  | .fork r _ as => r.wf && as.wf
  | .plain w as => (decide (w ∈ plainB) && decide (as.len = arB w)) && as.wf
def Ss.wf : Ss → Bool
  | .nil => true
  | .cons s ss => s.wf && ss.wf
end
theorem Ss.app_wf : ∀ b c : Ss, (b.app c).wf = (b.wf && c.wf)
  | .nil, _ => rfl
  | .cons s b, c => by
    show (s.wf && (b.app c).wf) = ((s.wf && b.wf) && c.wf)
    rw [Ss.app_wf b c, Bool.and_assoc]
theorem and2 {a b : Bool} (h1 : a = true) (h2 : b = true) : (a && b) = true := by rw [h1, h2]; rfl
theorem wfP {w : Str} {e : E} {as : Es} (h1 : decide (w ∈ plainB) = true) (h3 : (Es.cons e as).len = arB w) (h2 : (Es.cons e as).wf = true) : (S.plain w (.cons e as)).wf = true := and2 (and2 h1 (decide_eq_true h3)) h2
theorem ar_nil {w : Str} (h : decide (0 = arE w) = true) : w ∈ leafE := by
  by_cases e : w ∈ leafE
  · exact e
  · have h' := of_decide_eq_true h
    unfold arE at h'
    rw [if_neg e] at h'
    split at h' <;> omega
theorem ar_some {w : Str} {n : Nat} (h : decide (n + 1 = arE w) = true) : ¬ w ∈ leafE := fun e => by
  have h' := of_decide_eq_true h
  unfold arE at h'
  rw [if_pos e] at h'
  omega
theorem wfW {e : E} {b : Ss} (h1 : e.wf = true) (h2 : b.wf = true) : (S.whileS e b).wf = true := and2 h1 h2
theorem wfC {e : E} {es : Es} (h1 : e.wf = true) (h2 : es.wf = true) : (Es.cons e es).wf = true := and2 h1 h2
theorem wfSs {e : S} {es : Ss} (h1 : e.wf = true) (h2 : es.wf = true) : (Ss.cons e es).wf = true := and2 h1 h2
/-! ### depth -/
mutual
def E.dep : E → Nat
  | .int _ => 0
  | .name _ => 0
  | .choice _ l r => max l.dep r.dep + 1
  | .call r _ as => max r.dep as.dep + 1
  | .new _ as => as.dep + 1
  | .plain _ as => as.dep + 1
def Es.dep : Es → Nat
  | .nil => 0
  | .cons e es => max e.dep es.dep
end
mutual
def S.dep : S → Nat
  | .letS _ _ e => e.dep + 1
  | .setS _ e => e.dep + 1
  | .ifS e b c => max e.dep (max b.dep c.dep) + 1
  | .whileS e b => max e.dep b.dep + 1
  | .doS e => e.dep + 1
  | .fork r _ as => max r.dep as.dep + 1
  | .plain _ as => as.dep + 1
def Ss.dep : Ss → Nat
  | .nil => 0
  | .cons s ss => max s.dep ss.dep
end
/-! ### the number of instructions -/
mutual
def E.sz : E → Nat
  | .int _ => 1
  | .name _ => 1
  | .choice o l r => l.sz + r.sz + (if o then 2 else 0) + 5
  | .call r _ as => r.sz + as.sz + 1
  | .new _ as => as.sz + 1
  | .plain _ as => as.sz + 1
def Es.sz : Es → Nat
  | .nil => 0
  | .cons e es => e.sz + es.sz
end
mutual
def S.sz : S → Nat
  | .letS _ _ e => e.sz + 1
  | .setS _ e => e.sz + 1
  | .ifS e b c => e.sz + 1 + b.sz + (match c with | .nil => 0 | .cons _ _ => 1) + c.sz
  | .whileS e b => e.sz + b.sz + 2
  | .doS e => e.sz + 1
  | .fork r _ as => r.sz + as.sz + 1
  | .plain _ as => as.sz + 1
def Ss.sz : Ss → Nat
  | .nil => 0
  | .cons s ss => s.sz + ss.sz
end
theorem Ss.app_dep : ∀ b c : Ss, (b.app c).dep = max b.dep c.dep
  | .nil, _ => (Nat.zero_max _).symm
  | .cons s b, c => by
    show max s.dep (b.app c).dep = max (max s.dep b.dep) c.dep
    rw [Ss.app_dep b c, Nat.max_assoc]
theorem Ss.app_sz : ∀ b c : Ss, (b.app c).sz = b.sz + c.sz
  | .nil, _ => (Nat.zero_add _).symm
  | .cons s b, c => by
    show s.sz + (b.app c).sz = (s.sz + b.sz) + c.sz
    rw [Ss.app_sz b c, Nat.add_assoc]
/-! ### code -/
def I1 (x : Str) : PyData := .tuple [.str x]
def I2 (x : Str) (n : Int) : PyData := .tuple [.str x, .int n]
def I3 (x y : Str) (n : Int) : PyData := .tuple [.str x, .str y, .int n]
/-- what turns the parts of an or -/
def tn (o : Bool) : List PyData := if o then [I1 "not"] else []
def kn (o : Bool) : Nat := if o then 1 else 0
def ends (o : Bool) (d : Nat) : List PyData := [I2 "push" (if o then 0 else 1), I2 "jump" ((d : Int) + 1), I2 "push" (if o then 1 else 0)]
abbrev Plc := Str → Str × Int
mutual
def E.code (pl : Plc) : E → Nat → List PyData
  | .int n, _ => [I2 "push" n]
  | .name x, _ => [I2 (pl x).1 (pl x).2]
  | .choice o l r, at_ => (l.code pl at_ ++ tn o) ++ [I2 "unless" ((at_ + l.sz + kn o + 1 + r.sz + kn o + 3 : Nat) : Int)] ++ (r.code pl (at_ + l.sz + kn o + 1) ++ tn o) ++ [I2 "unless" ((at_ + l.sz + kn o + 1 + r.sz + kn o + 3 : Nat) : Int)] ++ ends o (at_ + l.sz + kn o + 1 + r.sz + kn o + 3)
  | .call r f as, at_ => (r.code pl at_ ++ as.code pl (at_ + r.sz)) ++ [I3 "call" f as.len]
  | .new m as, at_ => as.code pl at_ ++ [I3 "new" m as.len]
  | .plain w as, at_ => as.code pl at_ ++ [I1 w]
def Es.code (pl : Plc) : Es → Nat → List PyData
  | .nil, _ => []
  | .cons e es, at_ => e.code pl at_ ++ es.code pl (at_ + e.sz)
end
mutual
def S.code (pl : Plc) : S → Nat → List PyData
  | .letS x _ e, at_ => e.code pl at_ ++ [I2 ("set" ++ (pl x).1) (pl x).2]
  | .setS x e, at_ => e.code pl at_ ++ [I2 ("set" ++ (pl x).1) (pl x).2]
  | .ifS e b .nil, at_ => e.code pl at_ ++ [I2 "unless" ((at_ + e.sz + 1 + b.sz : Nat) : Int)] ++ b.code pl (at_ + e.sz + 1)
  | .ifS e b (.cons s ss), at_ => e.code pl at_ ++ [I2 "unless" ((at_ + e.sz + 1 + b.sz + 1 : Nat) : Int)] ++ b.code pl (at_ + e.sz + 1) ++ [I2 "jump" ((at_ + e.sz + 1 + b.sz + 1 + (s.sz + ss.sz) : Nat) : Int)] ++
      (s.code pl (at_ + e.sz + 1 + b.sz + 1) ++ ss.code pl (at_ + e.sz + 1 + b.sz + 1 + s.sz))
  | .whileS e b, at_ => e.code pl at_ ++ [I2 "unless" ((at_ + e.sz + 1 + b.sz + 1 : Nat) : Int)] ++ b.code pl (at_ + e.sz + 1) ++ [I2 "jump" (at_ : Nat)]
  | .doS e, at_ => e.code pl at_ ++ [I1 "drop"]
  | .fork r f as, at_ => (r.code pl at_ ++ as.code pl (at_ + r.sz)) ++ [I3 "fork" f as.len]
  | .plain w as, at_ => as.code pl at_ ++ [I1 w]
def Ss.code (pl : Plc) : Ss → Nat → List PyData
  | .nil, _ => []
  | .cons s ss, at_ => s.code pl at_ ++ ss.code pl (at_ + s.sz)
end
theorem tn_len (o : Bool) : (tn o).length = kn o := by cases o <;> rfl
mutual
theorem E.code_len (pl : Plc) : ∀ (e : E) (a : Nat), (e.code pl a).length = e.sz
  | .int _, _ => rfl
  | .name _, _ => rfl
  | .choice o l r, a => by
    have h1 := E.code_len pl l a
    have h2 := E.code_len pl r (a + l.sz + kn o + 1)
    simp only [E.code, List.length_append, List.length_cons, List.length_nil, h1, h2, tn_len, ends, E.sz]
    cases o <;> simp [kn] <;> omega
  | .call r f as, a => by
    have h1 := E.code_len pl r a
    have h2 := Es.code_len pl as (a + r.sz)
    simp only [E.code, List.length_append, List.length_cons, List.length_nil, h1, h2, E.sz]
  | .new m as, a => by
    have h2 := Es.code_len pl as a
    simp only [E.code, List.length_append, List.length_cons, List.length_nil, h2, E.sz]
  | .plain w as, a => by
    have h2 := Es.code_len pl as a
    simp only [E.code, List.length_append, List.length_cons, List.length_nil, h2, E.sz]
theorem Es.code_len (pl : Plc) : ∀ (es : Es) (a : Nat), (es.code pl a).length = es.sz
  | .nil, _ => rfl
  | .cons e es, a => by
    have h1 := E.code_len pl e a
    have h2 := Es.code_len pl es (a + e.sz)
    simp only [Es.code, List.length_append, h1, h2, Es.sz]
end
mutual
theorem S.code_len (pl : Plc) : ∀ (s : S) (a : Nat), (s.code pl a).length = s.sz
  | .letS x k e, a => by simp only [S.code, List.length_append, List.length_cons, List.length_nil, E.code_len, S.sz]
  | .setS x e, a => by simp only [S.code, List.length_append, List.length_cons, List.length_nil, E.code_len, S.sz]
  | .ifS e b .nil, a => by
    have h := Ss.code_len pl b (a + e.sz + 1)
    simp only [S.code, List.length_append, List.length_cons, List.length_nil, E.code_len, h, S.sz, Ss.sz]
    omega
  | .ifS e b (.cons s ss), a => by
    have h := Ss.code_len pl b (a + e.sz + 1)
    have h1 := S.code_len pl s (a + e.sz + 1 + b.sz + 1)
    have h2 := Ss.code_len pl ss (a + e.sz + 1 + b.sz + 1 + s.sz)
    simp only [S.code, List.length_append, List.length_cons, List.length_nil, E.code_len, h, h1, h2, S.sz, Ss.sz]
  | .whileS e b, a => by
    have h := Ss.code_len pl b (a + e.sz + 1)
    simp only [S.code, List.length_append, List.length_cons, List.length_nil, E.code_len, h, S.sz]
    omega
  | .doS e, a => by simp only [S.code, List.length_append, List.length_cons, List.length_nil, E.code_len, S.sz]
  | .fork r f as, a => by simp only [S.code, List.length_append, List.length_cons, List.length_nil, E.code_len, Es.code_len, S.sz]
  | .plain w as, a => by simp only [S.code, List.length_append, List.length_cons, List.length_nil, Es.code_len, S.sz]
theorem Ss.code_len (pl : Plc) : ∀ (ss : Ss) (a : Nat), (ss.code pl a).length = ss.sz
  | .nil, _ => rfl
  | .cons s ss, a => by
    have h1 := S.code_len pl s a
    have h2 := Ss.code_len pl ss (a + s.sz)
    simp only [Ss.code, List.length_append, h1, h2, Ss.sz]
end
/-! ### rows of expressions, of statements, taken to a place -/
def Es.take : Es → Nat → Es
  | _, 0 => .nil
  | .nil, _ + 1 => .nil
  | .cons e es, n + 1 => .cons e (es.take n)
def Ss.take : Ss → Nat → Ss
  | _, 0 => .nil
  | .nil, _ + 1 => .nil
  | .cons e es, n + 1 => .cons e (es.take n)
theorem Es.take_next {pl : Plc} : ∀ {es : Es} {i : Nat} {e : E} (a : Nat), es.list[i]? = some e → (es.take (i + 1)).code pl a = (es.take i).code pl a ++ e.code pl (a + (es.take i).sz) ∧ (es.take (i + 1)).sz = (es.take i).sz + e.sz
  | .cons e es, 0, _, a, h => by
    cases h
    constructor
    · show e.code pl a ++ (es.take 0).code pl (a + e.sz) = [] ++ e.code pl (a + 0)
      cases es <;> simp [Es.take, Es.code]
    · show e.sz + (es.take 0).sz = 0 + e.sz
      cases es <;> simp [Es.take, Es.sz]
  | .cons e es, i + 1, f, a, h => by
    have ih := Es.take_next (pl := pl) (es := es) (i := i) (e := f) (a + e.sz) h
    constructor
    · show e.code pl a ++ (es.take (i + 1)).code pl (a + e.sz) = (e.code pl a ++ (es.take i).code pl (a + e.sz)) ++ f.code pl (a + (e.sz + (es.take i).sz))
      rw [ih.1, List.append_assoc, Nat.add_assoc a]
    · show e.sz + (es.take (i + 1)).sz = e.sz + (es.take i).sz + f.sz
      rw [ih.2]
      omega
  | .nil, i, _, _, h => by cases h
theorem Es.take_all : ∀ es : Es, es.take es.list.length = es
  | .nil => rfl
  | .cons e es => congrArg (Es.cons e) (Es.take_all es)
theorem Es.take_sz : ∀ (es : Es) (i : Nat), (es.take i).sz ≤ es.sz
  | es, 0 => by cases es <;> exact Nat.zero_le _
  | .nil, _ + 1 => Nat.le_refl _
  | .cons e es, i + 1 => Nat.add_le_add_left (Es.take_sz es i) _
theorem Ss.take_next {pl : Plc} : ∀ {es : Ss} {i : Nat} {e : S} (a : Nat), es.list[i]? = some e → (es.take (i + 1)).code pl a = (es.take i).code pl a ++ e.code pl (a + (es.take i).sz) ∧ (es.take (i + 1)).sz = (es.take i).sz + e.sz
  | .cons e es, 0, _, a, h => by
    cases h
    constructor
    · show e.code pl a ++ (es.take 0).code pl (a + e.sz) = [] ++ e.code pl (a + 0)
      cases es <;> simp [Ss.take, Ss.code]
    · show e.sz + (es.take 0).sz = 0 + e.sz
      cases es <;> simp [Ss.take, Ss.sz]
  | .cons e es, i + 1, f, a, h => by
    have ih := Ss.take_next (pl := pl) (es := es) (i := i) (e := f) (a + e.sz) h
    constructor
    · show e.code pl a ++ (es.take (i + 1)).code pl (a + e.sz) = (e.code pl a ++ (es.take i).code pl (a + e.sz)) ++ f.code pl (a + (e.sz + (es.take i).sz))
      rw [ih.1, List.append_assoc, Nat.add_assoc a]
    · show e.sz + (es.take (i + 1)).sz = e.sz + (es.take i).sz + f.sz
      rw [ih.2]
      omega
  | .nil, i, _, _, h => by cases h
theorem Ss.take_all : ∀ es : Ss, es.take es.list.length = es
  | .nil => rfl
  | .cons e es => congrArg (Ss.cons e) (Ss.take_all es)
theorem Ss.take_sz : ∀ (es : Ss) (i : Nat), (es.take i).sz ≤ es.sz
  | es, 0 => by cases es <;> exact Nat.zero_le _
  | .nil, _ + 1 => Nat.le_refl _
  | .cons e es, i + 1 => Nat.add_le_add_left (Ss.take_sz es i) _
/-- the parts of a row -/
theorem Es.part : ∀ {es : Es} {e : E}, e ∈ es.list → (es.wf = true → e.wf = true) ∧ (∀ x ∈ e.uses, x ∈ es.uses) ∧ e.dep ≤ es.dep ∧ e.sz ≤ es.sz
  | .cons f fs, e, h => by
    rcases List.mem_cons.mp (show e ∈ f :: fs.list from h) with rfl | h
    · exact ⟨fun w => (Bool.and_eq_true_iff.mp w).1, fun x hx => List.mem_append_left _ hx, Nat.le_max_left _ _, Nat.le_add_right _ _⟩
    · obtain ⟨h1, h2, h3, h4⟩ := Es.part h
      exact ⟨fun w => h1 (Bool.and_eq_true_iff.mp w).2, fun x hx => List.mem_append_right _ (h2 x hx), Nat.le_trans h3 (Nat.le_max_right _ _), Nat.le_trans h4 (Nat.le_add_left _ _)⟩
  | .nil, _, h => by cases h
theorem Ss.part : ∀ {es : Ss} {e : S}, e ∈ es.list → (es.wf = true → e.wf = true) ∧ (∀ x ∈ e.uses, x ∈ es.uses) ∧ e.dep ≤ es.dep ∧ e.sz ≤ es.sz
  | .cons f fs, e, h => by
    rcases List.mem_cons.mp (show e ∈ f :: fs.list from h) with rfl | h
    · exact ⟨fun w => (Bool.and_eq_true_iff.mp w).1, fun x hx => List.mem_append_left _ hx, Nat.le_max_left _ _, Nat.le_add_right _ _⟩
    · obtain ⟨h1, h2, h3, h4⟩ := Ss.part h
      exact ⟨fun w => h1 (Bool.and_eq_true_iff.mp w).2, fun x hx => List.mem_append_right _ (h2 x hx), Nat.le_trans h3 (Nat.le_max_right _ _), Nat.le_trans h4 (Nat.le_add_left _ _)⟩
  | .nil, _, h => by cases h
theorem Rps.at_E {K : PySem.W.Frag} {H : Hp} {vs : List V} {es : Es} {i : Nat} {v : V} (r : Rps K H vs es.ds) (h : vs[i]? = some v) : ∃ e, es.list[i]? = some e ∧ Rp K H v e.d := by
  rw [Es.list_ds] at r
  have hl := r.len
  rw [List.length_map] at hl
  have hi : i < es.list.length := by
    rw [← hl]
    exact (List.getElem?_eq_some_iff.mp h).1
  have e1 : es.list[i]? = some es.list[i] := List.getElem?_eq_getElem hi
  obtain ⟨u, hu, ru⟩ := r.at_ (i := i) (d := es.list[i].d) (by rw [List.getElem?_map, e1]; rfl)
  rw [h] at hu
  cases hu
  exact ⟨_, e1, ru⟩
theorem Rps.at_S {K : PySem.W.Frag} {H : Hp} {vs : List V} {es : Ss} {i : Nat} {v : V} (r : Rps K H vs es.ds) (h : vs[i]? = some v) : ∃ e, es.list[i]? = some e ∧ Rp K H v e.d := by
  rw [Ss.list_ds] at r
  have hl := r.len
  rw [List.length_map] at hl
  have hi : i < es.list.length := by
    rw [← hl]
    exact (List.getElem?_eq_some_iff.mp h).1
  have e1 : es.list[i]? = some es.list[i] := List.getElem?_eq_getElem hi
  obtain ⟨u, hu, ru⟩ := r.at_ (i := i) (d := es.list[i].d) (by rw [List.getElem?_map, e1]; rfl)
  rw [h] at hu
  cases hu
  exact ⟨_, e1, ru⟩
/-- an item of a tuple of data -/
theorem ix_rp {K : PySem.W.Frag} {H : Hp} {x : V} {ds : List PyData} {i : Nat} {d : PyData} {Q : VK} (hx : Rp K H x (.tuple ds)) (hi : ds[i]? = some d) (h : ∀ v, Rp K H v d → Q v H) : rIxT K x (.int (i : Nat)) H Q := by
  obtain ⟨a, xs, rfl, ha, hxs⟩ := hx.tup_inv
  obtain ⟨v, hv, rv⟩ := hxs.at_ hi
  exact ⟨a, xs, _, v, rfl, rfl, ha, atI_nat hv, h v rv⟩
theorem len_rp {K : PySem.W.Frag} {H : Hp} {x : V} {ds : List PyData} (hx : Rp K H x (.tuple ds)) : ∃ a xs, x = .ref a ∧ SqT K H a xs ∧ xs.length = ds.length := by
  obtain ⟨a, xs, rfl, ha, hxs⟩ := hx.tup_inv
  exact ⟨a, xs, rfl, ha, hxs.len⟩
/-- where the names are kept: a dict of places -/
def PlAt (K : PySem.W.Frag) (H : Hp) (nd : Addr) (pl : Plc) (N : List Str) : Prop := ∃ kvs, H nd = some (.dK kvs) ∧ ∀ x ∈ N, (pl x).1.length ≤ 1000 ∧ ∃ v, valV kvs (.inr x : Key) = some v ∧ Rp K H v (.tuple [.str (pl x).1, .int (pl x).2])
theorem PlAt.same {K : PySem.W.Frag} {H H' : Hp} {nd : Addr} {pl : Plc} {N : List Str} (p : PlAt K H nd pl N) (s : Same H H') : PlAt K H' nd pl N := by
  obtain ⟨kvs, h, q⟩ := p
  exact ⟨kvs, s _ _ h, fun x hx => ⟨(q x hx).1, by
    obtain ⟨v, h1, h2⟩ := (q x hx).2
    exact ⟨v, h1, h2.keep (Same.tups s)⟩⟩⟩
end Pt

set_option Elab.async false
set_option linter.all false
set_option maxRecDepth 100000
set_option maxHeartbeats 4000000
/-! Dicts whose values are anything, compared with a copy of themselves; stores keep the keys apart. -/
namespace DictN
open PySem PySem.Spec PyProof.Rows L2
def calmB : V → Bool
  | .flt _ => false
  | .ty _ => false
  | _ => true
theorem eqAt_any {A : Around} {s : Shared} {v : V} {u u' : Value} (r : RelV v u) (r' : RelV v u') (f : calmB v = true) : SeqAt.EqAt A s u u' true := by
  cases v with
  | ref a => cases (show u = Value.ref a from r); cases (show u' = Value.ref a from r'); exact SeqAt.EqAt.same _
  | flt x => exact absurd (show false = true from f) Bool.false_ne_true
  | ty n => exact absurd (show false = true from f) Bool.false_ne_true
  | non => exact eqAt_same r r' rfl
  | bl b => exact eqAt_same r r' rfl
  | int i => exact eqAt_same r r' rfl
  | str x => exact eqAt_same r r' rfl
  | byt b => exact eqAt_same r r' rfl
section
variable {κ : Type} [DecidableEq κ]
theorem hits_any {A : Around} {s : Shared} {kvs : List (κ × V)} {vb : List (κ × Value)} (rb : KV kvs vb) {ks : List (κ × V)} {va : List (κ × Value)} (ra : KV ks va) :
    (∀ p ∈ ks, valV kvs p.1 = some p.2 ∧ calmB p.2 = true) → PySem.W.KeqHits A s vb va true := by
  unfold KV at ra
  induction ra with
  | nil => intro _; exact .nil
  | @cons p q ps qs h t ih =>
    intro hp
    obtain ⟨h1, h2⟩ := h
    obtain ⟨e, f⟩ := hp p List.mem_cons_self
    have rr : RelO (some p.2) (valueAt vb p.1) := by rw [← e]; exact rb.val p.1
    obtain ⟨y, hy, ry⟩ := rr.some_of
    obtain ⟨k, v⟩ := q
    have h1' : p.1 = k := h1
    rw [h1'] at hy
    show PySem.W.KeqHits A s vb ((k, v) :: qs) (true && true)
    exact .hit hy (eqAt_any h2 ry f) (ih fun p' hm => hp p' (List.mem_cons_of_mem _ hm))
theorem nd_put {kvs : List (κ × V)} {k : κ} {v : V} (nd : (kvs.map (·.1)).Nodup) : ((putK kvs k v).map (·.1)).Nodup := by
  cases h : valV kvs k with
  | none => exact nd_putK v nd h
  | some u =>
    unfold putK
    split
    · have e : (kvs.map fun kv => if kv.1 = k then (kv.1, v) else kv).map (·.1) = kvs.map (·.1) := by
        rw [List.map_map]
        apply List.map_congr_left
        intro kv _
        show (if kv.1 = k then (kv.1, v) else kv).1 = kv.1
        split <;> rfl
      rw [e]
      exact nd
    · rename_i hn
      exfalso
      apply hn
      unfold valV at h
      cases hf : kvs.find? fun kv => decide (kv.1 = k) with
      | none => rw [hf] at h; cases h
      | some kv =>
        rw [List.any_eq_true]
        exact ⟨kv, List.mem_of_find?_eq_some hf, (List.find?_some (p := fun kv : κ × V => decide (kv.1 = k)) hf)⟩
theorem mem_put {kvs : List (κ × V)} {k : κ} {v : V} {p : κ × V} (h : p ∈ putK kvs k v) : p ∈ kvs ∨ p.2 = v := by
  unfold putK at h
  split at h
  · obtain ⟨kv, hm, e⟩ := List.mem_map.mp h
    split at e
    · exact .inr (by rw [← e])
    · exact .inl (e ▸ hm)
  · rcases List.mem_append.mp h with h | h
    · exact .inl h
    · exact .inr (by rw [List.mem_singleton.mp h])
theorem len_put {kvs : List (κ × V)} {k : κ} {v : V} : (putK kvs k v).length ≤ kvs.length + 1 := length_putK kvs k v
end
section
variable {X : Cx}
def rNeDS : R2 := fun x y H Q => ∃ a b kvs, x = .ref a ∧ y = .ref b ∧ H a = some (.dK kvs) ∧ H b = some (.dK kvs) ∧ (kvs.map (·.1)).Nodup ∧ (∀ p ∈ kvs, calmB p.2 = true) ∧ Q (.bl false) H
theorem op_ne_dictS (hu : X.A.units < cLine) : OpR X (compareOp .NotEq) rNeDS := by
  intro pins s σ H x y v u Q I rx ry h
  obtain ⟨a, b, kvs, rfl, rfl, ea, eb, nd, fl, q⟩ := h
  obtain rfl : v = Value.ref a := rx
  obtain rfl : u = Value.ref b := ry
  obtain ⟨_, ya, va, ra, da⟩ := (show ObjOk X.prog X.w H s.heap a (.dK kvs) from I.hok a _ ea)
  obtain ⟨_, yb, vb, rb, db⟩ := (show ObjOk X.prog X.w H s.heap b (.dK kvs) from I.hok b _ eb)
  have hl : va.length = vb.length := ra.length.symm.trans rb.length
  exact PySem.W.keq_ne (knd := mixKind X.prog X.w) (r := true) ya yb da db hu (fun _ => hits_any rb ra fun p hp => ⟨val_nodup nd p hp, fl p hp⟩) (fin_bl I q (by simp [hl]))
end
end DictN

set_option Elab.async false
set_option linter.all false
set_option maxRecDepth 100000
set_option maxHeartbeats 4000000
--%OPEN Pt
--%VAR variable {P : Program} {w : World} {K : PySem.W.Frag} {mg : Str → Option Value} {base : Heap} {a : Fds}
namespace K21
open PySem PySem.Spec PyProof.Rows L2 Pt
open PySem PySem.Spec PyProof.Rows L2
def topS (i : Nat) : Stmt := PySem.Challenge.pw_portage_k21_code_by_its_rules.main.body.getD i (.Pass ⟨0, 0, 0, 0⟩)
abbrev s_blocks_in : Stmt := topS 1
abbrev N_blocks_in : List Str := ["statement"]
theorem sc_blocks_in : FnScope N_blocks_in ["statement"] (defScope s_blocks_in) := ⟨rfl, rfl, rfl, by decide +kernel, rfl, by decide +kernel, by decide +kernel⟩
abbrev s_let_names : Stmt := topS 2
abbrev N_let_names : List Str := ["block", "found", "statement", "inner"]
theorem sc_let_names : FnScope N_let_names ["block"] (defScope s_let_names) := ⟨rfl, rfl, rfl, by decide +kernel, rfl, by decide +kernel, by decide +kernel⟩
abbrev s_local_names : Stmt := topS 4
abbrev N_local_names : List Str := ["params", "block"]
theorem sc_local_names : FnScope N_local_names ["params", "block"] (defScope s_local_names) := ⟨rfl, rfl, rfl, by decide +kernel, rfl, by decide +kernel, by decide +kernel⟩
abbrev s_compiled_block : Stmt := topS 5
abbrev N_compiled_block : List Str := ["names", "block"]
theorem sc_compiled_block : FnScope N_compiled_block ["names", "block"] (defScope s_compiled_block) := ⟨rfl, rfl, rfl, by decide +kernel, rfl, by decide +kernel, by decide +kernel⟩
abbrev s_block_code : Stmt := topS 6
abbrev N_block_code : List Str := ["names", "block", "at", "code", "statement"]
theorem sc_block_code : FnScope N_block_code ["names", "block", "at"] (defScope s_block_code) := ⟨rfl, rfl, rfl, by decide +kernel, rfl, by decide +kernel, by decide +kernel⟩
abbrev s_statement_code : Stmt := topS 7
abbrev N_statement_code : List Str := ["names", "statement", "at", "word", "where", "k", "instruction"]
theorem sc_statement_code : FnScope N_statement_code ["names", "statement", "at"] (defScope s_statement_code) := ⟨rfl, rfl, rfl, by decide +kernel, rfl, by decide +kernel, by decide +kernel⟩
abbrev s_if_code : Stmt := topS 8
abbrev N_if_code : List Str := ["names", "statement", "at", "_", "condition", "block", "other", "asked", "first", "behind", "second"]
theorem sc_if_code : FnScope N_if_code ["names", "statement", "at"] (defScope s_if_code) := ⟨rfl, rfl, rfl, by decide +kernel, rfl, by decide +kernel, by decide +kernel⟩
abbrev s_while_code : Stmt := topS 9
abbrev N_while_code : List Str := ["names", "statement", "at", "asked", "block", "behind"]
theorem sc_while_code : FnScope N_while_code ["names", "statement", "at"] (defScope s_while_code) := ⟨rfl, rfl, rfl, by decide +kernel, rfl, by decide +kernel, by decide +kernel⟩
abbrev s_row_code : Stmt := topS 10
abbrev N_row_code : List Str := ["names", "expressions", "at", "code", "expression"]
theorem sc_row_code : FnScope N_row_code ["names", "expressions", "at"] (defScope s_row_code) := ⟨rfl, rfl, rfl, by decide +kernel, rfl, by decide +kernel, by decide +kernel⟩
abbrev s_call_code : Stmt := topS 11
abbrev N_call_code : List Str := ["names", "call", "at", "word", "receiver", "operation", "arguments"]
theorem sc_call_code : FnScope N_call_code ["names", "call", "at"] (defScope s_call_code) := ⟨rfl, rfl, rfl, by decide +kernel, rfl, by decide +kernel, by decide +kernel⟩
abbrev s_expression_code : Stmt := topS 12
abbrev N_expression_code : List Str := ["names", "expression", "at", "word"]
theorem sc_expression_code : FnScope N_expression_code ["names", "expression", "at"] (defScope s_expression_code) := ⟨rfl, rfl, rfl, by decide +kernel, rfl, by decide +kernel, by decide +kernel⟩
abbrev s_choice_code : Stmt := topS 13
abbrev N_choice_code : List Str := ["names", "expression", "at", "word", "left", "right", "turned", "first", "second", "decided", "plain", "early", "ends"]
theorem sc_choice_code : FnScope N_choice_code ["names", "expression", "at"] (defScope s_choice_code) := ⟨rfl, rfl, rfl, by decide +kernel, rfl, by decide +kernel, by decide +kernel⟩
abbrev s_lw_cell : Stmt := topS 15
abbrev N_lw_cell : List Str := ["script", "k"]
theorem sc_lw_cell : FnScope N_lw_cell ["script", "k"] (defScope s_lw_cell) := ⟨rfl, rfl, rfl, by decide +kernel, rfl, by decide +kernel, by decide +kernel⟩
abbrev s_lw_numbers : Stmt := topS 16
abbrev N_lw_numbers : List Str := ["cell", "k", "many", "numbers", "rest", "j", "mixed", "twice"]
theorem sc_lw_numbers : FnScope N_lw_numbers ["cell", "k", "many"] (defScope s_lw_numbers) := ⟨rfl, rfl, rfl, by decide +kernel, rfl, by decide +kernel, by decide +kernel⟩
abbrev s_lw_pick : Stmt := topS 17
abbrev N_lw_pick : List Str := ["numbers", "at"]
theorem sc_lw_pick : FnScope N_lw_pick ["numbers", "at"] (defScope s_lw_pick) := ⟨rfl, rfl, rfl, by decide +kernel, rfl, by decide +kernel, by decide +kernel⟩
abbrev s_lw_int : Stmt := topS 18
abbrev N_lw_int : List Str := ["numbers", "at", "ints", "cells", "level", "depth", "pick", "way", "word", "first", "receiver", "other"]
theorem sc_lw_int : FnScope N_lw_int ["numbers", "at", "ints", "cells", "level", "depth"] (defScope s_lw_int) := ⟨rfl, rfl, rfl, by decide +kernel, rfl, by decide +kernel, by decide +kernel⟩
abbrev s_lw_object : Stmt := topS 19
abbrev N_lw_object : List Str := ["numbers", "at", "ints", "cells", "level", "depth", "pick", "way", "name", "first", "number", "receiver"]
theorem sc_lw_object : FnScope N_lw_object ["numbers", "at", "ints", "cells", "level", "depth"] (defScope s_lw_object) := ⟨rfl, rfl, rfl, by decide +kernel, rfl, by decide +kernel, by decide +kernel⟩
abbrev s_lw_receiver : Stmt := topS 20
abbrev N_lw_receiver : List Str := ["numbers", "at", "ints", "cells", "level", "depth", "found"]
theorem sc_lw_receiver : FnScope N_lw_receiver ["numbers", "at", "ints", "cells", "level", "depth"] (defScope s_lw_receiver) := ⟨rfl, rfl, rfl, by decide +kernel, rfl, by decide +kernel, by decide +kernel⟩
abbrev s_lw_block : Stmt := topS 21
abbrev N_lw_block : List Str := ["numbers", "at", "ints", "cells", "level", "many", "mark", "rows", "k", "pick", "way", "name", "own", "first", "second", "inner", "onward", "receiver", "given", "one"]
theorem sc_lw_block : FnScope N_lw_block ["numbers", "at", "ints", "cells", "level", "many", "mark"] (defScope s_lw_block) := ⟨rfl, rfl, rfl, by decide +kernel, rfl, by decide +kernel, by decide +kernel⟩
abbrev s_lw_maker : Stmt := topS 22
abbrev N_lw_maker : List Str := ["numbers", "at", "name", "pick", "params", "fields", "ints", "cells", "get", "put", "link", "both", "rows"]
theorem sc_lw_maker : FnScope N_lw_maker ["numbers", "at", "name"] (defScope s_lw_maker) := ⟨rfl, rfl, rfl, by decide +kernel, rfl, by decide +kernel, by decide +kernel⟩
abbrev s_lw_interface : Stmt := topS 23
abbrev N_lw_interface : List Str := []
theorem sc_lw_interface : FnScope N_lw_interface [] (defScope s_lw_interface) := ⟨rfl, rfl, rfl, by decide +kernel, rfl, by decide +kernel, by decide +kernel⟩
abbrev s_lw_program : Stmt := topS 24
abbrev N_lw_program : List Str := ["numbers", "many", "level", "at", "makers", "first", "second", "third", "block", "end"]
theorem sc_lw_program : FnScope N_lw_program ["numbers", "many", "level"] (defScope s_lw_program) := ⟨rfl, rfl, rfl, by decide +kernel, rfl, by decide +kernel, by decide +kernel⟩
abbrev s_lw_code : Stmt := topS 25
abbrev N_lw_code : List Str := ["node", "places", "base", "word", "flip", "first", "second", "end", "parts", "code", "part"]
theorem sc_lw_code : FnScope N_lw_code ["node", "places", "base"] (defScope s_lw_code) := ⟨rfl, rfl, rfl, by decide +kernel, rfl, by decide +kernel, by decide +kernel⟩
abbrev s_lw_block_code : Stmt := topS 26
abbrev N_lw_block_code : List Str := ["block", "places", "base", "code", "node", "at", "word", "place", "test", "first", "end", "second", "inner"]
theorem sc_lw_block_code : FnScope N_lw_block_code ["block", "places", "base"] (defScope s_lw_block_code) := ⟨rfl, rfl, rfl, by decide +kernel, rfl, by decide +kernel, by decide +kernel⟩
abbrev s_lw_lets : Stmt := topS 27
abbrev N_lw_lets : List Str := ["block", "names", "node"]
theorem sc_lw_lets : FnScope N_lw_lets ["block"] (defScope s_lw_lets) := ⟨rfl, rfl, rfl, by decide +kernel, rfl, by decide +kernel, by decide +kernel⟩
abbrev s_law : Stmt := topS 28
abbrev N_law : List Str := ["script", "k", "numbers", "program", "blocks", "maker", "fields", "name", "params", "result", "block", "names", "places", "j", "kept", "told", "part", "one", "kind"]
theorem sc_law : FnScope N_law ["script"] (defScope s_law) := ⟨rfl, rfl, rfl, by decide +kernel, rfl, by decide +kernel, by decide +kernel⟩
/-- the function objects that the top has made -/
structure Fds where
  d_blocks_in : FuncData
  d_let_names : FuncData
  d_local_names : FuncData
  d_compiled_block : FuncData
  d_block_code : FuncData
  d_statement_code : FuncData
  d_if_code : FuncData
  d_while_code : FuncData
  d_row_code : FuncData
  d_call_code : FuncData
  d_expression_code : FuncData
  d_choice_code : FuncData
  d_lw_cell : FuncData
  d_lw_numbers : FuncData
  d_lw_pick : FuncData
  d_lw_int : FuncData
  d_lw_object : FuncData
  d_lw_receiver : FuncData
  d_lw_block : FuncData
  d_lw_maker : FuncData
  d_lw_interface : FuncData
  d_lw_program : FuncData
  d_lw_code : FuncData
  d_lw_block_code : FuncData
  d_lw_lets : FuncData
  d_law : FuncData
/-- what the walks ask of the top -/
structure Txt (K : PySem.W.Frag) (mg : Str → Option Value) (w : World) (a : Fds) : Prop where
  F_blocks_in : Cm.FnP K "blocks_in" s_blocks_in (He.ga K "blocks_in") a.d_blocks_in
  b_blocks_in : Binds K a.d_blocks_in ["statement"] []
  g_blocks_in : mg "blocks_in" = some (.ref (He.ga K "blocks_in"))
  F_let_names : Cm.FnP K "let_names" s_let_names (He.ga K "let_names") a.d_let_names
  b_let_names : Binds K a.d_let_names ["block"] []
  g_let_names : mg "let_names" = some (.ref (He.ga K "let_names"))
  F_local_names : Cm.FnP K "local_names" s_local_names (He.ga K "local_names") a.d_local_names
  b_local_names : Binds K a.d_local_names ["params", "block"] []
  g_local_names : mg "local_names" = some (.ref (He.ga K "local_names"))
  F_compiled_block : Cm.FnP K "compiled_block" s_compiled_block (He.ga K "compiled_block") a.d_compiled_block
  b_compiled_block : Binds K a.d_compiled_block ["names", "block"] []
  g_compiled_block : mg "compiled_block" = some (.ref (He.ga K "compiled_block"))
  F_block_code : Cm.FnP K "_block_code" s_block_code (He.ga K "_block_code") a.d_block_code
  b_block_code : Binds K a.d_block_code ["names", "block", "at"] []
  g_block_code : mg "_block_code" = some (.ref (He.ga K "_block_code"))
  F_statement_code : Cm.FnP K "_statement_code" s_statement_code (He.ga K "_statement_code") a.d_statement_code
  b_statement_code : Binds K a.d_statement_code ["names", "statement", "at"] []
  g_statement_code : mg "_statement_code" = some (.ref (He.ga K "_statement_code"))
  F_if_code : Cm.FnP K "_if_code" s_if_code (He.ga K "_if_code") a.d_if_code
  b_if_code : Binds K a.d_if_code ["names", "statement", "at"] []
  g_if_code : mg "_if_code" = some (.ref (He.ga K "_if_code"))
  F_while_code : Cm.FnP K "_while_code" s_while_code (He.ga K "_while_code") a.d_while_code
  b_while_code : Binds K a.d_while_code ["names", "statement", "at"] []
  g_while_code : mg "_while_code" = some (.ref (He.ga K "_while_code"))
  F_row_code : Cm.FnP K "_row_code" s_row_code (He.ga K "_row_code") a.d_row_code
  b_row_code : Binds K a.d_row_code ["names", "expressions", "at"] []
  g_row_code : mg "_row_code" = some (.ref (He.ga K "_row_code"))
  F_call_code : Cm.FnP K "_call_code" s_call_code (He.ga K "_call_code") a.d_call_code
  b_call_code : Binds K a.d_call_code ["names", "call", "at"] []
  g_call_code : mg "_call_code" = some (.ref (He.ga K "_call_code"))
  F_expression_code : Cm.FnP K "_expression_code" s_expression_code (He.ga K "_expression_code") a.d_expression_code
  b_expression_code : Binds K a.d_expression_code ["names", "expression", "at"] []
  g_expression_code : mg "_expression_code" = some (.ref (He.ga K "_expression_code"))
  F_choice_code : Cm.FnP K "_choice_code" s_choice_code (He.ga K "_choice_code") a.d_choice_code
  b_choice_code : Binds K a.d_choice_code ["names", "expression", "at"] []
  g_choice_code : mg "_choice_code" = some (.ref (He.ga K "_choice_code"))
  F_lw_cell : Cm.FnP K "_law_cell" s_lw_cell (He.ga K "_law_cell") a.d_lw_cell
  b_lw_cell : Binds K a.d_lw_cell ["script", "k"] []
  g_lw_cell : mg "_law_cell" = some (.ref (He.ga K "_law_cell"))
  F_lw_numbers : Cm.FnP K "_law_numbers" s_lw_numbers (He.ga K "_law_numbers") a.d_lw_numbers
  b_lw_numbers : Binds K a.d_lw_numbers ["cell", "k", "many"] []
  g_lw_numbers : mg "_law_numbers" = some (.ref (He.ga K "_law_numbers"))
  F_lw_pick : Cm.FnP K "_law_pick" s_lw_pick (He.ga K "_law_pick") a.d_lw_pick
  b_lw_pick : Binds K a.d_lw_pick ["numbers", "at"] []
  g_lw_pick : mg "_law_pick" = some (.ref (He.ga K "_law_pick"))
  F_lw_int : Cm.FnP K "_law_int" s_lw_int (He.ga K "_law_int") a.d_lw_int
  b_lw_int : Binds K a.d_lw_int ["numbers", "at", "ints", "cells", "level", "depth"] []
  g_lw_int : mg "_law_int" = some (.ref (He.ga K "_law_int"))
  F_lw_object : Cm.FnP K "_law_object" s_lw_object (He.ga K "_law_object") a.d_lw_object
  b_lw_object : Binds K a.d_lw_object ["numbers", "at", "ints", "cells", "level", "depth"] []
  g_lw_object : mg "_law_object" = some (.ref (He.ga K "_law_object"))
  F_lw_receiver : Cm.FnP K "_law_receiver" s_lw_receiver (He.ga K "_law_receiver") a.d_lw_receiver
  b_lw_receiver : Binds K a.d_lw_receiver ["numbers", "at", "ints", "cells", "level", "depth"] []
  g_lw_receiver : mg "_law_receiver" = some (.ref (He.ga K "_law_receiver"))
  F_lw_block : Cm.FnP K "_law_block" s_lw_block (He.ga K "_law_block") a.d_lw_block
  b_lw_block : Binds K a.d_lw_block ["numbers", "at", "ints", "cells", "level", "many", "mark"] []
  g_lw_block : mg "_law_block" = some (.ref (He.ga K "_law_block"))
  F_lw_maker : Cm.FnP K "_law_maker" s_lw_maker (He.ga K "_law_maker") a.d_lw_maker
  b_lw_maker : Binds K a.d_lw_maker ["numbers", "at", "name"] []
  g_lw_maker : mg "_law_maker" = some (.ref (He.ga K "_law_maker"))
  F_lw_interface : Cm.FnP K "_law_interface" s_lw_interface (He.ga K "_law_interface") a.d_lw_interface
  b_lw_interface : Binds K a.d_lw_interface [] []
  g_lw_interface : mg "_law_interface" = some (.ref (He.ga K "_law_interface"))
  F_lw_program : Cm.FnP K "_law_program" s_lw_program (He.ga K "_law_program") a.d_lw_program
  b_lw_program : Binds K a.d_lw_program ["numbers", "many", "level"] []
  g_lw_program : mg "_law_program" = some (.ref (He.ga K "_law_program"))
  F_lw_code : Cm.FnP K "_law_code" s_lw_code (He.ga K "_law_code") a.d_lw_code
  b_lw_code : Binds K a.d_lw_code ["node", "places", "base"] []
  g_lw_code : mg "_law_code" = some (.ref (He.ga K "_law_code"))
  F_lw_block_code : Cm.FnP K "_law_block_code" s_lw_block_code (He.ga K "_law_block_code") a.d_lw_block_code
  b_lw_block_code : Binds K a.d_lw_block_code ["block", "places", "base"] []
  g_lw_block_code : mg "_law_block_code" = some (.ref (He.ga K "_law_block_code"))
  F_lw_lets : Cm.FnP K "_law_lets" s_lw_lets (He.ga K "_law_lets") a.d_lw_lets
  b_lw_lets : Binds K a.d_lw_lets ["block"] []
  g_lw_lets : mg "_law_lets" = some (.ref (He.ga K "_law_lets"))
  F_law : Cm.FnP K "law" s_law (He.ga K "law") a.d_law
  b_law : Binds K a.d_law ["script"] []
  g_law : mg "law" = some (.ref (He.ga K "law"))
  g_len : mg "len" = none
  g_range : mg "range" = none
  g_int : mg "int" = none
  g_tuple : mg "tuple" = none
  g_str : mg "str" = none
  g_min : mg "min" = none
  g_max : mg "max" = none
  g_dict : mg "dict" = none
  g_list : mg "list" = none
variable {P : Program} {w : World} {K : PySem.W.Frag} {mg : Str → Option Value} {base : Heap} {a : Fds}
/-! ### cells and numbers -/
def spCell (K : PySem.W.Frag) : Sp := fun vs H Q _ => ∃ (l : Addr) (ns : List Int) (j : Nat), vs = [.ref l, .int j] ∧ SqL K H l (ns.map V.int) ∧ ∀ c : Int, Q (.int c) H
theorem ok_lw_cell (T : Txt K mg w a) : FnOk P w K mg base CX0 1 (He.ga K "_law_cell") a.d_lw_cell ["script", "k"] (spCell K) := by
  refine T.F_lw_cell.ok sc_lw_cell (fun vs H Q E h => ?_) (fun cdv A outer s H vs Q E hr h => ?_)
  · obtain ⟨l, ns, j, rfl, _⟩ := h
    rfl
  · obtain ⟨l, ns, j, rfl, hl, q⟩ := h
    refine ⟨_, PSs.nox (pss_cons (ps_if (pt_cmpR op_lt (pv 1) (pe_callB call_len_seq (by rfl) T.g_len boot_len (pa_cons (pv 0) pa_nil)) (nomark _)) (pss_one (ps_ret (pe_ix ix_list (pv 0) (pv 1) (fun _ _ => rfl)))) pss_nil)
      (pss_one (ps_ret pe_int))), ?_⟩
    refine ⟨_, rfl, _, rfl, l, _, rfl, .inl hl, _, _, rfl, rfl, _, rfl, Cm.itD (fun h => ?_) fun h => ?_⟩
    · rw [List.length_map] at h
      obtain ⟨n, _, e⟩ := Cm.at_int (ns := ns) (i := (j : Int)) (by omega) h
      exact ⟨_, rfl, _, rfl, l, _, _, _, rfl, rfl, hl, e, q n⟩
    · exact q 0
def spNums : Sp := fun vs H Q _ => ∃ (c : Int) (k many : Nat), vs = [.int c, .int k, .int many] ∧ k ≤ 1000 ∧ many ≤ 100 ∧
  ∀ (H' : Hp) (p : Addr) (ns : List Int), Same H H' → H p = none → H' p = some (.lst (ns.map V.int)) → ns.length = many → (∀ n ∈ ns, 0 ≤ n ∧ n < 1000) → Q (.ref p) H'
theorem p1000 : (0 : Int) < 1000 := by decide
theorem pM : (0 : Int) < 2147483647 := by decide
theorem pM2 : (0 : Int) < 1000000007 := by decide
theorem modM (z : Int) : 0 ≤ z % 2147483647 ∧ z % 2147483647 < 2147483647 := by omega
theorem mulM {y : Int} (h : 0 ≤ y ∧ y < 2147483647) : -(2 ^ 64) < y ∧ y < 2 ^ 64 := by omega
theorem mod_ok (x : Int) : 0 ≤ x % 1000 ∧ x % 1000 < 1000 := by omega
theorem ok_lw_numbers (T : Txt K mg w a) : FnOk P w K mg base CX0 1 (He.ga K "_law_numbers") a.d_lw_numbers ["cell", "k", "many"] spNums := by
  refine T.F_lw_numbers.ok sc_lw_numbers (fun vs H Q E h => ?_) (fun cdv A outer s H vs Q E hr h => ?_)
  · obtain ⟨c, k, many, rfl, _⟩ := h
    rfl
  · obtain ⟨c, k, many, rfl, hk, hm, q⟩ := h
    refine ⟨_, PSs.nox (pss_cons (ps_set (i := 3) sc_lw_numbers.nd rfl (Or.inl rfl) (pe_lst pa_nil))
      (pss_cons (ps_if (pt_cmpR op_ge (pv 0) (pe_op op_pow pe_int pe_int) (nomark _)) (pss_cons (ps_set (i := 4) sc_lw_numbers.nd rfl (Or.inl rfl) (pv 0))
      (pss_cons (ps_for PassesOwn.never rfl (pi_range1 (by rfl) T.g_range (pa_cons (pv 2) pa_nil)) (pg_name (i := 5) sc_lw_numbers.nd rfl (Or.inl rfl))
      (pss_cons (ps_expr (pe_bm PySem.F.plainAttrs_list PySem.F.slot_list_append PySem.F.type_list_append mt_append (pv 3) (pa_cons (pe_op op_mod (pe_callTy call_int1 (by rfl) T.g_int boot_int (pa_cons (pv 4) pa_nil)) pe_int) pa_nil)))
      (pss_one (ps_set (i := 4) sc_lw_numbers.nd rfl (Or.inl rfl) (pe_op op_fdiv (pv 4) pe_int)))))
      (pss_one (ps_ret (pv 3))))) pss_nil)
      (pss_cons (ps_set (i := 6) sc_lw_numbers.nd rfl (Or.inl rfl) (pe_op op_mod (pe_callTy call_int1 (by rfl) T.g_int boot_int (pa_cons (pe_op op_add (pe_op op_add (pe_op op_mul (pv 0) pe_int) (pe_op op_mul (pv 1) pe_int)) pe_int) pa_nil)) pe_int))
      (pss_cons (ps_for PassesOwn.never rfl (pi_range1 (by rfl) T.g_range (pa_cons (pv 2) pa_nil)) (pg_name (i := 5) sc_lw_numbers.nd rfl (Or.inl rfl))
      (pss_cons (ps_set (i := 6) sc_lw_numbers.nd rfl (Or.inl rfl) (pe_op op_mod (pe_callTy call_int1 (by rfl) T.g_int boot_int (pa_cons (pe_op op_add (pe_op op_add (pe_op op_mul (pv 6) pe_int) (pe_op op_mul (pv 5) pe_int)) pe_int) pa_nil)) pe_int))
      (pss_cons (ps_set (i := 7) sc_lw_numbers.nd rfl (Or.inl rfl) (pe_op op_mod (pe_callTy call_int1 (by rfl) T.g_int boot_int (pa_cons (pe_op op_add (pe_op op_add (pe_op op_mul (pv 6) (pv 6)) (pe_op op_mul (pv 1) pe_int)) (pv 5)) pa_nil)) pe_int))
      (pss_one (ps_expr (pe_bm PySem.F.plainAttrs_list PySem.F.slot_list_append PySem.F.type_list_append mt_append (pv 3) (pa_cons (pe_op op_mod (pe_callTy call_int1 (by rfl) T.g_int boot_int (pa_cons (pe_op op_fdiv (pv 7) pe_int) pa_nil)) pe_int) pa_nil)))))))
      (pss_one (ps_ret (pv 3))))))), ?_⟩
    -- numbers = []
    refine ⟨Nat.zero_le _, fun p np => ?_⟩
    have s0 : Same H (upd H p (.lst [])) := Cm.same_new np
    -- cell >= 10 ** 18
    refine ⟨_, rfl, _, _, rfl, rfl, ⟨by decide, by decide, by decide⟩, _, _, rfl, rfl, _, rfl, Cm.itD (fun _ => ?_) fun _ => ?_⟩
    · -- rest = cell
      refine ⟨_, rfl, ?_⟩
      refine ⟨_, rfl, (many : Int), rfl, by omega, by omega, ?_⟩
      rw [Int.toNat_natCast]
      refine for_range (fun i σ H2 => ∃ (ns : List Int) (r : Int) (x5 x6 x7 : Option V), σ = [some (.int c), some (.int k), some (.int many), some (.ref p), some (.int r), x5, x6, x7] ∧ Same H H2 ∧ H2 p = some (.lst (ns.map V.int)) ∧ ns.length = i ∧ ∀ n ∈ ns, 0 ≤ n ∧ n < 1000)
        ⟨[], c, none, none, none, rfl, s0, upd_same, rfl, fun n h => nomatch h⟩ (fun i σ H2 hi ⟨ns, r, x5, x6, x7, e, s2, hp, hn, ha⟩ => ?_) fun σ H2 ⟨ns, r, x5, x6, x7, e, s2, hp, hn, ha⟩ => ?_
      · subst e
        refine ⟨_, rfl, .inl ⟨rfl, _, SqL.of hp⟩, _, rfl, .inl ⟨_, rfl, _, _, rfl, rfl, p1000, ?_⟩⟩
        refine ⟨p, _, _, rfl, rfl, hp, Cm.smallL (by rw [List.length_map]; omega), ?_⟩
        refine ⟨_, rfl, _, _, rfl, rfl, ⟨by decide, by decide⟩, ?_⟩
        refine ⟨ns ++ [r % 1000], r / 1000, _, x6, x7, rfl, Cm.same_mut s2 np, ?_, by rw [List.length_append, hn]; rfl, fun n h => ?_⟩
        · rw [upd_same, List.map_append]
          rfl
        · rcases List.mem_append.mp h with h | h
          · exact ha n h
          · rw [List.mem_singleton.mp h]
            exact mod_ok r
      · subst e
        exact ⟨_, rfl, q H2 p ns s2 np hp hn ha⟩
    · refine ⟨_, rfl, _, _, rfl, rfl, .inr ⟨by decide, by decide⟩, _, rfl, _, _, rfl, rfl, .inr ⟨by decide, by decide⟩, _, _, rfl, rfl, _, _, rfl, rfl, .inl ⟨_, rfl, _, _, rfl, rfl, pM, ?_⟩⟩
      refine ⟨_, rfl, (many : Int), rfl, by omega, by omega, ?_⟩
      rw [Int.toNat_natCast]
      refine for_range (fun i σ H2 => ∃ (ns : List Int) (r : Int) (x4 x5 x7 : Option V), σ = [some (.int c), some (.int k), some (.int many), some (.ref p), x4, x5, some (.int r), x7] ∧ (0 ≤ r ∧ r < 2147483647) ∧ Same H H2 ∧ H2 p = some (.lst (ns.map V.int)) ∧ ns.length = i ∧ ∀ n ∈ ns, 0 ≤ n ∧ n < 1000)
        ⟨[], _, none, none, none, rfl, ⟨by omega, by omega⟩, s0, upd_same, rfl, fun n h => nomatch h⟩ (fun i σ H2 hi ⟨ns, r, x4, x5, x7, e, hr, s2, hp, hn, ha⟩ => ?_) fun σ H2 ⟨ns, r, x4, x5, x7, e, _, s2, hp, hn, ha⟩ => ?_
      · subst e
        refine ⟨_, rfl, _, _, rfl, rfl, .inr ⟨by decide, by decide⟩, _, rfl, _, _, rfl, rfl, .inr ⟨by decide, by decide⟩, _, _, rfl, rfl, _, _, rfl, rfl, .inl ⟨_, rfl, _, _, rfl, rfl, pM, ?_⟩⟩
        have hy2 := modM (r * 16807 + (0 + (i : Int)) * 7919 + 13)
        refine ⟨_, rfl, _, rfl, _, _, rfl, rfl, .inl (mulM hy2), _, rfl, _, _, rfl, rfl, .inr ⟨by decide, by decide⟩, _, _, rfl, rfl, _, rfl, _, _, rfl, rfl, .inl ⟨_, rfl, _, _, rfl, rfl, pM2, ?_⟩⟩
        refine ⟨_, rfl, .inl ⟨rfl, _, SqL.of hp⟩, _, rfl, _, _, rfl, rfl, ⟨by decide, by decide⟩, .inl ⟨_, rfl, _, _, rfl, rfl, p1000, ?_⟩⟩
        refine ⟨p, _, _, rfl, rfl, hp, Cm.smallL (by rw [List.length_map]; omega), ?_⟩
        refine ⟨ns ++ [((r * 16807 + (0 + (i : Int)) * 7919 + 13) % 2147483647 * ((r * 16807 + (0 + (i : Int)) * 7919 + 13) % 2147483647) + (k : Int) * 31 + (0 + (i : Int))) % 1000000007 / 101 % 1000], _, x4, _, _, rfl, hy2, Cm.same_mut s2 np, ?_, by rw [List.length_append, hn]; rfl, fun n h => ?_⟩
        · rw [upd_same, List.map_append]
          rfl
        · rcases List.mem_append.mp h with h | h
          · exact ha n h
          · rw [List.mem_singleton.mp h]
            exact mod_ok _
      · subst e
        exact ⟨_, rfl, q H2 p ns s2 np hp hn ha⟩
/-! ### the generator: picks -/
/-- numbers at nu, the place among them at c -/
def G (K : PySem.W.Frag) (H : Hp) (nu c : Addr) : Prop := ∃ (ns : List Int) (n : Int), SqL K H nu (ns.map V.int) ∧ ns.length = 60 ∧ (∀ x ∈ ns, 0 ≤ x) ∧ H c = some (.lst [.int n]) ∧ 0 ≤ n
theorem G.same {K : PySem.W.Frag} {H H' : Hp} {nu c : Addr} (g : G K H nu c) (s : Same H H') : G K H' nu c := by
  obtain ⟨ns, n, h1, h2, h3, h4, h5⟩ := g
  exact ⟨ns, n, s.seq h1, h2, h3, s _ _ h4, h5⟩
theorem G.tups {K : PySem.W.Frag} {H H' : Hp} {nu c : Addr} (g : G K H nu c) (k : Keep c H H') : Tups H H' := by
  obtain ⟨ns, n, h1, h2, h3, h4, h5⟩ := g
  exact k.tups h4
theorem G.rp {K : PySem.W.Frag} {H H' : Hp} {nu c : Addr} {v : V} {d : PyData} (g : G K H nu c) (k : Keep c H H') (r : Rp K H v d) : Rp K H' v d := r.keep (g.tups k)
/-- the names of ints at li, of objects at lc -/
structure Ev (K : PySem.W.Frag) (H : Hp) (nu c li lc : Addr) (is cs : List Str) : Prop where
  g : G K H nu c
  ti : H li = some (.lst (is.map V.str))
  tk : H lc = some (.lst (cs.map V.str))
  so : ∀ x ∈ is ++ cs, PyData.strOk x = true
theorem Ev.i {K : PySem.W.Frag} {H : Hp} {nu c li lc : Addr} {is cs : List Str} (e : Ev K H nu c li lc is cs) : SqL K H li (is.map V.str) := SqL.of e.ti
theorem Ev.k {K : PySem.W.Frag} {H : Hp} {nu c li lc : Addr} {is cs : List Str} (e : Ev K H nu c li lc is cs) : SqL K H lc (cs.map V.str) := SqL.of e.tk
theorem strs_ne {is : List Str} {n : Int} : is.map V.str ≠ [V.int n] := fun e => by
  cases is with
  | nil => cases e
  | cons x r => cases e
theorem G.seq {K : PySem.W.Frag} {H H' : Hp} {nu c a : Addr} {is : List Str} (g : G K H nu c) (k : Keep c H H') (h : H a = some (.lst (is.map V.str))) : H' a = some (.lst (is.map V.str)) := by
  obtain ⟨ns, n, h1, h2, h3, h4, h5⟩ := g
  refine k _ _ h fun e => ?_
  rw [e, h4] at h
  exact strs_ne (HO.lst.inj (Option.some.inj h)).symm
theorem Ev.keep {K : PySem.W.Frag} {H H' : Hp} {nu c li lc : Addr} {is cs : List Str} (e : Ev K H nu c li lc is cs) (k : Keep c H H') (g : G K H' nu c) : Ev K H' nu c li lc is cs := ⟨g, e.g.seq k e.ti, e.g.seq k e.tk, e.so⟩
theorem Ev.same {K : PySem.W.Frag} {H H' : Hp} {nu c li lc : Addr} {is cs : List Str} (e : Ev K H nu c li lc is cs) (s : Same H H') : Ev K H' nu c li lc is cs := e.keep (Keep.of s) (e.g.same s)
def spPick (K : PySem.W.Frag) : Sp := fun vs H Q _ => ∃ nu c, vs = [.ref nu, .ref c] ∧ G K H nu c ∧ ∀ (H' : Hp) (p : Int), 0 ≤ p → G K H' nu c → Keep c H H' → Q (.int p) H'
theorem ok_lw_pick (T : Txt K mg w a) : FnOk P w K mg base CX0 1 (He.ga K "_law_pick") a.d_lw_pick ["numbers", "at"] (spPick K) := by
  refine T.F_lw_pick.ok sc_lw_pick (fun vs H Q E h => ?_) (fun cdv A outer s H vs Q E hr h => ?_)
  · obtain ⟨nu, c, rfl, _⟩ := h
    rfl
  · obtain ⟨nu, c, rfl, g, q⟩ := h
    obtain ⟨ns, n, h1, h2, h3, h4, h5⟩ := id g
    refine ⟨_, PSs.nox (pss_cons (ps_asg (pe_op op_add (pe_ix ix_list (pv 1) pe_int (fun _ _ => rfl)) pe_int) (pg_sub (pv 1) pe_int set_list))
      (pss_one (ps_ret (pe_op op_add (pe_callTy call_int1 (by rfl) T.g_int boot_int (pa_cons (pe_ix ix_list (pv 0) (pe_op op_mod (pe_callTy call_int1 (by rfl) T.g_int boot_int (pa_cons (pe_ix ix_list (pv 1) pe_int (fun _ _ => rfl)) pa_nil)) (pe_callB call_len_seq (by rfl) T.g_len boot_len (pa_cons (pv 0) pa_nil))) (fun _ _ => rfl)) pa_nil)) (pe_op op_mul (pe_op op_fdiv (pe_callTy call_int1 (by rfl) T.g_int boot_int (pa_cons (pe_ix ix_list (pv 1) pe_int (fun _ _ => rfl)) pa_nil)) (pe_callB call_len_seq (by rfl) T.g_len boot_len (pa_cons (pv 0) pa_nil))) pe_int))))), ?_⟩
    refine ⟨_, rfl, c, _, 0, .int n, rfl, rfl, SqL.of h4, atI_nat (j := 0) rfl, _, _, rfl, rfl, _, rfl, c, _, 0, 0, rfl, rfl, h4, rfl, ?_⟩
    have k : Keep c H (upd H c (.lst [.int (n + 1)])) := fun b o e ne => by
      rw [upd_ne ne]
      exact e
    have hne : ns.map V.int ≠ [.int n] := fun e => by
      have e2 := congrArg List.length e
      rw [List.length_map, h2] at e2
      cases e2
    have h1' : SqL K (upd H c (.lst [.int (n + 1)])) nu (ns.map V.int) := k.seq h4 hne h1
    have hc : (upd H c (.lst [.int (n + 1)])) c = some (.lst [.int (n + 1)]) := upd_same
    obtain ⟨x, hx, e⟩ := Cm.at_int (ns := ns) (i := (n + 1) % ((ns.map V.int).length : Int)) (by rw [List.length_map, h2]; omega) (by rw [List.length_map, h2]; omega)
    have pos : (0 : Int) < ((ns.map V.int).length : Int) := by
      rw [List.length_map, h2]
      decide
    have lt : ((ns.map V.int).length : Int) < 1073741824 := by
      rw [List.length_map, h2]
      decide
    refine ⟨_, rfl, _, rfl, c, _, 0, .int (n + 1), rfl, rfl, SqL.of hc, atI_nat (j := 0) rfl, .inl ⟨_, rfl, _, rfl, nu, _, rfl, .inl h1', _, _, rfl, rfl, pos, nu, _, _, .int x, rfl, rfl, h1', e, .inl ⟨_, rfl, ?_⟩⟩⟩
    refine ⟨_, rfl, c, _, 0, .int (n + 1), rfl, rfl, SqL.of hc, atI_nat (j := 0) rfl, .inl ⟨_, rfl, _, rfl, nu, _, rfl, .inl h1', _, _, rfl, rfl, ⟨pos, lt⟩, _, _, rfl, rfl, .inr ⟨by decide, by decide⟩, _, _, rfl, rfl, ?_⟩⟩
    have hq : 0 ≤ (n + 1) / ((ns.map V.int).length : Int) := Int.ediv_nonneg (by omega) (by omega)
    exact q _ _ (by have := h3 x hx; omega) ⟨ns, n + 1, h1', h2, h3, hc, by omega⟩ k
/-! ### the generator: expressions -/
/-- names from N, of bounded depth and size -/
structure OkE (N : List Str) (d : Nat) (e : E) : Prop where
  us : ∀ x ∈ e.uses, x ∈ N
  dp : e.dep ≤ d + 2
  sz : e.sz ≤ 10 * 4 ^ d
  lay : e.d.canLay0 = true
  wf : e.wf = true
/-- a word that may stand in front of plain expressions -/
def goodN (n : Nat) (x : Str) : Bool := PyData.strOk x && (decide (x ∈ plainE) && decide (n = arE x))
abbrev goodL (x : Str) : Bool := goodN 0 x
abbrev goodU (x : Str) : Bool := goodN 1 x
abbrev goodW (x : Str) : Bool := goodN 2 x
theorem goodW.so {n : Nat} {x : Str} (h : goodN n x = true) : PyData.strOk x = true := (Bool.and_eq_true_iff.mp h).1
theorem goodW.in {n : Nat} {x : Str} (h : goodN n x = true) : (decide (x ∈ plainE) && decide (n = arE x)) = true := (Bool.and_eq_true_iff.mp h).2
theorem tx {x : Str} (h : PyData.strOk x = true) : (PyData.str x).canLay0 = true := by
  show (PyData.strOk x) = true
  exact h
theorem lay2 {x y : PyData} (h1 : x.canLay0 = true) (h2 : y.canLay0 = true) : (PyData.tuple [x, y]).canLay0 = true := by simp [PyData.canLay0, PyData.canLayAll0, h1, h2]
theorem lay1 {x : PyData} (h1 : x.canLay0 = true) : (PyData.tuple [x]).canLay0 = true := by simp [PyData.canLay0, PyData.canLayAll0, h1]
theorem lay0 : (PyData.tuple []).canLay0 = true := by simp [PyData.canLay0, PyData.canLayAll0]
theorem lay3 {x y z : PyData} (h1 : x.canLay0 = true) (h2 : y.canLay0 = true) (h3 : z.canLay0 = true) : (PyData.tuple [x, y, z]).canLay0 = true := by simp [PyData.canLay0, PyData.canLayAll0, h1, h2, h3]
theorem lay4 {x y z u : PyData} (h1 : x.canLay0 = true) (h2 : y.canLay0 = true) (h3 : z.canLay0 = true) (h4 : u.canLay0 = true) : (PyData.tuple [x, y, z, u]).canLay0 = true := by simp [PyData.canLay0, PyData.canLayAll0, h1, h2, h3, h4]
theorem layI {i : Int} : (PyData.int i).canLay0 = true := by simp [PyData.canLay0]
/-- the names without self -/
def fl (cs : List Str) : List Str := cs.filter fun x => !decide (x = "self")
theorem fl_mem {cs : List Str} {x : Str} (h : x ∈ cs) (n : ¬ x = "self") : x ∈ fl cs := List.mem_filter.mpr ⟨h, by rw [decide_eq_false n]; rfl⟩
def spE (K : PySem.W.Frag) (d : Nat) : Sp := fun vs H Q _ => ∃ (nu c li lc : Addr) (is cs : List Str) (level : Int) (dd : Nat), vs = [.ref nu, .ref c, .ref li, .ref lc, .int level, .int dd] ∧ dd < d ∧ Ev K H nu c li lc is cs ∧
  ∀ (H' : Hp) (v : V) (e : E), G K H' nu c → Keep c H H' → Rp K H' v e.d → OkE (is ++ fl cs) dd e → Q v H'
theorem spE_len {K : PySem.W.Frag} {d : Nat} (vs : List V) (H : Hp) (Q : VK) (E : XK) (h : spE K d vs H Q E) : vs.length = 6 := by
  obtain ⟨nu, c, li, lc, is, cs, level, dd, rfl, _⟩ := h
  rfl
theorem pow4 (d : Nat) : 1 ≤ 4 ^ d ∧ 4 ^ (d + 1) = 4 * 4 ^ d := ⟨Nat.one_le_pow d 4 (by decide), by rw [Nat.pow_succ, Nat.mul_comm]⟩
theorem eqv_nil : ∀ e : E, PyData.eqv e.d (.tuple [.str "nil"]) = true → e.dep ≤ 1 ∧ e.sz ≤ 1
  | .int n, h => by simp [E.d, PyData.eqv, PyData.eqvAll] at h
  | .name x, h => by simp [E.d, PyData.eqv, PyData.eqvAll] at h
  | .choice o l r, h => by simp [E.d, PyData.eqv, PyData.eqvAll] at h
  | .call r f as, h => by simp [E.d, PyData.eqv, PyData.eqvAll] at h
  | .new m as, h => by simp [E.d, PyData.eqv, PyData.eqvAll] at h
  | .plain w .nil, h => ⟨Nat.le_refl 1, Nat.le_refl 1⟩
  | .plain w (.cons e es), h => by simp [E.d, Es.ds, PyData.eqv, PyData.eqvAll] at h
section
variable {N : List Str} {d : Nat} {x y z : E}
theorem ok_int {n : Int} : OkE N d (.int n) := ⟨fun _ h => (nomatch h), Nat.zero_le _, by
  have := (pow4 d).1
  show 1 ≤ 10 * 4 ^ d
  omega, lay2 (tx (by decide +kernel)) layI, rfl⟩
theorem ok_name {s : Str} (h : s ∈ N) (so : PyData.strOk s = true) : OkE N d (.name s) := ⟨fun q hq => by rw [List.mem_singleton.mp hq]; exact h, Nat.zero_le _, by
  have := (pow4 d).1
  show 1 ≤ 10 * 4 ^ d
  omega, lay2 (tx (by decide +kernel)) (tx so), rfl⟩
theorem ok_leaf {s : Str} (so : goodL s = true) : OkE N d (.plain s .nil) := ⟨fun _ h => (nomatch h), by show 0 + 1 ≤ d + 2; omega, by
  have := (pow4 d).1
  show 0 + 1 ≤ 10 * 4 ^ d
  omega, lay1 (tx (Bool.and_eq_true_iff.mp so).1), and2 (Bool.and_eq_true_iff.mp so).2 rfl⟩
theorem mem_app {α : Type} {l m n : List α} (h1 : ∀ q ∈ l, q ∈ n) (h2 : ∀ q ∈ m, q ∈ n) : ∀ q ∈ l ++ m, q ∈ n := fun q h => (List.mem_append.mp h).elim (h1 q) (h2 q)
theorem mem_nil {α : Type} {n : List α} : ∀ q ∈ ([] : List α), q ∈ n := fun _ h => (nomatch h)
theorem ok_un {s : Str} (h1 : OkE N d x) (so : goodU s = true) : OkE N (d + 1) (.plain s (.cons x .nil)) := ⟨mem_app h1.us mem_nil, by
  have := h1.dp
  show max x.dep 0 + 1 ≤ d + 1 + 2
  omega, by
  have := h1.sz
  have e := pow4 d
  show x.sz + 0 + 1 ≤ 10 * 4 ^ (d + 1)
  omega, lay2 (tx (goodW.so so)) h1.lay, and2 (goodW.in so) (and2 h1.wf rfl)⟩
theorem ok_bin {s : Str} (h1 : OkE N d x) (h2 : OkE N d y) (so : goodW s = true) : OkE N (d + 1) (.plain s (.cons x (.cons y .nil))) := ⟨mem_app h1.us (mem_app h2.us mem_nil), by
  have := h1.dp
  have := h2.dp
  show max x.dep (max y.dep 0) + 1 ≤ d + 1 + 2
  omega, by
  have := h1.sz
  have := h2.sz
  have e := pow4 d
  show x.sz + (y.sz + 0) + 1 ≤ 10 * 4 ^ (d + 1)
  omega, lay3 (tx (goodW.so so)) h1.lay h2.lay, and2 (goodW.in so) (and2 h1.wf (and2 h2.wf rfl))⟩
theorem ok_choice {o : Bool} (h1 : OkE N d x) (h2 : OkE N d y) : OkE N (d + 1) (.choice o x y) := ⟨mem_app h1.us h2.us, by
  have := h1.dp
  have := h2.dp
  show max x.dep y.dep + 1 ≤ d + 1 + 2
  omega, by
  have := h1.sz
  have := h2.sz
  have e := pow4 d
  show x.sz + y.sz + (if o then 2 else 0) + 5 ≤ 10 * 4 ^ (d + 1)
  split <;> omega, lay3 (tx (by cases o <;> decide +kernel)) h1.lay h2.lay, and2 h1.wf h2.wf⟩
theorem ok_call0 {s : Str} (h1 : OkE N d x) (so : PyData.strOk s = true) : OkE N (d + 1) (.call x s .nil) := ⟨mem_app h1.us mem_nil, by
  have := h1.dp
  show max x.dep 0 + 1 ≤ d + 1 + 2
  omega, by
  have := h1.sz
  have e := pow4 d
  show x.sz + 0 + 1 ≤ 10 * 4 ^ (d + 1)
  omega, lay4 (tx (by decide +kernel)) h1.lay (tx so) lay0, and2 h1.wf rfl⟩
theorem ok_call1 {s : Str} (h1 : OkE N d x) (h2 : OkE N d y) (so : PyData.strOk s = true) : OkE N (d + 1) (.call x s (.cons y .nil)) := ⟨mem_app h1.us (mem_app h2.us mem_nil), by
  have := h1.dp
  have := h2.dp
  show max x.dep (max y.dep 0) + 1 ≤ d + 1 + 2
  omega, by
  have := h1.sz
  have := h2.sz
  have e := pow4 d
  show x.sz + (y.sz + 0) + 1 ≤ 10 * 4 ^ (d + 1)
  omega, lay4 (tx (by decide +kernel)) h1.lay (tx so) (lay1 h2.lay), and2 h1.wf (and2 h2.wf rfl)⟩
theorem ok_call2 {s : Str} (h1 : OkE N d x) (h2 : OkE N d y) (h3 : OkE N d z) (so : PyData.strOk s = true) : OkE N (d + 1) (.call x s (.cons y (.cons z .nil))) := ⟨mem_app h1.us (mem_app h2.us (mem_app h3.us mem_nil)), by
  have := h1.dp
  have := h2.dp
  have := h3.dp
  show max x.dep (max y.dep (max z.dep 0)) + 1 ≤ d + 1 + 2
  omega, by
  have := h1.sz
  have := h2.sz
  have := h3.sz
  have e := pow4 d
  show x.sz + (y.sz + (z.sz + 0)) + 1 ≤ 10 * 4 ^ (d + 1)
  omega, lay4 (tx (by decide +kernel)) h1.lay (tx so) (lay2 h2.lay h3.lay), and2 h1.wf (and2 h2.wf (and2 h3.wf rfl))⟩
theorem ok_new2 {s : Str} (h1 : OkE N d x) (h2 : OkE N d y) (so : PyData.strOk s = true) : OkE N (d + 1) (.new s (.cons x (.cons y .nil))) := ⟨mem_app h1.us (mem_app h2.us mem_nil), by
  have := h1.dp
  have := h2.dp
  show max x.dep (max y.dep 0) + 1 ≤ d + 1 + 2
  omega, by
  have := h1.sz
  have := h2.sz
  have e := pow4 d
  show x.sz + (y.sz + 0) + 1 ≤ 10 * 4 ^ (d + 1)
  omega, lay3 (tx (by decide +kernel)) (tx so) (lay2 h1.lay h2.lay), and2 h1.wf (and2 h2.wf rfl)⟩
theorem ok_box {s : Str} {n : Int} (h1 : OkE N d x) (hd : x.dep ≤ 1) (hs : x.sz ≤ 1) (so : PyData.strOk s = true) : OkE N d (.new s (.cons x (.cons (.int n) .nil))) := ⟨mem_app h1.us (mem_app mem_nil mem_nil), by
  show max x.dep (max 0 0) + 1 ≤ d + 2
  omega, by
  have e := (pow4 d).1
  show x.sz + (1 + 0) + 1 ≤ 10 * 4 ^ d
  omega, lay3 (tx (by decide +kernel)) (tx so) (lay2 h1.lay (lay2 (tx (by decide +kernel)) layI)), and2 h1.wf (and2 rfl rfl)⟩
end
/-- a new tuple holds the datum -/
theorem made {K : PySem.W.Frag} {H : Hp} {p : Addr} {vs : List V} {ds : List PyData} (np : H p = none) (r : Rps K H vs ds) : Rp K (upd H p (.tup vs)) (.ref p) (.tuple ds) := Rp.made np r
theorem keep_new {c p : Addr} {H H' : Hp} {o : HO} (k : Keep c H H') (np : H' p = none) : Keep c H (upd H' p o) := k.trans (Keep.of (Cm.same_new np))
theorem G.new {K : PySem.W.Frag} {H : Hp} {nu c p : Addr} {o : HO} (g : G K H nu c) (np : H p = none) : G K (upd H p o) nu c := g.same (Cm.same_new np)
abbrev binS : List Str := ["add", "sub", "mul", "less", "most"]
theorem vac {f : Addr} {fd : FuncData} {ps : List Str} {k : Nat} {sp : Sp} (h : ∀ vs H Q E, ¬ sp vs H Q E) : FnOk P w K mg base CX0 k f fd ps sp := ⟨fun vs H Q E q => (h vs H Q E q).elim, fun _ _ _ _ _ _ vs Q E _ _ _ _ q => (h vs _ Q E q).elim⟩
theorem lt_of {dd d : Nat} (h : dd < d + 1) (n : ¬ (dd : Int) ≤ 0) : ∃ e, dd = e + 1 ∧ e < d ∧ (dd : Int) - 1 = (e : Int) := ⟨dd - 1, by omega, by omega, by omega⟩
theorem step_int (T : Txt K mg w a) (d : Nat) (gi : FnOk P w K mg base CX0 (2 * d + 1) (He.ga K "_law_int") a.d_lw_int ["numbers", "at", "ints", "cells", "level", "depth"] (spE K d))
    (go : FnOk P w K mg base CX0 (2 * d + 1) (He.ga K "_law_object") a.d_lw_object ["numbers", "at", "ints", "cells", "level", "depth"] (spE K d))
    (gr : FnOk P w K mg base CX0 (2 * d + 2) (He.ga K "_law_receiver") a.d_lw_receiver ["numbers", "at", "ints", "cells", "level", "depth"] (spE K d)) :
    FnOk P w K mg base CX0 (2 * (d + 1) + 1) (He.ga K "_law_int") a.d_lw_int ["numbers", "at", "ints", "cells", "level", "depth"] (spE K (d + 1)) := by
  refine T.F_lw_int.ok sc_lw_int spE_len (fun cdv A outer s H vs Q E hr h => ?_)
  obtain ⟨nu, c, li, lc, is, cs, level, dd, rfl, hd, ev, q⟩ := h
  refine ⟨_, PSs.nox (pss_cons (ps_set (i := 6) sc_lw_int.nd rfl (Or.inl rfl) (pe_call (ok_lw_pick T) (hr.mono (by omega)) (by rfl) T.g_lw_pick T.F_lw_pick.kp T.b_lw_pick .nil pass0 (pa_cons (pv 0) (pa_cons (pv 1) pa_nil))))
      (pss_cons (ps_set (i := 7) sc_lw_int.nd rfl (Or.inl rfl) (pe_op op_mod (pv 6) pe_int))
      (pss_cons (ps_if (PW.pt (pw_or (pt_cmpR op_le (pv 5) pe_int (nomark _)) (pw_or1 (pt_cmpR op_lt (pv 7) pe_int (nomark _))))) (pss_cons (ps_if (PW.pt (pw_and (pt_cmpR op_gt (pe_callB call_len_seq (by rfl) T.g_len boot_len (pa_cons (pv 2) pa_nil)) pe_int (nomark _)) (pw_and1 (pt_cmpR op_gt (pe_op op_mod (pe_op op_fdiv (pv 6) pe_int) pe_int) pe_int (nomark _))))) (pss_one (ps_ret (pe_tup (pa_cons pe_str (pa_cons (pe_ix ix_list (pv 2) (pe_op op_mod (pe_callTy call_int1 (by rfl) T.g_int boot_int (pa_cons (pe_op op_fdiv (pv 6) pe_int) pa_nil)) (pe_callB call_len_seq (by rfl) T.g_len boot_len (pa_cons (pv 2) pa_nil))) (fun _ _ => rfl)) pa_nil))))) pss_nil)
      (pss_one (ps_ret (pe_tup (pa_cons pe_str (pa_cons (pe_ix ix_list (pe_lst (pa_cons (pe_op op_mod (pe_op op_fdiv (pv 6) pe_int) pe_int) (pa_cons pe_int (pa_cons pe_int (pa_cons pe_int pa_nil))))) (pe_op op_mod (pe_op op_fdiv (pv 6) pe_int) pe_int) (fun _ _ => rfl)) pa_nil)))))) pss_nil)
      (pss_cons (ps_if (pt_cmpR op_lt (pv 7) pe_int (nomark _)) (pss_cons (ps_set (i := 8) sc_lw_int.nd rfl (Or.inl rfl) (pe_ix ix_list (pe_lst (pa_cons pe_str (pa_cons pe_str (pa_cons pe_str (pa_cons pe_str (pa_cons pe_str pa_nil)))))) (pe_op op_sub (pv 7) pe_int) (fun _ _ => rfl)))
      (pss_cons (ps_set (i := 9) sc_lw_int.nd rfl (Or.inl rfl) (pe_call gi (hr.mono (by omega)) (by rfl) T.g_lw_int T.F_lw_int.kp T.b_lw_int .nil pass0 (pa_cons (pv 0) (pa_cons (pv 1) (pa_cons (pv 2) (pa_cons (pv 3) (pa_cons (pv 4) (pa_cons (pe_op op_sub (pv 5) pe_int) pa_nil))))))))
      (pss_one (ps_ret (pe_tup (pa_cons (pv 8) (pa_cons (pv 9) (pa_cons (pe_call gi (hr.mono (by omega)) (by rfl) T.g_lw_int T.F_lw_int.kp T.b_lw_int .nil pass0 (pa_cons (pv 0) (pa_cons (pv 1) (pa_cons (pv 2) (pa_cons (pv 3) (pa_cons (pv 4) (pa_cons (pe_op op_sub (pv 5) pe_int) pa_nil))))))) pa_nil)))))))) pss_nil)
      (pss_cons (ps_if (pt_cmpR op_eq (pv 7) pe_int (nomark _)) (pss_one (ps_ret (pe_tup (pa_cons pe_str (pa_cons (pe_call gi (hr.mono (by omega)) (by rfl) T.g_lw_int T.F_lw_int.kp T.b_lw_int .nil pass0 (pa_cons (pv 0) (pa_cons (pv 1) (pa_cons (pv 2) (pa_cons (pv 3) (pa_cons (pv 4) (pa_cons (pe_op op_sub (pv 5) pe_int) pa_nil))))))) pa_nil))))) pss_nil)
      (pss_cons (ps_if (pt_cmpR op_eq (pv 7) pe_int (nomark _)) (pss_cons (ps_set (i := 8) sc_lw_int.nd rfl (Or.inl rfl) (pe_ix ix_list (pe_lst (pa_cons pe_str (pa_cons pe_str pa_nil))) (pe_op op_mod (pe_op op_fdiv (pv 6) pe_int) pe_int) (fun _ _ => rfl)))
      (pss_cons (ps_set (i := 9) sc_lw_int.nd rfl (Or.inl rfl) (pe_call gi (hr.mono (by omega)) (by rfl) T.g_lw_int T.F_lw_int.kp T.b_lw_int .nil pass0 (pa_cons (pv 0) (pa_cons (pv 1) (pa_cons (pv 2) (pa_cons (pv 3) (pa_cons (pv 4) (pa_cons (pe_op op_sub (pv 5) pe_int) pa_nil))))))))
      (pss_one (ps_ret (pe_tup (pa_cons (pv 8) (pa_cons (pv 9) (pa_cons (pe_call gi (hr.mono (by omega)) (by rfl) T.g_lw_int T.F_lw_int.kp T.b_lw_int .nil pass0 (pa_cons (pv 0) (pa_cons (pv 1) (pa_cons (pv 2) (pa_cons (pv 3) (pa_cons (pv 4) (pa_cons (pe_op op_sub (pv 5) pe_int) pa_nil))))))) pa_nil)))))))) pss_nil)
      (pss_cons (ps_if (pt_cmpR op_eq (pv 7) pe_int (nomark _)) (pss_cons (ps_set (i := 9) sc_lw_int.nd rfl (Or.inl rfl) (pe_call go (hr.mono (by omega)) (by rfl) T.g_lw_object T.F_lw_object.kp T.b_lw_object .nil pass0 (pa_cons (pv 0) (pa_cons (pv 1) (pa_cons (pv 2) (pa_cons (pv 3) (pa_cons (pv 4) (pa_cons (pe_op op_sub (pv 5) pe_int) pa_nil))))))))
      (pss_one (ps_ret (pe_tup (pa_cons pe_str (pa_cons (pv 9) (pa_cons (pe_call go (hr.mono (by omega)) (by rfl) T.g_lw_object T.F_lw_object.kp T.b_lw_object .nil pass0 (pa_cons (pv 0) (pa_cons (pv 1) (pa_cons (pv 2) (pa_cons (pv 3) (pa_cons (pv 4) (pa_cons (pe_op op_sub (pv 5) pe_int) pa_nil))))))) pa_nil))))))) pss_nil)
      (pss_cons (ps_if (PW.pt (pw_and (pt_cmpR op_eq (pv 7) pe_int (nomark _)) (pw_and1 (pt_cmpR op_gt (pv 4) pe_int (nomark _))))) (pss_one (ps_ret (pe_tup (pa_cons pe_str (pa_cons (pe_call gr (hr.mono (by omega)) (by rfl) T.g_lw_receiver T.F_lw_receiver.kp T.b_lw_receiver .nil pass0 (pa_cons (pv 0) (pa_cons (pv 1) (pa_cons (pv 2) (pa_cons (pv 3) (pa_cons (pv 4) (pa_cons (pe_op op_sub (pv 5) pe_int) pa_nil))))))) (pa_cons pe_str (pa_cons (pe_tup pa_nil) pa_nil))))))) pss_nil)
      (pss_cons (ps_if (PW.pt (pw_and (pt_cmpR op_eq (pv 7) pe_int (nomark _)) (pw_and1 (pt_cmpR op_gt (pv 4) pe_int (nomark _))))) (pss_cons (ps_set (i := 10) sc_lw_int.nd rfl (Or.inl rfl) (pe_call gr (hr.mono (by omega)) (by rfl) T.g_lw_receiver T.F_lw_receiver.kp T.b_lw_receiver .nil pass0 (pa_cons (pv 0) (pa_cons (pv 1) (pa_cons (pv 2) (pa_cons (pv 3) (pa_cons (pv 4) (pa_cons (pe_op op_sub (pv 5) pe_int) pa_nil))))))))
      (pss_cons (ps_if (PW.pt (pw_and (pt_cmpR op_gt (pv 4) pe_int (nomark _)) (pw_and1 (pt_cmpR op_eq (pe_op op_mod (pe_op op_fdiv (pv 6) pe_int) pe_int) pe_int (nomark _))))) (pss_cons (ps_set (i := 11) sc_lw_int.nd rfl (Or.inl rfl) (pe_call go (hr.mono (by omega)) (by rfl) T.g_lw_object T.F_lw_object.kp T.b_lw_object .nil pass0 (pa_cons (pv 0) (pa_cons (pv 1) (pa_cons (pv 2) (pa_cons (pv 3) (pa_cons (pv 4) (pa_cons (pe_op op_sub (pv 5) pe_int) pa_nil))))))))
      (pss_one (ps_ret (pe_tup (pa_cons pe_str (pa_cons (pv 10) (pa_cons pe_str (pa_cons (pe_tup (pa_cons (pv 11) (pa_cons (pe_call gi (hr.mono (by omega)) (by rfl) T.g_lw_int T.F_lw_int.kp T.b_lw_int .nil pass0 (pa_cons (pv 0) (pa_cons (pv 1) (pa_cons (pv 2) (pa_cons (pv 3) (pa_cons (pv 4) (pa_cons (pe_op op_sub (pv 5) pe_int) pa_nil))))))) pa_nil))) pa_nil)))))))) pss_nil)
      (pss_one (ps_ret (pe_tup (pa_cons pe_str (pa_cons (pv 10) (pa_cons pe_str (pa_cons (pe_tup (pa_cons (pe_call gi (hr.mono (by omega)) (by rfl) T.g_lw_int T.F_lw_int.kp T.b_lw_int .nil pass0 (pa_cons (pv 0) (pa_cons (pv 1) (pa_cons (pv 2) (pa_cons (pv 3) (pa_cons (pv 4) (pa_cons (pe_op op_sub (pv 5) pe_int) pa_nil))))))) pa_nil)) pa_nil))))))))) pss_nil)
      (pss_one (ps_ret (pe_tup (pa_cons pe_str (pa_cons (pe_op op_mod (pe_op op_fdiv (pv 6) pe_int) pe_int) pa_nil)))))))))))))), ?_⟩
  -- pick, way
  refine ⟨_, rfl, _, rfl, nu, c, rfl, ev.g, fun H1 p hp g1 k1 => ?_⟩
  have e1 := ev.keep k1 g1
  refine ⟨_, rfl, _, _, rfl, rfl, (by show (0 : Int) < 12; decide), ?_⟩
  -- depth <= 0 or way < 2
  refine (fun hA => ⟨_, rfl, _, _, rfl, rfl, _, rfl, Cm.itD (fun _ => hA) fun n1 => ⟨_, rfl, _, _, rfl, rfl, _, rfl, Cm.itD (fun _ => hA) fun n2 => ?_⟩⟩) ?_
  · -- a leaf
    refine iteT ?_
    refine (fun hE => ⟨_, rfl, li, _, rfl, .inl e1.i, _, _, rfl, rfl, _, rfl, Cm.itD (fun n3 => ⟨_, rfl, _, _, rfl, rfl, ⟨by decide, by decide⟩, _, _, rfl, rfl, (by show (0 : Int) < 3; decide), _, _, rfl, rfl, _, rfl, Cm.itD (fun _ => ?_) fun _ => hE⟩) fun _ => hE⟩) ?_
    · obtain ⟨n, _, e⟩ := Cm.at_int (ns := [p / 12 % 9, 0, 1, 999999999999]) (i := p / 108 % 4) (by omega) (by show p / 108 % 4 < 4; omega)
      refine ⟨_, rfl, _, _, rfl, rfl, ⟨by decide, by decide⟩, _, _, rfl, rfl, (by show (0 : Int) < 9; decide), Cm.small (by show 4 ≤ 100000; decide), fun p2 np => ?_⟩
      refine ⟨_, rfl, _, _, rfl, rfl, ⟨by decide, by decide⟩, _, _, rfl, rfl, (by show (0 : Int) < 4; decide), p2, _, _, .int n, rfl, rfl, Cm.sql_new, e, Cm.small (by show 2 ≤ 100000; decide), fun p3 np3 => ?_⟩
      exact q _ _ (.int n) ((g1.new np).new np3) (keep_new (keep_new k1 np) np3) (made np3 (.cons (.str _) (.cons (.int _) .nil))) ok_int
    · rw [List.length_map] at n3
      obtain ⟨x, hx, e⟩ := Cm.at_str (ws := is) (i := p / 36 % ((is.map V.str).length : Int)) (by rw [List.length_map]; exact Int.emod_nonneg _ (by omega)) (by rw [List.length_map]; exact Int.emod_lt_of_pos _ n3)
      refine ⟨_, rfl, _, rfl, _, _, rfl, rfl, ⟨by decide, by decide⟩, .inl ⟨_, rfl, _, rfl, li, _, rfl, .inl e1.i, _, _, rfl, rfl, (by rw [List.length_map]; exact n3), li, _, _, .str x, rfl, rfl, e1.i, e, Cm.small (by show 2 ≤ 100000; decide), fun p2 np => ?_⟩⟩
      exact q _ _ (.name x) (g1.new np) (keep_new k1 np) (made np (.cons (.str _) (.cons (.str _) .nil))) (ok_name (List.mem_append_left _ hx) (ev.so _ (List.mem_append_left _ hx)))
  obtain ⟨e, rfl, he, ed⟩ := lt_of hd n1
  have call : ∀ {H2 : Hp} (_ : Ev K H2 nu c li lc is cs) (_ : Keep c H H2) {Q2 : VK}, (∀ (H' : Hp) (v : V) (x : Pt.E), G K H' nu c → Keep c H2 H' → Rp K H' v x.d → OkE (is ++ fl cs) e x → Q2 v H') →
      spE K d ([.ref nu, .ref c, .ref li, .ref lc, .int level, .int (((e + 1 : Nat) : Int) - 1)] ++ []) H2 Q2 E0 := fun {H2} e2 _ {Q2} h => ⟨nu, c, li, lc, is, cs, level, e, by rw [ed] <;> rfl, he, e2, h⟩
  -- way < 7
  refine ⟨_, rfl, _, _, rfl, rfl, _, rfl, Cm.itD (fun h7 => ?_) fun h7 => ?_⟩
  · obtain ⟨x, hx, ex⟩ := Cm.at_str (ws := binS) (i := p % 12 - 2) (by omega) (by show p % 12 - 2 < 5; omega)
    refine ⟨Cm.small (by decide), fun p2 np => ?_⟩
    have g2 := g1.new (o := .lst (binS.map V.str)) np
    have k2 := keep_new (o := .lst (binS.map V.str)) k1 np
    refine ⟨_, rfl, _, _, rfl, rfl, p2, _, _, .str x, rfl, rfl, Cm.sql_new, ex, ?_⟩
    refine ⟨_, rfl, _, rfl, _, rfl, _, rfl, _, rfl, _, rfl, _, _, rfl, rfl, call (ev.keep k2 g2) k2 fun H3 v3 x3 g3 k3 r3 o3 => ?_⟩
    have k3' := k2.trans k3
    refine ⟨_, rfl, _, rfl, _, rfl, _, rfl, _, rfl, _, rfl, _, rfl, _, rfl, _, _, rfl, rfl, call (ev.keep k3' g3) k3' fun H4 v4 x4 g4 k4 r4 o4 => ⟨Cm.small (by show 3 ≤ 100000; decide), fun p5 np5 => ?_⟩⟩
    exact q _ _ (.plain x (.cons x3 (.cons x4 .nil))) (g4.new np5) (keep_new (k3'.trans k4) np5) (made np5 (.cons (.str _) (.cons (g3.rp k4 r3) (.cons r4 .nil)))) (ok_bin o3 o4 ((by decide +kernel : ∀ x ∈ binS, goodW x = true) x hx))
  -- way == 7
  refine ⟨_, rfl, rfl, _, rfl, ?_⟩
  rw [Cm.deq_int]
  refine Cm.itD (fun _ => ?_) fun _ => ?_
  · refine ⟨_, rfl, _, rfl, _, rfl, _, rfl, _, rfl, _, rfl, _, _, rfl, rfl, call e1 k1 fun H3 v3 x3 g3 k3 r3 o3 => ⟨Cm.small (by show 2 ≤ 100000; decide), fun p5 np5 => ?_⟩⟩
    exact q _ _ (.plain "not" (.cons x3 .nil)) (g3.new np5) (keep_new (k1.trans k3) np5) (made np5 (.cons (.str _) (.cons r3 .nil))) (ok_un o3 (by decide +kernel))
  -- way == 8
  refine ⟨_, rfl, rfl, _, rfl, ?_⟩
  rw [Cm.deq_int]
  refine Cm.itD (fun _ => ?_) fun _ => ?_
  · obtain ⟨o, eo⟩ : ∃ o : Bool, atI (([false, true].map fun o => V.str (cw o))) (p / 12 % 2) = some (.str (cw o)) := by
      rcases (by omega : p / 12 % 2 = 0 ∨ p / 12 % 2 = 1) with h | h
      · exact ⟨false, by rw [h]; rfl⟩
      · exact ⟨true, by rw [h]; rfl⟩
    refine ⟨Cm.small (by decide), fun p2 np => ?_⟩
    have g2 := g1.new (o := .lst ([false, true].map fun o => V.str (cw o))) np
    have k2 := keep_new (o := .lst ([false, true].map fun o => V.str (cw o))) k1 np
    refine ⟨_, rfl, _, _, rfl, rfl, ⟨by decide, by decide⟩, _, _, rfl, rfl, (by show (0 : Int) < 2; decide), p2, _, _, .str (cw o), rfl, rfl, Cm.sql_new, eo, ?_⟩
    refine ⟨_, rfl, _, rfl, _, rfl, _, rfl, _, rfl, _, rfl, _, _, rfl, rfl, call (ev.keep k2 g2) k2 fun H3 v3 x3 g3 k3 r3 o3 => ?_⟩
    have k3' := k2.trans k3
    refine ⟨_, rfl, _, rfl, _, rfl, _, rfl, _, rfl, _, rfl, _, rfl, _, rfl, _, _, rfl, rfl, call (ev.keep k3' g3) k3' fun H4 v4 x4 g4 k4 r4 o4 => ⟨Cm.small (by show 3 ≤ 100000; decide), fun p5 np5 => ?_⟩⟩
    exact q _ _ (.choice o x3 x4) (g4.new np5) (keep_new (k3'.trans k4) np5) (made np5 (.cons (.str _) (.cons (g3.rp k4 r3) (.cons r4 .nil)))) (ok_choice o3 o4)
  -- way == 9
  refine ⟨_, rfl, rfl, _, rfl, ?_⟩
  rw [Cm.deq_int]
  refine Cm.itD (fun _ => ?_) fun _ => ?_
  · refine ⟨_, rfl, _, rfl, _, rfl, _, rfl, _, rfl, _, rfl, _, _, rfl, rfl, call e1 k1 fun H3 v3 x3 g3 k3 r3 o3 => ?_⟩
    have k3' := k1.trans k3
    refine ⟨_, rfl, _, rfl, _, rfl, _, rfl, _, rfl, _, rfl, _, rfl, _, _, rfl, rfl, call (ev.keep k3' g3) k3' fun H4 v4 x4 g4 k4 r4 o4 => ⟨Cm.small (by show 3 ≤ 100000; decide), fun p5 np5 => ?_⟩⟩
    exact q _ _ (.plain "same" (.cons x3 (.cons x4 .nil))) (g4.new np5) (keep_new (k3'.trans k4) np5) (made np5 (.cons (.str _) (.cons (g3.rp k4 r3) (.cons r4 .nil)))) (ok_bin o3 o4 (by decide +kernel))
  -- way == 10 and level > 0
  refine (fun hE => ⟨_, rfl, rfl, _, rfl, Cm.itEI (fun _ => ⟨_, rfl, _, _, rfl, rfl, _, rfl, Cm.itD (fun _ => ?_) fun _ => hE⟩) fun _ => hE⟩) ?_
  rotate_left
  · refine ⟨_, rfl, _, rfl, _, rfl, _, rfl, _, rfl, _, rfl, _, _, rfl, rfl, call e1 k1 fun H3 v3 x3 g3 k3 r3 o3 => ⟨Cm.small (by decide), fun p4 np4 => ⟨Cm.small (by show 4 ≤ 100000; decide), fun p5 np5 => ?_⟩⟩⟩
    exact q _ _ (.call x3 "get" .nil) ((g3.new np4).new np5) (keep_new (keep_new (k1.trans k3) np4) np5) (made np5 (.cons (.str _) (.cons (r3.keep (Same.tups (Cm.same_new np4))) (.cons (.str _) (.cons (made np4 .nil) .nil))))) (ok_call0 o3 (by decide +kernel))
  -- way == 11 and level > 0
  refine (fun hE => ⟨_, rfl, rfl, _, rfl, Cm.itEI (fun _ => ⟨_, rfl, _, _, rfl, rfl, _, rfl, Cm.itD (fun _ => ?_) fun _ => hE⟩) fun _ => hE⟩) ?_
  · refine ⟨_, rfl, _, _, rfl, rfl, ⟨by decide, by decide⟩, _, _, rfl, rfl, (by show (0 : Int) < 20; decide), Cm.small (by show 2 ≤ 100000; decide), fun p3 np3 => ?_⟩
    exact q _ _ (.int (p / 12 % 20)) (g1.new np3) (keep_new k1 np3) (made np3 (.cons (.str _) (.cons (.int _) .nil))) ok_int
  refine ⟨_, rfl, _, rfl, _, rfl, _, rfl, _, rfl, _, rfl, _, _, rfl, rfl, call e1 k1 fun H3 v3 x3 g3 k3 r3 o3 => ?_⟩
  have k3' := k1.trans k3
  refine (fun hE => ⟨_, rfl, _, _, rfl, rfl, _, rfl, Cm.itD (fun _ => ⟨_, rfl, _, _, rfl, rfl, ⟨by decide, by decide⟩, _, _, rfl, rfl, (by show (0 : Int) < 2; decide), rfl, _, rfl, Cm.itEI (fun _ => ?_) fun _ => hE⟩) fun _ => hE⟩) ?_
  · refine ⟨_, rfl, _, rfl, _, rfl, _, rfl, _, rfl, _, rfl, _, rfl, _, _, rfl, rfl, call (ev.keep k3' g3) k3' fun H4 v4 x4 g4 k4 r4 o4 => ⟨Cm.small (by show 1 ≤ 100000; decide), fun p4 np4 => ⟨Cm.small (by show 4 ≤ 100000; decide), fun p5 np5 => ?_⟩⟩⟩
    exact q _ _ (.call x3 "put" (.cons x4 .nil)) ((g4.new np4).new np5) (keep_new (keep_new (k3'.trans k4) np4) np5) (made np5 (.cons (.str _) (.cons ((g3.rp k4 r3).keep (Same.tups (Cm.same_new np4))) (.cons (.str _) (.cons (made np4 (.cons r4 .nil)) .nil))))) (ok_call1 o3 o4 (by decide +kernel))
  · refine ⟨_, rfl, _, rfl, _, rfl, _, rfl, _, rfl, _, rfl, _, _, rfl, rfl, call (ev.keep k3' g3) k3' fun H4 v4 x4 g4 k4 r4 o4 => ?_⟩
    have k4' := k3'.trans k4
    refine ⟨_, rfl, _, rfl, _, rfl, _, rfl, _, rfl, _, rfl, _, rfl, _, rfl, _, _, rfl, rfl, call (ev.keep k4' g4) k4' fun H5 v5 x5 g5 k5 r5 o5 => ⟨Cm.small (by show 2 ≤ 100000; decide), fun p6 np6 => ⟨Cm.small (by show 4 ≤ 100000; decide), fun p7 np7 => ?_⟩⟩⟩
    exact q _ _ (.call x3 "both" (.cons x4 (.cons x5 .nil))) ((g5.new np6).new np7) (keep_new (keep_new (k4'.trans k5) np6) np7)
      (made np7 (.cons (.str _) (.cons ((g4.rp k5 (g3.rp k4 r3)).keep (Same.tups (Cm.same_new np6))) (.cons (.str _) (.cons (made np6 (.cons (g4.rp k5 r4) (.cons r5 .nil))) .nil))))) (ok_call2 o3 o4 o5 (by decide +kernel))
theorem step_obj (T : Txt K mg w a) (d : Nat) (gi : FnOk P w K mg base CX0 (2 * d + 1) (He.ga K "_law_int") a.d_lw_int ["numbers", "at", "ints", "cells", "level", "depth"] (spE K d))
    (go : FnOk P w K mg base CX0 (2 * d + 1) (He.ga K "_law_object") a.d_lw_object ["numbers", "at", "ints", "cells", "level", "depth"] (spE K d))
    (gr : FnOk P w K mg base CX0 (2 * d + 2) (He.ga K "_law_receiver") a.d_lw_receiver ["numbers", "at", "ints", "cells", "level", "depth"] (spE K d)) :
    FnOk P w K mg base CX0 (2 * (d + 1) + 1) (He.ga K "_law_object") a.d_lw_object ["numbers", "at", "ints", "cells", "level", "depth"] (spE K (d + 1)) := by
  refine T.F_lw_object.ok sc_lw_object spE_len (fun cdv A outer s H vs Q E hr h => ?_)
  obtain ⟨nu, c, li, lc, is, cs, level, dd, rfl, hd, ev, q⟩ := h
  refine ⟨_, PSs.nox (pss_cons (ps_set (i := 6) sc_lw_object.nd rfl (Or.inl rfl) (pe_call (ok_lw_pick T) (hr.mono (by omega)) (by rfl) T.g_lw_pick T.F_lw_pick.kp T.b_lw_pick .nil pass0 (pa_cons (pv 0) (pa_cons (pv 1) pa_nil))))
      (pss_cons (ps_set (i := 7) sc_lw_object.nd rfl (Or.inl rfl) (pe_op op_mod (pv 6) pe_int))
      (pss_cons (ps_if (PW.pt (pw_or (pt_cmpR op_le (pv 5) pe_int (nomark _)) (pw_or1 (pt_cmpR op_lt (pv 7) pe_int (nomark _))))) (pss_cons (ps_if (PW.pt (pw_and (pt_cmpR op_gt (pe_callB call_len_seq (by rfl) T.g_len boot_len (pa_cons (pv 3) pa_nil)) pe_int (nomark _)) (pw_and1 (pt_cmpR op_gt (pe_op op_mod (pe_op op_fdiv (pv 6) pe_int) pe_int) pe_int (nomark _))))) (pss_cons (ps_set (i := 8) sc_lw_object.nd rfl (Or.inl rfl) (pe_ix ix_list (pv 3) (pe_op op_mod (pe_callTy call_int1 (by rfl) T.g_int boot_int (pa_cons (pe_op op_fdiv (pv 6) pe_int) pa_nil)) (pe_callB call_len_seq (by rfl) T.g_len boot_len (pa_cons (pv 3) pa_nil))) (fun _ _ => rfl)))
      (pss_cons (ps_if (pt_cmpR op_eq (pv 8) pe_str (nomark _)) (pss_one (ps_ret (pe_tup (pa_cons pe_str pa_nil)))) pss_nil)
      (pss_one (ps_ret (pe_tup (pa_cons pe_str (pa_cons (pv 8) pa_nil))))))) pss_nil)
      (pss_one (ps_ret (pe_tup (pa_cons pe_str pa_nil))))) pss_nil)
      (pss_cons (ps_if (PW.pt (pw_or (pt_cmpR op_lt (pv 7) pe_int (nomark _)) (pw_or1 (pt_cmpR op_lt (pv 4) pe_int (nomark _))))) (pss_cons (ps_set (i := 9) sc_lw_object.nd rfl (Or.inl rfl) (pe_call go (hr.mono (by omega)) (by rfl) T.g_lw_object T.F_lw_object.kp T.b_lw_object .nil pass0 (pa_cons (pv 0) (pa_cons (pv 1) (pa_cons (pv 2) (pa_cons (pv 3) (pa_cons (pv 4) (pa_cons (pe_op op_sub (pv 5) pe_int) pa_nil))))))))
      (pss_cons (ps_set (i := 10) sc_lw_object.nd rfl (Or.inl rfl) (pe_call gi (hr.mono (by omega)) (by rfl) T.g_lw_int T.F_lw_int.kp T.b_lw_int .nil pass0 (pa_cons (pv 0) (pa_cons (pv 1) (pa_cons (pv 2) (pa_cons (pv 3) (pa_cons (pv 4) (pa_cons (pe_op op_sub (pv 5) pe_int) pa_nil))))))))
      (pss_one (ps_ret (pe_tup (pa_cons pe_str (pa_cons (pe_ix ix_list (pe_lst (pa_cons pe_str (pa_cons pe_str pa_nil))) (pe_op op_mod (pe_op op_fdiv (pv 6) pe_int) pe_int) (fun _ _ => rfl)) (pa_cons (pe_tup (pa_cons (pv 9) (pa_cons (pv 10) pa_nil))) pa_nil)))))))) pss_nil)
      (pss_cons (ps_set (i := 11) sc_lw_object.nd rfl (Or.inl rfl) (pe_call gr (hr.mono (by omega)) (by rfl) T.g_lw_receiver T.F_lw_receiver.kp T.b_lw_receiver .nil pass0 (pa_cons (pv 0) (pa_cons (pv 1) (pa_cons (pv 2) (pa_cons (pv 3) (pa_cons (pv 4) (pa_cons (pe_op op_sub (pv 5) pe_int) pa_nil))))))))
      (pss_one (ps_ret (pe_tup (pa_cons pe_str (pa_cons (pv 11) (pa_cons pe_str (pa_cons (pe_tup (pa_cons (pe_call go (hr.mono (by omega)) (by rfl) T.g_lw_object T.F_lw_object.kp T.b_lw_object .nil pass0 (pa_cons (pv 0) (pa_cons (pv 1) (pa_cons (pv 2) (pa_cons (pv 3) (pa_cons (pv 4) (pa_cons (pe_op op_sub (pv 5) pe_int) pa_nil))))))) pa_nil)) pa_nil)))))))))))), ?_⟩
  refine ⟨_, rfl, _, rfl, nu, c, rfl, ev.g, fun H1 p hp g1 k1 => ?_⟩
  have e1 := ev.keep k1 g1
  refine ⟨_, rfl, _, _, rfl, rfl, (by show (0 : Int) < 8; decide), ?_⟩
  refine (fun hA => ⟨_, rfl, _, _, rfl, rfl, _, rfl, Cm.itD (fun _ => hA) fun n1 => ⟨_, rfl, _, _, rfl, rfl, _, rfl, Cm.itD (fun _ => hA) fun n2 => ?_⟩⟩) ?_
  · -- a leaf
    refine iteT ?_
    refine (fun hE => ⟨_, rfl, lc, _, rfl, .inl e1.k, _, _, rfl, rfl, _, rfl, Cm.itD (fun n3 => ⟨_, rfl, _, _, rfl, rfl, ⟨by decide, by decide⟩, _, _, rfl, rfl, (by show (0 : Int) < 8; decide), _, _, rfl, rfl, _, rfl, Cm.itD (fun _ => ?_) fun _ => hE⟩) fun _ => hE⟩) ?_
    · refine ⟨Cm.small (by show 1 ≤ 100000; decide), fun p3 np3 => ?_⟩
      exact q _ _ (.plain "nil" .nil) (g1.new np3) (keep_new k1 np3) (made np3 (.cons (.str _) .nil)) (ok_leaf (by decide +kernel))
    · rw [List.length_map] at n3
      obtain ⟨x, hx, e⟩ := Cm.at_str (ws := cs) (i := p / 64 % ((cs.map V.str).length : Int)) (by rw [List.length_map]; exact Int.emod_nonneg _ (by omega)) (by rw [List.length_map]; exact Int.emod_lt_of_pos _ n3)
      refine ⟨_, rfl, _, rfl, _, _, rfl, rfl, ⟨by decide, by decide⟩, .inl ⟨_, rfl, _, rfl, lc, _, rfl, .inl e1.k, _, _, rfl, rfl, (by rw [List.length_map]; exact n3), lc, _, _, .str x, rfl, rfl, e1.k, e, ?_⟩⟩
      refine ⟨_, rfl, rfl, _, rfl, Cm.itES (fun _ => ?_) fun nself => ?_⟩
      · refine ⟨Cm.small (by show 1 ≤ 100000; decide), fun p3 np3 => ?_⟩
        exact q _ _ (.plain "self" .nil) (g1.new np3) (keep_new k1 np3) (made np3 (.cons (.str _) .nil)) (ok_leaf (by decide +kernel))
      · refine ⟨_, rfl, Cm.small (by show 2 ≤ 100000; decide), fun p3 np3 => ?_⟩
        exact q _ _ (.name x) (g1.new np3) (keep_new k1 np3) (made np3 (.cons (.str _) (.cons (.str _) .nil))) (ok_name (List.mem_append_right _ (fl_mem hx nself)) (ev.so _ (List.mem_append_right _ hx)))
  obtain ⟨e, rfl, he, ed⟩ := lt_of hd n1
  have call : ∀ {H2 : Hp} (_ : Ev K H2 nu c li lc is cs) (_ : Keep c H H2) {Q2 : VK}, (∀ (H' : Hp) (v : V) (x : Pt.E), G K H' nu c → Keep c H2 H' → Rp K H' v x.d → OkE (is ++ fl cs) e x → Q2 v H') →
      spE K d ([.ref nu, .ref c, .ref li, .ref lc, .int level, .int (((e + 1 : Nat) : Int) - 1)] ++ []) H2 Q2 E0 := fun {H2} e2 _ {Q2} h => ⟨nu, c, li, lc, is, cs, level, e, by rw [ed] <;> rfl, he, e2, h⟩
  refine (fun hA => ⟨_, rfl, _, _, rfl, rfl, _, rfl, Cm.itD (fun _ => hA) fun n3 => ⟨_, rfl, _, _, rfl, rfl, _, rfl, Cm.itD (fun _ => hA) fun n4 => ?_⟩⟩) ?_
  · refine iteT ?_
    refine ⟨_, rfl, _, rfl, _, rfl, _, rfl, _, rfl, _, rfl, _, _, rfl, rfl, call e1 k1 fun H3 v3 x3 g3 k3 r3 o3 => ?_⟩
    have k3' := k1.trans k3
    refine ⟨_, rfl, _, rfl, _, rfl, _, rfl, _, rfl, _, rfl, _, _, rfl, rfl, call (ev.keep k3' g3) k3' fun H4 v4 x4 g4 k4 r4 o4 => ?_⟩
    have k4' := k3'.trans k4
    obtain ⟨x, hx, ex⟩ := Cm.at_str (ws := ["Box", "Pair"]) (i := p / 8 % 2) (by omega) (by show p / 8 % 2 < 2; omega)
    refine ⟨Cm.small (by decide), fun p2 np => ?_⟩
    have g5 := g4.new (o := .lst ((["Box", "Pair"] : List Str).map V.str)) np
    have k5 := keep_new (o := .lst ((["Box", "Pair"] : List Str).map V.str)) k4' np
    have kk := k4.trans (Keep.of (Cm.same_new (o := .lst ((["Box", "Pair"] : List Str).map V.str)) np))
    refine ⟨_, rfl, _, _, rfl, rfl, ⟨by decide, by decide⟩, _, _, rfl, rfl, (by show (0 : Int) < 2; decide), p2, _, _, .str x, rfl, rfl, Cm.sql_new, ex, ?_⟩
    refine ⟨_, rfl, _, rfl, Cm.small (by show 2 ≤ 100000; decide), fun p6 np6 => ⟨Cm.small (by show 3 ≤ 100000; decide), fun p7 np7 => ?_⟩⟩
    exact q _ _ (.new x (.cons x3 (.cons x4 .nil))) ((g5.new np6).new np7) (keep_new (keep_new k5 np6) np7)
      (made np7 (.cons (.str _) (.cons (.str _) (.cons (made np6 (.cons (g3.rp kk r3) (.cons (r4.keep (Same.tups (Cm.same_new np))) .nil))) .nil)))) (ok_new2 o3 o4 ((by decide +kernel : ∀ x ∈ (["Box", "Pair"] : List Str), PyData.strOk x = true) x hx))
  · refine ⟨_, rfl, _, rfl, _, rfl, _, rfl, _, rfl, _, rfl, _, _, rfl, rfl, call e1 k1 fun H3 v3 x3 g3 k3 r3 o3 => ?_⟩
    have k3' := k1.trans k3
    refine ⟨_, rfl, _, rfl, _, rfl, _, rfl, _, rfl, _, rfl, _, rfl, _, _, rfl, rfl, call (ev.keep k3' g3) k3' fun H4 v4 x4 g4 k4 r4 o4 => ⟨Cm.small (by show 1 ≤ 100000; decide), fun p4 np4 => ⟨Cm.small (by show 4 ≤ 100000; decide), fun p5 np5 => ?_⟩⟩⟩
    exact q _ _ (.call x3 "link" (.cons x4 .nil)) ((g4.new np4).new np5) (keep_new (keep_new (k3'.trans k4) np4) np5)
      (made np5 (.cons (.str _) (.cons ((g3.rp k4 r3).keep (Same.tups (Cm.same_new np4))) (.cons (.str _) (.cons (made np4 (.cons r4 .nil)) .nil))))) (ok_call1 o3 o4 (by decide +kernel))
mutual
theorem depE : ∀ e : E, (e.d).depth ≤ 2 * e.dep + 1
  | .int n => by simp [E.d, PyData.depth, PyData.depthAll, E.dep]
  | .name x => by simp [E.d, PyData.depth, PyData.depthAll, E.dep]
  | .choice o l r => by
    have h1 := depE l
    have h2 := depE r
    simp only [E.d, PyData.depth, PyData.depthAll, E.dep]
    omega
  | .call r f as => by
    have h1 := depE r
    have h2 := depEs as
    simp only [E.d, PyData.depth, PyData.depthAll, E.dep]
    omega
  | .new m as => by
    have h2 := depEs as
    simp only [E.d, PyData.depth, PyData.depthAll, E.dep]
    omega
  | .plain w as => by
    have h2 := depEs as
    simp only [E.d, PyData.depth, PyData.depthAll, E.dep]
    omega
theorem depEs : ∀ es : Es, PyData.depthAll es.ds ≤ 2 * es.dep + 1
  | .nil => by simp [Es.ds, PyData.depthAll]
  | .cons e es => by
    have h1 := depE e
    have h2 := depEs es
    simp only [Es.ds, PyData.depthAll, Es.dep]
    omega
end
theorem shaped_of {d : PyData} (h1 : d.canLay0 = true) (h2 : d.depth ≤ 64) : SeqAt.shaped d = true := by
  show (d.canLay0 && decide (d.depth ≤ 64)) = true
  rw [Bool.and_eq_true]
  exact ⟨h1, decide_eq_true h2⟩
theorem step_rec (T : Txt K mg w a) (d : Nat) (hd9 : d ≤ 9) (go : FnOk P w K mg base CX0 (2 * d + 1) (He.ga K "_law_object") a.d_lw_object ["numbers", "at", "ints", "cells", "level", "depth"] (spE K d)) :
    FnOk P w K mg base CX0 (2 * d + 2) (He.ga K "_law_receiver") a.d_lw_receiver ["numbers", "at", "ints", "cells", "level", "depth"] (spE K d) := by
  refine T.F_lw_receiver.ok sc_lw_receiver spE_len (fun cdv A outer s H vs Q E hr h => ?_)
  obtain ⟨nu, c, li, lc, is, cs, level, dd, rfl, hd, ev, q⟩ := h
  refine ⟨_, PSs.nox (pss_cons (ps_set (i := 6) sc_lw_receiver.nd rfl (Or.inl rfl) (pe_call go (hr.mono (by omega)) (by rfl) T.g_lw_object T.F_lw_object.kp T.b_lw_object .nil pass0 (pa_cons (pv 0) (pa_cons (pv 1) (pa_cons (pv 2) (pa_cons (pv 3) (pa_cons (pv 4) (pa_cons (pv 5) pa_nil))))))))
      (pss_cons (ps_if (pt_cmpR (op_eqD hr.units) (pv 6) (pe_tup (pa_cons pe_str pa_nil)) (nomark _)) (pss_one (ps_ret (pe_tup (pa_cons pe_str (pa_cons pe_str (pa_cons (pe_tup (pa_cons (pv 6) (pa_cons (pe_tup (pa_cons pe_str (pa_cons pe_int pa_nil))) pa_nil))) pa_nil)))))) pss_nil)
      (pss_one (ps_ret (pv 6))))), ?_⟩
  refine ⟨_, rfl, _, rfl, _, rfl, _, rfl, _, rfl, _, rfl, nu, c, li, lc, is, cs, level, dd, rfl, hd, ev, fun H3 v3 x3 g3 k3 r3 o3 => ?_⟩
  refine ⟨_, rfl, Cm.small (by show 1 ≤ 100000; decide), fun p2 np => ?_⟩
  have g2 := g3.new (o := .tup [.str "nil"]) np
  have k2 := keep_new (o := .tup [.str "nil"]) k3 np
  have r2 := r3.keep (Same.tups (Cm.same_new (o := .tup [.str "nil"]) np))
  have hs := depE x3
  have hdep := o3.dp
  refine ⟨_, _, r2.dp, (made np (.cons (.str "nil") .nil)).dp, shaped_of o3.lay (by omega), by decide +kernel, _, rfl, Cm.itB (fun h => ?_) fun h => ?_⟩
  · obtain ⟨h1, h2⟩ := eqv_nil x3 h
    refine ⟨_, rfl, Cm.small (by show 2 ≤ 100000; decide), fun p4 np4 => ⟨Cm.small (by show 2 ≤ 100000; decide), fun p5 np5 => ⟨Cm.small (by show 3 ≤ 100000; decide), fun p6 np6 => ?_⟩⟩⟩
    have s4 := Cm.same_new (o := .tup [.str "int", .int 1]) np4
    exact q _ _ (.new "Box" (.cons x3 (.cons (.int 1) .nil))) (((g2.new np4).new np5).new np6) (keep_new (keep_new (keep_new k2 np4) np5) np6)
      (made np6 (.cons (.str _) (.cons (.str _) (.cons (made np5 (.cons (r2.keep (Same.tups s4)) (.cons (made np4 (.cons (.str _) (.cons (.int 1) .nil))) .nil))) .nil)))) (ok_box o3 h1 h2 (by decide +kernel))
  · exact ⟨_, rfl, q _ _ x3 g2 k2 r2 o3⟩
theorem ok_E (T : Txt K mg w a) : ∀ d : Nat, d ≤ 9 → FnOk P w K mg base CX0 (2 * d + 1) (He.ga K "_law_int") a.d_lw_int ["numbers", "at", "ints", "cells", "level", "depth"] (spE K d) ∧
    FnOk P w K mg base CX0 (2 * d + 1) (He.ga K "_law_object") a.d_lw_object ["numbers", "at", "ints", "cells", "level", "depth"] (spE K d) ∧ FnOk P w K mg base CX0 (2 * d + 2) (He.ga K "_law_receiver") a.d_lw_receiver ["numbers", "at", "ints", "cells", "level", "depth"] (spE K d)
  | 0, _ => by
    have no : ∀ vs H Q E, ¬ spE K 0 vs H Q E := fun vs H Q E h => by
      obtain ⟨_, _, _, _, _, _, _, dd, _, hd, _⟩ := h
      exact absurd hd (Nat.not_lt_zero dd)
    exact ⟨vac no, vac no, vac no⟩
  | d + 1, hd => by
    obtain ⟨gi, go, gr⟩ := ok_E T d (by omega)
    have go' := step_obj T d gi go gr
    exact ⟨step_int T d gi go gr, go', step_rec T (d + 1) hd go'⟩
/-! ### the generator: blocks -/
def Cb : Nat → Nat
  | 0 => 0
  | 1 => 200
  | m + 2 => (m + 2) * (200 + 2 * Cb m)
def Mb (m : Nat) : Nat := 200 + 2 * Cb (m - 2)
theorem Cb_eq : ∀ m : Nat, Cb m = m * Mb m
  | 0 => by simp [Cb]
  | 1 => by simp [Cb, Mb]
  | m + 2 => rfl
structure OkB (N : List Str) (m : Nat) (b : Ss) : Prop where
  us : ∀ x ∈ b.uses, x ∈ N ∨ x ∈ b.lets
  dp : b.dep ≤ m + 5
  sz : b.sz ≤ Cb m
  lay : PyData.canLayAll0 b.ds = true
  wf : b.wf = true
def spB (K : PySem.W.Frag) (m : Nat) : Sp := fun vs H Q _ => ∃ (nu c li lc : Addr) (is cs : List Str) (level : Int) (many : Nat) (mark : Str), vs = [.ref nu, .ref c, .ref li, .ref lc, .int level, .int many, .str mark] ∧ many < m ∧ Ev K H nu c li lc is cs ∧
  mark.length + 2 * many ≤ 90 ∧ PyData.strOk mark = true ∧ is.length + 10 * many ≤ 500 ∧ cs.length + 10 * many ≤ 500 ∧ ∀ (H' : Hp) (v : V) (b : Ss), G K H' nu c → Keep c H H' → Rp K H' v (.tuple b.ds) → OkB (is ++ fl cs) many b → Q v H'
/-- between two turns -/
structure Lp (K : PySem.W.Frag) (H0 H : Hp) (nu c rw li lc : Addr) (is cs N : List Str) (m i : Nat) (b : Ss) : Prop where
  ev : Ev K H nu c li lc is cs
  kp : Keep c H0 H
  new : H0 rw = none
  rows : ∃ vs, H rw = some (.lst vs) ∧ Rps K H vs b.ds ∧ vs.length ≤ 2 * i
  nli : li ≠ rw
  nlc : lc ≠ rw
  nm : ∀ x ∈ is ++ fl cs, x ∈ N ∨ x ∈ b.lets
  us : ∀ x ∈ b.uses, x ∈ N ∨ x ∈ b.lets
  dp : b.dep ≤ m + 5
  sz : b.sz ≤ i * Mb m
  lay : PyData.canLayAll0 b.ds = true
  wf : b.wf = true
theorem dsRef {K : PySem.W.Frag} {H : Hp} : ∀ {vs : List V} {b : Ss}, Rps K H vs b.ds → ∀ v ∈ vs, ∃ a, v = .ref a
  | _, .nil, h => by
    rw [Rps.nil_inv h]
    intro v hv
    cases hv
  | _, .cons s b, h => by
    obtain ⟨v, r, rfl, h1, h2⟩ := Rps.cons_inv h
    intro u hu
    rcases List.mem_cons.mp hu with rfl | hu
    · cases s <;> (obtain ⟨a, _, e, _⟩ := Rp.tup_inv h1; exact ⟨a, e⟩)
    · exact dsRef h2 u hu
theorem refs_int {vs : List V} (h : ∀ v ∈ vs, ∃ a, v = .ref a) {ns : List Int} (e : vs = ns.map V.int) : ns = [] := by
  subst e
  cases ns with
  | nil => rfl
  | cons n r =>
    obtain ⟨a, e⟩ := h (.int n) (by simp)
    cases e
section
variable {K : PySem.W.Frag} {H0 H H1 : Hp} {nu c rw li lc : Addr} {is cs N : List Str} {m i : Nat} {b : Ss}
/-- the rows may change, the generator's own state stays -/
theorem G.rows {vs : List V} {o : HO} (g : G K H nu c) (h : H rw = some (.lst vs)) (r : ∀ v ∈ vs, ∃ a, v = .ref a) : G K (upd H rw o) nu c := by
  obtain ⟨ns, n, h1, h2, h3, h4, h5⟩ := g
  have k : Keep rw H (upd H rw o) := fun q x e ne => by
    rw [upd_ne ne]
    exact e
  have ne : ns.map V.int ≠ vs := fun e => by
    have := refs_int r e.symm
    rw [this] at h2
    cases h2
  refine ⟨ns, n, k.seq h ne h1, h2, h3, k _ _ h4 fun e => ?_, h5⟩
  rw [e, h] at h4
  have e2 : vs = [n].map V.int := HO.lst.inj (Option.some.inj h4)
  cases refs_int r e2
theorem rows_stay {c : Addr} {vs : List V} (g : G K H nu c) (k : Keep c H H1) (h : H rw = some (.lst vs)) (r : ∀ v ∈ vs, ∃ a, v = .ref a) : H1 rw = some (.lst vs) := by
  obtain ⟨ns, n, h1, h2, h3, h4, h5⟩ := g
  refine k _ _ h fun e => ?_
  rw [e, h4] at h
  have e2 : vs = [n].map V.int := (HO.lst.inj (Option.some.inj h)).symm
  cases refs_int r e2
theorem Lp.keep (l : Lp K H0 H nu c rw li lc is cs N m i b) (k : Keep c H H1) (g : G K H1 nu c) : Lp K H0 H1 nu c rw li lc is cs N m i b := by
  obtain ⟨vs, h1, h2, h3⟩ := l.rows
  exact ⟨l.ev.keep k g, l.kp.trans k, l.new, ⟨vs, rows_stay l.ev.g k h1 (dsRef h2), h2.keep (l.ev.g.tups k), h3⟩, l.nli, l.nlc, l.nm, l.us, l.dp, l.sz, l.lay, l.wf⟩
theorem Lp.same (l : Lp K H0 H nu c rw li lc is cs N m i b) (s : Same H H1) : Lp K H0 H1 nu c rw li lc is cs N m i b := l.keep (Keep.of s) (l.ev.g.same s)
theorem lay_snoc {b : Ss} {s : S} (h1 : PyData.canLayAll0 b.ds = true) (h2 : s.d.canLay0 = true) : PyData.canLayAll0 (b.app (.cons s .nil)).ds = true := by
  rw [Ss.app_ds]
  show PyData.canLayAll0 (b.ds ++ [s.d]) = true
  generalize b.ds = l at h1
  induction l with
  | nil => simp [PyData.canLayAll0, h2]
  | cons x r ih =>
    simp only [PyData.canLayAll0, Bool.and_eq_true] at h1
    simp only [List.cons_append, PyData.canLayAll0, Bool.and_eq_true]
    exact ⟨h1.1, ih h1.2⟩
theorem le_mul {i j M : Nat} (h : i ≤ j) : i * M ≤ j * M := Nat.mul_le_mul_right M h
/-- one statement more, in turn i; j ≤ i + 1 tells how much of the turn's size is spent -/
theorem Lp.push {vs : List V} {v : V} {s : S} {z : Nat} (l : Lp K H0 H nu c rw li lc is cs N m i b) (h : H rw = some (.lst vs)) (hv : Rps K H vs b.ds) (hl : vs.length + 1 ≤ 2 * z) (r : Rp K H v s.d)
    (us : ∀ x ∈ s.uses, x ∈ N ∨ x ∈ b.lets ∨ x ∈ s.lets) (dp : s.dep ≤ m + 5) (sz : b.sz + s.sz ≤ z * Mb m) (lay : s.d.canLay0 = true) (wf : s.wf = true) :
    Lp K H0 (upd H rw (.lst (vs ++ [v]))) nu c rw li lc is cs N m z (b.app (.cons s .nil)) := by
  have refs := dsRef hv
  have tp : Tups H (upd H rw (.lst (vs ++ [v]))) := fun q x e no => by
    refine (upd_ne fun z => ?_).trans e
    rw [z, h] at e
    exact no vs (Option.some.inj e).symm
  have ml : ∀ x, x ∈ (b.app (.cons s .nil)).lets ↔ x ∈ b.lets ∨ x ∈ s.lets := fun x => by
    rw [Ss.app_lets]
    show x ∈ b.lets ++ (s.lets ++ []) ↔ _
    rw [List.append_nil, List.mem_append]
  refine ⟨⟨l.ev.g.rows h refs, (upd_ne l.nli).trans l.ev.ti, (upd_ne l.nlc).trans l.ev.tk, l.ev.so⟩, fun q x e ne => ?_, l.new, ⟨vs ++ [v], upd_same, ?_, by rw [List.length_append]; exact hl⟩, l.nli, l.nlc, fun x hx => ?_, fun x hx => ?_, ?_, ?_, lay_snoc l.lay lay, by rw [Ss.app_wf]; exact and2 l.wf (and2 wf rfl)⟩
  · rw [upd_ne (ne_of_none e l.new)]
    exact l.kp q x e ne
  · rw [Ss.app_ds]
    exact (hv.keep tp).app (.cons (r.keep tp) .nil)
  · rcases l.nm x hx with h | h
    · exact .inl h
    · exact .inr ((ml x).mpr (.inl h))
  · rw [Ss.app_uses] at hx
    rcases List.mem_append.mp hx with h | h
    · rcases l.us x h with h | h
      · exact .inl h
      · exact .inr ((ml x).mpr (.inl h))
    · have h' : x ∈ s.uses ++ [] := h
      rw [List.append_nil] at h'
      rcases us x h' with h | h | h
      · exact .inl h
      · exact .inr ((ml x).mpr (.inl h))
      · exact .inr ((ml x).mpr (.inr h))
  · rw [Ss.app_dep]
    have := l.dp
    show max b.dep (max s.dep 0) ≤ m + 5
    omega
  · rw [Ss.app_sz]
    show b.sz + (s.sz + 0) ≤ z * Mb m
    exact sz
theorem Lp.in {x : Str} (l : Lp K H0 H nu c rw li lc is cs N m i b) (h : x ∈ is ++ fl cs) : x ∈ N ∨ x ∈ b.lets := l.nm x h
end
theorem dig : ∀ i : Nat, i < 10 → (Str.ofString (toString (0 + (i : Int)))).length = 1 ∧ PyData.strOk (Str.ofString (toString (0 + (i : Int)))) = true ∧ (0 + (i : Int)).natAbs.log2 < 1920 := by decide +kernel
theorem str_app_len (x y : Str) : (x ++ y).length = x.length + y.length := by
  rw [TL.len_tl, TL.len_tl, TL.len_tl, TL.tl_append, List.length_append]
theorem strOk_app {x y : Str} (h1 : PyData.strOk x = true) (h2 : PyData.strOk y = true) : PyData.strOk (x ++ y) = true := by
  have e : ∀ z : Str, PyData.strOk z = (TL.tl z).all (· < 0x110000) := fun z => by
    show z.cps.all _ = z.cps.toList.all _
    rw [Array.all_toList]
  rw [e] at h1 h2 ⊢
  rw [TL.tl_append, List.all_append, h1, h2]
  rfl
theorem Mb_big (m : Nat) : 200 ≤ Mb m := by
  unfold Mb
  omega
theorem succM (i m : Nat) : (i + 1) * Mb m = i * Mb m + Mb m := Nat.succ_mul i (Mb m)
theorem fl_take {cs : List Str} {i : Nat} {x : Str} (h : cs[i]? = some x) : fl (cs.take (i + 1)) = fl (cs.take i) ++ (if x = "self" then [] else [x]) := by
  unfold fl
  rw [List.take_succ, h, List.filter_append]
  congr 1
  show List.filter _ [x] = _
  by_cases e : x = "self"
  · rw [if_pos e, List.filter_cons_of_neg (by rw [decide_eq_true e]; decide)]
    rfl
  · rw [if_neg e, List.filter_cons_of_pos (by rw [decide_eq_false e]; rfl)]
    rfl
theorem fl_sub {cs : List Str} {x : Str} (h : x ∈ fl cs) : x ∈ cs := (List.mem_filter.mp h).1
theorem fl_len (cs : List Str) (i : Nat) : (fl (cs.take i)).length ≤ cs.length := Nat.le_trans (List.length_filter_le _ _) (by rw [List.length_take]; omega)
abbrev ps7 : List Str := ["numbers", "at", "ints", "cells", "level", "many", "mark"]
theorem mapS_at {cs : List Str} {i : Nat} {v : V} (h : (cs.map V.str)[i]? = some v) : ∃ x, cs[i]? = some x ∧ v = .str x := by
  rw [List.getElem?_map] at h
  cases e : cs[i]? with
  | none =>
    rw [e] at h
    cases h
  | some x =>
    rw [e] at h
    exact ⟨x, rfl, (Option.some.inj h).symm⟩
theorem le2 : (10 : Nat) * 4 ^ 2 = 160 := by decide
theorem le1 : (10 : Nat) * 4 ^ 1 = 40 := by decide
section
variable {K : PySem.W.Frag} {H0 H H1 : Hp} {nu c rw li lc : Addr} {is cs N : List Str} {m i : Nat} {b : Ss}
theorem Lp.eu (l : Lp K H0 H nu c rw li lc is cs N m i b) {e : E} {d : Nat} (o : OkE (is ++ fl cs) d e) {ls : List Str} : ∀ x ∈ e.uses, x ∈ N ∨ x ∈ b.lets ∨ x ∈ ls := fun x hx => (l.nm x (o.us x hx)).elim .inl fun h => .inr (.inl h)
theorem Lp.bu (l : Lp K H0 H nu c rw li lc is cs N m i b) {e : Ss} {d : Nat} (o : OkB (is ++ fl cs) d e) {ls : List Str} (h : ∀ x ∈ e.lets, x ∈ ls) : ∀ x ∈ e.uses, x ∈ N ∨ x ∈ b.lets ∨ x ∈ ls := fun x hx =>
  (o.us x hx).elim (fun z => (l.nm x z).elim .inl fun h => .inr (.inl h)) fun z => .inr (.inr (h x z))
theorem us_app {l1 l2 ls bl : List Str} (h1 : ∀ x ∈ l1, x ∈ N ∨ x ∈ bl ∨ x ∈ ls) (h2 : ∀ x ∈ l2, x ∈ N ∨ x ∈ bl ∨ x ∈ ls) : ∀ x ∈ l1 ++ l2, x ∈ N ∨ x ∈ bl ∨ x ∈ ls := fun x hx => (List.mem_append.mp hx).elim (h1 x) (h2 x)
theorem us_cons {y : Str} {l2 ls bl : List Str} (h1 : y ∈ N ∨ y ∈ bl ∨ y ∈ ls) (h2 : ∀ x ∈ l2, x ∈ N ∨ x ∈ bl ∨ x ∈ ls) : ∀ x ∈ y :: l2, x ∈ N ∨ x ∈ bl ∨ x ∈ ls := fun x hx => by
  rcases List.mem_cons.mp hx with rfl | hx
  · exact h1
  · exact h2 x hx
theorem us_nil {ls bl : List Str} : ∀ x ∈ ([] : List Str), x ∈ N ∨ x ∈ bl ∨ x ∈ ls := fun _ h => (nomatch h)
theorem Lp.rne (l : Lp K H0 H nu c rw li lc is cs N m i b) {p : Addr} (np : H p = none) : p ≠ rw := by
  obtain ⟨vs, h1, _⟩ := l.rows
  exact (ne_of_none h1 np).symm
/-- a new list of the names of ints -/
theorem Lp.ints (l : Lp K H0 H nu c rw li lc is cs N m i b) {p : Addr} {x : Str} {vs : List V} (np : H p = none) (e : vs = (is ++ [x]).map V.str) (hx : x ∈ N ∨ x ∈ b.lets) (so : PyData.strOk x = true) : Lp K H0 (upd H p (.lst vs)) nu c rw p lc (is ++ [x]) cs N m i b := by
  have s := Cm.same_new (o := .lst vs) np
  have l2 := l.same s
  refine ⟨⟨l2.ev.g, by rw [upd_same, e], l2.ev.tk, fun y hy => ?_⟩, l2.kp, l2.new, l2.rows, l.rne np, l2.nlc, fun y hy => ?_, l2.us, l2.dp, l2.sz, l2.lay, l2.wf⟩
  · simp only [List.mem_append, List.mem_singleton] at hy
    rcases hy with (h | h) | h
    · exact l.ev.so y (List.mem_append_left _ h)
    · rw [h]
      exact so
    · exact l.ev.so y (List.mem_append_right _ h)
  · simp only [List.mem_append, List.mem_singleton] at hy
    rcases hy with (h | h) | h
    · exact l.nm y (List.mem_append_left _ h)
    · rw [h]
      exact hx
    · exact l.nm y (List.mem_append_right _ h)
theorem Lp.cells (l : Lp K H0 H nu c rw li lc is cs N m i b) {p : Addr} {x : Str} {vs : List V} (np : H p = none) (e : vs = (cs ++ [x]).map V.str) (hx : x ∈ N ∨ x ∈ b.lets) (so : PyData.strOk x = true) : Lp K H0 (upd H p (.lst vs)) nu c rw li p is (cs ++ [x]) N m i b := by
  have s := Cm.same_new (o := .lst vs) np
  have l2 := l.same s
  refine ⟨⟨l2.ev.g, l2.ev.ti, by rw [upd_same, e], fun y hy => ?_⟩, l2.kp, l2.new, l2.rows, l2.nli, l.rne np, fun y hy => ?_, l2.us, l2.dp, l2.sz, l2.lay, l2.wf⟩
  · simp only [List.mem_append, List.mem_singleton] at hy
    rcases hy with h | h | h
    · exact l.ev.so y (List.mem_append_left _ h)
    · exact l.ev.so y (List.mem_append_right _ h)
    · rw [h]
      exact so
  · rcases List.mem_append.mp hy with h | h
    · exact l.nm y (List.mem_append_left _ h)
    · have h2 := List.mem_filter.mp h
      rcases List.mem_append.mp h2.1 with h3 | h3
      · exact l.nm y (List.mem_append_right _ (List.mem_filter.mpr ⟨h3, h2.2⟩))
      · rw [List.mem_singleton.mp h3]
        exact hx
theorem snoc_let {nm k : Str} {e : E} : nm ∈ (b.app (.cons (.letS nm k e) .nil)).lets := by
  rw [Ss.app_lets]
  exact List.mem_append_right _ (List.mem_append_left _ (List.mem_singleton.mpr rfl))
end
theorem ifS_sz (e : E) (b c : Ss) : (S.ifS e b c).sz ≤ e.sz + b.sz + c.sz + 2 := by
  cases c with
  | nil =>
    show e.sz + 1 + b.sz + 0 + 0 ≤ e.sz + b.sz + 0 + 2
    omega
  | cons s ss =>
    show e.sz + 1 + b.sz + 1 + (Ss.cons s ss).sz ≤ e.sz + b.sz + (Ss.cons s ss).sz + 2
    omega
theorem szS_pos : ∀ s : S, 1 ≤ s.sz
  | .letS _ _ e => Nat.le_add_left 1 e.sz
  | .setS _ e => Nat.le_add_left 1 e.sz
  | .ifS e b c => by
    cases c with
    | nil =>
      show 1 ≤ e.sz + 1 + b.sz + 0 + 0
      omega
    | cons s ss =>
      show 1 ≤ e.sz + 1 + b.sz + 1 + (Ss.cons s ss).sz
      omega
  | .whileS e b => by
    show 1 ≤ e.sz + b.sz + 2
    omega
  | .doS e => Nat.le_add_left 1 e.sz
  | .fork r _ as => Nat.le_add_left 1 (r.sz + as.sz)
  | .plain _ as => Nat.le_add_left 1 as.sz
theorem szB : ∀ b : Ss, b.ds.length ≤ b.sz
  | .nil => Nat.le_refl 0
  | .cons s ss => by
    have h1 := szS_pos s
    have h2 := szB ss
    show ss.ds.length + 1 ≤ s.sz + ss.sz
    omega
theorem cb8 : ∀ m : Nat, m ≤ 8 → Cb m ≤ 4000000 := by decide
theorem withRest {PP : Hp → Prop} {Goal : Prop} {H1 : Hp} (h : (∀ H2, Same H1 H2 → PP H2) → Goal) (hE : ∀ H2, Same H1 H2 → PP H2) : Goal := h hE
/-- [one for one in cells if one != "self"] -/
theorem comp_own {K : PySem.W.Frag} {lc D : Addr} {cs : List Str} {H1 : Hp} {σ : L2.St} {Qd : Hp → Prop} (hlc : H1 lc = some (.lst (cs.map V.str))) (hD : H1 D = none) (hl : cs.length ≤ 1000)
    (hw : ∀ v, wipe ((wipe σ [19]).set 19 (some v)) [19] = wipe σ [19]) (hg : ∀ v : V, ((wipe σ [19]).set 19 (some v))[19]? = some (some v)) (hd : ∀ H, Same H1 H → H D = some (.lst ((fl cs).map V.str)) → Qd H) :
    ∃ W : Nat → Nat → Hp → Prop, (∃ m, W 0 m (upd H1 D (.lst []))) ∧ ∀ i m H, W i m H → ((Itl K lc).stop i H ∧ Qd H) ∨ ((Itl K lc).go i H ∧ ∃ Nx : Hp → Prop, (∀ H', Nx H' → ∃ m', m' < m ∧ W (i + 1) m' H') ∧ ∀ x H', (Itl K lc).yld i H x H' →
      gName 19 x (wipe σ [19]) H' fun σ2 H2 => wipe σ2 [19] = wipe σ [19] ∧ tTest (tOp rNe (tVar 19) (tC (.str "self"))) σ2 H2 fun b H3 => if b = true then tVar 19 σ2 H3 fun y H4 => ∃ acc, H4 D = some (.lst acc) ∧ acc.length < sizeLine ∧ Nx (upd H4 D (.lst (acc ++ [y]))) else Nx H3) := by
  refine lc_list (K := K) (a := lc) (xs := cs.map V.str) (fun i H => Same H1 H ∧ H D = some (.lst ((fl (cs.take i)).map V.str))) ⟨Cm.same_new hD, upd_same⟩ (fun i H _ p => SqL.of (p.1 _ _ hlc)) (fun i x H hx p => ?_) fun H p => ?_
  · obtain ⟨s, hH⟩ := p
    obtain ⟨y, hy, rfl⟩ := mapS_at hx
    have ft := fl_take hy
    refine ⟨hw _, _, hg _, rfl, _, rfl, Cm.itNS (fun n => ?_) fun e => ?_⟩
    · rw [if_neg n] at ft
      refine ⟨_, hg _, _, hH, Cm.smallL (by rw [List.length_map]; have := fl_len cs i; omega), Cm.same_mut s hD, ?_⟩
      rw [upd_same, ft, List.map_append]
      rfl
    · rw [if_pos e, List.append_nil] at ft
      exact ⟨s, by rw [ft]; exact hH⟩
  · rw [List.length_map, List.take_length] at p
    exact hd H p.1 p.2
theorem step_block (T : Txt K mg w a) (m : Nat) (hm : m ≤ 8) (gb : FnOk P w K mg base CX0 (9 + m) (He.ga K "_law_block") a.d_lw_block ps7 (spB K m)) :
    FnOk P w K mg base CX0 (9 + m + 1) (He.ga K "_law_block") a.d_lw_block ps7 (spB K (m + 1)) := by
  obtain ⟨gi, go, gr⟩ := ok_E (P := P) (w := w) (base := base) T 3 (by decide)
  refine T.F_lw_block.ok sc_lw_block (fun vs H Q E h => ?_) (fun cdv A outer s H0 vs Q E hr h => ?_)
  · obtain ⟨nu, c, li, lc, is, cs, level, many, mark, rfl, _⟩ := h
    rfl
  obtain ⟨nu, c, li0, lc0, is0, cs0, level, many, mark, rfl, hmany, ev0, hmark, som, hil0, hcl0, q⟩ := h
  refine ⟨_, PSs.nox (pss_cons (ps_set (i := 7) sc_lw_block.nd rfl (Or.inl rfl) (pe_lst pa_nil))
      (pss_cons (ps_for PassesOwn.never rfl (pi_range1 (by rfl) T.g_range (pa_cons (pv 5) pa_nil)) (pg_name (i := 8) sc_lw_block.nd rfl (Or.inl rfl))
      (pss_cons (ps_set (i := 9) sc_lw_block.nd rfl (Or.inl rfl) (pe_call (ok_lw_pick T) (hr.mono (by omega)) (by rfl) T.g_lw_pick T.F_lw_pick.kp T.b_lw_pick .nil pass0 (pa_cons (pv 0) (pa_cons (pv 1) pa_nil))))
      (pss_cons (ps_set (i := 10) sc_lw_block.nd rfl (Or.inl rfl) (pe_op op_mod (pv 9) pe_int))
      (pss_cons (ps_set (i := 11) sc_lw_block.nd rfl (Or.inl rfl) (pe_op op_add_str (pv 6) (pe_callTy call_str_int (by rfl) T.g_str boot_str (pa_cons (pv 8) pa_nil))))
      (pss_one (ps_if (pt_cmpR op_lt (pv 10) pe_int (nomark _)) (pss_cons (ps_expr (pe_bm PySem.F.plainAttrs_list PySem.F.slot_list_append PySem.F.type_list_append mt_append (pv 7) (pa_cons (pe_tup (pa_cons pe_str (pa_cons (pv 11) (pa_cons pe_str (pa_cons (pe_call gi (hr.mono (by omega)) (by rfl) T.g_lw_int T.F_lw_int.kp T.b_lw_int .nil pass0 (pa_cons (pv 0) (pa_cons (pv 1) (pa_cons (pv 2) (pa_cons (pv 3) (pa_cons (pv 4) (pa_cons pe_int pa_nil))))))) pa_nil))))) pa_nil)))
      (pss_one (ps_set (i := 2) sc_lw_block.nd rfl (Or.inl rfl) (pe_op op_cat (pv 2) (pe_lst (pa_cons (pv 11) pa_nil)))))) (pss_one (ps_if (pt_cmpR op_eq (pv 10) pe_int (nomark _)) (pss_cons (ps_expr (pe_bm PySem.F.plainAttrs_list PySem.F.slot_list_append PySem.F.type_list_append mt_append (pv 7) (pa_cons (pe_tup (pa_cons pe_str (pa_cons (pv 11) (pa_cons pe_str (pa_cons (pe_call go (hr.mono (by omega)) (by rfl) T.g_lw_object T.F_lw_object.kp T.b_lw_object .nil pass0 (pa_cons (pv 0) (pa_cons (pv 1) (pa_cons (pv 2) (pa_cons (pv 3) (pa_cons (pv 4) (pa_cons pe_int pa_nil))))))) pa_nil))))) pa_nil)))
      (pss_one (ps_set (i := 3) sc_lw_block.nd rfl (Or.inl rfl) (pe_op op_cat (pv 3) (pe_lst (pa_cons (pv 11) pa_nil)))))) (pss_one (ps_if (PW.pt (pw_and (pt_cmpR op_lt (pv 10) pe_int (nomark _)) (pw_and1 (pt_cmpR op_gt (pe_callB call_len_seq (by rfl) T.g_len boot_len (pa_cons (pv 2) pa_nil)) pe_int (nomark _))))) (pss_one (ps_expr (pe_bm PySem.F.plainAttrs_list PySem.F.slot_list_append PySem.F.type_list_append mt_append (pv 7) (pa_cons (pe_tup (pa_cons pe_str (pa_cons (pe_ix ix_list (pv 2) (pe_op op_mod (pe_callTy call_int1 (by rfl) T.g_int boot_int (pa_cons (pe_op op_fdiv (pv 9) pe_int) pa_nil)) (pe_callB call_len_seq (by rfl) T.g_len boot_len (pa_cons (pv 2) pa_nil))) (fun _ _ => rfl)) (pa_cons (pe_call gi (hr.mono (by omega)) (by rfl) T.g_lw_int T.F_lw_int.kp T.b_lw_int .nil pass0 (pa_cons (pv 0) (pa_cons (pv 1) (pa_cons (pv 2) (pa_cons (pv 3) (pa_cons (pv 4) (pa_cons pe_int pa_nil))))))) pa_nil)))) pa_nil)))) (pss_one (ps_if (PW.pt (pw_and (pt_cmpR op_eq (pv 10) pe_int (nomark _)) (pw_and1 (pt_cmpR op_gt (pe_callB call_len_seq (by rfl) T.g_len boot_len (pa_cons (pe_lc (own := [("one", 19)]) (g := gName 19) (tt := (tTest (tOp rNe (tVar 19) (tC (.str "self")))))  (by rfl) sc_lw_block.nd (pi_list (pv 3)) (blkOk_by (own := [("one", 19)]) (N := N_lw_block) (sc := defScope s_lw_block) (by decide +kernel)) (fun _ _ _ _ _ => pg_name (i := 19) sc_lw_block.nd rfl (Or.inl rfl)) (fun _ _ _ _ _ => pts_one (pt_cmpR op_ne (pv 19) pe_str (nomark _))) (fun _ _ _ _ _ => (pv 19))) pa_nil)) pe_int (nomark _))))) (pss_cons (ps_setLc (i := 12) (own := [("one", 19)]) (g := gName 19) (tt := (tTest (tOp rNe (tVar 19) (tC (.str "self")))))  (by rfl) sc_lw_block.nd rfl rfl (sw_true rfl rfl rfl (by decide +kernel)) (pi_list (pv 3)) (blkOk_by (own := [("one", 19)]) (N := N_lw_block) (sc := defScope s_lw_block) (by decide +kernel)) (fun _ _ _ _ _ => pg_name (i := 19) sc_lw_block.nd rfl (Or.inl rfl)) (fun _ _ _ _ _ => pts_one (pt_cmpR op_ne (pv 19) pe_str (nomark _))) (fun _ _ _ _ _ => (pv 19)))
      (pss_one (ps_expr (pe_bm PySem.F.plainAttrs_list PySem.F.slot_list_append PySem.F.type_list_append mt_append (pv 7) (pa_cons (pe_tup (pa_cons pe_str (pa_cons (pe_ix ix_list (pv 12) (pe_op op_mod (pe_callTy call_int1 (by rfl) T.g_int boot_int (pa_cons (pe_op op_fdiv (pv 9) pe_int) pa_nil)) (pe_callB call_len_seq (by rfl) T.g_len boot_len (pa_cons (pv 12) pa_nil))) (fun _ _ => rfl)) (pa_cons (pe_call go (hr.mono (by omega)) (by rfl) T.g_lw_object T.F_lw_object.kp T.b_lw_object .nil pass0 (pa_cons (pv 0) (pa_cons (pv 1) (pa_cons (pv 2) (pa_cons (pv 3) (pa_cons (pv 4) (pa_cons pe_int pa_nil))))))) pa_nil)))) pa_nil))))) (pss_one (ps_if (PW.pt (pw_and (pt_cmpR op_eq (pv 10) pe_int (nomark _)) (pw_and1 (pt_cmpR op_gt (pv 5) pe_int (nomark _))))) (pss_cons (ps_set (i := 13) sc_lw_block.nd rfl (Or.inl rfl) (pe_call gb (hr.mono (by omega)) (by rfl) T.g_lw_block T.F_lw_block.kp T.b_lw_block .nil pass0 (pa_cons (pv 0) (pa_cons (pv 1) (pa_cons (pv 2) (pa_cons (pv 3) (pa_cons (pv 4) (pa_cons (pe_op op_sub (pv 5) pe_int) (pa_cons (pe_op op_add_str (pv 11) pe_str) pa_nil)))))))))
      (pss_cons (ps_set (i := 14) sc_lw_block.nd rfl (Or.inl rfl) (pe_call gb (hr.mono (by omega)) (by rfl) T.g_lw_block T.F_lw_block.kp T.b_lw_block .nil pass0 (pa_cons (pv 0) (pa_cons (pv 1) (pa_cons (pv 2) (pa_cons (pv 3) (pa_cons (pv 4) (pa_cons (pe_ix ix_list (pe_lst (pa_cons pe_int (pa_cons (pe_op op_sub (pv 5) pe_int) pa_nil))) (pe_op op_mod (pe_op op_fdiv (pv 9) pe_int) pe_int) (fun _ _ => rfl)) (pa_cons (pe_op op_add_str (pv 11) pe_str) pa_nil)))))))))
      (pss_one (ps_expr (pe_bm PySem.F.plainAttrs_list PySem.F.slot_list_append PySem.F.type_list_append mt_append (pv 7) (pa_cons (pe_tup (pa_cons pe_str (pa_cons (pe_call gi (hr.mono (by omega)) (by rfl) T.g_lw_int T.F_lw_int.kp T.b_lw_int .nil pass0 (pa_cons (pv 0) (pa_cons (pv 1) (pa_cons (pv 2) (pa_cons (pv 3) (pa_cons (pv 4) (pa_cons pe_int pa_nil))))))) (pa_cons (pv 13) (pa_cons (pv 14) pa_nil))))) pa_nil)))))) (pss_one (ps_if (PW.pt (pw_and (pt_cmpR op_eq (pv 10) pe_int (nomark _)) (pw_and1 (pt_cmpR op_gt (pv 5) pe_int (nomark _))))) (pss_cons (ps_expr (pe_bm PySem.F.plainAttrs_list PySem.F.slot_list_append PySem.F.type_list_append mt_append (pv 7) (pa_cons (pe_tup (pa_cons pe_str (pa_cons (pv 11) (pa_cons pe_str (pa_cons (pe_tup (pa_cons pe_str (pa_cons pe_int pa_nil))) pa_nil))))) pa_nil)))
      (pss_cons (ps_set (i := 15) sc_lw_block.nd rfl (Or.inl rfl) (pe_call gb (hr.mono (by omega)) (by rfl) T.g_lw_block T.F_lw_block.kp T.b_lw_block .nil pass0 (pa_cons (pv 0) (pa_cons (pv 1) (pa_cons (pv 2) (pa_cons (pv 3) (pa_cons (pe_callB (call_min2 rfl) (by rfl) T.g_min boot_min (pa_cons (pv 4) (pa_cons pe_int pa_nil))) (pa_cons (pe_op op_sub (pv 5) pe_int) (pa_cons (pe_op op_add_str (pv 11) pe_str) pa_nil)))))))))
      (pss_cons (ps_set (i := 16) sc_lw_block.nd rfl (Or.inl rfl) (pe_tup (pa_cons pe_str (pa_cons (pv 11) (pa_cons (pe_tup (pa_cons pe_str (pa_cons (pe_tup (pa_cons pe_str (pa_cons (pv 11) pa_nil))) (pa_cons (pe_tup (pa_cons pe_str (pa_cons pe_int pa_nil))) pa_nil)))) pa_nil)))))
      (pss_one (ps_expr (pe_bm PySem.F.plainAttrs_list PySem.F.slot_list_append PySem.F.type_list_append mt_append (pv 7) (pa_cons (pe_tup (pa_cons pe_str (pa_cons (pe_tup (pa_cons pe_str (pa_cons (pe_tup (pa_cons pe_str (pa_cons (pv 11) pa_nil))) (pa_cons (pe_tup (pa_cons pe_str (pa_cons (pe_op op_add pe_int (pe_op op_mod (pe_op op_fdiv (pv 9) pe_int) pe_int)) pa_nil))) pa_nil)))) (pa_cons (pe_op op_catA (pv 15) (pe_tup (pa_cons (pv 16) pa_nil))) pa_nil)))) pa_nil))))))) (pss_one (ps_if (pt_cmpR op_eq (pv 10) pe_int (nomark _)) (pss_one (ps_expr (pe_bm PySem.F.plainAttrs_list PySem.F.slot_list_append PySem.F.type_list_append mt_append (pv 7) (pa_cons (pe_tup (pa_cons pe_str (pa_cons (pe_call go (hr.mono (by omega)) (by rfl) T.g_lw_object T.F_lw_object.kp T.b_lw_object .nil pass0 (pa_cons (pv 0) (pa_cons (pv 1) (pa_cons (pv 2) (pa_cons (pv 3) (pa_cons (pv 4) (pa_cons pe_int pa_nil))))))) pa_nil))) pa_nil)))) (pss_one (ps_if (PW.pt (pw_and (pt_cmpR op_gt (pv 10) pe_int (nomark _)) (pw_and1 (pt_cmpR op_gt (pv 4) pe_int (nomark _))))) (pss_cons (ps_set (i := 17) sc_lw_block.nd rfl (Or.inl rfl) (pe_call gr (hr.mono (by omega)) (by rfl) T.g_lw_receiver T.F_lw_receiver.kp T.b_lw_receiver .nil pass0 (pa_cons (pv 0) (pa_cons (pv 1) (pa_cons (pv 2) (pa_cons (pv 3) (pa_cons pe_int (pa_cons pe_int pa_nil))))))))
      (pss_cons (ps_set (i := 18) sc_lw_block.nd rfl (Or.inl rfl) (pe_ix ix_list (pe_lst (pa_cons (pe_tup pa_nil) (pa_cons (pe_tup (pa_cons (pe_call gi (hr.mono (by omega)) (by rfl) T.g_lw_int T.F_lw_int.kp T.b_lw_int .nil pass0 (pa_cons (pv 0) (pa_cons (pv 1) (pa_cons (pv 2) (pa_cons (pv 3) (pa_cons pe_int (pa_cons pe_int pa_nil))))))) pa_nil)) (pa_cons (pe_tup (pa_cons (pe_tup (pa_cons pe_str pa_nil)) (pa_cons (pe_call gi (hr.mono (by omega)) (by rfl) T.g_lw_int T.F_lw_int.kp T.b_lw_int .nil pass0 (pa_cons (pv 0) (pa_cons (pv 1) (pa_cons (pv 2) (pa_cons (pv 3) (pa_cons pe_int (pa_cons pe_int pa_nil))))))) pa_nil))) pa_nil)))) (pe_op op_mod (pe_op op_fdiv (pv 9) pe_int) pe_int) (fun _ _ => rfl)))
      (pss_one (ps_expr (pe_bm PySem.F.plainAttrs_list PySem.F.slot_list_append PySem.F.type_list_append mt_append (pv 7) (pa_cons (pe_tup (pa_cons pe_str (pa_cons (pv 17) (pa_cons (pe_ix ix_list (pe_lst (pa_cons pe_str (pa_cons pe_str (pa_cons pe_str pa_nil)))) (pe_op op_mod (pe_op op_fdiv (pv 9) pe_int) pe_int) (fun _ _ => rfl)) (pa_cons (pv 18) pa_nil))))) pa_nil)))))) (pss_one (ps_if (PW.pt (pw_and (pt_cmpR op_eq (pv 10) pe_int (nomark _)) (pw_and1 (pt_cmpR op_gt (pe_callB call_len_seq (by rfl) T.g_len boot_len (pa_cons (pv 3) pa_nil)) pe_int (nomark _))))) (pss_one (ps_expr (pe_bm PySem.F.plainAttrs_list PySem.F.slot_list_append PySem.F.type_list_append mt_append (pv 7) (pa_cons (pe_tup (pa_cons pe_str (pa_cons (pe_call go (hr.mono (by omega)) (by rfl) T.g_lw_object T.F_lw_object.kp T.b_lw_object .nil pass0 (pa_cons (pv 0) (pa_cons (pv 1) (pa_cons (pv 2) (pa_cons (pv 3) (pa_cons (pv 4) (pa_cons pe_int pa_nil))))))) (pa_cons (pe_call gi (hr.mono (by omega)) (by rfl) T.g_lw_int T.F_lw_int.kp T.b_lw_int .nil pass0 (pa_cons (pv 0) (pa_cons (pv 1) (pa_cons (pv 2) (pa_cons (pv 3) (pa_cons pe_int (pa_cons pe_int pa_nil))))))) pa_nil)))) pa_nil)))) (pss_one (ps_expr (pe_bm PySem.F.plainAttrs_list PySem.F.slot_list_append PySem.F.type_list_append mt_append (pv 7) (pa_cons (pe_tup (pa_cons pe_str (pa_cons (pe_call gi (hr.mono (by omega)) (by rfl) T.g_lw_int T.F_lw_int.kp T.b_lw_int .nil pass0 (pa_cons (pv 0) (pa_cons (pv 1) (pa_cons (pv 2) (pa_cons (pv 3) (pa_cons (pv 4) (pa_cons pe_int pa_nil))))))) pa_nil))) pa_nil))))))))))))))))))))))))))
      (pss_one (ps_ret (pe_callTy call_tuple_of (by rfl) T.g_tuple boot_tuple (pa_cons (pv 7) pa_nil)))))), ?_⟩
  refine ⟨Nat.zero_le _, fun rw nrw => ?_⟩
  have l0 : Lp K H0 (upd H0 rw (.lst [])) nu c rw li0 lc0 is0 cs0 (is0 ++ fl cs0) many 0 .nil := ⟨ev0.keep (Keep.of (Cm.same_new nrw)) (ev0.g.new nrw), Keep.of (Cm.same_new nrw), nrw, ⟨[], upd_same, .nil, by simp⟩, ne_of_none ev0.ti nrw, ne_of_none ev0.tk nrw, fun x h => .inl h, fun x h => (nomatch h), Nat.zero_le _, Nat.zero_le _, rfl, rfl⟩
  refine ⟨_, rfl, (many : Int), rfl, by omega, by omega, ?_⟩
  rw [Int.toNat_natCast]
  refine for_range (fun i σ H => ∃ (li lc : Addr) (is cs : List Str) (b : Ss) (x8 x9 x10 x11 x12 x13 x14 x15 x16 x17 x18 x19 : Option V), σ = [some (.ref nu), some (.ref c), some (.ref li), some (.ref lc), some (.int level), some (.int many), some (.str mark), some (.ref rw), x8, x9, x10, x11, x12, x13, x14, x15, x16, x17, x18, x19] ∧ (is.length ≤ is0.length + i ∧ cs.length ≤ cs0.length + i) ∧ Lp K H0 H nu c rw li lc is cs (is0 ++ fl cs0) many i b)
    ⟨li0, lc0, is0, cs0, .nil, none, none, none, none, none, none, none, none, none, none, none, none, rfl, ⟨Nat.le_refl _, Nat.le_refl _⟩, l0⟩ (fun i σ H hi hp => ?_) fun σ H hp => ?_
  · obtain ⟨li, lc, is, cs, b, x8, x9, x10, x11, x12, x13, x14, x15, x16, x17, x18, x19, rfl, ⟨hil, hcl⟩, l⟩ := hp
    obtain ⟨dg1, dg2, dg3⟩ := dig i (by omega)
    have hM := succM i many
    have hM2 := Mb_big many
    -- pick, way, name
    refine ⟨_, rfl, _, rfl, nu, c, rfl, l.ev.g, fun H1 p hp g1 k1 => ?_⟩
    have l1 := l.keep k1 g1
    refine ⟨_, rfl, _, _, rfl, rfl, (by show (0 : Int) < 11; decide), ?_⟩
    refine ⟨_, rfl, _, rfl, _, rfl, dg3, _, _, rfl, rfl, Cm.small (by rw [dg1]; omega), ?_⟩
    generalize hnm : mark ++ Str.ofString (toString (0 + (i : Int))) = nm
    have nml : nm.length = mark.length + 1 := by rw [← hnm, str_app_len, dg1]
    have nmo : PyData.strOk nm = true := by
      rw [← hnm]
      exact strOk_app som dg2
    obtain ⟨vs, hr1, hv1, hl1⟩ := l1.rows
    have callE : ∀ {H2 : Hp} {lv : Int} {dd : Nat}, Ev K H2 nu c li lc is cs → dd < 3 → ∀ {Q2 : VK}, (∀ (H' : Hp) (v : V) (x : Pt.E), G K H' nu c → Keep c H2 H' → Rp K H' v x.d → OkE (is ++ fl cs) dd x → Q2 v H') →
      spE K 3 ([.ref nu, .ref c, .ref li, .ref lc, .int lv, .int (dd : Nat)] ++ []) H2 Q2 E0 := fun {H2 lv dd} e2 hd {Q2} h => ⟨nu, c, li, lc, is, cs, lv, dd, rfl, hd, e2, h⟩
    -- way < 2
    refine ⟨_, rfl, _, _, rfl, rfl, _, rfl, Cm.itD (fun _ => ?_) fun _ => ?_⟩
    · refine ⟨_, rfl, .inl ⟨rfl, _, SqL.of hr1⟩, _, rfl, _, rfl, _, rfl, _, rfl, _, rfl, _, rfl, callE (dd := 2) l1.ev (by decide) fun H2 v2 e2 g2 k2 r2 o2 => ⟨Cm.small (by show 4 ≤ 100000; decide), fun p3 np3 => ?_⟩⟩
      have l2 := l1.keep k2 g2
      have hr2 := rows_stay g1 k2 hr1 (dsRef hv1)
      have hv2 := hv1.keep (g1.tups k2)
      have s3 := Cm.same_new (o := .tup [.str "let", .str nm, .str "int", v2]) np3
      have osz := o2.sz
      have odp := o2.dp
      rw [le2] at osz
      have bsz := l.sz
      have l3 := (l2.same s3).push (z := i + 1) (s := .letS nm "int" e2) (s3 _ _ hr2) (hv2.keep (Same.tups s3)) (by omega) (made np3 (.cons (.str _) (.cons (.str _) (.cons (.str _) (.cons r2 .nil)))))
        (us_cons (.inr (.inr (List.mem_singleton.mpr rfl))) (l.eu o2)) (by show e2.dep + 1 ≤ many + 5; omega) (by show b.sz + (e2.sz + 1) ≤ _; omega) (lay4 (tx (by decide +kernel)) (tx nmo) (tx (by decide +kernel)) o2.lay) o2.wf
      refine ⟨rw, vs, _, rfl, rfl, s3 _ _ hr2, Cm.smallL (by omega), ?_⟩
      refine ⟨_, rfl, _, rfl, Cm.small (by show 1 ≤ 100000; decide), fun p4 np4 => ?_⟩
      have l4 := l3.same (Cm.same_new (o := .lst [.str nm]) np4)
      refine ⟨li, p4, _, _, rfl, rfl, l4.ev.ti, upd_same, Cm.small (by rw [List.length_map]; simp; omega), fun p5 np5 => ?_⟩
      exact ⟨p5, lc, is ++ [nm], cs, _, _, _, _, _, _, _, _, _, _, _, _, _, rfl, ⟨by rw [List.length_append, List.length_singleton]; omega, by omega⟩, l4.ints np5 (by rw [List.map_append]; rfl) (.inr snoc_let) nmo⟩
    -- way == 2
    refine ⟨_, rfl, rfl, _, rfl, Cm.itEI (fun _ => ?_) fun _ => ?_⟩
    · refine ⟨_, rfl, .inl ⟨rfl, _, SqL.of hr1⟩, _, rfl, _, rfl, _, rfl, _, rfl, _, rfl, _, rfl, callE (dd := 2) l1.ev (by decide) fun H2 v2 e2 g2 k2 r2 o2 => ⟨Cm.small (by show 4 ≤ 100000; decide), fun p3 np3 => ?_⟩⟩
      have l2 := l1.keep k2 g2
      have hr2 := rows_stay g1 k2 hr1 (dsRef hv1)
      have hv2 := hv1.keep (g1.tups k2)
      have s3 := Cm.same_new (o := .tup [.str "let", .str nm, .str "Cell", v2]) np3
      have osz := o2.sz
      have odp := o2.dp
      rw [le2] at osz
      have bsz := l.sz
      have l3 := (l2.same s3).push (z := i + 1) (s := .letS nm "Cell" e2) (s3 _ _ hr2) (hv2.keep (Same.tups s3)) (by omega) (made np3 (.cons (.str _) (.cons (.str _) (.cons (.str _) (.cons r2 .nil)))))
        (us_cons (.inr (.inr (List.mem_singleton.mpr rfl))) (l.eu o2)) (by show e2.dep + 1 ≤ many + 5; omega) (by show b.sz + (e2.sz + 1) ≤ _; omega) (lay4 (tx (by decide +kernel)) (tx nmo) (tx (by decide +kernel)) o2.lay) o2.wf
      refine ⟨rw, vs, _, rfl, rfl, s3 _ _ hr2, Cm.smallL (by omega), ?_⟩
      refine ⟨_, rfl, _, rfl, Cm.small (by show 1 ≤ 100000; decide), fun p4 np4 => ?_⟩
      have l4 := l3.same (Cm.same_new (o := .lst [.str nm]) np4)
      refine ⟨lc, p4, _, _, rfl, rfl, l4.ev.tk, upd_same, Cm.small (by rw [List.length_map]; simp; omega), fun p5 np5 => ?_⟩
      exact ⟨li, p5, is, cs ++ [nm], _, _, _, _, _, _, _, _, _, _, _, _, _, rfl, ⟨by omega, by rw [List.length_append, List.length_singleton]; omega⟩, l4.cells np5 (by rw [List.map_append]; rfl) (.inr snoc_let) nmo⟩
    -- way < 5 and len(ints) > 0
    refine (fun hE => ⟨_, rfl, _, _, rfl, rfl, _, rfl, Cm.itD (fun _ => ⟨_, rfl, li, _, rfl, .inl l1.ev.i, _, _, rfl, rfl, _, rfl, Cm.itD (fun n3 => ?_) fun _ => hE⟩) fun _ => hE⟩) ?_
    rotate_left
    · rw [List.length_map] at n3
      obtain ⟨x, hx, e⟩ := Cm.at_str (ws := is) (i := p / 11 % ((is.map V.str).length : Int)) (by rw [List.length_map]; exact Int.emod_nonneg _ (by omega)) (by rw [List.length_map]; exact Int.emod_lt_of_pos _ n3)
      refine ⟨_, rfl, .inl ⟨rfl, _, SqL.of hr1⟩, _, rfl, _, rfl, _, _, rfl, rfl, ⟨by decide, by decide⟩, .inl ⟨_, rfl, _, rfl, li, _, rfl, .inl l1.ev.i, _, _, rfl, rfl, (by rw [List.length_map]; exact n3), li, _, _, .str x, rfl, rfl, l1.ev.i, e, ?_⟩⟩
      refine ⟨_, rfl, _, rfl, _, rfl, _, rfl, _, rfl, callE (dd := 2) l1.ev (by decide) fun H2 v2 e2 g2 k2 r2 o2 => ⟨Cm.small (by show 3 ≤ 100000; decide), fun p3 np3 => ?_⟩⟩
      have l2 := l1.keep k2 g2
      have hr2 := rows_stay g1 k2 hr1 (dsRef hv1)
      have hv2 := hv1.keep (g1.tups k2)
      have s3 := Cm.same_new (o := .tup [.str "set", .str x, v2]) np3
      have osz := o2.sz
      have odp := o2.dp
      rw [le2] at osz
      have bsz := l.sz
      have l3 := (l2.same s3).push (z := i + 1) (s := .setS x e2) (s3 _ _ hr2) (hv2.keep (Same.tups s3)) (by omega) (made np3 (.cons (.str _) (.cons (.str _) (.cons r2 .nil))))
        (us_cons ((l.nm x (List.mem_append_left _ hx)).elim .inl fun h => .inr (.inl h)) (l.eu o2)) (by show e2.dep + 1 ≤ many + 5; omega) (by show b.sz + (e2.sz + 1) ≤ _; omega) (lay3 (tx (by decide +kernel)) (tx (l.ev.so x (List.mem_append_left _ hx))) o2.lay) o2.wf
      refine ⟨rw, vs, _, rfl, rfl, s3 _ _ hr2, Cm.smallL (by omega), ?_⟩
      exact ⟨li, lc, is, cs, _, _, _, _, _, _, _, _, _, _, _, _, _, rfl, ⟨by omega, by omega⟩, l3⟩
    -- way == 5 and len(own) > 0
    refine withRest (H1 := H1) (fun hE => ⟨_, rfl, rfl, _, rfl, Cm.itEI (fun _ => ⟨_, rfl, lc, rfl, ⟨_, l1.ev.k⟩, fun D hD => comp_own l1.ev.tk hD (by omega) (fun _ => rfl) (fun _ => rfl) fun H2 s2 hD2 => ⟨D, _, rfl, .inl (SqL.of hD2), _, _, rfl, rfl, _, rfl, Cm.itD (fun n3 => ?_) fun _ => hE H2 s2⟩⟩) fun _ => hE H1 (Same.refl H1)⟩) ?_
    · rw [List.length_map] at n3
      obtain ⟨x, hx, e⟩ := Cm.at_str (ws := fl cs) (i := p / 11 % (((fl cs).map V.str).length : Int)) (by rw [List.length_map]; exact Int.emod_nonneg _ (by omega)) (by rw [List.length_map]; exact Int.emod_lt_of_pos _ n3)
      refine ⟨_, rfl, lc, rfl, ⟨_, SqL.of (s2 _ _ l1.ev.tk)⟩, fun D2 nD2 => comp_own (s2 _ _ l1.ev.tk) nD2 (by omega) (fun _ => rfl) (fun _ => rfl) fun H3 s3 hD3 => ?_⟩
      have s23 := s2.trans s3
      have lA := l1.same s23
      have hrA := s23 _ _ hr1
      have hvA := hv1.keep (Same.tups s23)
      refine ⟨_, rfl, .inl ⟨rfl, _, SqL.of hrA⟩, _, rfl, _, rfl, _, _, rfl, rfl, ⟨by decide, by decide⟩, .inl ⟨_, rfl, _, rfl, D2, _, rfl, .inl (SqL.of hD3), _, _, rfl, rfl, (by rw [List.length_map]; exact n3), D2, _, _, .str x, rfl, rfl, SqL.of hD3, e, ?_⟩⟩
      refine ⟨_, rfl, _, rfl, _, rfl, _, rfl, _, rfl, callE (dd := 2) lA.ev (by decide) fun H4 v2 e2 g2 k2 r2 o2 => ⟨Cm.small (by show 3 ≤ 100000; decide), fun p3 np3 => ?_⟩⟩
      have l2 := lA.keep k2 g2
      have hr2 := rows_stay lA.ev.g k2 hrA (dsRef hvA)
      have hv2 := hvA.keep (lA.ev.g.tups k2)
      have s3 := Cm.same_new (o := .tup [.str "set", .str x, v2]) np3
      have osz := o2.sz
      have odp := o2.dp
      rw [le2] at osz
      have bsz := l.sz
      have hxc := fl_sub hx
      have l3 := (l2.same s3).push (z := i + 1) (s := .setS x e2) (s3 _ _ hr2) (hv2.keep (Same.tups s3)) (by omega) (made np3 (.cons (.str _) (.cons (.str _) (.cons r2 .nil))))
        (us_cons ((l.nm x (List.mem_append_right _ hx)).elim .inl fun h => .inr (.inl h)) (l.eu o2)) (by show e2.dep + 1 ≤ many + 5; omega) (by show b.sz + (e2.sz + 1) ≤ _; omega) (lay3 (tx (by decide +kernel)) (tx (l.ev.so x (List.mem_append_right _ hxc))) o2.lay) o2.wf
      refine ⟨rw, vs, _, rfl, rfl, s3 _ _ hr2, Cm.smallL (by omega), ?_⟩
      exact ⟨li, lc, is, cs, _, _, _, _, _, _, _, _, _, _, _, _, _, rfl, ⟨by omega, by omega⟩, l3⟩
    intro H2 s2
    replace l1 := l1.same s2
    replace hv1 := hv1.keep (Same.tups s2)
    replace hr1 := s2 _ _ hr1
    replace g1 := g1.same s2
    clear s2
    have bsz := l.sz
    have hCb : Mb many = 200 + 2 * Cb (many - 2) := rfl
    -- way == 6 and many > 1
    refine (fun hE => ⟨_, rfl, rfl, _, rfl, Cm.itEI (fun _ => ⟨_, rfl, _, _, rfl, rfl, _, rfl, Cm.itD (fun n3 => ?_) fun _ => hE⟩) fun _ => hE⟩) ?_
    rotate_left
    · obtain ⟨n2, hn2⟩ : ∃ n2, many = n2 + 2 := ⟨many - 2, by omega⟩
      have en2 : (many : Int) - 2 = (n2 : Int) := by omega
      have em2 : many - 2 = n2 := by omega
      rw [em2] at hCb
      refine ⟨_, rfl, _, rfl, _, rfl, _, rfl, _, rfl, _, rfl, _, _, rfl, rfl, _, rfl, _, _, rfl, rfl, Cm.small (by show nm.length + 1 ≤ 100000; omega), nu, c, li, lc, is, cs, level, n2, nm ++ "a", by rw [← en2] <;> rfl, by omega, l1.ev, by rw [str_app_len]; show nm.length + 1 + 2 * n2 ≤ 90; omega, strOk_app nmo (by decide +kernel), by omega, by omega, fun H3 v3 b3 g3 k3 r3 o3 => ?_⟩
      have lA := l1.keep k3 g3
      have hrA := rows_stay g1 k3 hr1 (dsRef hv1)
      have hvA := hv1.keep (g1.tups k3)
      refine ⟨_, rfl, _, rfl, _, rfl, _, rfl, _, rfl, _, rfl, _, _, rfl, rfl, Cm.small (by show 2 ≤ 100000; decide), fun p4 np4 => ?_⟩
      have s4 := Cm.same_new (o := .lst [.int 0, .int ((many : Int) - 2)]) np4
      obtain ⟨n4, hn4, e4⟩ : ∃ n4, n4 ≤ n2 ∧ atI [V.int 0, V.int ((many : Int) - 2)] (p / 11 % 2) = some (.int ((n4 : Nat) : Int)) := by
        rcases (by omega : p / 11 % 2 = 0 ∨ p / 11 % 2 = 1) with h | h
        · exact ⟨0, Nat.zero_le _, by rw [h]; rfl⟩
        · exact ⟨n2, Nat.le_refl _, by rw [h, en2]; rfl⟩
      have lB := lA.same s4
      have hC4 : Cb n4 ≤ Cb n2 := by
        rcases (by omega : p / 11 % 2 = 0 ∨ p / 11 % 2 = 1) with h | h
        · rw [h] at e4
          have e5 : (0 : Int) = (n4 : Int) := V.int.inj (Option.some.inj e4)
          have e6 : n4 = 0 := by omega
          rw [e6]
          exact Nat.zero_le _
        · rw [h] at e4
          have e5 : (many : Int) - 2 = (n4 : Int) := V.int.inj (Option.some.inj e4)
          have e6 : n4 = n2 := by omega
          rw [e6]
          exact Nat.le_refl _
      refine ⟨_, rfl, _, _, rfl, rfl, ⟨by decide, by decide⟩, _, _, rfl, rfl, (by show (0 : Int) < 2; decide), p4, _, _, .int (n4 : Int), rfl, rfl, Cm.sql_new, e4, ?_⟩
      refine ⟨_, rfl, _, _, rfl, rfl, Cm.small (by show nm.length + 1 ≤ 100000; omega), nu, c, li, lc, is, cs, level, n4, nm ++ "b", rfl, by omega, lB.ev, by rw [str_app_len]; show nm.length + 1 + 2 * n4 ≤ 90; omega, strOk_app nmo (by decide +kernel), by omega, by omega, fun H5 v5 b5 g5 k5 r5 o5 => ?_⟩
      have lC := lB.keep k5 g5
      have hrC := rows_stay lB.ev.g k5 (s4 _ _ hrA) (dsRef (hvA.keep (Same.tups s4)))
      have hvC := (hvA.keep (Same.tups s4)).keep (lB.ev.g.tups k5)
      have r3C := lB.ev.g.rp k5 (r3.keep (Same.tups s4))
      refine ⟨_, rfl, .inl ⟨rfl, _, SqL.of hrC⟩, _, rfl, _, rfl, _, rfl, _, rfl, _, rfl, callE (dd := 2) lC.ev (by decide) fun H6 v6 e6 g6 k6 r6 o6 => ?_⟩
      have lD := lC.keep k6 g6
      have hrD := rows_stay lC.ev.g k6 hrC (dsRef hvC)
      have hvD := hvC.keep (lC.ev.g.tups k6)
      refine ⟨_, rfl, _, rfl, Cm.small (by show 4 ≤ 100000; decide), fun p7 np7 => ?_⟩
      have s7 := Cm.same_new (o := .tup [.str "if", v6, v3, v5]) np7
      have osz := o6.sz
      have odp := o6.dp
      rw [le2] at osz
      have o3s := o3.sz
      have o5s := o5.sz
      have o3d := o3.dp
      have o5d := o5.dp
      have l3 := (lD.same s7).push (z := i + 1) (s := .ifS e6 b3 b5) (s7 _ _ hrD) (hvD.keep (Same.tups s7)) (by omega) (made np7 (.cons (.str _) (.cons r6 (.cons (lC.ev.g.rp k6 r3C) (.cons (lC.ev.g.rp k6 r5) .nil)))))
        (us_app (l.eu o6) (us_app (l.bu o3 fun x h => List.mem_append_left _ h) (l.bu o5 fun x h => List.mem_append_right _ h))) (by show max e6.dep (max b3.dep b5.dep) + 1 ≤ many + 5; omega)
        (by have := ifS_sz e6 b3 b5; omega) (lay4 (tx (by decide +kernel)) o6.lay o3.lay o5.lay) (and2 o6.wf (and2 o3.wf o5.wf))
      refine ⟨rw, vs, _, rfl, rfl, s7 _ _ hrD, Cm.smallL (by omega), ?_⟩
      exact ⟨li, lc, is, cs, _, _, _, _, _, _, _, _, _, _, _, _, _, rfl, ⟨by omega, by omega⟩, l3⟩
    -- way == 7 and many > 1
    refine (fun hE => ⟨_, rfl, rfl, _, rfl, Cm.itEI (fun _ => ⟨_, rfl, _, _, rfl, rfl, _, rfl, Cm.itD (fun n3 => ?_) fun _ => hE⟩) fun _ => hE⟩) ?_
    rotate_left
    · obtain ⟨n2, hn2⟩ : ∃ n2, many = n2 + 2 := ⟨many - 2, by omega⟩
      have en2 : (many : Int) - 2 = (n2 : Int) := by omega
      have em2 : many - 2 = n2 := by omega
      rw [em2] at hCb
      -- rows.append(("let", name, "int", ("int", 0)))
      refine ⟨_, rfl, .inl ⟨rfl, _, SqL.of hr1⟩, _, rfl, Cm.small (by show 2 ≤ 100000; decide), fun p3 np3 => ⟨Cm.small (by show 4 ≤ 100000; decide), fun p4 np4 => ?_⟩⟩
      have s3 := Cm.same_new (o := .tup [.str "int", .int 0]) np3
      have s4 := s3.trans (Cm.same_new (o := .tup [.str "let", .str nm, .str "int", .ref p3]) np4)
      have lA := (l1.same s4).push (z := i + 1) (s := .letS nm "int" (.int 0)) (s4 _ _ hr1) (hv1.keep (Same.tups s4)) (by omega) (made np4 (.cons (.str _) (.cons (.str _) (.cons (.str _) (.cons (made np3 (.cons (.str _) (.cons (.int _) .nil))) .nil)))))
        (us_cons (.inr (.inr (List.mem_singleton.mpr rfl))) us_nil) (by show 0 + 1 ≤ many + 5; omega) (by show b.sz + (1 + 1) ≤ _; omega) (lay4 (tx (by decide +kernel)) (tx nmo) (tx (by decide +kernel)) (lay2 (tx (by decide +kernel)) layI)) rfl
      refine ⟨rw, vs, _, rfl, rfl, s4 _ _ hr1, Cm.smallL (by omega), ?_⟩
      have hrA : (upd (upd (upd H2 p3 (.tup [.str "int", .int 0])) p4 (.tup [.str "let", .str nm, .str "int", .ref p3])) rw (.lst (vs ++ [.ref p4]))) rw = some (.lst (vs ++ [.ref p4])) := upd_same
      obtain ⟨vs', hrA', hvA, _⟩ := lA.rows
      obtain rfl : vs' = vs ++ [.ref p4] := (HO.lst.inj (Option.some.inj (hrA.symm.trans hrA'))).symm
      -- inner
      refine ⟨_, rfl, _, rfl, _, rfl, _, rfl, _, rfl, _, _, rfl, _, rfl, _, _, rfl, rfl, _, rfl, _, _, rfl, rfl, Cm.small (by show nm.length + 1 ≤ 100000; omega), nu, c, li, lc, is, cs, _, n2, nm ++ "w", by rw [← en2] <;> rfl, by omega, lA.ev, by rw [str_app_len]; show nm.length + 1 + 2 * n2 ≤ 90; omega, strOk_app nmo (by decide +kernel), by omega, by omega, fun H5 v5 b5 g5 k5 r5 o5 => ?_⟩
      have lB := lA.keep k5 g5
      have hrB := rows_stay lA.ev.g k5 hrA (dsRef hvA)
      have hvB := hvA.keep (lA.ev.g.tups k5)
      -- onward
      refine ⟨_, rfl, _, rfl, Cm.small (by show 2 ≤ 100000; decide), fun p6 np6 => ⟨Cm.small (by show 2 ≤ 100000; decide), fun p7 np7 => ⟨Cm.small (by show 3 ≤ 100000; decide), fun p8 np8 => ⟨Cm.small (by show 3 ≤ 100000; decide), fun p9 np9 => ?_⟩⟩⟩⟩
      have s9 := (((Cm.same_new np6).trans (Cm.same_new np7)).trans (Cm.same_new np8)).trans (Cm.same_new (o := .tup [.str "set", .str nm, .ref p8]) np9)
      have r6 := made (K := K) np6 (.cons (.str "name") (.cons (.str nm) .nil))
      have r7 := made (K := K) np7 (.cons (.str "int") (.cons (.int 1) .nil))
      have r8 := made (K := K) np8 (.cons (.str "add") (.cons (r6.keep (Same.tups (Cm.same_new np7))) (.cons r7 .nil)))
      have r9 := made (K := K) np9 (.cons (.str "set") (.cons (.str nm) (.cons r8 .nil)))
      have lC := lB.same s9
      have hrC := s9 _ _ hrB
      have hvC := hvB.keep (Same.tups s9)
      have r5C := r5.keep (Same.tups s9)
      -- rows.append(("while", ..))
      refine ⟨_, rfl, .inl ⟨rfl, _, SqL.of hrC⟩, _, rfl, Cm.small (by show 2 ≤ 100000; decide), fun p10 np10 => ?_⟩
      refine ⟨_, rfl, _, _, rfl, rfl, ⟨by decide, by decide⟩, _, _, rfl, rfl, (by show (0 : Int) < 3; decide), _, _, rfl, rfl, Cm.small (by show 2 ≤ 100000; decide), fun p11 np11 => ⟨Cm.small (by show 3 ≤ 100000; decide), fun p12 np12 => ?_⟩⟩
      have s12 := ((Cm.same_new np10).trans (Cm.same_new np11)).trans (Cm.same_new (o := .tup [.str "less", .ref p10, .ref p11]) np12)
      have r10 := made (K := K) np10 (.cons (.str "name") (.cons (.str nm) .nil))
      have r11 := made (K := K) np11 (.cons (.str "int") (.cons (.int (1 + p / 11 % 3)) .nil))
      have r12 := made (K := K) np12 (.cons (.str "less") (.cons (r10.keep (Same.tups (Cm.same_new np11))) (.cons r11 .nil)))
      refine ⟨_, rfl, _, rfl, Cm.small (by show 1 ≤ 100000; decide), fun p13 np13 => ?_⟩
      have s13 := s12.trans (Cm.same_new (o := .tup [.ref p9]) np13)
      have r13 := made (K := K) np13 (.cons (r9.keep (Same.tups s12)) .nil)
      have o5s := o5.sz
      have o5d := o5.dp
      refine cat_rp (r5C.keep (Same.tups s13)) r13 (by have := szB b5; have := cb8 n2 (by omega); show b5.ds.length + 1 ≤ 10000000; omega) fun v14 H14 s14 r14 => ⟨Cm.small (by show 3 ≤ 100000; decide), fun p15 np15 => ?_⟩
      have s15 := (s13.trans s14).trans (Cm.same_new (o := .tup [.str "while", .ref p12, v14]) np15)
      have s1314 := (Cm.same_new (o := .tup [.ref p9]) np13).trans s14
      refine ⟨rw, _, _, rfl, rfl, s15 _ _ hrC, Cm.smallL (by rw [List.length_append, List.length_singleton]; omega), ?_⟩
      have l3 := (lC.same s15).push (z := i + 1) (s := .whileS (.plain "less" (.cons (.name nm) (.cons (.int (1 + p / 11 % 3)) .nil))) (b5.app (.cons (.setS nm (.plain "add" (.cons (.name nm) (.cons (.int 1) .nil)))) .nil))) (s15 _ _ hrC) (hvC.keep (Same.tups s15)) (by rw [List.length_append, List.length_singleton]; omega)
        (made np15 (.cons (.str _) (.cons (r12.keep (Same.tups s1314)) (.cons (by rw [Ss.app_ds]; exact r14) .nil))))
        (us_app (us_cons (.inr (.inl snoc_let)) us_nil) (by
          rw [Ss.app_uses]
          exact us_app (lA.bu o5 fun x h => by
            show x ∈ (b5.app _).lets
            rw [Ss.app_lets]
            exact List.mem_append_left _ h) (us_cons (.inr (.inl snoc_let)) (us_cons (.inr (.inl snoc_let)) us_nil))))
        (by
          show max (max 0 (max 0 0) + 1) (b5.app _).dep + 1 ≤ many + 5
          rw [Ss.app_dep]
          show max (max 0 (max 0 0) + 1) (max b5.dep (max (max 0 (max 0 0) + 1 + 1) 0)) + 1 ≤ many + 5
          omega)
        (by
          rw [Ss.app_sz]
          show b.sz + (1 + 1 + 0) + (1 + (1 + 0) + 1 + (b5.app _).sz + 2) ≤ _
          rw [Ss.app_sz]
          show b.sz + (1 + 1 + 0) + (1 + (1 + 0) + 1 + (b5.sz + (1 + (1 + 0) + 1 + 1 + 0)) + 2) ≤ _
          omega)
        (lay3 (tx (by decide +kernel)) (lay3 (tx (by decide +kernel)) (lay2 (tx (by decide +kernel)) (tx nmo)) (lay2 (tx (by decide +kernel)) layI)) (lay_snoc o5.lay (lay3 (tx (by decide +kernel)) (tx nmo) (lay3 (tx (by decide +kernel)) (lay2 (tx (by decide +kernel)) (tx nmo)) (lay2 (tx (by decide +kernel)) layI))))) (wfW (and2 (goodW.in (n := 2) (x := "less") (by decide +kernel)) rfl) (by rw [Ss.app_wf]; exact and2 o5.wf (wfSs (show (S.setS nm (.plain "add" (.cons (.name nm) (.cons (.int 1) .nil)))).wf = true from and2 (goodW.in (n := 2) (x := "add") (by decide +kernel)) rfl) rfl)))
      exact ⟨li, lc, is, cs, _, _, _, _, _, _, _, _, _, _, _, _, _, rfl, ⟨by omega, by omega⟩, l3⟩
    -- way == 8
    refine ⟨_, rfl, rfl, _, rfl, Cm.itEI (fun _ => ?_) fun _ => ?_⟩
    · refine ⟨_, rfl, .inl ⟨rfl, _, SqL.of hr1⟩, _, rfl, _, rfl, _, rfl, _, rfl, _, rfl, callE (dd := 2) l1.ev (by decide) fun H4 v2 e2 g2 k2 r2 o2 => ⟨Cm.small (by show 2 ≤ 100000; decide), fun p3 np3 => ?_⟩⟩
      have l2 := l1.keep k2 g2
      have hr2 := rows_stay g1 k2 hr1 (dsRef hv1)
      have hv2 := hv1.keep (g1.tups k2)
      have s3 := Cm.same_new (o := .tup [.str "do", v2]) np3
      have osz := o2.sz
      have odp := o2.dp
      rw [le2] at osz
      have l3 := (l2.same s3).push (z := i + 1) (s := .doS e2) (s3 _ _ hr2) (hv2.keep (Same.tups s3)) (by omega) (made np3 (.cons (.str _) (.cons r2 .nil)))
        (l.eu o2) (by show e2.dep + 1 ≤ many + 5; omega) (by show b.sz + (e2.sz + 1) ≤ _; omega) (lay2 (tx (by decide +kernel)) o2.lay) o2.wf
      refine ⟨rw, vs, _, rfl, rfl, s3 _ _ hr2, Cm.smallL (by omega), ?_⟩
      exact ⟨li, lc, is, cs, _, _, _, _, _, _, _, _, _, _, _, _, _, rfl, ⟨by omega, by omega⟩, l3⟩
    -- way > 8 and level > 3
    refine (fun hE => ⟨_, rfl, _, _, rfl, rfl, _, rfl, Cm.itD (fun _ => ⟨_, rfl, _, _, rfl, rfl, _, rfl, Cm.itD (fun n3 => ?_) fun _ => hE⟩) fun _ => hE⟩) ?_
    rotate_left
    · refine ⟨_, rfl, _, rfl, _, rfl, _, rfl, callE (dd := 1) l1.ev (by decide) fun H3 v3 e3 g3 k3 r3 o3 => ?_⟩
      have lA := l1.keep k3 g3
      have hrA := rows_stay g1 k3 hr1 (dsRef hv1)
      have hvA := hv1.keep (g1.tups k3)
      refine ⟨Cm.small (by decide), fun p4 np4 => ?_⟩
      have s4 := Cm.same_new (o := .tup []) np4
      have r4 := made (K := K) np4 .nil
      have lB := lA.same s4
      refine ⟨_, rfl, _, rfl, _, rfl, _, rfl, callE (dd := 1) lB.ev (by decide) fun H5 v5 e5 g5 k5 r5 o5 => ⟨Cm.small (by show 1 ≤ 100000; decide), fun p6 np6 => ?_⟩⟩
      have s6 := Cm.same_new (o := .tup [v5]) np6
      have r6 := made (K := K) np6 (.cons r5 .nil)
      have lC := (lB.keep k5 g5).same s6
      refine ⟨Cm.small (by decide), fun p7 np7 => ?_⟩
      have s7 := Cm.same_new (o := .tup [.str "nil"]) np7
      have r7 := made (K := K) np7 (.cons (.str "nil") .nil)
      have lD := lC.same s7
      refine ⟨_, rfl, _, rfl, _, rfl, _, rfl, callE (dd := 1) lD.ev (by decide) fun H8 v8 e8 g8 k8 r8 o8 => ⟨Cm.small (by show 2 ≤ 100000; decide), fun p9 np9 => ?_⟩⟩
      have s9 := Cm.same_new (o := .tup [.ref p7, v8]) np9
      have r9 := made (K := K) np9 (.cons (lD.ev.g.rp k8 r7) (.cons r8 .nil))
      have lE := (lD.keep k8 g8).same s9
      refine ⟨Cm.small (by show 3 ≤ 100000; decide), fun p10 np10 => ?_⟩
      have s10 := Cm.same_new (o := .lst [.ref p4, .ref p6, .ref p9]) np10
      have lF := lE.same s10
      -- all that was made, at the last heap
      have hrB := s4 _ _ hrA
      have hvB := hvA.keep (Same.tups s4)
      have hrC := s6 _ _ (rows_stay lB.ev.g k5 hrB (dsRef hvB))
      have hvC := (hvB.keep (lB.ev.g.tups k5)).keep (Same.tups s6)
      have hrD := s7 _ _ hrC
      have hvD := hvC.keep (Same.tups s7)
      have hrF := s10 _ _ (s9 _ _ (rows_stay lD.ev.g k8 hrD (dsRef hvD)))
      have hvF := ((hvD.keep (lD.ev.g.tups k8)).keep (Same.tups s9)).keep (Same.tups s10)
      have up : ∀ {v : V} {d : PyData}, Rp K (upd H5 p6 (.tup [v5])) v d → Rp K (upd (upd H8 p9 (.tup [.ref p7, v8])) p10 (.lst [.ref p4, .ref p6, .ref p9])) v d := fun r => ((lD.ev.g.rp k8 (r.keep (Same.tups s7))).keep (Same.tups s9)).keep (Same.tups s10)
      have r4F := up ((lB.ev.g.rp k5 r4).keep (Same.tups s6))
      have r6F := up r6
      have r9F := r9.keep (Same.tups s10)
      have r3F := up ((lB.ev.g.rp k5 (r3.keep (Same.tups s4))).keep (Same.tups s6))
      have o3s := o3.sz
      have o3d := o3.dp
      have o5s := o5.sz
      have o5d := o5.dp
      have o8s := o8.sz
      have o8d := o8.dp
      rw [le1] at o3s o5s o8s
      obtain ⟨ag, pg, fw, eg, ef, rg, ug, dg, zg, yg, yf, wg⟩ : ∃ (ag : Es) (pg : Addr) (fw : Str), atI [V.ref p4, .ref p6, .ref p9] (p / 11 % 3) = some (.ref pg) ∧ atI ((["get", "put", "both"] : List Str).map V.str) (p / 11 % 3) = some (.str fw) ∧
          Rp K (upd (upd H8 p9 (.tup [.ref p7, v8])) p10 (.lst [.ref p4, .ref p6, .ref p9])) (.ref pg) (.tuple ag.ds) ∧ (∀ x ∈ ag.uses, x ∈ is ++ fl cs) ∧ ag.dep ≤ 4 ∧ ag.sz ≤ 50 ∧ (PyData.tuple ag.ds).canLay0 = true ∧ PyData.strOk fw = true ∧ ag.wf = true := by
        rcases (by omega : p / 11 % 3 = 0 ∨ p / 11 % 3 = 1 ∨ p / 11 % 3 = 2) with h | h | h
        · exact ⟨.nil, p4, "get", by rw [h]; rfl, by rw [h]; rfl, r4F, mem_nil, Nat.zero_le _, Nat.zero_le _, lay0, by decide +kernel, rfl⟩
        · exact ⟨.cons e5 .nil, p6, "put", by rw [h]; rfl, by rw [h]; rfl, r6F, mem_app o5.us mem_nil, by show max e5.dep 0 ≤ 4; omega, by show e5.sz + 0 ≤ 50; omega, lay1 o5.lay, by decide +kernel, and2 o5.wf rfl⟩
        · exact ⟨.cons (.plain "nil" .nil) (.cons e8 .nil), p9, "both", by rw [h]; rfl, by rw [h]; rfl, r9F, mem_app mem_nil (mem_app o8.us mem_nil), by show max (0 + 1) (max e8.dep 0) ≤ 4; omega, by show 0 + 1 + (e8.sz + 0) ≤ 50; omega, lay2 (lay1 (tx (by decide +kernel))) o8.lay, by decide +kernel, and2 (by decide +kernel) (and2 o8.wf rfl)⟩
      refine ⟨_, rfl, _, _, rfl, rfl, ⟨by decide, by decide⟩, _, _, rfl, rfl, (by show (0 : Int) < 3; decide), p10, _, _, .ref pg, rfl, rfl, Cm.sql_new, eg, ?_⟩
      -- rows.append(("fork", ..))
      refine ⟨_, rfl, .inl ⟨rfl, _, SqL.of hrF⟩, _, rfl, Cm.small (by decide), fun p11 np11 => ?_⟩
      have s11 := Cm.same_new (o := .lst ((["get", "put", "both"] : List Str).map V.str)) np11
      refine ⟨_, rfl, _, _, rfl, rfl, ⟨by decide, by decide⟩, _, _, rfl, rfl, (by show (0 : Int) < 3; decide), p11, _, _, .str fw, rfl, rfl, Cm.sql_new, ef, ?_⟩
      refine ⟨_, rfl, Cm.small (by show 4 ≤ 100000; decide), fun p12 np12 => ?_⟩
      have s12 := s11.trans (Cm.same_new (o := .tup [.str "fork", v3, .str fw, .ref pg]) np12)
      have l3 := (lF.same s12).push (z := i + 1) (s := .fork e3 fw ag) (s12 _ _ hrF) (hvF.keep (Same.tups s12)) (by omega) (made np12 (.cons (.str _) (.cons (r3F.keep (Same.tups s11)) (.cons (.str _) (.cons (rg.keep (Same.tups s11)) .nil)))))
        (us_app (l.eu o3) fun x hx => (l.nm x (ug x hx)).elim .inl fun h => .inr (.inl h)) (by show max e3.dep ag.dep + 1 ≤ many + 5; omega) (by show b.sz + (e3.sz + ag.sz + 1) ≤ _; omega) (lay4 (tx (by decide +kernel)) o3.lay (tx yf) yg) (and2 o3.wf wg)
      refine ⟨rw, vs, _, rfl, rfl, s12 _ _ hrF, Cm.smallL (by omega), ?_⟩
      exact ⟨li, lc, is, cs, _, _, _, _, _, _, _, _, _, _, _, _, _, rfl, ⟨by omega, by omega⟩, l3⟩
    -- way == 9 and len(cells) > 0
    refine (fun hE => ⟨_, rfl, rfl, _, rfl, Cm.itEI (fun _ => ⟨_, rfl, lc, _, rfl, .inl l1.ev.k, _, _, rfl, rfl, _, rfl, Cm.itD (fun n3 => ?_) fun _ => hE⟩) fun _ => hE⟩) ?_
    · refine ⟨_, rfl, .inl ⟨rfl, _, SqL.of hr1⟩, _, rfl, _, rfl, _, rfl, _, rfl, _, rfl, callE (dd := 2) l1.ev (by decide) fun H4 v2 e2 g2 k2 r2 o2 => ⟨Cm.small (by show 2 ≤ 100000; decide), fun p3 np3 => ?_⟩⟩
      have l2 := l1.keep k2 g2
      have hr2 := rows_stay g1 k2 hr1 (dsRef hv1)
      have hv2 := hv1.keep (g1.tups k2)
      have s3 := Cm.same_new (o := .tup [.str "print", v2]) np3
      have osz := o2.sz
      have odp := o2.dp
      rw [le2] at osz
      have l3 := (l2.same s3).push (z := i + 1) (s := .plain "print" (.cons e2 .nil)) (s3 _ _ hr2) (hv2.keep (Same.tups s3)) (by omega) (made np3 (.cons (.str _) (.cons r2 .nil)))
        (us_app (l.eu o2) us_nil) (by show max e2.dep 0 + 1 ≤ many + 5; omega) (by show b.sz + (e2.sz + 0 + 1) ≤ _; omega) (lay2 (tx (by decide +kernel)) o2.lay) (wfP (by decide +kernel) rfl (wfC o2.wf rfl))
      refine ⟨rw, vs, _, rfl, rfl, s3 _ _ hr2, Cm.smallL (by omega), ?_⟩
      exact ⟨li, lc, is, cs, _, _, _, _, _, _, _, _, _, _, _, _, _, rfl, ⟨by omega, by omega⟩, l3⟩
    · refine ⟨_, rfl, .inl ⟨rfl, _, SqL.of hr1⟩, _, rfl, _, rfl, _, rfl, _, rfl, _, rfl, callE (dd := 1) l1.ev (by decide) fun H4 v2 e2 g2 k2 r2 o2 => ?_⟩
      have l2 := l1.keep k2 g2
      have hr2 := rows_stay g1 k2 hr1 (dsRef hv1)
      have hv2 := hv1.keep (g1.tups k2)
      refine ⟨_, rfl, _, rfl, _, rfl, _, rfl, callE (dd := 1) l2.ev (by decide) fun H5 v5 e5 g5 k5 r5 o5 => ⟨Cm.small (by show 3 ≤ 100000; decide), fun p3 np3 => ?_⟩⟩
      have lB := l2.keep k5 g5
      have hrB := rows_stay l2.ev.g k5 hr2 (dsRef hv2)
      have hvB := hv2.keep (l2.ev.g.tups k5)
      have s3 := Cm.same_new (o := .tup [.str "move", v2, v5]) np3
      have o2s := o2.sz
      have o2d := o2.dp
      have o5s := o5.sz
      have o5d := o5.dp
      rw [le1] at o2s o5s
      have l3 := (lB.same s3).push (z := i + 1) (s := .plain "move" (.cons e2 (.cons e5 .nil))) (s3 _ _ hrB) (hvB.keep (Same.tups s3)) (by omega) (made np3 (.cons (.str _) (.cons (l2.ev.g.rp k5 r2) (.cons r5 .nil))))
        (us_app (l.eu o2) (us_app (l.eu o5) us_nil)) (by show max e2.dep (max e5.dep 0) + 1 ≤ many + 5; omega) (by show b.sz + (e2.sz + (e5.sz + 0) + 1) ≤ _; omega) (lay3 (tx (by decide +kernel)) o2.lay o5.lay) (wfP (by decide +kernel) rfl (wfC o2.wf (wfC o5.wf rfl)))
      refine ⟨rw, vs, _, rfl, rfl, s3 _ _ hrB, Cm.smallL (by omega), ?_⟩
      exact ⟨li, lc, is, cs, _, _, _, _, _, _, _, _, _, _, _, _, _, rfl, ⟨by omega, by omega⟩, l3⟩
  · obtain ⟨li, lc, is, cs, b, x8, x9, x10, x11, x12, x13, x14, x15, x16, x17, x18, x19, rfl, _, l⟩ := hp
    obtain ⟨vs, h1, h2, h3⟩ := l.rows
    refine ⟨_, rfl, rw, vs, rfl, .inl ⟨SqL.of h1, fun p np => ?_⟩⟩
    exact q _ _ b (l.ev.g.new np) (keep_new l.kp np) (made np h2) ⟨l.us, l.dp, by rw [Cb_eq]; exact l.sz, l.lay, l.wf⟩
theorem ok_block (T : Txt K mg w a) : ∀ m : Nat, m ≤ 9 → FnOk P w K mg base CX0 (9 + m) (He.ga K "_law_block") a.d_lw_block ps7 (spB K m)
  | 0, _ => vac fun vs H Q E h => by
    obtain ⟨_, _, _, _, _, _, _, many, _, _, hd, _⟩ := h
    exact absurd hd (Nat.not_lt_zero many)
  | m + 1, hm => step_block T m (by omega) (ok_block T m (by omega))
/-! ### the generator: makers, the interface, the program -/
structure MkD where
  nm : Str
  b1 : Bool
  b2 : Bool
  i : Int
  get : Ss
  put : Ss
  link : Ss
  both : Ss
def parT (b : Bool) (x k : Str) : PyData := .tuple [.bool b, .str x, .str k]
def fldT (b : Bool) (x k : Str) (i : Int) : PyData := .tuple [.bool b, .str x, .str k, .int i]
def pr (x k : Str) : PyData := .tuple [.str x, .str k]
def opT (x : Str) (ps : List PyData) (k : Str) (b : Ss) : PyData := .tuple [.str x, .tuple ps, .str k, .tuple b.ds]
def MkD.pars (m : MkD) : List PyData := [parT m.b1 "o" "Cell", parT false "n" "int"]
def MkD.flds (m : MkD) : List PyData := [fldT m.b2 "p" "Cell" 0, fldT false "m" "int" m.i]
def MkD.rows (m : MkD) : List PyData := [opT "get" [] "int" m.get, opT "put" [pr "v" "int"] "int" m.put, opT "link" [pr "c" "Cell"] "Cell" m.link, opT "both" [pr "c" "Cell", pr "v" "int"] "int" m.both]
def MkD.d (m : MkD) : PyData := .tuple [.str m.nm, .tuple m.pars, .tuple m.flds, .tuple m.rows]
/-- a whole block: names, bounds -/
structure OkP (N : List Str) (b : Ss) : Prop where
  us : ∀ x ∈ b.uses, x ∈ N ∨ x ∈ b.lets
  dp : b.dep ≤ 12
  sz : b.sz ≤ 5000
  lay : PyData.canLayAll0 b.ds = true
  wf : b.wf = true
  ret : ∃ (b0 : Ss) (e : E), b = b0.app (.cons (.plain "return" (.cons e .nil)) .nil)
abbrev fieldS : List Str := ["o", "n", "p", "m"]
structure MkD.Ok (m : MkD) : Prop where
  get : OkP fieldS m.get
  put : OkP ("v" :: fieldS) m.put
  link : OkP ("c" :: fieldS) m.link
  both : OkP ("c" :: "v" :: fieldS) m.both
def spMaker (K : PySem.W.Frag) : Sp := fun vs H Q _ => ∃ (nu c : Addr) (nm : Str), vs = [.ref nu, .ref c, .str nm] ∧ G K H nu c ∧ ∀ (H' : Hp) (v : V) (m : MkD), G K H' nu c → Keep c H H' → Rp K H' v m.d → m.Ok → m.nm = nm → Q v H'
theorem cb4 : Cb 0 = 0 ∧ Cb 1 = 200 ∧ Cb 2 = 400 ∧ Cb 3 = 1800 ∧ Cb 4 = 4000 := by decide
theorem OkP.mono {N N' : List Str} {b : Ss} (o : OkP N b) (h : ∀ x ∈ N, x ∈ N') : OkP N' b := ⟨fun x hx => (o.us x hx).imp (h x) id, o.dp, o.sz, o.lay, o.wf, o.ret⟩
def goodB (x : Str) : Bool := PyData.strOk x && (decide (x ∈ plainB) && decide (1 = arB x))
theorem goodB.so {x : Str} (h : goodB x = true) : PyData.strOk x = true := (Bool.and_eq_true_iff.mp h).1
theorem goodB.in {x : Str} (h : goodB x = true) : (decide (x ∈ plainB) && decide (1 = arB x)) = true := (Bool.and_eq_true_iff.mp h).2
theorem okP_snoc {N N1 N2 : List Str} {m d : Nat} {b : Ss} {w : Str} {e : E} (o : OkB N1 m b) (oe : OkE N2 d e) (h1 : ∀ x ∈ N1, x ∈ N) (h2 : ∀ x ∈ N2, x ∈ N) (hm : m ≤ 4) (hd : d ≤ 2) (so : goodB w = true) (hw : w = "return" := by rfl) : OkP N (b.app (.cons (.plain w (.cons e .nil)) .nil)) := by
  have hs := o.sz
  have hp := o.dp
  have es := oe.sz
  have ep := oe.dp
  have c4 := cb4
  have hz : 10 * 4 ^ d ≤ 160 := by
    match d, hd with
    | 0, _ => decide
    | 1, _ => decide
    | 2, _ => decide
  have hb : Cb m ≤ 4000 := by
    match m, hm with
    | 0, _ => decide
    | 1, _ => decide
    | 2, _ => decide
    | 3, _ => decide
    | 4, _ => decide
  refine ⟨fun x hx => ?_, ?_, ?_, lay_snoc o.lay (lay2 (tx (goodB.so so)) oe.lay), by rw [Ss.app_wf]; exact and2 o.wf (and2 (and2 (goodB.in so) (and2 oe.wf rfl)) rfl), ⟨b, e, by rw [hw]⟩⟩
  · rw [Ss.app_uses] at hx
    rw [Ss.app_lets]
    rcases List.mem_append.mp hx with h | h
    · rcases o.us x h with h | h
      · exact .inl (h1 x h)
      · exact .inr (List.mem_append_left _ h)
    · have h' : x ∈ (e.uses ++ []) ++ [] := h
      rw [List.append_nil, List.append_nil] at h'
      exact .inl (h2 x (oe.us x h'))
  · rw [Ss.app_dep]
    show max b.dep (max (max e.dep 0 + 1) 0) ≤ 12
    omega
  · rw [Ss.app_sz]
    show b.sz + (e.sz + 0 + 1 + 0) ≤ 5000
    omega
theorem okP_two {N N1 N2 : List Str} {d d2 : Nat} {x w : Str} {e e2 : E} (h0 : x ∈ N) (sx : PyData.strOk x = true) (o : OkE N1 d e) (h1 : ∀ x ∈ N1, x ∈ N) (o2 : OkE N2 d2 e2) (h2 : ∀ x ∈ N2, x ∈ N) (hd : d ≤ 2) (hd2 : d2 ≤ 2) (so : goodB w = true) (hw : w = "return" := by rfl) :
    OkP N (.cons (.setS x e) (.cons (.plain w (.cons e2 .nil)) .nil)) := by
  have es := o.sz
  have ep := o.dp
  have es2 := o2.sz
  have ep2 := o2.dp
  have hz : ∀ d : Nat, d ≤ 2 → 10 * 4 ^ d ≤ 160 := by
    intro d hd
    match d, hd with
    | 0, _ => decide
    | 1, _ => decide
    | 2, _ => decide
  have z1 := hz d hd
  have z2 := hz d2 hd2
  refine ⟨fun y hy => ?_, ?_, ?_, ?_, and2 o.wf (and2 (and2 (goodB.in so) (and2 o2.wf rfl)) rfl), ⟨.cons (.setS x e) .nil, e2, by rw [hw]; rfl⟩⟩
  · have h' : y ∈ (x :: e.uses) ++ ((e2.uses ++ []) ++ []) := hy
    rw [List.append_nil, List.append_nil] at h'
    rcases List.mem_append.mp h' with h | h
    · rcases List.mem_cons.mp h with rfl | h
      · exact .inl h0
      · exact .inl (h1 y (o.us y h))
    · exact .inl (h2 y (o2.us y h))
  · show max (e.dep + 1) (max (max e2.dep 0 + 1) 0) ≤ 12
    omega
  · show e.sz + 1 + (e2.sz + 0 + 1 + 0) ≤ 5000
    omega
  · have l1 : (S.setS x e).d.canLay0 = true := lay3 (tx (by decide +kernel)) (tx sx) o.lay
    have l2 : (S.plain w (.cons e2 .nil)).d.canLay0 = true := lay2 (tx (goodB.so so)) o2.lay
    show PyData.canLayAll0 [(S.setS x e).d, (S.plain w (.cons e2 .nil)).d] = true
    simp only [PyData.canLayAll0, l1, l2, Bool.and_true]
theorem made1 {K : PySem.W.Frag} {H : Hp} {p : Addr} {v : V} {d : PyData} (np : H p = none) (r : Rp K H v d) : Rp K (upd H p (.tup [v])) (.ref p) (.tuple [d]) := made np (.cons r .nil)
theorem Ev.moreI {K : PySem.W.Frag} {H : Hp} {nu c li lc p : Addr} {is cs : List Str} {x : Str} {vs : List V} (e : Ev K H nu c li lc is cs) (np : H p = none) (ev : vs = (is ++ [x]).map V.str) (so : PyData.strOk x = true) : Ev K (upd H p (.lst vs)) nu c p lc (is ++ [x]) cs := by
  have s := Cm.same_new (o := .lst vs) np
  refine ⟨e.g.same s, by rw [upd_same, ev], s _ _ e.tk, fun y hy => ?_⟩
  simp only [List.mem_append, List.mem_singleton] at hy
  rcases hy with (h | h) | h
  · exact e.so y (List.mem_append_left _ h)
  · rw [h]
    exact so
  · exact e.so y (List.mem_append_right _ h)
theorem Ev.moreC {K : PySem.W.Frag} {H : Hp} {nu c li lc p : Addr} {is cs : List Str} {x : Str} {vs : List V} (e : Ev K H nu c li lc is cs) (np : H p = none) (ev : vs = (cs ++ [x]).map V.str) (so : PyData.strOk x = true) : Ev K (upd H p (.lst vs)) nu c li p is (cs ++ [x]) := by
  have s := Cm.same_new (o := .lst vs) np
  refine ⟨e.g.same s, s _ _ e.ti, by rw [upd_same, ev], fun y hy => ?_⟩
  simp only [List.mem_append, List.mem_singleton] at hy
  rcases hy with h | h | h
  · exact e.so y (List.mem_append_left _ h)
  · exact e.so y (List.mem_append_right _ h)
  · rw [h]
    exact so
abbrev isN : List Str := ["n", "m"]
abbrev csN : List Str := ["o", "p", "self"]
abbrev vN : List Str := ["v"]
abbrev cN : List Str := ["c"]
theorem n_get : ∀ x ∈ isN ++ fl csN, x ∈ fieldS := by decide +kernel
theorem n_put : ∀ x ∈ (isN ++ vN) ++ fl csN, x ∈ ("v" :: fieldS : List Str) := by decide +kernel
theorem n_link : ∀ x ∈ isN ++ fl (csN ++ cN), x ∈ ("c" :: fieldS : List Str) := by decide +kernel
theorem n_both : ∀ x ∈ (isN ++ vN) ++ fl (csN ++ cN), x ∈ ("c" :: "v" :: fieldS : List Str) := by decide +kernel
theorem so_all : ∀ x ∈ isN ++ csN, PyData.strOk x = true := by decide +kernel
theorem ok_add : OkE ["n", "v"] 1 (.plain "add" (.cons (.name "n") (.cons (.name "v") .nil))) := ok_bin (ok_name (by decide +kernel) (by decide +kernel)) (ok_name (by decide +kernel) (by decide +kernel)) (by decide +kernel)
theorem n_nv : ∀ x ∈ (["n", "v"] : List Str), x ∈ ("v" :: fieldS : List Str) := by decide +kernel
theorem ok_c : OkE ["c"] 0 (.name "c") := ok_name (by decide +kernel) (by decide +kernel)
theorem n_c : ∀ x ∈ (["c"] : List Str), x ∈ ("c" :: fieldS : List Str) := by decide +kernel
theorem ok_lw_maker (T : Txt K mg w a) : FnOk P w K mg base CX0 13 (He.ga K "_law_maker") a.d_lw_maker ["numbers", "at", "name"] (spMaker K) := by
  obtain ⟨gi, go, _⟩ := ok_E (P := P) (w := w) (base := base) T 3 (by decide)
  have gb := ok_block (P := P) (w := w) (base := base) T 3 (by decide)
  refine T.F_lw_maker.ok sc_lw_maker (fun vs H Q E h => ?_) (fun cdv A outer s H0 vs Q E hr h => ?_)
  · obtain ⟨nu, c, nm, rfl, _⟩ := h
    rfl
  obtain ⟨nu, c, nm, rfl, g0, q⟩ := h
  refine ⟨_, PSs.nox (pss_cons (ps_set (i := 3) sc_lw_maker.nd rfl (Or.inl rfl) (pe_call (ok_lw_pick T) (hr.mono (by omega)) (by rfl) T.g_lw_pick T.F_lw_pick.kp T.b_lw_pick .nil pass0 (pa_cons (pv 0) (pa_cons (pv 1) pa_nil))))
      (pss_cons (ps_set (i := 4) sc_lw_maker.nd rfl (Or.inl rfl) (pe_tup (pa_cons (pe_tup (pa_cons (pe_cmpR op_eq (pe_op op_mod (pv 3) pe_int) pe_int (nomark _)) (pa_cons pe_str (pa_cons pe_str pa_nil)))) (pa_cons (pe_tup (pa_cons pe_bl (pa_cons pe_str (pa_cons pe_str pa_nil)))) pa_nil))))
      (pss_cons (ps_set (i := 5) sc_lw_maker.nd rfl (Or.inl rfl) (pe_tup (pa_cons (pe_tup (pa_cons (pe_cmpR op_eq (pe_op op_mod (pe_op op_fdiv (pv 3) pe_int) pe_int) pe_int (nomark _)) (pa_cons pe_str (pa_cons pe_str (pa_cons pe_int pa_nil))))) (pa_cons (pe_tup (pa_cons pe_bl (pa_cons pe_str (pa_cons pe_str (pa_cons (pe_op op_sub (pe_op op_mod (pe_op op_fdiv (pv 3) pe_int) pe_int) pe_int) pa_nil))))) pa_nil))))
      (pss_cons (ps_set (i := 6) sc_lw_maker.nd rfl (Or.inl rfl) (pe_lst (pa_cons pe_str (pa_cons pe_str pa_nil))))
      (pss_cons (ps_set (i := 7) sc_lw_maker.nd rfl (Or.inl rfl) (pe_lst (pa_cons pe_str (pa_cons pe_str (pa_cons pe_str pa_nil)))))
      (pss_cons (ps_set (i := 8) sc_lw_maker.nd rfl (Or.inl rfl) (pe_op op_catA (pe_call gb (hr.mono (by omega)) (by rfl) T.g_lw_block T.F_lw_block.kp T.b_lw_block .nil pass0 (pa_cons (pv 0) (pa_cons (pv 1) (pa_cons (pv 6) (pa_cons (pv 7) (pa_cons pe_int (pa_cons pe_int (pa_cons pe_str pa_nil)))))))) (pe_tup (pa_cons (pe_tup (pa_cons pe_str (pa_cons (pe_call gi (hr.mono (by omega)) (by rfl) T.g_lw_int T.F_lw_int.kp T.b_lw_int .nil pass0 (pa_cons (pv 0) (pa_cons (pv 1) (pa_cons (pv 6) (pa_cons (pv 7) (pa_cons pe_int (pa_cons pe_int pa_nil))))))) pa_nil))) pa_nil))))
      (pss_cons (ps_set (i := 9) sc_lw_maker.nd rfl (Or.inl rfl) (pe_tup (pa_cons (pe_tup (pa_cons pe_str (pa_cons pe_str (pa_cons (pe_call gi (hr.mono (by omega)) (by rfl) T.g_lw_int T.F_lw_int.kp T.b_lw_int .nil pass0 (pa_cons (pv 0) (pa_cons (pv 1) (pa_cons (pe_op op_cat (pv 6) (pe_lst (pa_cons pe_str pa_nil))) (pa_cons (pv 7) (pa_cons pe_int (pa_cons pe_int pa_nil))))))) pa_nil)))) (pa_cons (pe_tup (pa_cons pe_str (pa_cons (pe_tup (pa_cons pe_str (pa_cons (pe_tup (pa_cons pe_str (pa_cons pe_str pa_nil))) (pa_cons (pe_tup (pa_cons pe_str (pa_cons pe_str pa_nil))) pa_nil)))) pa_nil))) pa_nil))))
      (pss_cons (ps_set (i := 10) sc_lw_maker.nd rfl (Or.inl rfl) (pe_tup (pa_cons (pe_tup (pa_cons pe_str (pa_cons (pe_ix ix_list (pe_lst (pa_cons pe_str (pa_cons pe_str pa_nil))) (pe_op op_mod (pe_op op_fdiv (pv 3) pe_int) pe_int) (fun _ _ => rfl)) (pa_cons (pe_tup (pa_cons pe_str (pa_cons pe_str pa_nil))) pa_nil)))) (pa_cons (pe_tup (pa_cons pe_str (pa_cons (pe_call go (hr.mono (by omega)) (by rfl) T.g_lw_object T.F_lw_object.kp T.b_lw_object .nil pass0 (pa_cons (pv 0) (pa_cons (pv 1) (pa_cons (pv 6) (pa_cons (pe_op op_cat (pv 7) (pe_lst (pa_cons pe_str pa_nil))) (pa_cons pe_int (pa_cons pe_int pa_nil))))))) pa_nil))) pa_nil))))
      (pss_cons (ps_set (i := 11) sc_lw_maker.nd rfl (Or.inl rfl) (pe_call gb (hr.mono (by omega)) (by rfl) T.g_lw_block T.F_lw_block.kp T.b_lw_block .nil pass0 (pa_cons (pv 0) (pa_cons (pv 1) (pa_cons (pe_op op_cat (pv 6) (pe_lst (pa_cons pe_str pa_nil))) (pa_cons (pe_op op_cat (pv 7) (pe_lst (pa_cons pe_str pa_nil))) (pa_cons pe_int (pa_cons pe_int (pa_cons pe_str pa_nil)))))))))
      (pss_cons (ps_set (i := 11) sc_lw_maker.nd rfl (Or.inl rfl) (pe_op op_catA (pv 11) (pe_tup (pa_cons (pe_tup (pa_cons pe_str (pa_cons (pe_call gi (hr.mono (by omega)) (by rfl) T.g_lw_int T.F_lw_int.kp T.b_lw_int .nil pass0 (pa_cons (pv 0) (pa_cons (pv 1) (pa_cons (pe_op op_cat (pv 6) (pe_lst (pa_cons pe_str pa_nil))) (pa_cons (pe_op op_cat (pv 7) (pe_lst (pa_cons pe_str pa_nil))) (pa_cons pe_int (pa_cons pe_int pa_nil))))))) pa_nil))) pa_nil))))
      (pss_cons (ps_set (i := 12) sc_lw_maker.nd rfl (Or.inl rfl) (pe_tup (pa_cons (pe_tup (pa_cons pe_str (pa_cons (pe_tup pa_nil) (pa_cons pe_str (pa_cons (pv 8) pa_nil))))) (pa_cons (pe_tup (pa_cons pe_str (pa_cons (pe_tup (pa_cons (pe_tup (pa_cons pe_str (pa_cons pe_str pa_nil))) pa_nil)) (pa_cons pe_str (pa_cons (pv 9) pa_nil))))) (pa_cons (pe_tup (pa_cons pe_str (pa_cons (pe_tup (pa_cons (pe_tup (pa_cons pe_str (pa_cons pe_str pa_nil))) pa_nil)) (pa_cons pe_str (pa_cons (pv 10) pa_nil))))) (pa_cons (pe_tup (pa_cons pe_str (pa_cons (pe_tup (pa_cons (pe_tup (pa_cons pe_str (pa_cons pe_str pa_nil))) (pa_cons (pe_tup (pa_cons pe_str (pa_cons pe_str pa_nil))) pa_nil))) (pa_cons pe_str (pa_cons (pv 11) pa_nil))))) pa_nil))))))
      (pss_one (ps_ret (pe_tup (pa_cons (pv 2) (pa_cons (pv 4) (pa_cons (pv 5) (pa_cons (pv 12) pa_nil)))))))))))))))))), ?_⟩
  refine ⟨_, rfl, _, rfl, nu, c, rfl, g0, fun H1 p hp g1 k1 => ?_⟩
  -- params, fields
  refine ⟨_, rfl, _, _, rfl, rfl, (by show (0 : Int) < 2; decide), rfl, Cm.small (by show 3 ≤ 100000; decide), fun p2 np2 => ⟨Cm.small (by show 3 ≤ 100000; decide), fun p3 np3 => ⟨Cm.small (by show 2 ≤ 100000; decide), fun p4 np4 => ?_⟩⟩⟩
  have rP2 := made (K := K) np2 (.cons (.bl (decide (V.int (p % 2) = V.int 0))) (.cons (.str "o") (.cons (.str "Cell") .nil)))
  have rP3 := made (K := K) np3 (.cons (.bl false) (.cons (.str "n") (.cons (.str "int") .nil)))
  have rP := made (K := K) np4 (.cons (rP2.keep (Same.tups (Cm.same_new np3))) (.cons rP3 .nil))
  have s4 := (Cm.same_new np2).trans ((Cm.same_new np3).trans (Cm.same_new (o := .tup [.ref p2, .ref p3]) np4))
  refine ⟨_, rfl, _, _, rfl, rfl, ⟨by decide, by decide⟩, _, _, rfl, rfl, (by show (0 : Int) < 2; decide), rfl, Cm.small (by show 4 ≤ 100000; decide), fun p5 np5 => ?_⟩
  refine ⟨_, rfl, _, _, rfl, rfl, ⟨by decide, by decide⟩, _, _, rfl, rfl, (by show (0 : Int) < 9; decide), _, _, rfl, rfl, Cm.small (by show 4 ≤ 100000; decide), fun p6 np6 => ⟨Cm.small (by show 2 ≤ 100000; decide), fun p7 np7 => ?_⟩⟩
  have rF5 := made (K := K) np5 (.cons (.bl (decide (V.int (p / 2 % 2) = V.int 0))) (.cons (.str "p") (.cons (.str "Cell") (.cons (.int 0) .nil))))
  have rF6 := made (K := K) np6 (.cons (.bl false) (.cons (.str "m") (.cons (.str "int") (.cons (.int (p / 4 % 9 - 4)) .nil))))
  have rF := made (K := K) np7 (.cons (rF5.keep (Same.tups (Cm.same_new np6))) (.cons rF6 .nil))
  have s7 := (Cm.same_new np5).trans ((Cm.same_new np6).trans (Cm.same_new (o := .tup [.ref p5, .ref p6]) np7))
  -- ints, cells
  refine ⟨Cm.small (by show 2 ≤ 100000; decide), fun li nli => ⟨Cm.small (by show 3 ≤ 100000; decide), fun lc nlc => ?_⟩⟩
  have s9 := (Cm.same_new nli).trans (Cm.same_new (o := .lst [.str "o", .str "p", .str "self"]) nlc)
  have sA := (s4.trans s7).trans s9
  have k9 := k1.trans (Keep.of sA)
  have R : Rps K _ _ _ := .cons (rP.keep (Same.tups (s7.trans s9))) (.cons (rF.keep (Same.tups s9)) .nil)
  have ev : Ev K _ nu c li lc isN csN := ⟨g1.same sA, (by rw [upd_ne (ne_of_none upd_same nlc)]; exact upd_same), upd_same, so_all⟩
  -- get
  refine ⟨_, rfl, _, rfl, _, rfl, _, rfl, nu, c, li, lc, _, _, 0, 1, "g", rfl, by decide, ev, by decide +kernel, by decide +kernel, by decide, by decide, fun H10 v10 b10 g10 k10 r10 o10 => ?_⟩
  have ev10 := ev.keep k10 g10
  have R10 := R.keep (ev.g.tups k10)
  refine ⟨_, rfl, _, rfl, _, rfl, _, rfl, nu, c, li, lc, _, _, 0, 2, rfl, by decide, ev10, fun H11 v11 e11 g11 k11 r11 o11 => ⟨Cm.small (by show 2 ≤ 100000; decide), fun p12 np12 => ⟨Cm.small (by show 1 ≤ 100000; decide), fun p13 np13 => ?_⟩⟩⟩
  have ev11 := ev10.keep k11 g11
  have R11 := R10.keep (ev10.g.tups k11)
  have s13 := (Cm.same_new np12).trans (Cm.same_new (o := .tup [.ref p12]) np13)
  have r13 := made1 (K := K) np13 (made np12 (.cons (.str "return") (.cons r11 .nil)))
  have hz10 := szB b10
  have hy10 := o10.sz
  rw [cb4.2.1] at hy10
  refine cat_rp ((ev10.g.rp k11 r10).keep (Same.tups s13)) r13 (by show b10.ds.length + 1 ≤ 10000000; omega) fun v14 H14 s14 r14 => ?_
  have sB := s13.trans s14
  have ev14 := ev11.same sB
  have k14 := ((k9.trans k10).trans k11).trans (Keep.of sB)
  have oget : OkP fieldS (b10.app (.cons (.plain "return" (.cons e11 .nil)) .nil)) := okP_snoc o10 o11 n_get n_get (by decide) (by decide) (by decide +kernel)
  have r14 : Rp K H14 v14 (.tuple (b10.app (.cons (.plain "return" (.cons e11 .nil)) .nil)).ds) := by
    rw [Ss.app_ds]
    exact r14
  have R14 : Rps K _ _ _ := .cons r14 (R11.keep (Same.tups sB))
  -- put
  refine ⟨_, rfl, _, rfl, _, rfl, Cm.small (by show 1 ≤ 100000; decide), fun p15 np15 => ⟨li, p15, _, _, rfl, rfl, (ev14.same (Cm.same_new np15)).ti, upd_same, Cm.small (by show 2 + 1 ≤ 100000; decide), fun lv nlv => ?_⟩⟩
  have s15 := Cm.same_new (o := .lst [.str "v"]) np15
  have evv := (ev14.same s15).moreI (vs := isN.map V.str ++ [.str "v"]) (x := "v") nlv rfl (by decide +kernel)
  have s16 := s15.trans (Cm.same_new (o := .lst (isN.map V.str ++ [.str "v"])) nlv)
  refine ⟨_, rfl, nu, c, lv, lc, _, _, 0, 1, rfl, by decide, evv, fun H17 v17 e17 g17 k17 r17 o17 => ⟨Cm.small (by show 3 ≤ 100000; decide), fun p18 np18 => ⟨Cm.small (by show 2 ≤ 100000; decide), fun p19 np19 => ⟨Cm.small (by show 2 ≤ 100000; decide), fun p20 np20 => ⟨Cm.small (by show 3 ≤ 100000; decide), fun p21 np21 => ⟨Cm.small (by show 2 ≤ 100000; decide), fun p22 np22 => ⟨Cm.small (by show 2 ≤ 100000; decide), fun p23 np23 => ?_⟩⟩⟩⟩⟩⟩⟩
  have r18 := made (K := K) np18 (.cons (.str "set") (.cons (.str "n") (.cons r17 .nil)))
  have r19 := made (K := K) np19 (.cons (.str "name") (.cons (.str "n") .nil))
  have r20 := made (K := K) np20 (.cons (.str "name") (.cons (.str "v") .nil))
  have r21 := made (K := K) np21 (.cons (.str "add") (.cons (r19.keep (Same.tups (Cm.same_new np20))) (.cons r20 .nil)))
  have r22 := made (K := K) np22 (.cons (.str "return") (.cons r21 .nil))
  have r23 := made (K := K) np23 (.cons (r18.keep (Same.tups ((Cm.same_new np19).trans ((Cm.same_new np20).trans ((Cm.same_new np21).trans (Cm.same_new np22)))))) (.cons r22 .nil))
  have s23 := (Cm.same_new np18).trans ((Cm.same_new np19).trans ((Cm.same_new np20).trans ((Cm.same_new np21).trans ((Cm.same_new np22).trans (Cm.same_new (o := .tup [.ref p18, .ref p22]) np23)))))
  have evw := (ev14.same s16)
  have ev23 := (evw.keep k17 g17).same s23
  have k23 := ((k14.trans (Keep.of s16)).trans k17).trans (Keep.of s23)
  have oput : OkP ("v" :: fieldS) (.cons (.setS "n" e17) (.cons (.plain "return" (.cons (.plain "add" (.cons (.name "n") (.cons (.name "v") .nil))) .nil)) .nil)) := okP_two (by decide +kernel) (by decide +kernel) o17 n_put ok_add n_nv (by decide) (by decide) (by decide +kernel)
  have R23 : Rps K _ _ _ := .cons r23 (((R14.keep (Same.tups s16)).keep (evw.g.tups k17)).keep (Same.tups s23))
  -- link
  obtain ⟨xl, hxl, exl⟩ := Cm.at_str (ws := ["o", "p"]) (i := p / 36 % 2) (by omega) (by show p / 36 % 2 < 2; omega)
  refine ⟨Cm.small (by decide), fun p24 np24 => ?_⟩
  have s24 := Cm.same_new (o := .lst ((["o", "p"] : List Str).map V.str)) np24
  refine ⟨_, rfl, _, _, rfl, rfl, ⟨by decide, by decide⟩, _, _, rfl, rfl, (by show (0 : Int) < 2; decide), p24, _, _, .str xl, rfl, rfl, Cm.sql_new, exl, Cm.small (by show 2 ≤ 100000; decide), fun p25 np25 => ⟨Cm.small (by show 3 ≤ 100000; decide), fun p26 np26 => ?_⟩⟩
  have r25 := made (K := K) np25 (.cons (.str "name") (.cons (.str "c") .nil))
  have r26 := made (K := K) np26 (.cons (.str "set") (.cons (.str xl) (.cons r25 .nil)))
  have s26 := (s24.trans (Cm.same_new np25)).trans (Cm.same_new (o := .tup [.str "set", .str xl, .ref p25]) np26)
  have ev26 := ev23.same s26
  refine ⟨_, rfl, _, rfl, _, rfl, _, rfl, Cm.small (by show 1 ≤ 100000; decide), fun p27 np27 => ⟨lc, p27, _, _, rfl, rfl, (ev26.same (Cm.same_new np27)).tk, upd_same, Cm.small (by show 3 + 1 ≤ 100000; decide), fun lk nlk => ?_⟩⟩
  have s27 := Cm.same_new (o := .lst [.str "c"]) np27
  have evc := (ev26.same s27).moreC (vs := csN.map V.str ++ [.str "c"]) (x := "c") nlk rfl (by decide +kernel)
  have s28 := s27.trans (Cm.same_new (o := .lst (csN.map V.str ++ [.str "c"])) nlk)
  refine ⟨nu, c, li, lk, _, _, 1, 1, rfl, by decide, evc, fun H29 v29 e29 g29 k29 r29 o29 => ⟨Cm.small (by show 2 ≤ 100000; decide), fun p30 np30 => ⟨Cm.small (by show 2 ≤ 100000; decide), fun p31 np31 => ?_⟩⟩⟩
  have evx := ev26.same s28
  have r26b := evx.g.rp k29 (r26.keep (Same.tups s28))
  have r30 := made (K := K) np30 (.cons (.str "return") (.cons r29 .nil))
  have r31 := made (K := K) np31 (.cons (r26b.keep (Same.tups (Cm.same_new np30))) (.cons r30 .nil))
  have s31 := (Cm.same_new np30).trans (Cm.same_new (o := .tup [.ref p26, .ref p30]) np31)
  have ev31 := (evx.keep k29 g29).same s31
  have k31 := ((k23.trans (Keep.of (s26.trans s28))).trans k29).trans (Keep.of s31)
  have olink : OkP ("c" :: fieldS) (.cons (.setS xl (.name "c")) (.cons (.plain "return" (.cons e29 .nil)) .nil)) := okP_two ((by decide +kernel : ∀ x ∈ (["o", "p"] : List Str), x ∈ ("c" :: fieldS : List Str)) xl hxl) ((by decide +kernel : ∀ x ∈ (["o", "p"] : List Str), PyData.strOk x = true) xl hxl) ok_c n_c o29 n_link (by decide) (by decide) (by decide +kernel)
  have R31 : Rps K _ _ _ := .cons r31 (((R23.keep (Same.tups (s26.trans s28))).keep (evx.g.tups k29)).keep (Same.tups s31))
  -- both: the block
  refine ⟨_, rfl, _, rfl, _, rfl, Cm.small (by show 1 ≤ 100000; decide), fun p32 np32 => ⟨li, p32, _, _, rfl, rfl, (ev31.same (Cm.same_new np32)).ti, upd_same, Cm.small (by show 2 + 1 ≤ 100000; decide), fun lv2 nlv2 => ?_⟩⟩
  have s32 := Cm.same_new (o := .lst [.str "v"]) np32
  have ev33 := (ev31.same s32).moreI (vs := isN.map V.str ++ [.str "v"]) (x := "v") nlv2 rfl (by decide +kernel)
  have s33 := s32.trans (Cm.same_new (o := .lst (isN.map V.str ++ [.str "v"])) nlv2)
  refine ⟨_, rfl, Cm.small (by show 1 ≤ 100000; decide), fun p34 np34 => ⟨lc, p34, _, _, rfl, rfl, (ev33.same (Cm.same_new np34)).tk, upd_same, Cm.small (by show 3 + 1 ≤ 100000; decide), fun lk2 nlk2 => ?_⟩⟩
  have s34 := Cm.same_new (o := .lst [.str "c"]) np34
  have ev35 := (ev33.same s34).moreC (vs := csN.map V.str ++ [.str "c"]) (x := "c") nlk2 rfl (by decide +kernel)
  have s35 := s33.trans (s34.trans (Cm.same_new (o := .lst (csN.map V.str ++ [.str "c"])) nlk2))
  refine ⟨nu, c, lv2, lk2, _, _, 2, 2, "b", rfl, by decide, ev35, by decide +kernel, by decide +kernel, by decide, by decide, fun H36 v36 b36 g36 k36 r36 o36 => ?_⟩
  have evy := ev31.same s35
  have ev36 := evy.keep k36 g36
  have R36 := (R31.keep (Same.tups s35)).keep (evy.g.tups k36)
  have k36' := (k31.trans (Keep.of s35)).trans k36
  -- both: the return
  refine ⟨_, rfl, _, rfl, _, rfl, _, rfl, Cm.small (by show 1 ≤ 100000; decide), fun p37 np37 => ⟨li, p37, _, _, rfl, rfl, (ev36.same (Cm.same_new np37)).ti, upd_same, Cm.small (by show 2 + 1 ≤ 100000; decide), fun lv3 nlv3 => ?_⟩⟩
  have s37 := Cm.same_new (o := .lst [.str "v"]) np37
  have ev38 := (ev36.same s37).moreI (vs := isN.map V.str ++ [.str "v"]) (x := "v") nlv3 rfl (by decide +kernel)
  have s38 := s37.trans (Cm.same_new (o := .lst (isN.map V.str ++ [.str "v"])) nlv3)
  refine ⟨_, rfl, Cm.small (by show 1 ≤ 100000; decide), fun p39 np39 => ⟨lc, p39, _, _, rfl, rfl, (ev38.same (Cm.same_new np39)).tk, upd_same, Cm.small (by show 3 + 1 ≤ 100000; decide), fun lk3 nlk3 => ?_⟩⟩
  have s39 := Cm.same_new (o := .lst [.str "c"]) np39
  have ev40 := (ev38.same s39).moreC (vs := csN.map V.str ++ [.str "c"]) (x := "c") nlk3 rfl (by decide +kernel)
  have s40 := s38.trans (s39.trans (Cm.same_new (o := .lst (csN.map V.str ++ [.str "c"])) nlk3))
  refine ⟨nu, c, lv3, lk3, _, _, 2, 2, rfl, by decide, ev40, fun H41 v41 e41 g41 k41 r41 o41 => ⟨Cm.small (by show 2 ≤ 100000; decide), fun p42 np42 => ⟨Cm.small (by show 1 ≤ 100000; decide), fun p43 np43 => ?_⟩⟩⟩
  have evz := ev36.same s40
  have r36b := evz.g.rp k41 (r36.keep (Same.tups s40))
  have R41 := (R36.keep (Same.tups s40)).keep (evz.g.tups k41)
  have k41' := (k36'.trans (Keep.of s40)).trans k41
  have s43 := (Cm.same_new np42).trans (Cm.same_new (o := .tup [.ref p42]) np43)
  have r43 := made1 (K := K) np43 (made np42 (.cons (.str "return") (.cons r41 .nil)))
  have hz36 := szB b36
  have hy36 := o36.sz
  rw [cb4.2.2.1] at hy36
  refine cat_rp (r36b.keep (Same.tups s43)) r43 (by show b36.ds.length + 1 ≤ 10000000; omega) fun v44 H44 s44 r44 => ?_
  have sC := s43.trans s44
  have g44 := g41.same sC
  have k44 := k41'.trans (Keep.of sC)
  have oboth : OkP ("c" :: "v" :: fieldS) (b36.app (.cons (.plain "return" (.cons e41 .nil)) .nil)) := okP_snoc o36 o41 n_both n_both (by decide) (by decide) (by decide +kernel)
  have r44 : Rp K H44 v44 (.tuple (b36.app (.cons (.plain "return" (.cons e41 .nil)) .nil)).ds) := by
    rw [Ss.app_ds]
    exact r44
  obtain ⟨vl, _, e1, rl, Ra⟩ := (R41.keep (Same.tups sC)).cons_inv
  cases e1
  obtain ⟨vp, _, e2, rp, Rb⟩ := Ra.cons_inv
  cases e2
  obtain ⟨vg, _, e3, rg, Rc⟩ := Rb.cons_inv
  cases e3
  obtain ⟨vP, _, e4, rP2, Rd⟩ := Rc.cons_inv
  cases e4
  obtain ⟨vF, _, e5, rF2, Re⟩ := Rd.cons_inv
  cases e5
  -- rows
  refine ⟨Cm.small (by decide), fun q1 nq1 => ⟨_, rfl, Cm.small (by show 4 ≤ 100000; decide), fun q2 nq2 => ?_⟩⟩
  have t1 := Cm.same_new (o := .tup []) nq1
  have rr2 := made (K := K) nq2 (.cons (.str "get") (.cons (made nq1 .nil) (.cons (.str "int") (.cons (rg.keep (Same.tups t1)) .nil))))
  have t2 := t1.trans (Cm.same_new (o := .tup [.str "get", .ref q1, .str "int", v14]) nq2)
  refine ⟨Cm.small (by show 2 ≤ 100000; decide), fun q3 nq3 => ⟨Cm.small (by show 1 ≤ 100000; decide), fun q4 nq4 => ⟨_, rfl, Cm.small (by show 4 ≤ 100000; decide), fun q5 nq5 => ?_⟩⟩⟩
  have t34 := (Cm.same_new nq3).trans (Cm.same_new (o := .tup [.ref q3]) nq4)
  have rr5 := made (K := K) nq5 (.cons (.str "put") (.cons (made1 nq4 (made nq3 (.cons (.str "v") (.cons (.str "int") .nil)))) (.cons (.str "int") (.cons (rp.keep (Same.tups (t2.trans t34))) .nil))))
  have t5 := t34.trans (Cm.same_new (o := .tup [.str "put", .ref q4, .str "int", .ref p23]) nq5)
  refine ⟨Cm.small (by show 2 ≤ 100000; decide), fun q6 nq6 => ⟨Cm.small (by show 1 ≤ 100000; decide), fun q7 nq7 => ⟨_, rfl, Cm.small (by show 4 ≤ 100000; decide), fun q8 nq8 => ?_⟩⟩⟩
  have t67 := (Cm.same_new nq6).trans (Cm.same_new (o := .tup [.ref q6]) nq7)
  have rr8 := made (K := K) nq8 (.cons (.str "link") (.cons (made1 nq7 (made nq6 (.cons (.str "c") (.cons (.str "Cell") .nil)))) (.cons (.str "Cell") (.cons (rl.keep (Same.tups ((t2.trans t5).trans t67))) .nil))))
  have t8 := t67.trans (Cm.same_new (o := .tup [.str "link", .ref q7, .str "Cell", .ref p31]) nq8)
  refine ⟨Cm.small (by show 2 ≤ 100000; decide), fun q9 nq9 => ⟨Cm.small (by show 2 ≤ 100000; decide), fun q10 nq10 => ⟨Cm.small (by show 2 ≤ 100000; decide), fun q11 nq11 => ⟨_, rfl, Cm.small (by show 4 ≤ 100000; decide), fun q12 nq12 => ⟨Cm.small (by show 4 ≤ 100000; decide), fun q13 nq13 => ?_⟩⟩⟩⟩⟩
  have t911 := (Cm.same_new nq9).trans ((Cm.same_new nq10).trans (Cm.same_new (o := .tup [.ref q9, .ref q10]) nq11))
  have tt := (t2.trans t5).trans (t8.trans t911)
  have r11 := made (K := K) nq11 (.cons ((made (K := K) nq9 (.cons (.str "c") (.cons (.str "Cell") .nil))).keep (Same.tups (Cm.same_new nq10))) (.cons (made nq10 (.cons (.str "v") (.cons (.str "int") .nil))) .nil))
  have rr12 := made (K := K) nq12 (.cons (.str "both") (.cons r11 (.cons (.str "int") (.cons (r44.keep (Same.tups tt)) .nil))))
  have t12 := t911.trans (Cm.same_new (o := .tup [.str "both", .ref q11, .str "int", v44]) nq12)
  have rr13 := made (K := K) nq13 (.cons (rr2.keep (Same.tups ((t5.trans t8).trans t12))) (.cons (rr5.keep (Same.tups (t8.trans t12))) (.cons (rr8.keep (Same.tups t12)) (.cons rr12 .nil))))
  have t13 := ((t2.trans t5).trans (t8.trans t12)).trans (Cm.same_new (o := .tup [.ref q2, .ref q5, .ref q8, .ref q12]) nq13)
  -- the maker
  refine ⟨_, rfl, _, rfl, _, rfl, _, rfl, Cm.small (by show 4 ≤ 100000; decide), fun q14 nq14 => ?_⟩
  have t14 := t13.trans (Cm.same_new (o := .tup [.str nm, .ref p4, .ref p7, .ref q13]) nq14)
  exact q _ _ ⟨nm, decide (V.int (p % 2) = V.int 0), decide (V.int (p / 2 % 2) = V.int 0), p / 4 % 9 - 4, b10.app (.cons (.plain "return" (.cons e11 .nil)) .nil), .cons (.setS "n" e17) (.cons (.plain "return" (.cons (.plain "add" (.cons (.name "n") (.cons (.name "v") .nil))) .nil)) .nil),
      .cons (.setS xl (.name "c")) (.cons (.plain "return" (.cons e29 .nil)) .nil), b36.app (.cons (.plain "return" (.cons e41 .nil)) .nil)⟩ (g44.same t14) (k44.trans (Keep.of t14))
    (made nq14 (.cons (.str nm) (.cons (rP2.keep (Same.tups t13)) (.cons (rF2.keep (Same.tups t13)) (.cons rr13 .nil))))) ⟨oget, oput, olink, oboth⟩ rfl
def ifaceD : PyData := .tuple [.str "Cell", .tuple [.tuple [.str "get", .tuple [], .str "int"], .tuple [.str "put", .tuple [.str "int"], .str "int"], .tuple [.str "link", .tuple [.str "Cell"], .str "Cell"], .tuple [.str "both", .tuple [.str "Cell", .str "int"], .str "int"]]]
def spIface (K : PySem.W.Frag) : Sp := fun vs H Q _ => vs = [] ∧ ∀ (H' : Hp) (v : V), Same H H' → Rp K H' v ifaceD → Q v H'
theorem ok_lw_interface (T : Txt K mg w a) : FnOk P w K mg base CX0 1 (He.ga K "_law_interface") a.d_lw_interface [] (spIface K) := by
  refine T.F_lw_interface.ok sc_lw_interface (fun vs H Q E h => ?_) (fun cdv A outer s H0 vs Q E hr h => ?_)
  · rw [h.1]
    rfl
  obtain ⟨rfl, q⟩ := h
  refine ⟨_, PSs.nox (pss_one (ps_ret (pe_tup (pa_cons pe_str (pa_cons (pe_tup (pa_cons (pe_tup (pa_cons pe_str (pa_cons (pe_tup pa_nil) (pa_cons pe_str pa_nil)))) (pa_cons (pe_tup (pa_cons pe_str (pa_cons (pe_tup (pa_cons pe_str pa_nil)) (pa_cons pe_str pa_nil)))) (pa_cons (pe_tup (pa_cons pe_str (pa_cons (pe_tup (pa_cons pe_str pa_nil)) (pa_cons pe_str pa_nil)))) (pa_cons (pe_tup (pa_cons pe_str (pa_cons (pe_tup (pa_cons pe_str (pa_cons pe_str pa_nil))) (pa_cons pe_str pa_nil)))) pa_nil))))) pa_nil))))), ?_⟩
  refine ⟨Cm.small (by decide), fun p1 n1 => ⟨Cm.small (by show 3 ≤ 100000; decide), fun p2 n2 => ⟨Cm.small (by show 1 ≤ 100000; decide), fun p3 n3 => ⟨Cm.small (by show 3 ≤ 100000; decide), fun p4 n4 => ⟨Cm.small (by show 1 ≤ 100000; decide), fun p5 n5 => ⟨Cm.small (by show 3 ≤ 100000; decide), fun p6 n6 => ⟨Cm.small (by show 2 ≤ 100000; decide), fun p7 n7 => ⟨Cm.small (by show 3 ≤ 100000; decide), fun p8 n8 => ⟨Cm.small (by show 4 ≤ 100000; decide), fun p9 n9 => ⟨Cm.small (by show 2 ≤ 100000; decide), fun p10 n10 => ?_⟩⟩⟩⟩⟩⟩⟩⟩⟩⟩
  have r2 := made (K := K) n2 (.cons (.str "get") (.cons (made n1 .nil) (.cons (.str "int") .nil)))
  have r4 := made (K := K) n4 (.cons (.str "put") (.cons (made n3 (.cons (.str "int") .nil)) (.cons (.str "int") .nil)))
  have r6 := made (K := K) n6 (.cons (.str "link") (.cons (made n5 (.cons (.str "Cell") .nil)) (.cons (.str "Cell") .nil)))
  have r8 := made (K := K) n8 (.cons (.str "both") (.cons (made n7 (.cons (.str "Cell") (.cons (.str "int") .nil))) (.cons (.str "int") .nil)))
  have t8 := (Cm.same_new n7).trans (Cm.same_new (o := .tup [.str "both", .ref p7, .str "int"]) n8)
  have t6 := (Cm.same_new n5).trans (Cm.same_new (o := .tup [.str "link", .ref p5, .str "Cell"]) n6)
  have t4 := (Cm.same_new n3).trans (Cm.same_new (o := .tup [.str "put", .ref p3, .str "int"]) n4)
  have t2 := (Cm.same_new n1).trans (Cm.same_new (o := .tup [.str "get", .ref p1, .str "int"]) n2)
  have r9 := made (K := K) n9 (.cons (r2.keep (Same.tups ((t4.trans t6).trans t8))) (.cons (r4.keep (Same.tups (t6.trans t8))) (.cons (r6.keep (Same.tups t8)) (.cons r8 .nil))))
  exact q _ _ ((((t2.trans t4).trans t6).trans t8).trans ((Cm.same_new n9).trans (Cm.same_new n10))) (made n10 (.cons (.str "Cell") (.cons r9 .nil)))
def progD (m1 m2 : MkD) (b : Ss) : PyData := .tuple [.tuple [ifaceD], .tuple [m1.d, m2.d], .tuple b.ds]
def spProgram (K : PySem.W.Frag) : Sp := fun vs H Q _ => ∃ (nu : Addr) (ns : List Int) (many : Nat) (level : Int), vs = [.ref nu, .int many, .int level] ∧ SqL K H nu (ns.map V.int) ∧ ns.length = 60 ∧ (∀ x ∈ ns, 0 ≤ x) ∧ many ≤ 4 ∧
  ∀ (H' : Hp) (v : V) (m1 m2 : MkD) (b : Ss), Same H H' → Rp K H' v (progD m1 m2 b) → m1.Ok → m2.Ok → m1.nm = "Box" → m2.nm = "Pair" → OkP [] b → Q v H'
abbrev startS (b : Ss) (e : E) : Ss := .cons (.letS "a" "Cell" (.new "Box" (.cons (.plain "nil" .nil) (.cons (.int 4) .nil)))) (.cons (.letS "b" "Cell" (.new "Pair" (.cons (.name "a") (.cons (.int 7) .nil)))) (.cons (.letS "i" "int" (.int 3)) (b.app (.cons (.plain "return" (.cons e .nil)) .nil))))
abbrev iN : List Str := ["i"]
abbrev abN : List Str := ["a", "b"]
theorem iab : ∀ x ∈ iN ++ fl abN, x = "a" ∨ x = "b" ∨ x = "i" := by decide +kernel
theorem so_iab : ∀ x ∈ iN ++ abN, PyData.strOk x = true := by decide +kernel
theorem layAll_cons {x : PyData} {l : List PyData} (h : x.canLay0 = true) (h2 : PyData.canLayAll0 l = true) : PyData.canLayAll0 (x :: l) = true := by simp [PyData.canLayAll0, h, h2]
theorem ok_start {m : Nat} {b : Ss} {e : E} (o : OkB (iN ++ fl abN) m b) (oe : OkE (iN ++ fl abN) 2 e) (hm : m ≤ 4) : OkP [] (startS b e) := by
  have ml : ∀ x : Str, (x = "a" ∨ x = "b" ∨ x = "i" ∨ x ∈ b.lets) → x ∈ (startS b e).lets := by
    intro x hx
    show x ∈ [_] ++ ([_] ++ ([_] ++ (b.app _).lets))
    rw [Ss.app_lets]
    simp only [List.mem_append, List.mem_singleton]
    rcases hx with h | h | h | h
    · exact .inl h
    · exact .inr (.inl h)
    · exact .inr (.inr (.inl h))
    · exact .inr (.inr (.inr (.inl h)))
  have o3 := okP_snoc (N := iN ++ fl abN) (w := "return") o oe (fun _ h => h) (fun _ h => h) hm (by decide) (by decide +kernel)
  have hs := o3.sz
  have hd := o3.dp
  have bs := o.sz
  have bd := o.dp
  have es := oe.sz
  have ed := oe.dp
  rw [le2] at es
  have hb : Cb m ≤ 4000 := by
    match m, hm with
    | 0, _ => decide
    | 1, _ => decide
    | 2, _ => decide
    | 3, _ => decide
    | 4, _ => decide
  refine ⟨fun x hx => .inr ?_, ?_, ?_, ?_, and2 (by decide +kernel) (and2 (by decide +kernel) (and2 rfl o3.wf)), ⟨.cons (.letS "a" "Cell" (.new "Box" (.cons (.plain "nil" .nil) (.cons (.int 4) .nil)))) (.cons (.letS "b" "Cell" (.new "Pair" (.cons (.name "a") (.cons (.int 7) .nil)))) (.cons (.letS "i" "int" (.int 3)) b)), e, rfl⟩⟩
  · have hx' : x ∈ (("a" :: ([] ++ ([] ++ [])) : List Str)) ++ ((("b" :: ([("a" : Str)] ++ ([] ++ [])) : List Str)) ++ ((("i" :: []) : List Str) ++ (b.app (.cons (.plain "return" (.cons e .nil)) .nil)).uses)) := hx
    rw [Ss.app_uses] at hx'
    simp only [List.mem_append, List.mem_cons, List.not_mem_nil, or_false, false_or] at hx'
    rcases hx' with h | (h | h) | h | h | h
    · exact ml x (.inl h)
    · exact ml x (.inr (.inl h))
    · exact ml x (.inl h)
    · exact ml x (.inr (.inr (.inl h)))
    · rcases o.us x h with h | h
      · rcases iab x h with h | h | h
        · exact ml x (.inl h)
        · exact ml x (.inr (.inl h))
        · exact ml x (.inr (.inr (.inl h)))
      · exact ml x (.inr (.inr (.inr h)))
    · have h' : x ∈ (e.uses ++ []) ++ [] := h
      rw [List.append_nil, List.append_nil] at h'
      rcases iab x (oe.us x h') with h | h | h
      · exact ml x (.inl h)
      · exact ml x (.inr (.inl h))
      · exact ml x (.inr (.inr (.inl h)))
  · show max (max (0 + 1) (max 0 0) + 1 + 1) (max (max 0 (max 0 0) + 1 + 1) (max (0 + 1) (b.app _).dep)) ≤ 12
    omega
  · show (0 + 1) + (1 + 0) + 1 + 1 + (1 + (1 + 0) + 1 + 1 + (1 + 1 + (b.app _).sz)) ≤ 5000
    rw [Ss.app_sz]
    show (0 + 1) + (1 + 0) + 1 + 1 + (1 + (1 + 0) + 1 + 1 + (1 + 1 + (b.sz + (e.sz + 0 + 1 + 0)))) ≤ 5000
    omega
  · refine layAll_cons (lay4 (tx (by decide +kernel)) (tx (by decide +kernel)) (tx (by decide +kernel)) (lay3 (tx (by decide +kernel)) (tx (by decide +kernel)) (lay2 (lay1 (tx (by decide +kernel))) (lay2 (tx (by decide +kernel)) layI)))) ?_
    refine layAll_cons (lay4 (tx (by decide +kernel)) (tx (by decide +kernel)) (tx (by decide +kernel)) (lay3 (tx (by decide +kernel)) (tx (by decide +kernel)) (lay2 (lay2 (tx (by decide +kernel)) (tx (by decide +kernel))) (lay2 (tx (by decide +kernel)) layI)))) ?_
    exact layAll_cons (lay4 (tx (by decide +kernel)) (tx (by decide +kernel)) (tx (by decide +kernel)) (lay2 (tx (by decide +kernel)) layI)) o3.lay
theorem ok_lw_program (T : Txt K mg w a) : FnOk P w K mg base CX0 15 (He.ga K "_law_program") a.d_lw_program ["numbers", "many", "level"] (spProgram K) := by
  obtain ⟨gi, _, _⟩ := ok_E (P := P) (w := w) (base := base) T 3 (by decide)
  have gb := ok_block (P := P) (w := w) (base := base) T 5 (by decide)
  have gm := ok_lw_maker (P := P) (w := w) (base := base) T
  refine T.F_lw_program.ok sc_lw_program (fun vs H Q E h => ?_) (fun cdv A outer s H0 vs Q E hr h => ?_)
  · obtain ⟨nu, ns, many, level, rfl, _⟩ := h
    rfl
  obtain ⟨nu, ns, many, level, rfl, hnu, hnl, hnp, hm, q⟩ := h
  refine ⟨_, PSs.nox (pss_cons (ps_set (i := 3) sc_lw_program.nd rfl (Or.inl rfl) (pe_lst (pa_cons pe_int pa_nil)))
      (pss_cons (ps_set (i := 4) sc_lw_program.nd rfl (Or.inl rfl) (pe_tup (pa_cons (pe_call gm (hr.mono (by omega)) (by rfl) T.g_lw_maker T.F_lw_maker.kp T.b_lw_maker .nil pass0 (pa_cons (pv 0) (pa_cons (pv 3) (pa_cons pe_str pa_nil)))) (pa_cons (pe_call gm (hr.mono (by omega)) (by rfl) T.g_lw_maker T.F_lw_maker.kp T.b_lw_maker .nil pass0 (pa_cons (pv 0) (pa_cons (pv 3) (pa_cons pe_str pa_nil)))) pa_nil))))
      (pss_cons (ps_set (i := 5) sc_lw_program.nd rfl (Or.inl rfl) (pe_tup (pa_cons pe_str (pa_cons pe_str (pa_cons pe_str (pa_cons (pe_tup (pa_cons pe_str (pa_cons pe_str (pa_cons (pe_tup (pa_cons (pe_tup (pa_cons pe_str pa_nil)) (pa_cons (pe_tup (pa_cons pe_str (pa_cons pe_int pa_nil))) pa_nil))) pa_nil)))) pa_nil))))))
      (pss_cons (ps_set (i := 6) sc_lw_program.nd rfl (Or.inl rfl) (pe_tup (pa_cons pe_str (pa_cons pe_str (pa_cons pe_str (pa_cons (pe_tup (pa_cons pe_str (pa_cons pe_str (pa_cons (pe_tup (pa_cons (pe_tup (pa_cons pe_str (pa_cons pe_str pa_nil))) (pa_cons (pe_tup (pa_cons pe_str (pa_cons pe_int pa_nil))) pa_nil))) pa_nil)))) pa_nil))))))
      (pss_cons (ps_set (i := 7) sc_lw_program.nd rfl (Or.inl rfl) (pe_tup (pa_cons pe_str (pa_cons pe_str (pa_cons pe_str (pa_cons (pe_tup (pa_cons pe_str (pa_cons pe_int pa_nil))) pa_nil))))))
      (pss_cons (ps_set (i := 8) sc_lw_program.nd rfl (Or.inl rfl) (pe_call gb (hr.mono (by omega)) (by rfl) T.g_lw_block T.F_lw_block.kp T.b_lw_block .nil pass0 (pa_cons (pv 0) (pa_cons (pv 3) (pa_cons (pe_lst (pa_cons pe_str pa_nil)) (pa_cons (pe_lst (pa_cons pe_str (pa_cons pe_str pa_nil))) (pa_cons (pv 2) (pa_cons (pv 1) (pa_cons pe_str pa_nil)))))))))
      (pss_cons (ps_set (i := 9) sc_lw_program.nd rfl (Or.inl rfl) (pe_tup (pa_cons pe_str (pa_cons (pe_call gi (hr.mono (by omega)) (by rfl) T.g_lw_int T.F_lw_int.kp T.b_lw_int .nil pass0 (pa_cons (pv 0) (pa_cons (pv 3) (pa_cons (pe_lst (pa_cons pe_str pa_nil)) (pa_cons (pe_lst (pa_cons pe_str (pa_cons pe_str pa_nil))) (pa_cons (pv 2) (pa_cons pe_int pa_nil))))))) pa_nil))))
      (pss_one (ps_ret (pe_tup (pa_cons (pe_tup (pa_cons (pe_call0 (ok_lw_interface T) (hr.mono (by omega)) (by rfl) T.g_lw_interface T.F_lw_interface.kp T.b_lw_interface .nil pass0) pa_nil)) (pa_cons (pv 4) (pa_cons (pe_op op_catA (pe_op op_catA (pe_tup (pa_cons (pv 5) (pa_cons (pv 6) (pa_cons (pv 7) pa_nil)))) (pv 8)) (pe_tup (pa_cons (pv 9) pa_nil))) pa_nil))))))))))))), ?_⟩
  -- at = [0]
  refine ⟨Cm.small (by show 1 ≤ 100000; decide), fun c nc => ?_⟩
  have s0 := Cm.same_new (o := .lst [.int 0]) nc
  have g0 : G K (upd H0 c (.lst [.int 0])) nu c := ⟨ns, 0, s0.seq hnu, hnl, hnp, upd_same, by decide⟩
  -- makers
  refine ⟨_, rfl, _, rfl, nu, c, "Box", rfl, g0, fun H1 v1 m1 g1 k1 r1 o1 e1 => ?_⟩
  refine ⟨_, rfl, _, rfl, nu, c, "Pair", rfl, g1, fun H2 v2 m2 g2 k2 r2 o2 e2 => ⟨Cm.small (by show 2 ≤ 100000; decide), fun p3 n3 => ?_⟩⟩
  have R3 : Rps K _ _ _ := .cons (made (K := K) n3 (.cons (g1.rp k2 r1) (.cons r2 .nil))) .nil
  have s3 := Cm.same_new (o := .tup [v1, v2]) n3
  -- first
  refine ⟨Cm.small (by show 1 ≤ 100000; decide), fun p4 n4 => ⟨Cm.small (by show 2 ≤ 100000; decide), fun p5 n5 => ⟨Cm.small (by show 2 ≤ 100000; decide), fun p6 n6 => ⟨Cm.small (by show 3 ≤ 100000; decide), fun p7 n7 => ⟨Cm.small (by show 4 ≤ 100000; decide), fun p8 n8 => ?_⟩⟩⟩⟩⟩
  have r6 := made (K := K) n6 (.cons ((made (K := K) n4 (.cons (.str "nil") .nil)).keep (Same.tups (Cm.same_new n5))) (.cons (made n5 (.cons (.str "int") (.cons (.int 4) .nil))) .nil))
  have r8 := made (K := K) n8 (.cons (.str "let") (.cons (.str "a") (.cons (.str "Cell") (.cons (made n7 (.cons (.str "new") (.cons (.str "Box") (.cons r6 .nil)))) .nil))))
  have s8 := (Cm.same_new n4).trans ((Cm.same_new n5).trans ((Cm.same_new n6).trans ((Cm.same_new n7).trans (Cm.same_new (o := .tup [.str "let", .str "a", .str "Cell", .ref p7]) n8))))
  have R8 : Rps K _ _ _ := .cons r8 (R3.keep (Same.tups s8))
  -- second
  refine ⟨Cm.small (by show 2 ≤ 100000; decide), fun p9 n9 => ⟨Cm.small (by show 2 ≤ 100000; decide), fun p10 n10 => ⟨Cm.small (by show 2 ≤ 100000; decide), fun p11 n11 => ⟨Cm.small (by show 3 ≤ 100000; decide), fun p12 n12 => ⟨Cm.small (by show 4 ≤ 100000; decide), fun p13 n13 => ?_⟩⟩⟩⟩⟩
  have r11 := made (K := K) n11 (.cons ((made (K := K) n9 (.cons (.str "name") (.cons (.str "a") .nil))).keep (Same.tups (Cm.same_new n10))) (.cons (made n10 (.cons (.str "int") (.cons (.int 7) .nil))) .nil))
  have r13 := made (K := K) n13 (.cons (.str "let") (.cons (.str "b") (.cons (.str "Cell") (.cons (made n12 (.cons (.str "new") (.cons (.str "Pair") (.cons r11 .nil)))) .nil))))
  have s13 := (Cm.same_new n9).trans ((Cm.same_new n10).trans ((Cm.same_new n11).trans ((Cm.same_new n12).trans (Cm.same_new (o := .tup [.str "let", .str "b", .str "Cell", .ref p12]) n13))))
  have R13 : Rps K _ _ _ := .cons r13 (R8.keep (Same.tups s13))
  -- third
  refine ⟨Cm.small (by show 2 ≤ 100000; decide), fun p14 n14 => ⟨Cm.small (by show 4 ≤ 100000; decide), fun p15 n15 => ?_⟩⟩
  have r15 := made (K := K) n15 (.cons (.str "let") (.cons (.str "i") (.cons (.str "int") (.cons (made n14 (.cons (.str "int") (.cons (.int 3) .nil))) .nil))))
  have s15 := (Cm.same_new n14).trans (Cm.same_new (o := .tup [.str "let", .str "i", .str "int", .ref p14]) n15)
  have R15 : Rps K _ _ _ := .cons r15 (R13.keep (Same.tups s15))
  have sA := s3.trans (s8.trans (s13.trans s15))
  -- block
  refine ⟨_, rfl, _, rfl, Cm.small (by show 1 ≤ 100000; decide), fun li nli => ⟨Cm.small (by show 2 ≤ 100000; decide), fun lc nlc => ?_⟩⟩
  have sB := (Cm.same_new nli).trans (Cm.same_new (o := .lst [.str "a", .str "b"]) nlc)
  have g16 := (g2.same sA).same sB
  have ev16 : Ev K _ nu c li lc iN abN := ⟨g16, (by rw [upd_ne (ne_of_none upd_same nlc)]; exact upd_same), upd_same, so_iab⟩
  refine ⟨_, rfl, _, rfl, nu, c, li, lc, _, _, level, many, "s", rfl, by omega, ev16, by show 1 + 2 * many ≤ 90; omega, by decide +kernel, by show 1 + 10 * many ≤ 500; omega, by show 2 + 10 * many ≤ 500; omega, fun H17 v17 b17 g17 k17 r17 o17 => ?_⟩
  have R17 := (R15.keep (Same.tups sB)).keep (g16.tups k17)
  -- end
  refine ⟨_, rfl, _, rfl, Cm.small (by show 1 ≤ 100000; decide), fun li2 nli2 => ⟨Cm.small (by show 2 ≤ 100000; decide), fun lc2 nlc2 => ?_⟩⟩
  have sC := (Cm.same_new nli2).trans (Cm.same_new (o := .lst [.str "a", .str "b"]) nlc2)
  have g18 := g17.same sC
  have ev18 : Ev K _ nu c li2 lc2 iN abN := ⟨g18, (by rw [upd_ne (ne_of_none upd_same nlc2)]; exact upd_same), upd_same, so_iab⟩
  refine ⟨_, rfl, nu, c, li2, lc2, _, _, level, 2, rfl, by decide, ev18, fun H19 v19 e19 g19 k19 r19 o19 => ⟨Cm.small (by show 2 ≤ 100000; decide), fun p20 n20 => ?_⟩⟩
  have R19 := (R17.keep (Same.tups sC)).keep (g18.tups k19)
  have r17b := g18.rp k19 (r17.keep (Same.tups sC))
  have s20 := Cm.same_new (o := .tup [.str "return", v19]) n20
  have r20 := made (K := K) n20 (.cons (.str "return") (.cons r19 .nil))
  -- the program
  refine ⟨rfl, fun H21 v21 s21 r21 => ⟨Cm.small (by show 1 ≤ 100000; decide), fun p22 n22 => ⟨_, rfl, _, rfl, _, rfl, _, rfl, Cm.small (by show 3 ≤ 100000; decide), fun p23 n23 => ?_⟩⟩⟩
  have s22 := (s20.trans s21).trans (Cm.same_new (o := .tup [v21]) n22)
  have r22 := made1 (K := K) n22 r21
  obtain ⟨vi, _, e3, ri, Ra⟩ := (R19.keep (Same.tups s22)).cons_inv
  cases e3
  obtain ⟨vb, _, e4, rb, Rb⟩ := Ra.cons_inv
  cases e4
  obtain ⟨va, _, e5, ra, Rc⟩ := Rb.cons_inv
  cases e5
  obtain ⟨vm, _, e6, rm, Rd⟩ := Rc.cons_inv
  cases e6
  have r23 := made (K := K) n23 (.cons ra (.cons rb (.cons ri .nil)))
  have s23 := s22.trans (Cm.same_new (o := .tup [.ref p8, .ref p13, .ref p15]) n23)
  have hb := szB b17
  have hbs := o17.sz
  have hcb : Cb many ≤ 4000 := by
    match many, hm with
    | 0, _ => decide
    | 1, _ => decide
    | 2, _ => decide
    | 3, _ => decide
    | 4, _ => decide
  refine ⟨_, rfl, cat_rp r23 (r17b.keep (Same.tups s23)) (by show 3 + b17.ds.length ≤ 10000000; omega) fun v24 H24 s24 r24 => ?_⟩
  refine ⟨_, rfl, Cm.small (by show 1 ≤ 100000; decide), fun p25 n25 => ?_⟩
  have s25 := s24.trans (Cm.same_new (o := .tup [.ref p20]) n25)
  have r25 := made1 (K := K) n25 (r20.keep (Same.tups (((s21.trans (Cm.same_new n22)).trans (Cm.same_new n23)).trans s24)))
  refine cat_rp (r24.keep (Same.tups (Cm.same_new n25))) r25 (by simp only [List.length_append, List.length_cons, List.length_nil]; omega) fun v26 H26 s26 r26 => ⟨Cm.small (by show 3 ≤ 100000; decide), fun p27 n27 => ?_⟩
  have s27 := ((s23.trans s25).trans s26).trans (Cm.same_new (o := .tup [.ref p22, .ref p3, v26]) n27)
  have ds : (startS b17 e19).ds = (([(S.letS "a" "Cell" (.new "Box" (.cons (.plain "nil" .nil) (.cons (.int 4) .nil)))).d, (S.letS "b" "Cell" (.new "Pair" (.cons (.name "a") (.cons (.int 7) .nil)))).d, (S.letS "i" "int" (.int 3)).d] ++ b17.ds) ++ [(S.plain "return" (.cons e19 .nil)).d]) := by
    show _ :: _ :: _ :: (b17.app _).ds = _
    rw [Ss.app_ds]
    rfl
  have r26' : Rp K H26 v26 (.tuple (startS b17 e19).ds) := by
    rw [ds]
    exact r26
  have kAll : Keep c (upd H0 c (.lst [.int 0])) _ := (((((k1.trans k2).trans (Keep.of sA)).trans (Keep.of sB)).trans k17).trans (Keep.of sC)).trans (k19.trans (Keep.of s27))
  refine q _ _ m1 m2 (startS b17 e19) (fun x o hx => kAll x o (s0 x o hx) (ne_of_none hx nc)) (made n27 (.cons (r22.keep (Same.tups (((Cm.same_new n23).trans s25).trans s26))) (.cons (rm.keep (Same.tups (((Cm.same_new n23).trans s25).trans s26))) (.cons r26' .nil)))) o1 o2 e1 e2 (ok_start o17 o19 hm)
/-! ### the compiler: expressions -/
theorem args3 {x y : V} {i j : Int} (h : i = j) : ([x, y, .int i] : List V) ++ [] = [x, y, .int j] := by
  rw [h]
  rfl
theorem intE {K : PySem.W.Frag} {H : Hp} {i j : Int} (h : i = j) : Rp K H (.int i) (.int j) := by
  rw [h]
  exact .int j
abbrev pX : List Str := ["names", "expression", "at"]
/-- the code of e, from a place on -/
def spX (K : PySem.W.Frag) (d : Nat) : Sp := fun vs H Q _ => ∃ (nd : Addr) (v : V) (at_ : Nat) (e : E) (pl : Plc) (N : List Str), vs = [.ref nd, v, .int at_] ∧ PlAt K H nd pl N ∧ Rp K H v e.d ∧ e.wf = true ∧ (∀ x ∈ e.uses, x ∈ N) ∧ e.dep < d ∧ e.sz ≤ 100000 ∧
  ∀ (H' : Hp) (u : V), Same H H' → Rp K H' u (.tuple (e.code pl at_)) → Q u H'
def spR (K : PySem.W.Frag) (d : Nat) : Sp := fun vs H Q _ => ∃ (nd : Addr) (v : V) (at_ : Nat) (e : Es) (pl : Plc) (N : List Str), vs = [.ref nd, v, .int at_] ∧ PlAt K H nd pl N ∧ Rp K H v (.tuple e.ds) ∧ e.wf = true ∧ (∀ x ∈ e.uses, x ∈ N) ∧ e.dep < d ∧ e.sz ≤ 100000 ∧
  ∀ (H' : Hp) (u : V), Same H H' → Rp K H' u (.tuple (e.code pl at_)) → Q u H'
/-- a call or a fork -/
def spC (K : PySem.W.Frag) (d : Nat) : Sp := fun vs H Q _ => ∃ (nd : Addr) (v : V) (at_ : Nat) (wd : Str) (r : E) (f : Str) (as : Es) (pl : Plc) (N : List Str), vs = [.ref nd, v, .int at_] ∧ PlAt K H nd pl N ∧ Rp K H v (.tuple [.str wd, r.d, .str f, .tuple as.ds]) ∧ (r.wf && as.wf) = true ∧ (∀ x ∈ r.uses ++ as.uses, x ∈ N) ∧ max r.dep as.dep < d ∧ r.sz + as.sz ≤ 100000 ∧
  ∀ (H' : Hp) (u : V), Same H H' → Rp K H' u (.tuple ((r.code pl at_ ++ as.code pl (at_ + r.sz)) ++ [I3 wd f as.len])) → Q u H'
/-- and, or -/
def spO (K : PySem.W.Frag) (d : Nat) : Sp := fun vs H Q _ => ∃ (nd : Addr) (v : V) (at_ : Nat) (o : Bool) (l r : E) (pl : Plc) (N : List Str), vs = [.ref nd, v, .int at_] ∧ PlAt K H nd pl N ∧ Rp K H v (E.choice o l r).d ∧ (l.wf && r.wf) = true ∧ (∀ x ∈ l.uses ++ r.uses, x ∈ N) ∧ max l.dep r.dep < d ∧ (E.choice o l r).sz ≤ 100000 ∧
  ∀ (H' : Hp) (u : V), Same H H' → Rp K H' u (.tuple ((E.choice o l r).code pl at_)) → Q u H'
theorem ok_row (T : Txt K mg w a) (d : Nat) (gx : FnOk P w K mg base CX0 (3 * d + 1) (He.ga K "_expression_code") a.d_expression_code pX (spX K d)) :
    FnOk P w K mg base CX0 (3 * d + 2) (He.ga K "_row_code") a.d_row_code ["names", "expressions", "at"] (spR K d) := by
  refine T.F_row_code.ok sc_row_code (fun vs H Q E h => ?_) (fun cdv A outer s H vs Q E hr h => ?_)
  · obtain ⟨_, _, _, _, _, _, rfl, _⟩ := h
    rfl
  obtain ⟨nd, v, at_, es, pl, N, rfl, hpl, hv, hw, hu, hd, hsz, q⟩ := h
  refine ⟨_, PSs.nox (pss_cons (ps_set (i := 3) sc_row_code.nd rfl (Or.inl rfl) (pe_tup pa_nil))
      (pss_cons (ps_for PassesOwn.never rfl (pi_tup (pv 1)) (pg_name (i := 4) sc_row_code.nd rfl (Or.inl rfl))
      (pss_one (ps_set (i := 3) sc_row_code.nd rfl (Or.inl rfl) (pe_op op_catA (pv 3) (pe_call gx (hr.mono (by omega)) (by rfl) T.g_expression_code T.F_expression_code.kp T.b_expression_code .nil pass0 (pa_cons (pv 0) (pa_cons (pv 4) (pa_cons (pe_op op_add (pv 2) (pe_callB call_len_seq (by rfl) T.g_len boot_len (pa_cons (pv 3) pa_nil))) pa_nil))))))))
      (pss_one (ps_ret (pv 3))))), ?_⟩
  refine ⟨Nat.zero_le _, fun p np => ?_⟩
  have s0 := Cm.same_new (o := .tup []) np
  obtain ⟨b, vs, rfl, hb, hvs⟩ := hv.tup_inv
  have hlen : vs.length = es.list.length := by rw [hvs.len, Es.list_ds, List.length_map]
  refine ⟨_, rfl, b, rfl, ⟨vs, Cm.sameT s0 hb⟩, for_tup (K := K) (a := b) (xs := vs) (fun i σ H2 => ∃ (u : V) (x4 : Option V), σ = [some (.ref nd), some (.ref b), some (.int at_), some u, x4] ∧ Same H H2 ∧ Rp K H2 u (.tuple ((es.take i).code pl at_)))
    ⟨_, none, rfl, s0, made np (by cases es <;> exact .nil)⟩ (fun i σ H2 _ ⟨_, _, _, s2, _⟩ => Cm.sameT s2 hb) (fun i x σ H2 hx ⟨u, x4, e, s2, ru⟩ => ?_) fun σ H2 ⟨u, x4, e, s2, ru⟩ => ?_⟩
  · subst e
    obtain ⟨e, he, re⟩ := hvs.at_E hx
    obtain ⟨h1, h2, h3, h4⟩ := Es.part (List.mem_of_getElem? he)
    obtain ⟨nc, nz⟩ := Es.take_next (pl := pl) at_ he
    obtain ⟨c, cs, rfl, hc, hcl⟩ := len_rp ru
    rw [Es.code_len] at hcl
    refine ⟨_, rfl, _, rfl, _, rfl, _, rfl, _, rfl, c, cs, rfl, .inr hc, _, _, rfl, rfl, nd, x, at_ + (es.take i).sz, e, pl, N, args3 (by omega), hpl.same s2, re.keep (Same.tups s2), h1 hw, fun y hy => hu y (h2 y hy), by omega, by omega, fun H3 u3 s3 r3 => ?_⟩
    have hz := Es.take_sz es i
    refine cat_rp (ru.keep (Same.tups s3)) r3 (by rw [Es.code_len, Pt.E.code_len]; omega) fun u4 H4 s4 r4 => ?_
    exact ⟨u4, _, rfl, (s2.trans s3).trans s4, by rw [nc]; exact r4⟩
  · subst e
    rw [hlen, Es.take_all] at ru
    exact ⟨_, rfl, q _ _ s2 ru⟩
theorem E.sz_pos : ∀ e : E, 1 ≤ e.sz
  | .int _ => Nat.le_refl 1
  | .name _ => Nat.le_refl 1
  | .choice o l r => by
    show 1 ≤ l.sz + r.sz + (if o then 2 else 0) + 5
    omega
  | .call r _ as => Nat.le_add_left 1 (r.sz + as.sz)
  | .new _ as => Nat.le_add_left 1 as.sz
  | .plain _ as => Nat.le_add_left 1 as.sz
theorem as_len : ∀ as : Es, as.ds.length ≤ as.sz
  | .nil => Nat.le_refl 0
  | .cons e es => by
    have h1 := E.sz_pos e
    have h2 := as_len es
    show es.ds.length + 1 ≤ e.sz + es.sz
    omega
theorem ok_call (T : Txt K mg w a) (d : Nat) (gr : FnOk P w K mg base CX0 (3 * d + 2) (He.ga K "_row_code") a.d_row_code ["names", "expressions", "at"] (spR K d)) :
    FnOk P w K mg base CX0 (3 * d + 3) (He.ga K "_call_code") a.d_call_code ["names", "call", "at"] (spC K d) := by
  refine T.F_call_code.ok sc_call_code (fun vs H Q E h => ?_) (fun cdv A outer s H vs Q E hr h => ?_)
  · obtain ⟨_, _, _, _, _, _, _, _, _, rfl, _⟩ := h
    rfl
  obtain ⟨nd, v, at_, wd, r, f, as, pl, N, rfl, hpl, hv, hw, hu, hd, hsz, q⟩ := h
  refine ⟨_, PSs.nox (pss_cons (ps_asg (pv 1) (pg_tup (by rfl) (pgs_cons (pg_name (i := 3) sc_call_code.nd rfl (Or.inl rfl)) (pgs_cons (pg_name (i := 4) sc_call_code.nd rfl (Or.inl rfl)) (pgs_cons (pg_name (i := 5) sc_call_code.nd rfl (Or.inl rfl)) (pgs_cons (pg_name (i := 6) sc_call_code.nd rfl (Or.inl rfl)) pgs_nil))))))
      (pss_one (ps_ret (pe_op op_catA (pe_call gr (hr.mono (by omega)) (by rfl) T.g_row_code T.F_row_code.kp T.b_row_code .nil pass0 (pa_cons (pv 0) (pa_cons (pe_op op_catA (pe_tup (pa_cons (pv 4) pa_nil)) (pv 6)) (pa_cons (pv 2) pa_nil)))) (pe_tup (pa_cons (pe_tup (pa_cons (pv 3) (pa_cons (pv 5) (pa_cons (pe_callB call_len_seq (by rfl) T.g_len boot_len (pa_cons (pv 6) pa_nil)) pa_nil)))) pa_nil)))))), ?_⟩
  obtain ⟨b, vs, rfl, hb, hvs⟩ := hv.tup_inv
  obtain ⟨v0, vs, rfl, r0, hvs⟩ := hvs.cons_inv
  obtain ⟨v1, vs, rfl, r1, hvs⟩ := hvs.cons_inv
  obtain ⟨v2, vs, rfl, r2, hvs⟩ := hvs.cons_inv
  obtain ⟨v3, vs, rfl, r3, hvs⟩ := hvs.cons_inv
  cases hvs.nil_inv
  cases r0.str_inv
  cases r2.str_inv
  refine ⟨_, rfl, b, _, rfl, hb, rfl, _, _, rfl, _, _, rfl, _, _, rfl, _, _, rfl, rfl, ?_⟩
  refine ⟨_, rfl, _, rfl, Cm.small (by show 1 ≤ 100000; decide), fun p np => ?_⟩
  have s0 := Cm.same_new (o := .tup [v1]) np
  have hl := Es.ds_len as
  obtain ⟨hw1, hw2⟩ := Bool.and_eq_true_iff.mp hw
  have hal := as_len as
  refine ⟨_, rfl, cat_rp (made1 np r1) (r3.keep (Same.tups s0)) (by show 1 + as.ds.length ≤ 10000000; omega) fun u1 H1 s1 ru1 => ?_⟩
  refine ⟨_, rfl, nd, u1, at_, .cons r as, pl, N, rfl, hpl.same (s0.trans s1), ru1, and2 hw1 hw2, hu, hd, hsz, fun H2 u2 s2 ru2 => ?_⟩
  obtain ⟨c, cs, rfl, hc, hcl⟩ := len_rp r3
  have sA := (s0.trans s1).trans s2
  refine ⟨_, rfl, _, rfl, _, rfl, c, cs, rfl, .inr (Cm.sameT sA hc), Cm.small (by show 3 ≤ 100000; decide), fun p3 np3 => ⟨Cm.small (by show 1 ≤ 100000; decide), fun p4 np4 => ?_⟩⟩
  have s4 := (Cm.same_new np3).trans (Cm.same_new (o := .tup [.ref p3]) np4)
  have e : (cs.length : Int) = (as.len : Nat) := by rw [hcl, hl]
  have r4 := made1 (K := K) np4 (made (K := K) np3 (.cons (.str wd) (.cons (.str f) (.cons (.int (cs.length : Int)) .nil))))
  refine cat_rp (ru2.keep (Same.tups s4)) r4 (by rw [Es.code_len]; show r.sz + as.sz + 1 ≤ 10000000; omega) fun u5 H5 s5 r5 => ?_
  rw [e] at r5
  exact q _ _ ((sA.trans s4).trans s5) r5
theorem ok_chc (T : Txt K mg w a) (d : Nat) (gx : FnOk P w K mg base CX0 (3 * d + 1) (He.ga K "_expression_code") a.d_expression_code pX (spX K d)) :
    FnOk P w K mg base CX0 (3 * d + 2) (He.ga K "_choice_code") a.d_choice_code pX (spO K d) := by
  refine T.F_choice_code.ok sc_choice_code (fun vs H Q E h => ?_) (fun cdv A outer s H vs Q E hr h => ?_)
  · obtain ⟨_, _, _, _, _, _, _, _, rfl, _⟩ := h
    rfl
  obtain ⟨nd, v, at_, o, l, r, pl, N, rfl, hpl, hv, hw, hu, hd, hsz, q⟩ := h
  refine ⟨_, PSs.nox (pss_cons (ps_asg (pv 1) (pg_tup (by rfl) (pgs_cons (pg_name (i := 3) sc_choice_code.nd rfl (Or.inl rfl)) (pgs_cons (pg_name (i := 4) sc_choice_code.nd rfl (Or.inl rfl)) (pgs_cons (pg_name (i := 5) sc_choice_code.nd rfl (Or.inl rfl)) pgs_nil)))))
      (pss_cons (ps_set (i := 6) sc_choice_code.nd rfl (Or.inl rfl) (pe_ifExp (pt_cmpR op_eq (pv 3) pe_str (nomark _)) (pe_tup (pa_cons (pe_tup (pa_cons pe_str pa_nil)) pa_nil)) (pe_tup pa_nil)))
      (pss_cons (ps_set (i := 7) sc_choice_code.nd rfl (Or.inl rfl) (pe_op op_catA (pe_call gx (hr.mono (by omega)) (by rfl) T.g_expression_code T.F_expression_code.kp T.b_expression_code .nil pass0 (pa_cons (pv 0) (pa_cons (pv 4) (pa_cons (pv 2) pa_nil)))) (pv 6)))
      (pss_cons (ps_set (i := 8) sc_choice_code.nd rfl (Or.inl rfl) (pe_op op_catA (pe_call gx (hr.mono (by omega)) (by rfl) T.g_expression_code T.F_expression_code.kp T.b_expression_code .nil pass0 (pa_cons (pv 0) (pa_cons (pv 5) (pa_cons (pe_op op_add (pe_op op_add (pv 2) (pe_callB call_len_seq (by rfl) T.g_len boot_len (pa_cons (pv 7) pa_nil))) pe_int) pa_nil)))) (pv 6)))
      (pss_cons (ps_set (i := 9) sc_choice_code.nd rfl (Or.inl rfl) (pe_op op_add (pe_op op_add (pe_op op_add (pe_op op_add (pv 2) (pe_callB call_len_seq (by rfl) T.g_len boot_len (pa_cons (pv 7) pa_nil))) pe_int) (pe_callB call_len_seq (by rfl) T.g_len boot_len (pa_cons (pv 8) pa_nil))) pe_int))
      (pss_cons (ps_asg (pe_ifExp (pt_cmpR op_eq (pv 3) pe_str (nomark _)) (pe_tup (pa_cons pe_int (pa_cons pe_int pa_nil))) (pe_tup (pa_cons pe_int (pa_cons pe_int pa_nil)))) (pg_tup (by rfl) (pgs_cons (pg_name (i := 10) sc_choice_code.nd rfl (Or.inl rfl)) (pgs_cons (pg_name (i := 11) sc_choice_code.nd rfl (Or.inl rfl)) pgs_nil))))
      (pss_cons (ps_set (i := 12) sc_choice_code.nd rfl (Or.inl rfl) (pe_tup (pa_cons (pe_tup (pa_cons pe_str (pa_cons (pv 10) pa_nil))) (pa_cons (pe_tup (pa_cons pe_str (pa_cons (pe_op op_add (pv 9) pe_int) pa_nil))) (pa_cons (pe_tup (pa_cons pe_str (pa_cons (pv 11) pa_nil))) pa_nil)))))
      (pss_one (ps_ret (pe_op op_catA (pe_op op_catA (pe_op op_catA (pe_op op_catA (pv 7) (pe_tup (pa_cons (pe_tup (pa_cons pe_str (pa_cons (pv 9) pa_nil))) pa_nil))) (pv 8)) (pe_tup (pa_cons (pe_tup (pa_cons pe_str (pa_cons (pv 9) pa_nil))) pa_nil))) (pv 12))))))))))), ?_⟩
  obtain ⟨b, vs, rfl, hb, hvs⟩ := hv.tup_inv
  obtain ⟨v0, vs, rfl, r0, hvs⟩ := hvs.cons_inv
  obtain ⟨v1, vs, rfl, r1, hvs⟩ := hvs.cons_inv
  obtain ⟨v2, vs, rfl, r2, hvs⟩ := hvs.cons_inv
  cases hvs.nil_inv
  cases r0.str_inv
  refine ⟨_, rfl, b, _, rfl, hb, rfl, _, _, rfl, _, _, rfl, _, _, rfl, rfl, ?_⟩
  obtain ⟨hw1, hw2⟩ := Bool.and_eq_true_iff.mp hw
  cases o
  · refine ⟨_, rfl, rfl, _, rfl, Cm.itES (fun e => absurd e (by decide)) (fun _ => ⟨Nat.zero_le _, fun p np => ?_⟩)⟩
    have ru : Rp K (upd H p (.tup [])) (.ref p) (.tuple (tn false)) := Rp.made np .nil
    have s0 := Cm.same_new (o := .tup []) np
    generalize upd H p (.tup []) = H1 at ru s0 ⊢
    generalize V.ref p = u at ru ⊢
    have hz : l.sz + r.sz + 5 ≤ 100000 := Nat.le_trans (by show l.sz + r.sz + 5 ≤ l.sz + r.sz + _ + 5; omega) hsz
    refine ⟨_, rfl, _, rfl, _, rfl, nd, v1, at_, l, pl, N, rfl, hpl.same s0, r1.keep (Same.tups s0), hw1, fun x hx => hu x (List.mem_append_left _ hx), by omega, by omega, fun H2 u2 s2 ru2 => ?_⟩
    have s02 := s0.trans s2
    refine ⟨_, rfl, cat_rp ru2 (ru.keep (Same.tups s2)) (by rw [Pt.E.code_len, tn_len]; show l.sz + (if false then 1 else 0) ≤ 10000000; simp; omega) fun u3 H3 s3 ru3 => ?_⟩
    have s03 := s02.trans s3
    obtain ⟨c3, cs3, rfl, hc3, hcl3⟩ := len_rp ru3
    rw [List.length_append, Pt.E.code_len, tn_len] at hcl3
    refine ⟨_, rfl, _, rfl, _, rfl, _, rfl, c3, cs3, rfl, .inr hc3, _, _, rfl, rfl, _, _, rfl, rfl, ?_⟩
    refine ⟨nd, v2, at_ + l.sz + kn false + 1, r, pl, N, args3 (by omega), hpl.same s03, r2.keep (Same.tups s03), hw2, fun x hx => hu x (List.mem_append_right _ hx), by omega, by omega, fun H4 u4 s4 ru4 => ?_⟩
    have s04 := s03.trans s4
    refine ⟨_, rfl, cat_rp ru4 (ru.keep (Same.tups ((s2.trans s3).trans s4))) (by rw [Pt.E.code_len, tn_len]; show r.sz + (if false then 1 else 0) ≤ 10000000; simp; omega) fun u5 H5 s5 ru5 => ?_⟩
    obtain ⟨c5, cs5, rfl, hc5, hcl5⟩ := len_rp ru5
    rw [List.length_append, Pt.E.code_len, tn_len] at hcl5
    refine ⟨_, rfl, _, rfl, c3, cs3, rfl, .inr (Cm.sameT (s4.trans s5) hc3), _, _, rfl, rfl, _, _, rfl, rfl, _, rfl, c5, cs5, rfl, .inr hc5, _, _, rfl, rfl, _, _, rfl, rfl, ?_⟩
    have ru3' := ru3.keep (Same.tups (s4.trans s5))
    have s05 := s04.trans s5
    have eD : ((at_ : Int) + (cs3.length : Nat) + 1 + (cs5.length : Nat) + 3) = ((at_ + l.sz + kn false + 1 + r.sz + kn false + 3 : Nat) : Int) := by omega
    have eI : V.int ((at_ : Int) + (cs3.length : Nat) + 1 + (cs5.length : Nat) + 3) = V.int ((at_ + l.sz + kn false + 1 + r.sz + kn false + 3 : Nat) : Int) := congrArg V.int eD
    refine ⟨_, rfl, rfl, _, rfl, Cm.itES (fun e => absurd e (by decide)) (fun _ => ⟨Cm.small (by show 2 ≤ 100000; decide), fun p6 np6 => ?_⟩)⟩
    have s6 := Cm.same_new (o := .tup [.int 1, .int 0]) np6
    refine ⟨p6, _, rfl, Cm.sqt_new, rfl, _, _, rfl, _, _, rfl, rfl, ?_⟩
    have sB := s05.trans s6
    have rt := ru.keep (Same.tups ((((s2.trans s3).trans s4).trans s5).trans s6))
    have rf := ru3'.keep (Same.tups s6)
    have rs := ru5.keep (Same.tups s6)
    generalize upd H5 p6 (.tup [.int 1, .int 0]) = H6 at sB rt rf rs ⊢
    refine ⟨_, rfl, Cm.small (by show 2 ≤ 100000; decide), fun p7 np7 => ⟨_, rfl, _, _, rfl, rfl, Cm.small (by show 2 ≤ 100000; decide), fun p8 np8 => ⟨_, rfl, Cm.small (by show 2 ≤ 100000; decide), fun p9 np9 => ⟨Cm.small (by show 3 ≤ 100000; decide), fun p10 np10 => ?_⟩⟩⟩⟩
    have r7 := made (K := K) np7 (.cons (.str "push") (.cons (.int 1) .nil))
    have r8 := made (K := K) np8 (.cons (.str "jump") (.cons (intE (congrArg (· + 1) eD)) .nil))
    have r9 := made (K := K) np9 (.cons (.str "push") (.cons (.int 0) .nil))
    have s78 := Cm.same_new (o := .tup [.str "jump", .int ((at_ : Int) + (cs3.length : Nat) + 1 + (cs5.length : Nat) + 3 + 1)]) np8
    have s79 := Cm.same_new (o := .tup [.str "push", .int 0]) np9
    have s710 := Cm.same_new (o := .tup [.ref p7, .ref p8, .ref p9]) np10
    have r10 := made (K := K) np10 (.cons (r7.keep (Same.tups (s78.trans s79))) (.cons (r8.keep (Same.tups s79)) (.cons r9 .nil)))
    have s7 := (((Cm.same_new (o := .tup [.str "push", .int 1]) np7).trans s78).trans s79).trans s710
    have hlf : (l.code pl at_ ++ tn false).length = l.sz + kn false := by rw [List.length_append, Pt.E.code_len, tn_len]
    have hls : (r.code pl (at_ + l.sz + kn false + 1) ++ tn false).length = r.sz + kn false := by rw [List.length_append, Pt.E.code_len, tn_len]
    have hk : kn false ≤ 1 := by decide
    have rf7 := rf.keep (Same.tups s7)
    have rs7 := rs.keep (Same.tups s7)
    have sC := sB.trans s7
    refine ⟨_, rfl, _, rfl, Cm.small (by show 2 ≤ 100000; decide), fun p11 np11 => ⟨Cm.small (by show 1 ≤ 100000; decide), fun p12 np12 => ?_⟩⟩
    have r12 := made1 (K := K) np12 (made np11 (.cons (.str "unless") (.cons (intE eD) .nil)))
    have s11 := (Cm.same_new (o := .tup [.str "unless", .int ((at_ : Int) + (cs3.length : Nat) + 1 + (cs5.length : Nat) + 3)]) np11).trans (Cm.same_new (o := .tup [.ref p11]) np12)
    refine cat_rp (rf7.keep (Same.tups s11)) r12 (by simp only [List.length_append, List.length_cons, List.length_nil, hlf]; omega) fun u13 H13 s13 r13 => ?_
    have s113 := s11.trans s13
    refine ⟨_, rfl, cat_rp r13 (rs7.keep (Same.tups s113)) (by simp only [List.length_append, List.length_cons, List.length_nil, hlf, hls]; omega) fun u14 H14 s14 r14 => ?_⟩
    refine ⟨_, rfl, Cm.small (by show 2 ≤ 100000; decide), fun p15 np15 => ⟨Cm.small (by show 1 ≤ 100000; decide), fun p16 np16 => ?_⟩⟩
    have r16 := made1 (K := K) np16 (made np15 (.cons (.str "unless") (.cons (intE eD) .nil)))
    have s15 := (Cm.same_new (o := .tup [.str "unless", .int ((at_ : Int) + (cs3.length : Nat) + 1 + (cs5.length : Nat) + 3)]) np15).trans (Cm.same_new (o := .tup [.ref p15]) np16)
    refine cat_rp (r14.keep (Same.tups s15)) r16 (by simp only [List.length_append, List.length_cons, List.length_nil, hlf, hls]; omega) fun u17 H17 s17 r17 => ?_
    have sD := ((s113.trans s14).trans s15).trans s17
    refine ⟨_, rfl, cat_rp r17 (r10.keep (Same.tups sD)) (by simp only [List.length_append, List.length_cons, List.length_nil, hlf, hls]; omega) fun u18 H18 s18 r18 => ?_⟩
    exact q _ _ ((sC.trans sD).trans s18) r18
  · refine ⟨_, rfl, rfl, _, rfl, Cm.itES (fun _ => ⟨Cm.small (by show 1 ≤ 100000; decide), fun p np => ⟨Cm.small (by show 1 ≤ 100000; decide), fun p2 np2 => ?_⟩⟩) (fun e => absurd rfl e)⟩
    have ru : Rp K (upd (upd H p (.tup [.str "not"])) p2 (.tup [.ref p])) (.ref p2) (.tuple (tn true)) := made1 np2 (made np (.cons (.str "not") .nil))
    have s0 := (Cm.same_new (o := .tup [.str "not"]) np).trans (Cm.same_new (o := .tup [.ref p]) np2)
    generalize upd (upd H p (.tup [.str "not"])) p2 (.tup [.ref p]) = H1 at ru s0 ⊢
    generalize V.ref p2 = u at ru ⊢
    have hz : l.sz + r.sz + 5 ≤ 100000 := Nat.le_trans (by show l.sz + r.sz + 5 ≤ l.sz + r.sz + _ + 5; omega) hsz
    refine ⟨_, rfl, _, rfl, _, rfl, nd, v1, at_, l, pl, N, rfl, hpl.same s0, r1.keep (Same.tups s0), hw1, fun x hx => hu x (List.mem_append_left _ hx), by omega, by omega, fun H2 u2 s2 ru2 => ?_⟩
    have s02 := s0.trans s2
    refine ⟨_, rfl, cat_rp ru2 (ru.keep (Same.tups s2)) (by rw [Pt.E.code_len, tn_len]; show l.sz + (if true then 1 else 0) ≤ 10000000; simp; omega) fun u3 H3 s3 ru3 => ?_⟩
    have s03 := s02.trans s3
    obtain ⟨c3, cs3, rfl, hc3, hcl3⟩ := len_rp ru3
    rw [List.length_append, Pt.E.code_len, tn_len] at hcl3
    refine ⟨_, rfl, _, rfl, _, rfl, _, rfl, c3, cs3, rfl, .inr hc3, _, _, rfl, rfl, _, _, rfl, rfl, ?_⟩
    refine ⟨nd, v2, at_ + l.sz + kn true + 1, r, pl, N, args3 (by omega), hpl.same s03, r2.keep (Same.tups s03), hw2, fun x hx => hu x (List.mem_append_right _ hx), by omega, by omega, fun H4 u4 s4 ru4 => ?_⟩
    have s04 := s03.trans s4
    refine ⟨_, rfl, cat_rp ru4 (ru.keep (Same.tups ((s2.trans s3).trans s4))) (by rw [Pt.E.code_len, tn_len]; show r.sz + (if true then 1 else 0) ≤ 10000000; simp; omega) fun u5 H5 s5 ru5 => ?_⟩
    obtain ⟨c5, cs5, rfl, hc5, hcl5⟩ := len_rp ru5
    rw [List.length_append, Pt.E.code_len, tn_len] at hcl5
    refine ⟨_, rfl, _, rfl, c3, cs3, rfl, .inr (Cm.sameT (s4.trans s5) hc3), _, _, rfl, rfl, _, _, rfl, rfl, _, rfl, c5, cs5, rfl, .inr hc5, _, _, rfl, rfl, _, _, rfl, rfl, ?_⟩
    have ru3' := ru3.keep (Same.tups (s4.trans s5))
    have s05 := s04.trans s5
    have eD : ((at_ : Int) + (cs3.length : Nat) + 1 + (cs5.length : Nat) + 3) = ((at_ + l.sz + kn true + 1 + r.sz + kn true + 3 : Nat) : Int) := by omega
    have eI : V.int ((at_ : Int) + (cs3.length : Nat) + 1 + (cs5.length : Nat) + 3) = V.int ((at_ + l.sz + kn true + 1 + r.sz + kn true + 3 : Nat) : Int) := congrArg V.int eD
    refine ⟨_, rfl, rfl, _, rfl, Cm.itES (fun _ => ⟨Cm.small (by show 2 ≤ 100000; decide), fun p6 np6 => ?_⟩) (fun e => absurd rfl e)⟩
    have s6 := Cm.same_new (o := .tup [.int 0, .int 1]) np6
    refine ⟨p6, _, rfl, Cm.sqt_new, rfl, _, _, rfl, _, _, rfl, rfl, ?_⟩
    have sB := s05.trans s6
    have rt := ru.keep (Same.tups ((((s2.trans s3).trans s4).trans s5).trans s6))
    have rf := ru3'.keep (Same.tups s6)
    have rs := ru5.keep (Same.tups s6)
    generalize upd H5 p6 (.tup [.int 0, .int 1]) = H6 at sB rt rf rs ⊢
    refine ⟨_, rfl, Cm.small (by show 2 ≤ 100000; decide), fun p7 np7 => ⟨_, rfl, _, _, rfl, rfl, Cm.small (by show 2 ≤ 100000; decide), fun p8 np8 => ⟨_, rfl, Cm.small (by show 2 ≤ 100000; decide), fun p9 np9 => ⟨Cm.small (by show 3 ≤ 100000; decide), fun p10 np10 => ?_⟩⟩⟩⟩
    have r7 := made (K := K) np7 (.cons (.str "push") (.cons (.int 0) .nil))
    have r8 := made (K := K) np8 (.cons (.str "jump") (.cons (intE (congrArg (· + 1) eD)) .nil))
    have r9 := made (K := K) np9 (.cons (.str "push") (.cons (.int 1) .nil))
    have s78 := Cm.same_new (o := .tup [.str "jump", .int ((at_ : Int) + (cs3.length : Nat) + 1 + (cs5.length : Nat) + 3 + 1)]) np8
    have s79 := Cm.same_new (o := .tup [.str "push", .int 1]) np9
    have s710 := Cm.same_new (o := .tup [.ref p7, .ref p8, .ref p9]) np10
    have r10 := made (K := K) np10 (.cons (r7.keep (Same.tups (s78.trans s79))) (.cons (r8.keep (Same.tups s79)) (.cons r9 .nil)))
    have s7 := (((Cm.same_new (o := .tup [.str "push", .int 0]) np7).trans s78).trans s79).trans s710
    have hlf : (l.code pl at_ ++ tn true).length = l.sz + kn true := by rw [List.length_append, Pt.E.code_len, tn_len]
    have hls : (r.code pl (at_ + l.sz + kn true + 1) ++ tn true).length = r.sz + kn true := by rw [List.length_append, Pt.E.code_len, tn_len]
    have hk : kn true ≤ 1 := by decide
    have rf7 := rf.keep (Same.tups s7)
    have rs7 := rs.keep (Same.tups s7)
    have sC := sB.trans s7
    refine ⟨_, rfl, _, rfl, Cm.small (by show 2 ≤ 100000; decide), fun p11 np11 => ⟨Cm.small (by show 1 ≤ 100000; decide), fun p12 np12 => ?_⟩⟩
    have r12 := made1 (K := K) np12 (made np11 (.cons (.str "unless") (.cons (intE eD) .nil)))
    have s11 := (Cm.same_new (o := .tup [.str "unless", .int ((at_ : Int) + (cs3.length : Nat) + 1 + (cs5.length : Nat) + 3)]) np11).trans (Cm.same_new (o := .tup [.ref p11]) np12)
    refine cat_rp (rf7.keep (Same.tups s11)) r12 (by simp only [List.length_append, List.length_cons, List.length_nil, hlf]; omega) fun u13 H13 s13 r13 => ?_
    have s113 := s11.trans s13
    refine ⟨_, rfl, cat_rp r13 (rs7.keep (Same.tups s113)) (by simp only [List.length_append, List.length_cons, List.length_nil, hlf, hls]; omega) fun u14 H14 s14 r14 => ?_⟩
    refine ⟨_, rfl, Cm.small (by show 2 ≤ 100000; decide), fun p15 np15 => ⟨Cm.small (by show 1 ≤ 100000; decide), fun p16 np16 => ?_⟩⟩
    have r16 := made1 (K := K) np16 (made np15 (.cons (.str "unless") (.cons (intE eD) .nil)))
    have s15 := (Cm.same_new (o := .tup [.str "unless", .int ((at_ : Int) + (cs3.length : Nat) + 1 + (cs5.length : Nat) + 3)]) np15).trans (Cm.same_new (o := .tup [.ref p15]) np16)
    refine cat_rp (r14.keep (Same.tups s15)) r16 (by simp only [List.length_append, List.length_cons, List.length_nil, hlf, hls]; omega) fun u17 H17 s17 r17 => ?_
    have sD := ((s113.trans s14).trans s15).trans s17
    refine ⟨_, rfl, cat_rp r17 (r10.keep (Same.tups sD)) (by simp only [List.length_append, List.length_cons, List.length_nil, hlf, hls]; omega) fun u18 H18 s18 r18 => ?_⟩
    exact q _ _ ((sC.trans sD).trans s18) r18
theorem step_expr (T : Txt K mg w a) (d : Nat) (ih : FnOk P w K mg base CX0 (3 * d + 1) (He.ga K "_expression_code") a.d_expression_code pX (spX K d)) :
    FnOk P w K mg base CX0 (3 * (d + 1) + 1) (He.ga K "_expression_code") a.d_expression_code pX (spX K (d + 1)) := by
  have gr := ok_row T d ih
  have gc := ok_call T d gr
  have go := ok_chc T d ih
  refine T.F_expression_code.ok sc_expression_code (fun vs H Q E h => ?_) (fun cdv A outer s H vs Q E hr h => ?_)
  · obtain ⟨_, _, _, _, _, _, rfl, _⟩ := h
    rfl
  obtain ⟨nd, v, at_, e, pl, N, rfl, hpl, hv, hw, hu, hd, hsz, q⟩ := h
  refine ⟨_, PSs.nox (pss_cons (ps_set (i := 3) sc_expression_code.nd rfl (Or.inl rfl) (pe_ix ix_tup (pv 1) pe_int (fun _ _ => rfl)))
      (pss_cons (ps_if (pt_cmpR op_eq (pv 3) pe_str (nomark _)) (pss_one (ps_ret (pe_tup (pa_cons (pe_tup (pa_cons pe_str (pa_cons (pe_ix ix_tup (pv 1) pe_int (fun _ _ => rfl)) pa_nil))) pa_nil)))) pss_nil)
      (pss_cons (ps_if (pt_cmpR op_eq (pv 3) pe_str (nomark _)) (pss_one (ps_ret (pe_tup (pa_cons (pe_dget (hu_of hr) (pv 0) (pe_ix ix_tup (pv 1) pe_int (fun _ _ => rfl)) (fun _ _ => rfl)) pa_nil)))) pss_nil)
      (pss_cons (ps_if (PW.pt (pw_or (pt_cmpR op_eq (pv 3) pe_str (nomark _)) (pw_or1 (pt_cmpR op_eq (pv 3) pe_str (nomark _))))) (pss_one (ps_ret (pe_call go (hr.mono (by omega)) (by rfl) T.g_choice_code T.F_choice_code.kp T.b_choice_code .nil pass0 (pa_cons (pv 0) (pa_cons (pv 1) (pa_cons (pv 2) pa_nil)))))) pss_nil)
      (pss_cons (ps_if (pt_cmpR op_eq (pv 3) pe_str (nomark _)) (pss_one (ps_ret (pe_call gc (hr.mono (by omega)) (by rfl) T.g_call_code T.F_call_code.kp T.b_call_code .nil pass0 (pa_cons (pv 0) (pa_cons (pv 1) (pa_cons (pv 2) pa_nil)))))) pss_nil)
      (pss_cons (ps_if (pt_cmpR op_eq (pv 3) pe_str (nomark _)) (pss_one (ps_ret (pe_op op_catA (pe_call gr (hr.mono (by omega)) (by rfl) T.g_row_code T.F_row_code.kp T.b_row_code .nil pass0 (pa_cons (pv 0) (pa_cons (pe_ix ix_tup (pv 1) pe_int (fun _ _ => rfl)) (pa_cons (pv 2) pa_nil)))) (pe_tup (pa_cons (pe_tup (pa_cons pe_str (pa_cons (pe_ix ix_tup (pv 1) pe_int (fun _ _ => rfl)) (pa_cons (pe_callB call_len_seq (by rfl) T.g_len boot_len (pa_cons (pe_ix ix_tup (pv 1) pe_int (fun _ _ => rfl)) pa_nil)) pa_nil)))) pa_nil))))) pss_nil)
      (pss_one (ps_ret (pe_op op_catA (pe_call gr (hr.mono (by omega)) (by rfl) T.g_row_code T.F_row_code.kp T.b_row_code .nil pass0 (pa_cons (pv 0) (pa_cons (pe_slice sl_tupA (pv 1) (po_some pe_int) po_none) (pa_cons (pv 2) pa_nil)))) (pe_tup (pa_cons (pe_tup (pa_cons (pv 3) pa_nil)) pa_nil))))))))))), ?_⟩
  have s0 := Same.refl H
  cases e with
  | int n =>
    refine ⟨_, rfl, ix_rp (i := 0) hv rfl fun v0 rv0 => ?_⟩
    cases rv0.str_inv
    refine ⟨_, rfl, rfl, _, rfl, Cm.itES (fun _ => ?_) (fun e => absurd rfl e)⟩
    refine ⟨_, rfl, ix_rp (i := 1) hv rfl fun v1 rv1 => ⟨Cm.small (by show 2 ≤ 100000; decide), fun p np => ⟨Cm.small (by show 1 ≤ 100000; decide), fun p2 np2 => ?_⟩⟩⟩
    exact q _ _ ((Cm.same_new np).trans (Cm.same_new np2)) (made1 np2 (made np (.cons (.str "push") (.cons rv1 .nil))))
  | name x =>
    refine ⟨_, rfl, ix_rp (i := 0) hv rfl fun v0 rv0 => ?_⟩
    cases rv0.str_inv
    refine ⟨_, rfl, rfl, _, rfl, Cm.itES (fun e => absurd e (by decide)) (fun _ => ?_)⟩
    refine ⟨_, rfl, rfl, _, rfl, Cm.itES (fun _ => ?_) (fun e => absurd rfl e)⟩
    obtain ⟨kvs, hk, hx⟩ := hpl
    obtain ⟨_, u, hu1, ru⟩ := hx x (hu x (List.mem_cons_self))
    have gx : DGet H nd (.str x) (some u) := by
      rw [← hu1]
      exact DGet.k (k := .inr x) hk
    refine ⟨_, rfl, _, rfl, ?_⟩
    obtain ⟨b, vs, rfl, hb, hvs⟩ := hv.tup_inv
    obtain ⟨v0, vs, rfl, r0, hvs⟩ := hvs.cons_inv
    obtain ⟨v1, vs, rfl, r1, hvs⟩ := hvs.cons_inv
    cases hvs.nil_inv
    cases r1.str_inv
    exact ⟨b, _, _, _, rfl, rfl, hb, rfl, nd, u, rfl, gx, Cm.small (by show 1 ≤ 100000; decide), fun p np => q _ _ (Cm.same_new np) (made1 np ru)⟩
  | choice o l r =>
    refine ⟨_, rfl, ix_rp (i := 0) hv rfl fun v0 rv0 => ?_⟩
    cases rv0.str_inv
    have n1 : ¬ cw o = "int" := by cases o <;> decide
    have n2 : ¬ cw o = "name" := by cases o <;> decide
    refine ⟨_, rfl, rfl, _, rfl, Cm.itES (fun e => absurd e n1) (fun _ => ?_)⟩
    refine ⟨_, rfl, rfl, _, rfl, Cm.itES (fun e => absurd e n2) (fun _ => ?_)⟩
    refine (fun hA => ⟨_, rfl, rfl, _, rfl, Cm.itES (fun _ => hA) (fun n3 => ⟨_, rfl, rfl, _, rfl, Cm.itES (fun _ => hA) (fun n4 => ?_)⟩)⟩) ?_
    · refine iteT ?_
      exact ⟨_, rfl, _, rfl, _, rfl, nd, v, at_, o, l, r, pl, N, rfl, hpl, hv, hw, hu, by have : max l.dep r.dep + 1 < d + 1 := hd; omega, hsz, q⟩
    · cases o
      · exact absurd rfl n3
      · exact absurd rfl n4
  | call r f as =>
    refine ⟨_, rfl, ix_rp (i := 0) hv rfl fun v0 rv0 => ?_⟩
    cases rv0.str_inv
    refine ⟨_, rfl, rfl, _, rfl, Cm.itES (fun e => absurd e (by decide)) (fun _ => ?_)⟩
    refine ⟨_, rfl, rfl, _, rfl, Cm.itES (fun e => absurd e (by decide)) (fun _ => ?_)⟩
    refine ⟨_, rfl, rfl, _, rfl, Cm.itES (fun e => absurd e (by decide)) (fun _ => ⟨_, rfl, rfl, _, rfl, Cm.itES (fun e => absurd e (by decide)) (fun _ => ?_)⟩)⟩
    refine ⟨_, rfl, rfl, _, rfl, Cm.itES (fun _ => ?_) (fun e => absurd rfl e)⟩
    have hz : r.sz + as.sz + 1 ≤ 100000 := hsz
    exact ⟨_, rfl, _, rfl, _, rfl, nd, v, at_, "call", r, f, as, pl, N, rfl, hpl, hv, hw, hu, by have : max r.dep as.dep + 1 < d + 1 := hd; omega, by omega, q⟩
  | new m as =>
    refine ⟨_, rfl, ix_rp (i := 0) hv rfl fun v0 rv0 => ?_⟩
    cases rv0.str_inv
    refine ⟨_, rfl, rfl, _, rfl, Cm.itES (fun e => absurd e (by decide)) (fun _ => ?_)⟩
    refine ⟨_, rfl, rfl, _, rfl, Cm.itES (fun e => absurd e (by decide)) (fun _ => ?_)⟩
    refine ⟨_, rfl, rfl, _, rfl, Cm.itES (fun e => absurd e (by decide)) (fun _ => ⟨_, rfl, rfl, _, rfl, Cm.itES (fun e => absurd e (by decide)) (fun _ => ?_)⟩)⟩
    refine ⟨_, rfl, rfl, _, rfl, Cm.itES (fun e => absurd e (by decide)) (fun _ => ?_)⟩
    refine ⟨_, rfl, rfl, _, rfl, Cm.itES (fun _ => ?_) (fun e => absurd rfl e)⟩
    have hz : as.sz + 1 ≤ 100000 := hsz
    refine ⟨_, rfl, _, rfl, ?_⟩
    unfold tC
    dsimp only
    refine ix_rp (i := 2) hv rfl fun v2 rv2 => ⟨_, rfl, ?_⟩
    refine ⟨nd, v2, at_, as, pl, N, rfl, hpl, rv2, hw, hu, by have : as.dep + 1 < d + 1 := hd; omega, by omega, fun H1 u1 s1 ru1 => ?_⟩
    have hv1 := hv.keep (Same.tups s1)
    refine ⟨_, rfl, ix_rp (i := 1) hv1 rfl fun v3 rv3 => ⟨_, rfl, ix_rp (i := 2) hv1 rfl fun v4 rv4 => ?_⟩⟩
    cases rv3.str_inv
    obtain ⟨c, cs, rfl, hc, hcl⟩ := len_rp rv4
    rw [Es.ds_len] at hcl
    refine ⟨c, cs, rfl, .inr hc, Cm.small (by show 3 ≤ 100000; decide), fun p np => ⟨Cm.small (by show 1 ≤ 100000; decide), fun p2 np2 => ?_⟩⟩
    have r2 := made1 (K := K) np2 (made np (.cons (.str "new") (.cons (.str m) (.cons (intE (congrArg (Int.ofNat) hcl)) .nil))))
    have s2 := (Cm.same_new (o := .tup [.str "new", .str m, .int (cs.length : Int)]) np).trans (Cm.same_new (o := .tup [.ref p]) np2)
    exact cat_rp (ru1.keep (Same.tups s2)) r2 (by rw [Es.code_len]; show as.sz + 1 ≤ 10000000; omega) fun u5 H5 s5 r5 => q _ _ ((s1.trans s2).trans s5) r5
  | plain wd as =>
    obtain ⟨hw1, hw2⟩ := Bool.and_eq_true_iff.mp hw
    have hm : wd ∈ plainE := of_decide_eq_true (Bool.and_eq_true_iff.mp hw1).1
    have no : ∀ x ∈ plainE, ¬ x = Str.ofString "int" ∧ ¬ x = Str.ofString "name" ∧ ¬ x = Str.ofString "and" ∧ ¬ x = Str.ofString "or" ∧ ¬ x = Str.ofString "call" ∧ ¬ x = Str.ofString "new" := by decide +kernel
    obtain ⟨n1, n2, n3, n4, n5, n6⟩ := no wd hm
    refine ⟨_, rfl, ix_rp (i := 0) hv rfl fun v0 rv0 => ?_⟩
    cases rv0.str_inv
    refine ⟨_, rfl, rfl, _, rfl, Cm.itES (fun e => absurd e n1) (fun _ => ?_)⟩
    refine ⟨_, rfl, rfl, _, rfl, Cm.itES (fun e => absurd e n2) (fun _ => ?_)⟩
    refine ⟨_, rfl, rfl, _, rfl, Cm.itES (fun e => absurd e n3) (fun _ => ⟨_, rfl, rfl, _, rfl, Cm.itES (fun e => absurd e n4) (fun _ => ?_)⟩)⟩
    refine ⟨_, rfl, rfl, _, rfl, Cm.itES (fun e => absurd e n5) (fun _ => ?_)⟩
    refine ⟨_, rfl, rfl, _, rfl, Cm.itES (fun e => absurd e n6) (fun _ => ?_)⟩
    have hz : as.sz + 1 ≤ 100000 := hsz
    refine ⟨_, rfl, _, rfl, ?_⟩
    unfold tPart tNoPart tC
    dsimp only
    refine ⟨1, rfl, ?_⟩
    refine from_rp (k := 1) hv (Nat.le_add_left 1 _) fun u1 H1 s1 ru1 => ⟨_, rfl, ?_⟩
    refine ⟨nd, u1, at_, as, pl, N, rfl, hpl.same s1, ru1, hw2, hu, by have : as.dep + 1 < d + 1 := hd; omega, by omega, fun H2 u2 s2 ru2 => ?_⟩
    refine ⟨_, rfl, Cm.small (by show 1 ≤ 100000; decide), fun p np => ⟨Cm.small (by show 1 ≤ 100000; decide), fun p2 np2 => ?_⟩⟩
    have r2 := made1 (K := K) np2 (made np (.cons (.str wd) .nil))
    have s3 := (Cm.same_new (o := .tup [.str wd]) np).trans (Cm.same_new (o := .tup [.ref p]) np2)
    exact cat_rp (ru2.keep (Same.tups s3)) r2 (by rw [Es.code_len]; show as.sz + 1 ≤ 10000000; omega) fun u5 H5 s5 r5 => q _ _ (((s1.trans s2).trans s3).trans s5) r5
theorem ok_expr (T : Txt K mg w a) : ∀ d : Nat, FnOk P w K mg base CX0 (3 * d + 1) (He.ga K "_expression_code") a.d_expression_code pX (spX K d)
  | 0 => vac fun vs H Q E h => by
    obtain ⟨_, _, _, e, _, _, _, _, _, _, _, hd, _⟩ := h
    exact absurd hd (Nat.not_lt_zero e.dep)
  | d + 1 => step_expr T d (ok_expr T d)
/-! ### the compiler: statements -/
abbrev pS : List Str := ["names", "statement", "at"]
abbrev pB : List Str := ["names", "block", "at"]
def spBc (K : PySem.W.Frag) (d : Nat) : Sp := fun vs H Q _ => ∃ (nd : Addr) (v : V) (at_ : Nat) (b : Ss) (pl : Plc) (N : List Str), vs = [.ref nd, v, .int at_] ∧ PlAt K H nd pl N ∧ Rp K H v (.tuple b.ds) ∧ b.wf = true ∧ (∀ x ∈ b.uses, x ∈ N) ∧ b.dep < d ∧ b.sz ≤ 100000 ∧
  ∀ (H' : Hp) (u : V), Same H H' → Rp K H' u (.tuple (b.code pl at_)) → Q u H'
def spSc (K : PySem.W.Frag) (d : Nat) : Sp := fun vs H Q _ => ∃ (nd : Addr) (v : V) (at_ : Nat) (b : S) (pl : Plc) (N : List Str), vs = [.ref nd, v, .int at_] ∧ PlAt K H nd pl N ∧ Rp K H v b.d ∧ b.wf = true ∧ (∀ x ∈ b.uses, x ∈ N) ∧ b.dep < d ∧ b.sz ≤ 100000 ∧
  ∀ (H' : Hp) (u : V), Same H H' → Rp K H' u (.tuple (b.code pl at_)) → Q u H'
def spIc (K : PySem.W.Frag) (d : Nat) : Sp := fun vs H Q _ => ∃ (nd : Addr) (v : V) (at_ : Nat) (e : E) (b c : Ss) (pl : Plc) (N : List Str), vs = [.ref nd, v, .int at_] ∧ PlAt K H nd pl N ∧ Rp K H v (S.ifS e b c).d ∧ (S.ifS e b c).wf = true ∧ (∀ x ∈ (S.ifS e b c).uses, x ∈ N) ∧ (S.ifS e b c).dep < d ∧ (S.ifS e b c).sz ≤ 100000 ∧
  ∀ (H' : Hp) (u : V), Same H H' → Rp K H' u (.tuple ((S.ifS e b c).code pl at_)) → Q u H'
def spWc (K : PySem.W.Frag) (d : Nat) : Sp := fun vs H Q _ => ∃ (nd : Addr) (v : V) (at_ : Nat) (e : E) (b : Ss) (pl : Plc) (N : List Str), vs = [.ref nd, v, .int at_] ∧ PlAt K H nd pl N ∧ Rp K H v (S.whileS e b).d ∧ (S.whileS e b).wf = true ∧ (∀ x ∈ (S.whileS e b).uses, x ∈ N) ∧ (S.whileS e b).dep < d ∧ (S.whileS e b).sz ≤ 100000 ∧
  ∀ (H' : Hp) (u : V), Same H H' → Rp K H' u (.tuple ((S.whileS e b).code pl at_)) → Q u H'
theorem ok_while (T : Txt K mg w a) (d : Nat) (hd13 : d ≤ 12) (gx : FnOk P w K mg base CX0 40 (He.ga K "_expression_code") a.d_expression_code pX (spX K 13))
    (gb : FnOk P w K mg base CX0 (3 * d + 44) (He.ga K "_block_code") a.d_block_code pB (spBc K d)) :
    FnOk P w K mg base CX0 (3 * d + 45) (He.ga K "_while_code") a.d_while_code pS (spWc K (d + 1)) := by
  refine T.F_while_code.ok sc_while_code (fun vs H Q E h => ?_) (fun cdv A outer s H vs Q E hr h => ?_)
  · obtain ⟨_, _, _, _, _, _, _, rfl, _⟩ := h
    rfl
  obtain ⟨nd, v, at_, e, bl, pl, N, rfl, hpl, hv, hw, hu, hd, hsz, q⟩ := h
  refine ⟨_, PSs.nox (pss_cons (ps_set (i := 3) sc_while_code.nd rfl (Or.inl rfl) (pe_call gx (hr.mono (by omega)) (by rfl) T.g_expression_code T.F_expression_code.kp T.b_expression_code .nil pass0 (pa_cons (pv 0) (pa_cons (pe_ix ix_tup (pv 1) pe_int (fun _ _ => rfl)) (pa_cons (pv 2) pa_nil)))))
      (pss_cons (ps_set (i := 4) sc_while_code.nd rfl (Or.inl rfl) (pe_call gb (hr.mono (by omega)) (by rfl) T.g_block_code T.F_block_code.kp T.b_block_code .nil pass0 (pa_cons (pv 0) (pa_cons (pe_ix ix_tup (pv 1) pe_int (fun _ _ => rfl)) (pa_cons (pe_op op_add (pe_op op_add (pv 2) (pe_callB call_len_seq (by rfl) T.g_len boot_len (pa_cons (pv 3) pa_nil))) pe_int) pa_nil)))))
      (pss_cons (ps_set (i := 5) sc_while_code.nd rfl (Or.inl rfl) (pe_op op_add (pe_op op_add (pe_op op_add (pe_op op_add (pv 2) (pe_callB call_len_seq (by rfl) T.g_len boot_len (pa_cons (pv 3) pa_nil))) pe_int) (pe_callB call_len_seq (by rfl) T.g_len boot_len (pa_cons (pv 4) pa_nil))) pe_int))
      (pss_one (ps_ret (pe_op op_catA (pe_op op_catA (pe_op op_catA (pv 3) (pe_tup (pa_cons (pe_tup (pa_cons pe_str (pa_cons (pv 5) pa_nil))) pa_nil))) (pv 4)) (pe_tup (pa_cons (pe_tup (pa_cons pe_str (pa_cons (pv 2) pa_nil))) pa_nil)))))))), ?_⟩
  obtain ⟨b, vs, rfl, hb, hvs⟩ := hv.tup_inv
  obtain ⟨v0, vs, rfl, r0, hvs⟩ := hvs.cons_inv
  obtain ⟨v1, vs, rfl, r1, hvs⟩ := hvs.cons_inv
  obtain ⟨v2, vs, rfl, r2, hvs⟩ := hvs.cons_inv
  cases hvs.nil_inv
  cases r0.str_inv
  obtain ⟨hw1, hw2⟩ := Bool.and_eq_true_iff.mp hw
  have hz : e.sz + bl.sz + 2 ≤ 100000 := hsz
  have hdd : max e.dep bl.dep + 1 < d + 1 := hd
  refine ⟨_, rfl, _, rfl, b, _, _, v1, rfl, rfl, hb, rfl, _, rfl, ?_⟩
  refine ⟨nd, v1, at_, e, pl, N, rfl, hpl, r1, hw1, fun x hx => hu x (List.mem_append_left _ hx), by omega, by omega, fun H1 u1 s1 ru1 => ?_⟩
  obtain ⟨c1, cs1, rfl, hc1, hcl1⟩ := len_rp ru1
  rw [Pt.E.code_len] at hcl1
  refine ⟨_, rfl, _, rfl, b, _, _, v2, rfl, rfl, Cm.sameT s1 hb, rfl, _, rfl, _, rfl, c1, cs1, rfl, .inr hc1, _, _, rfl, rfl, _, _, rfl, rfl, ?_⟩
  refine ⟨nd, v2, at_ + e.sz + 1, bl, pl, N, args3 (by omega), hpl.same s1, r2.keep (Same.tups s1), hw2, fun x hx => hu x (List.mem_append_right _ hx), by omega, by omega, fun H2 u2 s2 ru2 => ?_⟩
  obtain ⟨c2, cs2, rfl, hc2, hcl2⟩ := len_rp ru2
  rw [Ss.code_len] at hcl2
  refine ⟨_, rfl, _, rfl, c1, cs1, rfl, .inr (Cm.sameT s2 hc1), _, _, rfl, rfl, _, _, rfl, rfl, _, rfl, c2, cs2, rfl, .inr hc2, _, _, rfl, rfl, _, _, rfl, rfl, ?_⟩
  have eD : ((at_ : Int) + (cs1.length : Nat) + 1 + (cs2.length : Nat) + 1) = ((at_ + e.sz + 1 + bl.sz + 1 : Nat) : Int) := by omega
  refine ⟨_, rfl, _, rfl, Cm.small (by show 2 ≤ 100000; decide), fun p3 np3 => ⟨Cm.small (by show 1 ≤ 100000; decide), fun p4 np4 => ?_⟩⟩
  have r4 := made1 (K := K) np4 (made np3 (.cons (.str "unless") (.cons (intE eD) .nil)))
  have s4 := (Cm.same_new (o := .tup [.str "unless", .int ((at_ : Int) + (cs1.length : Nat) + 1 + (cs2.length : Nat) + 1)]) np3).trans (Cm.same_new (o := .tup [.ref p3]) np4)
  have s24 := s2.trans s4
  refine cat_rp (ru1.keep (Same.tups s24)) r4 (by simp only [List.length_append, List.length_cons, List.length_nil, Pt.E.code_len]; omega) fun u5 H5 s5 r5 => ?_
  refine ⟨_, rfl, cat_rp r5 (ru2.keep (Same.tups (s4.trans s5))) (by simp only [List.length_append, List.length_cons, List.length_nil, Pt.E.code_len, Ss.code_len]; omega) fun u6 H6 s6 r6 => ?_⟩
  refine ⟨_, rfl, Cm.small (by show 2 ≤ 100000; decide), fun p7 np7 => ⟨Cm.small (by show 1 ≤ 100000; decide), fun p8 np8 => ?_⟩⟩
  have r8 := made1 (K := K) np8 (made np7 (.cons (.str "jump") (.cons (.int (at_ : Int)) .nil)))
  have s8 := (Cm.same_new (o := .tup [.str "jump", .int (at_ : Int)]) np7).trans (Cm.same_new (o := .tup [.ref p7]) np8)
  refine cat_rp (r6.keep (Same.tups s8)) r8 (by simp only [List.length_append, List.length_cons, List.length_nil, Pt.E.code_len, Ss.code_len]; omega) fun u9 H9 s9 r9 => ?_
  exact q _ _ (((((s1.trans s24).trans s5).trans s6).trans s8).trans s9) r9
theorem ifsz {e : E} {b c : Ss} {n : Nat} (h : (S.ifS e b c).sz ≤ n) : e.sz + 1 + b.sz + c.sz ≤ n := by
  cases c with
  | nil => exact h
  | cons s ss =>
    have h' : e.sz + 1 + b.sz + 1 + (Ss.cons s ss).sz ≤ n := h
    omega
theorem ok_if (T : Txt K mg w a) (d : Nat) (hd13 : d ≤ 12) (gx : FnOk P w K mg base CX0 40 (He.ga K "_expression_code") a.d_expression_code pX (spX K 13))
    (gb : FnOk P w K mg base CX0 (3 * d + 44) (He.ga K "_block_code") a.d_block_code pB (spBc K d)) :
    FnOk P w K mg base CX0 (3 * d + 45) (He.ga K "_if_code") a.d_if_code pS (spIc K (d + 1)) := by
  refine T.F_if_code.ok sc_if_code (fun vs H Q E h => ?_) (fun cdv A outer s H vs Q E hr h => ?_)
  · obtain ⟨_, _, _, _, _, _, _, _, rfl, _⟩ := h
    rfl
  obtain ⟨nd, v, at_, e, bl, cl, pl, N, rfl, hpl, hv, hw, hu, hd, hsz, q⟩ := h
  refine ⟨_, PSs.nox (pss_cons (ps_asg (pv 1) (pg_tup (by rfl) (pgs_cons (pg_name (i := 3) sc_if_code.nd rfl (Or.inl rfl)) (pgs_cons (pg_name (i := 4) sc_if_code.nd rfl (Or.inl rfl)) (pgs_cons (pg_name (i := 5) sc_if_code.nd rfl (Or.inl rfl)) (pgs_cons (pg_name (i := 6) sc_if_code.nd rfl (Or.inl rfl)) pgs_nil))))))
      (pss_cons (ps_set (i := 7) sc_if_code.nd rfl (Or.inl rfl) (pe_call gx (hr.mono (by omega)) (by rfl) T.g_expression_code T.F_expression_code.kp T.b_expression_code .nil pass0 (pa_cons (pv 0) (pa_cons (pv 4) (pa_cons (pv 2) pa_nil)))))
      (pss_cons (ps_set (i := 8) sc_if_code.nd rfl (Or.inl rfl) (pe_call gb (hr.mono (by omega)) (by rfl) T.g_block_code T.F_block_code.kp T.b_block_code .nil pass0 (pa_cons (pv 0) (pa_cons (pv 5) (pa_cons (pe_op op_add (pe_op op_add (pv 2) (pe_callB call_len_seq (by rfl) T.g_len boot_len (pa_cons (pv 7) pa_nil))) pe_int) pa_nil)))))
      (pss_cons (ps_set (i := 9) sc_if_code.nd rfl (Or.inl rfl) (pe_op op_add (pe_op op_add (pe_op op_add (pv 2) (pe_callB call_len_seq (by rfl) T.g_len boot_len (pa_cons (pv 7) pa_nil))) pe_int) (pe_callB call_len_seq (by rfl) T.g_len boot_len (pa_cons (pv 8) pa_nil))))
      (pss_cons (ps_if (pt_cmpR op_eq (pe_callB call_len_seq (by rfl) T.g_len boot_len (pa_cons (pv 6) pa_nil)) pe_int (nomark _)) (pss_one (ps_ret (pe_op op_catA (pe_op op_catA (pv 7) (pe_tup (pa_cons (pe_tup (pa_cons pe_str (pa_cons (pv 9) pa_nil))) pa_nil))) (pv 8)))) pss_nil)
      (pss_cons (ps_set (i := 10) sc_if_code.nd rfl (Or.inl rfl) (pe_call gb (hr.mono (by omega)) (by rfl) T.g_block_code T.F_block_code.kp T.b_block_code .nil pass0 (pa_cons (pv 0) (pa_cons (pv 6) (pa_cons (pe_op op_add (pv 9) pe_int) pa_nil)))))
      (pss_one (ps_ret (pe_op op_catA (pe_op op_catA (pe_op op_catA (pe_op op_catA (pv 7) (pe_tup (pa_cons (pe_tup (pa_cons pe_str (pa_cons (pe_op op_add (pv 9) pe_int) pa_nil))) pa_nil))) (pv 8)) (pe_tup (pa_cons (pe_tup (pa_cons pe_str (pa_cons (pe_op op_add (pe_op op_add (pv 9) pe_int) (pe_callB call_len_seq (by rfl) T.g_len boot_len (pa_cons (pv 10) pa_nil))) pa_nil))) pa_nil))) (pv 10)))))))))), ?_⟩
  obtain ⟨b, vs, rfl, hb, hvs⟩ := hv.tup_inv
  obtain ⟨v0, vs, rfl, r0, hvs⟩ := hvs.cons_inv
  obtain ⟨v1, vs, rfl, r1, hvs⟩ := hvs.cons_inv
  obtain ⟨v2, vs, rfl, r2, hvs⟩ := hvs.cons_inv
  obtain ⟨v3, vs, rfl, r3, hvs⟩ := hvs.cons_inv
  cases hvs.nil_inv
  cases r0.str_inv
  obtain ⟨hw1, hw2⟩ := Bool.and_eq_true_iff.mp hw
  obtain ⟨hw2, hw3⟩ := Bool.and_eq_true_iff.mp hw2
  have hz : e.sz + 1 + bl.sz + cl.sz ≤ 100000 := ifsz hsz
  have hdd : max e.dep (max bl.dep cl.dep) + 1 < d + 1 := hd
  have hu1 : ∀ x ∈ e.uses, x ∈ N := fun x hx => hu x (List.mem_append_left _ hx)
  have hu2 : ∀ x ∈ bl.uses, x ∈ N := fun x hx => hu x (List.mem_append_right _ (List.mem_append_left _ hx))
  have hu3 : ∀ x ∈ cl.uses, x ∈ N := fun x hx => hu x (List.mem_append_right _ (List.mem_append_right _ hx))
  refine ⟨_, rfl, b, _, rfl, hb, rfl, _, _, rfl, _, _, rfl, _, _, rfl, _, _, rfl, rfl, ?_⟩
  refine ⟨_, rfl, _, rfl, _, rfl, ?_⟩
  refine ⟨nd, v1, at_, e, pl, N, rfl, hpl, r1, hw1, hu1, by omega, by omega, fun H1 u1 s1 ru1 => ?_⟩
  obtain ⟨c1, cs1, rfl, hc1, hcl1⟩ := len_rp ru1
  rw [Pt.E.code_len] at hcl1
  refine ⟨_, rfl, _, rfl, _, rfl, _, rfl, c1, cs1, rfl, .inr hc1, _, _, rfl, rfl, _, _, rfl, rfl, ?_⟩
  refine ⟨nd, v2, at_ + e.sz + 1, bl, pl, N, args3 (by omega), hpl.same s1, r2.keep (Same.tups s1), hw2, hu2, by omega, by omega, fun H2 u2 s2 ru2 => ?_⟩
  obtain ⟨c2, cs2, rfl, hc2, hcl2⟩ := len_rp ru2
  rw [Ss.code_len] at hcl2
  refine ⟨_, rfl, _, rfl, c1, cs1, rfl, .inr (Cm.sameT s2 hc1), _, _, rfl, rfl, _, _, rfl, rfl, _, rfl, c2, cs2, rfl, .inr hc2, _, _, rfl, rfl, ?_⟩
  have eD : ((at_ : Int) + (cs1.length : Nat) + 1 + (cs2.length : Nat)) = ((at_ + e.sz + 1 + bl.sz : Nat) : Int) := by omega
  have s02 := s1.trans s2
  obtain ⟨c3, cs3, rfl, hc3, hcl3⟩ := len_rp (r3.keep (Same.tups s02))
  refine ⟨_, rfl, c3, cs3, rfl, .inr hc3, ?_⟩
  cases cl with
  | nil =>
    have e3 : (cs3.length : Int) = 0 := by rw [hcl3]; rfl
    refine ⟨rfl, _, rfl, Cm.itEI (fun _ => ?_) (fun n => absurd e3 n)⟩
    refine ⟨_, rfl, _, rfl, Cm.small (by show 2 ≤ 100000; decide), fun p3 np3 => ⟨Cm.small (by show 1 ≤ 100000; decide), fun p4 np4 => ?_⟩⟩
    have r4 := made1 (K := K) np4 (made np3 (.cons (.str "unless") (.cons (intE eD) .nil)))
    have s4 := (Cm.same_new (o := .tup [.str "unless", .int ((at_ : Int) + (cs1.length : Nat) + 1 + (cs2.length : Nat))]) np3).trans (Cm.same_new (o := .tup [.ref p3]) np4)
    have s24 := s2.trans s4
    refine cat_rp (ru1.keep (Same.tups s24)) r4 (by simp only [List.length_append, List.length_cons, List.length_nil, Pt.E.code_len]; omega) fun u5 H5 s5 r5 => ?_
    refine ⟨_, rfl, cat_rp r5 (ru2.keep (Same.tups (s4.trans s5))) (by simp only [List.length_append, List.length_cons, List.length_nil, Pt.E.code_len, Ss.code_len]; omega) fun u6 H6 s6 r6 => ?_⟩
    exact q _ _ (((s1.trans s24).trans s5).trans s6) r6
  | cons st ss =>
    have e3 : ¬ (cs3.length : Int) = 0 := by
      rw [hcl3]
      show ¬ ((ss.ds.length + 1 : Nat) : Int) = 0
      omega
    have hz' : e.sz + 1 + bl.sz + 1 + (Ss.cons st ss).sz ≤ 100000 := hsz
    refine ⟨rfl, _, rfl, Cm.itEI (fun n => absurd n e3) (fun _ => ?_)⟩
    refine ⟨_, rfl, _, rfl, _, rfl, _, _, rfl, rfl, ?_⟩
    refine ⟨nd, .ref c3, at_ + e.sz + 1 + bl.sz + 1, .cons st ss, pl, N, args3 (by omega), hpl.same s02, r3.keep (Same.tups s02), hw3, hu3, by omega, by omega, fun H3 u3 s3 ru3 => ?_⟩
    obtain ⟨c4, cs4, rfl, hc4, hcl4⟩ := len_rp ru3
    rw [Ss.code_len] at hcl4
    have eE : ((at_ : Int) + (cs1.length : Nat) + 1 + (cs2.length : Nat) + 1) = ((at_ + e.sz + 1 + bl.sz + 1 : Nat) : Int) := by omega
    have eF : ((at_ : Int) + (cs1.length : Nat) + 1 + (cs2.length : Nat) + 1 + (cs4.length : Nat)) = ((at_ + e.sz + 1 + bl.sz + 1 + (st.sz + ss.sz) : Nat) : Int) := by
      rw [hcl4]
      show _ + ((st.sz + ss.sz : Nat) : Int) = _
      omega
    refine ⟨_, rfl, _, rfl, _, _, rfl, rfl, Cm.small (by show 2 ≤ 100000; decide), fun p3 np3 => ⟨Cm.small (by show 1 ≤ 100000; decide), fun p4 np4 => ?_⟩⟩
    have r4 := made1 (K := K) np4 (made np3 (.cons (.str "unless") (.cons (intE eE) .nil)))
    have s4 := (Cm.same_new (o := .tup [.str "unless", .int ((at_ : Int) + (cs1.length : Nat) + 1 + (cs2.length : Nat) + 1)]) np3).trans (Cm.same_new (o := .tup [.ref p3]) np4)
    have s234 := (s2.trans s3).trans s4
    refine cat_rp (ru1.keep (Same.tups s234)) r4 (by simp only [List.length_append, List.length_cons, List.length_nil, Pt.E.code_len]; omega) fun u5 H5 s5 r5 => ?_
    refine ⟨_, rfl, cat_rp r5 (ru2.keep (Same.tups ((s3.trans s4).trans s5))) (by simp only [List.length_append, List.length_cons, List.length_nil, Pt.E.code_len, Ss.code_len]; omega) fun u6 H6 s6 r6 => ?_⟩
    have s46 := (s4.trans s5).trans s6
    refine ⟨_, rfl, _, _, rfl, rfl, _, rfl, c4, cs4, rfl, .inr (Cm.sameT s46 hc4), _, _, rfl, rfl, Cm.small (by show 2 ≤ 100000; decide), fun p7 np7 => ⟨Cm.small (by show 1 ≤ 100000; decide), fun p8 np8 => ?_⟩⟩
    have r8 := made1 (K := K) np8 (made np7 (.cons (.str "jump") (.cons (intE eF) .nil)))
    have s8 := (Cm.same_new (o := .tup [.str "jump", .int ((at_ : Int) + (cs1.length : Nat) + 1 + (cs2.length : Nat) + 1 + (cs4.length : Nat))]) np7).trans (Cm.same_new (o := .tup [.ref p7]) np8)
    refine cat_rp (r6.keep (Same.tups s8)) r8 (by simp only [List.length_append, List.length_cons, List.length_nil, Pt.E.code_len, Ss.code_len]; omega) fun u9 H9 s9 r9 => ?_
    have s49 := (s46.trans s8).trans s9
    refine ⟨_, rfl, cat_rp r9 (ru3.keep (Same.tups s49)) (by simp only [List.length_append, List.length_cons, List.length_nil, Pt.E.code_len, Ss.code_len]; omega) fun u10 H10 s10 r10 => ?_⟩
    exact q _ _ (((s02.trans s3).trans s49).trans s10) r10
theorem at0 {x : V} {xs : List V} : atI (x :: xs) 0 = some x := atI_nat (j := 0) rfl
theorem dlen_D {st : S} : ∃ w ds, st.d = .tuple (.str w :: ds) := by
  cases st <;> exact ⟨_, _, rfl⟩
theorem ok_stmt (T : Txt K mg w a) (d : Nat) (hd13 : d ≤ 12) (gx : FnOk P w K mg base CX0 40 (He.ga K "_expression_code") a.d_expression_code pX (spX K 13))
    (gr : FnOk P w K mg base CX0 41 (He.ga K "_row_code") a.d_row_code ["names", "expressions", "at"] (spR K 13)) (gc : FnOk P w K mg base CX0 42 (He.ga K "_call_code") a.d_call_code ["names", "call", "at"] (spC K 13))
    (gi : FnOk P w K mg base CX0 (3 * d + 45) (He.ga K "_if_code") a.d_if_code pS (spIc K (d + 1))) (gw : FnOk P w K mg base CX0 (3 * d + 45) (He.ga K "_while_code") a.d_while_code pS (spWc K (d + 1))) :
    FnOk P w K mg base CX0 (3 * d + 46) (He.ga K "_statement_code") a.d_statement_code pS (spSc K (d + 1)) := by
  refine T.F_statement_code.ok sc_statement_code (fun vs H Q E h => ?_) (fun cdv A outer s H vs Q E hr h => ?_)
  · obtain ⟨_, _, _, _, _, _, rfl, _⟩ := h
    rfl
  obtain ⟨nd, v, at_, st, pl, N, rfl, hpl, hv, hw, hu, hd, hsz, q⟩ := h
  refine ⟨_, PSs.nox (pss_cons (ps_set (i := 3) sc_statement_code.nd rfl (Or.inl rfl) (pe_ix ix_tup (pv 1) pe_int (fun _ _ => rfl)))
      (pss_cons (ps_if (pt_cmpR op_eq (pv 3) pe_str (nomark _)) (pss_one (ps_ret (pe_call gi (hr.mono (by omega)) (by rfl) T.g_if_code T.F_if_code.kp T.b_if_code .nil pass0 (pa_cons (pv 0) (pa_cons (pv 1) (pa_cons (pv 2) pa_nil)))))) pss_nil)
      (pss_cons (ps_if (pt_cmpR op_eq (pv 3) pe_str (nomark _)) (pss_one (ps_ret (pe_call gw (hr.mono (by omega)) (by rfl) T.g_while_code T.F_while_code.kp T.b_while_code .nil pass0 (pa_cons (pv 0) (pa_cons (pv 1) (pa_cons (pv 2) pa_nil)))))) pss_nil)
      (pss_cons (ps_if (pt_cmpR op_eq (pv 3) pe_str (nomark _)) (pss_one (ps_ret (pe_call gc (hr.mono (by omega)) (by rfl) T.g_call_code T.F_call_code.kp T.b_call_code .nil pass0 (pa_cons (pv 0) (pa_cons (pv 1) (pa_cons (pv 2) pa_nil)))))) pss_nil)
      (pss_cons (ps_if (PW.pt (pw_or (pt_cmpR op_eq (pv 3) pe_str (nomark _)) (pw_or1 (pt_cmpR op_eq (pv 3) pe_str (nomark _))))) (pss_cons (ps_asg (pe_dget (hu_of hr) (pv 0) (pe_ix ix_tup (pv 1) pe_int (fun _ _ => rfl)) (fun _ _ => rfl)) (pg_tup (by rfl) (pgs_cons (pg_name (i := 4) sc_statement_code.nd rfl (Or.inl rfl)) (pgs_cons (pg_name (i := 5) sc_statement_code.nd rfl (Or.inl rfl)) pgs_nil))))
      (pss_one (ps_ret (pe_op op_catA (pe_call gx (hr.mono (by omega)) (by rfl) T.g_expression_code T.F_expression_code.kp T.b_expression_code .nil pass0 (pa_cons (pv 0) (pa_cons (pe_ix ix_tup (pv 1) (pe_un un_neg pe_int) (fun _ _ => rfl)) (pa_cons (pv 2) pa_nil)))) (pe_tup (pa_cons (pe_tup (pa_cons (pe_op op_add_str pe_str (pv 4)) (pa_cons (pv 5) pa_nil))) pa_nil)))))) pss_nil)
      (pss_cons (ps_set (i := 6) sc_statement_code.nd rfl (Or.inl rfl) (pe_ifExp (pt_cmpR op_eq (pv 3) pe_str (nomark _)) pe_str (pv 3)))
      (pss_one (ps_ret (pe_op op_catA (pe_call gr (hr.mono (by omega)) (by rfl) T.g_row_code T.F_row_code.kp T.b_row_code .nil pass0 (pa_cons (pv 0) (pa_cons (pe_slice sl_tupA (pv 1) (po_some pe_int) po_none) (pa_cons (pv 2) pa_nil)))) (pe_tup (pa_cons (pe_tup (pa_cons (pv 6) pa_nil)) pa_nil))))))))))), ?_⟩
  cases st with
  | ifS e bl cl =>
    obtain ⟨b, vs, rfl, hb, hvs⟩ := hv.tup_inv
    obtain ⟨v0, vs, rfl, r0, hvs⟩ := hvs.cons_inv
    cases r0.str_inv
    refine ⟨_, rfl, b, _, _, _, rfl, rfl, hb, at0, ?_⟩
    refine ⟨_, rfl, rfl, _, rfl, Cm.itES (fun _ => ?_) (fun e => absurd rfl e)⟩
    exact ⟨_, rfl, _, rfl, _, rfl, nd, _, at_, e, bl, cl, pl, N, rfl, hpl, hv, hw, hu, hd, hsz, q⟩
  | whileS e bl =>
    obtain ⟨b, vs, rfl, hb, hvs⟩ := hv.tup_inv
    obtain ⟨v0, vs, rfl, r0, hvs⟩ := hvs.cons_inv
    cases r0.str_inv
    refine ⟨_, rfl, b, _, _, _, rfl, rfl, hb, at0, ?_⟩
    refine ⟨_, rfl, rfl, _, rfl, Cm.itES (fun e => absurd e (by decide)) (fun _ => ?_)⟩
    refine ⟨_, rfl, rfl, _, rfl, Cm.itES (fun _ => ?_) (fun e => absurd rfl e)⟩
    exact ⟨_, rfl, _, rfl, _, rfl, nd, _, at_, e, bl, pl, N, rfl, hpl, hv, hw, hu, hd, hsz, q⟩
  | fork r f as =>
    obtain ⟨b, vs, rfl, hb, hvs⟩ := hv.tup_inv
    obtain ⟨v0, vs, rfl, r0, hvs⟩ := hvs.cons_inv
    cases r0.str_inv
    refine ⟨_, rfl, b, _, _, _, rfl, rfl, hb, at0, ?_⟩
    refine ⟨_, rfl, rfl, _, rfl, Cm.itES (fun e => absurd e (by decide)) (fun _ => ?_)⟩
    refine ⟨_, rfl, rfl, _, rfl, Cm.itES (fun e => absurd e (by decide)) (fun _ => ?_)⟩
    refine ⟨_, rfl, rfl, _, rfl, Cm.itES (fun _ => ?_) (fun e => absurd rfl e)⟩
    have hz : r.sz + as.sz + 1 ≤ 100000 := hsz
    have hdd : max r.dep as.dep + 1 < d + 1 := hd
    exact ⟨_, rfl, _, rfl, _, rfl, nd, _, at_, "fork", r, f, as, pl, N, rfl, hpl, hv, hw, hu, by omega, by omega, q⟩
  | letS x k e =>
    obtain ⟨b, vs, rfl, hb, hvs⟩ := hv.tup_inv
    obtain ⟨v0, vs, rfl, r0, hvs⟩ := hvs.cons_inv
    obtain ⟨v1, vs, rfl, r1, hvs⟩ := hvs.cons_inv
    obtain ⟨v2, vs, rfl, r2, hvs⟩ := hvs.cons_inv
    obtain ⟨v3, vs, rfl, r3, hvs⟩ := hvs.cons_inv
    cases hvs.nil_inv
    cases r0.str_inv
    cases r1.str_inv
    have hz : e.sz + 1 ≤ 100000 := hsz
    have hdd : e.dep + 1 < d + 1 := hd
    obtain ⟨kvs, hk, hx⟩ := id hpl
    obtain ⟨hxl, u, hu1, ru⟩ := hx x (hu x (List.mem_cons_self))
    have gx : DGet H nd (.str x) (some u) := by
      rw [← hu1]
      exact DGet.k (k := .inr x) hk
    obtain ⟨c, us, rfl, hc, hus⟩ := ru.tup_inv
    obtain ⟨w0, us, rfl, rw0, hus⟩ := hus.cons_inv
    obtain ⟨w1, us, rfl, rw1, hus⟩ := hus.cons_inv
    cases hus.nil_inv
    cases rw0.str_inv
    cases rw1.int_inv
    refine ⟨_, rfl, b, _, _, _, rfl, rfl, hb, rfl, ?_⟩
    refine ⟨_, rfl, rfl, _, rfl, Cm.itES (fun e => absurd e (by decide)) (fun _ => ?_)⟩
    refine ⟨_, rfl, rfl, _, rfl, Cm.itES (fun e => absurd e (by decide)) (fun _ => ?_)⟩
    refine ⟨_, rfl, rfl, _, rfl, Cm.itES (fun e => absurd e (by decide)) (fun _ => ?_)⟩
    refine ⟨_, rfl, rfl, _, rfl, Cm.itES (fun _ => ?_) (fun e => absurd rfl e)⟩
    refine ⟨_, rfl, _, rfl, b, _, _, _, rfl, rfl, hb, rfl, nd, _, rfl, gx, ?_⟩
    refine ⟨c, _, rfl, hc, rfl, _, _, rfl, _, _, rfl, rfl, ?_⟩
    refine ⟨_, rfl, _, rfl, _, rfl, b, _, _, _, rfl, rfl, hb, rfl, _, rfl, ?_⟩
    refine ⟨nd, v3, at_, e, pl, N, rfl, hpl, r3, hw, fun y hy => hu y (List.mem_cons_of_mem _ hy), by omega, by omega, fun H1 u1 s1 ru1 => ?_⟩
    refine ⟨_, rfl, _, _, rfl, rfl, Cm.small (by show 3 + (pl x).1.length ≤ 100000; omega), _, rfl, Cm.small (by show 2 ≤ 100000; decide), fun p3 np3 => ⟨Cm.small (by show 1 ≤ 100000; decide), fun p4 np4 => ?_⟩⟩
    have r4 := made1 (K := K) np4 (made np3 (.cons (.str ("set" ++ (pl x).1)) (.cons (.int (pl x).2) .nil)))
    have s4 := (Cm.same_new (o := .tup [.str ("set" ++ (pl x).1), .int (pl x).2]) np3).trans (Cm.same_new (o := .tup [.ref p3]) np4)
    refine cat_rp (ru1.keep (Same.tups s4)) r4 (by simp only [List.length_append, List.length_cons, List.length_nil, Pt.E.code_len]; omega) fun u5 H5 s5 r5 => ?_
    exact q _ _ ((s1.trans s4).trans s5) r5
  | setS x e =>
    obtain ⟨b, vs, rfl, hb, hvs⟩ := hv.tup_inv
    obtain ⟨v0, vs, rfl, r0, hvs⟩ := hvs.cons_inv
    obtain ⟨v1, vs, rfl, r1, hvs⟩ := hvs.cons_inv
    obtain ⟨v2, vs, rfl, r2, hvs⟩ := hvs.cons_inv
    cases hvs.nil_inv
    cases r0.str_inv
    cases r1.str_inv
    have hz : e.sz + 1 ≤ 100000 := hsz
    have hdd : e.dep + 1 < d + 1 := hd
    obtain ⟨kvs, hk, hx⟩ := id hpl
    obtain ⟨hxl, u, hu1, ru⟩ := hx x (hu x (List.mem_cons_self))
    have gx : DGet H nd (.str x) (some u) := by
      rw [← hu1]
      exact DGet.k (k := .inr x) hk
    obtain ⟨c, us, rfl, hc, hus⟩ := ru.tup_inv
    obtain ⟨w0, us, rfl, rw0, hus⟩ := hus.cons_inv
    obtain ⟨w1, us, rfl, rw1, hus⟩ := hus.cons_inv
    cases hus.nil_inv
    cases rw0.str_inv
    cases rw1.int_inv
    refine ⟨_, rfl, b, _, _, _, rfl, rfl, hb, rfl, ?_⟩
    refine ⟨_, rfl, rfl, _, rfl, Cm.itES (fun e => absurd e (by decide)) (fun _ => ?_)⟩
    refine ⟨_, rfl, rfl, _, rfl, Cm.itES (fun e => absurd e (by decide)) (fun _ => ?_)⟩
    refine ⟨_, rfl, rfl, _, rfl, Cm.itES (fun e => absurd e (by decide)) (fun _ => ?_)⟩
    refine ⟨_, rfl, rfl, _, rfl, Cm.itES (fun e => absurd e (by decide)) (fun _ => ?_)⟩
    refine ⟨_, rfl, rfl, _, rfl, Cm.itES (fun _ => ?_) (fun e => absurd rfl e)⟩
    refine ⟨_, rfl, _, rfl, b, _, _, _, rfl, rfl, hb, rfl, nd, _, rfl, gx, ?_⟩
    refine ⟨c, _, rfl, hc, rfl, _, _, rfl, _, _, rfl, rfl, ?_⟩
    refine ⟨_, rfl, _, rfl, _, rfl, b, _, _, _, rfl, rfl, hb, rfl, _, rfl, ?_⟩
    refine ⟨nd, v2, at_, e, pl, N, rfl, hpl, r2, hw, fun y hy => hu y (List.mem_cons_of_mem _ hy), by omega, by omega, fun H1 u1 s1 ru1 => ?_⟩
    refine ⟨_, rfl, _, _, rfl, rfl, Cm.small (by show 3 + (pl x).1.length ≤ 100000; omega), _, rfl, Cm.small (by show 2 ≤ 100000; decide), fun p3 np3 => ⟨Cm.small (by show 1 ≤ 100000; decide), fun p4 np4 => ?_⟩⟩
    have r4 := made1 (K := K) np4 (made np3 (.cons (.str ("set" ++ (pl x).1)) (.cons (.int (pl x).2) .nil)))
    have s4 := (Cm.same_new (o := .tup [.str ("set" ++ (pl x).1), .int (pl x).2]) np3).trans (Cm.same_new (o := .tup [.ref p3]) np4)
    refine cat_rp (ru1.keep (Same.tups s4)) r4 (by simp only [List.length_append, List.length_cons, List.length_nil, Pt.E.code_len]; omega) fun u5 H5 s5 r5 => ?_
    exact q _ _ ((s1.trans s4).trans s5) r5
  | doS e =>
    have hz : e.sz + 1 ≤ 100000 := hsz
    have hdd : e.dep + 1 < d + 1 := hd
    obtain ⟨b, vs, rfl, hb, hvs⟩ := id hv.tup_inv
    obtain ⟨v0, vs, rfl, r0, hvs⟩ := hvs.cons_inv
    cases r0.str_inv
    refine ⟨_, rfl, b, _, _, _, rfl, rfl, hb, at0, ?_⟩
    refine ⟨_, rfl, rfl, _, rfl, Cm.itES (fun e => absurd e (by decide)) (fun _ => ?_)⟩
    refine ⟨_, rfl, rfl, _, rfl, Cm.itES (fun e => absurd e (by decide)) (fun _ => ?_)⟩
    refine ⟨_, rfl, rfl, _, rfl, Cm.itES (fun e => absurd e (by decide)) (fun _ => ?_)⟩
    refine ⟨_, rfl, rfl, _, rfl, Cm.itES (fun e => absurd e (by decide)) (fun _ => ?_)⟩
    refine ⟨_, rfl, rfl, _, rfl, Cm.itES (fun e => absurd e (by decide)) (fun _ => ?_)⟩
    refine ⟨_, rfl, rfl, _, rfl, Cm.itES (fun _ => ?_) (fun e => absurd rfl e)⟩
    refine ⟨_, rfl, _, rfl, ?_⟩
    unfold tPart tNoPart tC
    dsimp only
    refine ⟨1, rfl, ?_⟩
    refine from_rp (k := 1) hv (Nat.le_add_left 1 _) fun u1 H1 s1 ru1 => ⟨_, rfl, ?_⟩
    refine ⟨nd, u1, at_, .cons e .nil, pl, N, rfl, hpl.same s1, ru1, and2 hw rfl, fun x hx => hu x (by rcases List.mem_append.mp hx with h | h; exact h; cases h), (by show max e.dep 0 < 13; omega), (by show e.sz + 0 ≤ 100000; omega), fun H2 u2 s2 ru2 => ?_⟩
    have ec : (Es.cons e .nil).code pl at_ = e.code pl at_ := List.append_nil _
    rw [ec] at ru2
    refine ⟨_, rfl, Cm.small (by show 1 ≤ 100000; decide), fun p np => ⟨Cm.small (by show 1 ≤ 100000; decide), fun p2 np2 => ?_⟩⟩
    have r2 := made1 (K := K) np2 (made np (.cons (.str "drop") .nil))
    have s3 := (Cm.same_new (o := .tup [.str "drop"]) np).trans (Cm.same_new (o := .tup [.ref p]) np2)
    exact cat_rp (ru2.keep (Same.tups s3)) r2 (by rw [Pt.E.code_len]; show e.sz + 1 ≤ 10000000; omega) fun u5 H5 s5 r5 => q _ _ (((s1.trans s2).trans s3).trans s5) r5
  | plain wd as =>
    have hz : as.sz + 1 ≤ 100000 := hsz
    have hdd : as.dep + 1 < d + 1 := hd
    obtain ⟨hw1, hw2⟩ := Bool.and_eq_true_iff.mp hw
    have hm : wd ∈ plainB := of_decide_eq_true (Bool.and_eq_true_iff.mp hw1).1
    have no : ∀ x ∈ plainB, ¬ x = Str.ofString "if" ∧ ¬ x = Str.ofString "while" ∧ ¬ x = Str.ofString "fork" ∧ ¬ x = Str.ofString "let" ∧ ¬ x = Str.ofString "set" ∧ ¬ x = Str.ofString "do" := by decide +kernel
    obtain ⟨n1, n2, n3, n4, n5, n6⟩ := no wd hm
    obtain ⟨b, vs, rfl, hb, hvs⟩ := id hv.tup_inv
    obtain ⟨v0, vs, rfl, r0, hvs⟩ := hvs.cons_inv
    cases r0.str_inv
    refine ⟨_, rfl, b, _, _, _, rfl, rfl, hb, at0, ?_⟩
    refine ⟨_, rfl, rfl, _, rfl, Cm.itES (fun e => absurd e n1) (fun _ => ?_)⟩
    refine ⟨_, rfl, rfl, _, rfl, Cm.itES (fun e => absurd e n2) (fun _ => ?_)⟩
    refine ⟨_, rfl, rfl, _, rfl, Cm.itES (fun e => absurd e n3) (fun _ => ?_)⟩
    refine ⟨_, rfl, rfl, _, rfl, Cm.itES (fun e => absurd e n4) (fun _ => ?_)⟩
    refine ⟨_, rfl, rfl, _, rfl, Cm.itES (fun e => absurd e n5) (fun _ => ?_)⟩
    refine ⟨_, rfl, rfl, _, rfl, Cm.itES (fun e => absurd e n6) (fun _ => ?_)⟩
    refine ⟨_, rfl, ?_⟩
    refine ⟨_, rfl, _, rfl, ?_⟩
    unfold tPart tNoPart tC
    dsimp only
    refine ⟨1, rfl, ?_⟩
    refine from_rp (k := 1) hv (Nat.le_add_left 1 _) fun u1 H1 s1 ru1 => ⟨_, rfl, ?_⟩
    refine ⟨nd, u1, at_, as, pl, N, rfl, hpl.same s1, ru1, hw2, hu, by omega, by omega, fun H2 u2 s2 ru2 => ?_⟩
    refine ⟨_, rfl, Cm.small (by show 1 ≤ 100000; decide), fun p np => ⟨Cm.small (by show 1 ≤ 100000; decide), fun p2 np2 => ?_⟩⟩
    have r2 := made1 (K := K) np2 (made np (.cons (.str wd) .nil))
    have s3 := (Cm.same_new (o := .tup [.str wd]) np).trans (Cm.same_new (o := .tup [.ref p]) np2)
    exact cat_rp (ru2.keep (Same.tups s3)) r2 (by rw [Es.code_len]; show as.sz + 1 ≤ 10000000; omega) fun u5 H5 s5 r5 => q _ _ (((s1.trans s2).trans s3).trans s5) r5
theorem step_blockc (T : Txt K mg w a) (d : Nat) (gs : FnOk P w K mg base CX0 (3 * d + 46) (He.ga K "_statement_code") a.d_statement_code pS (spSc K (d + 1))) :
    FnOk P w K mg base CX0 (3 * (d + 1) + 44) (He.ga K "_block_code") a.d_block_code pB (spBc K (d + 1)) := by
  refine T.F_block_code.ok sc_block_code (fun vs H Q E h => ?_) (fun cdv A outer s H vs Q E hr h => ?_)
  · obtain ⟨_, _, _, _, _, _, rfl, _⟩ := h
    rfl
  obtain ⟨nd, v, at_, es, pl, N, rfl, hpl, hv, hw, hu, hd, hsz, q⟩ := h
  refine ⟨_, PSs.nox (pss_cons (ps_set (i := 3) sc_block_code.nd rfl (Or.inl rfl) (pe_tup pa_nil))
      (pss_cons (ps_for PassesOwn.never rfl (pi_tup (pv 1)) (pg_name (i := 4) sc_block_code.nd rfl (Or.inl rfl))
      (pss_one (ps_set (i := 3) sc_block_code.nd rfl (Or.inl rfl) (pe_op op_catA (pv 3) (pe_call gs (hr.mono (by omega)) (by rfl) T.g_statement_code T.F_statement_code.kp T.b_statement_code .nil pass0 (pa_cons (pv 0) (pa_cons (pv 4) (pa_cons (pe_op op_add (pv 2) (pe_callB call_len_seq (by rfl) T.g_len boot_len (pa_cons (pv 3) pa_nil))) pa_nil))))))))
      (pss_one (ps_ret (pv 3))))), ?_⟩
  refine ⟨Nat.zero_le _, fun p np => ?_⟩
  have s0 := Cm.same_new (o := .tup []) np
  obtain ⟨b, vs, rfl, hb, hvs⟩ := hv.tup_inv
  have hlen : vs.length = es.list.length := by rw [hvs.len, Ss.list_ds, List.length_map]
  refine ⟨_, rfl, b, rfl, ⟨vs, Cm.sameT s0 hb⟩, for_tup (K := K) (a := b) (xs := vs) (fun i σ H2 => ∃ (u : V) (x4 : Option V), σ = [some (.ref nd), some (.ref b), some (.int at_), some u, x4] ∧ Same H H2 ∧ Rp K H2 u (.tuple ((es.take i).code pl at_)))
    ⟨_, none, rfl, s0, made np (by cases es <;> exact .nil)⟩ (fun i σ H2 _ ⟨_, _, _, s2, _⟩ => Cm.sameT s2 hb) (fun i x σ H2 hx ⟨u, x4, e, s2, ru⟩ => ?_) fun σ H2 ⟨u, x4, e, s2, ru⟩ => ?_⟩
  · subst e
    obtain ⟨e, he, re⟩ := hvs.at_S hx
    obtain ⟨h1, h2, h3, h4⟩ := Ss.part (List.mem_of_getElem? he)
    obtain ⟨nc, nz⟩ := Ss.take_next (pl := pl) at_ he
    obtain ⟨c, cs, rfl, hc, hcl⟩ := len_rp ru
    rw [Ss.code_len] at hcl
    refine ⟨_, rfl, _, rfl, _, rfl, _, rfl, _, rfl, c, cs, rfl, .inr hc, _, _, rfl, rfl, nd, x, at_ + (es.take i).sz, e, pl, N, args3 (by omega), hpl.same s2, re.keep (Same.tups s2), h1 hw, fun y hy => hu y (h2 y hy), by omega, by omega, fun H3 u3 s3 r3 => ?_⟩
    have hz := Ss.take_sz es i
    refine cat_rp (ru.keep (Same.tups s3)) r3 (by rw [Ss.code_len, S.code_len]; omega) fun u4 H4 s4 r4 => ?_
    exact ⟨u4, _, rfl, (s2.trans s3).trans s4, by rw [nc]; exact r4⟩
  · subst e
    rw [hlen, Ss.take_all] at ru
    exact ⟨_, rfl, q _ _ s2 ru⟩
theorem ok_blockc (T : Txt K mg w a) : ∀ d : Nat, d ≤ 13 → FnOk P w K mg base CX0 (3 * d + 44) (He.ga K "_block_code") a.d_block_code pB (spBc K d)
  | 0, _ => vac fun vs H Q E h => by
    obtain ⟨_, _, _, e, _, _, _, _, _, _, _, hd, _⟩ := h
    exact absurd hd (Nat.not_lt_zero e.dep)
  | d + 1, hd => by
    have gx := ok_expr (P := P) (w := w) (base := base) T 13
    have gr := ok_row T 13 gx
    have gc := ok_call T 13 gr
    have gb := ok_blockc T d (by omega)
    exact step_blockc T d (ok_stmt T d (by omega) gx gr gc (ok_if T d (by omega) gx gb) (ok_while T d (by omega) gx gb))
/-- compiled_block -/
def spCb (K : PySem.W.Frag) : Sp := fun vs H Q _ => ∃ (nd : Addr) (v : V) (b : Ss) (pl : Plc) (N : List Str), vs = [.ref nd, v] ∧ PlAt K H nd pl N ∧ Rp K H v (.tuple b.ds) ∧ b.wf = true ∧ (∀ x ∈ b.uses, x ∈ N) ∧ b.dep < 13 ∧ b.sz ≤ 100000 ∧
  ∀ (H' : Hp) (u : V), Same H H' → Rp K H' u (.tuple (b.code pl 0)) → Q u H'
theorem ok_compiled (T : Txt K mg w a) : FnOk P w K mg base CX0 84 (He.ga K "compiled_block") a.d_compiled_block ["names", "block"] (spCb K) := by
  have gb := ok_blockc (P := P) (w := w) (base := base) T 13 (by decide)
  refine T.F_compiled_block.ok sc_compiled_block (fun vs H Q E h => ?_) (fun cdv A outer s H vs Q E hr h => ?_)
  · obtain ⟨_, _, _, _, _, rfl, _⟩ := h
    rfl
  obtain ⟨nd, v, es, pl, N, rfl, hpl, hv, hw, hu, hd, hsz, q⟩ := h
  refine ⟨_, PSs.nox (pss_one (ps_ret (pe_call gb (hr.mono (by omega)) (by rfl) T.g_block_code T.F_block_code.kp T.b_block_code .nil pass0 (pa_cons (pv 0) (pa_cons (pv 1) (pa_cons pe_int pa_nil)))))), ?_⟩
  exact ⟨_, rfl, _, rfl, nd, v, 0, es, pl, N, rfl, hpl, hv, hw, hu, hd, hsz, q⟩
/-! ### the names of lets -/
def subsS : S → List Ss
  | .ifS _ b c => [b, c]
  | .whileS _ b => [b]
  | _ => []
def ownS : S → List Str
  | .letS x _ _ => [x]
  | _ => []
def letsL : List Ss → List Str
  | [] => []
  | b :: bs => b.lets ++ letsL bs
theorem lets_eq (s : S) : s.lets = ownS s ++ letsL (subsS s) := by
  cases s with
  | ifS e b c => show b.lets ++ c.lets = [] ++ (b.lets ++ (c.lets ++ [])); rw [List.append_nil, List.nil_append]
  | whileS e b => show b.lets = [] ++ (b.lets ++ []); rw [List.append_nil, List.nil_append]
  | letS x k e => rfl
  | setS x e => rfl
  | doS e => rfl
  | fork r f as => rfl
  | plain w as => rfl
theorem letsL_snoc {b : Ss} : ∀ {bs : List Ss} {j : Nat}, bs[j]? = some b → letsL (bs.take (j + 1)) = letsL (bs.take j) ++ b.lets
  | c :: bs, 0, h => by
    cases h
    show b.lets ++ letsL (bs.take 0) = [] ++ b.lets
    rw [List.nil_append]
    exact List.append_nil _
  | c :: bs, j + 1, h => by
    show c.lets ++ letsL (bs.take (j + 1)) = (c.lets ++ letsL (bs.take j)) ++ b.lets
    rw [letsL_snoc (bs := bs) (j := j) h, List.append_assoc]
  | [], _, h => by cases h
theorem take_lets : ∀ {es : Ss} {i : Nat} {e : S}, es.list[i]? = some e → (es.take (i + 1)).lets = (es.take i).lets ++ e.lets
  | .cons e es, 0, _, h => by
    cases h
    show e.lets ++ (es.take 0).lets = [] ++ e.lets
    cases es <;> exact List.append_nil _
  | .cons e es, i + 1, f, h => by
    show e.lets ++ (es.take (i + 1)).lets = (e.lets ++ (es.take i).lets) ++ f.lets
    rw [take_lets (es := es) (i := i) h, List.append_assoc]
  | .nil, i, _, h => by cases h
mutual
theorem S.lets_sz : ∀ s : S, s.lets.length ≤ s.sz
  | .ifS e b c => by
    have h1 := Ss.lets_sz b
    have h2 := Ss.lets_sz c
    have h3 := ifsz (Nat.le_refl (S.ifS e b c).sz)
    show (b.lets ++ c.lets).length ≤ _
    rw [List.length_append]
    omega
  | .whileS e b => by
    have h1 := Ss.lets_sz b
    show b.lets.length ≤ e.sz + b.sz + 2
    omega
  | .letS x k e => by show 1 ≤ e.sz + 1; omega
  | .setS x e => Nat.zero_le _
  | .doS e => Nat.zero_le _
  | .fork r f as => Nat.zero_le _
  | .plain w as => Nat.zero_le _
theorem Ss.lets_sz : ∀ b : Ss, b.lets.length ≤ b.sz
  | .nil => Nat.le_refl 0
  | .cons s ss => by
    have h1 := S.lets_sz s
    have h2 := Ss.lets_sz ss
    show (s.lets ++ ss.lets).length ≤ s.sz + ss.sz
    rw [List.length_append]
    omega
end
theorem subs_dep {s : S} {b : Ss} (h : b ∈ subsS s) : b.dep < s.dep := by
  cases s with
  | ifS e c d =>
    have e1 : (S.ifS e c d).dep = max e.dep (max c.dep d.dep) + 1 := rfl
    rcases List.mem_cons.mp h with rfl | h
    · omega
    · rcases List.mem_cons.mp h with rfl | h
      · omega
      · cases h
  | whileS e c =>
    have e1 : (S.whileS e c).dep = max e.dep c.dep + 1 := rfl
    rcases List.mem_cons.mp h with rfl | h
    · omega
    · cases h
  | letS x k e => cases h
  | setS x e => cases h
  | doS e => cases h
  | fork r f as => cases h
  | plain w as => cases h
theorem subs_sz {s : S} {b : Ss} (h : b ∈ subsS s) : b.sz ≤ s.sz := by
  cases s with
  | ifS e c d =>
    have h3 := ifsz (Nat.le_refl (S.ifS e c d).sz)
    rcases List.mem_cons.mp h with rfl | h
    · omega
    · rcases List.mem_cons.mp h with rfl | h
      · omega
      · cases h
  | whileS e c =>
    have e1 : (S.whileS e c).sz = e.sz + c.sz + 2 := rfl
    rcases List.mem_cons.mp h with rfl | h
    · omega
    · cases h
  | letS x k e => cases h
  | setS x e => cases h
  | doS e => cases h
  | fork r f as => cases h
  | plain w as => cases h
theorem subs_wf {s : S} {b : Ss} (h : b ∈ subsS s) (hw : s.wf = true) : b.wf = true := by
  cases s with
  | ifS e c d =>
    obtain ⟨_, h2⟩ := Bool.and_eq_true_iff.mp (show (e.wf && (c.wf && d.wf)) = true from hw)
    obtain ⟨h1, h2⟩ := Bool.and_eq_true_iff.mp h2
    rcases List.mem_cons.mp h with rfl | h
    · exact h1
    · rcases List.mem_cons.mp h with rfl | h
      · exact h2
      · cases h
  | whileS e c =>
    obtain ⟨_, h2⟩ := Bool.and_eq_true_iff.mp (show (e.wf && c.wf) = true from hw)
    rcases List.mem_cons.mp h with rfl | h
    · exact h2
    · cases h
  | letS x k e => cases h
  | setS x e => cases h
  | doS e => cases h
  | fork r f as => cases h
  | plain w as => cases h
theorem map_at {α β : Type} {g : α → β} {l : List α} {i : Nat} {y : β} (h : (l.map g)[i]? = some y) : ∃ x, l[i]? = some x ∧ g x = y := by
  rw [List.getElem?_map] at h
  cases e : l[i]? with
  | none => rw [e] at h; cases h
  | some x =>
    rw [e] at h
    exact ⟨x, rfl, Option.some.inj h⟩
theorem rps_at {K : PySem.W.Frag} {H : Hp} {vs : List V} {ds : List PyData} {i : Nat} {v : V} (r : Rps K H vs ds) (h : vs[i]? = some v) : ∃ d, ds[i]? = some d ∧ Rp K H v d := by
  have hi : i < ds.length := by
    rw [← r.len]
    exact (List.getElem?_eq_some_iff.mp h).1
  obtain ⟨u, hu, ru⟩ := r.at_ (List.getElem?_eq_getElem hi)
  rw [h] at hu
  cases hu
  exact ⟨_, List.getElem?_eq_getElem hi, ru⟩
theorem letsL_sz {s : S} : ∀ {bs : List Ss} (j : Nat), (letsL (bs.take j)).length ≤ (letsL bs).length
  | [], j => by cases j <;> exact Nat.le_refl 0
  | b :: bs, 0 => Nat.zero_le _
  | b :: bs, j + 1 => by
    have h := letsL_sz (s := s) (bs := bs) j
    show (b.lets ++ letsL (bs.take j)).length ≤ (b.lets ++ letsL bs).length
    rw [List.length_append, List.length_append]
    omega
theorem at1 {x y : V} {xs : List V} : atI (x :: y :: xs) 1 = some y := atI_nat (j := 1) rfl
theorem st_word (st : S) (hw : st.wf = true) : (∃ nm kd e, st = .letS nm kd e) ∨ (ownS st = [] ∧ ∃ wd ds, st.d = .tuple (.str wd :: ds) ∧ ¬ wd = Str.ofString "let") := by
  cases st with
  | letS nm kd e => exact .inl ⟨nm, kd, e, rfl⟩
  | ifS e bl cl => exact .inr ⟨rfl, _, _, rfl, by decide⟩
  | whileS e bl => exact .inr ⟨rfl, _, _, rfl, by decide⟩
  | setS x e => exact .inr ⟨rfl, _, _, rfl, by decide⟩
  | doS e => exact .inr ⟨rfl, _, _, rfl, by decide⟩
  | fork r f as => exact .inr ⟨rfl, _, _, rfl, by decide⟩
  | plain wd as => exact .inr ⟨rfl, _, _, rfl, (by decide +kernel : ∀ x ∈ plainB, ¬ x = Str.ofString "let") wd (of_decide_eq_true (Bool.and_eq_true_iff.mp (Bool.and_eq_true_iff.mp hw).1).1)⟩
def spBi (K : PySem.W.Frag) : Sp := fun vs H Q _ => ∃ (v : V) (s : S), vs = [v] ∧ Rp K H v s.d ∧ s.wf = true ∧
  ∀ (H' : Hp) (p : Addr) (xs : List V), Same H H' → H p = none → H' p = some (.lst xs) → Rps K H' xs ((subsS s).map fun b => .tuple b.ds) → Q (.ref p) H'
theorem made2L {K : PySem.W.Frag} {H : Hp} {p : Addr} {xs : List V} {ds : List PyData} (np : H p = none) (r : Rps K H xs ds) : Rps K (upd H p (.lst xs)) xs ds := r.keep (Same.tups (Cm.same_new np))
theorem ok_blocks_in (T : Txt K mg w a) : FnOk P w K mg base CX0 1 (He.ga K "blocks_in") a.d_blocks_in ["statement"] (spBi K) := by
  refine T.F_blocks_in.ok sc_blocks_in (fun vs H Q E h => ?_) (fun cdv A outer s H vs Q E hr h => ?_)
  · obtain ⟨_, _, rfl, _⟩ := h
    rfl
  obtain ⟨v, st, rfl, hv, hw, q⟩ := h
  refine ⟨_, PSs.nox (pss_cons (ps_if (pt_cmpR op_eq (pe_ix ix_tup (pv 0) pe_int (fun _ _ => rfl)) pe_str (nomark _)) (pss_one (ps_ret (pe_lst (pa_cons (pe_ix ix_tup (pv 0) pe_int (fun _ _ => rfl)) (pa_cons (pe_ix ix_tup (pv 0) pe_int (fun _ _ => rfl)) pa_nil))))) pss_nil)
      (pss_cons (ps_if (pt_cmpR op_eq (pe_ix ix_tup (pv 0) pe_int (fun _ _ => rfl)) pe_str (nomark _)) (pss_one (ps_ret (pe_lst (pa_cons (pe_ix ix_tup (pv 0) pe_int (fun _ _ => rfl)) pa_nil)))) pss_nil)
      (pss_one (ps_ret (pe_lst pa_nil))))), ?_⟩
  have fin : ∀ {wd : Str} {ds : List PyData} {Goal : Prop}, Rp K H v (.tuple (.str wd :: ds)) → (∀ b vs, v = .ref b → SqT K H b (.str wd :: vs) → Rps K H vs ds → Goal) → Goal := fun {wd ds Goal} r k => by
    obtain ⟨b, vs, rfl, hb, hvs⟩ := r.tup_inv
    obtain ⟨v0, vs, rfl, r0, hvs2⟩ := hvs.cons_inv
    cases r0.str_inv
    exact k b vs rfl hb hvs2
  cases st with
  | ifS e bl cl =>
    refine fin hv fun b vs ev hb hvs => ?_
    subst ev
    obtain ⟨v1, vs, rfl, r1, hvs⟩ := hvs.cons_inv
    obtain ⟨v2, vs, rfl, r2, hvs⟩ := hvs.cons_inv
    obtain ⟨v3, vs, rfl, r3, hvs⟩ := hvs.cons_inv
    cases hvs.nil_inv
    refine ⟨_, rfl, b, _, _, _, rfl, rfl, hb, at0, rfl, _, rfl, Cm.itES (fun _ => ?_) (fun e => absurd rfl e)⟩
    refine ⟨_, rfl, b, _, _, _, rfl, rfl, hb, rfl, _, rfl, b, _, _, _, rfl, rfl, hb, rfl, Cm.small (by show 2 ≤ 100000; decide), fun p np => ?_⟩
    exact q _ p _ (Cm.same_new np) np upd_same (made2L np (.cons r2 (.cons r3 .nil)))
  | whileS e bl =>
    refine fin hv fun b vs ev hb hvs => ?_
    subst ev
    obtain ⟨v1, vs, rfl, r1, hvs⟩ := hvs.cons_inv
    obtain ⟨v2, vs, rfl, r2, hvs⟩ := hvs.cons_inv
    cases hvs.nil_inv
    refine ⟨_, rfl, b, _, _, _, rfl, rfl, hb, at0, rfl, _, rfl, Cm.itES (fun e => absurd e (by decide)) (fun _ => ?_)⟩
    refine ⟨_, rfl, b, _, _, _, rfl, rfl, hb, at0, rfl, _, rfl, Cm.itES (fun _ => ?_) (fun e => absurd rfl e)⟩
    refine ⟨_, rfl, b, _, _, _, rfl, rfl, hb, rfl, Cm.small (by show 1 ≤ 100000; decide), fun p np => ?_⟩
    exact q _ p _ (Cm.same_new np) np upd_same (made2L np (.cons r2 .nil))
  | letS x k e =>
    refine fin hv fun b vs ev hb hvs => ?_
    subst ev
    refine ⟨_, rfl, b, _, _, _, rfl, rfl, hb, at0, rfl, _, rfl, Cm.itES (fun e => absurd e (by decide)) (fun _ => ?_)⟩
    refine ⟨_, rfl, b, _, _, _, rfl, rfl, hb, at0, rfl, _, rfl, Cm.itES (fun e => absurd e (by decide)) (fun _ => ?_)⟩
    exact ⟨Nat.zero_le _, fun p np => q _ p _ (Cm.same_new np) np upd_same .nil⟩
  | setS x e =>
    refine fin hv fun b vs ev hb hvs => ?_
    subst ev
    refine ⟨_, rfl, b, _, _, _, rfl, rfl, hb, at0, rfl, _, rfl, Cm.itES (fun e => absurd e (by decide)) (fun _ => ?_)⟩
    refine ⟨_, rfl, b, _, _, _, rfl, rfl, hb, at0, rfl, _, rfl, Cm.itES (fun e => absurd e (by decide)) (fun _ => ?_)⟩
    exact ⟨Nat.zero_le _, fun p np => q _ p _ (Cm.same_new np) np upd_same .nil⟩
  | doS e =>
    refine fin hv fun b vs ev hb hvs => ?_
    subst ev
    refine ⟨_, rfl, b, _, _, _, rfl, rfl, hb, at0, rfl, _, rfl, Cm.itES (fun e => absurd e (by decide)) (fun _ => ?_)⟩
    refine ⟨_, rfl, b, _, _, _, rfl, rfl, hb, at0, rfl, _, rfl, Cm.itES (fun e => absurd e (by decide)) (fun _ => ?_)⟩
    exact ⟨Nat.zero_le _, fun p np => q _ p _ (Cm.same_new np) np upd_same .nil⟩
  | fork r f as =>
    refine fin hv fun b vs ev hb hvs => ?_
    subst ev
    refine ⟨_, rfl, b, _, _, _, rfl, rfl, hb, at0, rfl, _, rfl, Cm.itES (fun e => absurd e (by decide)) (fun _ => ?_)⟩
    refine ⟨_, rfl, b, _, _, _, rfl, rfl, hb, at0, rfl, _, rfl, Cm.itES (fun e => absurd e (by decide)) (fun _ => ?_)⟩
    exact ⟨Nat.zero_le _, fun p np => q _ p _ (Cm.same_new np) np upd_same .nil⟩
  | plain wd as =>
    have hm : wd ∈ plainB := of_decide_eq_true (Bool.and_eq_true_iff.mp (Bool.and_eq_true_iff.mp hw).1).1
    obtain ⟨n1, n2⟩ := (by decide +kernel : ∀ x ∈ plainB, ¬ x = Str.ofString "if" ∧ ¬ x = Str.ofString "while") wd hm
    refine fin hv fun b vs ev hb hvs => ?_
    subst ev
    refine ⟨_, rfl, b, _, _, _, rfl, rfl, hb, at0, rfl, _, rfl, Cm.itES (fun e => absurd e n1) (fun _ => ?_)⟩
    refine ⟨_, rfl, b, _, _, _, rfl, rfl, hb, at0, rfl, _, rfl, Cm.itES (fun e => absurd e n2) (fun _ => ?_)⟩
    exact ⟨Nat.zero_le _, fun p np => q _ p _ (Cm.same_new np) np upd_same .nil⟩
def spLn (K : PySem.W.Frag) (d : Nat) : Sp := fun vs H Q _ => ∃ (v : V) (b : Ss), vs = [v] ∧ Rp K H v (.tuple b.ds) ∧ b.wf = true ∧ b.dep < d ∧ b.sz ≤ 100000 ∧
  ∀ (H' : Hp) (p : Addr), Same H H' → H p = none → H' p = some (.lst (b.lets.map V.str)) → Q (.ref p) H'
theorem step_lets (T : Txt K mg w a) (d : Nat) (gl : FnOk P w K mg base CX0 (d + 2) (He.ga K "let_names") a.d_let_names ["block"] (spLn K d)) :
    FnOk P w K mg base CX0 (d + 3) (He.ga K "let_names") a.d_let_names ["block"] (spLn K (d + 1)) := by
  have gb := ok_blocks_in (P := P) (w := w) (base := base) T
  refine T.F_let_names.ok sc_let_names (fun vs H Q E h => ?_) (fun cdv A outer s H vs Q E hr h => ?_)
  · obtain ⟨_, _, rfl, _⟩ := h
    rfl
  obtain ⟨v, es, rfl, hv, hw, hd, hsz, q⟩ := h
  refine ⟨_, PSs.nox (pss_cons (ps_set (i := 1) sc_let_names.nd rfl (Or.inl rfl) (pe_lst pa_nil))
      (pss_cons (ps_for PassesOwn.never rfl (pi_tup (pv 0)) (pg_name (i := 2) sc_let_names.nd rfl (Or.inl rfl))
      (pss_cons (ps_if (pt_cmpR op_eq (pe_ix ix_tup (pv 2) pe_int (fun _ _ => rfl)) pe_str (nomark _)) (pss_one (ps_expr (pe_bm PySem.F.plainAttrs_list PySem.F.slot_list_append PySem.F.type_list_append mt_append (pv 1) (pa_cons (pe_ix ix_tup (pv 2) pe_int (fun _ _ => rfl)) pa_nil)))) pss_nil)
      (pss_one (ps_for PassesOwn.never rfl (pi_list (pe_call gb (hr.mono (by omega)) (by rfl) T.g_blocks_in T.F_blocks_in.kp T.b_blocks_in .nil pass0 (pa_cons (pv 2) pa_nil))) (pg_name (i := 3) sc_let_names.nd rfl (Or.inl rfl))
      (pss_one (ps_expr (pe_bm PySem.F.plainAttrs_list PySem.F.slot_list_extend PySem.F.type_list_extend mt_extend (pv 1) (pa_cons (pe_call gl (hr.mono (by omega)) (by rfl) T.g_let_names T.F_let_names.kp T.b_let_names .nil pass0 (pa_cons (pv 3) pa_nil)) pa_nil))))))))
      (pss_one (ps_ret (pv 1))))), ?_⟩
  refine ⟨Nat.zero_le _, fun f nf => ?_⟩
  have s0 := Cm.same_new (o := .lst []) nf
  obtain ⟨b, vs, rfl, hb, hvs⟩ := hv.tup_inv
  have hlen : vs.length = es.list.length := by rw [hvs.len, Ss.list_ds, List.length_map]
  refine ⟨_, rfl, b, rfl, ⟨vs, Cm.sameT s0 hb⟩, for_tup (K := K) (a := b) (xs := vs) (fun i σ H2 => ∃ (x3 x4 : Option V), σ = [some (.ref b), some (.ref f), x3, x4] ∧ Same H H2 ∧ H2 f = some (.lst ((es.take i).lets.map V.str)))
    ⟨none, none, rfl, s0, (by rw [upd_same]; cases es <;> rfl)⟩ (fun i σ H2 _ ⟨_, _, _, s2, _⟩ => Cm.sameT s2 hb) (fun i x σ H2 hx ⟨x3, x4, e, s2, hf⟩ => ?_) fun σ H2 ⟨x3, x4, e, s2, hf⟩ => ?_⟩
  · subst e
    obtain ⟨st, he, re⟩ := hvs.at_S hx
    obtain ⟨h1, h2, h3, h4⟩ := Ss.part (List.mem_of_getElem? he)
    have hz := Ss.take_sz es i
    have hlz := Ss.lets_sz (es.take i)
    rcases st_word st (h1 hw) with ⟨nm, kd, e, rfl⟩ | ⟨ho, wd, ds, ed, nw⟩
    · obtain ⟨c, us, rfl, hc, hus⟩ := (show Rp K H x (.tuple [.str "let", .str nm, .str kd, e.d]) from re).tup_inv
      obtain ⟨v0, us, rfl, r0, hus⟩ := hus.cons_inv
      obtain ⟨v1, us, rfl, r1, hus⟩ := hus.cons_inv
      cases r0.str_inv
      cases r1.str_inv
      refine ⟨_, rfl, c, _, _, _, rfl, rfl, Cm.sameT s2 hc, at0, rfl, _, rfl, Cm.itES (fun _ => ?_) (fun e => absurd rfl e)⟩
      refine ⟨_, rfl, .inl ⟨rfl, _, SqL.of hf⟩, _, rfl, c, _, _, _, rfl, rfl, Cm.sameT s2 hc, at1, f, _, _, rfl, rfl, hf, Cm.smallL (by rw [List.length_map]; omega), ?_⟩
      have sF : Same H (upd H2 f (.lst ((es.take i).lets.map V.str ++ [.str nm]))) := Cm.same_mut s2 nf
      have hfF : upd H2 f (.lst ((es.take i).lets.map V.str ++ [.str nm])) f = some (.lst (((es.take i).lets ++ ownS (.letS nm kd e)).map V.str)) := by
        rw [upd_same, List.map_append]
        rfl
      generalize upd H2 f (.lst ((es.take i).lets.map V.str ++ [.str nm])) = H2 at sF hfF ⊢
      generalize hst : S.letS nm kd e = st at *
      refine ⟨_, rfl, _, st, rfl, re.keep (Same.tups sF), h1 hw, fun H4 p xs s4 np hp rp => ⟨p, rfl, ⟨xs, SqL.of hp⟩, ?_⟩⟩
      have hfp : f ≠ p := ne_of_none hfF np
      have hll : xs.length = (subsS st).length := by rw [rp.len, List.length_map]
      refine for_list (K := K) (a := p) (xs := xs) (fun j σ H3 => ∃ (y4 : Option V), σ = [some (.ref b), some (.ref f), some (V.ref c), y4] ∧ Same H H3 ∧ H3 p = some (.lst xs) ∧ Rps K H3 xs ((subsS st).map fun b => .tuple b.ds) ∧ H3 f = some (.lst (((es.take i).lets ++ (ownS st ++ letsL ((subsS st).take j))).map V.str)))
        ⟨x4, rfl, sF.trans s4, hp, rp, (by rw [s4 _ _ hfF, List.take_zero]; exact congrArg (fun l => some (HO.lst (List.map V.str ((es.take i).lets ++ l)))) (List.append_nil _).symm)⟩ (fun j σ H3 _ ⟨_, _, _, h, _⟩ => SqL.of h) (fun j y σ H3 hy ⟨y4, ey, s3, hp3, rp3, hf3⟩ => ?_) fun σ H3 ⟨y4, ey, s3, hp3, rp3, hf3⟩ => ?_
      · subst ey
        obtain ⟨dd, hdd, ry⟩ := rps_at rp3 hy
        obtain ⟨bb, hbb, rfl⟩ := map_at hdd
        have hm := List.mem_of_getElem? hbb
        have d1 := subs_dep hm
        have z1 := subs_sz hm
        have z2 := Ss.lets_sz bb
        have z3 := letsL_sz (s := st) (bs := subsS st) j
        have z4 := S.lets_sz st
        have z5 : (ownS st).length + (letsL (subsS st)).length = st.lets.length := by rw [lets_eq st, List.length_append]
        refine ⟨_, rfl, .inl ⟨rfl, _, SqL.of hf3⟩, _, rfl, y, bb, rfl, ry, subs_wf hm (h1 hw), by omega, by omega, fun H5 p5 s5 np5 hp5 => ?_⟩
        refine ⟨f, p5, _, _, rfl, rfl, s5 _ _ hf3, hp5, (by rw [sizeLine_eq]; simp only [List.length_map, List.length_append]; omega), y, rfl, ?_⟩
        refine ⟨Cm.same_mut (s3.trans s5) nf, (upd_ne (Ne.symm hfp)).trans (s5 _ _ hp3), rp3.keep (fun q o e no => (upd_ne fun z => ?_).trans (s5 _ _ e)), ?_⟩
        · rw [z, hf3] at e
          exact no _ (Option.some.inj e).symm
        · rw [upd_same, letsL_snoc hbb, ← List.map_append]
          simp only [List.append_assoc]
      · subst ey
        rw [hll, List.take_length, ← lets_eq st, ← take_lets he] at hf3
        exact ⟨_, _, rfl, s3, hf3⟩
    · obtain ⟨c, us, rfl, hc, hus⟩ := (show Rp K H x (.tuple (.str wd :: ds)) from ed ▸ re).tup_inv
      obtain ⟨v0, us, rfl, r0, hus⟩ := hus.cons_inv
      cases r0.str_inv
      refine ⟨_, rfl, c, _, _, _, rfl, rfl, Cm.sameT s2 hc, at0, rfl, _, rfl, Cm.itES (fun e => absurd e nw) (fun _ => ?_)⟩
      have sF := s2
      have hfF : H2 f = some (.lst (((es.take i).lets ++ ownS st).map V.str)) := by
        rw [ho, List.append_nil]
        exact hf
      refine ⟨_, rfl, _, st, rfl, re.keep (Same.tups sF), h1 hw, fun H4 p xs s4 np hp rp => ⟨p, rfl, ⟨xs, SqL.of hp⟩, ?_⟩⟩
      have hfp : f ≠ p := ne_of_none hfF np
      have hll : xs.length = (subsS st).length := by rw [rp.len, List.length_map]
      refine for_list (K := K) (a := p) (xs := xs) (fun j σ H3 => ∃ (y4 : Option V), σ = [some (.ref b), some (.ref f), some (V.ref c), y4] ∧ Same H H3 ∧ H3 p = some (.lst xs) ∧ Rps K H3 xs ((subsS st).map fun b => .tuple b.ds) ∧ H3 f = some (.lst (((es.take i).lets ++ (ownS st ++ letsL ((subsS st).take j))).map V.str)))
        ⟨x4, rfl, sF.trans s4, hp, rp, (by rw [s4 _ _ hfF, List.take_zero]; exact congrArg (fun l => some (HO.lst (List.map V.str ((es.take i).lets ++ l)))) (List.append_nil _).symm)⟩ (fun j σ H3 _ ⟨_, _, _, h, _⟩ => SqL.of h) (fun j y σ H3 hy ⟨y4, ey, s3, hp3, rp3, hf3⟩ => ?_) fun σ H3 ⟨y4, ey, s3, hp3, rp3, hf3⟩ => ?_
      · subst ey
        obtain ⟨dd, hdd, ry⟩ := rps_at rp3 hy
        obtain ⟨bb, hbb, rfl⟩ := map_at hdd
        have hm := List.mem_of_getElem? hbb
        have d1 := subs_dep hm
        have z1 := subs_sz hm
        have z2 := Ss.lets_sz bb
        have z3 := letsL_sz (s := st) (bs := subsS st) j
        have z4 := S.lets_sz st
        have z5 : (ownS st).length + (letsL (subsS st)).length = st.lets.length := by rw [lets_eq st, List.length_append]
        refine ⟨_, rfl, .inl ⟨rfl, _, SqL.of hf3⟩, _, rfl, y, bb, rfl, ry, subs_wf hm (h1 hw), by omega, by omega, fun H5 p5 s5 np5 hp5 => ?_⟩
        refine ⟨f, p5, _, _, rfl, rfl, s5 _ _ hf3, hp5, (by rw [sizeLine_eq]; simp only [List.length_map, List.length_append]; omega), y, rfl, ?_⟩
        refine ⟨Cm.same_mut (s3.trans s5) nf, (upd_ne (Ne.symm hfp)).trans (s5 _ _ hp3), rp3.keep (fun q o e no => (upd_ne fun z => ?_).trans (s5 _ _ e)), ?_⟩
        · rw [z, hf3] at e
          exact no _ (Option.some.inj e).symm
        · rw [upd_same, letsL_snoc hbb, ← List.map_append]
          simp only [List.append_assoc]
      · subst ey
        rw [hll, List.take_length, ← lets_eq st, ← take_lets he] at hf3
        exact ⟨_, _, rfl, s3, hf3⟩
  · subst e
    rw [hlen, Ss.take_all] at hf
    exact ⟨_, rfl, q _ _ s2 nf hf⟩
/-! ### the code, as the law makes it -/
theorem lets_all (T : Txt K mg w a) : ∀ d : Nat, FnOk P w K mg base CX0 (d + 2) (He.ga K "let_names") a.d_let_names ["block"] (spLn K d)
  | 0 => vac fun vs H Q E h => by
    obtain ⟨_, e, _, _, _, hd, _⟩ := h
    exact absurd hd (Nat.not_lt_zero e.dep)
  | d + 1 => step_lets T d (lets_all T d)
def spNames (K : PySem.W.Frag) : Sp := fun vs H Q _ => ∃ (lp : Addr) (ps : List Str) (v : V) (b : Ss), vs = [.ref lp, v] ∧ H lp = some (.lst (ps.map V.str)) ∧ ps.length ≤ 1000 ∧ Rp K H v (.tuple b.ds) ∧ b.wf = true ∧ b.dep < 13 ∧ b.sz ≤ 100000 ∧
  ∀ (H' : Hp) (p : Addr), Same H H' → H' p = some (.lst ((ps ++ b.lets).map V.str)) → Q (.ref p) H'
theorem ok_names (T : Txt K mg w a) : FnOk P w K mg base CX0 16 (He.ga K "local_names") a.d_local_names ["params", "block"] (spNames K) := by
  have gl := lets_all (P := P) (w := w) (base := base) T 13
  refine T.F_local_names.ok sc_local_names (fun vs H Q E h => ?_) (fun cdv A outer s H vs Q E hr h => ?_)
  · obtain ⟨_, _, _, _, rfl, _⟩ := h
    rfl
  obtain ⟨lp, ps, v, b, rfl, hlp, hlen, hv, hw, hd, hsz, q⟩ := h
  refine ⟨_, PSs.nox (pss_one (ps_ret (pe_op op_cat (pv 0) (pe_call gl (hr.mono (by omega)) (by rfl) T.g_let_names T.F_let_names.kp T.b_let_names .nil pass0 (pa_cons (pv 1) pa_nil))))), ?_⟩
  have hz := Ss.lets_sz b
  refine ⟨_, rfl, _, rfl, v, b, rfl, hv, hw, hd, hsz, fun H1 p1 s1 np1 hp1 => ?_⟩
  refine ⟨lp, p1, _, _, rfl, rfl, s1 _ _ hlp, hp1, (by rw [sizeLine_eq]; simp only [List.length_map]; omega), fun p2 np2 => ?_⟩
  exact q _ _ (s1.trans (Cm.same_new np2)) (by rw [upd_same, ← List.map_append])
/-- what has code of its own: an expression, a fork, a return, a print, a move -/
inductive Nd where
  | e (x : E)
  | f (r : E) (g : Str) (as : Es)
  | p (w : Str) (as : Es)
def Nd.d : Nd → PyData
  | .e x => x.d
  | .f r g as => (S.fork r g as).d
  | .p w as => (S.plain w as).d
def Nd.code (pl : Plc) : Nd → Nat → List PyData
  | .e x, i => x.code pl i
  | .f r g as, i => (S.fork r g as).code pl i
  | .p w as, i => (S.plain w as).code pl i
def Nd.sz : Nd → Nat
  | .e x => x.sz
  | .f r g as => (S.fork r g as).sz
  | .p w as => (S.plain w as).sz
def Nd.dep : Nd → Nat
  | .e x => x.dep
  | .f r g as => (S.fork r g as).dep
  | .p w as => (S.plain w as).dep
def Nd.uses : Nd → List Str
  | .e x => x.uses
  | .f r g as => (S.fork r g as).uses
  | .p w as => (S.plain w as).uses
def Nd.wf : Nd → Bool
  | .e x => x.wf
  | .f r g as => (S.fork r g as).wf
  | .p w as => (S.plain w as).wf
theorem at2 {x y z : V} {xs : List V} : atI (x :: y :: z :: xs) 2 = some z := atI_nat (j := 2) rfl
theorem at3 {x y z u : V} {xs : List V} : atI (x :: y :: z :: u :: xs) 3 = some u := atI_nat (j := 3) rfl
/-- a list of data -/
def Lr (K : PySem.W.Frag) (H : Hp) (v : V) (ds : List PyData) : Prop := ∃ l xs, v = .ref l ∧ H l = some (.lst xs) ∧ Rps K H xs ds
theorem Lr.same {K : PySem.W.Frag} {H H' : Hp} {v : V} {ds : List PyData} (h : Lr K H v ds) (s : Same H H') : Lr K H' v ds := by
  obtain ⟨l, xs, e, hl, r⟩ := h
  exact ⟨l, xs, e, s _ _ hl, r.keep (Same.tups s)⟩
theorem Lr.made {K : PySem.W.Frag} {H : Hp} {p : Addr} {xs : List V} {ds : List PyData} (np : H p = none) (r : Rps K H xs ds) : Lr K (upd H p (.lst xs)) (.ref p) ds := ⟨p, xs, rfl, upd_same, r.keep (Same.tups (Cm.same_new np))⟩
theorem Lr.len {K : PySem.W.Frag} {H : Hp} {v : V} {ds : List PyData} (h : Lr K H v ds) : ∃ l xs, v = .ref l ∧ SqL K H l xs ∧ xs.length = ds.length := by
  obtain ⟨l, xs, e, hl, r⟩ := h
  exact ⟨l, xs, e, SqL.of hl, r.len⟩
theorem cat_lr {K : PySem.W.Frag} {H : Hp} {x y : V} {ds es : List PyData} {Q : VK} (hx : Lr K H x ds) (hy : Lr K H y es) (hz : ds.length + es.length ≤ 10000000) (h : ∀ (v : V) (H' : Hp), Same H H' → Lr K H' v (ds ++ es) → Q v H') : rCat x y H Q := by
  obtain ⟨l, xs, rfl, hl, r⟩ := hx
  obtain ⟨b, ys, rfl, hb, r2⟩ := hy
  refine ⟨l, b, xs, ys, rfl, rfl, hl, hb, ?_, fun p np => h _ _ (Cm.same_new np) (Lr.made np (r.app r2))⟩
  rw [r.len, r2.len, sizeLine_eq]
  omega
def spLc (K : PySem.W.Frag) (d : Nat) : Sp := fun vs H Q _ => ∃ (v : V) (nd : Addr) (at_ : Nat) (e : Nd) (pl : Plc) (N : List Str), vs = [v, .ref nd, .int at_] ∧ PlAt K H nd pl N ∧ Rp K H v e.d ∧ e.wf = true ∧ (∀ x ∈ e.uses, x ∈ N) ∧ e.dep < d ∧ e.sz ≤ 100000 ∧
  ∀ (H' : Hp) (u : V), Same H H' → Lr K H' u (e.code pl at_) → Q u H'
abbrev opsW : List Str := ["add", "sub", "mul", "less", "most", "same", "not", "return", "print", "move"]
theorem Nd.kinds (e : Nd) (hw : e.wf = true) : (∃ n, e = .e (.int n)) ∨ (∃ x, e = .e (.name x)) ∨ (∃ o l r, e = .e (.choice o l r)) ∨ (∃ w : Str, (w = "nil" ∨ w = "self") ∧ e = .e (.plain w .nil)) ∨
    (∃ (w : Str) (r : E) (f : Str) (as : Es), (w = "call" ∨ w = "fork") ∧ e.d = .tuple [.str w, r.d, .str f, .tuple as.ds] ∧ (∀ pl i, e.code pl i = (Es.cons r as).code pl i ++ [I3 w f as.len]) ∧ (Es.cons r as).wf = true ∧ e.uses = (Es.cons r as).uses ∧ e.dep = (Es.cons r as).dep + 1 ∧ e.sz = (Es.cons r as).sz + 1) ∨
    (∃ m as, e = .e (.new m as)) ∨
    (∃ w x as, w ∈ opsW ∧ e.d = .tuple (.str w :: (Es.cons x as).ds) ∧ (∀ pl i, e.code pl i = (Es.cons x as).code pl i ++ [I1 w]) ∧ (Es.cons x as).wf = true ∧ e.uses = (Es.cons x as).uses ∧ e.dep = (Es.cons x as).dep + 1 ∧ e.sz = (Es.cons x as).sz + 1) := by
  cases e with
  | e x =>
    cases x with
    | int n => exact .inl ⟨n, rfl⟩
    | name x => exact .inr (.inl ⟨x, rfl⟩)
    | choice o l r => exact .inr (.inr (.inl ⟨o, l, r, rfl⟩))
    | call r f as => exact .inr (.inr (.inr (.inr (.inl ⟨"call", r, f, as, .inl rfl, rfl, fun _ _ => rfl, hw, rfl, rfl, rfl⟩))))
    | new m as => exact .inr (.inr (.inr (.inr (.inr (.inl ⟨m, as, rfl⟩)))))
    | plain w as =>
      obtain ⟨h1, h2⟩ := Bool.and_eq_true_iff.mp hw
      obtain ⟨h1, h3⟩ := Bool.and_eq_true_iff.mp h1
      have hm : w ∈ plainE := of_decide_eq_true h1
      cases as with
      | nil =>
        have hl : w ∈ leafE := ar_nil h3
        refine .inr (.inr (.inr (.inl ⟨w, ?_, rfl⟩)))
        rcases List.mem_cons.mp hl with h | h
        · exact .inl h
        · exact .inr (List.mem_singleton.mp h)
      | cons x as =>
        have hl : ¬ w ∈ leafE := ar_some (n := as.len) h3
        have ho : w ∈ opsW := (by decide +kernel : ∀ w ∈ plainE, ¬ w ∈ leafE → w ∈ opsW) w hm hl
        exact .inr (.inr (.inr (.inr (.inr (.inr ⟨w, x, as, ho, rfl, fun _ _ => rfl, h2, rfl, rfl, rfl⟩)))))
  | f r g as => exact .inr (.inr (.inr (.inr (.inl ⟨"fork", r, g, as, .inr rfl, rfl, fun _ _ => rfl, hw, rfl, rfl, rfl⟩))))
  | p w as =>
    obtain ⟨h1, h2⟩ := Bool.and_eq_true_iff.mp hw
    obtain ⟨h1, h3⟩ := Bool.and_eq_true_iff.mp h1
    have hm : w ∈ plainB := of_decide_eq_true h1
    cases as with
    | nil =>
      have h4 : 0 = arB w := of_decide_eq_true h3
      unfold arB at h4
      split at h4 <;> omega
    | cons x as =>
      have ho : w ∈ opsW := (by decide +kernel : ∀ w ∈ plainB, w ∈ opsW) w hm
      exact .inr (.inr (.inr (.inr (.inr (.inr ⟨w, x, as, ho, rfl, fun _ _ => rfl, h2, rfl, rfl, rfl⟩)))))
theorem step_lcode (T : Txt K mg w a) (d : Nat) (gc : FnOk P w K mg base CX0 (d + 1) (He.ga K "_law_code") a.d_lw_code ["node", "places", "base"] (spLc K d)) :
    FnOk P w K mg base CX0 (d + 2) (He.ga K "_law_code") a.d_lw_code ["node", "places", "base"] (spLc K (d + 1)) := by
  refine T.F_lw_code.ok sc_lw_code (fun vs H Q E h => ?_) (fun cdv A outer s H vs Q E hr h => ?_)
  · obtain ⟨_, _, _, _, _, _, rfl, _⟩ := h
    rfl
  obtain ⟨v, nd, at_, e, pl, N, rfl, hpl, hv, hw, hu, hd, hsz, q⟩ := h
  refine ⟨_, PSs.nox (pss_cons (ps_set (i := 3) sc_lw_code.nd rfl (Or.inl rfl) (pe_ix ix_tup (pv 0) pe_int (fun _ _ => rfl)))
      (pss_cons (ps_if (pt_cmpR op_eq (pv 3) pe_str (nomark _)) (pss_one (ps_ret (pe_lst (pa_cons (pe_tup (pa_cons pe_str (pa_cons (pe_ix ix_tup (pv 0) pe_int (fun _ _ => rfl)) pa_nil))) pa_nil)))) pss_nil)
      (pss_cons (ps_if (pt_cmpR op_in_seq (pv 3) (pe_tup (pa_cons pe_str (pa_cons pe_str pa_nil))) (by rfl)) (pss_one (ps_ret (pe_lst (pa_cons (pv 0) pa_nil)))) pss_nil)
      (pss_cons (ps_if (pt_cmpR op_eq (pv 3) pe_str (nomark _)) (pss_one (ps_ret (pe_lst (pa_cons (pe_dget (hu_of hr) (pv 1) (pe_ix ix_tup (pv 0) pe_int (fun _ _ => rfl)) (fun _ _ => rfl)) pa_nil)))) pss_nil)
      (pss_cons (ps_if (pt_cmpR op_in_seq (pv 3) (pe_tup (pa_cons pe_str (pa_cons pe_str pa_nil))) (by rfl)) (pss_cons (ps_set (i := 4) sc_lw_code.nd rfl (Or.inl rfl) (pe_op op_rep (pe_lst (pa_cons (pe_tup (pa_cons pe_str pa_nil)) pa_nil)) (pe_callTy call_int1 (by rfl) T.g_int boot_int (pa_cons (pe_cmpR op_eq (pv 3) pe_str (nomark _)) pa_nil))))
      (pss_cons (ps_set (i := 5) sc_lw_code.nd rfl (Or.inl rfl) (pe_op op_cat (pe_call gc (hr.mono (by omega)) (by rfl) T.g_lw_code T.F_lw_code.kp T.b_lw_code .nil pass0 (pa_cons (pe_ix ix_tup (pv 0) pe_int (fun _ _ => rfl)) (pa_cons (pv 1) (pa_cons (pv 2) pa_nil)))) (pv 4)))
      (pss_cons (ps_set (i := 6) sc_lw_code.nd rfl (Or.inl rfl) (pe_op op_cat (pe_call gc (hr.mono (by omega)) (by rfl) T.g_lw_code T.F_lw_code.kp T.b_lw_code .nil pass0 (pa_cons (pe_ix ix_tup (pv 0) pe_int (fun _ _ => rfl)) (pa_cons (pv 1) (pa_cons (pe_op op_add (pe_op op_add (pv 2) (pe_callB call_len_seq (by rfl) T.g_len boot_len (pa_cons (pv 5) pa_nil))) pe_int) pa_nil)))) (pv 4)))
      (pss_cons (ps_set (i := 7) sc_lw_code.nd rfl (Or.inl rfl) (pe_op op_add (pe_op op_add (pe_op op_add (pv 2) (pe_callB call_len_seq (by rfl) T.g_len boot_len (pa_cons (pv 5) pa_nil))) (pe_callB call_len_seq (by rfl) T.g_len boot_len (pa_cons (pv 6) pa_nil))) pe_int))
      (pss_one (ps_ret (pe_op op_cat (pe_op op_cat (pe_op op_cat (pv 5) (pe_lst (pa_cons (pe_tup (pa_cons pe_str (pa_cons (pv 7) pa_nil))) pa_nil))) (pv 6)) (pe_lst (pa_cons (pe_tup (pa_cons pe_str (pa_cons (pv 7) pa_nil))) (pa_cons (pe_tup (pa_cons pe_str (pa_cons (pe_callTy call_int1 (by rfl) T.g_int boot_int (pa_cons (pe_cmpR op_eq (pv 3) pe_str (nomark _)) pa_nil)) pa_nil))) (pa_cons (pe_tup (pa_cons pe_str (pa_cons (pe_op op_add (pv 7) pe_int) pa_nil))) (pa_cons (pe_tup (pa_cons pe_str (pa_cons (pe_callTy call_int1 (by rfl) T.g_int boot_int (pa_cons (pe_cmpR op_eq (pv 3) pe_str (nomark _)) pa_nil)) pa_nil))) pa_nil)))))))))))) pss_nil)
      (pss_cons (ps_set (i := 8) sc_lw_code.nd rfl (Or.inl rfl) (pe_dget2 (hu_of hr) (pe_disp (pps_cons pe_str (pe_tup (pa_cons (pe_ix ix_tup (pv 0) pe_int (fun _ _ => rfl)) pa_nil)) (pps_cons pe_str (pe_tup (pa_cons (pe_ix ix_tup (pv 0) pe_int (fun _ _ => rfl)) pa_nil)) (pps_cons pe_str (pe_tup pa_nil) pps_nil))) (by rfl) (by rfl) (fun z => by cases z) (by decide)) (pv 3) (pe_slice sl_tupA (pv 0) (po_some pe_int) po_none) ⟨rfl, rfl, rfl, rfl⟩))
      (pss_cons (ps_if (pt_cmpR op_in_seq (pv 3) (pe_tup (pa_cons pe_str (pa_cons pe_str pa_nil))) (by rfl)) (pss_one (ps_set (i := 8) sc_lw_code.nd rfl (Or.inl rfl) (pe_op op_catA (pv 8) (pe_ix ix_tup (pv 0) pe_int (fun _ _ => rfl))))) (pss_one (ps_if (pt_cmpR op_eq (pv 3) pe_str (nomark _)) (pss_one (ps_set (i := 8) sc_lw_code.nd rfl (Or.inl rfl) (pe_ix ix_tup (pv 0) pe_int (fun _ _ => rfl)))) pss_nil)))
      (pss_cons (ps_set (i := 9) sc_lw_code.nd rfl (Or.inl rfl) (pe_lst pa_nil))
      (pss_cons (ps_for PassesOwn.never rfl (pi_tup (pv 8)) (pg_name (i := 10) sc_lw_code.nd rfl (Or.inl rfl))
      (pss_one (ps_set (i := 9) sc_lw_code.nd rfl (Or.inl rfl) (pe_op op_cat (pv 9) (pe_call gc (hr.mono (by omega)) (by rfl) T.g_lw_code T.F_lw_code.kp T.b_lw_code .nil pass0 (pa_cons (pv 10) (pa_cons (pv 1) (pa_cons (pe_op op_add (pv 2) (pe_callB call_len_seq (by rfl) T.g_len boot_len (pa_cons (pv 9) pa_nil))) pa_nil))))))))
      (pss_cons (ps_if (pt_cmpR op_in_seq (pv 3) (pe_tup (pa_cons pe_str (pa_cons pe_str pa_nil))) (by rfl)) (pss_one (ps_ret (pe_op op_cat (pv 9) (pe_lst (pa_cons (pe_tup (pa_cons (pv 3) (pa_cons (pe_ix ix_tup (pv 0) pe_int (fun _ _ => rfl)) (pa_cons (pe_callB call_len_seq (by rfl) T.g_len boot_len (pa_cons (pe_ix ix_tup (pv 0) pe_int (fun _ _ => rfl)) pa_nil)) pa_nil)))) pa_nil))))) pss_nil)
      (pss_cons (ps_if (pt_cmpR op_eq (pv 3) pe_str (nomark _)) (pss_one (ps_ret (pe_op op_cat (pv 9) (pe_lst (pa_cons (pe_tup (pa_cons pe_str (pa_cons (pe_ix ix_tup (pv 0) pe_int (fun _ _ => rfl)) (pa_cons (pe_callB call_len_seq (by rfl) T.g_len boot_len (pa_cons (pe_ix ix_tup (pv 0) pe_int (fun _ _ => rfl)) pa_nil)) pa_nil)))) pa_nil))))) pss_nil)
      (pss_one (ps_ret (pe_op op_cat (pv 9) (pe_lst (pa_cons (pe_tup (pa_cons (pv 3) pa_nil)) pa_nil)))))))))))))))), ?_⟩
  rcases e.kinds hw with ⟨n, rfl⟩ | ⟨x, rfl⟩ | ⟨o, l, r, rfl⟩ | ⟨wd, hwd, rfl⟩ | ⟨wd, r, f, as, hwd, ed, ec, ew, eu, edp, esz⟩ | ⟨m, as, rfl⟩ | ⟨wd, x, as, hwd, ed, ec, ew, eu, edp, esz⟩
  · -- int
    obtain ⟨b, vs, rfl, hb, hvs⟩ := hv.tup_inv
    obtain ⟨v0, vs, rfl, r0, hvs⟩ := hvs.cons_inv
    obtain ⟨v1, vs, rfl, r1, hvs⟩ := hvs.cons_inv
    cases hvs.nil_inv
    cases r0.str_inv
    refine ⟨_, rfl, b, _, _, _, rfl, rfl, hb, at0, ?_⟩
    refine ⟨_, rfl, rfl, _, rfl, Cm.itES (fun _ => ?_) (fun e => absurd rfl e)⟩
    refine ⟨_, rfl, b, _, _, _, rfl, rfl, hb, at1, Cm.small (by show 2 ≤ 100000; decide), fun p np => ⟨Cm.small (by show 1 ≤ 100000; decide), fun p2 np2 => ?_⟩⟩
    exact q _ _ ((Cm.same_new np).trans (Cm.same_new np2)) (Lr.made np2 (.cons (made np (.cons (.str "push") (.cons r1 .nil))) .nil))
  · -- name
    obtain ⟨kvs, hk, hx⟩ := id hpl
    obtain ⟨_, u, hu1, ru⟩ := hx x (hu x (List.mem_cons_self))
    have gx : DGet H nd (.str x) (some u) := by
      rw [← hu1]
      exact DGet.k (k := .inr x) hk
    obtain ⟨b, vs, rfl, hb, hvs⟩ := hv.tup_inv
    obtain ⟨v0, vs, rfl, r0, hvs⟩ := hvs.cons_inv
    obtain ⟨v1, vs, rfl, r1, hvs⟩ := hvs.cons_inv
    cases hvs.nil_inv
    cases r0.str_inv
    cases r1.str_inv
    refine ⟨_, rfl, b, _, _, _, rfl, rfl, hb, at0, ?_⟩
    refine ⟨_, rfl, rfl, _, rfl, Cm.itES (fun e => absurd e (by decide)) (fun _ => ?_)⟩
    refine ⟨_, rfl, Cm.small (by show 2 ≤ 100000; decide), fun p1 np1 => ⟨p1, _, rfl, .inr Cm.sqt_new, rfl, rfl, _, rfl, Cm.itV (fun e => absurd e (by decide)) (fun _ => ?_)⟩⟩
    have t1 := Cm.same_new (o := .tup [.str "nil", .str "self"]) np1
    generalize upd H p1 (.tup [.str "nil", .str "self"]) = H1 at t1 ⊢
    refine ⟨_, rfl, rfl, _, rfl, Cm.itES (fun _ => ?_) (fun e => absurd rfl e)⟩
    refine ⟨_, rfl, _, rfl, b, _, _, _, rfl, rfl, Cm.sameT t1 hb, at1, nd, u, rfl, ?_, Cm.small (by show 1 ≤ 100000; decide), fun p2 np2 => ?_⟩
    · rw [← hu1]
      exact DGet.k (k := .inr x) (t1 _ _ hk)
    · exact q _ _ (t1.trans (Cm.same_new np2)) (Lr.made np2 (.cons (ru.keep (Same.tups t1)) .nil))
  · -- and, or
    obtain ⟨b, vs, rfl, hb, hvs⟩ := hv.tup_inv
    obtain ⟨v0, vs, rfl, r0, hvs⟩ := hvs.cons_inv
    obtain ⟨v1, vs, rfl, r1, hvs⟩ := hvs.cons_inv
    obtain ⟨v2, vs, rfl, r2, hvs⟩ := hvs.cons_inv
    cases hvs.nil_inv
    cases r0.str_inv
    have n1 : ¬ cw o = "int" := by cases o <;> decide
    have n2 : ¬ cw o = "name" := by cases o <;> decide
    have n3 : ¬ inV (.str (cw o)) [.str "nil", .str "self"] = true := by cases o <;> decide
    have n4 : inV (.str (cw o)) [.str "and", .str "or"] = true := by cases o <;> decide
    have e5 : decide (V.str (cw o) = V.str "or") = o := by cases o <;> decide
    have e6 : decide (V.str (cw o) = V.str "and") = !o := by cases o <;> decide
    obtain ⟨hw1, hw2⟩ := Bool.and_eq_true_iff.mp (show (l.wf && r.wf) = true from hw)
    have hz : l.sz + r.sz + (if o then 2 else 0) + 5 ≤ 100000 := hsz
    have hdd : max l.dep r.dep + 1 < d + 1 := hd
    refine ⟨_, rfl, b, _, _, _, rfl, rfl, hb, at0, ?_⟩
    refine ⟨_, rfl, rfl, _, rfl, Cm.itES (fun e => absurd e n1) (fun _ => ?_)⟩
    refine ⟨_, rfl, Cm.small (by show 2 ≤ 100000; decide), fun p1 np1 => ⟨p1, _, rfl, .inr Cm.sqt_new, rfl, rfl, _, rfl, Cm.itV (fun e => absurd e n3) (fun _ => ?_)⟩⟩
    have t1 := Cm.same_new (o := .tup [.str "nil", .str "self"]) np1
    generalize upd H p1 (.tup [.str "nil", .str "self"]) = H1 at t1 ⊢
    refine ⟨_, rfl, rfl, _, rfl, Cm.itES (fun e => absurd e n2) (fun _ => ?_)⟩
    refine ⟨_, rfl, Cm.small (by show 2 ≤ 100000; decide), fun p2 np2 => ⟨p2, _, rfl, .inr Cm.sqt_new, rfl, rfl, _, rfl, Cm.itV (fun _ => ?_) (fun e => absurd n4 (by rw [e]; decide))⟩⟩
    have t2 := t1.trans (Cm.same_new (o := .tup [.str "and", .str "or"]) np2)
    generalize upd H1 p2 (.tup [.str "and", .str "or"]) = H2 at t2 ⊢
    refine ⟨Cm.small (by show 1 ≤ 100000; decide), fun p3 np3 => ⟨Cm.small (by show 1 ≤ 100000; decide), fun p4 np4 => ⟨_, rfl, rfl, .inr ⟨_, rfl, ?_⟩⟩⟩⟩
    have r3 := made (K := K) np3 (.cons (.str "not") .nil)
    have t4 := (Cm.same_new (o := .tup [.str "not"]) np3).trans (Cm.same_new (o := .lst [.ref p3]) np4)
    have kB : ∀ k : Bool, (if k = true then (1 : Int) else 0) = 1 ∨ (if k = true then (1 : Int) else 0) = 0 := by decide
    refine ⟨p4, _, _, rfl, rfl, upd_same, ?_, ?_, ?_, fun p5 np5 => ?_⟩
    · rcases kB (decide (V.str (cw o) = V.str "or")) with h | h <;> rw [h] <;> decide
    · rcases kB (decide (V.str (cw o) = V.str "or")) with h | h <;> rw [h] <;> decide
    · rcases kB (decide (V.str (cw o) = V.str "or")) with h | h <;> rw [h] <;> exact Cm.small (by show _ ≤ 100000; simp)
    have t5 := t2.trans (t4.trans (Cm.same_new (o := .lst (List.replicate (if decide (V.str (cw o) = V.str "or") = true then (1 : Int) else 0).toNat [V.ref p3]).flatten) np5))
    have l5 : Lr K (upd (upd (upd H2 p3 (.tup [.str "not"])) p4 (.lst [.ref p3])) p5 (.lst (List.replicate (if decide (V.str (cw o) = V.str "or") = true then (1 : Int) else 0).toNat [V.ref p3]).flatten)) (.ref p5) (tn o) := by
      refine Lr.made np5 ?_
      rw [e5]
      cases o
      · exact .nil
      · exact .cons (r3.keep (Same.tups (Cm.same_new np4))) .nil
    generalize upd (upd (upd H2 p3 (.tup [.str "not"])) p4 (.lst [.ref p3])) p5 (.lst (List.replicate (if decide (V.str (cw o) = V.str "or") = true then (1 : Int) else 0).toNat [V.ref p3]).flatten) = H5 at t5 l5 ⊢
    have hko : kn o ≤ 1 := by cases o <;> decide
    refine ⟨_, rfl, b, _, _, _, rfl, rfl, Cm.sameT t5 hb, at1, _, rfl, _, rfl, ?_⟩
    refine ⟨v1, nd, at_, .e l, pl, N, rfl, hpl.same t5, r1.keep (Same.tups t5), hw1, fun x hx => hu x (List.mem_append_left _ hx), (by show l.dep < d; omega), (by show l.sz ≤ 100000; omega), fun H6 u6 s6 l6 => ?_⟩
    replace l6 : Lr K H6 u6 (l.code pl at_) := l6
    refine ⟨_, rfl, cat_lr l6 (l5.same s6) (by rw [Pt.E.code_len, tn_len]; omega) fun u7 H7 s7 l7 => ?_⟩
    have t7 := (t5.trans s6).trans s7
    have l5' := l5.same (s6.trans s7)
    obtain ⟨c7, xs7, rfl, hc7, hl7⟩ := l7.len
    rw [List.length_append, Pt.E.code_len, tn_len] at hl7
    refine ⟨_, rfl, b, _, _, _, rfl, rfl, Cm.sameT t7 hb, at2, _, rfl, _, rfl, _, rfl, c7, xs7, rfl, .inl hc7, _, _, rfl, rfl, _, _, rfl, rfl, ?_⟩
    refine ⟨v2, nd, at_ + l.sz + kn o + 1, .e r, pl, N, args3 (by omega), hpl.same t7, r2.keep (Same.tups t7), hw2, fun x hx => hu x (List.mem_append_right _ hx), (by show r.dep < d; omega), (by show r.sz ≤ 100000; omega), fun H8 u8 s8 l8 => ?_⟩
    replace l8 : Lr K H8 u8 (r.code pl (at_ + l.sz + kn o + 1)) := l8
    refine ⟨_, rfl, cat_lr l8 (l5'.same s8) (by rw [Pt.E.code_len, tn_len]; omega) fun u9 H9 s9 l9 => ?_⟩
    have t9 := (t7.trans s8).trans s9
    have l7' := l7.same (s8.trans s9)
    obtain ⟨c9, xs9, rfl, hc9, hl9⟩ := l9.len
    rw [List.length_append, Pt.E.code_len, tn_len] at hl9
    refine ⟨_, rfl, _, rfl, c7, xs7, rfl, .inl ((s8.trans s9).seq hc7), _, _, rfl, rfl, _, rfl, c9, xs9, rfl, .inl hc9, _, _, rfl, rfl, _, _, rfl, rfl, ?_⟩
    have eD : ((at_ : Int) + (xs7.length : Nat) + (xs9.length : Nat) + 4) = ((at_ + l.sz + kn o + 1 + r.sz + kn o + 3 : Nat) : Int) := by omega
    have hlf : (l.code pl at_ ++ tn o).length = l.sz + kn o := by rw [List.length_append, Pt.E.code_len, tn_len]
    have hls : (r.code pl (at_ + l.sz + kn o + 1) ++ tn o).length = r.sz + kn o := by rw [List.length_append, Pt.E.code_len, tn_len]
    refine ⟨_, rfl, _, rfl, Cm.small (by show 2 ≤ 100000; decide), fun p10 np10 => ⟨Cm.small (by show 1 ≤ 100000; decide), fun p11 np11 => ?_⟩⟩
    have r10 := made (K := K) np10 (.cons (.str "unless") (.cons (intE eD) .nil))
    have t11 := (Cm.same_new (o := .tup [.str "unless", .int ((at_ : Int) + (xs7.length : Nat) + (xs9.length : Nat) + 4)]) np10).trans (Cm.same_new (o := .lst [.ref p10]) np11)
    have l11 : Lr K _ _ _ := Lr.made (K := K) np11 (.cons r10 .nil)
    refine cat_lr (l7'.same t11) l11 (by simp only [List.length_cons, List.length_nil, hlf]; omega) fun u12 H12 s12 l12 => ?_
    refine ⟨_, rfl, cat_lr l12 ((l9.same t11).same s12) (by simp only [List.length_append, List.length_cons, List.length_nil, tn_len, Pt.E.code_len]; omega) fun u13 H13 s13 l13 => ?_⟩
    have t13 := ((t9.trans t11).trans s12).trans s13
    refine ⟨_, rfl, Cm.small (by show 2 ≤ 100000; decide), fun p14 np14 => ⟨_, rfl, rfl, .inr ⟨_, rfl, Cm.small (by show 2 ≤ 100000; decide), fun p15 np15 => ⟨_, rfl, _, _, rfl, rfl, Cm.small (by show 2 ≤ 100000; decide), fun p16 np16 => ⟨_, rfl, rfl, .inr ⟨_, rfl, Cm.small (by show 2 ≤ 100000; decide), fun p17 np17 => ⟨Cm.small (by show 4 ≤ 100000; decide), fun p18 np18 => ?_⟩⟩⟩⟩⟩⟩⟩
    have b5 : (if decide (V.str (cw o) = V.str "and") = true then (1 : Int) else 0) = if o then 0 else 1 := by rw [e6]; cases o <;> rfl
    have b6 : (if decide (V.str (cw o) = V.str "or") = true then (1 : Int) else 0) = if o then 1 else 0 := by rw [e5]
    have r14 := made (K := K) np14 (.cons (.str "unless") (.cons (intE eD) .nil))
    have r15 := made (K := K) np15 (.cons (.str "push") (.cons (intE b5) .nil))
    have r16 := made (K := K) np16 (.cons (.str "jump") (.cons (intE (congrArg (· + 1) eD)) .nil))
    have r17 := made (K := K) np17 (.cons (.str "push") (.cons (intE b6) .nil))
    have s15 := Cm.same_new (o := .tup [.str "push", .int (if decide (V.str (cw o) = V.str "and") = true then (1 : Int) else 0)]) np15
    have s16 := Cm.same_new (o := .tup [.str "jump", .int (((at_ : Int) + (xs7.length : Nat) + (xs9.length : Nat) + 4) + 1)]) np16
    have s17 := Cm.same_new (o := .tup [.str "push", .int (if decide (V.str (cw o) = V.str "or") = true then (1 : Int) else 0)]) np17
    have l18 : Lr K _ _ _ := Lr.made (K := K) np18 (.cons (r14.keep (Same.tups ((s15.trans s16).trans s17))) (.cons (r15.keep (Same.tups (s16.trans s17))) (.cons (r16.keep (Same.tups s17)) (.cons r17 .nil))))
    have t18 := ((((Cm.same_new (o := .tup [.str "unless", .int ((at_ : Int) + (xs7.length : Nat) + (xs9.length : Nat) + 4)]) np14).trans s15).trans s16).trans s17).trans (Cm.same_new (o := .lst [.ref p14, .ref p15, .ref p16, .ref p17]) np18)
    refine cat_lr (l13.same t18) l18 (by simp only [List.length_append, List.length_cons, List.length_nil, tn_len, Pt.E.code_len]; omega) fun u19 H19 s19 l19 => ?_
    refine q _ _ ((t13.trans t18).trans s19) ?_
    have ec : ∀ (A B : List PyData) (x : PyData) (E : List PyData), A ++ [x] ++ B ++ (x :: E) = A ++ [x] ++ B ++ [x] ++ E := fun A B x E => by simp
    rw [← show _ = Nd.code pl (.e (.choice o l r)) at_ from ec (l.code pl at_ ++ tn o) (r.code pl (at_ + l.sz + kn o + 1) ++ tn o) (I2 "unless" ((at_ + l.sz + kn o + 1 + r.sz + kn o + 3 : Nat) : Int)) (ends o (at_ + l.sz + kn o + 1 + r.sz + kn o + 3))]
    exact l19
  · -- nil, self
    obtain ⟨b, vs, rfl, hb, hvs⟩ := id hv.tup_inv
    obtain ⟨v0, vs, rfl, r0, hvs⟩ := hvs.cons_inv
    cases hvs.nil_inv
    cases r0.str_inv
    have n1 : ¬ wd = Str.ofString "int" := by rcases hwd with rfl | rfl <;> decide
    have n3 : inV (.str wd) [.str "nil", .str "self"] = true := by rcases hwd with rfl | rfl <;> decide
    refine ⟨_, rfl, b, _, _, _, rfl, rfl, hb, at0, ?_⟩
    refine ⟨_, rfl, rfl, _, rfl, Cm.itES (fun e => absurd e n1) (fun _ => ?_)⟩
    refine ⟨_, rfl, Cm.small (by show 2 ≤ 100000; decide), fun p2 np2 => ⟨p2, _, rfl, .inr Cm.sqt_new, rfl, rfl, _, rfl, Cm.itV (fun _ => ?_) (fun e => absurd n3 (by rw [e]; decide))⟩⟩
    have t2 := Cm.same_new (o := .tup [.str "nil", .str "self"]) np2
    refine ⟨_, rfl, Cm.small (by show 1 ≤ 100000; decide), fun p3 np3 => ?_⟩
    exact q _ _ (t2.trans (Cm.same_new np3)) (Lr.made np3 (.cons (hv.keep (Same.tups t2)) .nil))
  · -- call
    have hv' : Rp K H v (.tuple [.str wd, r.d, .str f, .tuple as.ds]) := ed ▸ hv
    obtain ⟨b, vs, rfl, hb, hvs⟩ := id hv'.tup_inv
    obtain ⟨v0, vs, rfl, r0, hvs⟩ := hvs.cons_inv
    obtain ⟨v1, vs, rfl, r1, hvs⟩ := hvs.cons_inv
    obtain ⟨v2, vs, rfl, r2, hvs⟩ := hvs.cons_inv
    obtain ⟨v3, vs, rfl, r3, hvs⟩ := hvs.cons_inv
    cases hvs.nil_inv
    cases r0.str_inv
    cases r2.str_inv
    have n1 : ¬ wd = Str.ofString "int" := by rcases hwd with rfl | rfl <;> decide
    have n2 : ¬ wd = Str.ofString "name" := by rcases hwd with rfl | rfl <;> decide
    have n3 : ¬ inV (.str wd) [.str "nil", .str "self"] = true := by rcases hwd with rfl | rfl <;> decide
    have n4 : ¬ inV (.str wd) [.str "and", .str "or"] = true := by rcases hwd with rfl | rfl <;> decide
    have c1 : inV (.str wd) [.str "call", .str "fork"] = true := by rcases hwd with rfl | rfl <;> decide
    refine ⟨_, rfl, b, _, _, _, rfl, rfl, hb, at0, ?_⟩
    refine ⟨_, rfl, rfl, _, rfl, Cm.itES (fun e => absurd e n1) (fun _ => ?_)⟩
    refine ⟨_, rfl, Cm.small (by show 2 ≤ 100000; decide), fun p1 np1 => ⟨p1, _, rfl, .inr Cm.sqt_new, rfl, rfl, _, rfl, Cm.itV (fun e => absurd e n3) (fun _ => ?_)⟩⟩
    have t1 := Cm.same_new (o := .tup [.str "nil", .str "self"]) np1
    generalize upd H p1 (.tup [.str "nil", .str "self"]) = H1 at t1 ⊢
    refine ⟨_, rfl, rfl, _, rfl, Cm.itES (fun e => absurd e n2) (fun _ => ?_)⟩
    refine ⟨_, rfl, Cm.small (by show 2 ≤ 100000; decide), fun p2 np2 => ⟨p2, _, rfl, .inr Cm.sqt_new, rfl, rfl, _, rfl, Cm.itV (fun e => absurd e n4) (fun _ => ?_)⟩⟩
    have t2 := Cm.same_new (o := .tup [.str "and", .str "or"]) np2
    generalize upd H1 p2 (.tup [.str "and", .str "or"]) = H2 at t2 ⊢
    have t12 := t1.trans t2
    refine fun D nD => ⟨_, rfl, b, _, _, _, rfl, rfl, Cm.sameT (t12.trans (Cm.same_new nD)) hb, at1, Cm.small (by show 1 ≤ 100000; decide), fun pa npa => ⟨_, rfl, b, _, _, _, rfl, rfl, Cm.sameT ((t12.trans (Cm.same_new nD)).trans (Cm.same_new npa)) hb, at1, Cm.small (by show 1 ≤ 100000; decide), fun pb npb => ⟨Nat.zero_le _, fun pc npc => ?_⟩⟩⟩
    have sab := ((Cm.same_new (o := .tup [v1]) npa).trans (Cm.same_new (o := .tup [v1]) npb)).trans (Cm.same_new (o := .tup []) npc)
    have h4D : upd (upd (upd (upd H2 D (.dK [])) pa (.tup [v1])) pb (.tup [v1])) pc (.tup []) D = some (.dK []) := sab _ _ upd_same
    have h4a : upd (upd (upd (upd H2 D (.dK [])) pa (.tup [v1])) pb (.tup [v1])) pc (.tup []) pa = some (.tup [v1]) := ((Cm.same_new (o := .tup [v1]) npb).trans (Cm.same_new (o := .tup []) npc)) _ _ upd_same
    have h4b : upd (upd (upd (upd H2 D (.dK [])) pa (.tup [v1])) pb (.tup [v1])) pc (.tup []) pb = some (.tup [v1]) := (Cm.same_new (o := .tup []) npc) _ _ upd_same
    have h4c : upd (upd (upd (upd H2 D (.dK [])) pa (.tup [v1])) pb (.tup [v1])) pc (.tup []) pc = some (.tup []) := upd_same
    have nDa : D ≠ pa := ne_of_none upd_same npa
    have nDb : D ≠ pb := ne_of_none ((Cm.same_new (o := .tup [v1]) npa) _ _ upd_same) npb
    have nDc : D ≠ pc := ne_of_none (((Cm.same_new (o := .tup [v1]) npa).trans (Cm.same_new (o := .tup [v1]) npb)) _ _ upd_same) npc
    have s24 := (Cm.same_new (o := .dK []) nD).trans sab
    generalize upd (upd (upd (upd H2 D (.dK [])) pa (.tup [v1])) pb (.tup [v1])) pc (.tup []) = H4 at h4D h4a h4b h4c s24 ⊢
    refine ⟨h4D, [(.inr "call", .ref pa), (.inr "fork", .ref pb), (.inr "new", .ref pc)], rfl, (by show 3 ≤ 15; decide), D, rfl, .inl ⟨_, .inl upd_same⟩, _, rfl, _, rfl, ?_⟩
    have tE : Same H (upd H4 D (.dK (mergeK [] [(.inr "call", .ref pa), (.inr "fork", .ref pb), (.inr "new", .ref pc)]))) := t12.trans (Cm.same_mut s24 nD)
    have hE : upd H4 D (.dK (mergeK [] [(.inr "call", .ref pa), (.inr "fork", .ref pb), (.inr "new", .ref pc)])) D = some (.dK [(.inr "call", .ref pa), (.inr "fork", .ref pb), (.inr "new", .ref pc)]) := upd_same
    have ga := (upd_ne (Ne.symm nDa) : upd H4 D (.dK (mergeK [] [(.inr "call", .ref pa), (.inr "fork", .ref pb), (.inr "new", .ref pc)])) pa = _).trans h4a
    have gb := (upd_ne (Ne.symm nDb) : upd H4 D (.dK (mergeK [] [(.inr "call", .ref pa), (.inr "fork", .ref pb), (.inr "new", .ref pc)])) pb = _).trans h4b
    have gc' := (upd_ne (Ne.symm nDc) : upd H4 D (.dK (mergeK [] [(.inr "call", .ref pa), (.inr "fork", .ref pb), (.inr "new", .ref pc)])) pc = _).trans h4c
    generalize upd H4 D (.dK (mergeK [] [(.inr "call", .ref pa), (.inr "fork", .ref pb), (.inr "new", .ref pc)])) = HE at tE hE ga gb gc' ⊢
    unfold tPart tNoPart tC
    dsimp only
    refine ⟨1, rfl, ?_⟩
    refine from_rp (k := 1) (hv'.keep (Same.tups tE)) (Nat.le_add_left 1 _) fun uS HS sS rS => ?_
    have tS := tE.trans sS
    have hu' : ∀ x ∈ (Es.cons r as).uses, x ∈ N := fun x hx => hu x (eu ▸ hx)
    rw [edp] at hd
    rw [esz] at hsz
    have hal := as_len as
    have hal2 : (Es.cons r as).sz = r.sz + as.sz := rfl
    obtain ⟨pp, hpp, gpp⟩ : ∃ pp : Addr, valV ([(.inr "call", .ref pa), (.inr "fork", .ref pb), (.inr "new", .ref pc)] : List (Key × V)) (.inr wd) = some (.ref pp) ∧ HE pp = some (.tup [v1]) := by
      rcases hwd with rfl | rfl
      · exact ⟨pa, rfl, ga⟩
      · exact ⟨pb, rfl, gb⟩
    have gx : DGet HS D (.str wd) (some (.ref pp)) := by
      rw [← hpp]
      exact DGet.k (k := .inr wd) (sS _ _ hE)
    refine ⟨_, gx, ?_⟩
    refine ⟨_, rfl, Cm.small (by show 2 ≤ 100000; decide), fun p5 np5 => ⟨p5, _, rfl, .inr Cm.sqt_new, rfl, rfl, _, rfl, Cm.itV (fun _ => ?_) (fun e => absurd c1 (by rw [e]; decide))⟩⟩
    have t5 := tS.trans (Cm.same_new (o := .tup [.str "call", .str "fork"]) np5)
    have rpp : Rp K (upd HS p5 (.tup [.str "call", .str "fork"])) (.ref pp) (.tuple [r.d]) := .tup (.inl (.inl ((sS.trans (Cm.same_new np5)) _ _ gpp))) (.cons (r1.keep (Same.tups t5)) .nil)
    generalize upd HS p5 (.tup [.str "call", .str "fork"]) = H5 at t5 rpp ⊢
    refine ⟨_, rfl, _, rfl, b, _, _, _, rfl, rfl, Cm.sameT t5 hb, at3, ?_⟩
    refine cat_rp rpp (r3.keep (Same.tups t5)) (by show 1 + as.ds.length ≤ 10000000; omega) fun u6 H6 s6 r6 => ?_
    have t6 := t5.trans s6
    replace r6 : Rp K H6 u6 (.tuple (Es.cons r as).ds) := r6
    refine ⟨Nat.zero_le _, fun pz npz => ?_⟩
    obtain ⟨bp, xs, rfl, hbp, hxs⟩ := r6.tup_inv
    have hlen : xs.length = (Es.cons r as).list.length := by rw [hxs.len, Es.list_ds, List.length_map]
    refine ⟨_, rfl, bp, rfl, ⟨xs, Cm.sameT (Cm.same_new npz) hbp⟩, for_tup (K := K) (a := bp) (xs := xs) (fun i σ H8 => ∃ (u : V) (x10 : Option V), σ = [some (.ref b), some (.ref nd), some (.int at_), some (.str wd), none, none, none, none, some (.ref bp), some u, x10] ∧ Same H6 H8 ∧ Lr K H8 u (((Es.cons r as).take i).code pl at_))
      ⟨_, none, rfl, Cm.same_new npz, Lr.made npz (by exact .nil)⟩ (fun i σ H8 _ ⟨_, _, _, s2, _⟩ => Cm.sameT s2 hbp) (fun i x σ H8 hx ⟨u, x10, e, s8, lu⟩ => ?_) fun σ H8 ⟨u, x10, e, s8, lu⟩ => ?_⟩
    · subst e
      obtain ⟨e, he, re⟩ := hxs.at_E hx
      obtain ⟨g1, g2, g3, g4⟩ := Es.part (List.mem_of_getElem? he)
      obtain ⟨nc, nz⟩ := Es.take_next (pl := pl) at_ he
      obtain ⟨c, cs, rfl, hc, hcl⟩ := lu.len
      rw [Es.code_len] at hcl
      have hz8 := Es.take_sz (Es.cons r as) i
      refine ⟨_, rfl, _, rfl, _, rfl, _, rfl, _, rfl, c, cs, rfl, .inl hc, _, _, rfl, rfl, x, nd, at_ + ((Es.cons r as).take i).sz, .e e, pl, N, args3 (by omega), hpl.same (t6.trans s8), re.keep (Same.tups s8), g1 ew, fun y hy => hu' y (g2 y hy), (by show e.dep < d; omega), (by show e.sz ≤ 100000; omega), fun H9 u9 s9 l9 => ?_⟩
      replace l9 : Lr K H9 u9 (e.code pl (at_ + ((Es.cons r as).take i).sz)) := l9
      refine cat_lr (lu.same s9) l9 (by rw [Es.code_len, Pt.E.code_len]; omega) fun u11 H11 s11 l11 => ?_
      exact ⟨u11, _, rfl, (s8.trans s9).trans s11, by rw [nc]; exact l11⟩
    · subst e
      rw [hlen, Es.take_all] at lu
      refine ⟨_, rfl, Cm.small (by show 2 ≤ 100000; decide), fun p12 np12 => ⟨p12, _, rfl, .inr Cm.sqt_new, rfl, rfl, _, rfl, Cm.itV (fun _ => ?_) (fun e => absurd c1 (by rw [e]; decide))⟩⟩
      have s12 := t6.trans (s8.trans (Cm.same_new (o := .tup [.str "call", .str "fork"]) np12))
      have lu12 := lu.same (Cm.same_new (o := .tup [.str "call", .str "fork"]) np12)
      generalize upd H8 p12 (.tup [.str "call", .str "fork"]) = H12 at s12 lu12 ⊢
      obtain ⟨c3, cs3, rfl, hc3, hcl3⟩ := len_rp (r3.keep (Same.tups s12))
      rw [Es.ds_len] at hcl3
      refine ⟨_, rfl, _, rfl, _, rfl, b, _, _, _, rfl, rfl, Cm.sameT s12 hb, at2, _, rfl, b, _, _, _, rfl, rfl, Cm.sameT s12 hb, at3, c3, cs3, rfl, .inr hc3, Cm.small (by show 3 ≤ 100000; decide), fun p13 np13 => ⟨Cm.small (by show 1 ≤ 100000; decide), fun p14 np14 => ?_⟩⟩
      have r13 := made (K := K) np13 (.cons (.str wd) (.cons (.str f) (.cons (intE (congrArg Int.ofNat hcl3)) .nil)))
      have l14 : Lr K _ _ _ := Lr.made (K := K) np14 (.cons r13 .nil)
      have s14 := (Cm.same_new (o := .tup [.str wd, .str f, .int (cs3.length : Int)]) np13).trans (Cm.same_new (o := .lst [.ref p13]) np14)
      exact cat_lr (lu12.same s14) l14 (by rw [Es.code_len]; show _ + 1 ≤ 10000000; omega) fun u15 H15 s15 l15 => q _ _ ((s12.trans s14).trans s15) (by rw [ec]; exact l15)
  · -- new
    have hv' : Rp K H v (.tuple [.str "new", .str m, .tuple as.ds]) := hv
    obtain ⟨b, vs, rfl, hb, hvs⟩ := id hv'.tup_inv
    obtain ⟨v0, vs, rfl, r0, hvs⟩ := hvs.cons_inv
    obtain ⟨v1, vs, rfl, r1, hvs⟩ := hvs.cons_inv
    obtain ⟨v2, vs, rfl, r2, hvs⟩ := hvs.cons_inv
    cases hvs.nil_inv
    cases r0.str_inv
    cases r1.str_inv
    have n1 : ¬ Str.ofString "new" = Str.ofString "int" := by decide
    have n2 : ¬ Str.ofString "new" = Str.ofString "name" := by decide
    have n3 : ¬ inV (.str "new") [.str "nil", .str "self"] = true := by decide
    have n4 : ¬ inV (.str "new") [.str "and", .str "or"] = true := by decide
    have c1 : ¬ inV (.str "new") [.str "call", .str "fork"] = true := by decide
    refine ⟨_, rfl, b, _, _, _, rfl, rfl, hb, at0, ?_⟩
    refine ⟨_, rfl, rfl, _, rfl, Cm.itES (fun e => absurd e n1) (fun _ => ?_)⟩
    refine ⟨_, rfl, Cm.small (by show 2 ≤ 100000; decide), fun p1 np1 => ⟨p1, _, rfl, .inr Cm.sqt_new, rfl, rfl, _, rfl, Cm.itV (fun e => absurd e n3) (fun _ => ?_)⟩⟩
    have t1 := Cm.same_new (o := .tup [.str "nil", .str "self"]) np1
    generalize upd H p1 (.tup [.str "nil", .str "self"]) = H1 at t1 ⊢
    refine ⟨_, rfl, rfl, _, rfl, Cm.itES (fun e => absurd e n2) (fun _ => ?_)⟩
    refine ⟨_, rfl, Cm.small (by show 2 ≤ 100000; decide), fun p2 np2 => ⟨p2, _, rfl, .inr Cm.sqt_new, rfl, rfl, _, rfl, Cm.itV (fun e => absurd e n4) (fun _ => ?_)⟩⟩
    have t2 := Cm.same_new (o := .tup [.str "and", .str "or"]) np2
    generalize upd H1 p2 (.tup [.str "and", .str "or"]) = H2 at t2 ⊢
    have t12 := t1.trans t2
    refine fun D nD => ⟨_, rfl, b, _, _, _, rfl, rfl, Cm.sameT (t12.trans (Cm.same_new nD)) hb, at1, Cm.small (by show 1 ≤ 100000; decide), fun pa npa => ⟨_, rfl, b, _, _, _, rfl, rfl, Cm.sameT ((t12.trans (Cm.same_new nD)).trans (Cm.same_new npa)) hb, at1, Cm.small (by show 1 ≤ 100000; decide), fun pb npb => ⟨Nat.zero_le _, fun pc npc => ?_⟩⟩⟩
    have sab := ((Cm.same_new (o := .tup [.str m]) npa).trans (Cm.same_new (o := .tup [.str m]) npb)).trans (Cm.same_new (o := .tup []) npc)
    have h4D : upd (upd (upd (upd H2 D (.dK [])) pa (.tup [.str m])) pb (.tup [.str m])) pc (.tup []) D = some (.dK []) := sab _ _ upd_same
    have h4a : upd (upd (upd (upd H2 D (.dK [])) pa (.tup [.str m])) pb (.tup [.str m])) pc (.tup []) pa = some (.tup [.str m]) := ((Cm.same_new (o := .tup [.str m]) npb).trans (Cm.same_new (o := .tup []) npc)) _ _ upd_same
    have h4b : upd (upd (upd (upd H2 D (.dK [])) pa (.tup [.str m])) pb (.tup [.str m])) pc (.tup []) pb = some (.tup [.str m]) := (Cm.same_new (o := .tup []) npc) _ _ upd_same
    have h4c : upd (upd (upd (upd H2 D (.dK [])) pa (.tup [.str m])) pb (.tup [.str m])) pc (.tup []) pc = some (.tup []) := upd_same
    have nDa : D ≠ pa := ne_of_none upd_same npa
    have nDb : D ≠ pb := ne_of_none ((Cm.same_new (o := .tup [.str m]) npa) _ _ upd_same) npb
    have nDc : D ≠ pc := ne_of_none (((Cm.same_new (o := .tup [.str m]) npa).trans (Cm.same_new (o := .tup [.str m]) npb)) _ _ upd_same) npc
    have s24 := (Cm.same_new (o := .dK []) nD).trans sab
    generalize upd (upd (upd (upd H2 D (.dK [])) pa (.tup [.str m])) pb (.tup [.str m])) pc (.tup []) = H4 at h4D h4a h4b h4c s24 ⊢
    refine ⟨h4D, [(.inr "call", .ref pa), (.inr "fork", .ref pb), (.inr "new", .ref pc)], rfl, (by show 3 ≤ 15; decide), D, rfl, .inl ⟨_, .inl upd_same⟩, _, rfl, _, rfl, ?_⟩
    have tE : Same H (upd H4 D (.dK (mergeK [] [(.inr "call", .ref pa), (.inr "fork", .ref pb), (.inr "new", .ref pc)]))) := t12.trans (Cm.same_mut s24 nD)
    have hE : upd H4 D (.dK (mergeK [] [(.inr "call", .ref pa), (.inr "fork", .ref pb), (.inr "new", .ref pc)])) D = some (.dK [(.inr "call", .ref pa), (.inr "fork", .ref pb), (.inr "new", .ref pc)]) := upd_same
    have ga := (upd_ne (Ne.symm nDa) : upd H4 D (.dK (mergeK [] [(.inr "call", .ref pa), (.inr "fork", .ref pb), (.inr "new", .ref pc)])) pa = _).trans h4a
    have gb := (upd_ne (Ne.symm nDb) : upd H4 D (.dK (mergeK [] [(.inr "call", .ref pa), (.inr "fork", .ref pb), (.inr "new", .ref pc)])) pb = _).trans h4b
    have gc' := (upd_ne (Ne.symm nDc) : upd H4 D (.dK (mergeK [] [(.inr "call", .ref pa), (.inr "fork", .ref pb), (.inr "new", .ref pc)])) pc = _).trans h4c
    generalize upd H4 D (.dK (mergeK [] [(.inr "call", .ref pa), (.inr "fork", .ref pb), (.inr "new", .ref pc)])) = HE at tE hE ga gb gc' ⊢
    unfold tPart tNoPart tC
    dsimp only
    refine ⟨1, rfl, ?_⟩
    refine from_rp (k := 1) (hv'.keep (Same.tups tE)) (Nat.le_add_left 1 _) fun uS HS sS rS => ?_
    have tS := tE.trans sS
    have hu' : ∀ x ∈ as.uses, x ∈ N := hu
    replace hd : as.dep + 1 < d + 1 := hd
    replace hsz : as.sz + 1 ≤ 100000 := hsz
    have hal := as_len as
    have gx : DGet HS D (.str "new") (some (.ref pc)) := DGet.k (k := .inr "new") (sS _ _ hE)
    refine ⟨_, gx, ?_⟩
    refine ⟨_, rfl, Cm.small (by show 2 ≤ 100000; decide), fun p5 np5 => ⟨p5, _, rfl, .inr Cm.sqt_new, rfl, rfl, _, rfl, Cm.itV (fun e => absurd e c1) (fun _ => ?_)⟩⟩
    have t6 := tS.trans (Cm.same_new (o := .tup [.str "call", .str "fork"]) np5)
    generalize upd HS p5 (.tup [.str "call", .str "fork"]) = H6 at t6 ⊢
    refine ⟨_, rfl, rfl, _, rfl, Cm.itES (fun _ => ?_) (fun e => absurd rfl e)⟩
    refine ⟨_, rfl, b, _, _, _, rfl, rfl, Cm.sameT t6 hb, at2, ?_⟩
    have r6 : Rp K H6 v2 (.tuple as.ds) := r2.keep (Same.tups t6)
    refine ⟨Nat.zero_le _, fun pz npz => ?_⟩
    obtain ⟨bp, xs, rfl, hbp, hxs⟩ := r6.tup_inv
    have hlen : xs.length = (as).list.length := by rw [hxs.len, Es.list_ds, List.length_map]
    refine ⟨_, rfl, bp, rfl, ⟨xs, Cm.sameT (Cm.same_new npz) hbp⟩, for_tup (K := K) (a := bp) (xs := xs) (fun i σ H8 => ∃ (u : V) (x10 : Option V), σ = [some (.ref b), some (.ref nd), some (.int at_), some (.str "new"), none, none, none, none, some (.ref bp), some u, x10] ∧ Same H6 H8 ∧ Lr K H8 u (((as).take i).code pl at_))
      ⟨_, none, rfl, Cm.same_new npz, Lr.made npz (by cases as <;> exact .nil)⟩ (fun i σ H8 _ ⟨_, _, _, s2, _⟩ => Cm.sameT s2 hbp) (fun i x σ H8 hx ⟨u, x10, e, s8, lu⟩ => ?_) fun σ H8 ⟨u, x10, e, s8, lu⟩ => ?_⟩
    · subst e
      obtain ⟨e, he, re⟩ := hxs.at_E hx
      obtain ⟨g1, g2, g3, g4⟩ := Es.part (List.mem_of_getElem? he)
      obtain ⟨nc, nz⟩ := Es.take_next (pl := pl) at_ he
      obtain ⟨c, cs, rfl, hc, hcl⟩ := lu.len
      rw [Es.code_len] at hcl
      have hz8 := Es.take_sz (as) i
      refine ⟨_, rfl, _, rfl, _, rfl, _, rfl, _, rfl, c, cs, rfl, .inl hc, _, _, rfl, rfl, x, nd, at_ + ((as).take i).sz, .e e, pl, N, args3 (by omega), hpl.same (t6.trans s8), re.keep (Same.tups s8), g1 hw, fun y hy => hu' y (g2 y hy), (by show e.dep < d; omega), (by show e.sz ≤ 100000; omega), fun H9 u9 s9 l9 => ?_⟩
      replace l9 : Lr K H9 u9 (e.code pl (at_ + ((as).take i).sz)) := l9
      refine cat_lr (lu.same s9) l9 (by rw [Es.code_len, Pt.E.code_len]; omega) fun u11 H11 s11 l11 => ?_
      exact ⟨u11, _, rfl, (s8.trans s9).trans s11, by rw [nc]; exact l11⟩
    · subst e
      rw [hlen, Es.take_all] at lu
      refine ⟨_, rfl, Cm.small (by show 2 ≤ 100000; decide), fun p12 np12 => ⟨p12, _, rfl, .inr Cm.sqt_new, rfl, rfl, _, rfl, Cm.itV (fun e => absurd e c1) (fun _ => ?_)⟩⟩
      have s12 := t6.trans (s8.trans (Cm.same_new (o := .tup [.str "call", .str "fork"]) np12))
      have lu12 := lu.same (Cm.same_new (o := .tup [.str "call", .str "fork"]) np12)
      have h12 := Cm.sameT (s8.trans (Cm.same_new (o := .tup [.str "call", .str "fork"]) np12)) hbp
      generalize upd H8 p12 (.tup [.str "call", .str "fork"]) = H12 at s12 lu12 h12 ⊢
      refine ⟨_, rfl, rfl, _, rfl, Cm.itES (fun _ => ?_) (fun e => absurd rfl e)⟩
      have hcl3 : xs.length = as.len := by rw [hxs.len, Es.ds_len]
      refine ⟨_, rfl, _, rfl, b, _, _, _, rfl, rfl, Cm.sameT s12 hb, at1, _, rfl, b, _, _, _, rfl, rfl, Cm.sameT s12 hb, at2, bp, xs, rfl, .inr h12, Cm.small (by show 3 ≤ 100000; decide), fun p13 np13 => ⟨Cm.small (by show 1 ≤ 100000; decide), fun p14 np14 => ?_⟩⟩
      have r13 := made (K := K) np13 (.cons (.str "new") (.cons (.str m) (.cons (intE (congrArg Int.ofNat hcl3)) .nil)))
      have l14 : Lr K _ _ _ := Lr.made (K := K) np14 (.cons r13 .nil)
      have s14 := (Cm.same_new (o := .tup [.str "new", .str m, .int (xs.length : Int)]) np13).trans (Cm.same_new (o := .lst [.ref p13]) np14)
      exact cat_lr (lu12.same s14) l14 (by rw [Es.code_len]; show _ + 1 ≤ 10000000; omega) fun u15 H15 s15 l15 => q _ _ ((s12.trans s14).trans s15) l15
  · -- op
    have hv' : Rp K H v (.tuple (.str wd :: x.d :: as.ds)) := ed ▸ hv
    obtain ⟨b, vs, rfl, hb, hvs⟩ := id hv'.tup_inv
    obtain ⟨v0, vs, rfl, r0, hvs⟩ := hvs.cons_inv
    obtain ⟨v1, vs, rfl, r1, hvs⟩ := hvs.cons_inv
    cases r0.str_inv
    have n1 : ¬ wd = Str.ofString "int" := (by decide +kernel : ∀ w ∈ opsW, ¬ w = Str.ofString "int") wd hwd
    have n2 : ¬ wd = Str.ofString "name" := (by decide +kernel : ∀ w ∈ opsW, ¬ w = Str.ofString "name") wd hwd
    have n3 : ¬ inV (.str wd) [.str "nil", .str "self"] = true := (by decide +kernel : ∀ w ∈ opsW, ¬ inV (.str w) [.str "nil", .str "self"] = true) wd hwd
    have n4 : ¬ inV (.str wd) [.str "and", .str "or"] = true := (by decide +kernel : ∀ w ∈ opsW, ¬ inV (.str w) [.str "and", .str "or"] = true) wd hwd
    have c1 : ¬ inV (.str wd) [.str "call", .str "fork"] = true := (by decide +kernel : ∀ w ∈ opsW, ¬ inV (.str w) [.str "call", .str "fork"] = true) wd hwd
    have c2 : ¬ wd = Str.ofString "new" := (by decide +kernel : ∀ w ∈ opsW, ¬ w = Str.ofString "new") wd hwd
    refine ⟨_, rfl, b, _, _, _, rfl, rfl, hb, at0, ?_⟩
    refine ⟨_, rfl, rfl, _, rfl, Cm.itES (fun e => absurd e n1) (fun _ => ?_)⟩
    refine ⟨_, rfl, Cm.small (by show 2 ≤ 100000; decide), fun p1 np1 => ⟨p1, _, rfl, .inr Cm.sqt_new, rfl, rfl, _, rfl, Cm.itV (fun e => absurd e n3) (fun _ => ?_)⟩⟩
    have t1 := Cm.same_new (o := .tup [.str "nil", .str "self"]) np1
    generalize upd H p1 (.tup [.str "nil", .str "self"]) = H1 at t1 ⊢
    refine ⟨_, rfl, rfl, _, rfl, Cm.itES (fun e => absurd e n2) (fun _ => ?_)⟩
    refine ⟨_, rfl, Cm.small (by show 2 ≤ 100000; decide), fun p2 np2 => ⟨p2, _, rfl, .inr Cm.sqt_new, rfl, rfl, _, rfl, Cm.itV (fun e => absurd e n4) (fun _ => ?_)⟩⟩
    have t2 := Cm.same_new (o := .tup [.str "and", .str "or"]) np2
    generalize upd H1 p2 (.tup [.str "and", .str "or"]) = H2 at t2 ⊢
    have t12 := t1.trans t2
    refine fun D nD => ⟨_, rfl, b, _, _, _, rfl, rfl, Cm.sameT (t12.trans (Cm.same_new nD)) hb, at1, Cm.small (by show 1 ≤ 100000; decide), fun pa npa => ⟨_, rfl, b, _, _, _, rfl, rfl, Cm.sameT ((t12.trans (Cm.same_new nD)).trans (Cm.same_new npa)) hb, at1, Cm.small (by show 1 ≤ 100000; decide), fun pb npb => ⟨Nat.zero_le _, fun pc npc => ?_⟩⟩⟩
    have sab := ((Cm.same_new (o := .tup [v1]) npa).trans (Cm.same_new (o := .tup [v1]) npb)).trans (Cm.same_new (o := .tup []) npc)
    have h4D : upd (upd (upd (upd H2 D (.dK [])) pa (.tup [v1])) pb (.tup [v1])) pc (.tup []) D = some (.dK []) := sab _ _ upd_same
    have h4a : upd (upd (upd (upd H2 D (.dK [])) pa (.tup [v1])) pb (.tup [v1])) pc (.tup []) pa = some (.tup [v1]) := ((Cm.same_new (o := .tup [v1]) npb).trans (Cm.same_new (o := .tup []) npc)) _ _ upd_same
    have h4b : upd (upd (upd (upd H2 D (.dK [])) pa (.tup [v1])) pb (.tup [v1])) pc (.tup []) pb = some (.tup [v1]) := (Cm.same_new (o := .tup []) npc) _ _ upd_same
    have h4c : upd (upd (upd (upd H2 D (.dK [])) pa (.tup [v1])) pb (.tup [v1])) pc (.tup []) pc = some (.tup []) := upd_same
    have nDa : D ≠ pa := ne_of_none upd_same npa
    have nDb : D ≠ pb := ne_of_none ((Cm.same_new (o := .tup [v1]) npa) _ _ upd_same) npb
    have nDc : D ≠ pc := ne_of_none (((Cm.same_new (o := .tup [v1]) npa).trans (Cm.same_new (o := .tup [v1]) npb)) _ _ upd_same) npc
    have s24 := (Cm.same_new (o := .dK []) nD).trans sab
    generalize upd (upd (upd (upd H2 D (.dK [])) pa (.tup [v1])) pb (.tup [v1])) pc (.tup []) = H4 at h4D h4a h4b h4c s24 ⊢
    refine ⟨h4D, [(.inr "call", .ref pa), (.inr "fork", .ref pb), (.inr "new", .ref pc)], rfl, (by show 3 ≤ 15; decide), D, rfl, .inl ⟨_, .inl upd_same⟩, _, rfl, _, rfl, ?_⟩
    have tE : Same H (upd H4 D (.dK (mergeK [] [(.inr "call", .ref pa), (.inr "fork", .ref pb), (.inr "new", .ref pc)]))) := t12.trans (Cm.same_mut s24 nD)
    have hE : upd H4 D (.dK (mergeK [] [(.inr "call", .ref pa), (.inr "fork", .ref pb), (.inr "new", .ref pc)])) D = some (.dK [(.inr "call", .ref pa), (.inr "fork", .ref pb), (.inr "new", .ref pc)]) := upd_same
    have ga := (upd_ne (Ne.symm nDa) : upd H4 D (.dK (mergeK [] [(.inr "call", .ref pa), (.inr "fork", .ref pb), (.inr "new", .ref pc)])) pa = _).trans h4a
    have gb := (upd_ne (Ne.symm nDb) : upd H4 D (.dK (mergeK [] [(.inr "call", .ref pa), (.inr "fork", .ref pb), (.inr "new", .ref pc)])) pb = _).trans h4b
    have gc' := (upd_ne (Ne.symm nDc) : upd H4 D (.dK (mergeK [] [(.inr "call", .ref pa), (.inr "fork", .ref pb), (.inr "new", .ref pc)])) pc = _).trans h4c
    generalize upd H4 D (.dK (mergeK [] [(.inr "call", .ref pa), (.inr "fork", .ref pb), (.inr "new", .ref pc)])) = HE at tE hE ga gb gc' ⊢
    unfold tPart tNoPart tC
    dsimp only
    refine ⟨1, rfl, ?_⟩
    refine from_rp (k := 1) (hv'.keep (Same.tups tE)) (Nat.le_add_left 1 _) fun uS HS sS rS => ?_
    have tS := tE.trans sS
    have hu' : ∀ y ∈ (Es.cons x as).uses, y ∈ N := fun y hy => hu y (eu ▸ hy)
    rw [edp] at hd
    rw [esz] at hsz
    have hnone : valV ([(.inr "call", .ref pa), (.inr "fork", .ref pb), (.inr "new", .ref pc)] : List (Key × V)) (.inr wd) = none := by
      have m1 : ¬ (.inr "call" : Key) = .inr wd := fun e => c1 (by rw [← Sum.inr.inj e]; decide)
      have m2 : ¬ (.inr "fork" : Key) = .inr wd := fun e => c1 (by rw [← Sum.inr.inj e]; decide)
      have m3 : ¬ (.inr "new" : Key) = .inr wd := fun e => c2 (Sum.inr.inj e).symm
      rw [valV_neg m1, valV_neg m2, valV_neg m3]
      rfl
    have gx : DGet HS D (.str wd) none := by
      rw [← hnone]
      exact DGet.k (k := .inr wd) (sS _ _ hE)
    refine ⟨_, gx, ?_⟩
    refine ⟨_, rfl, Cm.small (by show 2 ≤ 100000; decide), fun p5 np5 => ⟨p5, _, rfl, .inr Cm.sqt_new, rfl, rfl, _, rfl, Cm.itV (fun e => absurd e c1) (fun _ => ?_)⟩⟩
    have t6 := tS.trans (Cm.same_new (o := .tup [.str "call", .str "fork"]) np5)
    have r6 : Rp K (upd HS p5 (.tup [.str "call", .str "fork"])) uS (.tuple (Es.cons x as).ds) := rS.keep (Same.tups (Cm.same_new np5))
    generalize upd HS p5 (.tup [.str "call", .str "fork"]) = H6 at t6 r6 ⊢
    refine ⟨_, rfl, rfl, _, rfl, Cm.itES (fun e => absurd e c2) (fun _ => ?_)⟩
    refine ⟨Nat.zero_le _, fun pz npz => ?_⟩
    obtain ⟨bp, xs, rfl, hbp, hxs⟩ := r6.tup_inv
    have hlen : xs.length = (Es.cons x as).list.length := by rw [hxs.len, Es.list_ds, List.length_map]
    refine ⟨_, rfl, bp, rfl, ⟨xs, Cm.sameT (Cm.same_new npz) hbp⟩, for_tup (K := K) (a := bp) (xs := xs) (fun i σ H8 => ∃ (u : V) (x10 : Option V), σ = [some (.ref b), some (.ref nd), some (.int at_), some (.str wd), none, none, none, none, some (.ref bp), some u, x10] ∧ Same H6 H8 ∧ Lr K H8 u (((Es.cons x as).take i).code pl at_))
      ⟨_, none, rfl, Cm.same_new npz, Lr.made npz (by exact .nil)⟩ (fun i σ H8 _ ⟨_, _, _, s2, _⟩ => Cm.sameT s2 hbp) (fun i y σ H8 hx ⟨u, x10, e, s8, lu⟩ => ?_) fun σ H8 ⟨u, x10, e, s8, lu⟩ => ?_⟩
    · subst e
      obtain ⟨e, he, re⟩ := hxs.at_E hx
      obtain ⟨g1, g2, g3, g4⟩ := Es.part (List.mem_of_getElem? he)
      obtain ⟨nc, nz⟩ := Es.take_next (pl := pl) at_ he
      obtain ⟨c, cs, rfl, hc, hcl⟩ := lu.len
      rw [Es.code_len] at hcl
      have hz8 := Es.take_sz (Es.cons x as) i
      refine ⟨_, rfl, _, rfl, _, rfl, _, rfl, _, rfl, c, cs, rfl, .inl hc, _, _, rfl, rfl, y, nd, at_ + ((Es.cons x as).take i).sz, .e e, pl, N, args3 (by omega), hpl.same (t6.trans s8), re.keep (Same.tups s8), g1 ew, fun z hz => hu' z (g2 z hz), (by show e.dep < d; omega), (by show e.sz ≤ 100000; omega), fun H9 u9 s9 l9 => ?_⟩
      replace l9 : Lr K H9 u9 (e.code pl (at_ + ((Es.cons x as).take i).sz)) := l9
      refine cat_lr (lu.same s9) l9 (by rw [Es.code_len, Pt.E.code_len]; omega) fun u11 H11 s11 l11 => ?_
      exact ⟨u11, _, rfl, (s8.trans s9).trans s11, by rw [nc]; exact l11⟩
    · subst e
      rw [hlen, Es.take_all] at lu
      refine ⟨_, rfl, Cm.small (by show 2 ≤ 100000; decide), fun p12 np12 => ⟨p12, _, rfl, .inr Cm.sqt_new, rfl, rfl, _, rfl, Cm.itV (fun e => absurd e c1) (fun _ => ?_)⟩⟩
      have s12 := t6.trans (s8.trans (Cm.same_new (o := .tup [.str "call", .str "fork"]) np12))
      have lu12 := lu.same (Cm.same_new (o := .tup [.str "call", .str "fork"]) np12)
      generalize upd H8 p12 (.tup [.str "call", .str "fork"]) = H12 at s12 lu12 ⊢
      refine ⟨_, rfl, rfl, _, rfl, Cm.itES (fun e => absurd e c2) (fun _ => ?_)⟩
      refine ⟨_, rfl, _, rfl, Cm.small (by show 1 ≤ 100000; decide), fun p13 np13 => ⟨Cm.small (by show 1 ≤ 100000; decide), fun p14 np14 => ?_⟩⟩
      have r13 := made (K := K) np13 (.cons (.str wd) .nil)
      have l14 : Lr K _ _ _ := Lr.made (K := K) np14 (.cons r13 .nil)
      have s14 := (Cm.same_new (o := .tup [.str wd]) np13).trans (Cm.same_new (o := .lst [.ref p13]) np14)
      exact cat_lr (lu12.same s14) l14 (by rw [Es.code_len]; show _ + 1 ≤ 10000000; omega) fun u15 H15 s15 l15 => q _ _ ((s12.trans s14).trans s15) (by rw [ec]; exact l15)
theorem ok_lcode (T : Txt K mg w a) : ∀ d : Nat, FnOk P w K mg base CX0 (d + 1) (He.ga K "_law_code") a.d_lw_code ["node", "places", "base"] (spLc K d)
  | 0 => vac fun vs H Q E h => by
    obtain ⟨_, _, _, e, _, _, _, _, _, _, _, hd, _⟩ := h
    exact absurd hd (Nat.not_lt_zero e.dep)
  | d + 1 => step_lcode T d (ok_lcode T d)
def spLb (K : PySem.W.Frag) (d : Nat) : Sp := fun vs H Q _ => ∃ (v : V) (nd : Addr) (at_ : Nat) (b : Ss) (pl : Plc) (N : List Str), vs = [v, .ref nd, .int at_] ∧ PlAt K H nd pl N ∧ Rp K H v (.tuple b.ds) ∧ b.wf = true ∧ (∀ x ∈ b.uses, x ∈ N) ∧ b.dep < d ∧ b.sz ≤ 100000 ∧
  ∀ (H' : Hp) (u : V), Same H H' → Lr K H' u (b.code pl at_) → Q u H'
theorem S.word (st : S) (hw : st.wf = true) : (∃ x k e, st = .letS x k e) ∨ (∃ x e, st = .setS x e) ∨ (∃ e, st = .doS e) ∨ (∃ e b c, st = .ifS e b c) ∨ (∃ e b, st = .whileS e b) ∨
    (∃ (e : Nd) (wd : Str) (ds : List PyData), (wd = "fork" ∨ wd ∈ plainB) ∧ st.d = e.d ∧ e.d = .tuple (.str wd :: ds) ∧ (∀ pl i, st.code pl i = e.code pl i) ∧ e.wf = true ∧ st.uses = e.uses ∧ st.dep = e.dep ∧ st.sz = e.sz) := by
  cases st with
  | letS x k e => exact .inl ⟨x, k, e, rfl⟩
  | setS x e => exact .inr (.inl ⟨x, e, rfl⟩)
  | doS e => exact .inr (.inr (.inl ⟨e, rfl⟩))
  | ifS e b c => exact .inr (.inr (.inr (.inl ⟨e, b, c, rfl⟩)))
  | whileS e b => exact .inr (.inr (.inr (.inr (.inl ⟨e, b, rfl⟩))))
  | fork r f as => exact .inr (.inr (.inr (.inr (.inr ⟨.f r f as, "fork", _, .inl rfl, rfl, rfl, fun _ _ => rfl, hw, rfl, rfl, rfl⟩))))
  | plain w as => exact .inr (.inr (.inr (.inr (.inr ⟨.p w as, w, _, .inr (of_decide_eq_true (Bool.and_eq_true_iff.mp (Bool.and_eq_true_iff.mp hw).1).1), rfl, rfl, fun _ _ => rfl, hw, rfl, rfl, rfl⟩))))
theorem step_lblock (T : Txt K mg w a) (d : Nat) (hd13 : d ≤ 12) (gc : FnOk P w K mg base CX0 14 (He.ga K "_law_code") a.d_lw_code ["node", "places", "base"] (spLc K 13))
    (gb : FnOk P w K mg base CX0 (d + 15) (He.ga K "_law_block_code") a.d_lw_block_code ["block", "places", "base"] (spLb K d)) :
    FnOk P w K mg base CX0 (d + 16) (He.ga K "_law_block_code") a.d_lw_block_code ["block", "places", "base"] (spLb K (d + 1)) := by
  refine T.F_lw_block_code.ok sc_lw_block_code (fun vs H Q E h => ?_) (fun cdv A outer s H vs Q E hr h => ?_)
  · obtain ⟨_, _, _, _, _, _, rfl, _⟩ := h
    rfl
  obtain ⟨v, nd, at_, es, pl, N, rfl, hpl, hv, hw, hu, hd, hsz, q⟩ := h
  refine ⟨_, PSs.nox (pss_cons (ps_set (i := 3) sc_lw_block_code.nd rfl (Or.inl rfl) (pe_lst pa_nil))
      (pss_cons (ps_for PassesOwn.never rfl (pi_tup (pv 0)) (pg_name (i := 4) sc_lw_block_code.nd rfl (Or.inl rfl))
      (pss_cons (ps_set (i := 5) sc_lw_block_code.nd rfl (Or.inl rfl) (pe_op op_add (pv 2) (pe_callB call_len_seq (by rfl) T.g_len boot_len (pa_cons (pv 3) pa_nil))))
      (pss_cons (ps_set (i := 6) sc_lw_block_code.nd rfl (Or.inl rfl) (pe_ix ix_tup (pv 4) pe_int (fun _ _ => rfl)))
      (pss_one (ps_if (pt_cmpR op_in_seq (pv 6) (pe_tup (pa_cons pe_str (pa_cons pe_str pa_nil))) (by rfl)) (pss_cons (ps_set (i := 7) sc_lw_block_code.nd rfl (Or.inl rfl) (pe_dget (hu_of hr) (pv 1) (pe_ix ix_tup (pv 4) pe_int (fun _ _ => rfl)) (fun _ _ => rfl)))
      (pss_one (ps_set (i := 3) sc_lw_block_code.nd rfl (Or.inl rfl) (pe_op op_cat (pe_op op_cat (pv 3) (pe_call gc (hr.mono (by omega)) (by rfl) T.g_lw_code T.F_lw_code.kp T.b_lw_code .nil pass0 (pa_cons (pe_ix ix_tup (pv 4) (pe_un un_neg pe_int) (fun _ _ => rfl)) (pa_cons (pv 1) (pa_cons (pv 5) pa_nil))))) (pe_lst (pa_cons (pe_tup (pa_cons (pe_op op_add_str pe_str (pe_ix ix_tup (pv 7) pe_int (fun _ _ => rfl))) (pa_cons (pe_ix ix_tup (pv 7) pe_int (fun _ _ => rfl)) pa_nil))) pa_nil)))))) (pss_one (ps_if (pt_cmpR op_eq (pv 6) pe_str (nomark _)) (pss_one (ps_set (i := 3) sc_lw_block_code.nd rfl (Or.inl rfl) (pe_op op_cat (pe_op op_cat (pv 3) (pe_call gc (hr.mono (by omega)) (by rfl) T.g_lw_code T.F_lw_code.kp T.b_lw_code .nil pass0 (pa_cons (pe_ix ix_tup (pv 4) pe_int (fun _ _ => rfl)) (pa_cons (pv 1) (pa_cons (pv 5) pa_nil))))) (pe_lst (pa_cons (pe_tup (pa_cons pe_str pa_nil)) pa_nil))))) (pss_one (ps_if (pt_cmpR op_eq (pv 6) pe_str (nomark _)) (pss_cons (ps_set (i := 8) sc_lw_block_code.nd rfl (Or.inl rfl) (pe_call gc (hr.mono (by omega)) (by rfl) T.g_lw_code T.F_lw_code.kp T.b_lw_code .nil pass0 (pa_cons (pe_ix ix_tup (pv 4) pe_int (fun _ _ => rfl)) (pa_cons (pv 1) (pa_cons (pv 5) pa_nil)))))
      (pss_cons (ps_set (i := 9) sc_lw_block_code.nd rfl (Or.inl rfl) (pe_call gb (hr.mono (by omega)) (by rfl) T.g_lw_block_code T.F_lw_block_code.kp T.b_lw_block_code .nil pass0 (pa_cons (pe_ix ix_tup (pv 4) pe_int (fun _ _ => rfl)) (pa_cons (pv 1) (pa_cons (pe_op op_add (pe_op op_add (pv 5) (pe_callB call_len_seq (by rfl) T.g_len boot_len (pa_cons (pv 8) pa_nil))) pe_int) pa_nil)))))
      (pss_cons (ps_set (i := 10) sc_lw_block_code.nd rfl (Or.inl rfl) (pe_op op_add (pe_op op_add (pe_op op_add (pv 5) (pe_callB call_len_seq (by rfl) T.g_len boot_len (pa_cons (pv 8) pa_nil))) pe_int) (pe_callB call_len_seq (by rfl) T.g_len boot_len (pa_cons (pv 9) pa_nil))))
      (pss_one (ps_if (pt_cmpR op_eq (pe_callB call_len_seq (by rfl) T.g_len boot_len (pa_cons (pe_ix ix_tup (pv 4) pe_int (fun _ _ => rfl)) pa_nil)) pe_int (nomark _)) (pss_one (ps_set (i := 3) sc_lw_block_code.nd rfl (Or.inl rfl) (pe_op op_cat (pe_op op_cat (pe_op op_cat (pv 3) (pv 8)) (pe_lst (pa_cons (pe_tup (pa_cons pe_str (pa_cons (pv 10) pa_nil))) pa_nil))) (pv 9)))) (pss_cons (ps_set (i := 11) sc_lw_block_code.nd rfl (Or.inl rfl) (pe_call gb (hr.mono (by omega)) (by rfl) T.g_lw_block_code T.F_lw_block_code.kp T.b_lw_block_code .nil pass0 (pa_cons (pe_ix ix_tup (pv 4) pe_int (fun _ _ => rfl)) (pa_cons (pv 1) (pa_cons (pe_op op_add (pv 10) pe_int) pa_nil)))))
      (pss_one (ps_set (i := 3) sc_lw_block_code.nd rfl (Or.inl rfl) (pe_op op_cat (pe_op op_cat (pe_op op_cat (pe_op op_cat (pe_op op_cat (pv 3) (pv 8)) (pe_lst (pa_cons (pe_tup (pa_cons pe_str (pa_cons (pe_op op_add (pv 10) pe_int) pa_nil))) pa_nil))) (pv 9)) (pe_lst (pa_cons (pe_tup (pa_cons pe_str (pa_cons (pe_op op_add (pe_op op_add (pv 10) pe_int) (pe_callB call_len_seq (by rfl) T.g_len boot_len (pa_cons (pv 11) pa_nil))) pa_nil))) pa_nil))) (pv 11)))))))))) (pss_one (ps_if (pt_cmpR op_eq (pv 6) pe_str (nomark _)) (pss_cons (ps_set (i := 8) sc_lw_block_code.nd rfl (Or.inl rfl) (pe_call gc (hr.mono (by omega)) (by rfl) T.g_lw_code T.F_lw_code.kp T.b_lw_code .nil pass0 (pa_cons (pe_ix ix_tup (pv 4) pe_int (fun _ _ => rfl)) (pa_cons (pv 1) (pa_cons (pv 5) pa_nil)))))
      (pss_cons (ps_set (i := 12) sc_lw_block_code.nd rfl (Or.inl rfl) (pe_call gb (hr.mono (by omega)) (by rfl) T.g_lw_block_code T.F_lw_block_code.kp T.b_lw_block_code .nil pass0 (pa_cons (pe_ix ix_tup (pv 4) pe_int (fun _ _ => rfl)) (pa_cons (pv 1) (pa_cons (pe_op op_add (pe_op op_add (pv 5) (pe_callB call_len_seq (by rfl) T.g_len boot_len (pa_cons (pv 8) pa_nil))) pe_int) pa_nil)))))
      (pss_one (ps_set (i := 3) sc_lw_block_code.nd rfl (Or.inl rfl) (pe_op op_cat (pe_op op_cat (pe_op op_cat (pe_op op_cat (pv 3) (pv 8)) (pe_lst (pa_cons (pe_tup (pa_cons pe_str (pa_cons (pe_op op_add (pe_op op_add (pe_op op_add (pv 5) (pe_callB call_len_seq (by rfl) T.g_len boot_len (pa_cons (pv 8) pa_nil))) pe_int) (pe_callB call_len_seq (by rfl) T.g_len boot_len (pa_cons (pv 12) pa_nil))) pa_nil))) pa_nil))) (pv 12)) (pe_lst (pa_cons (pe_tup (pa_cons pe_str (pa_cons (pv 5) pa_nil))) pa_nil))))))) (pss_one (ps_set (i := 3) sc_lw_block_code.nd rfl (Or.inl rfl) (pe_op op_cat (pv 3) (pe_call gc (hr.mono (by omega)) (by rfl) T.g_lw_code T.F_lw_code.kp T.b_lw_code .nil pass0 (pa_cons (pv 4) (pa_cons (pv 1) (pa_cons (pv 5) pa_nil))))))))))))))))))
      (pss_one (ps_ret (pv 3))))), ?_⟩
  refine ⟨Nat.zero_le _, fun f nf => ?_⟩
  have s0 := Cm.same_new (o := .lst []) nf
  obtain ⟨b0, vs, rfl, hb0, hvs⟩ := hv.tup_inv
  have hlen : vs.length = es.list.length := by rw [hvs.len, Ss.list_ds, List.length_map]
  refine ⟨_, rfl, b0, rfl, ⟨vs, Cm.sameT s0 hb0⟩, for_tup (K := K) (a := b0) (xs := vs) (fun i σ H2 => ∃ (u : V) (x4 x5 x6 x7 x8 x9 x10 x11 x12 : Option V), σ = [some (.ref b0), some (.ref nd), some (.int at_), some u, x4, x5, x6, x7, x8, x9, x10, x11, x12] ∧ Same H H2 ∧ Lr K H2 u ((es.take i).code pl at_))
    ⟨_, none, none, none, none, none, none, none, none, none, rfl, s0, Lr.made nf (by cases es <;> exact .nil)⟩ (fun i σ H2 _ ⟨_, _, _, _, _, _, _, _, _, _, _, s2, _⟩ => Cm.sameT s2 hb0) (fun i x σ H2 hx ⟨u, x4, x5, x6, x7, x8, x9, x10, x11, x12, e, s2, lu⟩ => ?_) fun σ H2 ⟨u, x4, x5, x6, x7, x8, x9, x10, x11, x12, e, s2, lu⟩ => ?_⟩
  · subst e
    obtain ⟨st, he, re⟩ := hvs.at_S hx
    obtain ⟨g1, g2, g3, g4⟩ := Ss.part (List.mem_of_getElem? he)
    obtain ⟨nc, nz⟩ := Ss.take_next (pl := pl) at_ he
    have hz := Ss.take_sz es i
    have cl := Ss.code_len pl (es.take i) at_
    have fin : ∀ {H' : Hp} {u' : V} {y4 y5 y6 y7 y8 y9 y10 y11 y12 : Option V} {ds : List PyData}, Same H H' → Lr K H' u' ((es.take i).code pl at_ ++ ds) → ds = st.code pl (at_ + (es.take i).sz) →
        ∃ (u : V) (x4 x5 x6 x7 x8 x9 x10 x11 x12 : Option V), ([some (.ref b0), some (.ref nd), some (.int at_), some u', y4, y5, y6, y7, y8, y9, y10, y11, y12] : L2.St) = [some (.ref b0), some (.ref nd), some (.int at_), some u, x4, x5, x6, x7, x8, x9, x10, x11, x12] ∧ Same H H' ∧ Lr K H' u ((es.take (i + 1)).code pl at_) := fun {H' u' y4 y5 y6 y7 y8 y9 y10 y11 y12 ds} s l e => by
      refine ⟨_, _, _, _, _, _, _, _, _, _, rfl, s, ?_⟩
      rw [nc, ← e]
      exact l
    generalize hCC : (es.take i).code pl at_ = C at lu cl fin
    generalize (es.take i).sz = Z at fin hz cl nz
    obtain ⟨c, cs, rfl, hc, hcl⟩ := lu.len
    rw [cl] at hcl
    have hw' := g1 hw
    have hre := re.keep (Same.tups s2)
    have eA : ((at_ : Int) + (cs.length : Nat)) = ((at_ + Z : Nat) : Int) := by omega
    rcases S.word st hw' with ⟨nm, kd, e, rfl⟩ | ⟨nm, e, rfl⟩ | ⟨e, rfl⟩ | ⟨e, bl, cl2, rfl⟩ | ⟨e, bl, rfl⟩ | ⟨e, wd, ds, hwd, ed, ed2, ec, ew, eu, edp, esz⟩
    · replace hre : Rp K H2 x (.tuple [.str "let", .str nm, .str kd, e.d]) := hre
      obtain ⟨b, vs2, rfl, hb, hvs2⟩ := id hre.tup_inv
      obtain ⟨v0, vs2, rfl, r0, hvs2⟩ := hvs2.cons_inv
      obtain ⟨v1, vs2, rfl, r1, hvs2⟩ := hvs2.cons_inv
      obtain ⟨v2, vs2, rfl, r2, hvs2⟩ := hvs2.cons_inv
      obtain ⟨v3, vs2, rfl, r3, hvs2⟩ := hvs2.cons_inv
      cases hvs2.nil_inv
      cases r0.str_inv
      cases r1.str_inv
      refine ⟨_, rfl, _, rfl, c, cs, rfl, .inl hc, _, _, rfl, rfl, ?_⟩
      refine ⟨_, rfl, b, _, _, _, rfl, rfl, hb, at0, ?_⟩
      refine ⟨_, rfl, Cm.small (by show 2 ≤ 100000; decide), fun p1 np1 => ⟨p1, _, rfl, .inr Cm.sqt_new, rfl, rfl, _, rfl, Cm.itV (fun _ => ?_) (fun e => absurd (show inV (.str "let") [.str "let", .str "set"] = true by decide) (by rw [e]; decide))⟩⟩
      have t1 := s2.trans (Cm.same_new (o := .tup [.str "let", .str "set"]) np1)
      have lu1 := lu.same (Cm.same_new (o := .tup [.str "let", .str "set"]) np1)
      have hb1 := Cm.sameT (Cm.same_new (o := .tup [.str "let", .str "set"]) np1) hb
      have re1 := hre.keep (Same.tups (Cm.same_new (o := .tup [.str "let", .str "set"]) np1))
      have d1 := Cm.same_new (o := .tup [.str "let", .str "set"]) np1
      generalize upd H2 p1 (.tup [.str "let", .str "set"]) = H3 at t1 lu1 hb1 re1 d1 ⊢
      have hdd : e.dep + 1 ≤ es.dep := g3
      have hzz : e.sz + 1 ≤ es.sz := g4
      obtain ⟨kvs, hk, hx2⟩ := id (hpl.same t1)
      obtain ⟨hxl, pu, hu1, ru⟩ := hx2 nm (hu nm (g2 nm List.mem_cons_self))
      have gx : DGet H3 nd (.str nm) (some pu) := by
        rw [← hu1]
        exact DGet.k (k := .inr nm) hk
      obtain ⟨pc, us, rfl, hpc, hus⟩ := ru.tup_inv
      obtain ⟨w0, us, rfl, rw0, hus⟩ := hus.cons_inv
      obtain ⟨w1, us, rfl, rw1, hus⟩ := hus.cons_inv
      cases hus.nil_inv
      cases rw0.str_inv
      cases rw1.int_inv
      refine ⟨_, rfl, _, rfl, b, _, _, _, rfl, rfl, hb1, at1, nd, _, rfl, gx, ?_⟩
      refine ⟨_, rfl, _, rfl, _, rfl, b, _, _, _, rfl, rfl, hb1, rfl, _, rfl, _, rfl, ?_⟩
      refine ⟨v3, nd, at_ + Z, .e e, pl, N, args3 eA, hpl.same t1, r3.keep (Same.tups d1), hw', fun y hy => hu y (g2 y (List.mem_cons_of_mem _ hy)), (by show e.dep < 13; omega), (by show e.sz ≤ 100000; omega), fun H4 u4 s4 l4 => ?_⟩
      replace l4 : Lr K H4 u4 (e.code pl (at_ + Z)) := l4
      refine cat_lr (lu1.same s4) l4 (by rw [cl, Pt.E.code_len]; omega) fun u5 H5 s5 l5 => ?_
      have s45 := s4.trans s5
      refine ⟨_, rfl, pc, _, _, _, rfl, rfl, Cm.sameT s45 hpc, at0, _, _, rfl, rfl, Cm.small (by show 3 + (pl nm).1.length ≤ 100000; omega), _, rfl, pc, _, _, _, rfl, rfl, Cm.sameT s45 hpc, at1, Cm.small (by show 2 ≤ 100000; decide), fun p6 np6 => ⟨Cm.small (by show 1 ≤ 100000; decide), fun p7 np7 => ?_⟩⟩
      have r6 := made (K := K) np6 (.cons (.str ("set" ++ (pl nm).1)) (.cons (.int (pl nm).2) .nil))
      have l7 : Lr K _ _ _ := Lr.made (K := K) np7 (.cons r6 .nil)
      have s7 := (Cm.same_new (o := .tup [.str ("set" ++ (pl nm).1), .int (pl nm).2]) np6).trans (Cm.same_new (o := .lst [.ref p6]) np7)
      refine cat_lr (l5.same s7) l7 (by simp only [List.length_append, List.length_cons, List.length_nil, cl, Pt.E.code_len]; omega) fun u8 H8 s8 l8 => ?_
      rw [List.append_assoc] at l8
      exact fin (((t1.trans s45).trans s7).trans s8) l8 rfl
    · replace hre : Rp K H2 x (.tuple [.str "set", .str nm, e.d]) := hre
      obtain ⟨b, vs2, rfl, hb, hvs2⟩ := id hre.tup_inv
      obtain ⟨v0, vs2, rfl, r0, hvs2⟩ := hvs2.cons_inv
      obtain ⟨v1, vs2, rfl, r1, hvs2⟩ := hvs2.cons_inv
      obtain ⟨v2, vs2, rfl, r2, hvs2⟩ := hvs2.cons_inv
      cases hvs2.nil_inv
      cases r0.str_inv
      cases r1.str_inv
      refine ⟨_, rfl, _, rfl, c, cs, rfl, .inl hc, _, _, rfl, rfl, ?_⟩
      refine ⟨_, rfl, b, _, _, _, rfl, rfl, hb, at0, ?_⟩
      refine ⟨_, rfl, Cm.small (by show 2 ≤ 100000; decide), fun p1 np1 => ⟨p1, _, rfl, .inr Cm.sqt_new, rfl, rfl, _, rfl, Cm.itV (fun _ => ?_) (fun e => absurd (show inV (.str "set") [.str "let", .str "set"] = true by decide) (by rw [e]; decide))⟩⟩
      have t1 := s2.trans (Cm.same_new (o := .tup [.str "let", .str "set"]) np1)
      have lu1 := lu.same (Cm.same_new (o := .tup [.str "let", .str "set"]) np1)
      have hb1 := Cm.sameT (Cm.same_new (o := .tup [.str "let", .str "set"]) np1) hb
      have re1 := hre.keep (Same.tups (Cm.same_new (o := .tup [.str "let", .str "set"]) np1))
      have d1 := Cm.same_new (o := .tup [.str "let", .str "set"]) np1
      generalize upd H2 p1 (.tup [.str "let", .str "set"]) = H3 at t1 lu1 hb1 re1 d1 ⊢
      have hdd : e.dep + 1 ≤ es.dep := g3
      have hzz : e.sz + 1 ≤ es.sz := g4
      obtain ⟨kvs, hk, hx2⟩ := id (hpl.same t1)
      obtain ⟨hxl, pu, hu1, ru⟩ := hx2 nm (hu nm (g2 nm List.mem_cons_self))
      have gx : DGet H3 nd (.str nm) (some pu) := by
        rw [← hu1]
        exact DGet.k (k := .inr nm) hk
      obtain ⟨pc, us, rfl, hpc, hus⟩ := ru.tup_inv
      obtain ⟨w0, us, rfl, rw0, hus⟩ := hus.cons_inv
      obtain ⟨w1, us, rfl, rw1, hus⟩ := hus.cons_inv
      cases hus.nil_inv
      cases rw0.str_inv
      cases rw1.int_inv
      refine ⟨_, rfl, _, rfl, b, _, _, _, rfl, rfl, hb1, at1, nd, _, rfl, gx, ?_⟩
      refine ⟨_, rfl, _, rfl, _, rfl, b, _, _, _, rfl, rfl, hb1, rfl, _, rfl, _, rfl, ?_⟩
      refine ⟨v2, nd, at_ + Z, .e e, pl, N, args3 eA, hpl.same t1, r2.keep (Same.tups d1), hw', fun y hy => hu y (g2 y (List.mem_cons_of_mem _ hy)), (by show e.dep < 13; omega), (by show e.sz ≤ 100000; omega), fun H4 u4 s4 l4 => ?_⟩
      replace l4 : Lr K H4 u4 (e.code pl (at_ + Z)) := l4
      refine cat_lr (lu1.same s4) l4 (by rw [cl, Pt.E.code_len]; omega) fun u5 H5 s5 l5 => ?_
      have s45 := s4.trans s5
      refine ⟨_, rfl, pc, _, _, _, rfl, rfl, Cm.sameT s45 hpc, at0, _, _, rfl, rfl, Cm.small (by show 3 + (pl nm).1.length ≤ 100000; omega), _, rfl, pc, _, _, _, rfl, rfl, Cm.sameT s45 hpc, at1, Cm.small (by show 2 ≤ 100000; decide), fun p6 np6 => ⟨Cm.small (by show 1 ≤ 100000; decide), fun p7 np7 => ?_⟩⟩
      have r6 := made (K := K) np6 (.cons (.str ("set" ++ (pl nm).1)) (.cons (.int (pl nm).2) .nil))
      have l7 : Lr K _ _ _ := Lr.made (K := K) np7 (.cons r6 .nil)
      have s7 := (Cm.same_new (o := .tup [.str ("set" ++ (pl nm).1), .int (pl nm).2]) np6).trans (Cm.same_new (o := .lst [.ref p6]) np7)
      refine cat_lr (l5.same s7) l7 (by simp only [List.length_append, List.length_cons, List.length_nil, cl, Pt.E.code_len]; omega) fun u8 H8 s8 l8 => ?_
      rw [List.append_assoc] at l8
      exact fin (((t1.trans s45).trans s7).trans s8) l8 rfl
    · replace hre : Rp K H2 x (.tuple [.str "do", e.d]) := hre
      obtain ⟨b, vs2, rfl, hb, hvs2⟩ := id hre.tup_inv
      obtain ⟨v0, vs2, rfl, r0, hvs2⟩ := hvs2.cons_inv
      obtain ⟨v1, vs2, rfl, r1, hvs2⟩ := hvs2.cons_inv
      cases hvs2.nil_inv
      cases r0.str_inv
      refine ⟨_, rfl, _, rfl, c, cs, rfl, .inl hc, _, _, rfl, rfl, ?_⟩
      refine ⟨_, rfl, b, _, _, _, rfl, rfl, hb, at0, ?_⟩
      refine ⟨_, rfl, Cm.small (by show 2 ≤ 100000; decide), fun p1 np1 => ⟨p1, _, rfl, .inr Cm.sqt_new, rfl, rfl, _, rfl, Cm.itV (fun e => absurd e (show ¬ inV (.str "do") [.str "let", .str "set"] = true by decide)) (fun _ => ?_)⟩⟩
      have t1 := s2.trans (Cm.same_new (o := .tup [.str "let", .str "set"]) np1)
      have lu1 := lu.same (Cm.same_new (o := .tup [.str "let", .str "set"]) np1)
      have hb1 := Cm.sameT (Cm.same_new (o := .tup [.str "let", .str "set"]) np1) hb
      have re1 := hre.keep (Same.tups (Cm.same_new (o := .tup [.str "let", .str "set"]) np1))
      have d1 := Cm.same_new (o := .tup [.str "let", .str "set"]) np1
      generalize upd H2 p1 (.tup [.str "let", .str "set"]) = H3 at t1 lu1 hb1 re1 d1 ⊢
      refine ⟨_, rfl, rfl, _, rfl, Cm.itES (fun _ => ?_) (fun e => absurd rfl e)⟩
      have hdd : e.dep + 1 ≤ es.dep := g3
      have hzz : e.sz + 1 ≤ es.sz := g4
      refine ⟨_, rfl, _, rfl, b, _, _, _, rfl, rfl, hb1, at1, _, rfl, _, rfl, ?_⟩
      refine ⟨v1, nd, at_ + Z, .e e, pl, N, args3 eA, hpl.same t1, r1.keep (Same.tups d1), hw', fun y hy => hu y (g2 y hy), (by show e.dep < 13; omega), (by show e.sz ≤ 100000; omega), fun H4 u4 s4 l4 => ?_⟩
      replace l4 : Lr K H4 u4 (e.code pl (at_ + Z)) := l4
      refine cat_lr (lu1.same s4) l4 (by rw [cl, Pt.E.code_len]; omega) fun u5 H5 s5 l5 => ?_
      refine ⟨Cm.small (by show 1 ≤ 100000; decide), fun p6 np6 => ⟨Cm.small (by show 1 ≤ 100000; decide), fun p7 np7 => ?_⟩⟩
      have r6 := made (K := K) np6 (.cons (.str "drop") .nil)
      have l7 : Lr K _ _ _ := Lr.made (K := K) np7 (.cons r6 .nil)
      have s7 := (Cm.same_new (o := .tup [.str "drop"]) np6).trans (Cm.same_new (o := .lst [.ref p6]) np7)
      refine cat_lr (l5.same s7) l7 (by simp only [List.length_append, List.length_cons, List.length_nil, cl, Pt.E.code_len]; omega) fun u8 H8 s8 l8 => ?_
      rw [List.append_assoc] at l8
      exact fin (((t1.trans (s4.trans s5)).trans s7).trans s8) l8 rfl
    · replace hre : Rp K H2 x (.tuple [.str "if", e.d, .tuple bl.ds, .tuple cl2.ds]) := hre
      obtain ⟨b, vs2, rfl, hb, hvs2⟩ := id hre.tup_inv
      obtain ⟨v0, vs2, rfl, r0, hvs2⟩ := hvs2.cons_inv
      obtain ⟨v1, vs2, rfl, r1, hvs2⟩ := hvs2.cons_inv
      obtain ⟨v2, vs2, rfl, r2, hvs2⟩ := hvs2.cons_inv
      obtain ⟨v3, vs2, rfl, r3, hvs2⟩ := hvs2.cons_inv
      cases hvs2.nil_inv
      cases r0.str_inv
      refine ⟨_, rfl, _, rfl, c, cs, rfl, .inl hc, _, _, rfl, rfl, ?_⟩
      refine ⟨_, rfl, b, _, _, _, rfl, rfl, hb, at0, ?_⟩
      refine ⟨_, rfl, Cm.small (by show 2 ≤ 100000; decide), fun p1 np1 => ⟨p1, _, rfl, .inr Cm.sqt_new, rfl, rfl, _, rfl, Cm.itV (fun e => absurd e (show ¬ inV (.str "if") [.str "let", .str "set"] = true by decide)) (fun _ => ?_)⟩⟩
      have t1 := s2.trans (Cm.same_new (o := .tup [.str "let", .str "set"]) np1)
      have lu1 := lu.same (Cm.same_new (o := .tup [.str "let", .str "set"]) np1)
      have hb1 := Cm.sameT (Cm.same_new (o := .tup [.str "let", .str "set"]) np1) hb
      have re1 := hre.keep (Same.tups (Cm.same_new (o := .tup [.str "let", .str "set"]) np1))
      have d1 := Cm.same_new (o := .tup [.str "let", .str "set"]) np1
      generalize upd H2 p1 (.tup [.str "let", .str "set"]) = H3 at t1 lu1 hb1 re1 d1 ⊢
      refine ⟨_, rfl, rfl, _, rfl, Cm.itES (fun e => absurd e (by decide)) (fun _ => ?_)⟩
      refine ⟨_, rfl, rfl, _, rfl, Cm.itES (fun _ => ?_) (fun e => absurd rfl e)⟩
      have hdd : max e.dep (max bl.dep cl2.dep) + 1 ≤ es.dep := g3
      have hzz : e.sz + 1 + bl.sz + cl2.sz ≤ es.sz := ifsz g4
      obtain ⟨w1, w2⟩ := Bool.and_eq_true_iff.mp (show (e.wf && (bl.wf && cl2.wf)) = true from hw')
      obtain ⟨w2, w3⟩ := Bool.and_eq_true_iff.mp w2
      have hu2 : ∀ x ∈ bl.uses, x ∈ N := fun y hy => hu y (g2 y (List.mem_append_right _ (List.mem_append_left _ hy)))
      have hu3 : ∀ x ∈ cl2.uses, x ∈ N := fun y hy => hu y (g2 y (List.mem_append_right _ (List.mem_append_right _ hy)))
      refine ⟨_, rfl, b, _, _, _, rfl, rfl, hb1, at1, _, rfl, _, rfl, ?_⟩
      refine ⟨v1, nd, at_ + Z, .e e, pl, N, args3 eA, hpl.same t1, r1.keep (Same.tups d1), w1, fun y hy => hu y (g2 y (List.mem_append_left _ hy)), (by show e.dep < 13; omega), (by show e.sz ≤ 100000; omega), fun H4 u4 s4 l4 => ?_⟩
      replace l4 : Lr K H4 u4 (e.code pl (at_ + Z)) := l4
      obtain ⟨c4, cs4, rfl, hc4, hl4⟩ := l4.len
      rw [Pt.E.code_len] at hl4
      refine ⟨_, rfl, b, _, _, _, rfl, rfl, Cm.sameT s4 hb1, at2, _, rfl, _, rfl, _, rfl, c4, cs4, rfl, .inl hc4, _, _, rfl, rfl, _, _, rfl, rfl, ?_⟩
      refine ⟨v2, nd, at_ + Z + e.sz + 1, bl, pl, N, args3 (by omega), hpl.same (t1.trans s4), r2.keep (Same.tups (d1.trans s4)), w2, hu2, by omega, by omega, fun H5 u5 s5 l5 => ?_⟩
      obtain ⟨c5, cs5, rfl, hc5, hl5⟩ := l5.len
      rw [Ss.code_len] at hl5
      have s45 := s4.trans s5
      have eD : ((at_ : Int) + (cs.length : Nat) + (cs4.length : Nat) + 1 + (cs5.length : Nat)) = ((at_ + Z + e.sz + 1 + bl.sz : Nat) : Int) := by omega
      have l4' := l4.same s5
      refine ⟨_, rfl, _, rfl, c4, cs4, rfl, .inl (s5.seq hc4), _, _, rfl, rfl, _, _, rfl, rfl, _, rfl, c5, cs5, rfl, .inl hc5, _, _, rfl, rfl, ?_⟩
      have r3' := r3.keep (Same.tups (d1.trans s45))
      obtain ⟨c3, cs3, rfl, hc3, hcl3⟩ := len_rp r3'
      refine ⟨_, rfl, b, _, _, _, rfl, rfl, Cm.sameT s45 hb1, at3, c3, cs3, rfl, .inr hc3, ?_⟩
      cases cl2 with
      | nil =>
        have e3 : (cs3.length : Int) = 0 := by rw [hcl3]; rfl
        refine ⟨rfl, _, rfl, Cm.itEI (fun _ => ?_) (fun n => absurd e3 n)⟩
        refine ⟨_, rfl, _, rfl, cat_lr (lu1.same s45) l4' (by simp only [List.length_append, List.length_cons, List.length_nil, cl, Pt.E.code_len, Ss.code_len]; omega) fun u6 H6 s6 l6 => ?_⟩
        refine ⟨_, rfl, Cm.small (by show 2 ≤ 100000; decide), fun p7 np7 => ⟨Cm.small (by show 1 ≤ 100000; decide), fun p8 np8 => ?_⟩⟩
        have r7 := made (K := K) np7 (.cons (.str "unless") (.cons (intE eD) .nil))
        have l8 : Lr K _ _ _ := Lr.made (K := K) np8 (.cons r7 .nil)
        have s8 := (Cm.same_new (o := .tup [.str "unless", .int ((at_ : Int) + (cs.length : Nat) + (cs4.length : Nat) + 1 + (cs5.length : Nat))]) np7).trans (Cm.same_new (o := .lst [.ref p7]) np8)
        refine cat_lr (l6.same s8) l8 (by simp only [List.length_append, List.length_cons, List.length_nil, cl, Pt.E.code_len, Ss.code_len]; omega) fun u9 H9 s9 l9 => ?_
        refine ⟨_, rfl, cat_lr l9 (l5.same ((s6.trans s8).trans s9)) (by simp only [List.length_append, List.length_cons, List.length_nil, cl, Pt.E.code_len, Ss.code_len]; omega) fun u10 H10 s10 l10 => ?_⟩
        rw [List.append_assoc, List.append_assoc] at l10
        refine fin (((((t1.trans s45).trans s6).trans s8).trans s9).trans s10) l10 ?_
        show _ = e.code pl (at_ + Z) ++ [I2 "unless" ((at_ + Z + e.sz + 1 + bl.sz : Nat) : Int)] ++ bl.code pl (at_ + Z + e.sz + 1)
        simp only [List.append_assoc]
        rfl
      | cons st2 ss2 =>
        have e3 : ¬ (cs3.length : Int) = 0 := by
          rw [hcl3]
          show ¬ ((ss2.ds.length + 1 : Nat) : Int) = 0
          omega
        have hz' : e.sz + 1 + bl.sz + 1 + (Ss.cons st2 ss2).sz ≤ es.sz := g4
        refine ⟨rfl, _, rfl, Cm.itEI (fun n => absurd n e3) (fun _ => ?_)⟩
        refine ⟨_, rfl, b, _, _, _, rfl, rfl, Cm.sameT s45 hb1, at3, _, rfl, _, rfl, _, _, rfl, rfl, ?_⟩
        refine ⟨.ref c3, nd, at_ + Z + e.sz + 1 + bl.sz + 1, .cons st2 ss2, pl, N, args3 (by omega), hpl.same (t1.trans s45), r3', w3, hu3, by omega, by omega, fun H6 u6 s6 l6 => ?_⟩
        obtain ⟨c6, cs6, rfl, hc6, hl6⟩ := l6.len
        rw [Ss.code_len] at hl6
        have eE : ((at_ : Int) + (cs.length : Nat) + (cs4.length : Nat) + 1 + (cs5.length : Nat) + 1) = ((at_ + Z + e.sz + 1 + bl.sz + 1 : Nat) : Int) := by omega
        have eF : ((at_ : Int) + (cs.length : Nat) + (cs4.length : Nat) + 1 + (cs5.length : Nat) + 1 + (cs6.length : Nat)) = ((at_ + Z + e.sz + 1 + bl.sz + 1 + (st2.sz + ss2.sz) : Nat) : Int) := by
          rw [hl6]
          show _ + ((st2.sz + ss2.sz : Nat) : Int) = _
          omega
        refine ⟨_, rfl, _, rfl, cat_lr (lu1.same (s45.trans s6)) (l4'.same s6) (by simp only [List.length_append, List.length_cons, List.length_nil, cl, Pt.E.code_len, Ss.code_len]; omega) fun u7 H7 s7 l7 => ?_⟩
        refine ⟨_, rfl, _, _, rfl, rfl, Cm.small (by show 2 ≤ 100000; decide), fun p8 np8 => ⟨Cm.small (by show 1 ≤ 100000; decide), fun p9 np9 => ?_⟩⟩
        have r8 := made (K := K) np8 (.cons (.str "unless") (.cons (intE eE) .nil))
        have l9 : Lr K _ _ _ := Lr.made (K := K) np9 (.cons r8 .nil)
        have s9 := (Cm.same_new (o := .tup [.str "unless", .int ((at_ : Int) + (cs.length : Nat) + (cs4.length : Nat) + 1 + (cs5.length : Nat) + 1)]) np8).trans (Cm.same_new (o := .lst [.ref p8]) np9)
        refine cat_lr (l7.same s9) l9 (by simp only [List.length_append, List.length_cons, List.length_nil, cl, Pt.E.code_len, Ss.code_len]; omega) fun u10 H10 s10 l10 => ?_
        have s710 := (s7.trans s9).trans s10
        refine ⟨_, rfl, cat_lr l10 (l5.same (s6.trans s710)) (by simp only [List.length_append, List.length_cons, List.length_nil, cl, Pt.E.code_len, Ss.code_len]; omega) fun u11 H11 s11 l11 => ?_⟩
        have s711 := s710.trans s11
        refine ⟨_, rfl, _, _, rfl, rfl, _, rfl, c6, cs6, rfl, .inl (s711.seq hc6), _, _, rfl, rfl, Cm.small (by show 2 ≤ 100000; decide), fun p12 np12 => ⟨Cm.small (by show 1 ≤ 100000; decide), fun p13 np13 => ?_⟩⟩
        have r12 := made (K := K) np12 (.cons (.str "jump") (.cons (intE eF) .nil))
        have l13 : Lr K _ _ _ := Lr.made (K := K) np13 (.cons r12 .nil)
        have s13 := (Cm.same_new (o := .tup [.str "jump", .int ((at_ : Int) + (cs.length : Nat) + (cs4.length : Nat) + 1 + (cs5.length : Nat) + 1 + (cs6.length : Nat))]) np12).trans (Cm.same_new (o := .lst [.ref p12]) np13)
        refine cat_lr (l11.same s13) l13 (by simp only [List.length_append, List.length_cons, List.length_nil, cl, Pt.E.code_len, Ss.code_len]; omega) fun u14 H14 s14 l14 => ?_
        have s714 := (s711.trans s13).trans s14
        refine ⟨_, rfl, cat_lr l14 (l6.same s714) (by simp only [List.length_append, List.length_cons, List.length_nil, cl, Pt.E.code_len, Ss.code_len]; omega) fun u15 H15 s15 l15 => ?_⟩
        rw [List.append_assoc, List.append_assoc, List.append_assoc, List.append_assoc] at l15
        refine fin ((((t1.trans s45).trans s6).trans s714).trans s15) l15 ?_
        show _ = e.code pl (at_ + Z) ++ [I2 "unless" ((at_ + Z + e.sz + 1 + bl.sz + 1 : Nat) : Int)] ++ bl.code pl (at_ + Z + e.sz + 1) ++ [I2 "jump" ((at_ + Z + e.sz + 1 + bl.sz + 1 + (st2.sz + ss2.sz) : Nat) : Int)] ++ (Ss.cons st2 ss2).code pl (at_ + Z + e.sz + 1 + bl.sz + 1)
        simp only [List.append_assoc]
        rfl
    · replace hre : Rp K H2 x (.tuple [.str "while", e.d, .tuple bl.ds]) := hre
      obtain ⟨b, vs2, rfl, hb, hvs2⟩ := id hre.tup_inv
      obtain ⟨v0, vs2, rfl, r0, hvs2⟩ := hvs2.cons_inv
      obtain ⟨v1, vs2, rfl, r1, hvs2⟩ := hvs2.cons_inv
      obtain ⟨v2, vs2, rfl, r2, hvs2⟩ := hvs2.cons_inv
      cases hvs2.nil_inv
      cases r0.str_inv
      refine ⟨_, rfl, _, rfl, c, cs, rfl, .inl hc, _, _, rfl, rfl, ?_⟩
      refine ⟨_, rfl, b, _, _, _, rfl, rfl, hb, at0, ?_⟩
      refine ⟨_, rfl, Cm.small (by show 2 ≤ 100000; decide), fun p1 np1 => ⟨p1, _, rfl, .inr Cm.sqt_new, rfl, rfl, _, rfl, Cm.itV (fun e => absurd e (show ¬ inV (.str "while") [.str "let", .str "set"] = true by decide)) (fun _ => ?_)⟩⟩
      have t1 := s2.trans (Cm.same_new (o := .tup [.str "let", .str "set"]) np1)
      have lu1 := lu.same (Cm.same_new (o := .tup [.str "let", .str "set"]) np1)
      have hb1 := Cm.sameT (Cm.same_new (o := .tup [.str "let", .str "set"]) np1) hb
      have re1 := hre.keep (Same.tups (Cm.same_new (o := .tup [.str "let", .str "set"]) np1))
      have d1 := Cm.same_new (o := .tup [.str "let", .str "set"]) np1
      generalize upd H2 p1 (.tup [.str "let", .str "set"]) = H3 at t1 lu1 hb1 re1 d1 ⊢
      refine ⟨_, rfl, rfl, _, rfl, Cm.itES (fun e => absurd e (by decide)) (fun _ => ?_)⟩
      refine ⟨_, rfl, rfl, _, rfl, Cm.itES (fun e => absurd e (by decide)) (fun _ => ?_)⟩
      refine ⟨_, rfl, rfl, _, rfl, Cm.itES (fun _ => ?_) (fun e => absurd rfl e)⟩
      have hdd : max e.dep bl.dep + 1 ≤ es.dep := g3
      have hzz : e.sz + bl.sz + 2 ≤ es.sz := g4
      obtain ⟨w1, w2⟩ := Bool.and_eq_true_iff.mp (show (e.wf && bl.wf) = true from hw')
      refine ⟨_, rfl, b, _, _, _, rfl, rfl, hb1, at1, _, rfl, _, rfl, ?_⟩
      refine ⟨v1, nd, at_ + Z, .e e, pl, N, args3 eA, hpl.same t1, r1.keep (Same.tups d1), w1, fun y hy => hu y (g2 y (List.mem_append_left _ hy)), (by show e.dep < 13; omega), (by show e.sz ≤ 100000; omega), fun H4 u4 s4 l4 => ?_⟩
      replace l4 : Lr K H4 u4 (e.code pl (at_ + Z)) := l4
      obtain ⟨c4, cs4, rfl, hc4, hl4⟩ := l4.len
      rw [Pt.E.code_len] at hl4
      refine ⟨_, rfl, b, _, _, _, rfl, rfl, Cm.sameT s4 hb1, at2, _, rfl, _, rfl, _, rfl, c4, cs4, rfl, .inl hc4, _, _, rfl, rfl, _, _, rfl, rfl, ?_⟩
      refine ⟨v2, nd, at_ + Z + e.sz + 1, bl, pl, N, args3 (by omega), hpl.same (t1.trans s4), r2.keep (Same.tups (d1.trans s4)), w2, fun y hy => hu y (g2 y (List.mem_append_right _ hy)), by omega, by omega, fun H5 u5 s5 l5 => ?_⟩
      obtain ⟨c5, cs5, rfl, hc5, hl5⟩ := l5.len
      rw [Ss.code_len] at hl5
      have s45 := s4.trans s5
      have eD : ((at_ : Int) + (cs.length : Nat) + (cs4.length : Nat) + 2 + (cs5.length : Nat)) = ((at_ + Z + e.sz + 1 + bl.sz + 1 : Nat) : Int) := by omega
      have l4' := l4.same s5
      refine ⟨_, rfl, _, rfl, cat_lr (lu1.same s45) l4' (by simp only [List.length_append, List.length_cons, List.length_nil, cl, Pt.E.code_len, Ss.code_len]; omega) fun u6 H6 s6 l6 => ?_⟩
      refine ⟨_, rfl, _, rfl, c4, cs4, rfl, .inl ((s5.trans s6).seq hc4), _, _, rfl, rfl, _, _, rfl, rfl, _, rfl, c5, cs5, rfl, .inl (s6.seq hc5), _, _, rfl, rfl, Cm.small (by show 2 ≤ 100000; decide), fun p7 np7 => ⟨Cm.small (by show 1 ≤ 100000; decide), fun p8 np8 => ?_⟩⟩
      have r7 := made (K := K) np7 (.cons (.str "unless") (.cons (intE eD) .nil))
      have l8 : Lr K _ _ _ := Lr.made (K := K) np8 (.cons r7 .nil)
      have s8 := (Cm.same_new (o := .tup [.str "unless", .int ((at_ : Int) + (cs.length : Nat) + (cs4.length : Nat) + 2 + (cs5.length : Nat))]) np7).trans (Cm.same_new (o := .lst [.ref p7]) np8)
      refine cat_lr (l6.same s8) l8 (by simp only [List.length_append, List.length_cons, List.length_nil, cl, Pt.E.code_len, Ss.code_len]; omega) fun u9 H9 s9 l9 => ?_
      refine ⟨_, rfl, cat_lr l9 (l5.same ((s6.trans s8).trans s9)) (by simp only [List.length_append, List.length_cons, List.length_nil, cl, Pt.E.code_len, Ss.code_len]; omega) fun u10 H10 s10 l10 => ?_⟩
      refine ⟨_, rfl, Cm.small (by show 2 ≤ 100000; decide), fun p11 np11 => ⟨Cm.small (by show 1 ≤ 100000; decide), fun p12 np12 => ?_⟩⟩
      have r11 := made (K := K) np11 (.cons (.str "jump") (.cons (intE eA) .nil))
      have l12 : Lr K _ _ _ := Lr.made (K := K) np12 (.cons r11 .nil)
      have s12 := (Cm.same_new (o := .tup [.str "jump", .int ((at_ : Int) + (cs.length : Nat))]) np11).trans (Cm.same_new (o := .lst [.ref p11]) np12)
      refine cat_lr (l10.same s12) l12 (by simp only [List.length_append, List.length_cons, List.length_nil, cl, Pt.E.code_len, Ss.code_len]; omega) fun u13 H13 s13 l13 => ?_
      rw [List.append_assoc, List.append_assoc, List.append_assoc] at l13
      refine fin (((((t1.trans s45).trans s6).trans s8).trans s9).trans ((s10.trans s12).trans s13)) l13 ?_
      show _ = e.code pl (at_ + Z) ++ [I2 "unless" ((at_ + Z + e.sz + 1 + bl.sz + 1 : Nat) : Int)] ++ bl.code pl (at_ + Z + e.sz + 1) ++ [I2 "jump" ((at_ + Z : Nat) : Int)]
      simp only [List.append_assoc]
      rfl
    · have hre2 : Rp K H2 x (.tuple (.str wd :: ds)) := ed2 ▸ (ed ▸ hre)
      have nw : inV (.str wd) [.str "let", .str "set"] = false ∧ ¬ wd = Str.ofString "do" ∧ ¬ wd = Str.ofString "if" ∧ ¬ wd = Str.ofString "while" := by
        rcases hwd with h | h
        · rw [h]
          decide
        · exact (by decide +kernel : ∀ w ∈ plainB, inV (.str w) [.str "let", .str "set"] = false ∧ ¬ w = Str.ofString "do" ∧ ¬ w = Str.ofString "if" ∧ ¬ w = Str.ofString "while") wd h
      obtain ⟨n0, n1, n2, n3⟩ := nw
      obtain ⟨b, vs2, rfl, hb, hvs2⟩ := id hre2.tup_inv
      obtain ⟨v0, vs2, rfl, r0, hvs2⟩ := hvs2.cons_inv
      cases r0.str_inv
      refine ⟨_, rfl, _, rfl, c, cs, rfl, .inl hc, _, _, rfl, rfl, ?_⟩
      refine ⟨_, rfl, b, _, _, _, rfl, rfl, hb, at0, ?_⟩
      refine ⟨_, rfl, Cm.small (by show 2 ≤ 100000; decide), fun p1 np1 => ⟨p1, _, rfl, .inr Cm.sqt_new, rfl, rfl, _, rfl, Cm.itV (fun e => absurd e (show ¬ inV (.str wd) [.str "let", .str "set"] = true by rw [n0]; decide)) (fun _ => ?_)⟩⟩
      have t1 := s2.trans (Cm.same_new (o := .tup [.str "let", .str "set"]) np1)
      have lu1 := lu.same (Cm.same_new (o := .tup [.str "let", .str "set"]) np1)
      have hb1 := Cm.sameT (Cm.same_new (o := .tup [.str "let", .str "set"]) np1) hb
      have re1 := hre.keep (Same.tups (Cm.same_new (o := .tup [.str "let", .str "set"]) np1))
      have d1 := Cm.same_new (o := .tup [.str "let", .str "set"]) np1
      generalize upd H2 p1 (.tup [.str "let", .str "set"]) = H3 at t1 lu1 hb1 re1 d1 ⊢
      refine ⟨_, rfl, rfl, _, rfl, Cm.itES (fun e => absurd e n1) (fun _ => ?_)⟩
      refine ⟨_, rfl, rfl, _, rfl, Cm.itES (fun e => absurd e n2) (fun _ => ?_)⟩
      refine ⟨_, rfl, rfl, _, rfl, Cm.itES (fun e => absurd e n3) (fun _ => ?_)⟩
      refine ⟨_, rfl, _, rfl, _, rfl, _, rfl, ?_⟩
      refine ⟨_, nd, at_ + Z, e, pl, N, args3 eA, hpl.same t1, (ed ▸ re1), ew, fun y hy => hu y (g2 y (eu ▸ hy)), (by omega), (by omega), fun H4 u4 s4 l4 => ?_⟩
      rw [← ec] at l4
      refine cat_lr (lu1.same s4) l4 (by rw [cl, S.code_len]; omega) fun u5 H5 s5 l5 => ?_
      exact fin ((t1.trans s4).trans s5) l5 rfl
  · subst e
    rw [hlen, Ss.take_all] at lu
    exact ⟨_, rfl, q _ _ s2 lu⟩
theorem ok_lblock (T : Txt K mg w a) : ∀ d : Nat, d ≤ 13 → FnOk P w K mg base CX0 (d + 15) (He.ga K "_law_block_code") a.d_lw_block_code ["block", "places", "base"] (spLb K d)
  | 0, _ => vac fun vs H Q E h => by
    obtain ⟨_, _, _, e, _, _, _, _, _, _, _, hd, _⟩ := h
    exact absurd hd (Nat.not_lt_zero e.dep)
  | d + 1, hd => step_lblock T d (by omega) (ok_lcode T 13) (ok_lblock T d (by omega))
theorem S.letw (st : S) (hw : st.wf = true) : (∃ x k e, st = .letS x k e) ∨ (∃ e b c, st = .ifS e b c) ∨ (∃ e b, st = .whileS e b) ∨
    (∃ (wd : Str) (ds : List PyData), st.d = .tuple (.str wd :: ds) ∧ (¬ wd = "let" ∧ ¬ wd = "if" ∧ ¬ wd = "while") ∧ st.lets = []) := by
  cases st with
  | letS x k e => exact .inl ⟨x, k, e, rfl⟩
  | ifS e b c => exact .inr (.inl ⟨e, b, c, rfl⟩)
  | whileS e b => exact .inr (.inr (.inl ⟨e, b, rfl⟩))
  | setS x e => exact .inr (.inr (.inr ⟨_, _, rfl, by decide, rfl⟩))
  | doS e => exact .inr (.inr (.inr ⟨_, _, rfl, by decide, rfl⟩))
  | fork r f as => exact .inr (.inr (.inr ⟨_, _, rfl, by decide, rfl⟩))
  | plain w as => exact .inr (.inr (.inr ⟨w, _, rfl, (by decide +kernel : ∀ w ∈ plainB, ¬ w = "let" ∧ ¬ w = "if" ∧ ¬ w = "while") w (of_decide_eq_true (Bool.and_eq_true_iff.mp (Bool.and_eq_true_iff.mp hw).1).1), rfl⟩))
theorem step_llets (T : Txt K mg w a) (d : Nat) (gl : FnOk P w K mg base CX0 (d + 1) (He.ga K "_law_lets") a.d_lw_lets ["block"] (spLn K d)) :
    FnOk P w K mg base CX0 (d + 2) (He.ga K "_law_lets") a.d_lw_lets ["block"] (spLn K (d + 1)) := by
  refine T.F_lw_lets.ok sc_lw_lets (fun vs H Q E h => ?_) (fun cdv A outer s H vs Q E hr h => ?_)
  · obtain ⟨_, _, rfl, _⟩ := h
    rfl
  obtain ⟨v, es, rfl, hv, hw, hd, hsz, q⟩ := h
  refine ⟨_, PSs.nox (pss_cons (ps_set (i := 1) sc_lw_lets.nd rfl (Or.inl rfl) (pe_lst pa_nil))
      (pss_cons (ps_for PassesOwn.never rfl (pi_tup (pv 0)) (pg_name (i := 2) sc_lw_lets.nd rfl (Or.inl rfl))
      (pss_one (ps_if (pt_cmpR op_eq (pe_ix ix_tup (pv 2) pe_int (fun _ _ => rfl)) pe_str (nomark _)) (pss_one (ps_expr (pe_bm PySem.F.plainAttrs_list PySem.F.slot_list_append PySem.F.type_list_append mt_append (pv 1) (pa_cons (pe_ix ix_tup (pv 2) pe_int (fun _ _ => rfl)) pa_nil)))) (pss_one (ps_if (pt_cmpR op_eq (pe_ix ix_tup (pv 2) pe_int (fun _ _ => rfl)) pe_str (nomark _)) (pss_one (ps_set (i := 1) sc_lw_lets.nd rfl (Or.inl rfl) (pe_op op_cat (pe_op op_cat (pv 1) (pe_call gl (hr.mono (by omega)) (by rfl) T.g_lw_lets T.F_lw_lets.kp T.b_lw_lets .nil pass0 (pa_cons (pe_ix ix_tup (pv 2) pe_int (fun _ _ => rfl)) pa_nil))) (pe_call gl (hr.mono (by omega)) (by rfl) T.g_lw_lets T.F_lw_lets.kp T.b_lw_lets .nil pass0 (pa_cons (pe_ix ix_tup (pv 2) pe_int (fun _ _ => rfl)) pa_nil))))) (pss_one (ps_if (pt_cmpR op_eq (pe_ix ix_tup (pv 2) pe_int (fun _ _ => rfl)) pe_str (nomark _)) (pss_one (ps_set (i := 1) sc_lw_lets.nd rfl (Or.inl rfl) (pe_op op_cat (pv 1) (pe_call gl (hr.mono (by omega)) (by rfl) T.g_lw_lets T.F_lw_lets.kp T.b_lw_lets .nil pass0 (pa_cons (pe_ix ix_tup (pv 2) pe_int (fun _ _ => rfl)) pa_nil))))) pss_nil)))))))
      (pss_one (ps_ret (pv 1))))), ?_⟩
  refine ⟨Nat.zero_le _, fun f nf => ?_⟩
  have s0 := Cm.same_new (o := .lst []) nf
  obtain ⟨b, vs, rfl, hb, hvs⟩ := hv.tup_inv
  have hlen : vs.length = es.list.length := by rw [hvs.len, Ss.list_ds, List.length_map]
  refine ⟨_, rfl, b, rfl, ⟨vs, Cm.sameT s0 hb⟩, for_tup (K := K) (a := b) (xs := vs) (fun i σ H2 => ∃ (f : Addr) (x3 : Option V), σ = [some (.ref b), some (.ref f), x3] ∧ Same H H2 ∧ H f = none ∧ H2 f = some (.lst ((es.take i).lets.map V.str)))
    ⟨f, none, rfl, s0, nf, (by rw [upd_same]; cases es <;> rfl)⟩ (fun i σ H2 _ ⟨_, _, _, s2, _⟩ => Cm.sameT s2 hb) (fun i x σ H2 hx ⟨f, x3, e, s2, nf, hf⟩ => ?_) fun σ H2 ⟨f, x3, e, s2, nf, hf⟩ => ?_⟩
  · subst e
    obtain ⟨st, he, re⟩ := hvs.at_S hx
    obtain ⟨h1, h2, h3, h4⟩ := Ss.part (List.mem_of_getElem? he)
    have hz := Ss.take_sz es i
    have hlz := Ss.lets_sz (es.take i)
    have hzs := S.lets_sz st
    have tl := take_lets he
    have hre := re.keep (Same.tups s2)
    rcases S.letw st (h1 hw) with ⟨nm, kd, e, rfl⟩ | ⟨e, bl, cl, rfl⟩ | ⟨e, bl, rfl⟩ | ⟨wd, ds, ed, ⟨n1, n2, n3⟩, nl⟩
    · obtain ⟨c, us, rfl, hc, hus⟩ := (show Rp K H2 x (.tuple [.str "let", .str nm, .str kd, e.d]) from hre).tup_inv
      obtain ⟨v0, us, rfl, r0, hus⟩ := hus.cons_inv
      obtain ⟨v1, us, rfl, r1, hus⟩ := hus.cons_inv
      cases r0.str_inv
      cases r1.str_inv
      refine ⟨_, rfl, c, _, _, _, rfl, rfl, hc, at0, rfl, _, rfl, Cm.itES (fun _ => ?_) (fun e => absurd rfl e)⟩
      refine ⟨_, rfl, .inl ⟨rfl, _, SqL.of hf⟩, _, rfl, c, _, _, _, rfl, rfl, hc, at1, f, _, _, rfl, rfl, hf, Cm.smallL (by rw [List.length_map]; omega), ?_⟩
      refine ⟨f, _, rfl, Cm.same_mut s2 nf, nf, ?_⟩
      rw [upd_same, tl, List.map_append]
      rfl
    · obtain ⟨c, us, rfl, hc, hus⟩ := (show Rp K H2 x (.tuple [.str "if", e.d, .tuple bl.ds, .tuple cl.ds]) from hre).tup_inv
      obtain ⟨v0, us, rfl, r0, hus⟩ := hus.cons_inv
      obtain ⟨v1, us, rfl, r1, hus⟩ := hus.cons_inv
      obtain ⟨v2, us, rfl, r2, hus⟩ := hus.cons_inv
      obtain ⟨v3, us, rfl, r3, hus⟩ := hus.cons_inv
      cases hus.nil_inv
      cases r0.str_inv
      have hdd : max e.dep (max bl.dep cl.dep) + 1 ≤ es.dep := h3
      have hzz : e.sz + 1 + bl.sz + cl.sz ≤ es.sz := ifsz h4
      obtain ⟨w1, w2⟩ := Bool.and_eq_true_iff.mp (show (e.wf && (bl.wf && cl.wf)) = true from h1 hw)
      obtain ⟨w2, w3⟩ := Bool.and_eq_true_iff.mp w2
      have z1 := Ss.lets_sz bl
      have z2 := Ss.lets_sz cl
      refine ⟨_, rfl, c, _, _, _, rfl, rfl, hc, at0, rfl, _, rfl, Cm.itES (fun e => absurd e (by decide)) (fun _ => ?_)⟩
      refine ⟨_, rfl, c, _, _, _, rfl, rfl, hc, at0, rfl, _, rfl, Cm.itES (fun _ => ?_) (fun e => absurd rfl e)⟩
      refine ⟨_, rfl, _, rfl, c, _, _, _, rfl, rfl, hc, at2, v2, bl, rfl, r2, w2, by omega, by omega, fun H4 p4 s4 n4 h4' => ?_⟩
      refine ⟨f, p4, _, _, rfl, rfl, s4 _ _ hf, h4', (by rw [sizeLine_eq]; simp only [List.length_map, List.length_append]; omega), fun p5 np5 => ?_⟩
      have s5 := Cm.same_new (o := .lst ((es.take i).lets.map V.str ++ bl.lets.map V.str)) np5
      have s45 := s4.trans s5
      refine ⟨_, rfl, c, _, _, _, rfl, rfl, Cm.sameT s45 hc, at3, v3, cl, rfl, r3.keep (Same.tups s45), w3, by omega, by omega, fun H6 p6 s6 n6 h6 => ?_⟩
      refine ⟨p5, p6, _, _, rfl, rfl, s6 _ _ upd_same, h6, (by rw [sizeLine_eq]; simp only [List.length_map, List.length_append]; omega), fun p7 np7 => ?_⟩
      refine ⟨p7, _, rfl, s2.trans (s45.trans (s6.trans (Cm.same_new np7))), ?_, ?_⟩
      · cases hq : H p7 with
        | none => rfl
        | some o =>
          have := (s2.trans (s45.trans s6)) _ _ hq
          rw [np7] at this
          cases this
      · rw [upd_same, tl, show (S.ifS e bl cl).lets = bl.lets ++ cl.lets from rfl, List.map_append, List.map_append, List.append_assoc]
    · obtain ⟨c, us, rfl, hc, hus⟩ := (show Rp K H2 x (.tuple [.str "while", e.d, .tuple bl.ds]) from hre).tup_inv
      obtain ⟨v0, us, rfl, r0, hus⟩ := hus.cons_inv
      obtain ⟨v1, us, rfl, r1, hus⟩ := hus.cons_inv
      obtain ⟨v2, us, rfl, r2, hus⟩ := hus.cons_inv
      cases hus.nil_inv
      cases r0.str_inv
      have hdd : max e.dep bl.dep + 1 ≤ es.dep := h3
      have hzz : e.sz + bl.sz + 2 ≤ es.sz := h4
      obtain ⟨w1, w2⟩ := Bool.and_eq_true_iff.mp (show (e.wf && bl.wf) = true from h1 hw)
      have z1 := Ss.lets_sz bl
      refine ⟨_, rfl, c, _, _, _, rfl, rfl, hc, at0, rfl, _, rfl, Cm.itES (fun e => absurd e (by decide)) (fun _ => ?_)⟩
      refine ⟨_, rfl, c, _, _, _, rfl, rfl, hc, at0, rfl, _, rfl, Cm.itES (fun e => absurd e (by decide)) (fun _ => ?_)⟩
      refine ⟨_, rfl, c, _, _, _, rfl, rfl, hc, at0, rfl, _, rfl, Cm.itES (fun _ => ?_) (fun e => absurd rfl e)⟩
      refine ⟨_, rfl, _, rfl, c, _, _, _, rfl, rfl, hc, at2, v2, bl, rfl, r2, w2, by omega, by omega, fun H4 p4 s4 n4 h4' => ?_⟩
      refine ⟨f, p4, _, _, rfl, rfl, s4 _ _ hf, h4', (by rw [sizeLine_eq]; simp only [List.length_map, List.length_append]; omega), fun p5 np5 => ?_⟩
      refine ⟨p5, _, rfl, s2.trans (s4.trans (Cm.same_new np5)), ?_, ?_⟩
      · cases hq : H p5 with
        | none => rfl
        | some o =>
          have := (s2.trans s4) _ _ hq
          rw [np5] at this
          cases this
      · rw [upd_same, tl, show (S.whileS e bl).lets = bl.lets from rfl, List.map_append]
    · obtain ⟨c, us, rfl, hc, hus⟩ := (show Rp K H2 x (.tuple (.str wd :: ds)) from ed ▸ hre).tup_inv
      obtain ⟨v0, us, rfl, r0, hus⟩ := hus.cons_inv
      cases r0.str_inv
      refine ⟨_, rfl, c, _, _, _, rfl, rfl, hc, at0, rfl, _, rfl, Cm.itES (fun e => absurd e n1) (fun _ => ?_)⟩
      refine ⟨_, rfl, c, _, _, _, rfl, rfl, hc, at0, rfl, _, rfl, Cm.itES (fun e => absurd e n2) (fun _ => ?_)⟩
      refine ⟨_, rfl, c, _, _, _, rfl, rfl, hc, at0, rfl, _, rfl, Cm.itES (fun e => absurd e n3) (fun _ => ?_)⟩
      refine ⟨f, _, rfl, s2, nf, ?_⟩
      rw [tl, nl, List.append_nil]
      exact hf
  · subst e
    rw [hlen, Ss.take_all] at hf
    exact ⟨_, rfl, q _ _ s2 nf hf⟩
theorem ok_llets (T : Txt K mg w a) : ∀ d : Nat, FnOk P w K mg base CX0 (d + 1) (He.ga K "_law_lets") a.d_lw_lets ["block"] (spLn K d)
  | 0 => vac fun vs H Q E h => by
    obtain ⟨_, e, _, _, _, hd, _⟩ := h
    exact absurd hd (Nat.not_lt_zero e.dep)
  | d + 1 => step_llets T d (ok_llets T d)
/-! ### the code is data that may be compared; the names are texts -/
theorem layAll_app : ∀ {xs ys : List PyData}, PyData.canLayAll0 xs = true → PyData.canLayAll0 ys = true → PyData.canLayAll0 (xs ++ ys) = true
  | [], _, _, h => h
  | x :: xs, ys, h1, h2 => by
    simp only [List.cons_append, PyData.canLayAll0, Bool.and_eq_true] at h1 ⊢
    exact ⟨h1.1, layAll_app h1.2 h2⟩
theorem lay_t {ds : List PyData} (h : (PyData.tuple ds).canLay0 = true) : PyData.canLayAll0 ds = true := by simpa [PyData.canLay0] using h
theorem lay_c {x : PyData} {xs : List PyData} (h : PyData.canLayAll0 (x :: xs) = true) : x.canLay0 = true ∧ PyData.canLayAll0 xs = true := by simpa [PyData.canLayAll0] using h
theorem lay_s {x : Str} (h : (PyData.str x).canLay0 = true) : PyData.strOk x = true := by simpa [PyData.canLay0] using h
theorem lay_i2 {x : Str} {n : Int} (h : PyData.strOk x = true) : PyData.canLayAll0 [I2 x n] = true := layAll_cons (lay2 (tx h) layI) rfl
theorem lay_i1 {x : Str} (h : PyData.strOk x = true) : PyData.canLayAll0 [I1 x] = true := layAll_cons (lay1 (tx h)) rfl
theorem lay_i3 {x y : Str} {n : Int} (h : PyData.strOk x = true) (h2 : PyData.strOk y = true) : PyData.canLayAll0 [I3 x y n] = true := layAll_cons (lay3 (tx h) (tx h2) layI) rfl
theorem lay_tn (o : Bool) : PyData.canLayAll0 (tn o) = true := by cases o <;> decide +kernel
theorem lay_ends (o : Bool) (d : Nat) : PyData.canLayAll0 (ends o d) = true := layAll_cons (lay2 (tx (by decide +kernel)) layI) (layAll_cons (lay2 (tx (by decide +kernel)) layI) (layAll_cons (lay2 (tx (by decide +kernel)) layI) rfl))
def PlOk (pl : Plc) : Prop := ∀ x, (pl x).1 = "local" ∨ (pl x).1 = "field"
theorem PlOk.so {pl : Plc} (h : PlOk pl) (x : Str) : PyData.strOk (pl x).1 = true := by
  rcases h x with e | e <;> rw [e] <;> decide +kernel
theorem PlOk.so2 {pl : Plc} (h : PlOk pl) (x : Str) : PyData.strOk ("set" ++ (pl x).1) = true := by
  rcases h x with e | e <;> rw [e] <;> decide +kernel
mutual
theorem layE {pl : Plc} (hp : PlOk pl) : ∀ (e : E) (i : Nat), e.d.canLay0 = true → PyData.canLayAll0 (e.code pl i) = true
  | .int n, i, h => lay_i2 (by decide +kernel)
  | .name x, i, h => lay_i2 (hp.so x)
  | .choice o l r, i, h => by
    obtain ⟨h0, h⟩ := lay_c (lay_t h)
    obtain ⟨h1, h⟩ := lay_c h
    obtain ⟨h2, h⟩ := lay_c h
    exact layAll_app (layAll_app (layAll_app (layAll_app (layAll_app (layE hp l _ h1) (lay_tn o)) (lay_i2 (by decide +kernel))) (layAll_app (layE hp r _ h2) (lay_tn o))) (lay_i2 (by decide +kernel))) (lay_ends o _)
  | .call r f as, i, h => by
    obtain ⟨h0, h⟩ := lay_c (lay_t h)
    obtain ⟨h1, h⟩ := lay_c h
    obtain ⟨h2, h⟩ := lay_c h
    obtain ⟨h3, h⟩ := lay_c h
    exact layAll_app (layAll_app (layE hp r _ h1) (layEs hp as _ (lay_t h3))) (lay_i3 (by decide +kernel) (lay_s h2))
  | .new m as, i, h => by
    obtain ⟨h0, h⟩ := lay_c (lay_t h)
    obtain ⟨h1, h⟩ := lay_c h
    obtain ⟨h2, h⟩ := lay_c h
    exact layAll_app (layEs hp as _ (lay_t h2)) (lay_i3 (by decide +kernel) (lay_s h1))
  | .plain w as, i, h => by
    obtain ⟨h0, h⟩ := lay_c (lay_t h)
    exact layAll_app (layEs hp as _ h) (lay_i1 (lay_s h0))
theorem layEs {pl : Plc} (hp : PlOk pl) : ∀ (es : Es) (i : Nat), PyData.canLayAll0 es.ds = true → PyData.canLayAll0 (es.code pl i) = true
  | .nil, i, h => rfl
  | .cons e es, i, h => by
    obtain ⟨h0, h⟩ := lay_c h
    exact layAll_app (layE hp e _ h0) (layEs hp es _ h)
end
mutual
theorem layS {pl : Plc} (hp : PlOk pl) : ∀ (s : S) (i : Nat), s.d.canLay0 = true → PyData.canLayAll0 (s.code pl i) = true
  | .letS x k e, i, h => by
    obtain ⟨h0, h⟩ := lay_c (lay_t h)
    obtain ⟨h1, h⟩ := lay_c h
    obtain ⟨h2, h⟩ := lay_c h
    obtain ⟨h3, h⟩ := lay_c h
    exact layAll_app (layE hp e _ h3) (lay_i2 (hp.so2 x))
  | .setS x e, i, h => by
    obtain ⟨h0, h⟩ := lay_c (lay_t h)
    obtain ⟨h1, h⟩ := lay_c h
    obtain ⟨h2, h⟩ := lay_c h
    exact layAll_app (layE hp e _ h2) (lay_i2 (hp.so2 x))
  | .ifS e b .nil, i, h => by
    obtain ⟨h0, h⟩ := lay_c (lay_t h)
    obtain ⟨h1, h⟩ := lay_c h
    obtain ⟨h2, h⟩ := lay_c h
    exact layAll_app (layAll_app (layE hp e _ h1) (lay_i2 (by decide +kernel))) (laySs hp b _ (lay_t h2))
  | .ifS e b (.cons s ss), i, h => by
    obtain ⟨h0, h⟩ := lay_c (lay_t h)
    obtain ⟨h1, h⟩ := lay_c h
    obtain ⟨h2, h⟩ := lay_c h
    obtain ⟨h3, h⟩ := lay_c h
    obtain ⟨h4, h5⟩ := lay_c (lay_t h3)
    exact layAll_app (layAll_app (layAll_app (layAll_app (layE hp e _ h1) (lay_i2 (by decide +kernel))) (laySs hp b _ (lay_t h2))) (lay_i2 (by decide +kernel))) (layAll_app (layS hp s _ h4) (laySs hp ss _ h5))
  | .whileS e b, i, h => by
    obtain ⟨h0, h⟩ := lay_c (lay_t h)
    obtain ⟨h1, h⟩ := lay_c h
    obtain ⟨h2, h⟩ := lay_c h
    exact layAll_app (layAll_app (layAll_app (layE hp e _ h1) (lay_i2 (by decide +kernel))) (laySs hp b _ (lay_t h2))) (lay_i2 (by decide +kernel))
  | .doS e, i, h => by
    obtain ⟨h0, h⟩ := lay_c (lay_t h)
    obtain ⟨h1, h⟩ := lay_c h
    exact layAll_app (layE hp e _ h1) (lay_i1 (by decide +kernel))
  | .fork r f as, i, h => by
    obtain ⟨h0, h⟩ := lay_c (lay_t h)
    obtain ⟨h1, h⟩ := lay_c h
    obtain ⟨h2, h⟩ := lay_c h
    obtain ⟨h3, h⟩ := lay_c h
    exact layAll_app (layAll_app (layE hp r _ h1) (layEs hp as _ (lay_t h3))) (lay_i3 (by decide +kernel) (lay_s h2))
  | .plain w as, i, h => by
    obtain ⟨h0, h⟩ := lay_c (lay_t h)
    exact layAll_app (layEs hp as _ h) (lay_i1 (lay_s h0))
theorem laySs {pl : Plc} (hp : PlOk pl) : ∀ (ss : Ss) (i : Nat), PyData.canLayAll0 ss.ds = true → PyData.canLayAll0 (ss.code pl i) = true
  | .nil, i, h => rfl
  | .cons s ss, i, h => by
    obtain ⟨h0, h⟩ := lay_c h
    exact layAll_app (layS hp s _ h0) (laySs hp ss _ h)
end
mutual
theorem S.letsOk : ∀ s : S, s.d.canLay0 = true → ∀ x ∈ s.lets, PyData.strOk x = true
  | .letS x k e, h, y, hy => by
    obtain ⟨h0, h⟩ := lay_c (lay_t h)
    obtain ⟨h1, h⟩ := lay_c h
    rw [List.mem_singleton.mp hy]
    exact lay_s h1
  | .ifS e b c, h, y, hy => by
    obtain ⟨h0, h⟩ := lay_c (lay_t h)
    obtain ⟨h1, h⟩ := lay_c h
    obtain ⟨h2, h⟩ := lay_c h
    obtain ⟨h3, h⟩ := lay_c h
    rcases List.mem_append.mp hy with hy | hy
    · exact Ss.letsOk b (lay_t h2) y hy
    · exact Ss.letsOk c (lay_t h3) y hy
  | .whileS e b, h, y, hy => by
    obtain ⟨h0, h⟩ := lay_c (lay_t h)
    obtain ⟨h1, h⟩ := lay_c h
    obtain ⟨h2, h⟩ := lay_c h
    exact Ss.letsOk b (lay_t h2) y hy
  | .setS x e, h, y, hy => (nomatch hy)
  | .doS e, h, y, hy => (nomatch hy)
  | .fork r f as, h, y, hy => (nomatch hy)
  | .plain w as, h, y, hy => (nomatch hy)
theorem Ss.letsOk : ∀ s : Ss, PyData.canLayAll0 s.ds = true → ∀ x ∈ s.lets, PyData.strOk x = true
  | .nil, h, y, hy => (nomatch hy)
  | .cons s ss, h, y, hy => by
    obtain ⟨h0, h⟩ := lay_c h
    rcases List.mem_append.mp hy with hy | hy
    · exact S.letsOk s h0 y hy
    · exact Ss.letsOk ss h y hy
end
theorem dAll_app : ∀ {xs ys : List PyData} {n : Nat}, PyData.depthAll xs ≤ n → PyData.depthAll ys ≤ n → PyData.depthAll (xs ++ ys) ≤ n
  | [], _, _, _, h => h
  | x :: xs, ys, n, h1, h2 => by
    have h1' : max x.depth (PyData.depthAll xs) ≤ n := h1
    show max x.depth (PyData.depthAll (xs ++ ys)) ≤ n
    have h3 := dAll_app (xs := xs) (ys := ys) (n := n) (by omega) h2
    omega
theorem d_i2 {x : Str} {n : Int} : PyData.depthAll [I2 x n] ≤ 1 := Nat.le_refl 1
theorem d_i1 {x : Str} : PyData.depthAll [I1 x] ≤ 1 := Nat.le_refl 1
theorem d_i3 {x y : Str} {n : Int} : PyData.depthAll [I3 x y n] ≤ 1 := Nat.le_refl 1
theorem d_tn (o : Bool) : PyData.depthAll (tn o) ≤ 1 := by cases o <;> decide
theorem d_ends (o : Bool) (d : Nat) : PyData.depthAll (ends o d) ≤ 1 := Nat.le_refl 1
mutual
theorem dE {pl : Plc} : ∀ (e : E) (i : Nat), PyData.depthAll (e.code pl i) ≤ 1
  | .int n, i => d_i2
  | .name x, i => d_i2
  | .choice o l r, i => dAll_app (dAll_app (dAll_app (dAll_app (dAll_app (dE l _) (d_tn o)) d_i2) (dAll_app (dE r _) (d_tn o))) d_i2) (d_ends o _)
  | .call r f as, i => dAll_app (dAll_app (dE r _) (dEs as _)) d_i3
  | .new m as, i => dAll_app (dEs as _) d_i3
  | .plain w as, i => dAll_app (dEs as _) d_i1
theorem dEs {pl : Plc} : ∀ (es : Es) (i : Nat), PyData.depthAll (es.code pl i) ≤ 1
  | .nil, i => Nat.zero_le 1
  | .cons e es, i => dAll_app (dE e _) (dEs es _)
end
mutual
theorem dS {pl : Plc} : ∀ (s : S) (i : Nat), PyData.depthAll (s.code pl i) ≤ 1
  | .letS x k e, i => dAll_app (dE e _) d_i2
  | .setS x e, i => dAll_app (dE e _) d_i2
  | .ifS e b .nil, i => dAll_app (dAll_app (dE e _) d_i2) (dSs b _)
  | .ifS e b (.cons s ss), i => dAll_app (dAll_app (dAll_app (dAll_app (dE e _) d_i2) (dSs b _)) d_i2) (dAll_app (dS s _) (dSs ss _))
  | .whileS e b, i => dAll_app (dAll_app (dAll_app (dE e _) d_i2) (dSs b _)) d_i2
  | .doS e, i => dAll_app (dE e _) d_i1
  | .fork r f as, i => dAll_app (dAll_app (dE r _) (dEs as _)) d_i3
  | .plain w as, i => dAll_app (dEs as _) d_i1
theorem dSs {pl : Plc} : ∀ (ss : Ss) (i : Nat), PyData.depthAll (ss.code pl i) ≤ 1
  | .nil, i => Nat.zero_le 1
  | .cons s ss, i => dAll_app (dS s _) (dSs ss _)
end
theorem shaped_code {pl : Plc} (hp : PlOk pl) {b : Ss} (h : PyData.canLayAll0 b.ds = true) : SeqAt.shaped (.tuple (b.code pl 0)) = true := by
  refine shaped_of ?_ ?_
  · have := laySs hp b 0 h
    simpa [PyData.canLay0] using this
  · have := dSs (pl := pl) b 0
    show PyData.depthAll (b.code pl 0) + 1 ≤ 64
    omega
theorem eqv_code {pl : Plc} (hp : PlOk pl) {b : Ss} (h : PyData.canLayAll0 b.ds = true) : PyData.eqv (.tuple (b.code pl 0)) (.tuple (b.code pl 0)) = true :=
  SeqAt.eqv_refl _ (SeqAt.canLay_of_shaped (shaped_code hp h))
theorem strs_lay : ∀ {ns : List Str}, (∀ x ∈ ns, PyData.strOk x = true) → PyData.canLayAll0 (ns.map PyData.str) = true ∧ PyData.depthAll (ns.map PyData.str) = 0
  | [], _ => ⟨rfl, rfl⟩
  | x :: ns, h => by
    obtain ⟨h1, h2⟩ := strs_lay (ns := ns) fun y hy => h y (List.mem_cons_of_mem _ hy)
    exact ⟨layAll_cons (tx (h x List.mem_cons_self)) h1, by show max 0 (PyData.depthAll (ns.map PyData.str)) = 0; rw [h2]; rfl⟩
theorem shaped_strs {ns : List Str} (h : ∀ x ∈ ns, PyData.strOk x = true) : SeqAt.shaped (.list (ns.map PyData.str)) = true := by
  obtain ⟨h1, h2⟩ := strs_lay h
  refine shaped_of ?_ ?_
  · simpa [PyData.canLay0] using h1
  · show PyData.depthAll (ns.map PyData.str) + 1 ≤ 64
    omega
theorem dp_strs {K : PySem.W.Frag} {H : Hp} {l : Addr} {ns : List Str} (h : H l = some (.lst (ns.map V.str))) : Dp K H (.ref l) (.list (ns.map PyData.str)) := by
  refine .lst (SqL.of h) ?_
  clear h
  induction ns with
  | nil => exact .nil
  | cons x ns ih => exact .cons (.str x) ih
/-! ### rows of names out of tuples -/
def At1 (ds : List PyData) (ns : List Str) : Prop := ds.length = ns.length ∧ ∀ (i : Nat) (d : PyData), ds[i]? = some d → ∃ (d0 : PyData) (x : Str) (r : List PyData), d = PyData.tuple (d0 :: .str x :: r) ∧ ns[i]? = some x
theorem comp_at1 {n16 : Nat} {K : PySem.W.Frag} {a D : Addr} {xs : List V} {ds : List PyData} {ns : List Str} {H1 : Hp} {σ : L2.St} {Qd : Hp → Prop} (ha : SqT K H1 a xs) (hv : Rps K H1 xs ds) (hat : At1 ds ns) (hD : H1 D = none) (hl : ns.length ≤ 1000)
    (hw : ∀ v, wipe ((wipe σ [n16]).set n16 (some v)) [n16] = wipe σ [n16]) (hg : ∀ v : V, ((wipe σ [n16]).set n16 (some v))[n16]? = some (some v)) (hd : ∀ H, Same H1 H → H D = some (.lst (ns.map V.str)) → Qd H) :
    ∃ W : Nat → Nat → Hp → Prop, (∃ m, W 0 m (upd H1 D (.lst []))) ∧ ∀ i m H, W i m H → ((Itt K a).stop i H ∧ Qd H) ∨ ((Itt K a).go i H ∧ ∃ Nx : Hp → Prop, (∀ H', Nx H' → ∃ m', m' < m ∧ W (i + 1) m' H') ∧ ∀ x H', (Itt K a).yld i H x H' →
      gName n16 x (wipe σ [n16]) H' fun σ2 H2 => wipe σ2 [n16] = wipe σ [n16] ∧ tYes σ2 H2 fun b H3 => if b = true then tOp (rIxT K) (tVar n16) (tC (.int 1)) σ2 H3 fun y H4 => ∃ acc, H4 D = some (.lst acc) ∧ acc.length < sizeLine ∧ Nx (upd H4 D (.lst (acc ++ [y]))) else Nx H3) := by
  have hlen : xs.length = ns.length := hv.len.trans hat.1
  refine lc_tup (K := K) (a := a) (xs := xs) (fun i H => Same H1 H ∧ H D = some (.lst ((ns.take i).map V.str))) ⟨Cm.same_new hD, upd_same⟩ (fun i H _ p => Cm.sameT p.1 ha) (fun i x H hx p => ?_) fun H p => ?_
  · obtain ⟨s, hH⟩ := p
    obtain ⟨d, hdd, rx⟩ := rps_at hv hx
    obtain ⟨d0, y, r, rfl, hy⟩ := hat.2 i d hdd
    obtain ⟨b, us, rfl, hb, hus⟩ := rx.tup_inv
    obtain ⟨v0, us, rfl, r0, hus⟩ := hus.cons_inv
    obtain ⟨v1, us, rfl, r1, hus⟩ := hus.cons_inv
    cases r1.str_inv
    refine ⟨hw _, ?_⟩
    refine ⟨_, hg _, b, _, _, _, rfl, rfl, Cm.sameT s hb, at1, _, hH, Cm.smallL (by rw [List.length_map, List.length_take]; omega), Cm.same_mut s hD, ?_⟩
    rw [upd_same, List.take_succ, hy, List.map_append]
    rfl
  · rw [hlen, List.take_length] at p
    exact hd H p.1 p.2
def At0 (ds : List PyData) (ns : List Str) : Prop := ds.length = ns.length ∧ ∀ (i : Nat) (d : PyData), ds[i]? = some d → ∃ x y : Str, d = PyData.tuple [.str x, .str y] ∧ ns[i]? = some x
theorem comp_at0 {n17 n18 : Nat} {K : PySem.W.Frag} {a D : Addr} {xs : List V} {ds : List PyData} {ns : List Str} {H1 : Hp} {σ : L2.St} {Qd : Hp → Prop} (ha : SqT K H1 a xs) (hv : Rps K H1 xs ds) (hat : At0 ds ns) (hD : H1 D = none) (hl : ns.length ≤ 1000)
    (hw : ∀ u v, wipe (((wipe σ [n17, n18]).set n17 (some u)).set n18 (some v)) [n17, n18] = wipe σ [n17, n18]) (hg : ∀ u v : V, (((wipe σ [n17, n18]).set n17 (some u)).set n18 (some v))[n17]? = some (some u)) (hd : ∀ H, Same H1 H → H D = some (.lst (ns.map V.str)) → Qd H) :
    ∃ W : Nat → Nat → Hp → Prop, (∃ m, W 0 m (upd H1 D (.lst []))) ∧ ∀ i m H, W i m H → ((Itt K a).stop i H ∧ Qd H) ∨ ((Itt K a).go i H ∧ ∃ Nx : Hp → Prop, (∀ H', Nx H' → ∃ m', m' < m ∧ W (i + 1) m' H') ∧ ∀ x H', (Itt K a).yld i H x H' →
      gTup K 2 (gCons (gName n17) (gCons (gName n18) gNil)) x (wipe σ [n17, n18]) H' fun σ2 H2 => wipe σ2 [n17, n18] = wipe σ [n17, n18] ∧ tYes σ2 H2 fun b H3 => if b = true then tVar n17 σ2 H3 fun y H4 => ∃ acc, H4 D = some (.lst acc) ∧ acc.length < sizeLine ∧ Nx (upd H4 D (.lst (acc ++ [y]))) else Nx H3) := by
  have hlen : xs.length = ns.length := hv.len.trans hat.1
  refine lc_tup (K := K) (a := a) (xs := xs) (fun i H => Same H1 H ∧ H D = some (.lst ((ns.take i).map V.str))) ⟨Cm.same_new hD, upd_same⟩ (fun i H _ p => Cm.sameT p.1 ha) (fun i x H hx p => ?_) fun H p => ?_
  · obtain ⟨s, hH⟩ := p
    obtain ⟨d, hdd, rx⟩ := rps_at hv hx
    obtain ⟨y, z, rfl, hy⟩ := hat.2 i d hdd
    obtain ⟨b, us, rfl, hb, hus⟩ := rx.tup_inv
    obtain ⟨v0, us, rfl, r0, hus⟩ := hus.cons_inv
    obtain ⟨v1, us, rfl, r1, hus⟩ := hus.cons_inv
    cases hus.nil_inv
    cases r0.str_inv
    refine ⟨b, _, rfl, Cm.sameT s hb, rfl, _, _, rfl, _, _, rfl, rfl, hw _ _, ?_⟩
    refine ⟨_, hg _ _, _, hH, Cm.smallL (by rw [List.length_map, List.length_take]; omega), Cm.same_mut s hD, ?_⟩
    rw [upd_same, List.take_succ, hy, List.map_append]
    rfl
  · rw [hlen, List.take_length] at p
    exact hd H p.1 p.2
/-! ### what stands in the row of blocks -/
/-- a row of names: a list, or the empty tuple -/
def Sv (K : PySem.W.Frag) (H : Hp) (v : V) (ns : List Str) : Prop := ∃ a, v = .ref a ∧ (H a = some (.lst (ns.map V.str)) ∨ (ns = [] ∧ SqT K H a []))
structure BD where
  ps : List Str
  fs : List Str
  b : Ss
structure BD.Ok (x : BD) : Prop where
  ok : OkP (x.fs ++ x.ps) x.b
  so : ∀ y ∈ x.ps, PyData.strOk y = true
  pl : x.ps.length ≤ 10
  fl : x.fs.length ≤ 10
def BE (K : PySem.W.Frag) (H : Hp) (v : V) : Prop := ∃ (p : Addr) (pv bv fv : V) (x : BD), v = .ref p ∧ SqT K H p [pv, bv, fv] ∧ Sv K H pv x.ps ∧ Rp K H bv (.tuple x.b.ds) ∧ Sv K H fv x.fs ∧ x.Ok
theorem Sv.same {K : PySem.W.Frag} {H H' : Hp} {v : V} {ns : List Str} (h : Sv K H v ns) (s : Same H H') : Sv K H' v ns := by
  obtain ⟨a, e, h | ⟨h1, h2⟩⟩ := h
  · exact ⟨a, e, .inl (s _ _ h)⟩
  · exact ⟨a, e, .inr ⟨h1, Cm.sameT s h2⟩⟩
theorem BE.same {K : PySem.W.Frag} {H H' : Hp} {v : V} (h : BE K H v) (s : Same H H') : BE K H' v := by
  obtain ⟨p, pv, bv, fv, x, e, h1, h2, h3, h4, h5⟩ := h
  exact ⟨p, pv, bv, fv, x, e, Cm.sameT s h1, h2.same s, h3.keep (Same.tups s), h4.same s, h5⟩
theorem Sv.push {K : PySem.W.Frag} {H : Hp} {bl : Addr} {vs vs' : List V} {v : V} {ns : List Str} (h : Sv K H v ns) (hb : H bl = some (.lst vs)) (hr : ∀ v ∈ vs, ∃ a, v = .ref a) (hn : vs ≠ []) : Sv K (upd H bl (.lst vs')) v ns := by
  have tp : Tups H (upd H bl (.lst vs')) := fun q x e no => by
    refine (upd_ne fun z => ?_).trans e
    rw [z, hb] at e
    exact no vs (Option.some.inj e).symm
  obtain ⟨a, e, h | ⟨h1, h2⟩⟩ := h
  · refine ⟨a, e, .inl ((upd_ne fun z => ?_).trans h)⟩
    rw [z, hb] at h
    have e2 : vs = ns.map V.str := by cases h; rfl
    cases ns with
    | nil => exact hn e2
    | cons y ns =>
      obtain ⟨a2, ha2⟩ := hr (.str y) (by rw [e2]; exact List.mem_cons_self)
      cases ha2
  · exact ⟨a, e, .inr ⟨h1, tp.sqt h2⟩⟩
theorem BE.push {K : PySem.W.Frag} {H : Hp} {bl : Addr} {vs vs' : List V} {v : V} (h : BE K H v) (hb : H bl = some (.lst vs)) (hr : ∀ v ∈ vs, BE K H v) (hn : vs ≠ []) : BE K (upd H bl (.lst vs')) v := by
  have hr2 : ∀ v ∈ vs, ∃ a, v = .ref a := fun v hv => by
    obtain ⟨p, _, _, _, _, e, _⟩ := hr v hv
    exact ⟨p, e⟩
  have tp : Tups H (upd H bl (.lst vs')) := fun q x e no => by
    refine (upd_ne fun z => ?_).trans e
    rw [z, hb] at e
    exact no vs (Option.some.inj e).symm
  obtain ⟨p, pv, bv, fv, x, e, h1, h2, h3, h4, h5⟩ := h
  exact ⟨p, pv, bv, fv, x, e, tp.sqt h1, h2.push hb hr2 hn, h3.keep tp, h4.push hb hr2 hn, h5⟩
theorem Sv.sq {K : PySem.W.Frag} {H : Hp} {v : V} {ns : List Str} (h : Sv K H v ns) : ∃ a, v = .ref a ∧ (SqL K H a (ns.map V.str) ∨ SqT K H a (ns.map V.str)) := by
  obtain ⟨a, e, h | ⟨h1, h2⟩⟩ := h
  · exact ⟨a, e, .inl (SqL.of h)⟩
  · subst h1
    exact ⟨a, e, .inr h2⟩
/-! ### the dict of places -/
mutual
theorem Rp.keepS {K : PySem.W.Frag} {H H' : Hp} (k : ∀ a xs, SqT K H a xs → SqT K H' a xs) : ∀ {v : V} {d : PyData}, Rp K H v d → Rp K H' v d
  | _, _, .non => .non
  | _, _, .bl b => .bl b
  | _, _, .int i => .int i
  | _, _, .str x => .str x
  | _, _, .tup h r => .tup (k _ _ h) (Rps.keepS k r)
theorem Rps.keepS {K : PySem.W.Frag} {H H' : Hp} (k : ∀ a xs, SqT K H a xs → SqT K H' a xs) : ∀ {vs : List V} {ds : List PyData}, Rps K H vs ds → Rps K H' vs ds
  | _, _, .nil => .nil
  | _, _, .cons h r => .cons (Rp.keepS k h) (Rps.keepS k r)
end
theorem dict_sqt {K : PySem.W.Frag} {H : Hp} {pd : Addr} {kvs kvs' : List (Key × V)} (h : H pd = some (.dK kvs)) : ∀ a xs, SqT K H a xs → SqT K (upd H pd (.dK kvs')) a xs := fun a xs q => by
  have ne : ∀ o, H a = some o → (∀ k, o ≠ .dK k) → upd H pd (.dK kvs') a = some o := fun o e no => (upd_ne fun z => by
    rw [z, h] at e
    exact no kvs (Option.some.inj e).symm).trans e
  rcases q with (q | ⟨o, q⟩) | q
  · exact .inl (.inl (ne _ q fun _ e => by cases e))
  · exact .inl (.inr ⟨o, ne _ q fun _ e => by cases e⟩)
  · exact .inr q
structure PlI (K : PySem.W.Frag) (H : Hp) (pd : Addr) (n : Nat) (N : List Str) (pl : Plc) (kvs : List (Key × V)) : Prop where
  h : H pd = some (.dK kvs)
  nd : (kvs.map (·.1)).Nodup
  calm : ∀ p ∈ kvs, DictN.calmB p.2 = true
  len : kvs.length ≤ n
  ok : PlOk pl
  at_ : ∀ x ∈ N, ∃ v, valV kvs (.inr x : Key) = some v ∧ Rp K H v (.tuple [.str (pl x).1, .int (pl x).2])
theorem PlI.same {K : PySem.W.Frag} {H H' : Hp} {pd : Addr} {n : Nat} {N : List Str} {pl : Plc} {kvs : List (Key × V)} (p : PlI K H pd n N pl kvs) (s : Same H H') : PlI K H' pd n N pl kvs :=
  ⟨s _ _ p.h, p.nd, p.calm, p.len, p.ok, fun x hx => by
    obtain ⟨v, h1, h2⟩ := p.at_ x hx
    exact ⟨v, h1, h2.keep (Same.tups s)⟩⟩
theorem PlI.put {K : PySem.W.Frag} {H : Hp} {pd : Addr} {n : Nat} {N : List Str} {pl : Plc} {kvs : List (Key × V)} (p : PlI K H pd n N pl kvs) {q : Addr} {x w : Str} {j : Int} (hq : SqT K H q [.str w, .int j]) (hw : w = "local" ∨ w = "field") :
    PlI K (upd H pd (.dK (putK kvs (.inr x) (.ref q)))) pd (n + 1) (N ++ [x]) (fun y => if y = x then (w, j) else pl y) (putK kvs (.inr x) (.ref q)) := by
  have ks := dict_sqt (K := K) (kvs' := putK kvs (.inr x) (.ref q)) p.h
  refine ⟨upd_same, DictN.nd_put p.nd, fun z hz => ?_, ?_, fun y => ?_, fun y hy => ?_⟩
  · rcases DictN.mem_put hz with h | h
    · exact p.calm z h
    · rw [h]
      rfl
  · have := p.len
    have := DictN.len_put (kvs := kvs) (k := (.inr x : Key)) (v := .ref q)
    omega
  · by_cases e : y = x
    · rw [if_pos e]
      exact hw
    · rw [if_neg e]
      exact p.ok y
  · rw [valV_put]
    by_cases e : y = x
    · rw [if_pos (congrArg Sum.inr e), if_pos e]
      exact ⟨_, rfl, .tup (ks _ _ hq) (.cons (.str w) (.cons (.int j) .nil))⟩
    · rw [if_neg fun z => e (Sum.inr.inj z), if_neg e]
      rcases List.mem_append.mp hy with h | h
      · obtain ⟨v, h1, h2⟩ := p.at_ y h
        exact ⟨v, h1, K21.Rp.keepS ks h2⟩
      · exact absurd (List.mem_singleton.mp h) e
theorem PlI.new {K : PySem.W.Frag} {H : Hp} {pd : Addr} (np : H pd = none) : PlI K (upd H pd (.dK [])) pd 0 [] (fun _ => ("local", 0)) [] :=
  ⟨upd_same, List.nodup_nil, fun p h => (nomatch h), Nat.le_refl 0, fun _ => .inl rfl, fun x h => (nomatch h)⟩
theorem PlI.pl {K : PySem.W.Frag} {H : Hp} {pd : Addr} {n : Nat} {N : List Str} {pl : Plc} {kvs : List (Key × V)} (p : PlI K H pd n N pl kvs) : PlAt K H pd pl N :=
  ⟨kvs, p.h, fun x hx => ⟨by rcases p.ok x with e | e <;> rw [e] <;> decide, p.at_ x hx⟩⟩
/-! ### a block from a place on -/
def Ss.dropN : Ss → Nat → Ss
  | b, 0 => b
  | .nil, _ + 1 => .nil
  | .cons _ b, n + 1 => Ss.dropN b n
theorem dropN_ds : ∀ (b : Ss) (n : Nat), (Ss.dropN b n).ds = b.ds.drop n
  | b, 0 => by cases b <;> rfl
  | .nil, _ + 1 => rfl
  | .cons s b, n + 1 => dropN_ds b n
theorem dropN_all : ∀ (b : Ss) (n : Nat), (b.wf = true → (Ss.dropN b n).wf = true) ∧ (∀ x ∈ (Ss.dropN b n).uses, x ∈ b.uses) ∧ (Ss.dropN b n).dep ≤ b.dep ∧ (Ss.dropN b n).sz ≤ b.sz ∧ (PyData.canLayAll0 b.ds = true → PyData.canLayAll0 (Ss.dropN b n).ds = true)
  | .nil, 0 => ⟨id, fun _ h => h, Nat.le_refl _, Nat.le_refl _, id⟩
  | .cons _ _, 0 => ⟨id, fun _ h => h, Nat.le_refl _, Nat.le_refl _, id⟩
  | .nil, _ + 1 => ⟨id, fun _ h => h, Nat.le_refl _, Nat.le_refl _, id⟩
  | .cons s b, n + 1 => by
    obtain ⟨h1, h2, h3, h4, h5⟩ := dropN_all b n
    refine ⟨fun h => h1 (Bool.and_eq_true_iff.mp h).2, fun x hx => List.mem_append_right _ (h2 x hx), ?_, ?_, fun h => h5 (lay_c h).2⟩
    · show (Ss.dropN b n).dep ≤ max s.dep b.dep
      omega
    · show (Ss.dropN b n).sz ≤ s.sz + b.sz
      omega
theorem at_map {ns : List Str} {j : Nat} {x : Str} (h : ns[j]? = some x) : atI (ns.map V.str) (0 + (j : Int)) = some (.str x) := by
  rw [Int.zero_add]
  exact atI_nat (by rw [List.getElem?_map, h]; rfl)
theorem take_put {ns : List Str} {j : Nat} {x : Str} (h : ns[j]? = some x) : ns.take (j + 1) = ns.take j ++ [x] := by
  rw [List.take_succ, h]
  rfl
def spLaw (K : PySem.W.Frag) : Sp := fun vs H Q _ => ∃ (a : Addr) (ns : List Int), vs = [.ref a] ∧ SqL K H a (ns.map V.int) ∧ ns.length ≤ 63 ∧ ∀ H', Q (.bl true) H'
theorem rows_of (m : MkD) (om : m.Ok) (d : PyData) (hd : d ∈ m.rows) : ∃ (x : Str) (pd : List PyData) (ps : List Str) (k : Str) (b : Ss), d = opT x pd k b ∧ At0 pd ps ∧ (BD.mk ps fieldS b).Ok := by
  have at0_1 : ∀ {x k : Str}, At0 [pr x k] [x] := fun {x k} => ⟨rfl, fun i d h => by
    match i, h with
    | 0, h => cases h; exact ⟨x, k, rfl, rfl⟩
    | i + 1, h => cases h⟩
  have mk : ∀ {ps : List Str} {b : Ss}, OkP (ps ++ fieldS) b → (∀ y ∈ ps, PyData.strOk y = true) → ps.length ≤ 10 → (BD.mk ps fieldS b).Ok := fun {ps b} h1 h2 h3 => ⟨h1.mono fun x hx => (List.mem_append.mp hx).elim (fun h => List.mem_append_right _ h) (fun h => List.mem_append_left _ h), h2, h3, by show 4 ≤ 10; decide⟩
  have hd' : d = opT "get" [] "int" m.get ∨ d = opT "put" [pr "v" "int"] "int" m.put ∨ d = opT "link" [pr "c" "Cell"] "Cell" m.link ∨ d = opT "both" [pr "c" "Cell", pr "v" "int"] "int" m.both := by
    simpa [MkD.rows] using hd
  rcases hd' with rfl | rfl | rfl | rfl
  · exact ⟨_, [], [], _, _, rfl, ⟨rfl, fun i d h => by cases h⟩, mk (ps := []) om.get (fun y h => (nomatch h)) (by decide)⟩
  · exact ⟨_, _, ["v"], _, _, rfl, at0_1, mk (ps := ["v"]) om.put (by decide +kernel) (by decide)⟩
  · exact ⟨_, _, ["c"], _, _, rfl, at0_1, mk (ps := ["c"]) om.link (by decide +kernel) (by decide)⟩
  · refine ⟨_, _, ["c", "v"], _, _, rfl, ⟨rfl, fun i d h => ?_⟩, mk (ps := ["c", "v"]) om.both (by decide +kernel) (by decide)⟩
    match i, h with
    | 0, h => cases h; exact ⟨_, _, rfl, rfl⟩
    | 1, h => cases h; exact ⟨_, _, rfl, rfl⟩
    | i + 2, h => cases h
theorem at1_pars (m : MkD) : At1 m.pars ["o", "n"] := ⟨rfl, fun i d h => by
  match i, h with
  | 0, h => cases h; exact ⟨_, _, _, rfl, rfl⟩
  | 1, h => cases h; exact ⟨_, _, _, rfl, rfl⟩
  | i + 2, h => cases h⟩
theorem at1_flds (m : MkD) : At1 m.flds ["p", "m"] := ⟨rfl, fun i d h => by
  match i, h with
  | 0, h => cases h; exact ⟨_, _, _, rfl, rfl⟩
  | 1, h => cases h; exact ⟨_, _, _, rfl, rfl⟩
  | i + 2, h => cases h⟩
theorem ok_law (T : Txt K mg w a) : FnOk P w K mg base CX0 85 (He.ga K "law") a.d_law ["script"] (spLaw K) := by
  have gcb := ok_compiled (P := P) (w := w) (base := base) T
  have glb := ok_lblock (P := P) (w := w) (base := base) T 13 (by decide)
  have gll := ok_llets (P := P) (w := w) (base := base) T 13
  have gpr := ok_lw_program (P := P) (w := w) (base := base) T
  have gnm := ok_names (P := P) (w := w) (base := base) T
  refine T.F_law.ok sc_law (fun vs H Q E h => ?_) (fun cdv A outer s H vs Q E hr h => ?_)
  · obtain ⟨_, _, rfl, _⟩ := h
    rfl
  obtain ⟨sc, ns, rfl, hS, hn, q⟩ := h
  refine ⟨_, PSs.nox (pss_cons (ps_for PassesOwn.never rfl (pi_range1 (by rfl) T.g_range (pa_cons (pe_callB (call_max2 rfl) (by rfl) T.g_max boot_max (pa_cons pe_int (pa_cons (pe_callB (call_min2 rfl) (by rfl) T.g_min boot_min (pa_cons (pe_callB call_len_seq (by rfl) T.g_len boot_len (pa_cons (pv 0) pa_nil)) (pa_cons pe_int pa_nil))) pa_nil))) pa_nil)) (pg_name (i := 1) sc_law.nd rfl (Or.inl rfl))
      (pss_cons (ps_set (i := 2) sc_law.nd rfl (Or.inl rfl) (pe_call (ok_lw_numbers T) (hr.mono (by omega)) (by rfl) T.g_lw_numbers T.F_lw_numbers.kp T.b_lw_numbers .nil pass0 (pa_cons (pe_call (ok_lw_cell T) (hr.mono (by omega)) (by rfl) T.g_lw_cell T.F_lw_cell.kp T.b_lw_cell .nil pass0 (pa_cons (pv 0) (pa_cons (pv 1) pa_nil))) (pa_cons (pv 1) (pa_cons pe_int pa_nil)))))
      (pss_cons (ps_set (i := 3) sc_law.nd rfl (Or.inl rfl) (pe_call gpr (hr.mono (by omega)) (by rfl) T.g_lw_program T.F_lw_program.kp T.b_lw_program .nil pass0 (pa_cons (pv 2) (pa_cons (pe_op op_add pe_int (pe_op op_mod (pe_callTy call_int1 (by rfl) T.g_int boot_int (pa_cons (pe_ix ix_list (pv 2) pe_int (fun _ _ => rfl)) pa_nil)) pe_int)) (pa_cons pe_int pa_nil)))))
      (pss_cons (ps_set (i := 4) sc_law.nd rfl (Or.inl rfl) (pe_lst (pa_cons (pe_tup (pa_cons (pe_tup pa_nil) (pa_cons (pe_ix ix_tup (pv 3) pe_int (fun _ _ => rfl)) (pa_cons (pe_tup pa_nil) pa_nil)))) pa_nil)))
      (pss_cons (ps_for PassesOwn.never rfl (pi_tup (pe_ix ix_tup (pv 3) pe_int (fun _ _ => rfl))) (pg_name (i := 5) sc_law.nd rfl (Or.inl rfl))
      (pss_cons (ps_set (i := 6) sc_law.nd rfl (Or.inl rfl) (pe_op op_cat (pe_lc (own := [("part", 16)]) (g := gName 16) (tt := tYes) (te := (tOp (rIxT K) (tVar 16) (tC (.int 1)))) (by rfl) sc_law.nd (pi_tup (pe_ix ix_tup (pv 5) pe_int (fun _ _ => rfl))) (blkOk_by (own := [("part", 16)]) (N := N_law) (sc := defScope s_law) (by decide +kernel)) (fun _ _ _ _ _ => pg_name (i := 16) sc_law.nd rfl (Or.inl rfl)) (fun _ _ _ _ _ => pts_nil) (fun _ _ _ _ _ => (pe_ix (r := rIxT K) ix_tup (pv 16) pe_int (fun _ _ => rfl)))) (pe_lc (own := [("part", 16)]) (g := gName 16) (tt := tYes) (te := (tOp (rIxT K) (tVar 16) (tC (.int 1)))) (by rfl) sc_law.nd (pi_tup (pe_ix ix_tup (pv 5) pe_int (fun _ _ => rfl))) (blkOk_by (own := [("part", 16)]) (N := N_law) (sc := defScope s_law) (by decide +kernel)) (fun _ _ _ _ _ => pg_name (i := 16) sc_law.nd rfl (Or.inl rfl)) (fun _ _ _ _ _ => pts_nil) (fun _ _ _ _ _ => (pe_ix (r := rIxT K) ix_tup (pv 16) pe_int (fun _ _ => rfl))))))
      (pss_one (ps_for PassesOwn.never rfl (pi_tup (pe_ix ix_tup (pv 5) pe_int (fun _ _ => rfl))) (pg_tup (by rfl) (pgs_cons (pg_name (i := 7) sc_law.nd rfl (Or.inl rfl)) (pgs_cons (pg_name (i := 8) sc_law.nd rfl (Or.inl rfl)) (pgs_cons (pg_name (i := 9) sc_law.nd rfl (Or.inl rfl)) (pgs_cons (pg_name (i := 10) sc_law.nd rfl (Or.inl rfl)) pgs_nil)))))
      (pss_one (ps_expr (pe_bm PySem.F.plainAttrs_list PySem.F.slot_list_append PySem.F.type_list_append mt_append (pv 4) (pa_cons (pe_tup (pa_cons (pe_lc (own := [("one", 17), ("kind", 18)]) (g := gTup K 2 (gCons (gName 17) (gCons (gName 18) gNil))) (tt := tYes)  (by rfl) sc_law.nd (pi_tup (pv 8)) (blkOk_by (own := [("one", 17), ("kind", 18)]) (N := N_law) (sc := defScope s_law) (by decide +kernel)) (fun _ _ _ _ _ => (pg_tup (by rfl) (pgs_cons (pg_name (i := 17) sc_law.nd rfl (Or.inl rfl)) (pgs_cons (pg_name (i := 18) sc_law.nd rfl (Or.inl rfl)) pgs_nil)))) (fun _ _ _ _ _ => pts_nil) (fun _ _ _ _ _ => (pv 17))) (pa_cons (pv 10) (pa_cons (pv 6) pa_nil)))) pa_nil))))))))
      (pss_one (ps_for PassesOwn.never rfl (pi_list (pv 4)) (pg_tup (by rfl) (pgs_cons (pg_name (i := 8) sc_law.nd rfl (Or.inl rfl)) (pgs_cons (pg_name (i := 10) sc_law.nd rfl (Or.inl rfl)) (pgs_cons (pg_name (i := 6) sc_law.nd rfl (Or.inl rfl)) pgs_nil))))
      (pss_cons (ps_set (i := 11) sc_law.nd rfl (Or.inl rfl) (pe_op op_cat (pe_callTy call_list_of (by rfl) T.g_list boot_list (pa_cons (pv 8) pa_nil)) (pe_call gll (hr.mono (by omega)) (by rfl) T.g_lw_lets T.F_lw_lets.kp T.b_lw_lets .nil pass0 (pa_cons (pv 10) pa_nil))))
      (pss_cons (ps_set (i := 12) sc_law.nd rfl (Or.inl rfl) pe_dnewK)
      (pss_cons (ps_for PassesOwn.never rfl (pi_range1 (by rfl) T.g_range (pa_cons (pe_callB call_len_seq (by rfl) T.g_len boot_len (pa_cons (pv 6) pa_nil)) pa_nil)) (pg_name (i := 13) sc_law.nd rfl (Or.inl rfl))
      (pss_one (ps_dput (hu_of hr) (pv 12) (pe_ix ix_list (pv 6) (pv 13) (fun _ _ => rfl)) (pe_tup (pa_cons pe_str (pa_cons (pv 13) pa_nil))) rfl)))
      (pss_cons (ps_for PassesOwn.never rfl (pi_range1 (by rfl) T.g_range (pa_cons (pe_callB call_len_seq (by rfl) T.g_len boot_len (pa_cons (pv 11) pa_nil)) pa_nil)) (pg_name (i := 13) sc_law.nd rfl (Or.inl rfl))
      (pss_one (ps_dput (hu_of hr) (pv 12) (pe_ix ix_list (pv 11) (pv 13) (fun _ _ => rfl)) (pe_tup (pa_cons pe_str (pa_cons (pv 13) pa_nil))) rfl)))
      (pss_cons (ps_set (i := 14) sc_law.nd rfl (Or.inl rfl) (pe_callTy call_dictD (by rfl) T.g_dict boot_dict (pa_cons (pv 12) pa_nil)))
      (pss_cons (ps_set (i := 15) sc_law.nd rfl (Or.inl rfl) (pe_call gcb (hr.mono (by omega)) (by rfl) T.g_compiled_block T.F_compiled_block.kp T.b_compiled_block .nil pass0 (pa_cons (pv 12) (pa_cons (pv 10) pa_nil))))
      (pss_cons (ps_if (PW.pt (pw_or (pt_cmpR (op_neD hr.units) (pv 15) (pe_callTy call_tuple_of (by rfl) T.g_tuple boot_tuple (pa_cons (pe_call glb (hr.mono (by omega)) (by rfl) T.g_lw_block_code T.F_lw_block_code.kp T.b_lw_block_code .nil pass0 (pa_cons (pv 10) (pa_cons (pv 12) (pa_cons pe_int pa_nil)))) pa_nil)) (nomark _)) (pw_or1 (pt_cmpR (DictN.op_ne_dictS (Nat.lt_of_succ_lt (hu_of hr))) (pv 12) (pv 14) (nomark _))))) (pss_one (ps_ret pe_bl)) pss_nil)
      (pss_cons (ps_if (pt_cmpR (op_neD hr.units) (pe_call gnm (hr.mono (by omega)) (by rfl) T.g_local_names T.F_local_names.kp T.b_local_names .nil pass0 (pa_cons (pe_callTy call_list_of (by rfl) T.g_list boot_list (pa_cons (pv 8) pa_nil)) (pa_cons (pv 10) pa_nil))) (pv 11) (nomark _)) (pss_one (ps_ret pe_bl)) pss_nil)
      (pss_one (ps_for PassesOwn.never rfl (pi_range1 (by rfl) T.g_range (pa_cons (pe_callB (call_min2 rfl) (by rfl) T.g_min boot_min (pa_cons pe_int (pa_cons (pe_callB call_len_seq (by rfl) T.g_len boot_len (pa_cons (pv 10) pa_nil)) pa_nil))) pa_nil)) (pg_name (i := 13) sc_law.nd rfl (Or.inl rfl))
      (pss_one (ps_if (pt_cmpR (op_neD hr.units) (pe_call gcb (hr.mono (by omega)) (by rfl) T.g_compiled_block T.F_compiled_block.kp T.b_compiled_block .nil pass0 (pa_cons (pv 12) (pa_cons (pe_slice sl_tupA (pv 10) (po_some (pv 13)) po_none) pa_nil))) (pe_callTy call_tuple_of (by rfl) T.g_tuple boot_tuple (pa_cons (pe_call glb (hr.mono (by omega)) (by rfl) T.g_lw_block_code T.F_lw_block_code.kp T.b_lw_block_code .nil pass0 (pa_cons (pe_slice sl_tupA (pv 10) (po_some (pv 13)) po_none) (pa_cons (pv 12) (pa_cons pe_int pa_nil)))) pa_nil)) (nomark _)) (pss_one (ps_ret pe_bl)) pss_nil)))))))))))))))))))
      (pss_one (ps_ret (pe_cmpR (op_eqD hr.units) (pe_call gcb (hr.mono (by omega)) (by rfl) T.g_compiled_block T.F_compiled_block.kp T.b_compiled_block .nil pass0 (pa_cons pe_dnewK (pa_cons (pe_tup pa_nil) pa_nil))) (pe_tup pa_nil) (nomark _))))), ?_⟩
  refine ⟨_, rfl, sc, _, rfl, .inl hS, _, _, rfl, _, _, rfl, _, rfl, ?_, ?_, ?_⟩
  · split <;> split <;> omega
  · rw [List.length_map]
    split <;> split <;> omega
  refine for_range (fun i σ H2 => ∃ x1 x2 x3 x4 x5 x6 x7 x8 x9 x10 x11 x12 x13 x14 x15 x16 x17 x18 : Option V, σ = [some (.ref sc), x1, x2, x3, x4, x5, x6, x7, x8, x9, x10, x11, x12, x13, x14, x15, x16, x17, x18] ∧ SqL K H2 sc (ns.map V.int)) ⟨none, none, none, none, none, none, none, none, none, none, none, none, none, none, none, none, none, none, rfl, hS⟩ (fun i σ H2 hi ⟨x1, x2, x3, x4, x5, x6, x7, x8, x9, x10, x11, x12, x13, x14, x15, x16, x17, x18, e, hS2⟩ => ?_) fun σ H2 ⟨x1, x2, x3, x4, x5, x6, x7, x8, x9, x10, x11, x12, x13, x14, x15, x16, x17, x18, e, hS2⟩ => ?_
  · subst e
    have hi2 : i ≤ 64 := by
      rw [List.length_map] at hi
      revert hi
      split <;> split <;> omega
    -- numbers
    refine ⟨_, rfl, _, rfl, sc, ns, i, by rw [Int.zero_add] <;> rfl, hS2, fun c => ?_⟩
    refine ⟨_, rfl, c, i, 60, by rw [Int.zero_add] <;> rfl, by omega, by omega, fun H3 p3 nums s3 np3 hp3 hn3 hrange => ?_⟩
    have hL : SqL K H3 p3 (nums.map V.int) := SqL.of hp3
    obtain ⟨n59, m59, e59⟩ := Cm.at_int (ns := nums) (i := 59) (by decide) (by rw [hn3]; decide)
    have r59 := hrange n59 m59
    -- program
    refine ⟨_, rfl, _, rfl, p3, _, _, _, rfl, rfl, hL, e59, .inl ⟨_, rfl, _, _, rfl, rfl, (by show (0 : Int) < 4; decide), _, _, rfl, rfl, ?_⟩⟩
    refine ⟨p3, nums, (1 + n59 % 4).toNat, 4, (by rw [Int.toNat_of_nonneg (by omega)] <;> rfl), hL, hn3, fun x hx => (hrange x hx).1, by omega, fun H4 v4 m1 m2 b s4 r4 o1 o2 e1 e2 ob => ?_⟩
    have hS4 := s4.seq (s3.seq hS2)
    obtain ⟨c4, vs4, rfl, hc4, hvs4⟩ := r4.tup_inv
    obtain ⟨v40, vs4, rfl, r40, hvs4⟩ := hvs4.cons_inv
    obtain ⟨v41, vs4, rfl, r41, hvs4⟩ := hvs4.cons_inv
    obtain ⟨v42, vs4, rfl, r42, hvs4⟩ := hvs4.cons_inv
    cases hvs4.nil_inv
    obtain ⟨cm, vsm, rfl, hcm, hvsm⟩ := r41.tup_inv
    -- blocks
    refine ⟨Nat.zero_le _, fun p5 np5 => ⟨_, rfl, c4, _, _, _, rfl, rfl, Cm.sameT (Cm.same_new np5) hc4, at2, Nat.zero_le _, fun p6 np6 => ⟨Cm.small (by show 3 ≤ 100000; decide), fun p7 np7 => ⟨Cm.small (by show 1 ≤ 100000; decide), fun bl nbl => ?_⟩⟩⟩⟩
    have s56 := (Cm.same_new (o := .tup []) np5).trans (Cm.same_new (o := .tup []) np6)
    have s58 := s56.trans ((Cm.same_new (o := .tup [.ref p5, v42, .ref p6]) np7).trans (Cm.same_new (o := .lst [.ref p7]) nbl))
    have be0 : BE K (upd (upd (upd (upd H4 p5 (.tup [])) p6 (.tup [])) p7 (.tup [.ref p5, v42, .ref p6])) bl (.lst [.ref p7])) (.ref p7) := by
      refine ⟨p7, _, _, _, ⟨[], [], b⟩, rfl, Cm.sameT (Cm.same_new nbl) Cm.sqt_new, ⟨p5, rfl, .inr ⟨rfl, ?_⟩⟩, r42.keep (Same.tups s58), ⟨p6, rfl, .inr ⟨rfl, ?_⟩⟩, ⟨ob, (fun y h => (nomatch h)), Nat.zero_le _, Nat.zero_le _⟩⟩
      · exact Cm.sameT ((Cm.same_new np6).trans ((Cm.same_new np7).trans (Cm.same_new nbl))) Cm.sqt_new
      · exact Cm.sameT ((Cm.same_new np7).trans (Cm.same_new nbl)) Cm.sqt_new
    have hS5 := s58.seq hS4
    have hc5 := Cm.sameT s58 hc4
    have hcm5 := Cm.sameT s58 hcm
    have hvsm5 := hvsm.keep (Same.tups s58)
    have hbl5 : upd (upd (upd (upd H4 p5 (.tup [])) p6 (.tup [])) p7 (.tup [.ref p5, v42, .ref p6])) bl (.lst [.ref p7]) bl = some (.lst [.ref p7]) := upd_same
    generalize upd (upd (upd (upd H4 p5 (.tup [])) p6 (.tup [])) p7 (.tup [.ref p5, v42, .ref p6])) bl (.lst [.ref p7]) = H5 at be0 hS5 hc5 hcm5 hvsm5 hbl5 ⊢
    have hneS : ∀ p : Addr, ns.map V.int ≠ [V.ref p] := fun p e => by
      cases ns with
      | nil => cases e
      | cons x ns => cases e
    -- for maker in program[1]
    refine ⟨_, rfl, c4, _, _, _, rfl, rfl, hc5, at1, cm, rfl, ⟨_, hcm5⟩, ?_⟩
    refine for_tup (K := K) (a := cm) (xs := vsm) (fun i' σ H6 => ∃ x5 x6 x7 x8 x9 x10 x11 x12 x13 x14 x15 x16 x17 x18 : Option V, ∃ vs : List V, σ = [some (.ref sc), some (.int (0 + i)), some (.ref p3), some (.ref c4), some (.ref bl), x5, x6, x7, x8, x9, x10, x11, x12, x13, x14, x15, x16, x17, x18] ∧ Keep bl H5 H6 ∧ H6 bl = some (.lst vs) ∧ vs ≠ [] ∧ vs.length ≤ 1 + 4 * i' ∧ ∀ v ∈ vs, BE K H6 v)
      ⟨x5, x6, x7, x8, x9, x10, x11, x12, x13, x14, x15, x16, x17, x18, [.ref p7], rfl, Keep.refl _ _, hbl5, (fun e => by cases e), (by show 1 ≤ 1 + 4 * 0; decide), fun v hv => by rw [List.mem_singleton.mp hv]; exact be0⟩ (fun i' σ H6 _ ⟨_, _, _, _, _, _, _, _, _, _, _, _, _, _, _, _, k6, _⟩ => (k6.tups hbl5).sqt hcm5) (fun i' x σ H6 hx ⟨x5, x6, x7, x8, x9, x10, x11, x12, x13, x14, x15, x16, x17, x18, vs, e, k6, hbl6, nvs, lvs, bvs⟩ => ?_) fun σ H6 ⟨x5, x6, x7, x8, x9, x10, x11, x12, x13, x14, x15, x16, x17, x18, vs, e, k6, hbl6, nvs, lvs, bvs⟩ => ?_
    · subst e
      obtain ⟨md, hmd, rm⟩ := rps_at (hvsm5.keep (k6.tups hbl5)) hx
      have hi' : i' < 2 := by
        have := (List.getElem?_eq_some_iff.mp hmd).1
        exact this
      obtain ⟨m, om, rfl⟩ : ∃ m : MkD, m.Ok ∧ md = m.d := by
        match i', hmd with
        | 0, h => cases h; exact ⟨m1, o1, rfl⟩
        | 1, h => cases h; exact ⟨m2, o2, rfl⟩
        | i' + 2, h => cases h
      obtain ⟨cmk, vk, rfl, hcmk, hvk⟩ := rm.tup_inv
      obtain ⟨k0, vk, rfl, rk0, hvk⟩ := hvk.cons_inv
      obtain ⟨k1, vk, rfl, rk1, hvk⟩ := hvk.cons_inv
      obtain ⟨k2, vk, rfl, rk2, hvk⟩ := hvk.cons_inv
      obtain ⟨k3, vk, rfl, rk3, hvk⟩ := hvk.cons_inv
      cases hvk.nil_inv
      obtain ⟨cp, xp, rfl, hcp, hxp⟩ := rk1.tup_inv
      obtain ⟨cf, xf, rfl, hcf, hxf⟩ := rk2.tup_inv
      obtain ⟨cr, xr, rfl, hcr, hxr⟩ := rk3.tup_inv
      -- fields
      refine ⟨_, rfl, cmk, _, _, _, rfl, rfl, hcmk, at1, cp, rfl, ⟨_, hcp⟩, fun D1 nD1 => comp_at1 hcp hxp (at1_pars m) nD1 (by decide) (fun _ => rfl) (fun _ => rfl) fun H7 s7 hD1 => ?_⟩
      refine ⟨_, rfl, cmk, _, _, _, rfl, rfl, Cm.sameT s7 hcmk, at2, cf, rfl, ⟨_, Cm.sameT s7 hcf⟩, fun D2 nD2 => comp_at1 (Cm.sameT s7 hcf) (hxf.keep (Same.tups s7)) (at1_flds m) nD2 (by decide) (fun _ => rfl) (fun _ => rfl) fun H8 s8 hD2 => ?_⟩
      refine ⟨D1, D2, _, _, rfl, rfl, s8 _ _ hD1, hD2, Cm.small (by decide), fun fl nfl => ?_⟩
      have s9 := (s7.trans s8).trans (Cm.same_new (o := .lst ((["o", "n"] : List Str).map V.str ++ (["p", "m"] : List Str).map V.str)) nfl)
      have hfl : upd H8 fl (.lst ((["o", "n"] : List Str).map V.str ++ (["p", "m"] : List Str).map V.str)) fl = some (.lst (fieldS.map V.str)) := upd_same
      generalize upd H8 fl (.lst ((["o", "n"] : List Str).map V.str ++ (["p", "m"] : List Str).map V.str)) = H9 at s9 hfl ⊢
      have k9 := k6.trans (Keep.of s9)
      have hbl9 := s9 _ _ hbl6
      have bvs9 : ∀ v ∈ vs, BE K H9 v := fun v hv => (bvs v hv).same s9
      have hfb : fl ≠ bl := fun z => by
        rw [z, hbl9] at hfl
        have e2 : vs = fieldS.map V.str := by cases hfl; rfl
        obtain ⟨_, _, _, _, _, e3, _⟩ := bvs9 (.str "o") (by rw [e2]; decide)
        cases e3
      have hcr9 := Cm.sameT s9 hcr
      have hxr9 := hxr.keep (Same.tups s9)
      -- for name, params, result, block in maker[3]
      refine ⟨_, rfl, cmk, _, _, _, rfl, rfl, Cm.sameT s9 hcmk, at3, cr, rfl, ⟨_, hcr9⟩, ?_⟩
      refine for_tup (K := K) (a := cr) (xs := xr) (fun j σ H10 => ∃ x7 x8 x9 x10 x11 x12 x13 x14 x15 x16 x17 x18 : Option V, ∃ ws : List V, σ = [some (.ref sc), some (.int (0 + i)), some (.ref p3), some (.ref c4), some (.ref bl), some (.ref cmk), some (.ref fl), x7, x8, x9, x10, x11, x12, x13, x14, x15, x16, x17, x18] ∧ Keep bl H9 H10 ∧ H10 bl = some (.lst ws) ∧ ws ≠ [] ∧ ws.length ≤ vs.length + j ∧ ∀ v ∈ ws, BE K H10 v)
        ⟨x7, x8, x9, x10, x11, x12, x13, x14, x15, x16, x17, x18, vs, rfl, Keep.refl _ _, hbl9, nvs, Nat.le_refl _, bvs9⟩ (fun j σ H10 _ ⟨_, _, _, _, _, _, _, _, _, _, _, _, _, _, k10, _⟩ => (k10.tups hbl9).sqt hcr9) (fun j y σ H10 hy ⟨x7, x8, x9, x10, x11, x12, x13, x14, x15, x16, x17, x18, ws, e, k10, hbl10, nws, lws, bws⟩ => ?_) fun σ H10 ⟨x7, x8, x9, x10, x11, x12, x13, x14, x15, x16, x17, x18, ws, e, k10, hbl10, nws, lws, bws⟩ => ?_
      · subst e
        obtain ⟨rd, hrd, ry⟩ := rps_at (hxr9.keep (k10.tups hbl9)) hy
        obtain ⟨xn, pd, pn, kd, bb, rfl, hat, okb⟩ := rows_of m om rd (List.mem_of_getElem? hrd)
        obtain ⟨co, vo, rfl, hco, hvo⟩ := ry.tup_inv
        obtain ⟨q0, vo, rfl, rq0, hvo⟩ := hvo.cons_inv
        obtain ⟨q1, vo, rfl, rq1, hvo⟩ := hvo.cons_inv
        obtain ⟨q2, vo, rfl, rq2, hvo⟩ := hvo.cons_inv
        obtain ⟨q3, vo, rfl, rq3, hvo⟩ := hvo.cons_inv
        cases hvo.nil_inv
        obtain ⟨cq, xq, rfl, hcq, hxq⟩ := rq1.tup_inv
        have hj : j < 4 := (List.getElem?_eq_some_iff.mp hrd).1
        refine ⟨co, _, rfl, hco, rfl, _, _, rfl, _, _, rfl, _, _, rfl, _, _, rfl, rfl, ?_⟩
        refine ⟨_, rfl, .inl ⟨rfl, _, SqL.of hbl10⟩, _, rfl, cq, rfl, ⟨_, hcq⟩, fun D nD => comp_at0 hcq hxq hat nD (by have := okb.pl; show pn.length ≤ 1000; have h10 : pn.length ≤ 10 := this; omega) (fun _ _ => rfl) (fun _ _ => rfl) fun H11 s11 hD => ?_⟩
        refine ⟨_, rfl, _, rfl, Cm.small (by show 3 ≤ 100000; decide), fun p12 np12 => ?_⟩
        have s12 := s11.trans (Cm.same_new (o := .tup [.ref D, q3, .ref fl]) np12)
        have hbl12 := s12 _ _ hbl10
        refine ⟨bl, ws, _, rfl, rfl, hbl12, Cm.smallL (by omega), ?_⟩
        have be12 : BE K (upd H11 p12 (.tup [.ref D, q3, .ref fl])) (.ref p12) := ⟨p12, _, _, _, ⟨pn, fieldS, bb⟩, rfl, Cm.sqt_new, ⟨D, rfl, .inl ((Cm.same_new np12) _ _ hD)⟩, rq3.keep (Same.tups s12), ⟨fl, rfl, .inl (s12 _ _ (k10 _ _ hfl hfb))⟩, okb⟩
        have bws12 : ∀ v ∈ ws, BE K (upd H11 p12 (.tup [.ref D, q3, .ref fl])) v := fun v hv => (bws v hv).same s12
        refine ⟨_, _, _, _, _, _, _, _, _, _, _, _, _, rfl, ?_, upd_same, (by simp), (by rw [List.length_append, List.length_singleton]; omega), fun v hv => ?_⟩
        · exact (k10.trans (Keep.of s12)).trans fun q' o' h' ne => (upd_ne ne).trans h'
        · rcases List.mem_append.mp hv with h | h
          · exact (bws12 v h).push hbl12 bws12 nws
          · rw [List.mem_singleton.mp h]
            exact be12.push hbl12 bws12 nws
      · subst e
        have hxl : xr.length = 4 := hxr.len
        rw [hxl] at lws
        exact ⟨_, _, _, _, _, _, _, _, _, _, _, _, _, _, ws, rfl, k9.trans k10, hbl10, nws, by omega, bws⟩
    · subst e
      have hml : vsm.length = 2 := hvsm.len
      rw [hml] at lvs
      have hS6 : SqL K H6 sc (ns.map V.int) := k6.seq hbl5 (hneS p7) hS5
      clear hS5 hc5 hcm5 hvsm5 be0 hbl5 k6 hvsm hcm r42 r41 r40 r4 hc4 hS4 hL hp3
      -- for params, block, fields in blocks
      refine ⟨_, rfl, bl, rfl, ⟨vs, SqL.of hbl6⟩, ?_⟩
      refine for_list (K := K) (a := bl) (xs := vs) (fun j σ H7 => ∃ x5 x6 x7 x8 x9 x10 x11 x12 x13 x14 x15 x16 x17 x18 : Option V, σ = [some (.ref sc), some (.int (0 + i)), some (.ref p3), some (.ref c4), some (.ref bl), x5, x6, x7, x8, x9, x10, x11, x12, x13, x14, x15, x16, x17, x18] ∧ Same H6 H7)
        ⟨x5, x6, x7, x8, x9, x10, x11, x12, x13, x14, x15, x16, x17, x18, rfl, Same.refl _⟩ (fun j σ H7 _ ⟨_, _, _, _, _, _, _, _, _, _, _, _, _, _, _, s7⟩ => SqL.of (s7 _ _ hbl6)) (fun jj y σ H7 hy ⟨x5, x6, x7, x8, x9, x10, x11, x12, x13, x14, x15, x16, x17, x18, e, s7⟩ => ?_) fun σ H7 ⟨x5, x6, x7, x8, x9, x10, x11, x12, x13, x14, x15, x16, x17, x18, e, s7⟩ => ?_
      · subst e
        obtain ⟨p, pv, bv, fv, xd, rfl, hp, hpv, rb, hfv, okx⟩ := (bvs y (List.mem_of_getElem? hy)).same s7
        have s7' := s7
        clear bvs hbl6 hS6 hy
        obtain ⟨ok, so, plen, flen⟩ := okx
        obtain ⟨ps, fs, b'⟩ := xd
        dsimp only at hpv rb hfv ok so plen flen
        clear ob
        obtain ⟨ap, rfl, hap⟩ := hpv.sq
        obtain ⟨af, rfl, haf⟩ := id hfv.sq
        have bdep := ok.dp
        have bsz := ok.sz
        have bwf := ok.wf
        have blay := ok.lay
        have lsz := Ss.lets_sz b'
        refine ⟨p, _, rfl, hp, rfl, _, _, rfl, _, _, rfl, _, _, rfl, rfl, ?_⟩
        -- names
        refine ⟨_, rfl, ap, _, rfl, hap, fun l0 nl0 => ⟨_, rfl, bv, b', rfl, rb.keep (Same.tups (Cm.same_new nl0)), bwf, by omega, by omega, fun H8 p8 s8 n8 h8 => ?_⟩⟩
        refine ⟨l0, p8, _, _, rfl, rfl, s8 _ _ upd_same, h8, (by rw [sizeLine_eq]; simp only [List.length_map]; omega), fun nl nnl => ?_⟩
        have t9 := ((Cm.same_new (o := .lst (ps.map V.str)) nl0).trans s8).trans (Cm.same_new (o := .lst (ps.map V.str ++ b'.lets.map V.str)) nnl)
        have hnl : upd H8 nl (.lst (ps.map V.str ++ b'.lets.map V.str)) nl = some (.lst ((ps ++ b'.lets).map V.str)) := by
          rw [upd_same, List.map_append]
        generalize upd H8 nl (.lst (ps.map V.str ++ b'.lets.map V.str)) = H9 at t9 hnl ⊢
        generalize hNS : ps ++ b'.lets = NS at hnl
        have nso : ∀ y ∈ NS, PyData.strOk y = true := fun y hy => by
          rw [← hNS] at hy
          rcases List.mem_append.mp hy with h | h
          · exact so y h
          · exact Ss.letsOk b' blay y h
        have nsl : NS.length ≤ 6000 := by
          rw [← hNS, List.length_append]
          omega
        have husesN : ∀ y ∈ b'.uses, y ∈ fs ++ NS := fun y hy => by
          rw [← hNS]
          rcases ok.us y hy with h | h
          · rcases List.mem_append.mp h with h | h
            · exact List.mem_append_left _ h
            · exact List.mem_append_right _ (List.mem_append_left _ h)
          · exact List.mem_append_right _ (List.mem_append_right _ h)
        -- places
        refine fun pd npd => ?_
        have hap9 : SqL K H9 ap (ps.map V.str) ∨ SqT K H9 ap (ps.map V.str) := hap.imp t9.seq (Cm.sameT t9)
        have rb9 := rb.keep (Same.tups t9)
        have hfv9 := hfv.same t9
        have haf9 : SqL K H9 af (fs.map V.str) ∨ SqT K H9 af (fs.map V.str) := haf.imp t9.seq (Cm.sameT t9)
        have sP := Cm.same_new (o := .dK []) npd
        refine ⟨_, rfl, af, _, rfl, (haf9.imp sP.seq (Cm.sameT sP)), _, rfl, (by rw [List.length_map]; omega), (by rw [List.length_map]; omega), ?_⟩
        refine for_range (fun j σ H10 => ∃ (x13 x14 x15 x16 x17 x18 : Option V) (pl : Plc) (kvs : List (Key × V)), σ = [some (.ref sc), some (.int (0 + i)), some (.ref p3), some (.ref c4), some (.ref bl), x5, some (.ref af), x7, some (.ref ap), x9, some bv, some (.ref nl), some (.ref pd), x13, x14, x15, x16, x17, x18] ∧ Same H9 H10 ∧ PlI K H10 pd j (fs.take j) pl kvs)
          ⟨x13, x14, x15, x16, x17, x18, _, _, rfl, sP, PlI.new npd⟩ (fun j σ H10 hj ⟨x13, x14, x15, x16, x17, x18, pl, kvs, e, s10, pi⟩ => ?_) fun σ H10 ⟨x13, x14, x15, x16, x17, x18, pl, kvs, e, s10, pi⟩ => ?_
        · subst e
          have hj' : j < fs.length := by
            have h := hj
            rw [List.length_map] at h
            omega
          have ex := List.getElem?_eq_getElem hj'
          generalize fs[j] = xn at ex
          have haf10 : SqL K H10 af (fs.map V.str) := by
            obtain ⟨a2, e2, h | ⟨h1, h2⟩⟩ := hfv9.same s10
            · cases e2
              exact SqL.of h
            · subst h1
              exact absurd hj' (Nat.not_lt_zero _)
          refine ⟨_, rfl, Cm.small (by show 2 ≤ 100000; decide), fun q nq => ?_⟩
          have sq := Cm.same_new (o := .tup [.str "field", .int (0 + (j : Int))]) nq
          have piq := pi.same sq
          refine ⟨_, rfl, _, rfl, _, rfl, af, _, _, _, rfl, rfl, sq.seq haf10, at_map ex, pd, _, rfl, DPut.k (k := .inr xn) piq.h (Cm.smallL (by have := piq.len; omega)), ?_⟩
          have pi2 := piq.put (x := xn) (w := "field") (j := 0 + (j : Int)) (q := q) Cm.sqt_new (.inr rfl)
          rw [← take_put ex] at pi2
          exact ⟨_, _, _, _, _, _, _, _, rfl, Cm.same_mut (s10.trans sq) npd, pi2⟩
        subst e
        rw [List.length_map] at pi
        have efs : (fs.length : Int).toNat = fs.length := Int.toNat_natCast _
        rw [efs, List.take_length] at pi
        have t10 := s10
        -- for j in range(len(names))
        refine ⟨_, rfl, nl, _, rfl, .inl (SqL.of (t10 _ _ hnl)), _, rfl, (by rw [List.length_map]; omega), (by rw [List.length_map]; omega), ?_⟩
        refine for_range (fun j σ H11 => ∃ (x13 x14 x15 x16 x17 x18 : Option V) (pl : Plc) (kvs : List (Key × V)), σ = [some (.ref sc), some (.int (0 + i)), some (.ref p3), some (.ref c4), some (.ref bl), x5, some (.ref af), x7, some (.ref ap), x9, some bv, some (.ref nl), some (.ref pd), x13, x14, x15, x16, x17, x18] ∧ Same H9 H11 ∧ PlI K H11 pd (fs.length + j) (fs ++ NS.take j) pl kvs)
          ⟨x13, x14, x15, x16, x17, x18, pl, kvs, rfl, t10, (by rw [List.take_zero, List.append_nil]; exact pi)⟩ (fun j σ H11 hj ⟨x13, x14, x15, x16, x17, x18, pl, kvs, e, s11, pi⟩ => ?_) fun σ H11 ⟨x13, x14, x15, x16, x17, x18, pl, kvs, e, s11, pi⟩ => ?_
        · subst e
          have hj' : j < NS.length := by
            have h := hj
            rw [List.length_map] at h
            omega
          have ex := List.getElem?_eq_getElem hj'
          generalize NS[j] = xn at ex
          refine ⟨_, rfl, Cm.small (by show 2 ≤ 100000; decide), fun q nq => ?_⟩
          have sq := Cm.same_new (o := .tup [.str "local", .int (0 + (j : Int))]) nq
          have piq := pi.same sq
          refine ⟨_, rfl, _, rfl, _, rfl, nl, _, _, _, rfl, rfl, SqL.of ((s11.trans sq) _ _ hnl), at_map ex, pd, _, rfl, DPut.k (k := .inr xn) piq.h (Cm.smallL (by have := piq.len; omega)), ?_⟩
          have pi2 := piq.put (x := xn) (w := "local") (j := 0 + (j : Int)) (q := q) Cm.sqt_new (.inl rfl)
          rw [List.append_assoc, ← take_put ex] at pi2
          exact ⟨_, _, _, _, _, _, _, _, rfl, Cm.same_mut (s11.trans sq) npd, pi2⟩
        subst e
        rw [List.length_map, Int.toNat_natCast, List.take_length] at pi
        clear efs
        -- kept, told
        refine ⟨_, rfl, pd, kvs, rfl, .inl pi.h, fun pk npk => ?_⟩
        have sk := Cm.same_new (o := .dK kvs) npk
        have pik := pi.same sk
        have hpk : upd H11 pk (.dK kvs) pk = some (.dK kvs) := upd_same
        have s12 := s11.trans sk
        generalize upd H11 pk (.dK kvs) = H12 at pik hpk s12 ⊢
        refine ⟨_, rfl, _, rfl, pd, bv, b', pl, fs ++ NS, rfl, pik.pl, rb9.keep (Same.tups s12), bwf, husesN, by omega, by omega, fun H13 u13 s13 r13 => ?_⟩
        refine ⟨_, rfl, _, rfl, _, rfl, bv, pd, 0, b', pl, fs ++ NS, rfl, (pik.same s13).pl, rb9.keep (Same.tups (s12.trans s13)), bwf, husesN, by omega, by omega, fun H14 u14 s14 l14 => ?_⟩
        obtain ⟨l14a, xs14, rfl, h14, r14⟩ := l14
        refine ⟨l14a, xs14, rfl, .inl ⟨SqL.of h14, fun p15 np15 => ?_⟩⟩
        have s15 := Cm.same_new (o := .tup xs14) np15
        have r15 : Rp K (upd H14 p15 (.tup xs14)) (.ref p15) (.tuple (b'.code pl 0)) := Rp.made np15 r14
        refine ⟨_, _, (r13.keep (Same.tups (s14.trans s15))).dp, r15.dp, shaped_code pi.ok blay, shaped_code pi.ok blay, _, rfl, Cm.itBn (fun e => absurd (eqv_code pi.ok blay) (by rw [e]; decide)) (fun _ => ?_)⟩
        have t15 := (s13.trans s14).trans s15
        have s16 := s12.trans t15
        generalize upd H14 p15 (.tup xs14) = H16 at t15 s16 ⊢
        have pi16 := pik.same t15
        refine ⟨_, rfl, _, rfl, pd, pk, kvs, rfl, rfl, pi16.h, t15 _ _ hpk, pi.nd, pi.calm, _, rfl, ?_⟩
        -- local_names
        refine ⟨_, rfl, ap, _, rfl, hap9.imp s16.seq (Cm.sameT s16), fun l17 nl17 => ?_⟩
        have s17 := s16.trans (Cm.same_new (o := .lst (ps.map V.str)) nl17)
        refine ⟨_, rfl, l17, ps, bv, b', rfl, upd_same, by omega, rb9.keep (Same.tups s17), bwf, by omega, by omega, fun H18 p18 s18 h18 => ?_⟩
        have s19 := s17.trans s18
        rw [hNS] at h18
        refine ⟨_, rfl, _, _, dp_strs h18, dp_strs (s19 _ _ hnl), shaped_strs nso, shaped_strs nso, _, rfl, Cm.itBn (fun e => absurd (SeqAt.eqv_refl _ (SeqAt.canLay_of_shaped (shaped_strs nso))) (by rw [e]; decide)) (fun _ => ?_)⟩
        have pi19 := pik.same (t15.trans ((Cm.same_new (o := .lst (ps.map V.str)) nl17).trans s18))
        clear r13 r14 r15 h14 h18 pi16 pi
        -- for j in range(min(3, len(block)))
        obtain ⟨cb, vb, rfl, hcb, hlb⟩ := len_rp (rb9.keep (Same.tups s19))
        have hlz := szB b'
        refine ⟨_, rfl, cb, _, rfl, .inr hcb, _, _, rfl, _, rfl, ?_, ?_, ?_⟩
        · split <;> omega
        · split <;> omega
        refine for_range (fun j σ H20 => ∃ x13 x14 x15 x16 x17 x18 : Option V, σ = [some (.ref sc), some (.int (0 + i)), some (.ref p3), some (.ref c4), some (.ref bl), x5, some (.ref af), x7, some (.ref ap), x9, some (.ref cb), some (.ref nl), some (.ref pd), x13, x14, x15, x16, x17, x18] ∧ Same H18 H20)
          ⟨_, _, _, _, _, _, rfl, Same.refl _⟩ (fun j σ H20 hj ⟨x13, x14, x15, x16, x17, x18, e, s20⟩ => ?_) fun σ H20 ⟨x13, x14, x15, x16, x17, x18, e, s20⟩ => ?_
        · subst e
          have hj' : j ≤ b'.ds.length := by
            have h := hj
            rw [hlb] at h
            revert h
            split <;> omega
          rw [Int.zero_add]
          obtain ⟨d1, d2, d3, d4, d5⟩ := dropN_all b' j
          have rb20 := rb9.keep (Same.tups (s19.trans s20))
          refine ⟨_, rfl, _, rfl, _, rfl, _, rfl, ?_⟩
          unfold tNoPart
          dsimp only
          refine from_rp (k := j) rb20 hj' fun u21 H21 s21 r21 => ?_
          rw [← dropN_ds] at r21
          have pi21 := pi19.same (s20.trans s21)
          refine ⟨pd, u21, Ss.dropN b' j, pl, fs ++ NS, rfl, pi21.pl, r21, d1 bwf, fun x hx => husesN x (d2 x hx), by omega, by omega, fun H22 u22 s22 r22 => ?_⟩
          refine ⟨_, rfl, _, rfl, _, rfl, ?_⟩
          refine from_rp (k := j) (rb20.keep (Same.tups (s21.trans s22))) hj' fun u23 H23 s23 r23 => ?_
          rw [← dropN_ds] at r23
          have pi23 := pi21.same (s22.trans s23)
          refine ⟨_, rfl, u23, pd, 0, Ss.dropN b' j, pl, fs ++ NS, rfl, pi23.pl, r23, d1 bwf, fun x hx => husesN x (d2 x hx), by omega, by omega, fun H24 u24 s24 l24 => ?_⟩
          obtain ⟨la, xs24, rfl, h24, r24⟩ := l24
          refine ⟨la, xs24, rfl, .inl ⟨SqL.of h24, fun p25 np25 => ?_⟩⟩
          have s25 := Cm.same_new (o := .tup xs24) np25
          have r25 : Rp K (upd H24 p25 (.tup xs24)) (.ref p25) (.tuple ((Ss.dropN b' j).code pl 0)) := Rp.made np25 r24
          have ls := d5 blay
          refine ⟨_, _, (r22.keep (Same.tups ((s23.trans s24).trans s25))).dp, r25.dp, shaped_code pi21.ok ls, shaped_code pi21.ok ls, _, rfl, Cm.itBn (fun e => absurd (eqv_code pi21.ok ls) (by rw [e]; decide)) (fun _ => ?_)⟩
          exact ⟨_, _, _, _, _, _, rfl, s20.trans (((s21.trans s22).trans (s23.trans s24)).trans s25)⟩
        subst e
        exact ⟨_, _, _, _, _, _, _, _, _, _, _, _, _, _, rfl, s7.trans (t9.trans (s19.trans s20))⟩
      · subst e
        exact ⟨_, _, _, _, _, _, _, _, _, _, _, _, _, _, _, _, _, _, rfl, s7.seq hS6⟩
  · subst e
    -- compiled_block({}, ()) == ()
    refine fun pd npd => ⟨Nat.zero_le _, fun p2 np2 => ⟨pd, .ref p2, .nil, (fun _ => ("local", 0)), [], rfl, ⟨[], (Cm.same_new np2) _ _ upd_same, fun x h => (nomatch h)⟩, Rp.made np2 .nil, rfl, fun x h => (nomatch h), (by decide), (by decide), fun H3 u3 s3 r3 => ⟨Nat.zero_le _, fun p4 np4 => ?_⟩⟩⟩
    refine ⟨_, _, (r3.keep (Same.tups (Cm.same_new np4))).dp, (Rp.made np4 .nil).dp, by decide +kernel, by decide +kernel, ?_⟩
    exact q _
def fn : List He.DefD := [⟨("blocks_in", none), "blocks_in", "blocks_in", defArgs s_blocks_in, defBody s_blocks_in, defScope s_blocks_in, [], []⟩,
  ⟨("let_names", none), "let_names", "let_names", defArgs s_let_names, defBody s_let_names, defScope s_let_names, [], []⟩,
  ⟨("local_names", none), "local_names", "local_names", defArgs s_local_names, defBody s_local_names, defScope s_local_names, [], []⟩,
  ⟨("compiled_block", none), "compiled_block", "compiled_block", defArgs s_compiled_block, defBody s_compiled_block, defScope s_compiled_block, [], []⟩,
  ⟨("_block_code", none), "_block_code", "_block_code", defArgs s_block_code, defBody s_block_code, defScope s_block_code, [], []⟩,
  ⟨("_statement_code", none), "_statement_code", "_statement_code", defArgs s_statement_code, defBody s_statement_code, defScope s_statement_code, [], []⟩,
  ⟨("_if_code", none), "_if_code", "_if_code", defArgs s_if_code, defBody s_if_code, defScope s_if_code, [], []⟩,
  ⟨("_while_code", none), "_while_code", "_while_code", defArgs s_while_code, defBody s_while_code, defScope s_while_code, [], []⟩,
  ⟨("_row_code", none), "_row_code", "_row_code", defArgs s_row_code, defBody s_row_code, defScope s_row_code, [], []⟩,
  ⟨("_call_code", none), "_call_code", "_call_code", defArgs s_call_code, defBody s_call_code, defScope s_call_code, [], []⟩,
  ⟨("_expression_code", none), "_expression_code", "_expression_code", defArgs s_expression_code, defBody s_expression_code, defScope s_expression_code, [], []⟩,
  ⟨("_choice_code", none), "_choice_code", "_choice_code", defArgs s_choice_code, defBody s_choice_code, defScope s_choice_code, [], []⟩,
  ⟨("_law_cell", none), "_law_cell", "_law_cell", defArgs s_lw_cell, defBody s_lw_cell, defScope s_lw_cell, [], []⟩,
  ⟨("_law_numbers", none), "_law_numbers", "_law_numbers", defArgs s_lw_numbers, defBody s_lw_numbers, defScope s_lw_numbers, [], []⟩,
  ⟨("_law_pick", none), "_law_pick", "_law_pick", defArgs s_lw_pick, defBody s_lw_pick, defScope s_lw_pick, [], []⟩,
  ⟨("_law_int", none), "_law_int", "_law_int", defArgs s_lw_int, defBody s_lw_int, defScope s_lw_int, [], []⟩,
  ⟨("_law_object", none), "_law_object", "_law_object", defArgs s_lw_object, defBody s_lw_object, defScope s_lw_object, [], []⟩,
  ⟨("_law_receiver", none), "_law_receiver", "_law_receiver", defArgs s_lw_receiver, defBody s_lw_receiver, defScope s_lw_receiver, [], []⟩,
  ⟨("_law_block", none), "_law_block", "_law_block", defArgs s_lw_block, defBody s_lw_block, defScope s_lw_block, [], []⟩,
  ⟨("_law_maker", none), "_law_maker", "_law_maker", defArgs s_lw_maker, defBody s_lw_maker, defScope s_lw_maker, [], []⟩,
  ⟨("_law_interface", none), "_law_interface", "_law_interface", defArgs s_lw_interface, defBody s_lw_interface, defScope s_lw_interface, [], []⟩,
  ⟨("_law_program", none), "_law_program", "_law_program", defArgs s_lw_program, defBody s_lw_program, defScope s_lw_program, [], []⟩,
  ⟨("_law_code", none), "_law_code", "_law_code", defArgs s_lw_code, defBody s_lw_code, defScope s_lw_code, [], []⟩,
  ⟨("_law_block_code", none), "_law_block_code", "_law_block_code", defArgs s_lw_block_code, defBody s_lw_block_code, defScope s_lw_block_code, [], []⟩,
  ⟨("_law_lets", none), "_law_lets", "_law_lets", defArgs s_lw_lets, defBody s_lw_lets, defScope s_lw_lets, [], []⟩,
  ⟨("law", none), "law", "law", defArgs s_law, defBody s_law, defScope s_law, [], []⟩]
def fas : List He.Fa := [.glo "blocks_in", .glo "let_names", .glo "local_names", .glo "compiled_block", .glo "_block_code", .glo "_statement_code", .glo "_if_code", .glo "_while_code", .glo "_row_code", .glo "_call_code", .glo "_expression_code", .glo "_choice_code", .glo "_law_cell", .glo "_law_numbers", .glo "_law_pick", .glo "_law_int", .glo "_law_object", .glo "_law_receiver", .glo "_law_block", .glo "_law_maker", .glo "_law_interface", .glo "_law_program", .glo "_law_code", .glo "_law_block_code", .glo "_law_lets", .glo "law", .free "len", .free "range", .free "int", .free "tuple", .free "str", .free "min", .free "max", .free "dict", .free "list"]
def tabs : List He.Tab := []
def okX (K : PySem.W.Frag) : Bool := true
abbrev R : PySem.W.OpenRow := PySem.W.OpenLaw.row PySem.Challenge.rw_portage_k21_code_by_its_rules
abbrev hk : PySem.W.Hook := Cm.hookX 4 fas fn tabs okX
def ob (s : PySem.W.SharedT) : Cm.AlX := Cm.obsXG 4 fas fn tabs okX (HandSHeadRun.getT s)
theorem ob_eq (s : PySem.W.SharedT) : ob s = hk.obs s.abs := Cm.obsXG_eq (HandSHeadRun.getT_eq s)
abbrev loose : List Str := (["blocks_in", "let_names", "local_names", "compiled_block", "_block_code", "_statement_code", "_if_code", "_while_code", "_row_code", "_call_code", "_expression_code", "_choice_code", "_law_cell", "_law_numbers", "_law_pick", "_law_int", "_law_object", "_law_receiver", "_law_block", "_law_maker", "_law_interface", "_law_program", "_law_code", "_law_block_code", "_law_lets"] : List Str)
theorem run (w : World) : HandSHeadRun.RunEq R (PySem.W.view R.prog [28]) hk ob 3000 loose w := by
  intro os
  kernel_rfl
theorem facts {P : Program} {w : World} {K : PySem.W.Frag} {h : Heap} {mg : Str → Option Value} {f : Addr} (X : K.In h) (G : h.Ns mainGlobals mg) (hfa : mg ("law" : Str) = some (.ref f)) (ok : okX K = true) (c : He.SaysT fas fn tabs w K) :
    ∃ fd : FuncData, (∀ (s : Shared) (v : Value), BindsTo s fd ⟨[v], []⟩ [("script", v)]) ∧ ∀ base : Heap, K.In base → base.Ns mainGlobals mg → FnOk P w K mg base CX0 85 f fd ["script"] (spLaw K) := by
  obtain ⟨d_blocks_in, F_blocks_in⟩ := c.d.def_ 0 rfl
  obtain ⟨d_let_names, F_let_names⟩ := c.d.def_ 1 rfl
  obtain ⟨d_local_names, F_local_names⟩ := c.d.def_ 2 rfl
  obtain ⟨d_compiled_block, F_compiled_block⟩ := c.d.def_ 3 rfl
  obtain ⟨d_block_code, F_block_code⟩ := c.d.def_ 4 rfl
  obtain ⟨d_statement_code, F_statement_code⟩ := c.d.def_ 5 rfl
  obtain ⟨d_if_code, F_if_code⟩ := c.d.def_ 6 rfl
  obtain ⟨d_while_code, F_while_code⟩ := c.d.def_ 7 rfl
  obtain ⟨d_row_code, F_row_code⟩ := c.d.def_ 8 rfl
  obtain ⟨d_call_code, F_call_code⟩ := c.d.def_ 9 rfl
  obtain ⟨d_expression_code, F_expression_code⟩ := c.d.def_ 10 rfl
  obtain ⟨d_choice_code, F_choice_code⟩ := c.d.def_ 11 rfl
  obtain ⟨d_lw_cell, F_lw_cell⟩ := c.d.def_ 12 rfl
  obtain ⟨d_lw_numbers, F_lw_numbers⟩ := c.d.def_ 13 rfl
  obtain ⟨d_lw_pick, F_lw_pick⟩ := c.d.def_ 14 rfl
  obtain ⟨d_lw_int, F_lw_int⟩ := c.d.def_ 15 rfl
  obtain ⟨d_lw_object, F_lw_object⟩ := c.d.def_ 16 rfl
  obtain ⟨d_lw_receiver, F_lw_receiver⟩ := c.d.def_ 17 rfl
  obtain ⟨d_lw_block, F_lw_block⟩ := c.d.def_ 18 rfl
  obtain ⟨d_lw_maker, F_lw_maker⟩ := c.d.def_ 19 rfl
  obtain ⟨d_lw_interface, F_lw_interface⟩ := c.d.def_ 20 rfl
  obtain ⟨d_lw_program, F_lw_program⟩ := c.d.def_ 21 rfl
  obtain ⟨d_lw_code, F_lw_code⟩ := c.d.def_ 22 rfl
  obtain ⟨d_lw_block_code, F_lw_block_code⟩ := c.d.def_ 23 rfl
  obtain ⟨d_lw_lets, F_lw_lets⟩ := c.d.def_ 24 rfl
  obtain ⟨d_law, F_law⟩ := c.d.def_ 25 rfl
  have e := hfa.symm.trans (He.glo_ok X G (c.d.fact 25 (f := .glo "law") rfl))
  cases e
  have T : Txt K mg w ⟨d_blocks_in, d_let_names, d_local_names, d_compiled_block, d_block_code, d_statement_code, d_if_code, d_while_code, d_row_code, d_call_code, d_expression_code, d_choice_code, d_lw_cell, d_lw_numbers, d_lw_pick, d_lw_int, d_lw_object, d_lw_receiver, d_lw_block, d_lw_maker, d_lw_interface, d_lw_program, d_lw_code, d_lw_block_code, d_lw_lets, d_law⟩ := {
    F_blocks_in := F_blocks_in
    b_blocks_in := F_blocks_in.bindsN (ps := ["statement"]) fun _ _ _ _ _ _ us hl => match us, hl with | [_], _ => rfl
    g_blocks_in := He.glo_ok X G (c.d.fact 0 (f := .glo "blocks_in") rfl)
    F_let_names := F_let_names
    b_let_names := F_let_names.bindsN (ps := ["block"]) fun _ _ _ _ _ _ us hl => match us, hl with | [_], _ => rfl
    g_let_names := He.glo_ok X G (c.d.fact 1 (f := .glo "let_names") rfl)
    F_local_names := F_local_names
    b_local_names := F_local_names.bindsN (ps := ["params", "block"]) fun _ _ _ _ _ _ us hl => match us, hl with | [_, _], _ => rfl
    g_local_names := He.glo_ok X G (c.d.fact 2 (f := .glo "local_names") rfl)
    F_compiled_block := F_compiled_block
    b_compiled_block := F_compiled_block.bindsN (ps := ["names", "block"]) fun _ _ _ _ _ _ us hl => match us, hl with | [_, _], _ => rfl
    g_compiled_block := He.glo_ok X G (c.d.fact 3 (f := .glo "compiled_block") rfl)
    F_block_code := F_block_code
    b_block_code := F_block_code.bindsN (ps := ["names", "block", "at"]) fun _ _ _ _ _ _ us hl => match us, hl with | [_, _, _], _ => rfl
    g_block_code := He.glo_ok X G (c.d.fact 4 (f := .glo "_block_code") rfl)
    F_statement_code := F_statement_code
    b_statement_code := F_statement_code.bindsN (ps := ["names", "statement", "at"]) fun _ _ _ _ _ _ us hl => match us, hl with | [_, _, _], _ => rfl
    g_statement_code := He.glo_ok X G (c.d.fact 5 (f := .glo "_statement_code") rfl)
    F_if_code := F_if_code
    b_if_code := F_if_code.bindsN (ps := ["names", "statement", "at"]) fun _ _ _ _ _ _ us hl => match us, hl with | [_, _, _], _ => rfl
    g_if_code := He.glo_ok X G (c.d.fact 6 (f := .glo "_if_code") rfl)
    F_while_code := F_while_code
    b_while_code := F_while_code.bindsN (ps := ["names", "statement", "at"]) fun _ _ _ _ _ _ us hl => match us, hl with | [_, _, _], _ => rfl
    g_while_code := He.glo_ok X G (c.d.fact 7 (f := .glo "_while_code") rfl)
    F_row_code := F_row_code
    b_row_code := F_row_code.bindsN (ps := ["names", "expressions", "at"]) fun _ _ _ _ _ _ us hl => match us, hl with | [_, _, _], _ => rfl
    g_row_code := He.glo_ok X G (c.d.fact 8 (f := .glo "_row_code") rfl)
    F_call_code := F_call_code
    b_call_code := F_call_code.bindsN (ps := ["names", "call", "at"]) fun _ _ _ _ _ _ us hl => match us, hl with | [_, _, _], _ => rfl
    g_call_code := He.glo_ok X G (c.d.fact 9 (f := .glo "_call_code") rfl)
    F_expression_code := F_expression_code
    b_expression_code := F_expression_code.bindsN (ps := ["names", "expression", "at"]) fun _ _ _ _ _ _ us hl => match us, hl with | [_, _, _], _ => rfl
    g_expression_code := He.glo_ok X G (c.d.fact 10 (f := .glo "_expression_code") rfl)
    F_choice_code := F_choice_code
    b_choice_code := F_choice_code.bindsN (ps := ["names", "expression", "at"]) fun _ _ _ _ _ _ us hl => match us, hl with | [_, _, _], _ => rfl
    g_choice_code := He.glo_ok X G (c.d.fact 11 (f := .glo "_choice_code") rfl)
    F_lw_cell := F_lw_cell
    b_lw_cell := F_lw_cell.bindsN (ps := ["script", "k"]) fun _ _ _ _ _ _ us hl => match us, hl with | [_, _], _ => rfl
    g_lw_cell := He.glo_ok X G (c.d.fact 12 (f := .glo "_law_cell") rfl)
    F_lw_numbers := F_lw_numbers
    b_lw_numbers := F_lw_numbers.bindsN (ps := ["cell", "k", "many"]) fun _ _ _ _ _ _ us hl => match us, hl with | [_, _, _], _ => rfl
    g_lw_numbers := He.glo_ok X G (c.d.fact 13 (f := .glo "_law_numbers") rfl)
    F_lw_pick := F_lw_pick
    b_lw_pick := F_lw_pick.bindsN (ps := ["numbers", "at"]) fun _ _ _ _ _ _ us hl => match us, hl with | [_, _], _ => rfl
    g_lw_pick := He.glo_ok X G (c.d.fact 14 (f := .glo "_law_pick") rfl)
    F_lw_int := F_lw_int
    b_lw_int := F_lw_int.bindsN (ps := ["numbers", "at", "ints", "cells", "level", "depth"]) fun _ _ _ _ _ _ us hl => match us, hl with | [_, _, _, _, _, _], _ => rfl
    g_lw_int := He.glo_ok X G (c.d.fact 15 (f := .glo "_law_int") rfl)
    F_lw_object := F_lw_object
    b_lw_object := F_lw_object.bindsN (ps := ["numbers", "at", "ints", "cells", "level", "depth"]) fun _ _ _ _ _ _ us hl => match us, hl with | [_, _, _, _, _, _], _ => rfl
    g_lw_object := He.glo_ok X G (c.d.fact 16 (f := .glo "_law_object") rfl)
    F_lw_receiver := F_lw_receiver
    b_lw_receiver := F_lw_receiver.bindsN (ps := ["numbers", "at", "ints", "cells", "level", "depth"]) fun _ _ _ _ _ _ us hl => match us, hl with | [_, _, _, _, _, _], _ => rfl
    g_lw_receiver := He.glo_ok X G (c.d.fact 17 (f := .glo "_law_receiver") rfl)
    F_lw_block := F_lw_block
    b_lw_block := F_lw_block.bindsN (ps := ["numbers", "at", "ints", "cells", "level", "many", "mark"]) fun _ _ _ _ _ _ us hl => match us, hl with | [_, _, _, _, _, _, _], _ => rfl
    g_lw_block := He.glo_ok X G (c.d.fact 18 (f := .glo "_law_block") rfl)
    F_lw_maker := F_lw_maker
    b_lw_maker := F_lw_maker.bindsN (ps := ["numbers", "at", "name"]) fun _ _ _ _ _ _ us hl => match us, hl with | [_, _, _], _ => rfl
    g_lw_maker := He.glo_ok X G (c.d.fact 19 (f := .glo "_law_maker") rfl)
    F_lw_interface := F_lw_interface
    b_lw_interface := F_lw_interface.bindsN (ps := []) fun _ _ _ _ _ _ us hl => match us, hl with | [], _ => rfl
    g_lw_interface := He.glo_ok X G (c.d.fact 20 (f := .glo "_law_interface") rfl)
    F_lw_program := F_lw_program
    b_lw_program := F_lw_program.bindsN (ps := ["numbers", "many", "level"]) fun _ _ _ _ _ _ us hl => match us, hl with | [_, _, _], _ => rfl
    g_lw_program := He.glo_ok X G (c.d.fact 21 (f := .glo "_law_program") rfl)
    F_lw_code := F_lw_code
    b_lw_code := F_lw_code.bindsN (ps := ["node", "places", "base"]) fun _ _ _ _ _ _ us hl => match us, hl with | [_, _, _], _ => rfl
    g_lw_code := He.glo_ok X G (c.d.fact 22 (f := .glo "_law_code") rfl)
    F_lw_block_code := F_lw_block_code
    b_lw_block_code := F_lw_block_code.bindsN (ps := ["block", "places", "base"]) fun _ _ _ _ _ _ us hl => match us, hl with | [_, _, _], _ => rfl
    g_lw_block_code := He.glo_ok X G (c.d.fact 23 (f := .glo "_law_block_code") rfl)
    F_lw_lets := F_lw_lets
    b_lw_lets := F_lw_lets.bindsN (ps := ["block"]) fun _ _ _ _ _ _ us hl => match us, hl with | [_], _ => rfl
    g_lw_lets := He.glo_ok X G (c.d.fact 24 (f := .glo "_law_lets") rfl)
    F_law := F_law
    b_law := F_law.bindsN (ps := ["script"]) fun _ _ _ _ _ _ us hl => match us, hl with | [_], _ => rfl
    g_law := He.glo_ok X G (c.d.fact 25 (f := .glo "law") rfl)
    g_len := He.free_ok X G (c.d.fact 26 (f := .free "len") rfl)
    g_range := He.free_ok X G (c.d.fact 27 (f := .free "range") rfl)
    g_int := He.free_ok X G (c.d.fact 28 (f := .free "int") rfl)
    g_tuple := He.free_ok X G (c.d.fact 29 (f := .free "tuple") rfl)
    g_str := He.free_ok X G (c.d.fact 30 (f := .free "str") rfl)
    g_min := He.free_ok X G (c.d.fact 31 (f := .free "min") rfl)
    g_max := He.free_ok X G (c.d.fact 32 (f := .free "max") rfl)
    g_dict := He.free_ok X G (c.d.fact 33 (f := .free "dict") rfl)
    g_list := He.free_ok X G (c.d.fact 34 (f := .free "list") rfl)
  }
  have b := Cm.bindsA_of (x := "law") (st := s_law) (ps := ["script"]) F_law fun _ _ _ _ _ _ us hl => match us, hl with | [_], _ => rfl
  exact ⟨d_law, fun s v => b s [v] rfl, fun base _ _ => ok_law T⟩
end K21
open PySem PySem.W PySem.Calls PyProof.Rows
set_option maxHeartbeats 0 in
theorem PySem.Challenge.cw_portage_k21_code_by_its_rules_holds : PySem.Challenge.rw_portage_k21_code_by_its_rules.Holds := by
  w_on; o_law
  refine HandSHeadRun.head_any (r := OpenLaw.row PySem.Challenge.rw_portage_k21_code_by_its_rules) (q := view (OpenLaw.row PySem.Challenge.rw_portage_k21_code_by_its_rules).prog [28]) (H := K21.hk) (ob := K21.ob) (M := 3000) (loose := K21.loose) (d := HandSHeadRun.topDef (OpenLaw.row PySem.Challenge.rw_portage_k21_code_by_its_rules).prog 28) (kwd := []) K21.ob_eq
    (by kernel_rfl) (fun s => by kernel_rfl) K21.run (by kernel_rfl) (by kernel_rfl) (by kernel_rfl) (by rfl) (by first | assumption | decide +kernel) (by decide +kernel) ⟨rfl, rfl, rfl, rfl, rfl, by decide +kernel⟩ ?hw ?hc
  case hw => w_witness2
  case hc =>
    refine L2.walk_ofE (l := PySem.Challenge.rw_portage_k21_code_by_its_rules) (n := 63) (k := 85) (x := "script") (CX := L2.CX0) rfl (by decide) (by kernel_rfl) ⟨rfl, by decide, by decide⟩ ?F (fun _ _ _ _ z => z)
    intro w mg fa h Y G hmg0
    obtain ⟨K, KX, ok, c⟩ := Y
    have hmg : mg ("law" : PySem.Str) = some (.ref fa) := by
      have e : (HandSHeadRun.topDef (OpenLaw.row PySem.Challenge.rw_portage_k21_code_by_its_rules).prog 28).name = ("law" : PySem.Str) := by kernel_rfl
      rw [← e]
      exact hmg0
    obtain ⟨fd, hb, hF⟩ := K21.facts (P := (PySem.Challenge.rw_portage_k21_code_by_its_rules).prog) (w := w) KX G hmg ok c
    exact ⟨K, fd, K21.spLaw K, KX, hb, fun H a ns hl _ hS => ⟨a, ns, rfl, hS, hl, fun _ => rfl⟩, hF⟩

