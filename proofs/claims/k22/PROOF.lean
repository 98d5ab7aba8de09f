import PyProof.Rows.All
import Wide.All
import OpenK.AllK
import Wide.FinOn
import KE.KStateDown
import Lean
import HandS.ForMost
import HandS.Defaults
import HandS.More
import HandS.Flow
import HandS.Style
import HandS.StrMore
import HandS.IsInst
import HandS.TupAny
import HandS.TupMul
import HandS.Head0
import HandS.Head1
import HandS.Head2
import HandS.HeadEnd
import HandS.HeadHook1
import HandS.HeadHook2
import HandS.HeadHook3
import HandS.DictComp
import HandS.WordsDict
import KE.GoesMore
import KE.GoesEnum
import HandS.Walk
import KE.KRevSl
import HandS.ExcIs
import HandS.ExcOwn
import HandS.RaiseMore
import HandS.FStr
import HandS.WordsExc
import PySem.Challenge.RW_portage_k22_images
set_option Elab.async false
set_option linter.all false
set_option maxRecDepth 100000
set_option maxHeartbeats 4000000
/-! What my proofs have in common: a Hook with one more test, and small words. -/
namespace Cm
open PySem PySem.Spec PyProof.Rows L2 He

abbrev FnP (K : PySem.W.Frag) (x : Str) (st : Stmt) (f : Addr) (fd : FuncData) : Prop := FunD K x x (defArgs st) (defBody st) (defScope st) [] [] f fd
theorem bindsA_of {K : PySem.W.Frag} {x : Str} {st : Stmt} {f : Addr} {fd : FuncData} {ps : List Str} (F : FnP K x st f fd)
    (h : ∀ (kV doc pm : Value) (an : Option Addr) (cdv ct : Value) (us : List Value), us.length = ps.length → bindArgs (PySem.W.fnOf x x (defArgs st) (defBody st) (defScope st) .none kV doc pm an cdv ct) ⟨us, []⟩ = pure (ps.zip us)) (s : Shared) (us : List Value) (hl : us.length = ps.length) : BindsTo s fd ⟨us, []⟩ (ps.zip us) := FunD.bindsA F h s us hl

/-! ### heaps that grow -/
theorem same_new {H : Hp} {p : Addr} {o : HO} (h : H p = none) : Same H (upd H p o) := fun b x e => by
  rw [upd_ne (ne_of_none e h)]
  exact e
theorem same_mut {H H' : Hp} {p : Addr} {o : HO} (s : Same H H') (h : H p = none) : Same H (upd H' p o) := fun b x e => by
  rw [upd_ne (ne_of_none e h)]
  exact s b x e
theorem sameT {K : PySem.W.Frag} {H H' : Hp} {a : Addr} {xs : List V} (s : Same H H') (h : SqT K H a xs) : SqT K H' a xs := by
  rcases h with (h | ⟨o, h⟩) | h
  · exact .inl (.inl (s _ _ h))
  · exact .inl (.inr ⟨o, s _ _ h⟩)
  · exact .inr h
theorem sqt_new {K : PySem.W.Frag} {H : Hp} {p : Addr} {xs : List V} : SqT K (upd H p (.tup xs)) p xs := .inl (.inl upd_same)
theorem sql_new {K : PySem.W.Frag} {H : Hp} {p : Addr} {xs : List V} : SqL K (upd H p (.lst xs)) p xs := .inl (.inl upd_same)
theorem small {n : Nat} (h : n ≤ 100000) : n ≤ sizeLine := by
  rw [sizeLine_eq]
  omega
theorem smallL {n : Nat} (h : n ≤ 100000) : n < sizeLine := by
  rw [sizeLine_eq]
  omega
/-! ### tests -/
theorem itV {x : Bool} {A B : Prop} (h1 : x = true → A) (h2 : x = false → B) : if (if false = true then !x else x) = true then A else B := by
  cases x
  · exact h2 rfl
  · exact h1 rfl
theorem itVn {x : Bool} {A B : Prop} (h1 : x = false → A) (h2 : x = true → B) : if (if true = true then !x else x) = true then A else B := by
  cases x
  · exact h1 rfl
  · exact h2 rfl
theorem itB {x : Bool} {A B : Prop} (h1 : x = true → A) (h2 : x = false → B) : if x = true then A else B := by
  cases x
  · exact h2 rfl
  · exact h1 rfl
theorem itBn {x : Bool} {A B : Prop} (h1 : x = false → A) (h2 : x = true → B) : if (!x) = true then A else B := by
  cases x
  · exact h1 rfl
  · exact h2 rfl
theorem itD {c : Prop} [Decidable c] {A B : Prop} (h1 : c → A) (h2 : ¬ c → B) : if decide c = true then A else B := by
  by_cases h : c
  · rw [if_pos (decide_eq_true h)]
    exact h1 h
  · rw [if_neg (by rw [decide_eq_false h]; decide)]
    exact h2 h
theorem itDn {c : Prop} [Decidable c] {A B : Prop} (h1 : ¬ c → A) (h2 : c → B) : if (!decide c) = true then A else B := by
  by_cases h : c
  · rw [if_neg (by rw [decide_eq_true h]; decide)]
    exact h2 h
  · rw [if_pos (by rw [decide_eq_false h]; rfl)]
    exact h1 h
theorem deq_int {i j : Int} : decide (V.int i = V.int j) = decide (i = j) := by
  by_cases h : i = j
  · rw [h, decide_eq_true rfl, decide_eq_true rfl]
  · rw [decide_eq_false h, decide_eq_false fun e => h (V.int.inj e)]
theorem deq_str {x y : Str} : decide (V.str x = V.str y) = decide (x = y) := by
  by_cases h : x = y
  · rw [h, decide_eq_true rfl, decide_eq_true rfl]
  · rw [decide_eq_false h, decide_eq_false fun e => h (V.str.inj e)]
theorem deq_bl {x y : Bool} : decide (V.bl x = V.bl y) = decide (x = y) := by
  by_cases h : x = y
  · rw [h, decide_eq_true rfl, decide_eq_true rfl]
  · rw [decide_eq_false h, decide_eq_false fun e => h (V.bl.inj e)]
theorem itEI {x y : Int} {A B : Prop} (h1 : x = y → A) (h2 : ¬ x = y → B) : if decide (V.int x = V.int y) = true then A else B := by
  rw [deq_int]
  exact itD h1 h2
theorem itES {x y : Str} {A B : Prop} (h1 : x = y → A) (h2 : ¬ x = y → B) : if decide (V.str x = V.str y) = true then A else B := by
  rw [deq_str]
  exact itD h1 h2
theorem itNI {x y : Int} {A B : Prop} (h1 : ¬ x = y → A) (h2 : x = y → B) : if (!decide (V.int x = V.int y)) = true then A else B := by
  rw [deq_int]
  exact itDn h1 h2
theorem itNS {x y : Str} {A B : Prop} (h1 : ¬ x = y → A) (h2 : x = y → B) : if (!decide (V.str x = V.str y)) = true then A else B := by
  rw [deq_str]
  exact itDn h1 h2
theorem str_nil {z : Str} (h : z.cps.toList = []) : z = ⟨#[]⟩ := by
  obtain ⟨c⟩ := z
  have e : c = #[] := by simpa using h
  rw [e]
/-! ### items -/
theorem at_in {xs : List V} {i : Int} (h0 : 0 ≤ i) (h1 : i < (xs.length : Int)) : ∃ v, v ∈ xs ∧ atI xs i = some v := by
  obtain ⟨j, rfl⟩ := Int.eq_ofNat_of_zero_le h0
  have h2 : j < xs.length := by omega
  exact ⟨xs[j], List.getElem_mem h2, atI_nat (List.getElem?_eq_getElem h2)⟩
theorem at_str {ws : List Str} {i : Int} (h0 : 0 ≤ i) (h1 : i < (ws.length : Int)) : ∃ w, w ∈ ws ∧ atI (ws.map V.str) i = some (.str w) := by
  obtain ⟨v, hv, e⟩ := at_in (xs := ws.map V.str) h0 (by rw [List.length_map]; exact h1)
  obtain ⟨w, hw, rfl⟩ := List.mem_map.mp hv
  exact ⟨w, hw, e⟩
theorem at_int {ns : List Int} {i : Int} (h0 : 0 ≤ i) (h1 : i < (ns.length : Int)) : ∃ n, n ∈ ns ∧ atI (ns.map V.int) i = some (.int n) := by
  obtain ⟨v, hv, e⟩ := at_in (xs := ns.map V.int) h0 (by rw [List.length_map]; exact h1)
  obtain ⟨n, hn, rfl⟩ := List.mem_map.mp hv
  exact ⟨n, hn, e⟩
/-! ### a Hook with one more test -/
abbrev AlX : Type := Bool × AlT
def obsX (fa : List Fa) (fn : List DefD) (ts : List Tab) (ok : PySem.W.Frag → Bool) (K : PySem.W.Frag) : AlX := (ok K, obsT fa fn ts K)
def obsXG (n : Nat) (fa : List Fa) (fn : List DefD) (ts : List Tab) (ok : PySem.W.Frag → Bool) (g : Addr → Option Obj) : AlX := obsX fa fn ts ok (frG g (asD g n))
def hookX (n : Nat) (fa : List Fa) (fn : List DefD) (ts : List Tab) (ok : PySem.W.Frag → Bool) : PySem.W.Hook where
  α := AlX
  obs := fun s => obsXG n fa fn ts ok s.heap.get?
  val := fun w => (true, valT fn ts w)
  says := fun w h => ∃ K : PySem.W.Frag, K.In h ∧ ok K = true ∧ SaysT fa fn ts w K
  of := fun w s e => ⟨frG s.heap.get? (asD s.heap.get? n), frG_in, congrArg (fun z : AlX => z.1) e, congrArg (fun z : AlX => z.2) e⟩
  keeps := fun _ _ _ ⟨K, hK, o, c⟩ k => ⟨K, PySem.W.Frag.In.keeps hK k, o, c⟩
theorem obsXG_eq {n : Nat} {fa : List Fa} {fn : List DefD} {ts : List Tab} {ok : PySem.W.Frag → Bool} {g : Addr → Option Obj} {s : Shared} (h : ∀ a, g a = s.heap.get? a) : obsXG n fa fn ts ok g = (hookX n fa fn ts ok).obs s := by
  have e : g = s.heap.get? := funext h
  rw [e] <;> rfl
end Cm

set_option Elab.async false
set_option linter.all false
set_option maxRecDepth 100000
set_option maxHeartbeats 4000000
/-! Program trees: expressions, statements, what they are as data, their code. No word of any one statement here. -/
namespace Pt
open PySem PySem.Spec PyProof.Rows L2

/-! ### data that never changes: numbers, texts, truth values, tuples of such -/
mutual
inductive Rp (K : PySem.W.Frag) (H : Hp) : V → PyData → Prop
  | non : Rp K H .non .none
  | bl (b : Bool) : Rp K H (.bl b) (.bool b)
  | int (i : Int) : Rp K H (.int i) (.int i)
  | str (x : Str) : Rp K H (.str x) (.str x)
  | tup {a : Addr} {xs : List V} {ds : List PyData} : SqT K H a xs → Rps K H xs ds → Rp K H (.ref a) (.tuple ds)
inductive Rps (K : PySem.W.Frag) (H : Hp) : List V → List PyData → Prop
  | nil : Rps K H [] []
  | cons {v : V} {vs : List V} {d : PyData} {ds : List PyData} : Rp K H v d → Rps K H vs ds → Rps K H (v :: vs) (d :: ds)
end
/-- all that was tracked stays, but what stands at c -/
def Keep (c : Addr) (H H' : Hp) : Prop := ∀ b o, H b = some o → b ≠ c → H' b = some o
theorem Keep.refl (c : Addr) (H : Hp) : Keep c H H := fun _ _ h _ => h
theorem Keep.trans {c : Addr} {H H1 H2 : Hp} (a : Keep c H H1) (b : Keep c H1 H2) : Keep c H H2 := fun x o h n => b x o (a x o h n) n
theorem Keep.of {c : Addr} {H H' : Hp} (s : Same H H') : Keep c H H' := fun b o h _ => s b o h
/-- what was tracked and is no list stays -/
def Tups (H H' : Hp) : Prop := ∀ b o, H b = some o → (∀ xs, o ≠ .lst xs) → H' b = some o
theorem Same.tups {H H' : Hp} (s : Same H H') : Tups H H' := fun b o h _ => s b o h
theorem Keep.tups {c : Addr} {H H' : Hp} {xs : List V} (k : Keep c H H') (h : H c = some (.lst xs)) : Tups H H' := fun b o hb no => k b o hb fun e => by
  subst e
  rw [h] at hb
  exact no xs (Option.some.inj hb).symm
section
variable {K : PySem.W.Frag} {H H' : Hp}
theorem Tups.sqt (k : Tups H H') {a : Addr} {xs : List V} (h : SqT K H a xs) : SqT K H' a xs := by
  rcases h with (h | ⟨o, h⟩) | h
  · exact .inl (.inl (k _ _ h fun _ e => by cases e))
  · exact .inl (.inr ⟨o, k _ _ h fun _ e => by cases e⟩)
  · exact .inr h
mutual
theorem Rp.keep (k : Tups H H') : ∀ {v : V} {d : PyData}, Rp K H v d → Rp K H' v d
  | _, _, .non => .non
  | _, _, .bl b => .bl b
  | _, _, .int i => .int i
  | _, _, .str x => .str x
  | _, _, .tup h r => .tup (k.sqt h) (Rps.keep k r)
theorem Rps.keep (k : Tups H H') : ∀ {vs : List V} {ds : List PyData}, Rps K H vs ds → Rps K H' vs ds
  | _, _, .nil => .nil
  | _, _, .cons h r => .cons (Rp.keep k h) (Rps.keep k r)
end
mutual
theorem Rp.dp : ∀ {v : V} {d : PyData}, Rp K H v d → Dp K H v d
  | _, _, .non => .non
  | _, _, .bl b => .bl b
  | _, _, .int i => .int i
  | _, _, .str x => .str x
  | _, _, .tup h r => .tup h (Rps.dp r)
theorem Rps.dp : ∀ {vs : List V} {ds : List PyData}, Rps K H vs ds → DpAll K H vs ds
  | _, _, .nil => .nil
  | _, _, .cons h r => .cons (Rp.dp h) (Rps.dp r)
end
theorem Rps.len : ∀ {vs : List V} {ds : List PyData}, Rps K H vs ds → vs.length = ds.length
  | _, _, .nil => rfl
  | _, _, .cons _ r => congrArg (· + 1) (Rps.len r)
theorem Rps.app : ∀ {vs us : List V} {ds es : List PyData}, Rps K H vs ds → Rps K H us es → Rps K H (vs ++ us) (ds ++ es)
  | _, _, _, _, .nil, r => r
  | _, _, _, _, .cons h r, s => .cons h (Rps.app r s)
theorem Rps.at_ : ∀ {vs : List V} {ds : List PyData} {i : Nat} {d : PyData}, Rps K H vs ds → ds[i]? = some d → ∃ v, vs[i]? = some v ∧ Rp K H v d
  | _, _, 0, _, .cons h _, e => ⟨_, rfl, by cases e; exact h⟩
  | _, _, i + 1, _, .cons _ r, e => Rps.at_ (i := i) r e
theorem Rps.drop : ∀ {vs : List V} {ds : List PyData} (n : Nat), Rps K H vs ds → Rps K H (vs.drop n) (ds.drop n)
  | _, _, 0, r => r
  | _, _, _ + 1, .nil => .nil
  | _, _, n + 1, .cons _ r => Rps.drop n r
theorem Rps.take : ∀ {vs : List V} {ds : List PyData} (n : Nat), Rps K H vs ds → Rps K H (vs.take n) (ds.take n)
  | _, _, 0, _ => .nil
  | _, _, _ + 1, .nil => .nil
  | _, _, n + 1, .cons h r => .cons h (Rps.take n r)
theorem Rps.one {v : V} {d : PyData} (h : Rp K H v d) : Rps K H [v] [d] := .cons h .nil
theorem Rp.tup_inv {v : V} {ds : List PyData} (h : Rp K H v (.tuple ds)) : ∃ a vs, v = .ref a ∧ SqT K H a vs ∧ Rps K H vs ds := by
  cases h with
  | tup h r => exact ⟨_, _, rfl, h, r⟩
theorem Rp.str_inv {v : V} {x : Str} (h : Rp K H v (.str x)) : v = .str x := by
  cases h
  rfl
theorem Rp.int_inv {v : V} {i : Int} (h : Rp K H v (.int i)) : v = .int i := by
  cases h
  rfl
theorem Rp.bl_inv {v : V} {b : Bool} (h : Rp K H v (.bool b)) : v = .bl b := by
  cases h
  rfl
theorem Rps.cons_inv {vs : List V} {d : PyData} {ds : List PyData} (h : Rps K H vs (d :: ds)) : ∃ v r, vs = v :: r ∧ Rp K H v d ∧ Rps K H r ds := by
  cases h with
  | cons a b => exact ⟨_, _, rfl, a, b⟩
theorem Rps.nil_inv {vs : List V} (h : Rps K H vs []) : vs = [] := by
  cases h
  rfl
theorem Rp.new {p : Addr} {vs : List V} {ds : List PyData} (h : H' p = some (.tup vs)) (r : Rps K H' vs ds) : Rp K H' (.ref p) (.tuple ds) := .tup (.inl (.inl h)) r
/-- a new tuple of what stood before -/
theorem Rp.made {p : Addr} {vs : List V} {ds : List PyData} (hp : H p = none) (r : Rps K H vs ds) : Rp K (upd H p (.tup vs)) (.ref p) (.tuple ds) := .tup (.inl (.inl upd_same)) (r.keep (Same.tups (Cm.same_new hp)))
/-- a list stays where its content is another than c's -/
theorem Keep.seq {c a : Addr} {xs ys : List V} (k : Keep c H H') (hc : H c = some (.lst ys)) (ne : xs ≠ ys) (h : SqL K H a xs) : SqL K H' a xs := by
  rcases h with (h | ⟨o, h⟩) | h
  · refine .inl (.inl (k _ _ h fun e => ?_))
    rw [e, hc] at h
    cases h
    exact ne rfl
  · refine .inl (.inr ⟨o, k _ _ h fun e => ?_⟩)
    rw [e, hc] at h
    cases h
  · exact .inr h
end

/-- tuple + tuple -/
theorem cat_rp {K : PySem.W.Frag} {H : Hp} {x y : V} {ds es : List PyData} {Q : VK} (hx : Rp K H x (.tuple ds)) (hy : Rp K H y (.tuple es)) (hl : ds.length + es.length ≤ 10000000) (h : ∀ (v : V) (H' : Hp), Same H H' → Rp K H' v (.tuple (ds ++ es)) → Q v H') : rCatA K x y H Q := by
  obtain ⟨a, xs, rfl, ha, hxs⟩ := hx.tup_inv
  obtain ⟨b, ys, rfl, hb, hys⟩ := hy.tup_inv
  refine ⟨a, b, xs, ys, rfl, rfl, ha, hb, ?_, fun e => ?_, fun _ e => ?_, fun _ _ p np => ?_⟩
  · rw [hxs.len, hys.len, sizeLine_eq]
    omega
  · subst e
    cases hxs
    exact h _ _ (Same.refl H) hy
  · subst e
    cases hys
    rw [List.append_nil] at h
    exact h _ _ (Same.refl H) hx
  · exact h _ _ (Cm.same_new np) (Rp.made np (hxs.app hys))
/-- a tuple from a place on -/
theorem from_rp {K : PySem.W.Frag} {H : Hp} {x : V} {ds : List PyData} {k : Nat} {Q : VK} (hx : Rp K H x (.tuple ds)) (hk : k ≤ ds.length) (h : ∀ (v : V) (H' : Hp), Same H H' → Rp K H' v (.tuple (ds.drop k)) → Q v H') : rSlA K x (some (k : Int)) none H Q := by
  obtain ⟨a, xs, rfl, ha, hxs⟩ := hx.tup_inv
  have hl := hxs.len
  have e0 : HT.sIx xs.length 0 (some (k : Int)) = k := by
    rw [show HT.sIx xs.length 0 (some (k : Int)) = min k xs.length from HT.sIx_nat _ 0 k]
    omega
  refine ⟨a, xs, rfl, ha, fun e => ?_, fun _ p np => ?_⟩
  · have z := e.1
    rw [e0] at z
    subst z
    exact h _ _ (Same.refl H) hx
  · have ec : cutV xs (some (k : Int)) none = xs.drop k := by
      unfold cutV
      rw [e0, HT.sIx_none]
      exact List.take_of_length_le (by rw [List.length_drop]; exact Nat.le_refl _)
    rw [ec]
    exact h _ _ (Cm.same_new np) (Rp.made np (hxs.drop k))
/-! ### equality of data is reflexive; its form -/
/-- numbers, texts, truth values, None -/
def leafD : PyData → Bool
  | .none => true
  | .bool _ => true
  | .int _ => true
  | .str _ => true
  | _ => false

/-! ### expressions and statements -/
mutual
inductive E where
  | int (n : Int)
  | name (x : Str)
  | choice (o : Bool) (l r : E)
  | call (r : E) (f : Str) (as : Es)
  | new (m : Str) (as : Es)
  | plain (w : Str) (as : Es)
inductive Es where
  | nil
  | cons (e : E) (es : Es)
end
mutual
inductive S where
  | letS (x k : Str) (e : E)
  | setS (x : Str) (e : E)
  | ifS (e : E) (b c : Ss)
  | whileS (e : E) (b : Ss)
  | doS (e : E)
  | fork (r : E) (f : Str) (as : Es)
  | plain (w : Str) (as : Es)
inductive Ss where
  | nil
  | cons (s : S) (ss : Ss)
end
def cw (o : Bool) : Str := if o then "or" else "and"
mutual
def E.d : E → PyData
  | .int n => .tuple [.str "int", .int n]
  | .name x => .tuple [.str "name", .str x]
  | .choice o l r => .tuple [.str (cw o), l.d, r.d]
  | .call r f as => .tuple [.str "call", r.d, .str f, .tuple as.ds]
  | .new m as => .tuple [.str "new", .str m, .tuple as.ds]
  | .plain w as => .tuple (.str w :: as.ds)
def Es.ds : Es → List PyData
  | .nil => []
  | .cons e es => e.d :: es.ds
end
mutual
def S.d : S → PyData
  | .letS x k e => .tuple [.str "let", .str x, .str k, e.d]
  | .setS x e => .tuple [.str "set", .str x, e.d]
  | .ifS e b c => .tuple [.str "if", e.d, .tuple b.ds, .tuple c.ds]
  | .whileS e b => .tuple [.str "while", e.d, .tuple b.ds]
  | .doS e => .tuple [.str "do", e.d]
  | .fork r f as => .tuple [.str "fork", r.d, .str f, .tuple as.ds]
  | .plain w as => .tuple (.str w :: as.ds)
def Ss.ds : Ss → List PyData
  | .nil => []
  | .cons s ss => s.d :: ss.ds
end
def Es.list : Es → List E
  | .nil => []
  | .cons e es => e :: es.list
def Ss.list : Ss → List S
  | .nil => []
  | .cons s ss => s :: ss.list
def Ss.of : List S → Ss
  | [] => .nil
  | s :: ss => .cons s (Ss.of ss)
def Ss.app : Ss → Ss → Ss
  | .nil, c => c
  | .cons s b, c => .cons s (b.app c)
def Es.len : Es → Nat
  | .nil => 0
  | .cons _ es => es.len + 1
theorem Es.ds_len : ∀ es : Es, es.ds.length = es.len
  | .nil => rfl
  | .cons _ es => congrArg (· + 1) (Es.ds_len es)
theorem Es.list_ds : ∀ es : Es, es.ds = es.list.map E.d
  | .nil => rfl
  | .cons _ es => congrArg (_ :: ·) (Es.list_ds es)
theorem Ss.list_ds : ∀ es : Ss, es.ds = es.list.map S.d
  | .nil => rfl
  | .cons _ es => congrArg (_ :: ·) (Ss.list_ds es)
theorem Ss.app_ds : ∀ b c : Ss, (b.app c).ds = b.ds ++ c.ds
  | .nil, _ => rfl
  | .cons _ b, c => congrArg (_ :: ·) (Ss.app_ds b c)
theorem Ss.app_list : ∀ b c : Ss, (b.app c).list = b.list ++ c.list
  | .nil, _ => rfl
  | .cons _ b, c => congrArg (_ :: ·) (Ss.app_list b c)
theorem Ss.of_list : ∀ l : List S, (Ss.of l).list = l
  | [] => rfl
  | _ :: l => congrArg (_ :: ·) (Ss.of_list l)
/-! ### the names that are used; the names of lets -/
mutual
def E.uses : E → List Str
  | .int _ => []
  | .name x => [x]
  | .choice _ l r => l.uses ++ r.uses
  | .call r _ as => r.uses ++ as.uses
  | .new _ as => as.uses
  | .plain _ as => as.uses
def Es.uses : Es → List Str
  | .nil => []
  | .cons e es => e.uses ++ es.uses
end
mutual
def S.uses : S → List Str
  | .letS x _ e => x :: e.uses
  | .setS x e => x :: e.uses
  | .ifS e b c => e.uses ++ (b.uses ++ c.uses)
  | .whileS e b => e.uses ++ b.uses
  | .doS e => e.uses
  | .fork r _ as => r.uses ++ as.uses
  | .plain _ as => as.uses
def Ss.uses : Ss → List Str
  | .nil => []
  | .cons s ss => s.uses ++ ss.uses
end
mutual
def S.lets : S → List Str
  | .letS x _ _ => [x]
  | .ifS _ b c => b.lets ++ c.lets
  | .whileS _ b => b.lets
  | _ => []
def Ss.lets : Ss → List Str
  | .nil => []
  | .cons s ss => s.lets ++ ss.lets
end
theorem Ss.app_lets : ∀ b c : Ss, (b.app c).lets = b.lets ++ c.lets
  | .nil, _ => rfl
  | .cons s b, c => by
    show s.lets ++ (b.app c).lets = (s.lets ++ b.lets) ++ c.lets
    rw [Ss.app_lets b c, List.append_assoc]
theorem Ss.app_uses : ∀ b c : Ss, (b.app c).uses = b.uses ++ c.uses
  | .nil, _ => rfl
  | .cons s b, c => by
    show s.uses ++ (b.app c).uses = (s.uses ++ b.uses) ++ c.uses
    rw [Ss.app_uses b c, List.append_assoc]
/-! ### words in their places -/
abbrev plainE : List Str := ["nil", "self", "add", "sub", "mul", "less", "most", "same", "not"]
abbrev leafE : List Str := ["nil", "self"]
def Es.isNil : Es → Bool
  | .nil => true
  | .cons _ _ => false
abbrev plainB : List Str := ["return", "print", "move"]
/-- how many parts stand behind a word -/
def arE (w : Str) : Nat := if w ∈ leafE then 0 else if w = "not" then 1 else 2
def arB (w : Str) : Nat := if w = "move" then 2 else 1
mutual
def E.wf : E → Bool
  | .int _ => true
  | .name _ => true
  | .choice _ l r => l.wf && r.wf
  | .call r _ as => r.wf && as.wf
  | .new _ as => as.wf
  | .plain w as => (decide (w ∈ plainE) && decide (as.len = arE w)) && as.wf
def Es.wf : Es → Bool
  | .nil => true
  | .cons e es => e.wf && es.wf
end
mutual
def S.wf : S → Bool
  | .letS _ _ e => e.wf
  | .setS _ e => e.wf
  | .ifS e b c => e.wf && (b.wf && c.wf)
  | .whileS e b => e.wf && b.wf
  | .doS e => e.wf
  | .fork r _ as => r.wf && as.wf
  | .plain w as => (decide (w ∈ plainB) && decide (as.len = arB w)) && as.wf
def Ss.wf : Ss → Bool
  | .nil => true
  | .cons s ss => s.wf && ss.wf
end
theorem Ss.app_wf : ∀ b c : Ss, (b.app c).wf = (b.wf && c.wf)
  | .nil, _ => rfl
  | .cons s b, c => by
    show (s.wf && (b.app c).wf) = ((s.wf && b.wf) && c.wf)
    rw [Ss.app_wf b c, Bool.and_assoc]
theorem and2 {a b : Bool} (h1 : a = true) (h2 : b = true) : (a && b) = true := by rw [h1, h2]; rfl
theorem wfP {w : Str} {e : E} {as : Es} (h1 : decide (w ∈ plainB) = true) (h3 : (Es.cons e as).len = arB w) (h2 : (Es.cons e as).wf = true) : (S.plain w (.cons e as)).wf = true := and2 (and2 h1 (decide_eq_true h3)) h2
theorem ar_nil {w : Str} (h : decide (0 = arE w) = true) : w ∈ leafE := by
  by_cases e : w ∈ leafE
  · exact e
  · have h' := of_decide_eq_true h
    unfold arE at h'
    rw [if_neg e] at h'
    split at h' <;> omega
theorem ar_some {w : Str} {n : Nat} (h : decide (n + 1 = arE w) = true) : ¬ w ∈ leafE := fun e => by
  have h' := of_decide_eq_true h
  unfold arE at h'
  rw [if_pos e] at h'
  omega
theorem wfW {e : E} {b : Ss} (h1 : e.wf = true) (h2 : b.wf = true) : (S.whileS e b).wf = true := and2 h1 h2
theorem wfC {e : E} {es : Es} (h1 : e.wf = true) (h2 : es.wf = true) : (Es.cons e es).wf = true := and2 h1 h2
theorem wfSs {e : S} {es : Ss} (h1 : e.wf = true) (h2 : es.wf = true) : (Ss.cons e es).wf = true := and2 h1 h2
/-! ### depth -/
mutual
def E.dep : E → Nat
  | .int _ => 0
  | .name _ => 0
  | .choice _ l r => max l.dep r.dep + 1
  | .call r _ as => max r.dep as.dep + 1
  | .new _ as => as.dep + 1
  | .plain _ as => as.dep + 1
def Es.dep : Es → Nat
  | .nil => 0
  | .cons e es => max e.dep es.dep
end
mutual
def S.dep : S → Nat
  | .letS _ _ e => e.dep + 1
  | .setS _ e => e.dep + 1
  | .ifS e b c => max e.dep (max b.dep c.dep) + 1
  | .whileS e b => max e.dep b.dep + 1
  | .doS e => e.dep + 1
  | .fork r _ as => max r.dep as.dep + 1
  | .plain _ as => as.dep + 1
def Ss.dep : Ss → Nat
  | .nil => 0
  | .cons s ss => max s.dep ss.dep
end
/-! ### the number of instructions -/
mutual
def E.sz : E → Nat
  | .int _ => 1
  | .name _ => 1
  | .choice o l r => l.sz + r.sz + (if o then 2 else 0) + 5
  | .call r _ as => r.sz + as.sz + 1
  | .new _ as => as.sz + 1
  | .plain _ as => as.sz + 1
def Es.sz : Es → Nat
  | .nil => 0
  | .cons e es => e.sz + es.sz
end
mutual
def S.sz : S → Nat
  | .letS _ _ e => e.sz + 1
  | .setS _ e => e.sz + 1
  | .ifS e b c => e.sz + 1 + b.sz + (match c with | .nil => 0 | .cons _ _ => 1) + c.sz
  | .whileS e b => e.sz + b.sz + 2
  | .doS e => e.sz + 1
  | .fork r _ as => r.sz + as.sz + 1
  | .plain _ as => as.sz + 1
def Ss.sz : Ss → Nat
  | .nil => 0
  | .cons s ss => s.sz + ss.sz
end
theorem Ss.app_dep : ∀ b c : Ss, (b.app c).dep = max b.dep c.dep
  | .nil, _ => (Nat.zero_max _).symm
  | .cons s b, c => by
    show max s.dep (b.app c).dep = max (max s.dep b.dep) c.dep
    rw [Ss.app_dep b c, Nat.max_assoc]
theorem Ss.app_sz : ∀ b c : Ss, (b.app c).sz = b.sz + c.sz
  | .nil, _ => (Nat.zero_add _).symm
  | .cons s b, c => by
    show s.sz + (b.app c).sz = (s.sz + b.sz) + c.sz
    rw [Ss.app_sz b c, Nat.add_assoc]
/-! ### code -/
def I1 (x : Str) : PyData := .tuple [.str x]
def I2 (x : Str) (n : Int) : PyData := .tuple [.str x, .int n]
def I3 (x y : Str) (n : Int) : PyData := .tuple [.str x, .str y, .int n]
/-- what turns the parts of an or -/
def tn (o : Bool) : List PyData := if o then [I1 "not"] else []
def kn (o : Bool) : Nat := if o then 1 else 0
def ends (o : Bool) (d : Nat) : List PyData := [I2 "push" (if o then 0 else 1), I2 "jump" ((d : Int) + 1), I2 "push" (if o then 1 else 0)]
abbrev Plc := Str → Str × Int
mutual
def E.code (pl : Plc) : E → Nat → List PyData
  | .int n, _ => [I2 "push" n]
  | .name x, _ => [I2 (pl x).1 (pl x).2]
  | .choice o l r, at_ => (l.code pl at_ ++ tn o) ++ [I2 "unless" ((at_ + l.sz + kn o + 1 + r.sz + kn o + 3 : Nat) : Int)] ++ (r.code pl (at_ + l.sz + kn o + 1) ++ tn o) ++ [I2 "unless" ((at_ + l.sz + kn o + 1 + r.sz + kn o + 3 : Nat) : Int)] ++ ends o (at_ + l.sz + kn o + 1 + r.sz + kn o + 3)
  | .call r f as, at_ => (r.code pl at_ ++ as.code pl (at_ + r.sz)) ++ [I3 "call" f as.len]
  | .new m as, at_ => as.code pl at_ ++ [I3 "new" m as.len]
  | .plain w as, at_ => as.code pl at_ ++ [I1 w]
def Es.code (pl : Plc) : Es → Nat → List PyData
  | .nil, _ => []
  | .cons e es, at_ => e.code pl at_ ++ es.code pl (at_ + e.sz)
end
mutual
def S.code (pl : Plc) : S → Nat → List PyData
  | .letS x _ e, at_ => e.code pl at_ ++ [I2 ("set" ++ (pl x).1) (pl x).2]
  | .setS x e, at_ => e.code pl at_ ++ [I2 ("set" ++ (pl x).1) (pl x).2]
  | .ifS e b .nil, at_ => e.code pl at_ ++ [I2 "unless" ((at_ + e.sz + 1 + b.sz : Nat) : Int)] ++ b.code pl (at_ + e.sz + 1)
  | .ifS e b (.cons s ss), at_ => e.code pl at_ ++ [I2 "unless" ((at_ + e.sz + 1 + b.sz + 1 : Nat) : Int)] ++ b.code pl (at_ + e.sz + 1) ++ [I2 "jump" ((at_ + e.sz + 1 + b.sz + 1 + (s.sz + ss.sz) : Nat) : Int)] ++
      (s.code pl (at_ + e.sz + 1 + b.sz + 1) ++ ss.code pl (at_ + e.sz + 1 + b.sz + 1 + s.sz))
  | .whileS e b, at_ => e.code pl at_ ++ [I2 "unless" ((at_ + e.sz + 1 + b.sz + 1 : Nat) : Int)] ++ b.code pl (at_ + e.sz + 1) ++ [I2 "jump" (at_ : Nat)]
  | .doS e, at_ => e.code pl at_ ++ [I1 "drop"]
  | .fork r f as, at_ => (r.code pl at_ ++ as.code pl (at_ + r.sz)) ++ [I3 "fork" f as.len]
  | .plain w as, at_ => as.code pl at_ ++ [I1 w]
def Ss.code (pl : Plc) : Ss → Nat → List PyData
  | .nil, _ => []
  | .cons s ss, at_ => s.code pl at_ ++ ss.code pl (at_ + s.sz)
end
theorem tn_len (o : Bool) : (tn o).length = kn o := by cases o <;> rfl
mutual
theorem E.code_len (pl : Plc) : ∀ (e : E) (a : Nat), (e.code pl a).length = e.sz
  | .int _, _ => rfl
  | .name _, _ => rfl
  | .choice o l r, a => by
    have h1 := E.code_len pl l a
    have h2 := E.code_len pl r (a + l.sz + kn o + 1)
    simp only [E.code, List.length_append, List.length_cons, List.length_nil, h1, h2, tn_len, ends, E.sz]
    cases o <;> simp [kn] <;> omega
  | .call r f as, a => by
    have h1 := E.code_len pl r a
    have h2 := Es.code_len pl as (a + r.sz)
    simp only [E.code, List.length_append, List.length_cons, List.length_nil, h1, h2, E.sz]
  | .new m as, a => by
    have h2 := Es.code_len pl as a
    simp only [E.code, List.length_append, List.length_cons, List.length_nil, h2, E.sz]
  | .plain w as, a => by
    have h2 := Es.code_len pl as a
    simp only [E.code, List.length_append, List.length_cons, List.length_nil, h2, E.sz]
theorem Es.code_len (pl : Plc) : ∀ (es : Es) (a : Nat), (es.code pl a).length = es.sz
  | .nil, _ => rfl
  | .cons e es, a => by
    have h1 := E.code_len pl e a
    have h2 := Es.code_len pl es (a + e.sz)
    simp only [Es.code, List.length_append, h1, h2, Es.sz]
end
mutual
theorem S.code_len (pl : Plc) : ∀ (s : S) (a : Nat), (s.code pl a).length = s.sz
  | .letS x k e, a => by simp only [S.code, List.length_append, List.length_cons, List.length_nil, E.code_len, S.sz]
  | .setS x e, a => by simp only [S.code, List.length_append, List.length_cons, List.length_nil, E.code_len, S.sz]
  | .ifS e b .nil, a => by
    have h := Ss.code_len pl b (a + e.sz + 1)
    simp only [S.code, List.length_append, List.length_cons, List.length_nil, E.code_len, h, S.sz, Ss.sz]
    omega
  | .ifS e b (.cons s ss), a => by
    have h := Ss.code_len pl b (a + e.sz + 1)
    have h1 := S.code_len pl s (a + e.sz + 1 + b.sz + 1)
    have h2 := Ss.code_len pl ss (a + e.sz + 1 + b.sz + 1 + s.sz)
    simp only [S.code, List.length_append, List.length_cons, List.length_nil, E.code_len, h, h1, h2, S.sz, Ss.sz]
  | .whileS e b, a => by
    have h := Ss.code_len pl b (a + e.sz + 1)
    simp only [S.code, List.length_append, List.length_cons, List.length_nil, E.code_len, h, S.sz]
    omega
  | .doS e, a => by simp only [S.code, List.length_append, List.length_cons, List.length_nil, E.code_len, S.sz]
  | .fork r f as, a => by simp only [S.code, List.length_append, List.length_cons, List.length_nil, E.code_len, Es.code_len, S.sz]
  | .plain w as, a => by simp only [S.code, List.length_append, List.length_cons, List.length_nil, Es.code_len, S.sz]
theorem Ss.code_len (pl : Plc) : ∀ (ss : Ss) (a : Nat), (ss.code pl a).length = ss.sz
  | .nil, _ => rfl
  | .cons s ss, a => by
    have h1 := S.code_len pl s a
    have h2 := Ss.code_len pl ss (a + s.sz)
    simp only [Ss.code, List.length_append, h1, h2, Ss.sz]
end
/-! ### rows of expressions, of statements, taken to a place -/
def Es.take : Es → Nat → Es
  | _, 0 => .nil
  | .nil, _ + 1 => .nil
  | .cons e es, n + 1 => .cons e (es.take n)
def Ss.take : Ss → Nat → Ss
  | _, 0 => .nil
  | .nil, _ + 1 => .nil
  | .cons e es, n + 1 => .cons e (es.take n)
theorem Es.take_next {pl : Plc} : ∀ {es : Es} {i : Nat} {e : E} (a : Nat), es.list[i]? = some e → (es.take (i + 1)).code pl a = (es.take i).code pl a ++ e.code pl (a + (es.take i).sz) ∧ (es.take (i + 1)).sz = (es.take i).sz + e.sz
  | .cons e es, 0, _, a, h => by
    cases h
    constructor
    · show e.code pl a ++ (es.take 0).code pl (a + e.sz) = [] ++ e.code pl (a + 0)
      cases es <;> simp [Es.take, Es.code]
    · show e.sz + (es.take 0).sz = 0 + e.sz
      cases es <;> simp [Es.take, Es.sz]
  | .cons e es, i + 1, f, a, h => by
    have ih := Es.take_next (pl := pl) (es := es) (i := i) (e := f) (a + e.sz) h
    constructor
    · show e.code pl a ++ (es.take (i + 1)).code pl (a + e.sz) = (e.code pl a ++ (es.take i).code pl (a + e.sz)) ++ f.code pl (a + (e.sz + (es.take i).sz))
      rw [ih.1, List.append_assoc, Nat.add_assoc a]
    · show e.sz + (es.take (i + 1)).sz = e.sz + (es.take i).sz + f.sz
      rw [ih.2]
      omega
  | .nil, i, _, _, h => by cases h
theorem Es.take_all : ∀ es : Es, es.take es.list.length = es
  | .nil => rfl
  | .cons e es => congrArg (Es.cons e) (Es.take_all es)
theorem Es.take_sz : ∀ (es : Es) (i : Nat), (es.take i).sz ≤ es.sz
  | es, 0 => by cases es <;> exact Nat.zero_le _
  | .nil, _ + 1 => Nat.le_refl _
  | .cons e es, i + 1 => Nat.add_le_add_left (Es.take_sz es i) _
theorem Ss.take_next {pl : Plc} : ∀ {es : Ss} {i : Nat} {e : S} (a : Nat), es.list[i]? = some e → (es.take (i + 1)).code pl a = (es.take i).code pl a ++ e.code pl (a + (es.take i).sz) ∧ (es.take (i + 1)).sz = (es.take i).sz + e.sz
  | .cons e es, 0, _, a, h => by
    cases h
    constructor
    · show e.code pl a ++ (es.take 0).code pl (a + e.sz) = [] ++ e.code pl (a + 0)
      cases es <;> simp [Ss.take, Ss.code]
    · show e.sz + (es.take 0).sz = 0 + e.sz
      cases es <;> simp [Ss.take, Ss.sz]
  | .cons e es, i + 1, f, a, h => by
    have ih := Ss.take_next (pl := pl) (es := es) (i := i) (e := f) (a + e.sz) h
    constructor
    · show e.code pl a ++ (es.take (i + 1)).code pl (a + e.sz) = (e.code pl a ++ (es.take i).code pl (a + e.sz)) ++ f.code pl (a + (e.sz + (es.take i).sz))
      rw [ih.1, List.append_assoc, Nat.add_assoc a]
    · show e.sz + (es.take (i + 1)).sz = e.sz + (es.take i).sz + f.sz
      rw [ih.2]
      omega
  | .nil, i, _, _, h => by cases h
theorem Ss.take_all : ∀ es : Ss, es.take es.list.length = es
  | .nil => rfl
  | .cons e es => congrArg (Ss.cons e) (Ss.take_all es)
theorem Ss.take_sz : ∀ (es : Ss) (i : Nat), (es.take i).sz ≤ es.sz
  | es, 0 => by cases es <;> exact Nat.zero_le _
  | .nil, _ + 1 => Nat.le_refl _
  | .cons e es, i + 1 => Nat.add_le_add_left (Ss.take_sz es i) _
/-- the parts of a row -/
theorem Es.part : ∀ {es : Es} {e : E}, e ∈ es.list → (es.wf = true → e.wf = true) ∧ (∀ x ∈ e.uses, x ∈ es.uses) ∧ e.dep ≤ es.dep ∧ e.sz ≤ es.sz
  | .cons f fs, e, h => by
    rcases List.mem_cons.mp (show e ∈ f :: fs.list from h) with rfl | h
    · exact ⟨fun w => (Bool.and_eq_true_iff.mp w).1, fun x hx => List.mem_append_left _ hx, Nat.le_max_left _ _, Nat.le_add_right _ _⟩
    · obtain ⟨h1, h2, h3, h4⟩ := Es.part h
      exact ⟨fun w => h1 (Bool.and_eq_true_iff.mp w).2, fun x hx => List.mem_append_right _ (h2 x hx), Nat.le_trans h3 (Nat.le_max_right _ _), Nat.le_trans h4 (Nat.le_add_left _ _)⟩
  | .nil, _, h => by cases h
theorem Ss.part : ∀ {es : Ss} {e : S}, e ∈ es.list → (es.wf = true → e.wf = true) ∧ (∀ x ∈ e.uses, x ∈ es.uses) ∧ e.dep ≤ es.dep ∧ e.sz ≤ es.sz
  | .cons f fs, e, h => by
    rcases List.mem_cons.mp (show e ∈ f :: fs.list from h) with rfl | h
    · exact ⟨fun w => (Bool.and_eq_true_iff.mp w).1, fun x hx => List.mem_append_left _ hx, Nat.le_max_left _ _, Nat.le_add_right _ _⟩
    · obtain ⟨h1, h2, h3, h4⟩ := Ss.part h
      exact ⟨fun w => h1 (Bool.and_eq_true_iff.mp w).2, fun x hx => List.mem_append_right _ (h2 x hx), Nat.le_trans h3 (Nat.le_max_right _ _), Nat.le_trans h4 (Nat.le_add_left _ _)⟩
  | .nil, _, h => by cases h
theorem Rps.at_E {K : PySem.W.Frag} {H : Hp} {vs : List V} {es : Es} {i : Nat} {v : V} (r : Rps K H vs es.ds) (h : vs[i]? = some v) : ∃ e, es.list[i]? = some e ∧ Rp K H v e.d := by
  rw [Es.list_ds] at r
  have hl := r.len
  rw [List.length_map] at hl
  have hi : i < es.list.length := by
    rw [← hl]
    exact (List.getElem?_eq_some_iff.mp h).1
  have e1 : es.list[i]? = some es.list[i] := List.getElem?_eq_getElem hi
  obtain ⟨u, hu, ru⟩ := r.at_ (i := i) (d := es.list[i].d) (by rw [List.getElem?_map, e1]; rfl)
  rw [h] at hu
  cases hu
  exact ⟨_, e1, ru⟩
theorem Rps.at_S {K : PySem.W.Frag} {H : Hp} {vs : List V} {es : Ss} {i : Nat} {v : V} (r : Rps K H vs es.ds) (h : vs[i]? = some v) : ∃ e, es.list[i]? = some e ∧ Rp K H v e.d := by
  rw [Ss.list_ds] at r
  have hl := r.len
  rw [List.length_map] at hl
  have hi : i < es.list.length := by
    rw [← hl]
    exact (List.getElem?_eq_some_iff.mp h).1
  have e1 : es.list[i]? = some es.list[i] := List.getElem?_eq_getElem hi
  obtain ⟨u, hu, ru⟩ := r.at_ (i := i) (d := es.list[i].d) (by rw [List.getElem?_map, e1]; rfl)
  rw [h] at hu
  cases hu
  exact ⟨_, e1, ru⟩
/-- an item of a tuple of data -/
theorem ix_rp {K : PySem.W.Frag} {H : Hp} {x : V} {ds : List PyData} {i : Nat} {d : PyData} {Q : VK} (hx : Rp K H x (.tuple ds)) (hi : ds[i]? = some d) (h : ∀ v, Rp K H v d → Q v H) : rIxT K x (.int (i : Nat)) H Q := by
  obtain ⟨a, xs, rfl, ha, hxs⟩ := hx.tup_inv
  obtain ⟨v, hv, rv⟩ := hxs.at_ hi
  exact ⟨a, xs, _, v, rfl, rfl, ha, atI_nat hv, h v rv⟩
theorem len_rp {K : PySem.W.Frag} {H : Hp} {x : V} {ds : List PyData} (hx : Rp K H x (.tuple ds)) : ∃ a xs, x = .ref a ∧ SqT K H a xs ∧ xs.length = ds.length := by
  obtain ⟨a, xs, rfl, ha, hxs⟩ := hx.tup_inv
  exact ⟨a, xs, rfl, ha, hxs.len⟩
/-- where the names are kept: a dict of places -/
def PlAt (K : PySem.W.Frag) (H : Hp) (nd : Addr) (pl : Plc) (N : List Str) : Prop := ∃ kvs, H nd = some (.dK kvs) ∧ ∀ x ∈ N, (pl x).1.length ≤ 1000 ∧ ∃ v, valV kvs (.inr x : Key) = some v ∧ Rp K H v (.tuple [.str (pl x).1, .int (pl x).2])
theorem PlAt.same {K : PySem.W.Frag} {H H' : Hp} {nd : Addr} {pl : Plc} {N : List Str} (p : PlAt K H nd pl N) (s : Same H H') : PlAt K H' nd pl N := by
  obtain ⟨kvs, h, q⟩ := p
  exact ⟨kvs, s _ _ h, fun x hx => ⟨(q x hx).1, by
    obtain ⟨v, h1, h2⟩ := (q x hx).2
    exact ⟨v, h1, h2.keep (Same.tups s)⟩⟩⟩
end Pt

set_option Elab.async false
set_option linter.all false
set_option maxRecDepth 100000
set_option maxHeartbeats 4000000
/-! Dicts whose values are anything, compared with a copy of themselves; stores keep the keys apart. -/
namespace DictN
open PySem PySem.Spec PyProof.Rows L2
def calmB : V → Bool
  | .flt _ => false
  | .ty _ => false
  | _ => true
theorem eqAt_any {A : Around} {s : Shared} {v : V} {u u' : Value} (r : RelV v u) (r' : RelV v u') (f : calmB v = true) : SeqAt.EqAt A s u u' true := by
  cases v with
  | ref a => cases (show u = Value.ref a from r); cases (show u' = Value.ref a from r'); exact SeqAt.EqAt.same _
  | flt x => exact absurd (show false = true from f) Bool.false_ne_true
  | ty n => exact absurd (show false = true from f) Bool.false_ne_true
  | non => exact eqAt_same r r' rfl
  | bl b => exact eqAt_same r r' rfl
  | int i => exact eqAt_same r r' rfl
  | str x => exact eqAt_same r r' rfl
  | byt b => exact eqAt_same r r' rfl
section
variable {κ : Type} [DecidableEq κ]
theorem hits_any {A : Around} {s : Shared} {kvs : List (κ × V)} {vb : List (κ × Value)} (rb : KV kvs vb) {ks : List (κ × V)} {va : List (κ × Value)} (ra : KV ks va) :
    (∀ p ∈ ks, valV kvs p.1 = some p.2 ∧ calmB p.2 = true) → PySem.W.KeqHits A s vb va true := by
  unfold KV at ra
  induction ra with
  | nil => intro _; exact .nil
  | @cons p q ps qs h t ih =>
    intro hp
    obtain ⟨h1, h2⟩ := h
    obtain ⟨e, f⟩ := hp p List.mem_cons_self
    have rr : RelO (some p.2) (valueAt vb p.1) := by rw [← e]; exact rb.val p.1
    obtain ⟨y, hy, ry⟩ := rr.some_of
    obtain ⟨k, v⟩ := q
    have h1' : p.1 = k := h1
    rw [h1'] at hy
    show PySem.W.KeqHits A s vb ((k, v) :: qs) (true && true)
    exact .hit hy (eqAt_any h2 ry f) (ih fun p' hm => hp p' (List.mem_cons_of_mem _ hm))
theorem nd_put {kvs : List (κ × V)} {k : κ} {v : V} (nd : (kvs.map (·.1)).Nodup) : ((putK kvs k v).map (·.1)).Nodup := by
  cases h : valV kvs k with
  | none => exact nd_putK v nd h
  | some u =>
    unfold putK
    split
    · have e : (kvs.map fun kv => if kv.1 = k then (kv.1, v) else kv).map (·.1) = kvs.map (·.1) := by
        rw [List.map_map]
        apply List.map_congr_left
        intro kv _
        show (if kv.1 = k then (kv.1, v) else kv).1 = kv.1
        split <;> rfl
      rw [e]
      exact nd
    · rename_i hn
      exfalso
      apply hn
      unfold valV at h
      cases hf : kvs.find? fun kv => decide (kv.1 = k) with
      | none => rw [hf] at h; cases h
      | some kv =>
        rw [List.any_eq_true]
        exact ⟨kv, List.mem_of_find?_eq_some hf, (List.find?_some (p := fun kv : κ × V => decide (kv.1 = k)) hf)⟩
theorem mem_put {kvs : List (κ × V)} {k : κ} {v : V} {p : κ × V} (h : p ∈ putK kvs k v) : p ∈ kvs ∨ p.2 = v := by
  unfold putK at h
  split at h
  · obtain ⟨kv, hm, e⟩ := List.mem_map.mp h
    split at e
    · exact .inr (by rw [← e])
    · exact .inl (e ▸ hm)
  · rcases List.mem_append.mp h with h | h
    · exact .inl h
    · exact .inr (by rw [List.mem_singleton.mp h])
theorem len_put {kvs : List (κ × V)} {k : κ} {v : V} : (putK kvs k v).length ≤ kvs.length + 1 := length_putK kvs k v
end
section
variable {X : Cx}
def rNeDS : R2 := fun x y H Q => ∃ a b kvs, x = .ref a ∧ y = .ref b ∧ H a = some (.dK kvs) ∧ H b = some (.dK kvs) ∧ (kvs.map (·.1)).Nodup ∧ (∀ p ∈ kvs, calmB p.2 = true) ∧ Q (.bl false) H
theorem op_ne_dictS (hu : X.A.units < cLine) : OpR X (compareOp .NotEq) rNeDS := by
  intro pins s σ H x y v u Q I rx ry h
  obtain ⟨a, b, kvs, rfl, rfl, ea, eb, nd, fl, q⟩ := h
  obtain rfl : v = Value.ref a := rx
  obtain rfl : u = Value.ref b := ry
  obtain ⟨_, ya, va, ra, da⟩ := (show ObjOk X.prog X.w H s.heap a (.dK kvs) from I.hok a _ ea)
  obtain ⟨_, yb, vb, rb, db⟩ := (show ObjOk X.prog X.w H s.heap b (.dK kvs) from I.hok b _ eb)
  have hl : va.length = vb.length := ra.length.symm.trans rb.length
  exact PySem.W.keq_ne (knd := mixKind X.prog X.w) (r := true) ya yb da db hu (fun _ => hits_any rb ra fun p hp => ⟨val_nodup nd p hp, fl p hp⟩) (fin_bl I q (by simp [hl]))
end
end DictN

set_option Elab.async false
set_option linter.all false
set_option maxRecDepth 100000
set_option maxHeartbeats 4000000
/-! enumerate(t), t a tuple: by the road of the layer's own rule for lists, over what a tuple's iterator draws. -/
namespace EnumT
open PySem PySem.Spec PyProof.Rows L2
theorem new_one {v : Value} {o : Obj} {H : Heap → Prop} (B : Begins v o H) :
    Meets (Builtin.«enumerate.__new__» ⟨[.type "enumerate", v], []⟩) (fun _ R s => H s.heap ∧
      R (.ok (.ret (.ref (s.heap.push o).objs.size))) { s with heap := (s.heap.push o).push { cls := .type "enumerate", data := .fields #[.none, .bool false, .ref s.heap.objs.size, rawInt 0, .none, .none] } }) :=
  .of_wp fun prog w A R s h => by
    obtain ⟨hp, g, d, tk, os⟩ := s
    obtain ⟨h1, h⟩ := h
    have hsub := sub_enumerate
    have q1 : ∀ {A' : Around} {E : Value → Shared → Prop} {Q : Value → Shared → Prop}, Q (.ref hp.objs.size) ⟨hp.push o, g, d, tk, os⟩ → wpAny (model prog w) A' (pyIter v) Q E ⟨hp, g, d, tk, os⟩ :=
      fun q => B.iter prog w _ _ ⟨hp, g, d, tk, os⟩ _ h1 q
    wp_walk using q1
    refine wpAny_stack_any fun st => wpAny_pure ?_
    split
    · rename_i c _ _ _ _ _
      cases (c == Value.type "enumerate")
      · wp_walk using q1
        exact ⟨_, rfl, h⟩
      · wp_walk using q1
        exact ⟨_, rfl, h⟩
    · wp_walk using q1
      exact ⟨_, rfl, h⟩
theorem call_one {prog : Program} {w : World} {A : Around} {E : Value → Shared → Prop} {s : Shared} {v : Value} {o : Obj} {H : Heap → Prop} {Q : Value → Shared → Prop} (B : Begins v o H) (h1 : H s.heap)
    (h : ∀ h', IsEnum h' (s.heap.objs.size + 1) s.heap.objs.size 0 .none → h'.get? s.heap.objs.size = some o → (∀ b o, s.heap.get? b = some o → h'.get? b = some o) → Q (.ref (s.heap.objs.size + 1)) { s with heap := h' }) :
    wpAny (model prog w) A (call (.type "enumerate") [v]) Q E s := by
  refine callType_new F.called_enumerate (by decide) (F.typeCall_enumerate_1 _) (F.newCall_enumerate_1 _) (fun obj => F.args_object_init_2 obj _) F.entry_enumerate_new
    (new_one B) ⟨h1, ?_⟩
  have hz : (s.heap.push o).objs.size = s.heap.objs.size + 1 := Heap.size_push ..
  show _ ∧ _
  rw [hz]
  have he : IsEnum ((s.heap.push o).push { cls := .type "enumerate", data := .fields #[.none, .bool false, .ref s.heap.objs.size, rawInt 0, .none, .none] }) (s.heap.objs.size + 1) s.heap.objs.size 0 .none := by
    have := Heap.get?_push_size (s.heap.push o) (o := { cls := .type "enumerate", data := .fields #[.none, .bool false, .ref s.heap.objs.size, rawInt 0, .none, .none] }) rfl
    rw [hz] at this
    exact this
  exact ⟨⟨_, he, rfl⟩, h _ he (Heap.get?_push_of_some _ (Heap.get?_push_size _ B.free)) fun b o x => Heap.get?_push_of_some _ (Heap.get?_push_of_some _ x)⟩
/-- the tuple at a, each item in a new pair -/
def Itet (K : PySem.W.Frag) (a : Addr) : It :=
  ⟨fun i H => ∃ (xs : List V) (x : V), SqT K H a xs ∧ xs[i]? = some x, fun i H v H' => ∃ T x, v = .ref T ∧ H T = none ∧ H' = upd H T (.tup [.int (i : Nat), x]) ∧ ∀ xs, SqT K H a xs → xs[i]? = some x, fun i H => ∃ xs : List V, SqT K H a xs ∧ xs.length = i⟩
theorem turn_enumT {P : Program} {w : World} {K : PySem.W.Frag} {elts : List Expr} {kk : Nat} {tpos : Pos} (a e it : Addr) :
    Turn P w K (.Tuple elts kk tpos) (Itet K a) [e, it] e (fun i h => (∃ old, IsEnum h e it ((i : Nat) : Int) old) ∧ h.IsTupleIter it a i ∧ e ≠ it ∧ e ≠ a ∧ a ≠ it) where
  mem := by simp
  obj := fun i h st b hb => by
    obtain ⟨⟨old, he⟩, ⟨o, ho, hc, hd⟩, _⟩ := st
    have e' : b = e ∨ b = it := by simpa using hb
    rcases e' with z | z
    · rw [z]; exact ⟨_, he, fun v q => nomatch q⟩
    · rw [z]; exact ⟨o, ho, fun v q => by rw [hd] at q; cases q⟩
  keep := fun i h h' st k => let ⟨⟨old, he⟩, hi, hne⟩ := st; ⟨⟨old, k e (by simp) _ he⟩, hi.at fun o q => k it (by simp) o q, hne⟩
  item := by
    intro X hP hw hK hc i pins s σ H E I hf st hg
    subst hP hw hK
    obtain ⟨⟨old, he⟩, hit, hne, hea, hai⟩ := st
    obtain ⟨xs, x, hq, hx⟩ := hg
    obtain ⟨its, rv, p, hz⟩ := I.tuple hq
    obtain ⟨u, hu, ru⟩ := rv.get hx
    have hel : e < s.heap.objs.size := Heap.lt_size he
    have hil : it < s.heap.objs.size := by obtain ⟨_, q, _⟩ := hit; exact Heap.lt_size q
    have hlt : i < its.toArray.size := by
      have h1 := (List.getElem?_eq_some_iff.mp hu).1
      simpa using h1
    refine wpAny_pyNext_enum_itemC (Draws.tuple (A := X.A.in1) (by first | exact I.ok.hd hc | (show X.A.handled = none; exact I.ok.hd hc)) it a hai its.toArray) he ⟨hit, p⟩ hlt hne (fun z => ?_) fun x' h' tk hP ho hs' hT hsz hk => ?_
    · have z' : e = it ∨ e = a := by simpa using z
      exact z'.elim hne hea
    obtain ⟨hit', _⟩ := hs'
    have ex' : x' = u := by
      have h1 : its.toArray[i]? = some x' := hP
      rw [show its.toArray[i]? = some u by simpa using hu] at h1
      exact (Option.some.inj h1).symm
    subst ex'
    refine ⟨_, rfl, wpAny_letOwnedTupleGo_enum (s := { s with heap := h', toks := tk + 1 }) ho fun h'' he' sb => ?_⟩
    have hT2 : h''.get? s.heap.objs.size = some { cls := .type "tuple", data := .seq #[.int i tk, x'] } := (sb.2 _ (Nat.ne_of_gt hel)).trans hT
    have new : ObjOk X.prog X.w (upd H s.heap.objs.size (.tup [.int (i : Nat), x])) h'' s.heap.objs.size (.tup [.int (i : Nat), x]) :=
      ⟨by show 2 ≤ sizeLine; decide, [.int i tk, x'], .cons ⟨_, rfl⟩ (.cons ru .nil), ⟨_, hT2, rfl, _, rfl⟩⟩
    have I1 : Inv X pins σ (upd H s.heap.objs.size (.tup [.int (i : Nat), x])) { s with heap := h'', toks := tk + 1 } :=
      I.turnedNew (ch := [e, it]) (fun b ob hb q => (sb.2 b (fun z => hb (by simp [z]))).trans (hk b ob (fun z => hb (by simp [z])) (fun z => hb (by simp [z])) q)) hf (Nat.le_refl _) new
    refine ⟨.ref s.heap.objs.size, _, I1, rfl, ⟨_, x, rfl, I.hok.fresh (Nat.le_refl _), rfl, fun ys hy => by rw [I.tuple_inj hy hq]; exact hx⟩, ⟨⟨x', ?_⟩, hit'.at fun o q => (sb.2 it (Ne.symm hne)).trans q, hne, hea, hai⟩, fun b hb => ?_⟩
    · have e1 : ((i + 1 : Nat) : Int) = (i : Int) + 1 := by omega
      rw [e1]; exact he'
    · have hb' : b < s.heap.objs.size := by
        have e' : b = e ∨ b = it := by simpa using hb
        rcases e' with z | z
        · rw [z]; exact hel
        · rw [z]; exact hil
      rw [upd_ne (Nat.ne_of_lt hb')]
      exact (hf b hb).1
  done := by
    intro X hP hw hK hc i pins s σ H E I hf st hg
    subst hP hw hK
    obtain ⟨⟨old, he⟩, hit, hne, hea, hai⟩ := st
    obtain ⟨xs, hq, hx⟩ := hg
    obtain ⟨its, rv, p, hz⟩ := I.tuple hq
    obtain ⟨f0, f1, f2, f3, f4, f5⟩ := hf it (by simp)
    have hl := rv.length
    have hi : i = its.toArray.size := by simp; omega
    subst hi
    exact wpAny_pyNext_enum_endD (Draws.tuple (A := X.A.in1) (by first | exact I.ok.hd hc | (show X.A.handled = none; exact I.ok.hd hc)) it a hai its.toArray) he ⟨hit, p⟩ fun h' eb => ⟨rfl, I.turned (t' := s.toks) (fun b o hb q => eb b o hb q) f0 f1 f3 f4 f5⟩
  self := fun A i s Q E st h => let ⟨⟨_, he⟩, _⟩ := st; wpAny_pyIter_enum he h
def iEnumT (K : PySem.W.Frag) (ta : TA) : TI := fun σ H R => ta σ H fun vs H1 => ∃ a xs, vs = [.ref a] ∧ SqT K H1 a xs ∧ R (Itet K a) H1
theorem pi_enumT {X : Cx} {e : Expr} {ta : TA} {p pos tpos : Pos} {elts : List Expr} {kk : Nat} (hg : Gl X "enumerate") (hm : X.mg "enumerate" = none) (ha : PA X [e] ta) (hs : starEach [e] X.env = [(false, eval e X.env)] := by rfl) :
    PI X (.Tuple elts kk tpos) (.Call (.Name "enumerate" p) [e] [] pos) (iEnumT X.K ta) := by
  refine ⟨fun pins s σ H R I h => ?_⟩
  refine Call_ (ld_blt I hg hm boot_enumerate (PyProof.Rows.callWith_type1 (thn (ha.run pos pins s σ H _ I h) fun us s1 ⟨vs, H1, I1, r1, q1⟩ => ?_) hs rfl))
  obtain ⟨a, xs, ex, hq, q⟩ := q1
  subst ex
  cases r1 with
  | cons r rr =>
    cases rr
    cases r
    obtain ⟨its, rv, p', hz⟩ := I1.tuple hq
    have hal : a < s1.heap.objs.size := by obtain ⟨_, q, _⟩ := id p'; exact Heap.lt_size q
    refine call_one (begins_tuple a its.toArray) p' fun h' he hit hk => wpAny_pyIter_enum he ?_
    have I2 : Inv X pins σ H1 { s1 with heap := h' } := I1.kept (t' := s1.toks) hk
    refine ⟨s1.heap.objs.size + 1, [s1.heap.objs.size + 1, s1.heap.objs.size], _, _, H1, rfl, I2, turn_enumT a (s1.heap.objs.size + 1) s1.heap.objs.size, ⟨⟨.none, he⟩, ⟨_, hit, rfl, rfl⟩, Nat.succ_ne_self _, Nat.ne_of_gt (Nat.lt_succ_of_lt hal), Nat.ne_of_lt hal⟩, fun b hb => ?_, q⟩
    have e' : b = s1.heap.objs.size + 1 ∨ b = s1.heap.objs.size := by simpa using hb
    have hle : s1.heap.objs.size ≤ b := by
      rcases e' with z | z
      · rw [z]; exact Nat.le_add_right _ _
      · rw [z]; exact Nat.le_refl _
    exact I1.fpOk hle (I1.hok.fresh hle)
theorem walk_enumT {K : PySem.W.Frag} {a : Addr} {xs : List V} : Walk (Itet K a) xs.length (fun H => SqT K H a xs) (YPair (fun i => some (.int (i : Nat))) (fun i => xs[i]?)) := by
  refine ⟨fun i _ hi q => ⟨xs, xs[i], q, by simp [hi]⟩, fun _ q => ⟨xs, q, rfl⟩, fun i H v H' _ q y => ?_⟩
  obtain ⟨T, x, h1, h2, h3, h4⟩ := y
  exact ⟨T, .int (i : Nat), x, h1, h2, h3, rfl, h4 xs q⟩
end EnumT

set_option Elab.async false
set_option linter.all false
set_option maxRecDepth 100000
set_option maxHeartbeats 4000000
/-! t[::-1], t a tuple. -/
namespace RevS
open PySem PySem.Spec PyProof.Rows L2 HT
section
variable {prog : Program} {w : World} {A : Around} {E : Value → Shared → Prop} {s : Shared}
theorem fm_congr {α β : Type} {f g : α → Option β} : ∀ {l : List α}, (∀ x ∈ l, f x = g x) → l.filterMap f = l.filterMap g
  | [], _ => rfl
  | x :: l, h => by
    rw [List.filterMap_cons, List.filterMap_cons, h x List.mem_cons_self, fm_congr (l := l) fun y hy => h y (List.mem_cons_of_mem _ hy)]
theorem adjust_back (n : Nat) : Builtin.Slice.sliceAdjust none none (-1) (n : Int) = ((n : Int) - 1, -1) := rfl
theorem places_back (n : Nat) : Builtin.Slice.slicePlaces ((n : Int) - 1) (-1) (-1) = n := by
  unfold Builtin.Slice.slicePlaces
  have h1 : ¬ ((-1 : Int) > 0) := by decide
  rw [if_neg h1]
  by_cases h : (n : Int) - 1 > -1
  · rw [if_pos h, show (-(-1) : Int) = 1 by decide, Int.ediv_one]
    omega
  · rw [if_neg h]
    omega
theorem pick_back (xs : Array Value) : ((List.range xs.size).filterMap fun (m : Nat) => xs[(((xs.size : Int) - 1) + (m : Int) * -1).toNat]?).toArray = xs.toList.reverse.toArray := by
  congr 1
  rw [← PySem.W.krv_all xs, ← List.filterMap_reverse, ← PySem.W.krv_range, List.filterMap_map]
  refine fm_congr fun m hm => ?_
  have h := List.mem_range.mp hm
  have e : (((xs.size : Int) - 1) + (m : Int) * -1).toNat = xs.size - 1 - m := by omega
  show xs[(((xs.size : Int) - 1) + (m : Int) * -1).toNat]? = xs[xs.size - 1 - m]?
  rw [e]
theorem applied_back {sl : Addr} {vl vu vs : Value} {n : Nat} {Q : Int × Int × Nat → Shared → Prop} (hs : s.heap.IsSliceOf sl vl vu vs) (pl : IsPart vl none) (pu : IsPart vu none) (ps : IsPart vs (some (-1)))
    (h : Q ((n : Int) - 1, -1, n) s) : wpAny (model prog w) A (Builtin.Slice.sliceApplied (.ref sl) (pure (n : Int))) Q E s := by
  obtain ⟨os, hos, hcs, hds⟩ := id hs
  unfold Builtin.Slice.sliceApplied Builtin.Slice.sliceFields
  refine wpAny_bind (wpAny_bind (wpAny_field hos hds (x := vl) rfl (wpAny_bind (wpAny_field hos hds (x := vu) rfl (wpAny_bind (wpAny_field hos hds (x := vs) rfl (wpAny_pure ?_)))))))
  refine wpAny_bind (slicePart_ ps ?_)
  show wpAny _ _ (if ((-1 : Int) == 0) = true then _ else _) _ _ s
  rw [if_neg (by decide)]
  refine wpAny_bind (slicePart_ pl (wpAny_bind (slicePart_ pu (wpAny_bind (wpAny_pure ?_)))))
  show wpAny _ _ (match Builtin.Slice.sliceAdjust none none (-1) (n : Int) with | (lo, hi) => pure (lo, (-1 : Int), Builtin.Slice.slicePlaces lo hi (-1))) _ _ s
  rw [adjust_back]
  show wpAny _ _ (pure ((n : Int) - 1, (-1 : Int), Builtin.Slice.slicePlaces ((n : Int) - 1) (-1) (-1))) _ _ s
  rw [places_back]
  exact wpAny_pure h
theorem getItem_back {t sl : Addr} {items : Array Value} {vl vu vs : Value} {Q : Value → Shared → Prop} (ht : IsTup s.heap t items) (hs : s.heap.IsSliceOf sl vl vu vs) (pl : IsPart vl none) (pu : IsPart vu none) (ps : IsPart vs (some (-1)))
    (h : Q (.ref s.heap.objs.size) { s with heap := s.heap.push { cls := .type "tuple", data := .seq items.toList.reverse.toArray } })
    (hsz : items.size ≤ sizeLine) : wpAny (model prog w) A (getItem (.ref t) (.ref sl)) Q E s := by
  have htake : sizeOk (.seq items.toList.reverse.toArray) := by
    show items.toList.reverse.toArray.size ≤ sizeLine
    rw [List.size_toArray, List.length_reverse, Array.length_toList]
    exact hsz
  obtain ⟨os, hos, hcs, hds⟩ := id hs
  have hTs : s.TypeIs (.ref sl) "slice" := ⟨os, hos, hcs⟩
  unfold getItem
  try with_reducible refine wpAny_holding ?_
  first | refine wpAny_bind (wpAny_pure ?_) | skip
  refine wpAny_bind (wpAny_sequenceKey ht.typeIs (by decide) ?_)
  refine wpAny_bind (wpAny_callSpecial?_slot (name := Str.ofString "__getitem__") ht.typeIs PyProof.Rows.slot_tuple_getitem
    (wpAny_call_entry PyProof.Rows.slot_tuple_getitem ht.typeIs entry_tuple_getitem ?_ (args_tuple_getitem _ _)))
  show wpAny _ _ (Builtin.Tuple.tupleItemsOf (.ref t) >>= _) _ _ s
  refine wpAny_bind (tupleItemsOf_ ht ?_)
  refine wpAny_bind (wpAny_typeOf hTs ?_)
  rw [if_pos (by decide)]
  refine wpAny_bind (applied_back hs pl pu ps ?_)
  have hno : ¬ ((((items.size : Int) - 1) == 0 && (-1 : Int) == 1 && items.size == items.size) = true) := by
    intro q
    rw [Bool.and_eq_true, Bool.and_eq_true] at q
    exact absurd q.1.2 (by decide)
  show wpAny _ _ (if (((items.size : Int) - 1) == 0 && (-1 : Int) == 1 && items.size == items.size) = true then _ else _) _ _ s
  rw [if_neg hno, pick_back]
  first
    | exact wpAny_bind (m := Builtin.Tuple.tupleExact _) (wpAny_newObj_type (wpAny_pure ⟨_, rfl, wpAny_pure h⟩) htake)
    | exact wpAny_bind (m := Builtin.Tuple.tupleExact _) (wpAny_newObj_type (wpAny_bind (wpAny_pure (wpAny_pure ⟨_, rfl, wpAny_pure h⟩))) htake)
    | exact wpAny_bind (wpAny_bind (m := Builtin.Tuple.tupleExact _) (wpAny_newObj_type (wpAny_pure (wpAny_pure ⟨_, rfl, wpAny_pure h⟩)) htake))
    | exact wpAny_bind (wpAny_bind (m := Builtin.Tuple.tupleExact _) (wpAny_newObj_type (wpAny_pure ⟨_, rfl, wpAny_pure h⟩) htake))
end
section
variable {X : Cx}
def tRevT (K : PySem.W.Frag) (te : TE) : TE := fun σ H Q => te σ H fun x H1 => ∃ a xs, x = .ref a ∧ SqT K H1 a xs ∧ ∀ p, H1 p = none → Q (.ref p) (upd H1 p (.tup xs.reverse))
theorem pe_revT {e : Expr} {te : TE} {k : Nat} {p1 p2 p3 pos : Pos} (he : PE X e te) : PE X (.Subscript e (.Slice none none (some (.UnaryOp .USub (.Constant (.int 1) k p1) p2)) p3) pos) (tRevT X.K te) := by
  refine ⟨fun pins s σ H Q I h => ?_⟩
  refine Subscript_ (thn (he.run pins s σ H _ I h) fun v s1 ⟨x, H1, I1, r1, q1⟩ => ?_)
  obtain ⟨a, xs, ex, hx, q⟩ := q1
  subst ex
  cases r1
  have hst : PO X (some (.UnaryOp .USub (.Constant (.int 1) k p1) p2)) (tPart (tUn (rU fun i => .int (-i)) (tC (.int 1)))) := po_some (pe_un un_neg pe_int)
  refine wpAny_Slice (thn (po_none.run pins s1 σ H1 (fun o H2 => o = none ∧ H2 = H1) I1 ⟨rfl, rfl⟩) fun vl s2 ⟨l, H2, I2, pl, el, e2⟩ => ?_)
  subst el e2
  refine thn (po_none.run pins s2 σ H2 (fun o H3 => o = none ∧ H3 = H2) I2 ⟨rfl, rfl⟩) fun vu s3 ⟨u, H3, I3, pu, eu, e3⟩ => ?_
  subst eu e3
  refine thn (hst.run pins s3 σ H3 (fun o H4 => o = some (-1) ∧ H4 = H3) I3 ⟨1, rfl, -1, rfl, rfl, rfl⟩) fun vs s4 ⟨o, H4, I4, ps, eo, e4⟩ => ?_
  subst eo e4
  have I5 : Inv X pins σ H4 { s4 with heap := s4.heap.push { cls := .type "slice", data := .fields #[vl, vu, vs] } } := I4.kept (t' := s4.toks) fun b ob q => Heap.get?_push_of_some _ q
  obtain ⟨its, r, ht, hz⟩ := I5.tuple hx
  have hlen := r.length
  show wpAny (model X.prog X.w) X.A (subscriptTail e (.Slice none none (some (.UnaryOp .USub (.Constant (.int 1) k p1) p2)) p3) (.ref a) (.ref s4.heap.objs.size)) (EP X pins σ Q) X.xe { s4 with heap := s4.heap.push { cls := .type "slice", data := .fields #[vl, vu, vs] } }
  refine tail_any (ops := [.ref a, .ref s4.heap.objs.size]) ht.typeIs (PyProof.Rows.slot_tuple_getitem.lookup) ?_ (by with_unfolding_all rfl)
  refine getItem_back ht (Heap.IsSliceOf.new _ vl vu vs) pl pu ps ?_ (by rw [List.size_toArray]; omega)
  refine ⟨.ref _, _, I5.laid (t' := s4.toks) (o := .tup xs.reverse) (fun b ob q => Heap.get?_push_of_some _ q) (Nat.le_refl _) ?_, rfl, q _ (I5.hok.fresh (Nat.le_refl _))⟩
  exact ⟨by rw [List.length_reverse]; exact hz, _, r.reverse, IsTup.new _ _⟩
/-- xs[::-1] of a list: a new list -/
def tRevL (K : PySem.W.Frag) (te : TE) : TE := fun σ H Q => te σ H fun x H1 => ∃ a xs, x = .ref a ∧ SqL K H1 a xs ∧ ∀ p, H1 p = none → Q (.ref p) (upd H1 p (.lst xs.reverse))
theorem pe_revL {e : Expr} {te : TE} {k : Nat} {p1 p2 p3 pos : Pos} (he : PE X e te) : PE X (.Subscript e (.Slice none none (some (.UnaryOp .USub (.Constant (.int 1) k p1) p2)) p3) pos) (tRevL X.K te) := by
  refine ⟨fun pins s σ H Q I h => ?_⟩
  refine Subscript_ (thn (he.run pins s σ H _ I h) fun v s1 ⟨x, H1, I1, r1, q1⟩ => ?_)
  obtain ⟨a, xs, ex, hx, q⟩ := q1
  subst ex
  cases r1
  have hst : PO X (some (.UnaryOp .USub (.Constant (.int 1) k p1) p2)) (tPart (tUn (rU fun i => .int (-i)) (tC (.int 1)))) := po_some (pe_un un_neg pe_int)
  refine wpAny_Slice (thn (po_none.run pins s1 σ H1 (fun o H2 => o = none ∧ H2 = H1) I1 ⟨rfl, rfl⟩) fun vl s2 ⟨l, H2, I2, pl, el, e2⟩ => ?_)
  subst el e2
  refine thn (po_none.run pins s2 σ H2 (fun o H3 => o = none ∧ H3 = H2) I2 ⟨rfl, rfl⟩) fun vu s3 ⟨u, H3, I3, pu, eu, e3⟩ => ?_
  subst eu e3
  refine thn (hst.run pins s3 σ H3 (fun o H4 => o = some (-1) ∧ H4 = H3) I3 ⟨1, rfl, -1, rfl, rfl, rfl⟩) fun vs s4 ⟨o, H4, I4, ps, eo, e4⟩ => ?_
  subst eo e4
  have I5 : Inv X pins σ H4 { s4 with heap := s4.heap.push { cls := .type "slice", data := .fields #[vl, vu, vs] } } := I4.kept (t' := s4.toks) fun b ob q => Heap.get?_push_of_some _ q
  obtain ⟨its, r, ht, hz⟩ := I5.list hx
  have hlen := r.length
  show wpAny (model X.prog X.w) X.A (subscriptTail e (.Slice none none (some (.UnaryOp .USub (.Constant (.int 1) k p1) p2)) p3) (.ref a) (.ref s4.heap.objs.size)) (EP X pins σ Q) X.xe { s4 with heap := s4.heap.push { cls := .type "slice", data := .fields #[vl, vu, vs] } }
  refine tail_any (ops := [.ref a, .ref s4.heap.objs.size]) ht.isList.typeIs (slot_list_getitem.lookup) ?_ (by with_unfolding_all rfl)
  refine wpAny_getItem_list_slice ht.isList (Heap.IsSliceOf.new _ vl vu vs) pl pu ps (by simp) ?_ (by rw [List.size_toArray]; omega)
  rw [PySem.W.krv_pick]
  refine ⟨.ref _, _, I5.laid (t' := s4.toks) (o := .lst xs.reverse) (fun b ob q => Heap.get?_push_of_some _ q) (Nat.le_refl _) ?_, rfl, q _ (I5.hok.fresh (Nat.le_refl _))⟩
  exact ⟨by rw [List.length_reverse]; exact hz, _, 0, r.reverse, Heap.get?_push_size _ rfl⟩
end
end RevS

set_option Elab.async false
set_option linter.all false
set_option maxRecDepth 100000
set_option maxHeartbeats 4000000
--%OPEN Pt
--%VAR variable {P : Program} {w : World} {K : PySem.W.Frag} {mg : Str → Option Value} {base : Heap} {a : Fds}
namespace K21
open PySem PySem.Spec PyProof.Rows L2 Pt
open PySem PySem.Spec PyProof.Rows L2
def topS (i : Nat) : Stmt := PySem.Challenge.pw_portage_k22_images.main.body.getD i (.Pass ⟨0, 0, 0, 0⟩)
abbrev s_blocks_in : Stmt := topS 1
abbrev N_blocks_in : List Str := ["statement"]
theorem sc_blocks_in : FnScope N_blocks_in ["statement"] (defScope s_blocks_in) := ⟨rfl, rfl, rfl, by decide +kernel, rfl, by decide +kernel, by decide +kernel⟩
abbrev s_let_names : Stmt := topS 2
abbrev N_let_names : List Str := ["block", "found", "statement", "inner"]
theorem sc_let_names : FnScope N_let_names ["block"] (defScope s_let_names) := ⟨rfl, rfl, rfl, by decide +kernel, rfl, by decide +kernel, by decide +kernel⟩
abbrev s_compile_program : Stmt := topS 8
abbrev N_compile_program : List Str := ["program", "makers", "maker"]
theorem sc_compile_program : FnScope N_compile_program ["program"] (defScope s_compile_program) := ⟨rfl, rfl, rfl, by decide +kernel, rfl, by decide +kernel, by decide +kernel⟩
abbrev s_compiled_maker : Stmt := topS 9
abbrev N_compiled_maker : List Str := ["maker", "name", "params", "fields", "operations", "held", "names", "firsts", "attached", "rows", "k", "part", "_", "kind", "first", "row", "inner", "block", "param"]
theorem sc_compiled_maker : FnScope N_compiled_maker ["maker"] (defScope s_compiled_maker) := ⟨rfl, rfl, rfl, by decide +kernel, rfl, by decide +kernel, by decide +kernel⟩
abbrev s_compiled_row : Stmt := topS 10
abbrev N_compiled_row : List Str := ["name", "params", "block", "fields", "inner", "names", "k", "local"]
theorem sc_compiled_row : FnScope N_compiled_row ["name", "params", "block", "fields"] (defScope s_compiled_row) := ⟨rfl, rfl, rfl, by decide +kernel, rfl, by decide +kernel, by decide +kernel⟩
abbrev s_local_names : Stmt := topS 11
abbrev N_local_names : List Str := ["params", "block"]
theorem sc_local_names : FnScope N_local_names ["params", "block"] (defScope s_local_names) := ⟨rfl, rfl, rfl, by decide +kernel, rfl, by decide +kernel, by decide +kernel⟩
abbrev s_compiled_block : Stmt := topS 12
abbrev N_compiled_block : List Str := ["names", "block"]
theorem sc_compiled_block : FnScope N_compiled_block ["names", "block"] (defScope s_compiled_block) := ⟨rfl, rfl, rfl, by decide +kernel, rfl, by decide +kernel, by decide +kernel⟩
abbrev s_row_of : Stmt := topS 13
abbrev N_row_of : List Str := ["image", "maker", "operation", "row"]
theorem sc_row_of : FnScope N_row_of ["image", "maker", "operation"] (defScope s_row_of) := ⟨rfl, rfl, rfl, by decide +kernel, rfl, by decide +kernel, by decide +kernel⟩
abbrev s_maker_of : Stmt := topS 14
abbrev N_maker_of : List Str := ["image", "name", "makers", "start", "maker"]
theorem sc_maker_of : FnScope N_maker_of ["image", "name"] (defScope s_maker_of) := ⟨rfl, rfl, rfl, by decide +kernel, rfl, by decide +kernel, by decide +kernel⟩
abbrev s_block_code : Stmt := topS 15
abbrev N_block_code : List Str := ["names", "block", "at", "code", "statement"]
theorem sc_block_code : FnScope N_block_code ["names", "block", "at"] (defScope s_block_code) := ⟨rfl, rfl, rfl, by decide +kernel, rfl, by decide +kernel, by decide +kernel⟩
abbrev s_statement_code : Stmt := topS 16
abbrev N_statement_code : List Str := ["names", "statement", "at", "word", "where", "k", "instruction"]
theorem sc_statement_code : FnScope N_statement_code ["names", "statement", "at"] (defScope s_statement_code) := ⟨rfl, rfl, rfl, by decide +kernel, rfl, by decide +kernel, by decide +kernel⟩
abbrev s_if_code : Stmt := topS 17
abbrev N_if_code : List Str := ["names", "statement", "at", "_", "condition", "block", "other", "asked", "first", "behind", "second"]
theorem sc_if_code : FnScope N_if_code ["names", "statement", "at"] (defScope s_if_code) := ⟨rfl, rfl, rfl, by decide +kernel, rfl, by decide +kernel, by decide +kernel⟩
abbrev s_while_code : Stmt := topS 18
abbrev N_while_code : List Str := ["names", "statement", "at", "asked", "block", "behind"]
theorem sc_while_code : FnScope N_while_code ["names", "statement", "at"] (defScope s_while_code) := ⟨rfl, rfl, rfl, by decide +kernel, rfl, by decide +kernel, by decide +kernel⟩
abbrev s_row_code : Stmt := topS 19
abbrev N_row_code : List Str := ["names", "expressions", "at", "code", "expression"]
theorem sc_row_code : FnScope N_row_code ["names", "expressions", "at"] (defScope s_row_code) := ⟨rfl, rfl, rfl, by decide +kernel, rfl, by decide +kernel, by decide +kernel⟩
abbrev s_call_code : Stmt := topS 20
abbrev N_call_code : List Str := ["names", "call", "at", "word", "receiver", "operation", "arguments"]
theorem sc_call_code : FnScope N_call_code ["names", "call", "at"] (defScope s_call_code) := ⟨rfl, rfl, rfl, by decide +kernel, rfl, by decide +kernel, by decide +kernel⟩
abbrev s_expression_code : Stmt := topS 21
abbrev N_expression_code : List Str := ["names", "expression", "at", "word"]
theorem sc_expression_code : FnScope N_expression_code ["names", "expression", "at"] (defScope s_expression_code) := ⟨rfl, rfl, rfl, by decide +kernel, rfl, by decide +kernel, by decide +kernel⟩
abbrev s_choice_code : Stmt := topS 22
abbrev N_choice_code : List Str := ["names", "expression", "at", "word", "left", "right", "turned", "first", "second", "decided", "plain", "early", "ends"]
theorem sc_choice_code : FnScope N_choice_code ["names", "expression", "at"] (defScope s_choice_code) := ⟨rfl, rfl, rfl, by decide +kernel, rfl, by decide +kernel, by decide +kernel⟩
abbrev s_lw_cell : Stmt := topS 24
abbrev N_lw_cell : List Str := ["script", "k"]
theorem sc_lw_cell : FnScope N_lw_cell ["script", "k"] (defScope s_lw_cell) := ⟨rfl, rfl, rfl, by decide +kernel, rfl, by decide +kernel, by decide +kernel⟩
abbrev s_lw_numbers : Stmt := topS 25
abbrev N_lw_numbers : List Str := ["cell", "k", "many", "numbers", "rest", "j", "mixed", "twice"]
theorem sc_lw_numbers : FnScope N_lw_numbers ["cell", "k", "many"] (defScope s_lw_numbers) := ⟨rfl, rfl, rfl, by decide +kernel, rfl, by decide +kernel, by decide +kernel⟩
abbrev s_lw_pick : Stmt := topS 26
abbrev N_lw_pick : List Str := ["numbers", "at"]
theorem sc_lw_pick : FnScope N_lw_pick ["numbers", "at"] (defScope s_lw_pick) := ⟨rfl, rfl, rfl, by decide +kernel, rfl, by decide +kernel, by decide +kernel⟩
abbrev s_lw_int : Stmt := topS 27
abbrev N_lw_int : List Str := ["numbers", "at", "ints", "cells", "level", "depth", "pick", "way", "word", "first", "receiver", "other"]
theorem sc_lw_int : FnScope N_lw_int ["numbers", "at", "ints", "cells", "level", "depth"] (defScope s_lw_int) := ⟨rfl, rfl, rfl, by decide +kernel, rfl, by decide +kernel, by decide +kernel⟩
abbrev s_lw_object : Stmt := topS 28
abbrev N_lw_object : List Str := ["numbers", "at", "ints", "cells", "level", "depth", "pick", "way", "name", "first", "number", "receiver"]
theorem sc_lw_object : FnScope N_lw_object ["numbers", "at", "ints", "cells", "level", "depth"] (defScope s_lw_object) := ⟨rfl, rfl, rfl, by decide +kernel, rfl, by decide +kernel, by decide +kernel⟩
abbrev s_lw_receiver : Stmt := topS 29
abbrev N_lw_receiver : List Str := ["numbers", "at", "ints", "cells", "level", "depth", "found"]
theorem sc_lw_receiver : FnScope N_lw_receiver ["numbers", "at", "ints", "cells", "level", "depth"] (defScope s_lw_receiver) := ⟨rfl, rfl, rfl, by decide +kernel, rfl, by decide +kernel, by decide +kernel⟩
abbrev s_lw_block : Stmt := topS 30
abbrev N_lw_block : List Str := ["numbers", "at", "ints", "cells", "level", "many", "mark", "rows", "k", "pick", "way", "name", "own", "first", "second", "inner", "onward", "receiver", "given", "one"]
theorem sc_lw_block : FnScope N_lw_block ["numbers", "at", "ints", "cells", "level", "many", "mark"] (defScope s_lw_block) := ⟨rfl, rfl, rfl, by decide +kernel, rfl, by decide +kernel, by decide +kernel⟩
abbrev s_lw_maker : Stmt := topS 31
abbrev N_lw_maker : List Str := ["numbers", "at", "name", "pick", "params", "fields", "ints", "cells", "get", "put", "link", "both", "rows"]
theorem sc_lw_maker : FnScope N_lw_maker ["numbers", "at", "name"] (defScope s_lw_maker) := ⟨rfl, rfl, rfl, by decide +kernel, rfl, by decide +kernel, by decide +kernel⟩
abbrev s_lw_interface : Stmt := topS 32
abbrev N_lw_interface : List Str := []
theorem sc_lw_interface : FnScope N_lw_interface [] (defScope s_lw_interface) := ⟨rfl, rfl, rfl, by decide +kernel, rfl, by decide +kernel, by decide +kernel⟩
abbrev s_lw_program : Stmt := topS 33
abbrev N_lw_program : List Str := ["numbers", "many", "level", "at", "makers", "first", "second", "third", "block", "end"]
theorem sc_lw_program : FnScope N_lw_program ["numbers", "many", "level"] (defScope s_lw_program) := ⟨rfl, rfl, rfl, by decide +kernel, rfl, by decide +kernel, by decide +kernel⟩
abbrev s_lw_code : Stmt := topS 34
abbrev N_lw_code : List Str := ["node", "places", "base", "word", "flip", "first", "second", "end", "parts", "code", "part"]
theorem sc_lw_code : FnScope N_lw_code ["node", "places", "base"] (defScope s_lw_code) := ⟨rfl, rfl, rfl, by decide +kernel, rfl, by decide +kernel, by decide +kernel⟩
abbrev s_lw_block_code : Stmt := topS 35
abbrev N_lw_block_code : List Str := ["block", "places", "base", "code", "node", "at", "word", "place", "test", "first", "end", "second", "inner"]
theorem sc_lw_block_code : FnScope N_lw_block_code ["block", "places", "base"] (defScope s_lw_block_code) := ⟨rfl, rfl, rfl, by decide +kernel, rfl, by decide +kernel, by decide +kernel⟩
abbrev s_lw_lets : Stmt := topS 36
abbrev N_lw_lets : List Str := ["block", "names", "node"]
theorem sc_lw_lets : FnScope N_lw_lets ["block"] (defScope s_lw_lets) := ⟨rfl, rfl, rfl, by decide +kernel, rfl, by decide +kernel, by decide +kernel⟩
abbrev s_lw_row : Stmt := topS 37
abbrev N_lw_row : List Str := ["name", "params", "fields", "block", "names", "places", "j", "one", "kind"]
theorem sc_lw_row : FnScope N_lw_row ["name", "params", "fields", "block"] (defScope s_lw_row) := ⟨rfl, rfl, rfl, by decide +kernel, rfl, by decide +kernel, by decide +kernel⟩
abbrev s_lw_image_of : Stmt := topS 38
abbrev N_lw_image_of : List Str := ["maker", "parts", "firsts", "attached", "name", "kind", "first", "rows", "params", "result", "block", "j", "part"]
theorem sc_lw_image_of : FnScope N_lw_image_of ["maker"] (defScope s_lw_image_of) := ⟨rfl, rfl, rfl, by decide +kernel, rfl, by decide +kernel, by decide +kernel⟩
abbrev s_lw_missing : Stmt := topS 39
abbrev N_lw_missing : List Str := ["image", "maker", "operation", "e"]
theorem sc_lw_missing : FnScope N_lw_missing ["image", "maker", "operation"] (defScope s_lw_missing) := ⟨rfl, rfl, rfl, by decide +kernel, rfl, by decide +kernel, by decide +kernel⟩
abbrev s_law : Stmt := topS 40
abbrev N_law : List Str := ["script", "k", "numbers", "program", "image", "start", "maker", "row"]
theorem sc_law : FnScope N_law ["script"] (defScope s_law) := ⟨rfl, rfl, rfl, by decide +kernel, rfl, by decide +kernel, by decide +kernel⟩
/-- the function objects that the top has made -/
structure Fds where
  d_blocks_in : FuncData
  d_let_names : FuncData
  d_compile_program : FuncData
  d_compiled_maker : FuncData
  d_compiled_row : FuncData
  d_local_names : FuncData
  d_compiled_block : FuncData
  d_row_of : FuncData
  d_maker_of : FuncData
  d_block_code : FuncData
  d_statement_code : FuncData
  d_if_code : FuncData
  d_while_code : FuncData
  d_row_code : FuncData
  d_call_code : FuncData
  d_expression_code : FuncData
  d_choice_code : FuncData
  d_lw_cell : FuncData
  d_lw_numbers : FuncData
  d_lw_pick : FuncData
  d_lw_int : FuncData
  d_lw_object : FuncData
  d_lw_receiver : FuncData
  d_lw_block : FuncData
  d_lw_maker : FuncData
  d_lw_interface : FuncData
  d_lw_program : FuncData
  d_lw_code : FuncData
  d_lw_block_code : FuncData
  d_lw_lets : FuncData
  d_lw_row : FuncData
  d_lw_image_of : FuncData
  d_lw_missing : FuncData
  d_law : FuncData
/-- what the walks ask of the top -/
structure Txt (K : PySem.W.Frag) (mg : Str → Option Value) (w : World) (a : Fds) : Prop where
  F_blocks_in : Cm.FnP K "blocks_in" s_blocks_in (He.ga K "blocks_in") a.d_blocks_in
  b_blocks_in : Binds K a.d_blocks_in ["statement"] []
  g_blocks_in : mg "blocks_in" = some (.ref (He.ga K "blocks_in"))
  F_let_names : Cm.FnP K "let_names" s_let_names (He.ga K "let_names") a.d_let_names
  b_let_names : Binds K a.d_let_names ["block"] []
  g_let_names : mg "let_names" = some (.ref (He.ga K "let_names"))
  F_compile_program : Cm.FnP K "compile_program" s_compile_program (He.ga K "compile_program") a.d_compile_program
  b_compile_program : Binds K a.d_compile_program ["program"] []
  g_compile_program : mg "compile_program" = some (.ref (He.ga K "compile_program"))
  F_compiled_maker : Cm.FnP K "_compiled_maker" s_compiled_maker (He.ga K "_compiled_maker") a.d_compiled_maker
  b_compiled_maker : Binds K a.d_compiled_maker ["maker"] []
  g_compiled_maker : mg "_compiled_maker" = some (.ref (He.ga K "_compiled_maker"))
  F_compiled_row : Cm.FnP K "_compiled_row" s_compiled_row (He.ga K "_compiled_row") a.d_compiled_row
  b_compiled_row : Binds K a.d_compiled_row ["name", "params", "block", "fields"] []
  g_compiled_row : mg "_compiled_row" = some (.ref (He.ga K "_compiled_row"))
  F_local_names : Cm.FnP K "local_names" s_local_names (He.ga K "local_names") a.d_local_names
  b_local_names : Binds K a.d_local_names ["params", "block"] []
  g_local_names : mg "local_names" = some (.ref (He.ga K "local_names"))
  F_compiled_block : Cm.FnP K "compiled_block" s_compiled_block (He.ga K "compiled_block") a.d_compiled_block
  b_compiled_block : Binds K a.d_compiled_block ["names", "block"] []
  g_compiled_block : mg "compiled_block" = some (.ref (He.ga K "compiled_block"))
  F_row_of : Cm.FnP K "row_of" s_row_of (He.ga K "row_of") a.d_row_of
  b_row_of : Binds K a.d_row_of ["image", "maker", "operation"] []
  g_row_of : mg "row_of" = some (.ref (He.ga K "row_of"))
  F_maker_of : Cm.FnP K "maker_of" s_maker_of (He.ga K "maker_of") a.d_maker_of
  b_maker_of : Binds K a.d_maker_of ["image", "name"] []
  g_maker_of : mg "maker_of" = some (.ref (He.ga K "maker_of"))
  F_block_code : Cm.FnP K "_block_code" s_block_code (He.ga K "_block_code") a.d_block_code
  b_block_code : Binds K a.d_block_code ["names", "block", "at"] []
  g_block_code : mg "_block_code" = some (.ref (He.ga K "_block_code"))
  F_statement_code : Cm.FnP K "_statement_code" s_statement_code (He.ga K "_statement_code") a.d_statement_code
  b_statement_code : Binds K a.d_statement_code ["names", "statement", "at"] []
  g_statement_code : mg "_statement_code" = some (.ref (He.ga K "_statement_code"))
  F_if_code : Cm.FnP K "_if_code" s_if_code (He.ga K "_if_code") a.d_if_code
  b_if_code : Binds K a.d_if_code ["names", "statement", "at"] []
  g_if_code : mg "_if_code" = some (.ref (He.ga K "_if_code"))
  F_while_code : Cm.FnP K "_while_code" s_while_code (He.ga K "_while_code") a.d_while_code
  b_while_code : Binds K a.d_while_code ["names", "statement", "at"] []
  g_while_code : mg "_while_code" = some (.ref (He.ga K "_while_code"))
  F_row_code : Cm.FnP K "_row_code" s_row_code (He.ga K "_row_code") a.d_row_code
  b_row_code : Binds K a.d_row_code ["names", "expressions", "at"] []
  g_row_code : mg "_row_code" = some (.ref (He.ga K "_row_code"))
  F_call_code : Cm.FnP K "_call_code" s_call_code (He.ga K "_call_code") a.d_call_code
  b_call_code : Binds K a.d_call_code ["names", "call", "at"] []
  g_call_code : mg "_call_code" = some (.ref (He.ga K "_call_code"))
  F_expression_code : Cm.FnP K "_expression_code" s_expression_code (He.ga K "_expression_code") a.d_expression_code
  b_expression_code : Binds K a.d_expression_code ["names", "expression", "at"] []
  g_expression_code : mg "_expression_code" = some (.ref (He.ga K "_expression_code"))
  F_choice_code : Cm.FnP K "_choice_code" s_choice_code (He.ga K "_choice_code") a.d_choice_code
  b_choice_code : Binds K a.d_choice_code ["names", "expression", "at"] []
  g_choice_code : mg "_choice_code" = some (.ref (He.ga K "_choice_code"))
  F_lw_cell : Cm.FnP K "_law_cell" s_lw_cell (He.ga K "_law_cell") a.d_lw_cell
  b_lw_cell : Binds K a.d_lw_cell ["script", "k"] []
  g_lw_cell : mg "_law_cell" = some (.ref (He.ga K "_law_cell"))
  F_lw_numbers : Cm.FnP K "_law_numbers" s_lw_numbers (He.ga K "_law_numbers") a.d_lw_numbers
  b_lw_numbers : Binds K a.d_lw_numbers ["cell", "k", "many"] []
  g_lw_numbers : mg "_law_numbers" = some (.ref (He.ga K "_law_numbers"))
  F_lw_pick : Cm.FnP K "_law_pick" s_lw_pick (He.ga K "_law_pick") a.d_lw_pick
  b_lw_pick : Binds K a.d_lw_pick ["numbers", "at"] []
  g_lw_pick : mg "_law_pick" = some (.ref (He.ga K "_law_pick"))
  F_lw_int : Cm.FnP K "_law_int" s_lw_int (He.ga K "_law_int") a.d_lw_int
  b_lw_int : Binds K a.d_lw_int ["numbers", "at", "ints", "cells", "level", "depth"] []
  g_lw_int : mg "_law_int" = some (.ref (He.ga K "_law_int"))
  F_lw_object : Cm.FnP K "_law_object" s_lw_object (He.ga K "_law_object") a.d_lw_object
  b_lw_object : Binds K a.d_lw_object ["numbers", "at", "ints", "cells", "level", "depth"] []
  g_lw_object : mg "_law_object" = some (.ref (He.ga K "_law_object"))
  F_lw_receiver : Cm.FnP K "_law_receiver" s_lw_receiver (He.ga K "_law_receiver") a.d_lw_receiver
  b_lw_receiver : Binds K a.d_lw_receiver ["numbers", "at", "ints", "cells", "level", "depth"] []
  g_lw_receiver : mg "_law_receiver" = some (.ref (He.ga K "_law_receiver"))
  F_lw_block : Cm.FnP K "_law_block" s_lw_block (He.ga K "_law_block") a.d_lw_block
  b_lw_block : Binds K a.d_lw_block ["numbers", "at", "ints", "cells", "level", "many", "mark"] []
  g_lw_block : mg "_law_block" = some (.ref (He.ga K "_law_block"))
  F_lw_maker : Cm.FnP K "_law_maker" s_lw_maker (He.ga K "_law_maker") a.d_lw_maker
  b_lw_maker : Binds K a.d_lw_maker ["numbers", "at", "name"] []
  g_lw_maker : mg "_law_maker" = some (.ref (He.ga K "_law_maker"))
  F_lw_interface : Cm.FnP K "_law_interface" s_lw_interface (He.ga K "_law_interface") a.d_lw_interface
  b_lw_interface : Binds K a.d_lw_interface [] []
  g_lw_interface : mg "_law_interface" = some (.ref (He.ga K "_law_interface"))
  F_lw_program : Cm.FnP K "_law_program" s_lw_program (He.ga K "_law_program") a.d_lw_program
  b_lw_program : Binds K a.d_lw_program ["numbers", "many", "level"] []
  g_lw_program : mg "_law_program" = some (.ref (He.ga K "_law_program"))
  F_lw_code : Cm.FnP K "_law_code" s_lw_code (He.ga K "_law_code") a.d_lw_code
  b_lw_code : Binds K a.d_lw_code ["node", "places", "base"] []
  g_lw_code : mg "_law_code" = some (.ref (He.ga K "_law_code"))
  F_lw_block_code : Cm.FnP K "_law_block_code" s_lw_block_code (He.ga K "_law_block_code") a.d_lw_block_code
  b_lw_block_code : Binds K a.d_lw_block_code ["block", "places", "base"] []
  g_lw_block_code : mg "_law_block_code" = some (.ref (He.ga K "_law_block_code"))
  F_lw_lets : Cm.FnP K "_law_lets" s_lw_lets (He.ga K "_law_lets") a.d_lw_lets
  b_lw_lets : Binds K a.d_lw_lets ["block"] []
  g_lw_lets : mg "_law_lets" = some (.ref (He.ga K "_law_lets"))
  F_lw_row : Cm.FnP K "_law_row" s_lw_row (He.ga K "_law_row") a.d_lw_row
  b_lw_row : Binds K a.d_lw_row ["name", "params", "fields", "block"] []
  g_lw_row : mg "_law_row" = some (.ref (He.ga K "_law_row"))
  F_lw_image_of : Cm.FnP K "_law_image_of" s_lw_image_of (He.ga K "_law_image_of") a.d_lw_image_of
  b_lw_image_of : Binds K a.d_lw_image_of ["maker"] []
  g_lw_image_of : mg "_law_image_of" = some (.ref (He.ga K "_law_image_of"))
  F_lw_missing : Cm.FnP K "_law_missing" s_lw_missing (He.ga K "_law_missing") a.d_lw_missing
  b_lw_missing : Binds K a.d_lw_missing ["image", "maker", "operation"] []
  g_lw_missing : mg "_law_missing" = some (.ref (He.ga K "_law_missing"))
  F_law : Cm.FnP K "law" s_law (He.ga K "law") a.d_law
  b_law : Binds K a.d_law ["script"] []
  g_law : mg "law" = some (.ref (He.ga K "law"))
  g_PortError : mg "PortError" = some (.ref (He.ga K "PortError"))
  g_NotAllowed : mg "NotAllowed" = some (.ref (He.ga K "NotAllowed"))
  g_Missing : mg "Missing" = some (.ref (He.ga K "Missing"))
  g_tuple : mg "tuple" = none
  g_len : mg "len" = none
  g_enumerate : mg "enumerate" = none
  g_dict : mg "dict" = none
  g_range : mg "range" = none
  g_int : mg "int" = none
  g_str : mg "str" = none
  g_min : mg "min" = none
  g_isinstance : mg "isinstance" = none
  g_max : mg "max" = none
  x_Missing : PySem.W.excIn K (He.ga K "Missing") [.type "ValueError", .type "Exception", .type "BaseException", .type "object"] "ValueError.__new__" = true
  k_Missing : PySem.W.keepIn K (.ref (He.ga K "Missing")) = true
  s_Missing : PySem.W.subIn K (.ref (He.ga K "Missing")) (.type "BaseException") = some true
  t_Missing : PySem.W.typeIn K (.ref (He.ga K "Missing")) = some (.type "type")
  m1_ : PySem.W.findIn K (.ref (He.ga K "Missing")) "__getattribute__" = some (some (.builtin "BaseException.__getattribute__"))
  m2_ : PySem.W.findIn K (.ref (He.ga K "Missing")) "__getattr__" = some none
  m4_ : PySem.W.hasDictIn K (He.ga K "Missing") = true
  m5_ : PySem.W.findIn K (.ref (He.ga K "Missing")) "__class__" = some (some (.builtin "object.__class__"))
  m6_ : PySem.W.specialIn K (.builtin "object.__class__") "__get__" = some (some (.builtin "getset_descriptor.__get__"))
  m7_ : PySem.W.takesIn K (.builtin "object.__class__") = some true
  m8_ : PySem.W.mroIn K (He.ga K "Missing") (.type "object") = some true
  e1_ : PySem.W.exmOne K (.ref (He.ga K "Missing")) (.ref (He.ga K "Missing")) = some true
  e2_ : PySem.W.kitOne K (.ref (He.ga K "Missing")) (.ref (He.ga K "PortError")) = some true
  e3_ : PySem.W.kitOne K (.ref (He.ga K "Missing")) (.ref (He.ga K "NotAllowed")) = some false
variable {P : Program} {w : World} {K : PySem.W.Frag} {mg : Str → Option Value} {base : Heap} {a : Fds}
/-! ### cells and numbers -/
def spCell (K : PySem.W.Frag) : Sp := fun vs H Q _ => ∃ (l : Addr) (ns : List Int) (j : Nat), vs = [.ref l, .int j] ∧ SqL K H l (ns.map V.int) ∧ ∀ c : Int, Q (.int c) H
theorem ok_lw_cell (T : Txt K mg w a) : FnOk P w K mg base CX0 1 (He.ga K "_law_cell") a.d_lw_cell ["script", "k"] (spCell K) := by
  refine T.F_lw_cell.ok sc_lw_cell (fun vs H Q E h => ?_) (fun cdv A outer s H vs Q E hr h => ?_)
  · obtain ⟨l, ns, j, rfl, _⟩ := h
    rfl
  · obtain ⟨l, ns, j, rfl, hl, q⟩ := h
    refine ⟨_, PSs.nox (pss_cons (ps_if (pt_cmpR op_lt (pv 1) (pe_callB call_len_seq (by rfl) T.g_len boot_len (pa_cons (pv 0) pa_nil)) (nomark _)) (pss_one (ps_ret (pe_ix ix_list (pv 0) (pv 1) (fun _ _ => rfl)))) pss_nil)
      (pss_one (ps_ret pe_int))), ?_⟩
    refine ⟨_, rfl, _, rfl, l, _, rfl, .inl hl, _, _, rfl, rfl, _, rfl, Cm.itD (fun h => ?_) fun h => ?_⟩
    · rw [List.length_map] at h
      obtain ⟨n, _, e⟩ := Cm.at_int (ns := ns) (i := (j : Int)) (by omega) h
      exact ⟨_, rfl, _, rfl, l, _, _, _, rfl, rfl, hl, e, q n⟩
    · exact q 0
def spNums : Sp := fun vs H Q _ => ∃ (c : Int) (k many : Nat), vs = [.int c, .int k, .int many] ∧ k ≤ 1000 ∧ many ≤ 100 ∧
  ∀ (H' : Hp) (p : Addr) (ns : List Int), Same H H' → H p = none → H' p = some (.lst (ns.map V.int)) → ns.length = many → (∀ n ∈ ns, 0 ≤ n ∧ n < 1000) → Q (.ref p) H'
theorem p1000 : (0 : Int) < 1000 := by decide
theorem pM : (0 : Int) < 2147483647 := by decide
theorem pM2 : (0 : Int) < 1000000007 := by decide
theorem modM (z : Int) : 0 ≤ z % 2147483647 ∧ z % 2147483647 < 2147483647 := by omega
theorem mulM {y : Int} (h : 0 ≤ y ∧ y < 2147483647) : -(2 ^ 64) < y ∧ y < 2 ^ 64 := by omega
theorem mod_ok (x : Int) : 0 ≤ x % 1000 ∧ x % 1000 < 1000 := by omega
theorem ok_lw_numbers (T : Txt K mg w a) : FnOk P w K mg base CX0 1 (He.ga K "_law_numbers") a.d_lw_numbers ["cell", "k", "many"] spNums := by
  refine T.F_lw_numbers.ok sc_lw_numbers (fun vs H Q E h => ?_) (fun cdv A outer s H vs Q E hr h => ?_)
  · obtain ⟨c, k, many, rfl, _⟩ := h
    rfl
  · obtain ⟨c, k, many, rfl, hk, hm, q⟩ := h
    refine ⟨_, PSs.nox (pss_cons (ps_set (i := 3) sc_lw_numbers.nd rfl (Or.inl rfl) (pe_lst pa_nil))
      (pss_cons (ps_if (pt_cmpR op_ge (pv 0) (pe_op op_pow pe_int pe_int) (nomark _)) (pss_cons (ps_set (i := 4) sc_lw_numbers.nd rfl (Or.inl rfl) (pv 0))
      (pss_cons (ps_for PassesOwn.never rfl (pi_range1 (by rfl) T.g_range (pa_cons (pv 2) pa_nil)) (pg_name (i := 5) sc_lw_numbers.nd rfl (Or.inl rfl))
      (pss_cons (ps_expr (pe_bm PySem.F.plainAttrs_list PySem.F.slot_list_append PySem.F.type_list_append mt_append (pv 3) (pa_cons (pe_op op_mod (pe_callTy call_int1 (by rfl) T.g_int boot_int (pa_cons (pv 4) pa_nil)) pe_int) pa_nil)))
      (pss_one (ps_set (i := 4) sc_lw_numbers.nd rfl (Or.inl rfl) (pe_op op_fdiv (pv 4) pe_int)))))
      (pss_one (ps_ret (pv 3))))) pss_nil)
      (pss_cons (ps_set (i := 6) sc_lw_numbers.nd rfl (Or.inl rfl) (pe_op op_mod (pe_callTy call_int1 (by rfl) T.g_int boot_int (pa_cons (pe_op op_add (pe_op op_add (pe_op op_mul (pv 0) pe_int) (pe_op op_mul (pv 1) pe_int)) pe_int) pa_nil)) pe_int))
      (pss_cons (ps_for PassesOwn.never rfl (pi_range1 (by rfl) T.g_range (pa_cons (pv 2) pa_nil)) (pg_name (i := 5) sc_lw_numbers.nd rfl (Or.inl rfl))
      (pss_cons (ps_set (i := 6) sc_lw_numbers.nd rfl (Or.inl rfl) (pe_op op_mod (pe_callTy call_int1 (by rfl) T.g_int boot_int (pa_cons (pe_op op_add (pe_op op_add (pe_op op_mul (pv 6) pe_int) (pe_op op_mul (pv 5) pe_int)) pe_int) pa_nil)) pe_int))
      (pss_cons (ps_set (i := 7) sc_lw_numbers.nd rfl (Or.inl rfl) (pe_op op_mod (pe_callTy call_int1 (by rfl) T.g_int boot_int (pa_cons (pe_op op_add (pe_op op_add (pe_op op_mul (pv 6) (pv 6)) (pe_op op_mul (pv 1) pe_int)) (pv 5)) pa_nil)) pe_int))
      (pss_one (ps_expr (pe_bm PySem.F.plainAttrs_list PySem.F.slot_list_append PySem.F.type_list_append mt_append (pv 3) (pa_cons (pe_op op_mod (pe_callTy call_int1 (by rfl) T.g_int boot_int (pa_cons (pe_op op_fdiv (pv 7) pe_int) pa_nil)) pe_int) pa_nil)))))))
      (pss_one (ps_ret (pv 3))))))), ?_⟩
    -- numbers = []
    refine ⟨Nat.zero_le _, fun p np => ?_⟩
    have s0 : Same H (upd H p (.lst [])) := Cm.same_new np
    -- cell >= 10 ** 18
    refine ⟨_, rfl, _, _, rfl, rfl, ⟨by decide, by decide, by decide⟩, _, _, rfl, rfl, _, rfl, Cm.itD (fun _ => ?_) fun _ => ?_⟩
    · -- rest = cell
      refine ⟨_, rfl, ?_⟩
      refine ⟨_, rfl, (many : Int), rfl, by omega, by omega, ?_⟩
      rw [Int.toNat_natCast]
      refine for_range (fun i σ H2 => ∃ (ns : List Int) (r : Int) (x5 x6 x7 : Option V), σ = [some (.int c), some (.int k), some (.int many), some (.ref p), some (.int r), x5, x6, x7] ∧ Same H H2 ∧ H2 p = some (.lst (ns.map V.int)) ∧ ns.length = i ∧ ∀ n ∈ ns, 0 ≤ n ∧ n < 1000)
        ⟨[], c, none, none, none, rfl, s0, upd_same, rfl, fun n h => nomatch h⟩ (fun i σ H2 hi ⟨ns, r, x5, x6, x7, e, s2, hp, hn, ha⟩ => ?_) fun σ H2 ⟨ns, r, x5, x6, x7, e, s2, hp, hn, ha⟩ => ?_
      · subst e
        refine ⟨_, rfl, .inl ⟨rfl, _, SqL.of hp⟩, _, rfl, .inl ⟨_, rfl, _, _, rfl, rfl, p1000, ?_⟩⟩
        refine ⟨p, _, _, rfl, rfl, hp, Cm.smallL (by rw [List.length_map]; omega), ?_⟩
        refine ⟨_, rfl, _, _, rfl, rfl, ⟨by decide, by decide⟩, ?_⟩
        refine ⟨ns ++ [r % 1000], r / 1000, _, x6, x7, rfl, Cm.same_mut s2 np, ?_, by rw [List.length_append, hn]; rfl, fun n h => ?_⟩
        · rw [upd_same, List.map_append]
          rfl
        · rcases List.mem_append.mp h with h | h
          · exact ha n h
          · rw [List.mem_singleton.mp h]
            exact mod_ok r
      · subst e
        exact ⟨_, rfl, q H2 p ns s2 np hp hn ha⟩
    · refine ⟨_, rfl, _, _, rfl, rfl, .inr ⟨by decide, by decide⟩, _, rfl, _, _, rfl, rfl, .inr ⟨by decide, by decide⟩, _, _, rfl, rfl, _, _, rfl, rfl, .inl ⟨_, rfl, _, _, rfl, rfl, pM, ?_⟩⟩
      refine ⟨_, rfl, (many : Int), rfl, by omega, by omega, ?_⟩
      rw [Int.toNat_natCast]
      refine for_range (fun i σ H2 => ∃ (ns : List Int) (r : Int) (x4 x5 x7 : Option V), σ = [some (.int c), some (.int k), some (.int many), some (.ref p), x4, x5, some (.int r), x7] ∧ (0 ≤ r ∧ r < 2147483647) ∧ Same H H2 ∧ H2 p = some (.lst (ns.map V.int)) ∧ ns.length = i ∧ ∀ n ∈ ns, 0 ≤ n ∧ n < 1000)
        ⟨[], _, none, none, none, rfl, ⟨by omega, by omega⟩, s0, upd_same, rfl, fun n h => nomatch h⟩ (fun i σ H2 hi ⟨ns, r, x4, x5, x7, e, hr, s2, hp, hn, ha⟩ => ?_) fun σ H2 ⟨ns, r, x4, x5, x7, e, _, s2, hp, hn, ha⟩ => ?_
      · subst e
        refine ⟨_, rfl, _, _, rfl, rfl, .inr ⟨by decide, by decide⟩, _, rfl, _, _, rfl, rfl, .inr ⟨by decide, by decide⟩, _, _, rfl, rfl, _, _, rfl, rfl, .inl ⟨_, rfl, _, _, rfl, rfl, pM, ?_⟩⟩
        have hy2 := modM (r * 16807 + (0 + (i : Int)) * 7919 + 13)
        refine ⟨_, rfl, _, rfl, _, _, rfl, rfl, .inl (mulM hy2), _, rfl, _, _, rfl, rfl, .inr ⟨by decide, by decide⟩, _, _, rfl, rfl, _, rfl, _, _, rfl, rfl, .inl ⟨_, rfl, _, _, rfl, rfl, pM2, ?_⟩⟩
        refine ⟨_, rfl, .inl ⟨rfl, _, SqL.of hp⟩, _, rfl, _, _, rfl, rfl, ⟨by decide, by decide⟩, .inl ⟨_, rfl, _, _, rfl, rfl, p1000, ?_⟩⟩
        refine ⟨p, _, _, rfl, rfl, hp, Cm.smallL (by rw [List.length_map]; omega), ?_⟩
        refine ⟨ns ++ [((r * 16807 + (0 + (i : Int)) * 7919 + 13) % 2147483647 * ((r * 16807 + (0 + (i : Int)) * 7919 + 13) % 2147483647) + (k : Int) * 31 + (0 + (i : Int))) % 1000000007 / 101 % 1000], _, x4, _, _, rfl, hy2, Cm.same_mut s2 np, ?_, by rw [List.length_append, hn]; rfl, fun n h => ?_⟩
        · rw [upd_same, List.map_append]
          rfl
        · rcases List.mem_append.mp h with h | h
          · exact ha n h
          · rw [List.mem_singleton.mp h]
            exact mod_ok _
      · subst e
        exact ⟨_, rfl, q H2 p ns s2 np hp hn ha⟩
/-! ### the generator: picks -/
/-- numbers at nu, the place among them at c -/
def G (K : PySem.W.Frag) (H : Hp) (nu c : Addr) : Prop := ∃ (ns : List Int) (n : Int), SqL K H nu (ns.map V.int) ∧ ns.length = 60 ∧ (∀ x ∈ ns, 0 ≤ x) ∧ H c = some (.lst [.int n]) ∧ 0 ≤ n
theorem G.same {K : PySem.W.Frag} {H H' : Hp} {nu c : Addr} (g : G K H nu c) (s : Same H H') : G K H' nu c := by
  obtain ⟨ns, n, h1, h2, h3, h4, h5⟩ := g
  exact ⟨ns, n, s.seq h1, h2, h3, s _ _ h4, h5⟩
theorem G.tups {K : PySem.W.Frag} {H H' : Hp} {nu c : Addr} (g : G K H nu c) (k : Keep c H H') : Tups H H' := by
  obtain ⟨ns, n, h1, h2, h3, h4, h5⟩ := g
  exact k.tups h4
theorem G.rp {K : PySem.W.Frag} {H H' : Hp} {nu c : Addr} {v : V} {d : PyData} (g : G K H nu c) (k : Keep c H H') (r : Rp K H v d) : Rp K H' v d := r.keep (g.tups k)
/-- the names of ints at li, of objects at lc -/
structure Ev (K : PySem.W.Frag) (H : Hp) (nu c li lc : Addr) (is cs : List Str) : Prop where
  g : G K H nu c
  ti : H li = some (.lst (is.map V.str))
  tk : H lc = some (.lst (cs.map V.str))
  so : ∀ x ∈ is ++ cs, PyData.strOk x = true
theorem Ev.i {K : PySem.W.Frag} {H : Hp} {nu c li lc : Addr} {is cs : List Str} (e : Ev K H nu c li lc is cs) : SqL K H li (is.map V.str) := SqL.of e.ti
theorem Ev.k {K : PySem.W.Frag} {H : Hp} {nu c li lc : Addr} {is cs : List Str} (e : Ev K H nu c li lc is cs) : SqL K H lc (cs.map V.str) := SqL.of e.tk
theorem strs_ne {is : List Str} {n : Int} : is.map V.str ≠ [V.int n] := fun e => by
  cases is with
  | nil => cases e
  | cons x r => cases e
theorem G.seq {K : PySem.W.Frag} {H H' : Hp} {nu c a : Addr} {is : List Str} (g : G K H nu c) (k : Keep c H H') (h : H a = some (.lst (is.map V.str))) : H' a = some (.lst (is.map V.str)) := by
  obtain ⟨ns, n, h1, h2, h3, h4, h5⟩ := g
  refine k _ _ h fun e => ?_
  rw [e, h4] at h
  exact strs_ne (HO.lst.inj (Option.some.inj h)).symm
theorem Ev.keep {K : PySem.W.Frag} {H H' : Hp} {nu c li lc : Addr} {is cs : List Str} (e : Ev K H nu c li lc is cs) (k : Keep c H H') (g : G K H' nu c) : Ev K H' nu c li lc is cs := ⟨g, e.g.seq k e.ti, e.g.seq k e.tk, e.so⟩
theorem Ev.same {K : PySem.W.Frag} {H H' : Hp} {nu c li lc : Addr} {is cs : List Str} (e : Ev K H nu c li lc is cs) (s : Same H H') : Ev K H' nu c li lc is cs := e.keep (Keep.of s) (e.g.same s)
def spPick (K : PySem.W.Frag) : Sp := fun vs H Q _ => ∃ nu c, vs = [.ref nu, .ref c] ∧ G K H nu c ∧ ∀ (H' : Hp) (p : Int), 0 ≤ p → G K H' nu c → Keep c H H' → Q (.int p) H'
theorem ok_lw_pick (T : Txt K mg w a) : FnOk P w K mg base CX0 1 (He.ga K "_law_pick") a.d_lw_pick ["numbers", "at"] (spPick K) := by
  refine T.F_lw_pick.ok sc_lw_pick (fun vs H Q E h => ?_) (fun cdv A outer s H vs Q E hr h => ?_)
  · obtain ⟨nu, c, rfl, _⟩ := h
    rfl
  · obtain ⟨nu, c, rfl, g, q⟩ := h
    obtain ⟨ns, n, h1, h2, h3, h4, h5⟩ := id g
    refine ⟨_, PSs.nox (pss_cons (ps_asg (pe_op op_add (pe_ix ix_list (pv 1) pe_int (fun _ _ => rfl)) pe_int) (pg_sub (pv 1) pe_int set_list))
      (pss_one (ps_ret (pe_op op_add (pe_callTy call_int1 (by rfl) T.g_int boot_int (pa_cons (pe_ix ix_list (pv 0) (pe_op op_mod (pe_callTy call_int1 (by rfl) T.g_int boot_int (pa_cons (pe_ix ix_list (pv 1) pe_int (fun _ _ => rfl)) pa_nil)) (pe_callB call_len_seq (by rfl) T.g_len boot_len (pa_cons (pv 0) pa_nil))) (fun _ _ => rfl)) pa_nil)) (pe_op op_mul (pe_op op_fdiv (pe_callTy call_int1 (by rfl) T.g_int boot_int (pa_cons (pe_ix ix_list (pv 1) pe_int (fun _ _ => rfl)) pa_nil)) (pe_callB call_len_seq (by rfl) T.g_len boot_len (pa_cons (pv 0) pa_nil))) pe_int))))), ?_⟩
    refine ⟨_, rfl, c, _, 0, .int n, rfl, rfl, SqL.of h4, atI_nat (j := 0) rfl, _, _, rfl, rfl, _, rfl, c, _, 0, 0, rfl, rfl, h4, rfl, ?_⟩
    have k : Keep c H (upd H c (.lst [.int (n + 1)])) := fun b o e ne => by
      rw [upd_ne ne]
      exact e
    have hne : ns.map V.int ≠ [.int n] := fun e => by
      have e2 := congrArg List.length e
      rw [List.length_map, h2] at e2
      cases e2
    have h1' : SqL K (upd H c (.lst [.int (n + 1)])) nu (ns.map V.int) := k.seq h4 hne h1
    have hc : (upd H c (.lst [.int (n + 1)])) c = some (.lst [.int (n + 1)]) := upd_same
    obtain ⟨x, hx, e⟩ := Cm.at_int (ns := ns) (i := (n + 1) % ((ns.map V.int).length : Int)) (by rw [List.length_map, h2]; omega) (by rw [List.length_map, h2]; omega)
    have pos : (0 : Int) < ((ns.map V.int).length : Int) := by
      rw [List.length_map, h2]
      decide
    have lt : ((ns.map V.int).length : Int) < 1073741824 := by
      rw [List.length_map, h2]
      decide
    refine ⟨_, rfl, _, rfl, c, _, 0, .int (n + 1), rfl, rfl, SqL.of hc, atI_nat (j := 0) rfl, .inl ⟨_, rfl, _, rfl, nu, _, rfl, .inl h1', _, _, rfl, rfl, pos, nu, _, _, .int x, rfl, rfl, h1', e, .inl ⟨_, rfl, ?_⟩⟩⟩
    refine ⟨_, rfl, c, _, 0, .int (n + 1), rfl, rfl, SqL.of hc, atI_nat (j := 0) rfl, .inl ⟨_, rfl, _, rfl, nu, _, rfl, .inl h1', _, _, rfl, rfl, ⟨pos, lt⟩, _, _, rfl, rfl, .inr ⟨by decide, by decide⟩, _, _, rfl, rfl, ?_⟩⟩
    have hq : 0 ≤ (n + 1) / ((ns.map V.int).length : Int) := Int.ediv_nonneg (by omega) (by omega)
    exact q _ _ (by have := h3 x hx; omega) ⟨ns, n + 1, h1', h2, h3, hc, by omega⟩ k
/-! ### the generator: expressions -/
/-- names from N, of bounded depth and size -/
structure OkE (N : List Str) (d : Nat) (e : E) : Prop where
  us : ∀ x ∈ e.uses, x ∈ N
  dp : e.dep ≤ d + 2
  sz : e.sz ≤ 10 * 4 ^ d
  lay : e.d.canLay0 = true
  wf : e.wf = true
/-- a word that may stand in front of plain expressions -/
def goodN (n : Nat) (x : Str) : Bool := PyData.strOk x && (decide (x ∈ plainE) && decide (n = arE x))
abbrev goodL (x : Str) : Bool := goodN 0 x
abbrev goodU (x : Str) : Bool := goodN 1 x
abbrev goodW (x : Str) : Bool := goodN 2 x
theorem goodW.so {n : Nat} {x : Str} (h : goodN n x = true) : PyData.strOk x = true := (Bool.and_eq_true_iff.mp h).1
theorem goodW.in {n : Nat} {x : Str} (h : goodN n x = true) : (decide (x ∈ plainE) && decide (n = arE x)) = true := (Bool.and_eq_true_iff.mp h).2
theorem tx {x : Str} (h : PyData.strOk x = true) : (PyData.str x).canLay0 = true := by
  show (PyData.strOk x) = true
  exact h
theorem lay2 {x y : PyData} (h1 : x.canLay0 = true) (h2 : y.canLay0 = true) : (PyData.tuple [x, y]).canLay0 = true := by simp [PyData.canLay0, PyData.canLayAll0, h1, h2]
theorem lay1 {x : PyData} (h1 : x.canLay0 = true) : (PyData.tuple [x]).canLay0 = true := by simp [PyData.canLay0, PyData.canLayAll0, h1]
theorem lay0 : (PyData.tuple []).canLay0 = true := by simp [PyData.canLay0, PyData.canLayAll0]
theorem lay3 {x y z : PyData} (h1 : x.canLay0 = true) (h2 : y.canLay0 = true) (h3 : z.canLay0 = true) : (PyData.tuple [x, y, z]).canLay0 = true := by simp [PyData.canLay0, PyData.canLayAll0, h1, h2, h3]
theorem lay4 {x y z u : PyData} (h1 : x.canLay0 = true) (h2 : y.canLay0 = true) (h3 : z.canLay0 = true) (h4 : u.canLay0 = true) : (PyData.tuple [x, y, z, u]).canLay0 = true := by simp [PyData.canLay0, PyData.canLayAll0, h1, h2, h3, h4]
theorem layI {i : Int} : (PyData.int i).canLay0 = true := by simp [PyData.canLay0]
/-- the names without self -/
def fl (cs : List Str) : List Str := cs.filter fun x => !decide (x = "self")
theorem fl_mem {cs : List Str} {x : Str} (h : x ∈ cs) (n : ¬ x = "self") : x ∈ fl cs := List.mem_filter.mpr ⟨h, by rw [decide_eq_false n]; rfl⟩
def spE (K : PySem.W.Frag) (d : Nat) : Sp := fun vs H Q _ => ∃ (nu c li lc : Addr) (is cs : List Str) (level : Int) (dd : Nat), vs = [.ref nu, .ref c, .ref li, .ref lc, .int level, .int dd] ∧ dd < d ∧ Ev K H nu c li lc is cs ∧
  ∀ (H' : Hp) (v : V) (e : E), G K H' nu c → Keep c H H' → Rp K H' v e.d → OkE (is ++ fl cs) dd e → Q v H'
theorem spE_len {K : PySem.W.Frag} {d : Nat} (vs : List V) (H : Hp) (Q : VK) (E : XK) (h : spE K d vs H Q E) : vs.length = 6 := by
  obtain ⟨nu, c, li, lc, is, cs, level, dd, rfl, _⟩ := h
  rfl
theorem pow4 (d : Nat) : 1 ≤ 4 ^ d ∧ 4 ^ (d + 1) = 4 * 4 ^ d := ⟨Nat.one_le_pow d 4 (by decide), by rw [Nat.pow_succ, Nat.mul_comm]⟩
theorem eqv_nil : ∀ e : E, PyData.eqv e.d (.tuple [.str "nil"]) = true → e.dep ≤ 1 ∧ e.sz ≤ 1
  | .int n, h => by simp [E.d, PyData.eqv, PyData.eqvAll] at h
  | .name x, h => by simp [E.d, PyData.eqv, PyData.eqvAll] at h
  | .choice o l r, h => by simp [E.d, PyData.eqv, PyData.eqvAll] at h
  | .call r f as, h => by simp [E.d, PyData.eqv, PyData.eqvAll] at h
  | .new m as, h => by simp [E.d, PyData.eqv, PyData.eqvAll] at h
  | .plain w .nil, h => ⟨Nat.le_refl 1, Nat.le_refl 1⟩
  | .plain w (.cons e es), h => by simp [E.d, Es.ds, PyData.eqv, PyData.eqvAll] at h
section
variable {N : List Str} {d : Nat} {x y z : E}
theorem ok_int {n : Int} : OkE N d (.int n) := ⟨fun _ h => (nomatch h), Nat.zero_le _, by
  have := (pow4 d).1
  show 1 ≤ 10 * 4 ^ d
  omega, lay2 (tx (by decide +kernel)) layI, rfl⟩
theorem ok_name {s : Str} (h : s ∈ N) (so : PyData.strOk s = true) : OkE N d (.name s) := ⟨fun q hq => by rw [List.mem_singleton.mp hq]; exact h, Nat.zero_le _, by
  have := (pow4 d).1
  show 1 ≤ 10 * 4 ^ d
  omega, lay2 (tx (by decide +kernel)) (tx so), rfl⟩
theorem ok_leaf {s : Str} (so : goodL s = true) : OkE N d (.plain s .nil) := ⟨fun _ h => (nomatch h), by show 0 + 1 ≤ d + 2; omega, by
  have := (pow4 d).1
  show 0 + 1 ≤ 10 * 4 ^ d
  omega, lay1 (tx (Bool.and_eq_true_iff.mp so).1), and2 (Bool.and_eq_true_iff.mp so).2 rfl⟩
theorem mem_app {α : Type} {l m n : List α} (h1 : ∀ q ∈ l, q ∈ n) (h2 : ∀ q ∈ m, q ∈ n) : ∀ q ∈ l ++ m, q ∈ n := fun q h => (List.mem_append.mp h).elim (h1 q) (h2 q)
theorem mem_nil {α : Type} {n : List α} : ∀ q ∈ ([] : List α), q ∈ n := fun _ h => (nomatch h)
theorem ok_un {s : Str} (h1 : OkE N d x) (so : goodU s = true) : OkE N (d + 1) (.plain s (.cons x .nil)) := ⟨mem_app h1.us mem_nil, by
  have := h1.dp
  show max x.dep 0 + 1 ≤ d + 1 + 2
  omega, by
  have := h1.sz
  have e := pow4 d
  show x.sz + 0 + 1 ≤ 10 * 4 ^ (d + 1)
  omega, lay2 (tx (goodW.so so)) h1.lay, and2 (goodW.in so) (and2 h1.wf rfl)⟩
theorem ok_bin {s : Str} (h1 : OkE N d x) (h2 : OkE N d y) (so : goodW s = true) : OkE N (d + 1) (.plain s (.cons x (.cons y .nil))) := ⟨mem_app h1.us (mem_app h2.us mem_nil), by
  have := h1.dp
  have := h2.dp
  show max x.dep (max y.dep 0) + 1 ≤ d + 1 + 2
  omega, by
  have := h1.sz
  have := h2.sz
  have e := pow4 d
  show x.sz + (y.sz + 0) + 1 ≤ 10 * 4 ^ (d + 1)
  omega, lay3 (tx (goodW.so so)) h1.lay h2.lay, and2 (goodW.in so) (and2 h1.wf (and2 h2.wf rfl))⟩
theorem ok_choice {o : Bool} (h1 : OkE N d x) (h2 : OkE N d y) : OkE N (d + 1) (.choice o x y) := ⟨mem_app h1.us h2.us, by
  have := h1.dp
  have := h2.dp
  show max x.dep y.dep + 1 ≤ d + 1 + 2
  omega, by
  have := h1.sz
  have := h2.sz
  have e := pow4 d
  show x.sz + y.sz + (if o then 2 else 0) + 5 ≤ 10 * 4 ^ (d + 1)
  split <;> omega, lay3 (tx (by cases o <;> decide +kernel)) h1.lay h2.lay, and2 h1.wf h2.wf⟩
theorem ok_call0 {s : Str} (h1 : OkE N d x) (so : PyData.strOk s = true) : OkE N (d + 1) (.call x s .nil) := ⟨mem_app h1.us mem_nil, by
  have := h1.dp
  show max x.dep 0 + 1 ≤ d + 1 + 2
  omega, by
  have := h1.sz
  have e := pow4 d
  show x.sz + 0 + 1 ≤ 10 * 4 ^ (d + 1)
  omega, lay4 (tx (by decide +kernel)) h1.lay (tx so) lay0, and2 h1.wf rfl⟩
theorem ok_call1 {s : Str} (h1 : OkE N d x) (h2 : OkE N d y) (so : PyData.strOk s = true) : OkE N (d + 1) (.call x s (.cons y .nil)) := ⟨mem_app h1.us (mem_app h2.us mem_nil), by
  have := h1.dp
  have := h2.dp
  show max x.dep (max y.dep 0) + 1 ≤ d + 1 + 2
  omega, by
  have := h1.sz
  have := h2.sz
  have e := pow4 d
  show x.sz + (y.sz + 0) + 1 ≤ 10 * 4 ^ (d + 1)
  omega, lay4 (tx (by decide +kernel)) h1.lay (tx so) (lay1 h2.lay), and2 h1.wf (and2 h2.wf rfl)⟩
theorem ok_call2 {s : Str} (h1 : OkE N d x) (h2 : OkE N d y) (h3 : OkE N d z) (so : PyData.strOk s = true) : OkE N (d + 1) (.call x s (.cons y (.cons z .nil))) := ⟨mem_app h1.us (mem_app h2.us (mem_app h3.us mem_nil)), by
  have := h1.dp
  have := h2.dp
  have := h3.dp
  show max x.dep (max y.dep (max z.dep 0)) + 1 ≤ d + 1 + 2
  omega, by
  have := h1.sz
  have := h2.sz
  have := h3.sz
  have e := pow4 d
  show x.sz + (y.sz + (z.sz + 0)) + 1 ≤ 10 * 4 ^ (d + 1)
  omega, lay4 (tx (by decide +kernel)) h1.lay (tx so) (lay2 h2.lay h3.lay), and2 h1.wf (and2 h2.wf (and2 h3.wf rfl))⟩
theorem ok_new2 {s : Str} (h1 : OkE N d x) (h2 : OkE N d y) (so : PyData.strOk s = true) : OkE N (d + 1) (.new s (.cons x (.cons y .nil))) := ⟨mem_app h1.us (mem_app h2.us mem_nil), by
  have := h1.dp
  have := h2.dp
  show max x.dep (max y.dep 0) + 1 ≤ d + 1 + 2
  omega, by
  have := h1.sz
  have := h2.sz
  have e := pow4 d
  show x.sz + (y.sz + 0) + 1 ≤ 10 * 4 ^ (d + 1)
  omega, lay3 (tx (by decide +kernel)) (tx so) (lay2 h1.lay h2.lay), and2 h1.wf (and2 h2.wf rfl)⟩
theorem ok_box {s : Str} {n : Int} (h1 : OkE N d x) (hd : x.dep ≤ 1) (hs : x.sz ≤ 1) (so : PyData.strOk s = true) : OkE N d (.new s (.cons x (.cons (.int n) .nil))) := ⟨mem_app h1.us (mem_app mem_nil mem_nil), by
  show max x.dep (max 0 0) + 1 ≤ d + 2
  omega, by
  have e := (pow4 d).1
  show x.sz + (1 + 0) + 1 ≤ 10 * 4 ^ d
  omega, lay3 (tx (by decide +kernel)) (tx so) (lay2 h1.lay (lay2 (tx (by decide +kernel)) layI)), and2 h1.wf (and2 rfl rfl)⟩
end
/-- a new tuple holds the datum -/
theorem made {K : PySem.W.Frag} {H : Hp} {p : Addr} {vs : List V} {ds : List PyData} (np : H p = none) (r : Rps K H vs ds) : Rp K (upd H p (.tup vs)) (.ref p) (.tuple ds) := Rp.made np r
theorem keep_new {c p : Addr} {H H' : Hp} {o : HO} (k : Keep c H H') (np : H' p = none) : Keep c H (upd H' p o) := k.trans (Keep.of (Cm.same_new np))
theorem G.new {K : PySem.W.Frag} {H : Hp} {nu c p : Addr} {o : HO} (g : G K H nu c) (np : H p = none) : G K (upd H p o) nu c := g.same (Cm.same_new np)
abbrev binS : List Str := ["add", "sub", "mul", "less", "most"]
theorem vac {f : Addr} {fd : FuncData} {ps : List Str} {k : Nat} {sp : Sp} (h : ∀ vs H Q E, ¬ sp vs H Q E) : FnOk P w K mg base CX0 k f fd ps sp := ⟨fun vs H Q E q => (h vs H Q E q).elim, fun _ _ _ _ _ _ vs Q E _ _ _ _ q => (h vs _ Q E q).elim⟩
theorem lt_of {dd d : Nat} (h : dd < d + 1) (n : ¬ (dd : Int) ≤ 0) : ∃ e, dd = e + 1 ∧ e < d ∧ (dd : Int) - 1 = (e : Int) := ⟨dd - 1, by omega, by omega, by omega⟩
theorem step_int (T : Txt K mg w a) (d : Nat) (gi : FnOk P w K mg base CX0 (2 * d + 1) (He.ga K "_law_int") a.d_lw_int ["numbers", "at", "ints", "cells", "level", "depth"] (spE K d))
    (go : FnOk P w K mg base CX0 (2 * d + 1) (He.ga K "_law_object") a.d_lw_object ["numbers", "at", "ints", "cells", "level", "depth"] (spE K d))
    (gr : FnOk P w K mg base CX0 (2 * d + 2) (He.ga K "_law_receiver") a.d_lw_receiver ["numbers", "at", "ints", "cells", "level", "depth"] (spE K d)) :
    FnOk P w K mg base CX0 (2 * (d + 1) + 1) (He.ga K "_law_int") a.d_lw_int ["numbers", "at", "ints", "cells", "level", "depth"] (spE K (d + 1)) := by
  refine T.F_lw_int.ok sc_lw_int spE_len (fun cdv A outer s H vs Q E hr h => ?_)
  obtain ⟨nu, c, li, lc, is, cs, level, dd, rfl, hd, ev, q⟩ := h
  refine ⟨_, PSs.nox (pss_cons (ps_set (i := 6) sc_lw_int.nd rfl (Or.inl rfl) (pe_call (ok_lw_pick T) (hr.mono (by omega)) (by rfl) T.g_lw_pick T.F_lw_pick.kp T.b_lw_pick .nil pass0 (pa_cons (pv 0) (pa_cons (pv 1) pa_nil))))
      (pss_cons (ps_set (i := 7) sc_lw_int.nd rfl (Or.inl rfl) (pe_op op_mod (pv 6) pe_int))
      (pss_cons (ps_if (PW.pt (pw_or (pt_cmpR op_le (pv 5) pe_int (nomark _)) (pw_or1 (pt_cmpR op_lt (pv 7) pe_int (nomark _))))) (pss_cons (ps_if (PW.pt (pw_and (pt_cmpR op_gt (pe_callB call_len_seq (by rfl) T.g_len boot_len (pa_cons (pv 2) pa_nil)) pe_int (nomark _)) (pw_and1 (pt_cmpR op_gt (pe_op op_mod (pe_op op_fdiv (pv 6) pe_int) pe_int) pe_int (nomark _))))) (pss_one (ps_ret (pe_tup (pa_cons pe_str (pa_cons (pe_ix ix_list (pv 2) (pe_op op_mod (pe_callTy call_int1 (by rfl) T.g_int boot_int (pa_cons (pe_op op_fdiv (pv 6) pe_int) pa_nil)) (pe_callB call_len_seq (by rfl) T.g_len boot_len (pa_cons (pv 2) pa_nil))) (fun _ _ => rfl)) pa_nil))))) pss_nil)
      (pss_one (ps_ret (pe_tup (pa_cons pe_str (pa_cons (pe_ix ix_list (pe_lst (pa_cons (pe_op op_mod (pe_op op_fdiv (pv 6) pe_int) pe_int) (pa_cons pe_int (pa_cons pe_int (pa_cons pe_int pa_nil))))) (pe_op op_mod (pe_op op_fdiv (pv 6) pe_int) pe_int) (fun _ _ => rfl)) pa_nil)))))) pss_nil)
      (pss_cons (ps_if (pt_cmpR op_lt (pv 7) pe_int (nomark _)) (pss_cons (ps_set (i := 8) sc_lw_int.nd rfl (Or.inl rfl) (pe_ix ix_list (pe_lst (pa_cons pe_str (pa_cons pe_str (pa_cons pe_str (pa_cons pe_str (pa_cons pe_str pa_nil)))))) (pe_op op_sub (pv 7) pe_int) (fun _ _ => rfl)))
      (pss_cons (ps_set (i := 9) sc_lw_int.nd rfl (Or.inl rfl) (pe_call gi (hr.mono (by omega)) (by rfl) T.g_lw_int T.F_lw_int.kp T.b_lw_int .nil pass0 (pa_cons (pv 0) (pa_cons (pv 1) (pa_cons (pv 2) (pa_cons (pv 3) (pa_cons (pv 4) (pa_cons (pe_op op_sub (pv 5) pe_int) pa_nil))))))))
      (pss_one (ps_ret (pe_tup (pa_cons (pv 8) (pa_cons (pv 9) (pa_cons (pe_call gi (hr.mono (by omega)) (by rfl) T.g_lw_int T.F_lw_int.kp T.b_lw_int .nil pass0 (pa_cons (pv 0) (pa_cons (pv 1) (pa_cons (pv 2) (pa_cons (pv 3) (pa_cons (pv 4) (pa_cons (pe_op op_sub (pv 5) pe_int) pa_nil))))))) pa_nil)))))))) pss_nil)
      (pss_cons (ps_if (pt_cmpR op_eq (pv 7) pe_int (nomark _)) (pss_one (ps_ret (pe_tup (pa_cons pe_str (pa_cons (pe_call gi (hr.mono (by omega)) (by rfl) T.g_lw_int T.F_lw_int.kp T.b_lw_int .nil pass0 (pa_cons (pv 0) (pa_cons (pv 1) (pa_cons (pv 2) (pa_cons (pv 3) (pa_cons (pv 4) (pa_cons (pe_op op_sub (pv 5) pe_int) pa_nil))))))) pa_nil))))) pss_nil)
      (pss_cons (ps_if (pt_cmpR op_eq (pv 7) pe_int (nomark _)) (pss_cons (ps_set (i := 8) sc_lw_int.nd rfl (Or.inl rfl) (pe_ix ix_list (pe_lst (pa_cons pe_str (pa_cons pe_str pa_nil))) (pe_op op_mod (pe_op op_fdiv (pv 6) pe_int) pe_int) (fun _ _ => rfl)))
      (pss_cons (ps_set (i := 9) sc_lw_int.nd rfl (Or.inl rfl) (pe_call gi (hr.mono (by omega)) (by rfl) T.g_lw_int T.F_lw_int.kp T.b_lw_int .nil pass0 (pa_cons (pv 0) (pa_cons (pv 1) (pa_cons (pv 2) (pa_cons (pv 3) (pa_cons (pv 4) (pa_cons (pe_op op_sub (pv 5) pe_int) pa_nil))))))))
      (pss_one (ps_ret (pe_tup (pa_cons (pv 8) (pa_cons (pv 9) (pa_cons (pe_call gi (hr.mono (by omega)) (by rfl) T.g_lw_int T.F_lw_int.kp T.b_lw_int .nil pass0 (pa_cons (pv 0) (pa_cons (pv 1) (pa_cons (pv 2) (pa_cons (pv 3) (pa_cons (pv 4) (pa_cons (pe_op op_sub (pv 5) pe_int) pa_nil))))))) pa_nil)))))))) pss_nil)
      (pss_cons (ps_if (pt_cmpR op_eq (pv 7) pe_int (nomark _)) (pss_cons (ps_set (i := 9) sc_lw_int.nd rfl (Or.inl rfl) (pe_call go (hr.mono (by omega)) (by rfl) T.g_lw_object T.F_lw_object.kp T.b_lw_object .nil pass0 (pa_cons (pv 0) (pa_cons (pv 1) (pa_cons (pv 2) (pa_cons (pv 3) (pa_cons (pv 4) (pa_cons (pe_op op_sub (pv 5) pe_int) pa_nil))))))))
      (pss_one (ps_ret (pe_tup (pa_cons pe_str (pa_cons (pv 9) (pa_cons (pe_call go (hr.mono (by omega)) (by rfl) T.g_lw_object T.F_lw_object.kp T.b_lw_object .nil pass0 (pa_cons (pv 0) (pa_cons (pv 1) (pa_cons (pv 2) (pa_cons (pv 3) (pa_cons (pv 4) (pa_cons (pe_op op_sub (pv 5) pe_int) pa_nil))))))) pa_nil))))))) pss_nil)
      (pss_cons (ps_if (PW.pt (pw_and (pt_cmpR op_eq (pv 7) pe_int (nomark _)) (pw_and1 (pt_cmpR op_gt (pv 4) pe_int (nomark _))))) (pss_one (ps_ret (pe_tup (pa_cons pe_str (pa_cons (pe_call gr (hr.mono (by omega)) (by rfl) T.g_lw_receiver T.F_lw_receiver.kp T.b_lw_receiver .nil pass0 (pa_cons (pv 0) (pa_cons (pv 1) (pa_cons (pv 2) (pa_cons (pv 3) (pa_cons (pv 4) (pa_cons (pe_op op_sub (pv 5) pe_int) pa_nil))))))) (pa_cons pe_str (pa_cons (pe_tup pa_nil) pa_nil))))))) pss_nil)
      (pss_cons (ps_if (PW.pt (pw_and (pt_cmpR op_eq (pv 7) pe_int (nomark _)) (pw_and1 (pt_cmpR op_gt (pv 4) pe_int (nomark _))))) (pss_cons (ps_set (i := 10) sc_lw_int.nd rfl (Or.inl rfl) (pe_call gr (hr.mono (by omega)) (by rfl) T.g_lw_receiver T.F_lw_receiver.kp T.b_lw_receiver .nil pass0 (pa_cons (pv 0) (pa_cons (pv 1) (pa_cons (pv 2) (pa_cons (pv 3) (pa_cons (pv 4) (pa_cons (pe_op op_sub (pv 5) pe_int) pa_nil))))))))
      (pss_cons (ps_if (PW.pt (pw_and (pt_cmpR op_gt (pv 4) pe_int (nomark _)) (pw_and1 (pt_cmpR op_eq (pe_op op_mod (pe_op op_fdiv (pv 6) pe_int) pe_int) pe_int (nomark _))))) (pss_cons (ps_set (i := 11) sc_lw_int.nd rfl (Or.inl rfl) (pe_call go (hr.mono (by omega)) (by rfl) T.g_lw_object T.F_lw_object.kp T.b_lw_object .nil pass0 (pa_cons (pv 0) (pa_cons (pv 1) (pa_cons (pv 2) (pa_cons (pv 3) (pa_cons (pv 4) (pa_cons (pe_op op_sub (pv 5) pe_int) pa_nil))))))))
      (pss_one (ps_ret (pe_tup (pa_cons pe_str (pa_cons (pv 10) (pa_cons pe_str (pa_cons (pe_tup (pa_cons (pv 11) (pa_cons (pe_call gi (hr.mono (by omega)) (by rfl) T.g_lw_int T.F_lw_int.kp T.b_lw_int .nil pass0 (pa_cons (pv 0) (pa_cons (pv 1) (pa_cons (pv 2) (pa_cons (pv 3) (pa_cons (pv 4) (pa_cons (pe_op op_sub (pv 5) pe_int) pa_nil))))))) pa_nil))) pa_nil)))))))) pss_nil)
      (pss_one (ps_ret (pe_tup (pa_cons pe_str (pa_cons (pv 10) (pa_cons pe_str (pa_cons (pe_tup (pa_cons (pe_call gi (hr.mono (by omega)) (by rfl) T.g_lw_int T.F_lw_int.kp T.b_lw_int .nil pass0 (pa_cons (pv 0) (pa_cons (pv 1) (pa_cons (pv 2) (pa_cons (pv 3) (pa_cons (pv 4) (pa_cons (pe_op op_sub (pv 5) pe_int) pa_nil))))))) pa_nil)) pa_nil))))))))) pss_nil)
      (pss_one (ps_ret (pe_tup (pa_cons pe_str (pa_cons (pe_op op_mod (pe_op op_fdiv (pv 6) pe_int) pe_int) pa_nil)))))))))))))), ?_⟩
  -- pick, way
  refine ⟨_, rfl, _, rfl, nu, c, rfl, ev.g, fun H1 p hp g1 k1 => ?_⟩
  have e1 := ev.keep k1 g1
  refine ⟨_, rfl, _, _, rfl, rfl, (by show (0 : Int) < 12; decide), ?_⟩
  -- depth <= 0 or way < 2
  refine (fun hA => ⟨_, rfl, _, _, rfl, rfl, _, rfl, Cm.itD (fun _ => hA) fun n1 => ⟨_, rfl, _, _, rfl, rfl, _, rfl, Cm.itD (fun _ => hA) fun n2 => ?_⟩⟩) ?_
  · -- a leaf
    refine iteT ?_
    refine (fun hE => ⟨_, rfl, li, _, rfl, .inl e1.i, _, _, rfl, rfl, _, rfl, Cm.itD (fun n3 => ⟨_, rfl, _, _, rfl, rfl, ⟨by decide, by decide⟩, _, _, rfl, rfl, (by show (0 : Int) < 3; decide), _, _, rfl, rfl, _, rfl, Cm.itD (fun _ => ?_) fun _ => hE⟩) fun _ => hE⟩) ?_
    · obtain ⟨n, _, e⟩ := Cm.at_int (ns := [p / 12 % 9, 0, 1, 999999999999]) (i := p / 108 % 4) (by omega) (by show p / 108 % 4 < 4; omega)
      refine ⟨_, rfl, _, _, rfl, rfl, ⟨by decide, by decide⟩, _, _, rfl, rfl, (by show (0 : Int) < 9; decide), Cm.small (by show 4 ≤ 100000; decide), fun p2 np => ?_⟩
      refine ⟨_, rfl, _, _, rfl, rfl, ⟨by decide, by decide⟩, _, _, rfl, rfl, (by show (0 : Int) < 4; decide), p2, _, _, .int n, rfl, rfl, Cm.sql_new, e, Cm.small (by show 2 ≤ 100000; decide), fun p3 np3 => ?_⟩
      exact q _ _ (.int n) ((g1.new np).new np3) (keep_new (keep_new k1 np) np3) (made np3 (.cons (.str _) (.cons (.int _) .nil))) ok_int
    · rw [List.length_map] at n3
      obtain ⟨x, hx, e⟩ := Cm.at_str (ws := is) (i := p / 36 % ((is.map V.str).length : Int)) (by rw [List.length_map]; exact Int.emod_nonneg _ (by omega)) (by rw [List.length_map]; exact Int.emod_lt_of_pos _ n3)
      refine ⟨_, rfl, _, rfl, _, _, rfl, rfl, ⟨by decide, by decide⟩, .inl ⟨_, rfl, _, rfl, li, _, rfl, .inl e1.i, _, _, rfl, rfl, (by rw [List.length_map]; exact n3), li, _, _, .str x, rfl, rfl, e1.i, e, Cm.small (by show 2 ≤ 100000; decide), fun p2 np => ?_⟩⟩
      exact q _ _ (.name x) (g1.new np) (keep_new k1 np) (made np (.cons (.str _) (.cons (.str _) .nil))) (ok_name (List.mem_append_left _ hx) (ev.so _ (List.mem_append_left _ hx)))
  obtain ⟨e, rfl, he, ed⟩ := lt_of hd n1
  have call : ∀ {H2 : Hp} (_ : Ev K H2 nu c li lc is cs) (_ : Keep c H H2) {Q2 : VK}, (∀ (H' : Hp) (v : V) (x : Pt.E), G K H' nu c → Keep c H2 H' → Rp K H' v x.d → OkE (is ++ fl cs) e x → Q2 v H') →
      spE K d ([.ref nu, .ref c, .ref li, .ref lc, .int level, .int (((e + 1 : Nat) : Int) - 1)] ++ []) H2 Q2 E0 := fun {H2} e2 _ {Q2} h => ⟨nu, c, li, lc, is, cs, level, e, by rw [ed] <;> rfl, he, e2, h⟩
  -- way < 7
  refine ⟨_, rfl, _, _, rfl, rfl, _, rfl, Cm.itD (fun h7 => ?_) fun h7 => ?_⟩
  · obtain ⟨x, hx, ex⟩ := Cm.at_str (ws := binS) (i := p % 12 - 2) (by omega) (by show p % 12 - 2 < 5; omega)
    refine ⟨Cm.small (by decide), fun p2 np => ?_⟩
    have g2 := g1.new (o := .lst (binS.map V.str)) np
    have k2 := keep_new (o := .lst (binS.map V.str)) k1 np
    refine ⟨_, rfl, _, _, rfl, rfl, p2, _, _, .str x, rfl, rfl, Cm.sql_new, ex, ?_⟩
    refine ⟨_, rfl, _, rfl, _, rfl, _, rfl, _, rfl, _, rfl, _, _, rfl, rfl, call (ev.keep k2 g2) k2 fun H3 v3 x3 g3 k3 r3 o3 => ?_⟩
    have k3' := k2.trans k3
    refine ⟨_, rfl, _, rfl, _, rfl, _, rfl, _, rfl, _, rfl, _, rfl, _, rfl, _, _, rfl, rfl, call (ev.keep k3' g3) k3' fun H4 v4 x4 g4 k4 r4 o4 => ⟨Cm.small (by show 3 ≤ 100000; decide), fun p5 np5 => ?_⟩⟩
    exact q _ _ (.plain x (.cons x3 (.cons x4 .nil))) (g4.new np5) (keep_new (k3'.trans k4) np5) (made np5 (.cons (.str _) (.cons (g3.rp k4 r3) (.cons r4 .nil)))) (ok_bin o3 o4 ((by decide +kernel : ∀ x ∈ binS, goodW x = true) x hx))
  -- way == 7
  refine ⟨_, rfl, rfl, _, rfl, ?_⟩
  rw [Cm.deq_int]
  refine Cm.itD (fun _ => ?_) fun _ => ?_
  · refine ⟨_, rfl, _, rfl, _, rfl, _, rfl, _, rfl, _, rfl, _, _, rfl, rfl, call e1 k1 fun H3 v3 x3 g3 k3 r3 o3 => ⟨Cm.small (by show 2 ≤ 100000; decide), fun p5 np5 => ?_⟩⟩
    exact q _ _ (.plain "not" (.cons x3 .nil)) (g3.new np5) (keep_new (k1.trans k3) np5) (made np5 (.cons (.str _) (.cons r3 .nil))) (ok_un o3 (by decide +kernel))
  -- way == 8
  refine ⟨_, rfl, rfl, _, rfl, ?_⟩
  rw [Cm.deq_int]
  refine Cm.itD (fun _ => ?_) fun _ => ?_
  · obtain ⟨o, eo⟩ : ∃ o : Bool, atI (([false, true].map fun o => V.str (cw o))) (p / 12 % 2) = some (.str (cw o)) := by
      rcases (by omega : p / 12 % 2 = 0 ∨ p / 12 % 2 = 1) with h | h
      · exact ⟨false, by rw [h]; rfl⟩
      · exact ⟨true, by rw [h]; rfl⟩
    refine ⟨Cm.small (by decide), fun p2 np => ?_⟩
    have g2 := g1.new (o := .lst ([false, true].map fun o => V.str (cw o))) np
    have k2 := keep_new (o := .lst ([false, true].map fun o => V.str (cw o))) k1 np
    refine ⟨_, rfl, _, _, rfl, rfl, ⟨by decide, by decide⟩, _, _, rfl, rfl, (by show (0 : Int) < 2; decide), p2, _, _, .str (cw o), rfl, rfl, Cm.sql_new, eo, ?_⟩
    refine ⟨_, rfl, _, rfl, _, rfl, _, rfl, _, rfl, _, rfl, _, _, rfl, rfl, call (ev.keep k2 g2) k2 fun H3 v3 x3 g3 k3 r3 o3 => ?_⟩
    have k3' := k2.trans k3
    refine ⟨_, rfl, _, rfl, _, rfl, _, rfl, _, rfl, _, rfl, _, rfl, _, rfl, _, _, rfl, rfl, call (ev.keep k3' g3) k3' fun H4 v4 x4 g4 k4 r4 o4 => ⟨Cm.small (by show 3 ≤ 100000; decide), fun p5 np5 => ?_⟩⟩
    exact q _ _ (.choice o x3 x4) (g4.new np5) (keep_new (k3'.trans k4) np5) (made np5 (.cons (.str _) (.cons (g3.rp k4 r3) (.cons r4 .nil)))) (ok_choice o3 o4)
  -- way == 9
  refine ⟨_, rfl, rfl, _, rfl, ?_⟩
  rw [Cm.deq_int]
  refine Cm.itD (fun _ => ?_) fun _ => ?_
  · refine ⟨_, rfl, _, rfl, _, rfl, _, rfl, _, rfl, _, rfl, _, _, rfl, rfl, call e1 k1 fun H3 v3 x3 g3 k3 r3 o3 => ?_⟩
    have k3' := k1.trans k3
    refine ⟨_, rfl, _, rfl, _, rfl, _, rfl, _, rfl, _, rfl, _, rfl, _, _, rfl, rfl, call (ev.keep k3' g3) k3' fun H4 v4 x4 g4 k4 r4 o4 => ⟨Cm.small (by show 3 ≤ 100000; decide), fun p5 np5 => ?_⟩⟩
    exact q _ _ (.plain "same" (.cons x3 (.cons x4 .nil))) (g4.new np5) (keep_new (k3'.trans k4) np5) (made np5 (.cons (.str _) (.cons (g3.rp k4 r3) (.cons r4 .nil)))) (ok_bin o3 o4 (by decide +kernel))
  -- way == 10 and level > 0
  refine (fun hE => ⟨_, rfl, rfl, _, rfl, Cm.itEI (fun _ => ⟨_, rfl, _, _, rfl, rfl, _, rfl, Cm.itD (fun _ => ?_) fun _ => hE⟩) fun _ => hE⟩) ?_
  rotate_left
  · refine ⟨_, rfl, _, rfl, _, rfl, _, rfl, _, rfl, _, rfl, _, _, rfl, rfl, call e1 k1 fun H3 v3 x3 g3 k3 r3 o3 => ⟨Cm.small (by decide), fun p4 np4 => ⟨Cm.small (by show 4 ≤ 100000; decide), fun p5 np5 => ?_⟩⟩⟩
    exact q _ _ (.call x3 "get" .nil) ((g3.new np4).new np5) (keep_new (keep_new (k1.trans k3) np4) np5) (made np5 (.cons (.str _) (.cons (r3.keep (Same.tups (Cm.same_new np4))) (.cons (.str _) (.cons (made np4 .nil) .nil))))) (ok_call0 o3 (by decide +kernel))
  -- way == 11 and level > 0
  refine (fun hE => ⟨_, rfl, rfl, _, rfl, Cm.itEI (fun _ => ⟨_, rfl, _, _, rfl, rfl, _, rfl, Cm.itD (fun _ => ?_) fun _ => hE⟩) fun _ => hE⟩) ?_
  · refine ⟨_, rfl, _, _, rfl, rfl, ⟨by decide, by decide⟩, _, _, rfl, rfl, (by show (0 : Int) < 20; decide), Cm.small (by show 2 ≤ 100000; decide), fun p3 np3 => ?_⟩
    exact q _ _ (.int (p / 12 % 20)) (g1.new np3) (keep_new k1 np3) (made np3 (.cons (.str _) (.cons (.int _) .nil))) ok_int
  refine ⟨_, rfl, _, rfl, _, rfl, _, rfl, _, rfl, _, rfl, _, _, rfl, rfl, call e1 k1 fun H3 v3 x3 g3 k3 r3 o3 => ?_⟩
  have k3' := k1.trans k3
  refine (fun hE => ⟨_, rfl, _, _, rfl, rfl, _, rfl, Cm.itD (fun _ => ⟨_, rfl, _, _, rfl, rfl, ⟨by decide, by decide⟩, _, _, rfl, rfl, (by show (0 : Int) < 2; decide), rfl, _, rfl, Cm.itEI (fun _ => ?_) fun _ => hE⟩) fun _ => hE⟩) ?_
  · refine ⟨_, rfl, _, rfl, _, rfl, _, rfl, _, rfl, _, rfl, _, rfl, _, _, rfl, rfl, call (ev.keep k3' g3) k3' fun H4 v4 x4 g4 k4 r4 o4 => ⟨Cm.small (by show 1 ≤ 100000; decide), fun p4 np4 => ⟨Cm.small (by show 4 ≤ 100000; decide), fun p5 np5 => ?_⟩⟩⟩
    exact q _ _ (.call x3 "put" (.cons x4 .nil)) ((g4.new np4).new np5) (keep_new (keep_new (k3'.trans k4) np4) np5) (made np5 (.cons (.str _) (.cons ((g3.rp k4 r3).keep (Same.tups (Cm.same_new np4))) (.cons (.str _) (.cons (made np4 (.cons r4 .nil)) .nil))))) (ok_call1 o3 o4 (by decide +kernel))
  · refine ⟨_, rfl, _, rfl, _, rfl, _, rfl, _, rfl, _, rfl, _, _, rfl, rfl, call (ev.keep k3' g3) k3' fun H4 v4 x4 g4 k4 r4 o4 => ?_⟩
    have k4' := k3'.trans k4
    refine ⟨_, rfl, _, rfl, _, rfl, _, rfl, _, rfl, _, rfl, _, rfl, _, rfl, _, _, rfl, rfl, call (ev.keep k4' g4) k4' fun H5 v5 x5 g5 k5 r5 o5 => ⟨Cm.small (by show 2 ≤ 100000; decide), fun p6 np6 => ⟨Cm.small (by show 4 ≤ 100000; decide), fun p7 np7 => ?_⟩⟩⟩
    exact q _ _ (.call x3 "both" (.cons x4 (.cons x5 .nil))) ((g5.new np6).new np7) (keep_new (keep_new (k4'.trans k5) np6) np7)
      (made np7 (.cons (.str _) (.cons ((g4.rp k5 (g3.rp k4 r3)).keep (Same.tups (Cm.same_new np6))) (.cons (.str _) (.cons (made np6 (.cons (g4.rp k5 r4) (.cons r5 .nil))) .nil))))) (ok_call2 o3 o4 o5 (by decide +kernel))
theorem step_obj (T : Txt K mg w a) (d : Nat) (gi : FnOk P w K mg base CX0 (2 * d + 1) (He.ga K "_law_int") a.d_lw_int ["numbers", "at", "ints", "cells", "level", "depth"] (spE K d))
    (go : FnOk P w K mg base CX0 (2 * d + 1) (He.ga K "_law_object") a.d_lw_object ["numbers", "at", "ints", "cells", "level", "depth"] (spE K d))
    (gr : FnOk P w K mg base CX0 (2 * d + 2) (He.ga K "_law_receiver") a.d_lw_receiver ["numbers", "at", "ints", "cells", "level", "depth"] (spE K d)) :
    FnOk P w K mg base CX0 (2 * (d + 1) + 1) (He.ga K "_law_object") a.d_lw_object ["numbers", "at", "ints", "cells", "level", "depth"] (spE K (d + 1)) := by
  refine T.F_lw_object.ok sc_lw_object spE_len (fun cdv A outer s H vs Q E hr h => ?_)
  obtain ⟨nu, c, li, lc, is, cs, level, dd, rfl, hd, ev, q⟩ := h
  refine ⟨_, PSs.nox (pss_cons (ps_set (i := 6) sc_lw_object.nd rfl (Or.inl rfl) (pe_call (ok_lw_pick T) (hr.mono (by omega)) (by rfl) T.g_lw_pick T.F_lw_pick.kp T.b_lw_pick .nil pass0 (pa_cons (pv 0) (pa_cons (pv 1) pa_nil))))
      (pss_cons (ps_set (i := 7) sc_lw_object.nd rfl (Or.inl rfl) (pe_op op_mod (pv 6) pe_int))
      (pss_cons (ps_if (PW.pt (pw_or (pt_cmpR op_le (pv 5) pe_int (nomark _)) (pw_or1 (pt_cmpR op_lt (pv 7) pe_int (nomark _))))) (pss_cons (ps_if (PW.pt (pw_and (pt_cmpR op_gt (pe_callB call_len_seq (by rfl) T.g_len boot_len (pa_cons (pv 3) pa_nil)) pe_int (nomark _)) (pw_and1 (pt_cmpR op_gt (pe_op op_mod (pe_op op_fdiv (pv 6) pe_int) pe_int) pe_int (nomark _))))) (pss_cons (ps_set (i := 8) sc_lw_object.nd rfl (Or.inl rfl) (pe_ix ix_list (pv 3) (pe_op op_mod (pe_callTy call_int1 (by rfl) T.g_int boot_int (pa_cons (pe_op op_fdiv (pv 6) pe_int) pa_nil)) (pe_callB call_len_seq (by rfl) T.g_len boot_len (pa_cons (pv 3) pa_nil))) (fun _ _ => rfl)))
      (pss_cons (ps_if (pt_cmpR op_eq (pv 8) pe_str (nomark _)) (pss_one (ps_ret (pe_tup (pa_cons pe_str pa_nil)))) pss_nil)
      (pss_one (ps_ret (pe_tup (pa_cons pe_str (pa_cons (pv 8) pa_nil))))))) pss_nil)
      (pss_one (ps_ret (pe_tup (pa_cons pe_str pa_nil))))) pss_nil)
      (pss_cons (ps_if (PW.pt (pw_or (pt_cmpR op_lt (pv 7) pe_int (nomark _)) (pw_or1 (pt_cmpR op_lt (pv 4) pe_int (nomark _))))) (pss_cons (ps_set (i := 9) sc_lw_object.nd rfl (Or.inl rfl) (pe_call go (hr.mono (by omega)) (by rfl) T.g_lw_object T.F_lw_object.kp T.b_lw_object .nil pass0 (pa_cons (pv 0) (pa_cons (pv 1) (pa_cons (pv 2) (pa_cons (pv 3) (pa_cons (pv 4) (pa_cons (pe_op op_sub (pv 5) pe_int) pa_nil))))))))
      (pss_cons (ps_set (i := 10) sc_lw_object.nd rfl (Or.inl rfl) (pe_call gi (hr.mono (by omega)) (by rfl) T.g_lw_int T.F_lw_int.kp T.b_lw_int .nil pass0 (pa_cons (pv 0) (pa_cons (pv 1) (pa_cons (pv 2) (pa_cons (pv 3) (pa_cons (pv 4) (pa_cons (pe_op op_sub (pv 5) pe_int) pa_nil))))))))
      (pss_one (ps_ret (pe_tup (pa_cons pe_str (pa_cons (pe_ix ix_list (pe_lst (pa_cons pe_str (pa_cons pe_str pa_nil))) (pe_op op_mod (pe_op op_fdiv (pv 6) pe_int) pe_int) (fun _ _ => rfl)) (pa_cons (pe_tup (pa_cons (pv 9) (pa_cons (pv 10) pa_nil))) pa_nil)))))))) pss_nil)
      (pss_cons (ps_set (i := 11) sc_lw_object.nd rfl (Or.inl rfl) (pe_call gr (hr.mono (by omega)) (by rfl) T.g_lw_receiver T.F_lw_receiver.kp T.b_lw_receiver .nil pass0 (pa_cons (pv 0) (pa_cons (pv 1) (pa_cons (pv 2) (pa_cons (pv 3) (pa_cons (pv 4) (pa_cons (pe_op op_sub (pv 5) pe_int) pa_nil))))))))
      (pss_one (ps_ret (pe_tup (pa_cons pe_str (pa_cons (pv 11) (pa_cons pe_str (pa_cons (pe_tup (pa_cons (pe_call go (hr.mono (by omega)) (by rfl) T.g_lw_object T.F_lw_object.kp T.b_lw_object .nil pass0 (pa_cons (pv 0) (pa_cons (pv 1) (pa_cons (pv 2) (pa_cons (pv 3) (pa_cons (pv 4) (pa_cons (pe_op op_sub (pv 5) pe_int) pa_nil))))))) pa_nil)) pa_nil)))))))))))), ?_⟩
  refine ⟨_, rfl, _, rfl, nu, c, rfl, ev.g, fun H1 p hp g1 k1 => ?_⟩
  have e1 := ev.keep k1 g1
  refine ⟨_, rfl, _, _, rfl, rfl, (by show (0 : Int) < 8; decide), ?_⟩
  refine (fun hA => ⟨_, rfl, _, _, rfl, rfl, _, rfl, Cm.itD (fun _ => hA) fun n1 => ⟨_, rfl, _, _, rfl, rfl, _, rfl, Cm.itD (fun _ => hA) fun n2 => ?_⟩⟩) ?_
  · -- a leaf
    refine iteT ?_
    refine (fun hE => ⟨_, rfl, lc, _, rfl, .inl e1.k, _, _, rfl, rfl, _, rfl, Cm.itD (fun n3 => ⟨_, rfl, _, _, rfl, rfl, ⟨by decide, by decide⟩, _, _, rfl, rfl, (by show (0 : Int) < 8; decide), _, _, rfl, rfl, _, rfl, Cm.itD (fun _ => ?_) fun _ => hE⟩) fun _ => hE⟩) ?_
    · refine ⟨Cm.small (by show 1 ≤ 100000; decide), fun p3 np3 => ?_⟩
      exact q _ _ (.plain "nil" .nil) (g1.new np3) (keep_new k1 np3) (made np3 (.cons (.str _) .nil)) (ok_leaf (by decide +kernel))
    · rw [List.length_map] at n3
      obtain ⟨x, hx, e⟩ := Cm.at_str (ws := cs) (i := p / 64 % ((cs.map V.str).length : Int)) (by rw [List.length_map]; exact Int.emod_nonneg _ (by omega)) (by rw [List.length_map]; exact Int.emod_lt_of_pos _ n3)
      refine ⟨_, rfl, _, rfl, _, _, rfl, rfl, ⟨by decide, by decide⟩, .inl ⟨_, rfl, _, rfl, lc, _, rfl, .inl e1.k, _, _, rfl, rfl, (by rw [List.length_map]; exact n3), lc, _, _, .str x, rfl, rfl, e1.k, e, ?_⟩⟩
      refine ⟨_, rfl, rfl, _, rfl, Cm.itES (fun _ => ?_) fun nself => ?_⟩
      · refine ⟨Cm.small (by show 1 ≤ 100000; decide), fun p3 np3 => ?_⟩
        exact q _ _ (.plain "self" .nil) (g1.new np3) (keep_new k1 np3) (made np3 (.cons (.str _) .nil)) (ok_leaf (by decide +kernel))
      · refine ⟨_, rfl, Cm.small (by show 2 ≤ 100000; decide), fun p3 np3 => ?_⟩
        exact q _ _ (.name x) (g1.new np3) (keep_new k1 np3) (made np3 (.cons (.str _) (.cons (.str _) .nil))) (ok_name (List.mem_append_right _ (fl_mem hx nself)) (ev.so _ (List.mem_append_right _ hx)))
  obtain ⟨e, rfl, he, ed⟩ := lt_of hd n1
  have call : ∀ {H2 : Hp} (_ : Ev K H2 nu c li lc is cs) (_ : Keep c H H2) {Q2 : VK}, (∀ (H' : Hp) (v : V) (x : Pt.E), G K H' nu c → Keep c H2 H' → Rp K H' v x.d → OkE (is ++ fl cs) e x → Q2 v H') →
      spE K d ([.ref nu, .ref c, .ref li, .ref lc, .int level, .int (((e + 1 : Nat) : Int) - 1)] ++ []) H2 Q2 E0 := fun {H2} e2 _ {Q2} h => ⟨nu, c, li, lc, is, cs, level, e, by rw [ed] <;> rfl, he, e2, h⟩
  refine (fun hA => ⟨_, rfl, _, _, rfl, rfl, _, rfl, Cm.itD (fun _ => hA) fun n3 => ⟨_, rfl, _, _, rfl, rfl, _, rfl, Cm.itD (fun _ => hA) fun n4 => ?_⟩⟩) ?_
  · refine iteT ?_
    refine ⟨_, rfl, _, rfl, _, rfl, _, rfl, _, rfl, _, rfl, _, _, rfl, rfl, call e1 k1 fun H3 v3 x3 g3 k3 r3 o3 => ?_⟩
    have k3' := k1.trans k3
    refine ⟨_, rfl, _, rfl, _, rfl, _, rfl, _, rfl, _, rfl, _, _, rfl, rfl, call (ev.keep k3' g3) k3' fun H4 v4 x4 g4 k4 r4 o4 => ?_⟩
    have k4' := k3'.trans k4
    obtain ⟨x, hx, ex⟩ := Cm.at_str (ws := ["Box", "Pair"]) (i := p / 8 % 2) (by omega) (by show p / 8 % 2 < 2; omega)
    refine ⟨Cm.small (by decide), fun p2 np => ?_⟩
    have g5 := g4.new (o := .lst ((["Box", "Pair"] : List Str).map V.str)) np
    have k5 := keep_new (o := .lst ((["Box", "Pair"] : List Str).map V.str)) k4' np
    have kk := k4.trans (Keep.of (Cm.same_new (o := .lst ((["Box", "Pair"] : List Str).map V.str)) np))
    refine ⟨_, rfl, _, _, rfl, rfl, ⟨by decide, by decide⟩, _, _, rfl, rfl, (by show (0 : Int) < 2; decide), p2, _, _, .str x, rfl, rfl, Cm.sql_new, ex, ?_⟩
    refine ⟨_, rfl, _, rfl, Cm.small (by show 2 ≤ 100000; decide), fun p6 np6 => ⟨Cm.small (by show 3 ≤ 100000; decide), fun p7 np7 => ?_⟩⟩
    exact q _ _ (.new x (.cons x3 (.cons x4 .nil))) ((g5.new np6).new np7) (keep_new (keep_new k5 np6) np7)
      (made np7 (.cons (.str _) (.cons (.str _) (.cons (made np6 (.cons (g3.rp kk r3) (.cons (r4.keep (Same.tups (Cm.same_new np))) .nil))) .nil)))) (ok_new2 o3 o4 ((by decide +kernel : ∀ x ∈ (["Box", "Pair"] : List Str), PyData.strOk x = true) x hx))
  · refine ⟨_, rfl, _, rfl, _, rfl, _, rfl, _, rfl, _, rfl, _, _, rfl, rfl, call e1 k1 fun H3 v3 x3 g3 k3 r3 o3 => ?_⟩
    have k3' := k1.trans k3
    refine ⟨_, rfl, _, rfl, _, rfl, _, rfl, _, rfl, _, rfl, _, rfl, _, _, rfl, rfl, call (ev.keep k3' g3) k3' fun H4 v4 x4 g4 k4 r4 o4 => ⟨Cm.small (by show 1 ≤ 100000; decide), fun p4 np4 => ⟨Cm.small (by show 4 ≤ 100000; decide), fun p5 np5 => ?_⟩⟩⟩
    exact q _ _ (.call x3 "link" (.cons x4 .nil)) ((g4.new np4).new np5) (keep_new (keep_new (k3'.trans k4) np4) np5)
      (made np5 (.cons (.str _) (.cons ((g3.rp k4 r3).keep (Same.tups (Cm.same_new np4))) (.cons (.str _) (.cons (made np4 (.cons r4 .nil)) .nil))))) (ok_call1 o3 o4 (by decide +kernel))
mutual
theorem depE : ∀ e : E, (e.d).depth ≤ 2 * e.dep + 1
  | .int n => by simp [E.d, PyData.depth, PyData.depthAll, E.dep]
  | .name x => by simp [E.d, PyData.depth, PyData.depthAll, E.dep]
  | .choice o l r => by
    have h1 := depE l
    have h2 := depE r
    simp only [E.d, PyData.depth, PyData.depthAll, E.dep]
    omega
  | .call r f as => by
    have h1 := depE r
    have h2 := depEs as
    simp only [E.d, PyData.depth, PyData.depthAll, E.dep]
    omega
  | .new m as => by
    have h2 := depEs as
    simp only [E.d, PyData.depth, PyData.depthAll, E.dep]
    omega
  | .plain w as => by
    have h2 := depEs as
    simp only [E.d, PyData.depth, PyData.depthAll, E.dep]
    omega
theorem depEs : ∀ es : Es, PyData.depthAll es.ds ≤ 2 * es.dep + 1
  | .nil => by simp [Es.ds, PyData.depthAll]
  | .cons e es => by
    have h1 := depE e
    have h2 := depEs es
    simp only [Es.ds, PyData.depthAll, Es.dep]
    omega
end
theorem shaped_of {d : PyData} (h1 : d.canLay0 = true) (h2 : d.depth ≤ 64) : SeqAt.shaped d = true := by
  show (d.canLay0 && decide (d.depth ≤ 64)) = true
  rw [Bool.and_eq_true]
  exact ⟨h1, decide_eq_true h2⟩
theorem step_rec (T : Txt K mg w a) (d : Nat) (hd9 : d ≤ 9) (go : FnOk P w K mg base CX0 (2 * d + 1) (He.ga K "_law_object") a.d_lw_object ["numbers", "at", "ints", "cells", "level", "depth"] (spE K d)) :
    FnOk P w K mg base CX0 (2 * d + 2) (He.ga K "_law_receiver") a.d_lw_receiver ["numbers", "at", "ints", "cells", "level", "depth"] (spE K d) := by
  refine T.F_lw_receiver.ok sc_lw_receiver spE_len (fun cdv A outer s H vs Q E hr h => ?_)
  obtain ⟨nu, c, li, lc, is, cs, level, dd, rfl, hd, ev, q⟩ := h
  refine ⟨_, PSs.nox (pss_cons (ps_set (i := 6) sc_lw_receiver.nd rfl (Or.inl rfl) (pe_call go (hr.mono (by omega)) (by rfl) T.g_lw_object T.F_lw_object.kp T.b_lw_object .nil pass0 (pa_cons (pv 0) (pa_cons (pv 1) (pa_cons (pv 2) (pa_cons (pv 3) (pa_cons (pv 4) (pa_cons (pv 5) pa_nil))))))))
      (pss_cons (ps_if (pt_cmpR (op_eqD hr.units) (pv 6) (pe_tup (pa_cons pe_str pa_nil)) (nomark _)) (pss_one (ps_ret (pe_tup (pa_cons pe_str (pa_cons pe_str (pa_cons (pe_tup (pa_cons (pv 6) (pa_cons (pe_tup (pa_cons pe_str (pa_cons pe_int pa_nil))) pa_nil))) pa_nil)))))) pss_nil)
      (pss_one (ps_ret (pv 6))))), ?_⟩
  refine ⟨_, rfl, _, rfl, _, rfl, _, rfl, _, rfl, _, rfl, nu, c, li, lc, is, cs, level, dd, rfl, hd, ev, fun H3 v3 x3 g3 k3 r3 o3 => ?_⟩
  refine ⟨_, rfl, Cm.small (by show 1 ≤ 100000; decide), fun p2 np => ?_⟩
  have g2 := g3.new (o := .tup [.str "nil"]) np
  have k2 := keep_new (o := .tup [.str "nil"]) k3 np
  have r2 := r3.keep (Same.tups (Cm.same_new (o := .tup [.str "nil"]) np))
  have hs := depE x3
  have hdep := o3.dp
  refine ⟨_, _, r2.dp, (made np (.cons (.str "nil") .nil)).dp, shaped_of o3.lay (by omega), by decide +kernel, _, rfl, Cm.itB (fun h => ?_) fun h => ?_⟩
  · obtain ⟨h1, h2⟩ := eqv_nil x3 h
    refine ⟨_, rfl, Cm.small (by show 2 ≤ 100000; decide), fun p4 np4 => ⟨Cm.small (by show 2 ≤ 100000; decide), fun p5 np5 => ⟨Cm.small (by show 3 ≤ 100000; decide), fun p6 np6 => ?_⟩⟩⟩
    have s4 := Cm.same_new (o := .tup [.str "int", .int 1]) np4
    exact q _ _ (.new "Box" (.cons x3 (.cons (.int 1) .nil))) (((g2.new np4).new np5).new np6) (keep_new (keep_new (keep_new k2 np4) np5) np6)
      (made np6 (.cons (.str _) (.cons (.str _) (.cons (made np5 (.cons (r2.keep (Same.tups s4)) (.cons (made np4 (.cons (.str _) (.cons (.int 1) .nil))) .nil))) .nil)))) (ok_box o3 h1 h2 (by decide +kernel))
  · exact ⟨_, rfl, q _ _ x3 g2 k2 r2 o3⟩
theorem ok_E (T : Txt K mg w a) : ∀ d : Nat, d ≤ 9 → FnOk P w K mg base CX0 (2 * d + 1) (He.ga K "_law_int") a.d_lw_int ["numbers", "at", "ints", "cells", "level", "depth"] (spE K d) ∧
    FnOk P w K mg base CX0 (2 * d + 1) (He.ga K "_law_object") a.d_lw_object ["numbers", "at", "ints", "cells", "level", "depth"] (spE K d) ∧ FnOk P w K mg base CX0 (2 * d + 2) (He.ga K "_law_receiver") a.d_lw_receiver ["numbers", "at", "ints", "cells", "level", "depth"] (spE K d)
  | 0, _ => by
    have no : ∀ vs H Q E, ¬ spE K 0 vs H Q E := fun vs H Q E h => by
      obtain ⟨_, _, _, _, _, _, _, dd, _, hd, _⟩ := h
      exact absurd hd (Nat.not_lt_zero dd)
    exact ⟨vac no, vac no, vac no⟩
  | d + 1, hd => by
    obtain ⟨gi, go, gr⟩ := ok_E T d (by omega)
    have go' := step_obj T d gi go gr
    exact ⟨step_int T d gi go gr, go', step_rec T (d + 1) hd go'⟩
/-! ### the generator: blocks -/
def Cb : Nat → Nat
  | 0 => 0
  | 1 => 200
  | m + 2 => (m + 2) * (200 + 2 * Cb m)
def Mb (m : Nat) : Nat := 200 + 2 * Cb (m - 2)
theorem Cb_eq : ∀ m : Nat, Cb m = m * Mb m
  | 0 => by simp [Cb]
  | 1 => by simp [Cb, Mb]
  | m + 2 => rfl
structure OkB (N : List Str) (m : Nat) (b : Ss) : Prop where
  us : ∀ x ∈ b.uses, x ∈ N ∨ x ∈ b.lets
  dp : b.dep ≤ m + 5
  sz : b.sz ≤ Cb m
  lay : PyData.canLayAll0 b.ds = true
  wf : b.wf = true
def spB (K : PySem.W.Frag) (m : Nat) : Sp := fun vs H Q _ => ∃ (nu c li lc : Addr) (is cs : List Str) (level : Int) (many : Nat) (mark : Str), vs = [.ref nu, .ref c, .ref li, .ref lc, .int level, .int many, .str mark] ∧ many < m ∧ Ev K H nu c li lc is cs ∧
  mark.length + 2 * many ≤ 90 ∧ PyData.strOk mark = true ∧ is.length + 10 * many ≤ 500 ∧ cs.length + 10 * many ≤ 500 ∧ ∀ (H' : Hp) (v : V) (b : Ss), G K H' nu c → Keep c H H' → Rp K H' v (.tuple b.ds) → OkB (is ++ fl cs) many b → Q v H'
/-- between two turns -/
structure Lp (K : PySem.W.Frag) (H0 H : Hp) (nu c rw li lc : Addr) (is cs N : List Str) (m i : Nat) (b : Ss) : Prop where
  ev : Ev K H nu c li lc is cs
  kp : Keep c H0 H
  new : H0 rw = none
  rows : ∃ vs, H rw = some (.lst vs) ∧ Rps K H vs b.ds ∧ vs.length ≤ 2 * i
  nli : li ≠ rw
  nlc : lc ≠ rw
  nm : ∀ x ∈ is ++ fl cs, x ∈ N ∨ x ∈ b.lets
  us : ∀ x ∈ b.uses, x ∈ N ∨ x ∈ b.lets
  dp : b.dep ≤ m + 5
  sz : b.sz ≤ i * Mb m
  lay : PyData.canLayAll0 b.ds = true
  wf : b.wf = true
theorem dsRef {K : PySem.W.Frag} {H : Hp} : ∀ {vs : List V} {b : Ss}, Rps K H vs b.ds → ∀ v ∈ vs, ∃ a, v = .ref a
  | _, .nil, h => by
    rw [Rps.nil_inv h]
    intro v hv
    cases hv
  | _, .cons s b, h => by
    obtain ⟨v, r, rfl, h1, h2⟩ := Rps.cons_inv h
    intro u hu
    rcases List.mem_cons.mp hu with rfl | hu
    · cases s <;> (obtain ⟨a, _, e, _⟩ := Rp.tup_inv h1; exact ⟨a, e⟩)
    · exact dsRef h2 u hu
theorem refs_int {vs : List V} (h : ∀ v ∈ vs, ∃ a, v = .ref a) {ns : List Int} (e : vs = ns.map V.int) : ns = [] := by
  subst e
  cases ns with
  | nil => rfl
  | cons n r =>
    obtain ⟨a, e⟩ := h (.int n) (by simp)
    cases e
section
variable {K : PySem.W.Frag} {H0 H H1 : Hp} {nu c rw li lc : Addr} {is cs N : List Str} {m i : Nat} {b : Ss}
/-- the rows may change, the generator's own state stays -/
theorem G.rows {vs : List V} {o : HO} (g : G K H nu c) (h : H rw = some (.lst vs)) (r : ∀ v ∈ vs, ∃ a, v = .ref a) : G K (upd H rw o) nu c := by
  obtain ⟨ns, n, h1, h2, h3, h4, h5⟩ := g
  have k : Keep rw H (upd H rw o) := fun q x e ne => by
    rw [upd_ne ne]
    exact e
  have ne : ns.map V.int ≠ vs := fun e => by
    have := refs_int r e.symm
    rw [this] at h2
    cases h2
  refine ⟨ns, n, k.seq h ne h1, h2, h3, k _ _ h4 fun e => ?_, h5⟩
  rw [e, h] at h4
  have e2 : vs = [n].map V.int := HO.lst.inj (Option.some.inj h4)
  cases refs_int r e2
theorem rows_stay {c : Addr} {vs : List V} (g : G K H nu c) (k : Keep c H H1) (h : H rw = some (.lst vs)) (r : ∀ v ∈ vs, ∃ a, v = .ref a) : H1 rw = some (.lst vs) := by
  obtain ⟨ns, n, h1, h2, h3, h4, h5⟩ := g
  refine k _ _ h fun e => ?_
  rw [e, h4] at h
  have e2 : vs = [n].map V.int := (HO.lst.inj (Option.some.inj h)).symm
  cases refs_int r e2
theorem Lp.keep (l : Lp K H0 H nu c rw li lc is cs N m i b) (k : Keep c H H1) (g : G K H1 nu c) : Lp K H0 H1 nu c rw li lc is cs N m i b := by
  obtain ⟨vs, h1, h2, h3⟩ := l.rows
  exact ⟨l.ev.keep k g, l.kp.trans k, l.new, ⟨vs, rows_stay l.ev.g k h1 (dsRef h2), h2.keep (l.ev.g.tups k), h3⟩, l.nli, l.nlc, l.nm, l.us, l.dp, l.sz, l.lay, l.wf⟩
theorem Lp.same (l : Lp K H0 H nu c rw li lc is cs N m i b) (s : Same H H1) : Lp K H0 H1 nu c rw li lc is cs N m i b := l.keep (Keep.of s) (l.ev.g.same s)
theorem lay_snoc {b : Ss} {s : S} (h1 : PyData.canLayAll0 b.ds = true) (h2 : s.d.canLay0 = true) : PyData.canLayAll0 (b.app (.cons s .nil)).ds = true := by
  rw [Ss.app_ds]
  show PyData.canLayAll0 (b.ds ++ [s.d]) = true
  generalize b.ds = l at h1
  induction l with
  | nil => simp [PyData.canLayAll0, h2]
  | cons x r ih =>
    simp only [PyData.canLayAll0, Bool.and_eq_true] at h1
    simp only [List.cons_append, PyData.canLayAll0, Bool.and_eq_true]
    exact ⟨h1.1, ih h1.2⟩
theorem le_mul {i j M : Nat} (h : i ≤ j) : i * M ≤ j * M := Nat.mul_le_mul_right M h
/-- one statement more, in turn i; j ≤ i + 1 tells how much of the turn's size is spent -/
theorem Lp.push {vs : List V} {v : V} {s : S} {z : Nat} (l : Lp K H0 H nu c rw li lc is cs N m i b) (h : H rw = some (.lst vs)) (hv : Rps K H vs b.ds) (hl : vs.length + 1 ≤ 2 * z) (r : Rp K H v s.d)
    (us : ∀ x ∈ s.uses, x ∈ N ∨ x ∈ b.lets ∨ x ∈ s.lets) (dp : s.dep ≤ m + 5) (sz : b.sz + s.sz ≤ z * Mb m) (lay : s.d.canLay0 = true) (wf : s.wf = true) :
    Lp K H0 (upd H rw (.lst (vs ++ [v]))) nu c rw li lc is cs N m z (b.app (.cons s .nil)) := by
  have refs := dsRef hv
  have tp : Tups H (upd H rw (.lst (vs ++ [v]))) := fun q x e no => by
    refine (upd_ne fun z => ?_).trans e
    rw [z, h] at e
    exact no vs (Option.some.inj e).symm
  have ml : ∀ x, x ∈ (b.app (.cons s .nil)).lets ↔ x ∈ b.lets ∨ x ∈ s.lets := fun x => by
    rw [Ss.app_lets]
    show x ∈ b.lets ++ (s.lets ++ []) ↔ _
    rw [List.append_nil, List.mem_append]
  refine ⟨⟨l.ev.g.rows h refs, (upd_ne l.nli).trans l.ev.ti, (upd_ne l.nlc).trans l.ev.tk, l.ev.so⟩, fun q x e ne => ?_, l.new, ⟨vs ++ [v], upd_same, ?_, by rw [List.length_append]; exact hl⟩, l.nli, l.nlc, fun x hx => ?_, fun x hx => ?_, ?_, ?_, lay_snoc l.lay lay, by rw [Ss.app_wf]; exact and2 l.wf (and2 wf rfl)⟩
  · rw [upd_ne (ne_of_none e l.new)]
    exact l.kp q x e ne
  · rw [Ss.app_ds]
    exact (hv.keep tp).app (.cons (r.keep tp) .nil)
  · rcases l.nm x hx with h | h
    · exact .inl h
    · exact .inr ((ml x).mpr (.inl h))
  · rw [Ss.app_uses] at hx
    rcases List.mem_append.mp hx with h | h
    · rcases l.us x h with h | h
      · exact .inl h
      · exact .inr ((ml x).mpr (.inl h))
    · have h' : x ∈ s.uses ++ [] := h
      rw [List.append_nil] at h'
      rcases us x h' with h | h | h
      · exact .inl h
      · exact .inr ((ml x).mpr (.inl h))
      · exact .inr ((ml x).mpr (.inr h))
  · rw [Ss.app_dep]
    have := l.dp
    show max b.dep (max s.dep 0) ≤ m + 5
    omega
  · rw [Ss.app_sz]
    show b.sz + (s.sz + 0) ≤ z * Mb m
    exact sz
theorem Lp.in {x : Str} (l : Lp K H0 H nu c rw li lc is cs N m i b) (h : x ∈ is ++ fl cs) : x ∈ N ∨ x ∈ b.lets := l.nm x h
end
theorem dig : ∀ i : Nat, i < 10 → (Str.ofString (toString (0 + (i : Int)))).length = 1 ∧ PyData.strOk (Str.ofString (toString (0 + (i : Int)))) = true ∧ (0 + (i : Int)).natAbs.log2 < 1920 := by decide +kernel
theorem str_app_len (x y : Str) : (x ++ y).length = x.length + y.length := by
  rw [TL.len_tl, TL.len_tl, TL.len_tl, TL.tl_append, List.length_append]
theorem strOk_app {x y : Str} (h1 : PyData.strOk x = true) (h2 : PyData.strOk y = true) : PyData.strOk (x ++ y) = true := by
  have e : ∀ z : Str, PyData.strOk z = (TL.tl z).all (· < 0x110000) := fun z => by
    show z.cps.all _ = z.cps.toList.all _
    rw [Array.all_toList]
  rw [e] at h1 h2 ⊢
  rw [TL.tl_append, List.all_append, h1, h2]
  rfl
theorem Mb_big (m : Nat) : 200 ≤ Mb m := by
  unfold Mb
  omega
theorem succM (i m : Nat) : (i + 1) * Mb m = i * Mb m + Mb m := Nat.succ_mul i (Mb m)
theorem fl_take {cs : List Str} {i : Nat} {x : Str} (h : cs[i]? = some x) : fl (cs.take (i + 1)) = fl (cs.take i) ++ (if x = "self" then [] else [x]) := by
  unfold fl
  rw [List.take_succ, h, List.filter_append]
  congr 1
  show List.filter _ [x] = _
  by_cases e : x = "self"
  · rw [if_pos e, List.filter_cons_of_neg (by rw [decide_eq_true e]; decide)]
    rfl
  · rw [if_neg e, List.filter_cons_of_pos (by rw [decide_eq_false e]; rfl)]
    rfl
theorem fl_sub {cs : List Str} {x : Str} (h : x ∈ fl cs) : x ∈ cs := (List.mem_filter.mp h).1
theorem fl_len (cs : List Str) (i : Nat) : (fl (cs.take i)).length ≤ cs.length := Nat.le_trans (List.length_filter_le _ _) (by rw [List.length_take]; omega)
abbrev ps7 : List Str := ["numbers", "at", "ints", "cells", "level", "many", "mark"]
theorem mapS_at {cs : List Str} {i : Nat} {v : V} (h : (cs.map V.str)[i]? = some v) : ∃ x, cs[i]? = some x ∧ v = .str x := by
  rw [List.getElem?_map] at h
  cases e : cs[i]? with
  | none =>
    rw [e] at h
    cases h
  | some x =>
    rw [e] at h
    exact ⟨x, rfl, (Option.some.inj h).symm⟩
theorem le2 : (10 : Nat) * 4 ^ 2 = 160 := by decide
theorem le1 : (10 : Nat) * 4 ^ 1 = 40 := by decide
section
variable {K : PySem.W.Frag} {H0 H H1 : Hp} {nu c rw li lc : Addr} {is cs N : List Str} {m i : Nat} {b : Ss}
theorem Lp.eu (l : Lp K H0 H nu c rw li lc is cs N m i b) {e : E} {d : Nat} (o : OkE (is ++ fl cs) d e) {ls : List Str} : ∀ x ∈ e.uses, x ∈ N ∨ x ∈ b.lets ∨ x ∈ ls := fun x hx => (l.nm x (o.us x hx)).elim .inl fun h => .inr (.inl h)
theorem Lp.bu (l : Lp K H0 H nu c rw li lc is cs N m i b) {e : Ss} {d : Nat} (o : OkB (is ++ fl cs) d e) {ls : List Str} (h : ∀ x ∈ e.lets, x ∈ ls) : ∀ x ∈ e.uses, x ∈ N ∨ x ∈ b.lets ∨ x ∈ ls := fun x hx =>
  (o.us x hx).elim (fun z => (l.nm x z).elim .inl fun h => .inr (.inl h)) fun z => .inr (.inr (h x z))
theorem us_app {l1 l2 ls bl : List Str} (h1 : ∀ x ∈ l1, x ∈ N ∨ x ∈ bl ∨ x ∈ ls) (h2 : ∀ x ∈ l2, x ∈ N ∨ x ∈ bl ∨ x ∈ ls) : ∀ x ∈ l1 ++ l2, x ∈ N ∨ x ∈ bl ∨ x ∈ ls := fun x hx => (List.mem_append.mp hx).elim (h1 x) (h2 x)
theorem us_cons {y : Str} {l2 ls bl : List Str} (h1 : y ∈ N ∨ y ∈ bl ∨ y ∈ ls) (h2 : ∀ x ∈ l2, x ∈ N ∨ x ∈ bl ∨ x ∈ ls) : ∀ x ∈ y :: l2, x ∈ N ∨ x ∈ bl ∨ x ∈ ls := fun x hx => by
  rcases List.mem_cons.mp hx with rfl | hx
  · exact h1
  · exact h2 x hx
theorem us_nil {ls bl : List Str} : ∀ x ∈ ([] : List Str), x ∈ N ∨ x ∈ bl ∨ x ∈ ls := fun _ h => (nomatch h)
theorem Lp.rne (l : Lp K H0 H nu c rw li lc is cs N m i b) {p : Addr} (np : H p = none) : p ≠ rw := by
  obtain ⟨vs, h1, _⟩ := l.rows
  exact (ne_of_none h1 np).symm
/-- a new list of the names of ints -/
theorem Lp.ints (l : Lp K H0 H nu c rw li lc is cs N m i b) {p : Addr} {x : Str} {vs : List V} (np : H p = none) (e : vs = (is ++ [x]).map V.str) (hx : x ∈ N ∨ x ∈ b.lets) (so : PyData.strOk x = true) : Lp K H0 (upd H p (.lst vs)) nu c rw p lc (is ++ [x]) cs N m i b := by
  have s := Cm.same_new (o := .lst vs) np
  have l2 := l.same s
  refine ⟨⟨l2.ev.g, by rw [upd_same, e], l2.ev.tk, fun y hy => ?_⟩, l2.kp, l2.new, l2.rows, l.rne np, l2.nlc, fun y hy => ?_, l2.us, l2.dp, l2.sz, l2.lay, l2.wf⟩
  · simp only [List.mem_append, List.mem_singleton] at hy
    rcases hy with (h | h) | h
    · exact l.ev.so y (List.mem_append_left _ h)
    · rw [h]
      exact so
    · exact l.ev.so y (List.mem_append_right _ h)
  · simp only [List.mem_append, List.mem_singleton] at hy
    rcases hy with (h | h) | h
    · exact l.nm y (List.mem_append_left _ h)
    · rw [h]
      exact hx
    · exact l.nm y (List.mem_append_right _ h)
theorem Lp.cells (l : Lp K H0 H nu c rw li lc is cs N m i b) {p : Addr} {x : Str} {vs : List V} (np : H p = none) (e : vs = (cs ++ [x]).map V.str) (hx : x ∈ N ∨ x ∈ b.lets) (so : PyData.strOk x = true) : Lp K H0 (upd H p (.lst vs)) nu c rw li p is (cs ++ [x]) N m i b := by
  have s := Cm.same_new (o := .lst vs) np
  have l2 := l.same s
  refine ⟨⟨l2.ev.g, l2.ev.ti, by rw [upd_same, e], fun y hy => ?_⟩, l2.kp, l2.new, l2.rows, l2.nli, l.rne np, fun y hy => ?_, l2.us, l2.dp, l2.sz, l2.lay, l2.wf⟩
  · simp only [List.mem_append, List.mem_singleton] at hy
    rcases hy with h | h | h
    · exact l.ev.so y (List.mem_append_left _ h)
    · exact l.ev.so y (List.mem_append_right _ h)
    · rw [h]
      exact so
  · rcases List.mem_append.mp hy with h | h
    · exact l.nm y (List.mem_append_left _ h)
    · have h2 := List.mem_filter.mp h
      rcases List.mem_append.mp h2.1 with h3 | h3
      · exact l.nm y (List.mem_append_right _ (List.mem_filter.mpr ⟨h3, h2.2⟩))
      · rw [List.mem_singleton.mp h3]
        exact hx
theorem snoc_let {nm k : Str} {e : E} : nm ∈ (b.app (.cons (.letS nm k e) .nil)).lets := by
  rw [Ss.app_lets]
  exact List.mem_append_right _ (List.mem_append_left _ (List.mem_singleton.mpr rfl))
end
theorem ifS_sz (e : E) (b c : Ss) : (S.ifS e b c).sz ≤ e.sz + b.sz + c.sz + 2 := by
  cases c with
  | nil =>
    show e.sz + 1 + b.sz + 0 + 0 ≤ e.sz + b.sz + 0 + 2
    omega
  | cons s ss =>
    show e.sz + 1 + b.sz + 1 + (Ss.cons s ss).sz ≤ e.sz + b.sz + (Ss.cons s ss).sz + 2
    omega
theorem szS_pos : ∀ s : S, 1 ≤ s.sz
  | .letS _ _ e => Nat.le_add_left 1 e.sz
  | .setS _ e => Nat.le_add_left 1 e.sz
  | .ifS e b c => by
    cases c with
    | nil =>
      show 1 ≤ e.sz + 1 + b.sz + 0 + 0
      omega
    | cons s ss =>
      show 1 ≤ e.sz + 1 + b.sz + 1 + (Ss.cons s ss).sz
      omega
  | .whileS e b => by
    show 1 ≤ e.sz + b.sz + 2
    omega
  | .doS e => Nat.le_add_left 1 e.sz
  | .fork r _ as => Nat.le_add_left 1 (r.sz + as.sz)
  | .plain _ as => Nat.le_add_left 1 as.sz
theorem szB : ∀ b : Ss, b.ds.length ≤ b.sz
  | .nil => Nat.le_refl 0
  | .cons s ss => by
    have h1 := szS_pos s
    have h2 := szB ss
    show ss.ds.length + 1 ≤ s.sz + ss.sz
    omega
theorem cb8 : ∀ m : Nat, m ≤ 8 → Cb m ≤ 4000000 := by decide
theorem withRest {PP : Hp → Prop} {Goal : Prop} {H1 : Hp} (h : (∀ H2, Same H1 H2 → PP H2) → Goal) (hE : ∀ H2, Same H1 H2 → PP H2) : Goal := h hE
/-- [one for one in cells if one != "self"] -/
theorem comp_own {K : PySem.W.Frag} {lc D : Addr} {cs : List Str} {H1 : Hp} {σ : L2.St} {Qd : Hp → Prop} (hlc : H1 lc = some (.lst (cs.map V.str))) (hD : H1 D = none) (hl : cs.length ≤ 1000)
    (hw : ∀ v, wipe ((wipe σ [19]).set 19 (some v)) [19] = wipe σ [19]) (hg : ∀ v : V, ((wipe σ [19]).set 19 (some v))[19]? = some (some v)) (hd : ∀ H, Same H1 H → H D = some (.lst ((fl cs).map V.str)) → Qd H) :
    ∃ W : Nat → Nat → Hp → Prop, (∃ m, W 0 m (upd H1 D (.lst []))) ∧ ∀ i m H, W i m H → ((Itl K lc).stop i H ∧ Qd H) ∨ ((Itl K lc).go i H ∧ ∃ Nx : Hp → Prop, (∀ H', Nx H' → ∃ m', m' < m ∧ W (i + 1) m' H') ∧ ∀ x H', (Itl K lc).yld i H x H' →
      gName 19 x (wipe σ [19]) H' fun σ2 H2 => wipe σ2 [19] = wipe σ [19] ∧ tTest (tOp rNe (tVar 19) (tC (.str "self"))) σ2 H2 fun b H3 => if b = true then tVar 19 σ2 H3 fun y H4 => ∃ acc, H4 D = some (.lst acc) ∧ acc.length < sizeLine ∧ Nx (upd H4 D (.lst (acc ++ [y]))) else Nx H3) := by
  refine lc_list (K := K) (a := lc) (xs := cs.map V.str) (fun i H => Same H1 H ∧ H D = some (.lst ((fl (cs.take i)).map V.str))) ⟨Cm.same_new hD, upd_same⟩ (fun i H _ p => SqL.of (p.1 _ _ hlc)) (fun i x H hx p => ?_) fun H p => ?_
  · obtain ⟨s, hH⟩ := p
    obtain ⟨y, hy, rfl⟩ := mapS_at hx
    have ft := fl_take hy
    refine ⟨hw _, _, hg _, rfl, _, rfl, Cm.itNS (fun n => ?_) fun e => ?_⟩
    · rw [if_neg n] at ft
      refine ⟨_, hg _, _, hH, Cm.smallL (by rw [List.length_map]; have := fl_len cs i; omega), Cm.same_mut s hD, ?_⟩
      rw [upd_same, ft, List.map_append]
      rfl
    · rw [if_pos e, List.append_nil] at ft
      exact ⟨s, by rw [ft]; exact hH⟩
  · rw [List.length_map, List.take_length] at p
    exact hd H p.1 p.2
theorem step_block (T : Txt K mg w a) (m : Nat) (hm : m ≤ 8) (gb : FnOk P w K mg base CX0 (9 + m) (He.ga K "_law_block") a.d_lw_block ps7 (spB K m)) :
    FnOk P w K mg base CX0 (9 + m + 1) (He.ga K "_law_block") a.d_lw_block ps7 (spB K (m + 1)) := by
  obtain ⟨gi, go, gr⟩ := ok_E (P := P) (w := w) (base := base) T 3 (by decide)
  refine T.F_lw_block.ok sc_lw_block (fun vs H Q E h => ?_) (fun cdv A outer s H0 vs Q E hr h => ?_)
  · obtain ⟨nu, c, li, lc, is, cs, level, many, mark, rfl, _⟩ := h
    rfl
  obtain ⟨nu, c, li0, lc0, is0, cs0, level, many, mark, rfl, hmany, ev0, hmark, som, hil0, hcl0, q⟩ := h
  refine ⟨_, PSs.nox (pss_cons (ps_set (i := 7) sc_lw_block.nd rfl (Or.inl rfl) (pe_lst pa_nil))
      (pss_cons (ps_for PassesOwn.never rfl (pi_range1 (by rfl) T.g_range (pa_cons (pv 5) pa_nil)) (pg_name (i := 8) sc_lw_block.nd rfl (Or.inl rfl))
      (pss_cons (ps_set (i := 9) sc_lw_block.nd rfl (Or.inl rfl) (pe_call (ok_lw_pick T) (hr.mono (by omega)) (by rfl) T.g_lw_pick T.F_lw_pick.kp T.b_lw_pick .nil pass0 (pa_cons (pv 0) (pa_cons (pv 1) pa_nil))))
      (pss_cons (ps_set (i := 10) sc_lw_block.nd rfl (Or.inl rfl) (pe_op op_mod (pv 9) pe_int))
      (pss_cons (ps_set (i := 11) sc_lw_block.nd rfl (Or.inl rfl) (pe_op op_add_str (pv 6) (pe_callTy call_str_int (by rfl) T.g_str boot_str (pa_cons (pv 8) pa_nil))))
      (pss_one (ps_if (pt_cmpR op_lt (pv 10) pe_int (nomark _)) (pss_cons (ps_expr (pe_bm PySem.F.plainAttrs_list PySem.F.slot_list_append PySem.F.type_list_append mt_append (pv 7) (pa_cons (pe_tup (pa_cons pe_str (pa_cons (pv 11) (pa_cons pe_str (pa_cons (pe_call gi (hr.mono (by omega)) (by rfl) T.g_lw_int T.F_lw_int.kp T.b_lw_int .nil pass0 (pa_cons (pv 0) (pa_cons (pv 1) (pa_cons (pv 2) (pa_cons (pv 3) (pa_cons (pv 4) (pa_cons pe_int pa_nil))))))) pa_nil))))) pa_nil)))
      (pss_one (ps_set (i := 2) sc_lw_block.nd rfl (Or.inl rfl) (pe_op op_cat (pv 2) (pe_lst (pa_cons (pv 11) pa_nil)))))) (pss_one (ps_if (pt_cmpR op_eq (pv 10) pe_int (nomark _)) (pss_cons (ps_expr (pe_bm PySem.F.plainAttrs_list PySem.F.slot_list_append PySem.F.type_list_append mt_append (pv 7) (pa_cons (pe_tup (pa_cons pe_str (pa_cons (pv 11) (pa_cons pe_str (pa_cons (pe_call go (hr.mono (by omega)) (by rfl) T.g_lw_object T.F_lw_object.kp T.b_lw_object .nil pass0 (pa_cons (pv 0) (pa_cons (pv 1) (pa_cons (pv 2) (pa_cons (pv 3) (pa_cons (pv 4) (pa_cons pe_int pa_nil))))))) pa_nil))))) pa_nil)))
      (pss_one (ps_set (i := 3) sc_lw_block.nd rfl (Or.inl rfl) (pe_op op_cat (pv 3) (pe_lst (pa_cons (pv 11) pa_nil)))))) (pss_one (ps_if (PW.pt (pw_and (pt_cmpR op_lt (pv 10) pe_int (nomark _)) (pw_and1 (pt_cmpR op_gt (pe_callB call_len_seq (by rfl) T.g_len boot_len (pa_cons (pv 2) pa_nil)) pe_int (nomark _))))) (pss_one (ps_expr (pe_bm PySem.F.plainAttrs_list PySem.F.slot_list_append PySem.F.type_list_append mt_append (pv 7) (pa_cons (pe_tup (pa_cons pe_str (pa_cons (pe_ix ix_list (pv 2) (pe_op op_mod (pe_callTy call_int1 (by rfl) T.g_int boot_int (pa_cons (pe_op op_fdiv (pv 9) pe_int) pa_nil)) (pe_callB call_len_seq (by rfl) T.g_len boot_len (pa_cons (pv 2) pa_nil))) (fun _ _ => rfl)) (pa_cons (pe_call gi (hr.mono (by omega)) (by rfl) T.g_lw_int T.F_lw_int.kp T.b_lw_int .nil pass0 (pa_cons (pv 0) (pa_cons (pv 1) (pa_cons (pv 2) (pa_cons (pv 3) (pa_cons (pv 4) (pa_cons pe_int pa_nil))))))) pa_nil)))) pa_nil)))) (pss_one (ps_if (PW.pt (pw_and (pt_cmpR op_eq (pv 10) pe_int (nomark _)) (pw_and1 (pt_cmpR op_gt (pe_callB call_len_seq (by rfl) T.g_len boot_len (pa_cons (pe_lc (own := [("one", 19)]) (g := gName 19) (tt := (tTest (tOp rNe (tVar 19) (tC (.str "self")))))  (by rfl) sc_lw_block.nd (pi_list (pv 3)) (blkOk_by (own := [("one", 19)]) (N := N_lw_block) (sc := defScope s_lw_block) (by decide +kernel)) (fun _ _ _ _ _ => pg_name (i := 19) sc_lw_block.nd rfl (Or.inl rfl)) (fun _ _ _ _ _ => pts_one (pt_cmpR op_ne (pv 19) pe_str (nomark _))) (fun _ _ _ _ _ => (pv 19))) pa_nil)) pe_int (nomark _))))) (pss_cons (ps_setLc (i := 12) (own := [("one", 19)]) (g := gName 19) (tt := (tTest (tOp rNe (tVar 19) (tC (.str "self")))))  (by rfl) sc_lw_block.nd rfl rfl (sw_true rfl rfl rfl (by decide +kernel)) (pi_list (pv 3)) (blkOk_by (own := [("one", 19)]) (N := N_lw_block) (sc := defScope s_lw_block) (by decide +kernel)) (fun _ _ _ _ _ => pg_name (i := 19) sc_lw_block.nd rfl (Or.inl rfl)) (fun _ _ _ _ _ => pts_one (pt_cmpR op_ne (pv 19) pe_str (nomark _))) (fun _ _ _ _ _ => (pv 19)))
      (pss_one (ps_expr (pe_bm PySem.F.plainAttrs_list PySem.F.slot_list_append PySem.F.type_list_append mt_append (pv 7) (pa_cons (pe_tup (pa_cons pe_str (pa_cons (pe_ix ix_list (pv 12) (pe_op op_mod (pe_callTy call_int1 (by rfl) T.g_int boot_int (pa_cons (pe_op op_fdiv (pv 9) pe_int) pa_nil)) (pe_callB call_len_seq (by rfl) T.g_len boot_len (pa_cons (pv 12) pa_nil))) (fun _ _ => rfl)) (pa_cons (pe_call go (hr.mono (by omega)) (by rfl) T.g_lw_object T.F_lw_object.kp T.b_lw_object .nil pass0 (pa_cons (pv 0) (pa_cons (pv 1) (pa_cons (pv 2) (pa_cons (pv 3) (pa_cons (pv 4) (pa_cons pe_int pa_nil))))))) pa_nil)))) pa_nil))))) (pss_one (ps_if (PW.pt (pw_and (pt_cmpR op_eq (pv 10) pe_int (nomark _)) (pw_and1 (pt_cmpR op_gt (pv 5) pe_int (nomark _))))) (pss_cons (ps_set (i := 13) sc_lw_block.nd rfl (Or.inl rfl) (pe_call gb (hr.mono (by omega)) (by rfl) T.g_lw_block T.F_lw_block.kp T.b_lw_block .nil pass0 (pa_cons (pv 0) (pa_cons (pv 1) (pa_cons (pv 2) (pa_cons (pv 3) (pa_cons (pv 4) (pa_cons (pe_op op_sub (pv 5) pe_int) (pa_cons (pe_op op_add_str (pv 11) pe_str) pa_nil)))))))))
      (pss_cons (ps_set (i := 14) sc_lw_block.nd rfl (Or.inl rfl) (pe_call gb (hr.mono (by omega)) (by rfl) T.g_lw_block T.F_lw_block.kp T.b_lw_block .nil pass0 (pa_cons (pv 0) (pa_cons (pv 1) (pa_cons (pv 2) (pa_cons (pv 3) (pa_cons (pv 4) (pa_cons (pe_ix ix_list (pe_lst (pa_cons pe_int (pa_cons (pe_op op_sub (pv 5) pe_int) pa_nil))) (pe_op op_mod (pe_op op_fdiv (pv 9) pe_int) pe_int) (fun _ _ => rfl)) (pa_cons (pe_op op_add_str (pv 11) pe_str) pa_nil)))))))))
      (pss_one (ps_expr (pe_bm PySem.F.plainAttrs_list PySem.F.slot_list_append PySem.F.type_list_append mt_append (pv 7) (pa_cons (pe_tup (pa_cons pe_str (pa_cons (pe_call gi (hr.mono (by omega)) (by rfl) T.g_lw_int T.F_lw_int.kp T.b_lw_int .nil pass0 (pa_cons (pv 0) (pa_cons (pv 1) (pa_cons (pv 2) (pa_cons (pv 3) (pa_cons (pv 4) (pa_cons pe_int pa_nil))))))) (pa_cons (pv 13) (pa_cons (pv 14) pa_nil))))) pa_nil)))))) (pss_one (ps_if (PW.pt (pw_and (pt_cmpR op_eq (pv 10) pe_int (nomark _)) (pw_and1 (pt_cmpR op_gt (pv 5) pe_int (nomark _))))) (pss_cons (ps_expr (pe_bm PySem.F.plainAttrs_list PySem.F.slot_list_append PySem.F.type_list_append mt_append (pv 7) (pa_cons (pe_tup (pa_cons pe_str (pa_cons (pv 11) (pa_cons pe_str (pa_cons (pe_tup (pa_cons pe_str (pa_cons pe_int pa_nil))) pa_nil))))) pa_nil)))
      (pss_cons (ps_set (i := 15) sc_lw_block.nd rfl (Or.inl rfl) (pe_call gb (hr.mono (by omega)) (by rfl) T.g_lw_block T.F_lw_block.kp T.b_lw_block .nil pass0 (pa_cons (pv 0) (pa_cons (pv 1) (pa_cons (pv 2) (pa_cons (pv 3) (pa_cons (pe_callB (call_min2 rfl) (by rfl) T.g_min boot_min (pa_cons (pv 4) (pa_cons pe_int pa_nil))) (pa_cons (pe_op op_sub (pv 5) pe_int) (pa_cons (pe_op op_add_str (pv 11) pe_str) pa_nil)))))))))
      (pss_cons (ps_set (i := 16) sc_lw_block.nd rfl (Or.inl rfl) (pe_tup (pa_cons pe_str (pa_cons (pv 11) (pa_cons (pe_tup (pa_cons pe_str (pa_cons (pe_tup (pa_cons pe_str (pa_cons (pv 11) pa_nil))) (pa_cons (pe_tup (pa_cons pe_str (pa_cons pe_int pa_nil))) pa_nil)))) pa_nil)))))
      (pss_one (ps_expr (pe_bm PySem.F.plainAttrs_list PySem.F.slot_list_append PySem.F.type_list_append mt_append (pv 7) (pa_cons (pe_tup (pa_cons pe_str (pa_cons (pe_tup (pa_cons pe_str (pa_cons (pe_tup (pa_cons pe_str (pa_cons (pv 11) pa_nil))) (pa_cons (pe_tup (pa_cons pe_str (pa_cons (pe_op op_add pe_int (pe_op op_mod (pe_op op_fdiv (pv 9) pe_int) pe_int)) pa_nil))) pa_nil)))) (pa_cons (pe_op op_catA (pv 15) (pe_tup (pa_cons (pv 16) pa_nil))) pa_nil)))) pa_nil))))))) (pss_one (ps_if (pt_cmpR op_eq (pv 10) pe_int (nomark _)) (pss_one (ps_expr (pe_bm PySem.F.plainAttrs_list PySem.F.slot_list_append PySem.F.type_list_append mt_append (pv 7) (pa_cons (pe_tup (pa_cons pe_str (pa_cons (pe_call go (hr.mono (by omega)) (by rfl) T.g_lw_object T.F_lw_object.kp T.b_lw_object .nil pass0 (pa_cons (pv 0) (pa_cons (pv 1) (pa_cons (pv 2) (pa_cons (pv 3) (pa_cons (pv 4) (pa_cons pe_int pa_nil))))))) pa_nil))) pa_nil)))) (pss_one (ps_if (PW.pt (pw_and (pt_cmpR op_gt (pv 10) pe_int (nomark _)) (pw_and1 (pt_cmpR op_gt (pv 4) pe_int (nomark _))))) (pss_cons (ps_set (i := 17) sc_lw_block.nd rfl (Or.inl rfl) (pe_call gr (hr.mono (by omega)) (by rfl) T.g_lw_receiver T.F_lw_receiver.kp T.b_lw_receiver .nil pass0 (pa_cons (pv 0) (pa_cons (pv 1) (pa_cons (pv 2) (pa_cons (pv 3) (pa_cons pe_int (pa_cons pe_int pa_nil))))))))
      (pss_cons (ps_set (i := 18) sc_lw_block.nd rfl (Or.inl rfl) (pe_ix ix_list (pe_lst (pa_cons (pe_tup pa_nil) (pa_cons (pe_tup (pa_cons (pe_call gi (hr.mono (by omega)) (by rfl) T.g_lw_int T.F_lw_int.kp T.b_lw_int .nil pass0 (pa_cons (pv 0) (pa_cons (pv 1) (pa_cons (pv 2) (pa_cons (pv 3) (pa_cons pe_int (pa_cons pe_int pa_nil))))))) pa_nil)) (pa_cons (pe_tup (pa_cons (pe_tup (pa_cons pe_str pa_nil)) (pa_cons (pe_call gi (hr.mono (by omega)) (by rfl) T.g_lw_int T.F_lw_int.kp T.b_lw_int .nil pass0 (pa_cons (pv 0) (pa_cons (pv 1) (pa_cons (pv 2) (pa_cons (pv 3) (pa_cons pe_int (pa_cons pe_int pa_nil))))))) pa_nil))) pa_nil)))) (pe_op op_mod (pe_op op_fdiv (pv 9) pe_int) pe_int) (fun _ _ => rfl)))
      (pss_one (ps_expr (pe_bm PySem.F.plainAttrs_list PySem.F.slot_list_append PySem.F.type_list_append mt_append (pv 7) (pa_cons (pe_tup (pa_cons pe_str (pa_cons (pv 17) (pa_cons (pe_ix ix_list (pe_lst (pa_cons pe_str (pa_cons pe_str (pa_cons pe_str pa_nil)))) (pe_op op_mod (pe_op op_fdiv (pv 9) pe_int) pe_int) (fun _ _ => rfl)) (pa_cons (pv 18) pa_nil))))) pa_nil)))))) (pss_one (ps_if (PW.pt (pw_and (pt_cmpR op_eq (pv 10) pe_int (nomark _)) (pw_and1 (pt_cmpR op_gt (pe_callB call_len_seq (by rfl) T.g_len boot_len (pa_cons (pv 3) pa_nil)) pe_int (nomark _))))) (pss_one (ps_expr (pe_bm PySem.F.plainAttrs_list PySem.F.slot_list_append PySem.F.type_list_append mt_append (pv 7) (pa_cons (pe_tup (pa_cons pe_str (pa_cons (pe_call go (hr.mono (by omega)) (by rfl) T.g_lw_object T.F_lw_object.kp T.b_lw_object .nil pass0 (pa_cons (pv 0) (pa_cons (pv 1) (pa_cons (pv 2) (pa_cons (pv 3) (pa_cons (pv 4) (pa_cons pe_int pa_nil))))))) (pa_cons (pe_call gi (hr.mono (by omega)) (by rfl) T.g_lw_int T.F_lw_int.kp T.b_lw_int .nil pass0 (pa_cons (pv 0) (pa_cons (pv 1) (pa_cons (pv 2) (pa_cons (pv 3) (pa_cons pe_int (pa_cons pe_int pa_nil))))))) pa_nil)))) pa_nil)))) (pss_one (ps_expr (pe_bm PySem.F.plainAttrs_list PySem.F.slot_list_append PySem.F.type_list_append mt_append (pv 7) (pa_cons (pe_tup (pa_cons pe_str (pa_cons (pe_call gi (hr.mono (by omega)) (by rfl) T.g_lw_int T.F_lw_int.kp T.b_lw_int .nil pass0 (pa_cons (pv 0) (pa_cons (pv 1) (pa_cons (pv 2) (pa_cons (pv 3) (pa_cons (pv 4) (pa_cons pe_int pa_nil))))))) pa_nil))) pa_nil))))))))))))))))))))))))))
      (pss_one (ps_ret (pe_callTy call_tuple_of (by rfl) T.g_tuple boot_tuple (pa_cons (pv 7) pa_nil)))))), ?_⟩
  refine ⟨Nat.zero_le _, fun rw nrw => ?_⟩
  have l0 : Lp K H0 (upd H0 rw (.lst [])) nu c rw li0 lc0 is0 cs0 (is0 ++ fl cs0) many 0 .nil := ⟨ev0.keep (Keep.of (Cm.same_new nrw)) (ev0.g.new nrw), Keep.of (Cm.same_new nrw), nrw, ⟨[], upd_same, .nil, by simp⟩, ne_of_none ev0.ti nrw, ne_of_none ev0.tk nrw, fun x h => .inl h, fun x h => (nomatch h), Nat.zero_le _, Nat.zero_le _, rfl, rfl⟩
  refine ⟨_, rfl, (many : Int), rfl, by omega, by omega, ?_⟩
  rw [Int.toNat_natCast]
  refine for_range (fun i σ H => ∃ (li lc : Addr) (is cs : List Str) (b : Ss) (x8 x9 x10 x11 x12 x13 x14 x15 x16 x17 x18 x19 : Option V), σ = [some (.ref nu), some (.ref c), some (.ref li), some (.ref lc), some (.int level), some (.int many), some (.str mark), some (.ref rw), x8, x9, x10, x11, x12, x13, x14, x15, x16, x17, x18, x19] ∧ (is.length ≤ is0.length + i ∧ cs.length ≤ cs0.length + i) ∧ Lp K H0 H nu c rw li lc is cs (is0 ++ fl cs0) many i b)
    ⟨li0, lc0, is0, cs0, .nil, none, none, none, none, none, none, none, none, none, none, none, none, rfl, ⟨Nat.le_refl _, Nat.le_refl _⟩, l0⟩ (fun i σ H hi hp => ?_) fun σ H hp => ?_
  · obtain ⟨li, lc, is, cs, b, x8, x9, x10, x11, x12, x13, x14, x15, x16, x17, x18, x19, rfl, ⟨hil, hcl⟩, l⟩ := hp
    obtain ⟨dg1, dg2, dg3⟩ := dig i (by omega)
    have hM := succM i many
    have hM2 := Mb_big many
    -- pick, way, name
    refine ⟨_, rfl, _, rfl, nu, c, rfl, l.ev.g, fun H1 p hp g1 k1 => ?_⟩
    have l1 := l.keep k1 g1
    refine ⟨_, rfl, _, _, rfl, rfl, (by show (0 : Int) < 11; decide), ?_⟩
    refine ⟨_, rfl, _, rfl, _, rfl, dg3, _, _, rfl, rfl, Cm.small (by rw [dg1]; omega), ?_⟩
    generalize hnm : mark ++ Str.ofString (toString (0 + (i : Int))) = nm
    have nml : nm.length = mark.length + 1 := by rw [← hnm, str_app_len, dg1]
    have nmo : PyData.strOk nm = true := by
      rw [← hnm]
      exact strOk_app som dg2
    obtain ⟨vs, hr1, hv1, hl1⟩ := l1.rows
    have callE : ∀ {H2 : Hp} {lv : Int} {dd : Nat}, Ev K H2 nu c li lc is cs → dd < 3 → ∀ {Q2 : VK}, (∀ (H' : Hp) (v : V) (x : Pt.E), G K H' nu c → Keep c H2 H' → Rp K H' v x.d → OkE (is ++ fl cs) dd x → Q2 v H') →
      spE K 3 ([.ref nu, .ref c, .ref li, .ref lc, .int lv, .int (dd : Nat)] ++ []) H2 Q2 E0 := fun {H2 lv dd} e2 hd {Q2} h => ⟨nu, c, li, lc, is, cs, lv, dd, rfl, hd, e2, h⟩
    -- way < 2
    refine ⟨_, rfl, _, _, rfl, rfl, _, rfl, Cm.itD (fun _ => ?_) fun _ => ?_⟩
    · refine ⟨_, rfl, .inl ⟨rfl, _, SqL.of hr1⟩, _, rfl, _, rfl, _, rfl, _, rfl, _, rfl, _, rfl, callE (dd := 2) l1.ev (by decide) fun H2 v2 e2 g2 k2 r2 o2 => ⟨Cm.small (by show 4 ≤ 100000; decide), fun p3 np3 => ?_⟩⟩
      have l2 := l1.keep k2 g2
      have hr2 := rows_stay g1 k2 hr1 (dsRef hv1)
      have hv2 := hv1.keep (g1.tups k2)
      have s3 := Cm.same_new (o := .tup [.str "let", .str nm, .str "int", v2]) np3
      have osz := o2.sz
      have odp := o2.dp
      rw [le2] at osz
      have bsz := l.sz
      have l3 := (l2.same s3).push (z := i + 1) (s := .letS nm "int" e2) (s3 _ _ hr2) (hv2.keep (Same.tups s3)) (by omega) (made np3 (.cons (.str _) (.cons (.str _) (.cons (.str _) (.cons r2 .nil)))))
        (us_cons (.inr (.inr (List.mem_singleton.mpr rfl))) (l.eu o2)) (by show e2.dep + 1 ≤ many + 5; omega) (by show b.sz + (e2.sz + 1) ≤ _; omega) (lay4 (tx (by decide +kernel)) (tx nmo) (tx (by decide +kernel)) o2.lay) o2.wf
      refine ⟨rw, vs, _, rfl, rfl, s3 _ _ hr2, Cm.smallL (by omega), ?_⟩
      refine ⟨_, rfl, _, rfl, Cm.small (by show 1 ≤ 100000; decide), fun p4 np4 => ?_⟩
      have l4 := l3.same (Cm.same_new (o := .lst [.str nm]) np4)
      refine ⟨li, p4, _, _, rfl, rfl, l4.ev.ti, upd_same, Cm.small (by rw [List.length_map]; simp; omega), fun p5 np5 => ?_⟩
      exact ⟨p5, lc, is ++ [nm], cs, _, _, _, _, _, _, _, _, _, _, _, _, _, rfl, ⟨by rw [List.length_append, List.length_singleton]; omega, by omega⟩, l4.ints np5 (by rw [List.map_append]; rfl) (.inr snoc_let) nmo⟩
    -- way == 2
    refine ⟨_, rfl, rfl, _, rfl, Cm.itEI (fun _ => ?_) fun _ => ?_⟩
    · refine ⟨_, rfl, .inl ⟨rfl, _, SqL.of hr1⟩, _, rfl, _, rfl, _, rfl, _, rfl, _, rfl, _, rfl, callE (dd := 2) l1.ev (by decide) fun H2 v2 e2 g2 k2 r2 o2 => ⟨Cm.small (by show 4 ≤ 100000; decide), fun p3 np3 => ?_⟩⟩
      have l2 := l1.keep k2 g2
      have hr2 := rows_stay g1 k2 hr1 (dsRef hv1)
      have hv2 := hv1.keep (g1.tups k2)
      have s3 := Cm.same_new (o := .tup [.str "let", .str nm, .str "Cell", v2]) np3
      have osz := o2.sz
      have odp := o2.dp
      rw [le2] at osz
      have bsz := l.sz
      have l3 := (l2.same s3).push (z := i + 1) (s := .letS nm "Cell" e2) (s3 _ _ hr2) (hv2.keep (Same.tups s3)) (by omega) (made np3 (.cons (.str _) (.cons (.str _) (.cons (.str _) (.cons r2 .nil)))))
        (us_cons (.inr (.inr (List.mem_singleton.mpr rfl))) (l.eu o2)) (by show e2.dep + 1 ≤ many + 5; omega) (by show b.sz + (e2.sz + 1) ≤ _; omega) (lay4 (tx (by decide +kernel)) (tx nmo) (tx (by decide +kernel)) o2.lay) o2.wf
      refine ⟨rw, vs, _, rfl, rfl, s3 _ _ hr2, Cm.smallL (by omega), ?_⟩
      refine ⟨_, rfl, _, rfl, Cm.small (by show 1 ≤ 100000; decide), fun p4 np4 => ?_⟩
      have l4 := l3.same (Cm.same_new (o := .lst [.str nm]) np4)
      refine ⟨lc, p4, _, _, rfl, rfl, l4.ev.tk, upd_same, Cm.small (by rw [List.length_map]; simp; omega), fun p5 np5 => ?_⟩
      exact ⟨li, p5, is, cs ++ [nm], _, _, _, _, _, _, _, _, _, _, _, _, _, rfl, ⟨by omega, by rw [List.length_append, List.length_singleton]; omega⟩, l4.cells np5 (by rw [List.map_append]; rfl) (.inr snoc_let) nmo⟩
    -- way < 5 and len(ints) > 0
    refine (fun hE => ⟨_, rfl, _, _, rfl, rfl, _, rfl, Cm.itD (fun _ => ⟨_, rfl, li, _, rfl, .inl l1.ev.i, _, _, rfl, rfl, _, rfl, Cm.itD (fun n3 => ?_) fun _ => hE⟩) fun _ => hE⟩) ?_
    rotate_left
    · rw [List.length_map] at n3
      obtain ⟨x, hx, e⟩ := Cm.at_str (ws := is) (i := p / 11 % ((is.map V.str).length : Int)) (by rw [List.length_map]; exact Int.emod_nonneg _ (by omega)) (by rw [List.length_map]; exact Int.emod_lt_of_pos _ n3)
      refine ⟨_, rfl, .inl ⟨rfl, _, SqL.of hr1⟩, _, rfl, _, rfl, _, _, rfl, rfl, ⟨by decide, by decide⟩, .inl ⟨_, rfl, _, rfl, li, _, rfl, .inl l1.ev.i, _, _, rfl, rfl, (by rw [List.length_map]; exact n3), li, _, _, .str x, rfl, rfl, l1.ev.i, e, ?_⟩⟩
      refine ⟨_, rfl, _, rfl, _, rfl, _, rfl, _, rfl, callE (dd := 2) l1.ev (by decide) fun H2 v2 e2 g2 k2 r2 o2 => ⟨Cm.small (by show 3 ≤ 100000; decide), fun p3 np3 => ?_⟩⟩
      have l2 := l1.keep k2 g2
      have hr2 := rows_stay g1 k2 hr1 (dsRef hv1)
      have hv2 := hv1.keep (g1.tups k2)
      have s3 := Cm.same_new (o := .tup [.str "set", .str x, v2]) np3
      have osz := o2.sz
      have odp := o2.dp
      rw [le2] at osz
      have bsz := l.sz
      have l3 := (l2.same s3).push (z := i + 1) (s := .setS x e2) (s3 _ _ hr2) (hv2.keep (Same.tups s3)) (by omega) (made np3 (.cons (.str _) (.cons (.str _) (.cons r2 .nil))))
        (us_cons ((l.nm x (List.mem_append_left _ hx)).elim .inl fun h => .inr (.inl h)) (l.eu o2)) (by show e2.dep + 1 ≤ many + 5; omega) (by show b.sz + (e2.sz + 1) ≤ _; omega) (lay3 (tx (by decide +kernel)) (tx (l.ev.so x (List.mem_append_left _ hx))) o2.lay) o2.wf
      refine ⟨rw, vs, _, rfl, rfl, s3 _ _ hr2, Cm.smallL (by omega), ?_⟩
      exact ⟨li, lc, is, cs, _, _, _, _, _, _, _, _, _, _, _, _, _, rfl, ⟨by omega, by omega⟩, l3⟩
    -- way == 5 and len(own) > 0
    refine withRest (H1 := H1) (fun hE => ⟨_, rfl, rfl, _, rfl, Cm.itEI (fun _ => ⟨_, rfl, lc, rfl, ⟨_, l1.ev.k⟩, fun D hD => comp_own l1.ev.tk hD (by omega) (fun _ => rfl) (fun _ => rfl) fun H2 s2 hD2 => ⟨D, _, rfl, .inl (SqL.of hD2), _, _, rfl, rfl, _, rfl, Cm.itD (fun n3 => ?_) fun _ => hE H2 s2⟩⟩) fun _ => hE H1 (Same.refl H1)⟩) ?_
    · rw [List.length_map] at n3
      obtain ⟨x, hx, e⟩ := Cm.at_str (ws := fl cs) (i := p / 11 % (((fl cs).map V.str).length : Int)) (by rw [List.length_map]; exact Int.emod_nonneg _ (by omega)) (by rw [List.length_map]; exact Int.emod_lt_of_pos _ n3)
      refine ⟨_, rfl, lc, rfl, ⟨_, SqL.of (s2 _ _ l1.ev.tk)⟩, fun D2 nD2 => comp_own (s2 _ _ l1.ev.tk) nD2 (by omega) (fun _ => rfl) (fun _ => rfl) fun H3 s3 hD3 => ?_⟩
      have s23 := s2.trans s3
      have lA := l1.same s23
      have hrA := s23 _ _ hr1
      have hvA := hv1.keep (Same.tups s23)
      refine ⟨_, rfl, .inl ⟨rfl, _, SqL.of hrA⟩, _, rfl, _, rfl, _, _, rfl, rfl, ⟨by decide, by decide⟩, .inl ⟨_, rfl, _, rfl, D2, _, rfl, .inl (SqL.of hD3), _, _, rfl, rfl, (by rw [List.length_map]; exact n3), D2, _, _, .str x, rfl, rfl, SqL.of hD3, e, ?_⟩⟩
      refine ⟨_, rfl, _, rfl, _, rfl, _, rfl, _, rfl, callE (dd := 2) lA.ev (by decide) fun H4 v2 e2 g2 k2 r2 o2 => ⟨Cm.small (by show 3 ≤ 100000; decide), fun p3 np3 => ?_⟩⟩
      have l2 := lA.keep k2 g2
      have hr2 := rows_stay lA.ev.g k2 hrA (dsRef hvA)
      have hv2 := hvA.keep (lA.ev.g.tups k2)
      have s3 := Cm.same_new (o := .tup [.str "set", .str x, v2]) np3
      have osz := o2.sz
      have odp := o2.dp
      rw [le2] at osz
      have bsz := l.sz
      have hxc := fl_sub hx
      have l3 := (l2.same s3).push (z := i + 1) (s := .setS x e2) (s3 _ _ hr2) (hv2.keep (Same.tups s3)) (by omega) (made np3 (.cons (.str _) (.cons (.str _) (.cons r2 .nil))))
        (us_cons ((l.nm x (List.mem_append_right _ hx)).elim .inl fun h => .inr (.inl h)) (l.eu o2)) (by show e2.dep + 1 ≤ many + 5; omega) (by show b.sz + (e2.sz + 1) ≤ _; omega) (lay3 (tx (by decide +kernel)) (tx (l.ev.so x (List.mem_append_right _ hxc))) o2.lay) o2.wf
      refine ⟨rw, vs, _, rfl, rfl, s3 _ _ hr2, Cm.smallL (by omega), ?_⟩
      exact ⟨li, lc, is, cs, _, _, _, _, _, _, _, _, _, _, _, _, _, rfl, ⟨by omega, by omega⟩, l3⟩
    intro H2 s2
    replace l1 := l1.same s2
    replace hv1 := hv1.keep (Same.tups s2)
    replace hr1 := s2 _ _ hr1
    replace g1 := g1.same s2
    clear s2
    have bsz := l.sz
    have hCb : Mb many = 200 + 2 * Cb (many - 2) := rfl
    -- way == 6 and many > 1
    refine (fun hE => ⟨_, rfl, rfl, _, rfl, Cm.itEI (fun _ => ⟨_, rfl, _, _, rfl, rfl, _, rfl, Cm.itD (fun n3 => ?_) fun _ => hE⟩) fun _ => hE⟩) ?_
    rotate_left
    · obtain ⟨n2, hn2⟩ : ∃ n2, many = n2 + 2 := ⟨many - 2, by omega⟩
      have en2 : (many : Int) - 2 = (n2 : Int) := by omega
      have em2 : many - 2 = n2 := by omega
      rw [em2] at hCb
      refine ⟨_, rfl, _, rfl, _, rfl, _, rfl, _, rfl, _, rfl, _, _, rfl, rfl, _, rfl, _, _, rfl, rfl, Cm.small (by show nm.length + 1 ≤ 100000; omega), nu, c, li, lc, is, cs, level, n2, nm ++ "a", by rw [← en2] <;> rfl, by omega, l1.ev, by rw [str_app_len]; show nm.length + 1 + 2 * n2 ≤ 90; omega, strOk_app nmo (by decide +kernel), by omega, by omega, fun H3 v3 b3 g3 k3 r3 o3 => ?_⟩
      have lA := l1.keep k3 g3
      have hrA := rows_stay g1 k3 hr1 (dsRef hv1)
      have hvA := hv1.keep (g1.tups k3)
      refine ⟨_, rfl, _, rfl, _, rfl, _, rfl, _, rfl, _, rfl, _, _, rfl, rfl, Cm.small (by show 2 ≤ 100000; decide), fun p4 np4 => ?_⟩
      have s4 := Cm.same_new (o := .lst [.int 0, .int ((many : Int) - 2)]) np4
      obtain ⟨n4, hn4, e4⟩ : ∃ n4, n4 ≤ n2 ∧ atI [V.int 0, V.int ((many : Int) - 2)] (p / 11 % 2) = some (.int ((n4 : Nat) : Int)) := by
        rcases (by omega : p / 11 % 2 = 0 ∨ p / 11 % 2 = 1) with h | h
        · exact ⟨0, Nat.zero_le _, by rw [h]; rfl⟩
        · exact ⟨n2, Nat.le_refl _, by rw [h, en2]; rfl⟩
      have lB := lA.same s4
      have hC4 : Cb n4 ≤ Cb n2 := by
        rcases (by omega : p / 11 % 2 = 0 ∨ p / 11 % 2 = 1) with h | h
        · rw [h] at e4
          have e5 : (0 : Int) = (n4 : Int) := V.int.inj (Option.some.inj e4)
          have e6 : n4 = 0 := by omega
          rw [e6]
          exact Nat.zero_le _
        · rw [h] at e4
          have e5 : (many : Int) - 2 = (n4 : Int) := V.int.inj (Option.some.inj e4)
          have e6 : n4 = n2 := by omega
          rw [e6]
          exact Nat.le_refl _
      refine ⟨_, rfl, _, _, rfl, rfl, ⟨by decide, by decide⟩, _, _, rfl, rfl, (by show (0 : Int) < 2; decide), p4, _, _, .int (n4 : Int), rfl, rfl, Cm.sql_new, e4, ?_⟩
      refine ⟨_, rfl, _, _, rfl, rfl, Cm.small (by show nm.length + 1 ≤ 100000; omega), nu, c, li, lc, is, cs, level, n4, nm ++ "b", rfl, by omega, lB.ev, by rw [str_app_len]; show nm.length + 1 + 2 * n4 ≤ 90; omega, strOk_app nmo (by decide +kernel), by omega, by omega, fun H5 v5 b5 g5 k5 r5 o5 => ?_⟩
      have lC := lB.keep k5 g5
      have hrC := rows_stay lB.ev.g k5 (s4 _ _ hrA) (dsRef (hvA.keep (Same.tups s4)))
      have hvC := (hvA.keep (Same.tups s4)).keep (lB.ev.g.tups k5)
      have r3C := lB.ev.g.rp k5 (r3.keep (Same.tups s4))
      refine ⟨_, rfl, .inl ⟨rfl, _, SqL.of hrC⟩, _, rfl, _, rfl, _, rfl, _, rfl, _, rfl, callE (dd := 2) lC.ev (by decide) fun H6 v6 e6 g6 k6 r6 o6 => ?_⟩
      have lD := lC.keep k6 g6
      have hrD := rows_stay lC.ev.g k6 hrC (dsRef hvC)
      have hvD := hvC.keep (lC.ev.g.tups k6)
      refine ⟨_, rfl, _, rfl, Cm.small (by show 4 ≤ 100000; decide), fun p7 np7 => ?_⟩
      have s7 := Cm.same_new (o := .tup [.str "if", v6, v3, v5]) np7
      have osz := o6.sz
      have odp := o6.dp
      rw [le2] at osz
      have o3s := o3.sz
      have o5s := o5.sz
      have o3d := o3.dp
      have o5d := o5.dp
      have l3 := (lD.same s7).push (z := i + 1) (s := .ifS e6 b3 b5) (s7 _ _ hrD) (hvD.keep (Same.tups s7)) (by omega) (made np7 (.cons (.str _) (.cons r6 (.cons (lC.ev.g.rp k6 r3C) (.cons (lC.ev.g.rp k6 r5) .nil)))))
        (us_app (l.eu o6) (us_app (l.bu o3 fun x h => List.mem_append_left _ h) (l.bu o5 fun x h => List.mem_append_right _ h))) (by show max e6.dep (max b3.dep b5.dep) + 1 ≤ many + 5; omega)
        (by have := ifS_sz e6 b3 b5; omega) (lay4 (tx (by decide +kernel)) o6.lay o3.lay o5.lay) (and2 o6.wf (and2 o3.wf o5.wf))
      refine ⟨rw, vs, _, rfl, rfl, s7 _ _ hrD, Cm.smallL (by omega), ?_⟩
      exact ⟨li, lc, is, cs, _, _, _, _, _, _, _, _, _, _, _, _, _, rfl, ⟨by omega, by omega⟩, l3⟩
    -- way == 7 and many > 1
    refine (fun hE => ⟨_, rfl, rfl, _, rfl, Cm.itEI (fun _ => ⟨_, rfl, _, _, rfl, rfl, _, rfl, Cm.itD (fun n3 => ?_) fun _ => hE⟩) fun _ => hE⟩) ?_
    rotate_left
    · obtain ⟨n2, hn2⟩ : ∃ n2, many = n2 + 2 := ⟨many - 2, by omega⟩
      have en2 : (many : Int) - 2 = (n2 : Int) := by omega
      have em2 : many - 2 = n2 := by omega
      rw [em2] at hCb
      -- rows.append(("let", name, "int", ("int", 0)))
      refine ⟨_, rfl, .inl ⟨rfl, _, SqL.of hr1⟩, _, rfl, Cm.small (by show 2 ≤ 100000; decide), fun p3 np3 => ⟨Cm.small (by show 4 ≤ 100000; decide), fun p4 np4 => ?_⟩⟩
      have s3 := Cm.same_new (o := .tup [.str "int", .int 0]) np3
      have s4 := s3.trans (Cm.same_new (o := .tup [.str "let", .str nm, .str "int", .ref p3]) np4)
      have lA := (l1.same s4).push (z := i + 1) (s := .letS nm "int" (.int 0)) (s4 _ _ hr1) (hv1.keep (Same.tups s4)) (by omega) (made np4 (.cons (.str _) (.cons (.str _) (.cons (.str _) (.cons (made np3 (.cons (.str _) (.cons (.int _) .nil))) .nil)))))
        (us_cons (.inr (.inr (List.mem_singleton.mpr rfl))) us_nil) (by show 0 + 1 ≤ many + 5; omega) (by show b.sz + (1 + 1) ≤ _; omega) (lay4 (tx (by decide +kernel)) (tx nmo) (tx (by decide +kernel)) (lay2 (tx (by decide +kernel)) layI)) rfl
      refine ⟨rw, vs, _, rfl, rfl, s4 _ _ hr1, Cm.smallL (by omega), ?_⟩
      have hrA : (upd (upd (upd H2 p3 (.tup [.str "int", .int 0])) p4 (.tup [.str "let", .str nm, .str "int", .ref p3])) rw (.lst (vs ++ [.ref p4]))) rw = some (.lst (vs ++ [.ref p4])) := upd_same
      obtain ⟨vs', hrA', hvA, _⟩ := lA.rows
      obtain rfl : vs' = vs ++ [.ref p4] := (HO.lst.inj (Option.some.inj (hrA.symm.trans hrA'))).symm
      -- inner
      refine ⟨_, rfl, _, rfl, _, rfl, _, rfl, _, rfl, _, _, rfl, _, rfl, _, _, rfl, rfl, _, rfl, _, _, rfl, rfl, Cm.small (by show nm.length + 1 ≤ 100000; omega), nu, c, li, lc, is, cs, _, n2, nm ++ "w", by rw [← en2] <;> rfl, by omega, lA.ev, by rw [str_app_len]; show nm.length + 1 + 2 * n2 ≤ 90; omega, strOk_app nmo (by decide +kernel), by omega, by omega, fun H5 v5 b5 g5 k5 r5 o5 => ?_⟩
      have lB := lA.keep k5 g5
      have hrB := rows_stay lA.ev.g k5 hrA (dsRef hvA)
      have hvB := hvA.keep (lA.ev.g.tups k5)
      -- onward
      refine ⟨_, rfl, _, rfl, Cm.small (by show 2 ≤ 100000; decide), fun p6 np6 => ⟨Cm.small (by show 2 ≤ 100000; decide), fun p7 np7 => ⟨Cm.small (by show 3 ≤ 100000; decide), fun p8 np8 => ⟨Cm.small (by show 3 ≤ 100000; decide), fun p9 np9 => ?_⟩⟩⟩⟩
      have s9 := (((Cm.same_new np6).trans (Cm.same_new np7)).trans (Cm.same_new np8)).trans (Cm.same_new (o := .tup [.str "set", .str nm, .ref p8]) np9)
      have r6 := made (K := K) np6 (.cons (.str "name") (.cons (.str nm) .nil))
      have r7 := made (K := K) np7 (.cons (.str "int") (.cons (.int 1) .nil))
      have r8 := made (K := K) np8 (.cons (.str "add") (.cons (r6.keep (Same.tups (Cm.same_new np7))) (.cons r7 .nil)))
      have r9 := made (K := K) np9 (.cons (.str "set") (.cons (.str nm) (.cons r8 .nil)))
      have lC := lB.same s9
      have hrC := s9 _ _ hrB
      have hvC := hvB.keep (Same.tups s9)
      have r5C := r5.keep (Same.tups s9)
      -- rows.append(("while", ..))
      refine ⟨_, rfl, .inl ⟨rfl, _, SqL.of hrC⟩, _, rfl, Cm.small (by show 2 ≤ 100000; decide), fun p10 np10 => ?_⟩
      refine ⟨_, rfl, _, _, rfl, rfl, ⟨by decide, by decide⟩, _, _, rfl, rfl, (by show (0 : Int) < 3; decide), _, _, rfl, rfl, Cm.small (by show 2 ≤ 100000; decide), fun p11 np11 => ⟨Cm.small (by show 3 ≤ 100000; decide), fun p12 np12 => ?_⟩⟩
      have s12 := ((Cm.same_new np10).trans (Cm.same_new np11)).trans (Cm.same_new (o := .tup [.str "less", .ref p10, .ref p11]) np12)
      have r10 := made (K := K) np10 (.cons (.str "name") (.cons (.str nm) .nil))
      have r11 := made (K := K) np11 (.cons (.str "int") (.cons (.int (1 + p / 11 % 3)) .nil))
      have r12 := made (K := K) np12 (.cons (.str "less") (.cons (r10.keep (Same.tups (Cm.same_new np11))) (.cons r11 .nil)))
      refine ⟨_, rfl, _, rfl, Cm.small (by show 1 ≤ 100000; decide), fun p13 np13 => ?_⟩
      have s13 := s12.trans (Cm.same_new (o := .tup [.ref p9]) np13)
      have r13 := made (K := K) np13 (.cons (r9.keep (Same.tups s12)) .nil)
      have o5s := o5.sz
      have o5d := o5.dp
      refine cat_rp (r5C.keep (Same.tups s13)) r13 (by have := szB b5; have := cb8 n2 (by omega); show b5.ds.length + 1 ≤ 10000000; omega) fun v14 H14 s14 r14 => ⟨Cm.small (by show 3 ≤ 100000; decide), fun p15 np15 => ?_⟩
      have s15 := (s13.trans s14).trans (Cm.same_new (o := .tup [.str "while", .ref p12, v14]) np15)
      have s1314 := (Cm.same_new (o := .tup [.ref p9]) np13).trans s14
      refine ⟨rw, _, _, rfl, rfl, s15 _ _ hrC, Cm.smallL (by rw [List.length_append, List.length_singleton]; omega), ?_⟩
      have l3 := (lC.same s15).push (z := i + 1) (s := .whileS (.plain "less" (.cons (.name nm) (.cons (.int (1 + p / 11 % 3)) .nil))) (b5.app (.cons (.setS nm (.plain "add" (.cons (.name nm) (.cons (.int 1) .nil)))) .nil))) (s15 _ _ hrC) (hvC.keep (Same.tups s15)) (by rw [List.length_append, List.length_singleton]; omega)
        (made np15 (.cons (.str _) (.cons (r12.keep (Same.tups s1314)) (.cons (by rw [Ss.app_ds]; exact r14) .nil))))
        (us_app (us_cons (.inr (.inl snoc_let)) us_nil) (by
          rw [Ss.app_uses]
          exact us_app (lA.bu o5 fun x h => by
            show x ∈ (b5.app _).lets
            rw [Ss.app_lets]
            exact List.mem_append_left _ h) (us_cons (.inr (.inl snoc_let)) (us_cons (.inr (.inl snoc_let)) us_nil))))
        (by
          show max (max 0 (max 0 0) + 1) (b5.app _).dep + 1 ≤ many + 5
          rw [Ss.app_dep]
          show max (max 0 (max 0 0) + 1) (max b5.dep (max (max 0 (max 0 0) + 1 + 1) 0)) + 1 ≤ many + 5
          omega)
        (by
          rw [Ss.app_sz]
          show b.sz + (1 + 1 + 0) + (1 + (1 + 0) + 1 + (b5.app _).sz + 2) ≤ _
          rw [Ss.app_sz]
          show b.sz + (1 + 1 + 0) + (1 + (1 + 0) + 1 + (b5.sz + (1 + (1 + 0) + 1 + 1 + 0)) + 2) ≤ _
          omega)
        (lay3 (tx (by decide +kernel)) (lay3 (tx (by decide +kernel)) (lay2 (tx (by decide +kernel)) (tx nmo)) (lay2 (tx (by decide +kernel)) layI)) (lay_snoc o5.lay (lay3 (tx (by decide +kernel)) (tx nmo) (lay3 (tx (by decide +kernel)) (lay2 (tx (by decide +kernel)) (tx nmo)) (lay2 (tx (by decide +kernel)) layI))))) (wfW (and2 (goodW.in (n := 2) (x := "less") (by decide +kernel)) rfl) (by rw [Ss.app_wf]; exact and2 o5.wf (wfSs (show (S.setS nm (.plain "add" (.cons (.name nm) (.cons (.int 1) .nil)))).wf = true from and2 (goodW.in (n := 2) (x := "add") (by decide +kernel)) rfl) rfl)))
      exact ⟨li, lc, is, cs, _, _, _, _, _, _, _, _, _, _, _, _, _, rfl, ⟨by omega, by omega⟩, l3⟩
    -- way == 8
    refine ⟨_, rfl, rfl, _, rfl, Cm.itEI (fun _ => ?_) fun _ => ?_⟩
    · refine ⟨_, rfl, .inl ⟨rfl, _, SqL.of hr1⟩, _, rfl, _, rfl, _, rfl, _, rfl, _, rfl, callE (dd := 2) l1.ev (by decide) fun H4 v2 e2 g2 k2 r2 o2 => ⟨Cm.small (by show 2 ≤ 100000; decide), fun p3 np3 => ?_⟩⟩
      have l2 := l1.keep k2 g2
      have hr2 := rows_stay g1 k2 hr1 (dsRef hv1)
      have hv2 := hv1.keep (g1.tups k2)
      have s3 := Cm.same_new (o := .tup [.str "do", v2]) np3
      have osz := o2.sz
      have odp := o2.dp
      rw [le2] at osz
      have l3 := (l2.same s3).push (z := i + 1) (s := .doS e2) (s3 _ _ hr2) (hv2.keep (Same.tups s3)) (by omega) (made np3 (.cons (.str _) (.cons r2 .nil)))
        (l.eu o2) (by show e2.dep + 1 ≤ many + 5; omega) (by show b.sz + (e2.sz + 1) ≤ _; omega) (lay2 (tx (by decide +kernel)) o2.lay) o2.wf
      refine ⟨rw, vs, _, rfl, rfl, s3 _ _ hr2, Cm.smallL (by omega), ?_⟩
      exact ⟨li, lc, is, cs, _, _, _, _, _, _, _, _, _, _, _, _, _, rfl, ⟨by omega, by omega⟩, l3⟩
    -- way > 8 and level > 3
    refine (fun hE => ⟨_, rfl, _, _, rfl, rfl, _, rfl, Cm.itD (fun _ => ⟨_, rfl, _, _, rfl, rfl, _, rfl, Cm.itD (fun n3 => ?_) fun _ => hE⟩) fun _ => hE⟩) ?_
    rotate_left
    · refine ⟨_, rfl, _, rfl, _, rfl, _, rfl, callE (dd := 1) l1.ev (by decide) fun H3 v3 e3 g3 k3 r3 o3 => ?_⟩
      have lA := l1.keep k3 g3
      have hrA := rows_stay g1 k3 hr1 (dsRef hv1)
      have hvA := hv1.keep (g1.tups k3)
      refine ⟨Cm.small (by decide), fun p4 np4 => ?_⟩
      have s4 := Cm.same_new (o := .tup []) np4
      have r4 := made (K := K) np4 .nil
      have lB := lA.same s4
      refine ⟨_, rfl, _, rfl, _, rfl, _, rfl, callE (dd := 1) lB.ev (by decide) fun H5 v5 e5 g5 k5 r5 o5 => ⟨Cm.small (by show 1 ≤ 100000; decide), fun p6 np6 => ?_⟩⟩
      have s6 := Cm.same_new (o := .tup [v5]) np6
      have r6 := made (K := K) np6 (.cons r5 .nil)
      have lC := (lB.keep k5 g5).same s6
      refine ⟨Cm.small (by decide), fun p7 np7 => ?_⟩
      have s7 := Cm.same_new (o := .tup [.str "nil"]) np7
      have r7 := made (K := K) np7 (.cons (.str "nil") .nil)
      have lD := lC.same s7
      refine ⟨_, rfl, _, rfl, _, rfl, _, rfl, callE (dd := 1) lD.ev (by decide) fun H8 v8 e8 g8 k8 r8 o8 => ⟨Cm.small (by show 2 ≤ 100000; decide), fun p9 np9 => ?_⟩⟩
      have s9 := Cm.same_new (o := .tup [.ref p7, v8]) np9
      have r9 := made (K := K) np9 (.cons (lD.ev.g.rp k8 r7) (.cons r8 .nil))
      have lE := (lD.keep k8 g8).same s9
      refine ⟨Cm.small (by show 3 ≤ 100000; decide), fun p10 np10 => ?_⟩
      have s10 := Cm.same_new (o := .lst [.ref p4, .ref p6, .ref p9]) np10
      have lF := lE.same s10
      -- all that was made, at the last heap
      have hrB := s4 _ _ hrA
      have hvB := hvA.keep (Same.tups s4)
      have hrC := s6 _ _ (rows_stay lB.ev.g k5 hrB (dsRef hvB))
      have hvC := (hvB.keep (lB.ev.g.tups k5)).keep (Same.tups s6)
      have hrD := s7 _ _ hrC
      have hvD := hvC.keep (Same.tups s7)
      have hrF := s10 _ _ (s9 _ _ (rows_stay lD.ev.g k8 hrD (dsRef hvD)))
      have hvF := ((hvD.keep (lD.ev.g.tups k8)).keep (Same.tups s9)).keep (Same.tups s10)
      have up : ∀ {v : V} {d : PyData}, Rp K (upd H5 p6 (.tup [v5])) v d → Rp K (upd (upd H8 p9 (.tup [.ref p7, v8])) p10 (.lst [.ref p4, .ref p6, .ref p9])) v d := fun r => ((lD.ev.g.rp k8 (r.keep (Same.tups s7))).keep (Same.tups s9)).keep (Same.tups s10)
      have r4F := up ((lB.ev.g.rp k5 r4).keep (Same.tups s6))
      have r6F := up r6
      have r9F := r9.keep (Same.tups s10)
      have r3F := up ((lB.ev.g.rp k5 (r3.keep (Same.tups s4))).keep (Same.tups s6))
      have o3s := o3.sz
      have o3d := o3.dp
      have o5s := o5.sz
      have o5d := o5.dp
      have o8s := o8.sz
      have o8d := o8.dp
      rw [le1] at o3s o5s o8s
      obtain ⟨ag, pg, fw, eg, ef, rg, ug, dg, zg, yg, yf, wg⟩ : ∃ (ag : Es) (pg : Addr) (fw : Str), atI [V.ref p4, .ref p6, .ref p9] (p / 11 % 3) = some (.ref pg) ∧ atI ((["get", "put", "both"] : List Str).map V.str) (p / 11 % 3) = some (.str fw) ∧
          Rp K (upd (upd H8 p9 (.tup [.ref p7, v8])) p10 (.lst [.ref p4, .ref p6, .ref p9])) (.ref pg) (.tuple ag.ds) ∧ (∀ x ∈ ag.uses, x ∈ is ++ fl cs) ∧ ag.dep ≤ 4 ∧ ag.sz ≤ 50 ∧ (PyData.tuple ag.ds).canLay0 = true ∧ PyData.strOk fw = true ∧ ag.wf = true := by
        rcases (by omega : p / 11 % 3 = 0 ∨ p / 11 % 3 = 1 ∨ p / 11 % 3 = 2) with h | h | h
        · exact ⟨.nil, p4, "get", by rw [h]; rfl, by rw [h]; rfl, r4F, mem_nil, Nat.zero_le _, Nat.zero_le _, lay0, by decide +kernel, rfl⟩
        · exact ⟨.cons e5 .nil, p6, "put", by rw [h]; rfl, by rw [h]; rfl, r6F, mem_app o5.us mem_nil, by show max e5.dep 0 ≤ 4; omega, by show e5.sz + 0 ≤ 50; omega, lay1 o5.lay, by decide +kernel, and2 o5.wf rfl⟩
        · exact ⟨.cons (.plain "nil" .nil) (.cons e8 .nil), p9, "both", by rw [h]; rfl, by rw [h]; rfl, r9F, mem_app mem_nil (mem_app o8.us mem_nil), by show max (0 + 1) (max e8.dep 0) ≤ 4; omega, by show 0 + 1 + (e8.sz + 0) ≤ 50; omega, lay2 (lay1 (tx (by decide +kernel))) o8.lay, by decide +kernel, and2 (by decide +kernel) (and2 o8.wf rfl)⟩
      refine ⟨_, rfl, _, _, rfl, rfl, ⟨by decide, by decide⟩, _, _, rfl, rfl, (by show (0 : Int) < 3; decide), p10, _, _, .ref pg, rfl, rfl, Cm.sql_new, eg, ?_⟩
      -- rows.append(("fork", ..))
      refine ⟨_, rfl, .inl ⟨rfl, _, SqL.of hrF⟩, _, rfl, Cm.small (by decide), fun p11 np11 => ?_⟩
      have s11 := Cm.same_new (o := .lst ((["get", "put", "both"] : List Str).map V.str)) np11
      refine ⟨_, rfl, _, _, rfl, rfl, ⟨by decide, by decide⟩, _, _, rfl, rfl, (by show (0 : Int) < 3; decide), p11, _, _, .str fw, rfl, rfl, Cm.sql_new, ef, ?_⟩
      refine ⟨_, rfl, Cm.small (by show 4 ≤ 100000; decide), fun p12 np12 => ?_⟩
      have s12 := s11.trans (Cm.same_new (o := .tup [.str "fork", v3, .str fw, .ref pg]) np12)
      have l3 := (lF.same s12).push (z := i + 1) (s := .fork e3 fw ag) (s12 _ _ hrF) (hvF.keep (Same.tups s12)) (by omega) (made np12 (.cons (.str _) (.cons (r3F.keep (Same.tups s11)) (.cons (.str _) (.cons (rg.keep (Same.tups s11)) .nil)))))
        (us_app (l.eu o3) fun x hx => (l.nm x (ug x hx)).elim .inl fun h => .inr (.inl h)) (by show max e3.dep ag.dep + 1 ≤ many + 5; omega) (by show b.sz + (e3.sz + ag.sz + 1) ≤ _; omega) (lay4 (tx (by decide +kernel)) o3.lay (tx yf) yg) (and2 o3.wf wg)
      refine ⟨rw, vs, _, rfl, rfl, s12 _ _ hrF, Cm.smallL (by omega), ?_⟩
      exact ⟨li, lc, is, cs, _, _, _, _, _, _, _, _, _, _, _, _, _, rfl, ⟨by omega, by omega⟩, l3⟩
    -- way == 9 and len(cells) > 0
    refine (fun hE => ⟨_, rfl, rfl, _, rfl, Cm.itEI (fun _ => ⟨_, rfl, lc, _, rfl, .inl l1.ev.k, _, _, rfl, rfl, _, rfl, Cm.itD (fun n3 => ?_) fun _ => hE⟩) fun _ => hE⟩) ?_
    · refine ⟨_, rfl, .inl ⟨rfl, _, SqL.of hr1⟩, _, rfl, _, rfl, _, rfl, _, rfl, _, rfl, callE (dd := 2) l1.ev (by decide) fun H4 v2 e2 g2 k2 r2 o2 => ⟨Cm.small (by show 2 ≤ 100000; decide), fun p3 np3 => ?_⟩⟩
      have l2 := l1.keep k2 g2
      have hr2 := rows_stay g1 k2 hr1 (dsRef hv1)
      have hv2 := hv1.keep (g1.tups k2)
      have s3 := Cm.same_new (o := .tup [.str "print", v2]) np3
      have osz := o2.sz
      have odp := o2.dp
      rw [le2] at osz
      have l3 := (l2.same s3).push (z := i + 1) (s := .plain "print" (.cons e2 .nil)) (s3 _ _ hr2) (hv2.keep (Same.tups s3)) (by omega) (made np3 (.cons (.str _) (.cons r2 .nil)))
        (us_app (l.eu o2) us_nil) (by show max e2.dep 0 + 1 ≤ many + 5; omega) (by show b.sz + (e2.sz + 0 + 1) ≤ _; omega) (lay2 (tx (by decide +kernel)) o2.lay) (wfP (by decide +kernel) rfl (wfC o2.wf rfl))
      refine ⟨rw, vs, _, rfl, rfl, s3 _ _ hr2, Cm.smallL (by omega), ?_⟩
      exact ⟨li, lc, is, cs, _, _, _, _, _, _, _, _, _, _, _, _, _, rfl, ⟨by omega, by omega⟩, l3⟩
    · refine ⟨_, rfl, .inl ⟨rfl, _, SqL.of hr1⟩, _, rfl, _, rfl, _, rfl, _, rfl, _, rfl, callE (dd := 1) l1.ev (by decide) fun H4 v2 e2 g2 k2 r2 o2 => ?_⟩
      have l2 := l1.keep k2 g2
      have hr2 := rows_stay g1 k2 hr1 (dsRef hv1)
      have hv2 := hv1.keep (g1.tups k2)
      refine ⟨_, rfl, _, rfl, _, rfl, _, rfl, callE (dd := 1) l2.ev (by decide) fun H5 v5 e5 g5 k5 r5 o5 => ⟨Cm.small (by show 3 ≤ 100000; decide), fun p3 np3 => ?_⟩⟩
      have lB := l2.keep k5 g5
      have hrB := rows_stay l2.ev.g k5 hr2 (dsRef hv2)
      have hvB := hv2.keep (l2.ev.g.tups k5)
      have s3 := Cm.same_new (o := .tup [.str "move", v2, v5]) np3
      have o2s := o2.sz
      have o2d := o2.dp
      have o5s := o5.sz
      have o5d := o5.dp
      rw [le1] at o2s o5s
      have l3 := (lB.same s3).push (z := i + 1) (s := .plain "move" (.cons e2 (.cons e5 .nil))) (s3 _ _ hrB) (hvB.keep (Same.tups s3)) (by omega) (made np3 (.cons (.str _) (.cons (l2.ev.g.rp k5 r2) (.cons r5 .nil))))
        (us_app (l.eu o2) (us_app (l.eu o5) us_nil)) (by show max e2.dep (max e5.dep 0) + 1 ≤ many + 5; omega) (by show b.sz + (e2.sz + (e5.sz + 0) + 1) ≤ _; omega) (lay3 (tx (by decide +kernel)) o2.lay o5.lay) (wfP (by decide +kernel) rfl (wfC o2.wf (wfC o5.wf rfl)))
      refine ⟨rw, vs, _, rfl, rfl, s3 _ _ hrB, Cm.smallL (by omega), ?_⟩
      exact ⟨li, lc, is, cs, _, _, _, _, _, _, _, _, _, _, _, _, _, rfl, ⟨by omega, by omega⟩, l3⟩
  · obtain ⟨li, lc, is, cs, b, x8, x9, x10, x11, x12, x13, x14, x15, x16, x17, x18, x19, rfl, _, l⟩ := hp
    obtain ⟨vs, h1, h2, h3⟩ := l.rows
    refine ⟨_, rfl, rw, vs, rfl, .inl ⟨SqL.of h1, fun p np => ?_⟩⟩
    exact q _ _ b (l.ev.g.new np) (keep_new l.kp np) (made np h2) ⟨l.us, l.dp, by rw [Cb_eq]; exact l.sz, l.lay, l.wf⟩
theorem ok_block (T : Txt K mg w a) : ∀ m : Nat, m ≤ 9 → FnOk P w K mg base CX0 (9 + m) (He.ga K "_law_block") a.d_lw_block ps7 (spB K m)
  | 0, _ => vac fun vs H Q E h => by
    obtain ⟨_, _, _, _, _, _, _, many, _, _, hd, _⟩ := h
    exact absurd hd (Nat.not_lt_zero many)
  | m + 1, hm => step_block T m (by omega) (ok_block T m (by omega))
/-! ### the generator: makers, the interface, the program -/
structure MkD where
  nm : Str
  b1 : Bool
  b2 : Bool
  i : Int
  get : Ss
  put : Ss
  link : Ss
  both : Ss
def parT (b : Bool) (x k : Str) : PyData := .tuple [.bool b, .str x, .str k]
def fldT (b : Bool) (x k : Str) (i : Int) : PyData := .tuple [.bool b, .str x, .str k, .int i]
def pr (x k : Str) : PyData := .tuple [.str x, .str k]
def opT (x : Str) (ps : List PyData) (k : Str) (b : Ss) : PyData := .tuple [.str x, .tuple ps, .str k, .tuple b.ds]
def MkD.pars (m : MkD) : List PyData := [parT m.b1 "o" "Cell", parT false "n" "int"]
def MkD.flds (m : MkD) : List PyData := [fldT m.b2 "p" "Cell" 0, fldT false "m" "int" m.i]
def MkD.rows (m : MkD) : List PyData := [opT "get" [] "int" m.get, opT "put" [pr "v" "int"] "int" m.put, opT "link" [pr "c" "Cell"] "Cell" m.link, opT "both" [pr "c" "Cell", pr "v" "int"] "int" m.both]
def MkD.d (m : MkD) : PyData := .tuple [.str m.nm, .tuple m.pars, .tuple m.flds, .tuple m.rows]
/-- a whole block: names, bounds -/
structure OkP (N : List Str) (b : Ss) : Prop where
  us : ∀ x ∈ b.uses, x ∈ N ∨ x ∈ b.lets
  dp : b.dep ≤ 12
  sz : b.sz ≤ 5000
  lay : PyData.canLayAll0 b.ds = true
  wf : b.wf = true
  ret : ∃ (b0 : Ss) (e : E), b = b0.app (.cons (.plain "return" (.cons e .nil)) .nil)
abbrev fieldS : List Str := ["o", "n", "p", "m"]
structure MkD.Ok (m : MkD) : Prop where
  get : OkP fieldS m.get
  put : OkP ("v" :: fieldS) m.put
  link : OkP ("c" :: fieldS) m.link
  both : OkP ("c" :: "v" :: fieldS) m.both
def spMaker (K : PySem.W.Frag) : Sp := fun vs H Q _ => ∃ (nu c : Addr) (nm : Str), vs = [.ref nu, .ref c, .str nm] ∧ G K H nu c ∧ ∀ (H' : Hp) (v : V) (m : MkD), G K H' nu c → Keep c H H' → Rp K H' v m.d → m.Ok → m.nm = nm → Q v H'
theorem cb4 : Cb 0 = 0 ∧ Cb 1 = 200 ∧ Cb 2 = 400 ∧ Cb 3 = 1800 ∧ Cb 4 = 4000 := by decide
theorem OkP.mono {N N' : List Str} {b : Ss} (o : OkP N b) (h : ∀ x ∈ N, x ∈ N') : OkP N' b := ⟨fun x hx => (o.us x hx).imp (h x) id, o.dp, o.sz, o.lay, o.wf, o.ret⟩
def goodB (x : Str) : Bool := PyData.strOk x && (decide (x ∈ plainB) && decide (1 = arB x))
theorem goodB.so {x : Str} (h : goodB x = true) : PyData.strOk x = true := (Bool.and_eq_true_iff.mp h).1
theorem goodB.in {x : Str} (h : goodB x = true) : (decide (x ∈ plainB) && decide (1 = arB x)) = true := (Bool.and_eq_true_iff.mp h).2
theorem okP_snoc {N N1 N2 : List Str} {m d : Nat} {b : Ss} {w : Str} {e : E} (o : OkB N1 m b) (oe : OkE N2 d e) (h1 : ∀ x ∈ N1, x ∈ N) (h2 : ∀ x ∈ N2, x ∈ N) (hm : m ≤ 4) (hd : d ≤ 2) (so : goodB w = true) (hw : w = "return" := by rfl) : OkP N (b.app (.cons (.plain w (.cons e .nil)) .nil)) := by
  have hs := o.sz
  have hp := o.dp
  have es := oe.sz
  have ep := oe.dp
  have c4 := cb4
  have hz : 10 * 4 ^ d ≤ 160 := by
    match d, hd with
    | 0, _ => decide
    | 1, _ => decide
    | 2, _ => decide
  have hb : Cb m ≤ 4000 := by
    match m, hm with
    | 0, _ => decide
    | 1, _ => decide
    | 2, _ => decide
    | 3, _ => decide
    | 4, _ => decide
  refine ⟨fun x hx => ?_, ?_, ?_, lay_snoc o.lay (lay2 (tx (goodB.so so)) oe.lay), by rw [Ss.app_wf]; exact and2 o.wf (and2 (and2 (goodB.in so) (and2 oe.wf rfl)) rfl), ⟨b, e, by rw [hw]⟩⟩
  · rw [Ss.app_uses] at hx
    rw [Ss.app_lets]
    rcases List.mem_append.mp hx with h | h
    · rcases o.us x h with h | h
      · exact .inl (h1 x h)
      · exact .inr (List.mem_append_left _ h)
    · have h' : x ∈ (e.uses ++ []) ++ [] := h
      rw [List.append_nil, List.append_nil] at h'
      exact .inl (h2 x (oe.us x h'))
  · rw [Ss.app_dep]
    show max b.dep (max (max e.dep 0 + 1) 0) ≤ 12
    omega
  · rw [Ss.app_sz]
    show b.sz + (e.sz + 0 + 1 + 0) ≤ 5000
    omega
theorem okP_two {N N1 N2 : List Str} {d d2 : Nat} {x w : Str} {e e2 : E} (h0 : x ∈ N) (sx : PyData.strOk x = true) (o : OkE N1 d e) (h1 : ∀ x ∈ N1, x ∈ N) (o2 : OkE N2 d2 e2) (h2 : ∀ x ∈ N2, x ∈ N) (hd : d ≤ 2) (hd2 : d2 ≤ 2) (so : goodB w = true) (hw : w = "return" := by rfl) :
    OkP N (.cons (.setS x e) (.cons (.plain w (.cons e2 .nil)) .nil)) := by
  have es := o.sz
  have ep := o.dp
  have es2 := o2.sz
  have ep2 := o2.dp
  have hz : ∀ d : Nat, d ≤ 2 → 10 * 4 ^ d ≤ 160 := by
    intro d hd
    match d, hd with
    | 0, _ => decide
    | 1, _ => decide
    | 2, _ => decide
  have z1 := hz d hd
  have z2 := hz d2 hd2
  refine ⟨fun y hy => ?_, ?_, ?_, ?_, and2 o.wf (and2 (and2 (goodB.in so) (and2 o2.wf rfl)) rfl), ⟨.cons (.setS x e) .nil, e2, by rw [hw]; rfl⟩⟩
  · have h' : y ∈ (x :: e.uses) ++ ((e2.uses ++ []) ++ []) := hy
    rw [List.append_nil, List.append_nil] at h'
    rcases List.mem_append.mp h' with h | h
    · rcases List.mem_cons.mp h with rfl | h
      · exact .inl h0
      · exact .inl (h1 y (o.us y h))
    · exact .inl (h2 y (o2.us y h))
  · show max (e.dep + 1) (max (max e2.dep 0 + 1) 0) ≤ 12
    omega
  · show e.sz + 1 + (e2.sz + 0 + 1 + 0) ≤ 5000
    omega
  · have l1 : (S.setS x e).d.canLay0 = true := lay3 (tx (by decide +kernel)) (tx sx) o.lay
    have l2 : (S.plain w (.cons e2 .nil)).d.canLay0 = true := lay2 (tx (goodB.so so)) o2.lay
    show PyData.canLayAll0 [(S.setS x e).d, (S.plain w (.cons e2 .nil)).d] = true
    simp only [PyData.canLayAll0, l1, l2, Bool.and_true]
theorem made1 {K : PySem.W.Frag} {H : Hp} {p : Addr} {v : V} {d : PyData} (np : H p = none) (r : Rp K H v d) : Rp K (upd H p (.tup [v])) (.ref p) (.tuple [d]) := made np (.cons r .nil)
theorem Ev.moreI {K : PySem.W.Frag} {H : Hp} {nu c li lc p : Addr} {is cs : List Str} {x : Str} {vs : List V} (e : Ev K H nu c li lc is cs) (np : H p = none) (ev : vs = (is ++ [x]).map V.str) (so : PyData.strOk x = true) : Ev K (upd H p (.lst vs)) nu c p lc (is ++ [x]) cs := by
  have s := Cm.same_new (o := .lst vs) np
  refine ⟨e.g.same s, by rw [upd_same, ev], s _ _ e.tk, fun y hy => ?_⟩
  simp only [List.mem_append, List.mem_singleton] at hy
  rcases hy with (h | h) | h
  · exact e.so y (List.mem_append_left _ h)
  · rw [h]
    exact so
  · exact e.so y (List.mem_append_right _ h)
theorem Ev.moreC {K : PySem.W.Frag} {H : Hp} {nu c li lc p : Addr} {is cs : List Str} {x : Str} {vs : List V} (e : Ev K H nu c li lc is cs) (np : H p = none) (ev : vs = (cs ++ [x]).map V.str) (so : PyData.strOk x = true) : Ev K (upd H p (.lst vs)) nu c li p is (cs ++ [x]) := by
  have s := Cm.same_new (o := .lst vs) np
  refine ⟨e.g.same s, s _ _ e.ti, by rw [upd_same, ev], fun y hy => ?_⟩
  simp only [List.mem_append, List.mem_singleton] at hy
  rcases hy with h | h | h
  · exact e.so y (List.mem_append_left _ h)
  · exact e.so y (List.mem_append_right _ h)
  · rw [h]
    exact so
abbrev isN : List Str := ["n", "m"]
abbrev csN : List Str := ["o", "p", "self"]
abbrev vN : List Str := ["v"]
abbrev cN : List Str := ["c"]
theorem n_get : ∀ x ∈ isN ++ fl csN, x ∈ fieldS := by decide +kernel
theorem n_put : ∀ x ∈ (isN ++ vN) ++ fl csN, x ∈ ("v" :: fieldS : List Str) := by decide +kernel
theorem n_link : ∀ x ∈ isN ++ fl (csN ++ cN), x ∈ ("c" :: fieldS : List Str) := by decide +kernel
theorem n_both : ∀ x ∈ (isN ++ vN) ++ fl (csN ++ cN), x ∈ ("c" :: "v" :: fieldS : List Str) := by decide +kernel
theorem so_all : ∀ x ∈ isN ++ csN, PyData.strOk x = true := by decide +kernel
theorem ok_add : OkE ["n", "v"] 1 (.plain "add" (.cons (.name "n") (.cons (.name "v") .nil))) := ok_bin (ok_name (by decide +kernel) (by decide +kernel)) (ok_name (by decide +kernel) (by decide +kernel)) (by decide +kernel)
theorem n_nv : ∀ x ∈ (["n", "v"] : List Str), x ∈ ("v" :: fieldS : List Str) := by decide +kernel
theorem ok_c : OkE ["c"] 0 (.name "c") := ok_name (by decide +kernel) (by decide +kernel)
theorem n_c : ∀ x ∈ (["c"] : List Str), x ∈ ("c" :: fieldS : List Str) := by decide +kernel
theorem ok_lw_maker (T : Txt K mg w a) : FnOk P w K mg base CX0 13 (He.ga K "_law_maker") a.d_lw_maker ["numbers", "at", "name"] (spMaker K) := by
  obtain ⟨gi, go, _⟩ := ok_E (P := P) (w := w) (base := base) T 3 (by decide)
  have gb := ok_block (P := P) (w := w) (base := base) T 3 (by decide)
  refine T.F_lw_maker.ok sc_lw_maker (fun vs H Q E h => ?_) (fun cdv A outer s H0 vs Q E hr h => ?_)
  · obtain ⟨nu, c, nm, rfl, _⟩ := h
    rfl
  obtain ⟨nu, c, nm, rfl, g0, q⟩ := h
  refine ⟨_, PSs.nox (pss_cons (ps_set (i := 3) sc_lw_maker.nd rfl (Or.inl rfl) (pe_call (ok_lw_pick T) (hr.mono (by omega)) (by rfl) T.g_lw_pick T.F_lw_pick.kp T.b_lw_pick .nil pass0 (pa_cons (pv 0) (pa_cons (pv 1) pa_nil))))
      (pss_cons (ps_set (i := 4) sc_lw_maker.nd rfl (Or.inl rfl) (pe_tup (pa_cons (pe_tup (pa_cons (pe_cmpR op_eq (pe_op op_mod (pv 3) pe_int) pe_int (nomark _)) (pa_cons pe_str (pa_cons pe_str pa_nil)))) (pa_cons (pe_tup (pa_cons pe_bl (pa_cons pe_str (pa_cons pe_str pa_nil)))) pa_nil))))
      (pss_cons (ps_set (i := 5) sc_lw_maker.nd rfl (Or.inl rfl) (pe_tup (pa_cons (pe_tup (pa_cons (pe_cmpR op_eq (pe_op op_mod (pe_op op_fdiv (pv 3) pe_int) pe_int) pe_int (nomark _)) (pa_cons pe_str (pa_cons pe_str (pa_cons pe_int pa_nil))))) (pa_cons (pe_tup (pa_cons pe_bl (pa_cons pe_str (pa_cons pe_str (pa_cons (pe_op op_sub (pe_op op_mod (pe_op op_fdiv (pv 3) pe_int) pe_int) pe_int) pa_nil))))) pa_nil))))
      (pss_cons (ps_set (i := 6) sc_lw_maker.nd rfl (Or.inl rfl) (pe_lst (pa_cons pe_str (pa_cons pe_str pa_nil))))
      (pss_cons (ps_set (i := 7) sc_lw_maker.nd rfl (Or.inl rfl) (pe_lst (pa_cons pe_str (pa_cons pe_str (pa_cons pe_str pa_nil)))))
      (pss_cons (ps_set (i := 8) sc_lw_maker.nd rfl (Or.inl rfl) (pe_op op_catA (pe_call gb (hr.mono (by omega)) (by rfl) T.g_lw_block T.F_lw_block.kp T.b_lw_block .nil pass0 (pa_cons (pv 0) (pa_cons (pv 1) (pa_cons (pv 6) (pa_cons (pv 7) (pa_cons pe_int (pa_cons pe_int (pa_cons pe_str pa_nil)))))))) (pe_tup (pa_cons (pe_tup (pa_cons pe_str (pa_cons (pe_call gi (hr.mono (by omega)) (by rfl) T.g_lw_int T.F_lw_int.kp T.b_lw_int .nil pass0 (pa_cons (pv 0) (pa_cons (pv 1) (pa_cons (pv 6) (pa_cons (pv 7) (pa_cons pe_int (pa_cons pe_int pa_nil))))))) pa_nil))) pa_nil))))
      (pss_cons (ps_set (i := 9) sc_lw_maker.nd rfl (Or.inl rfl) (pe_tup (pa_cons (pe_tup (pa_cons pe_str (pa_cons pe_str (pa_cons (pe_call gi (hr.mono (by omega)) (by rfl) T.g_lw_int T.F_lw_int.kp T.b_lw_int .nil pass0 (pa_cons (pv 0) (pa_cons (pv 1) (pa_cons (pe_op op_cat (pv 6) (pe_lst (pa_cons pe_str pa_nil))) (pa_cons (pv 7) (pa_cons pe_int (pa_cons pe_int pa_nil))))))) pa_nil)))) (pa_cons (pe_tup (pa_cons pe_str (pa_cons (pe_tup (pa_cons pe_str (pa_cons (pe_tup (pa_cons pe_str (pa_cons pe_str pa_nil))) (pa_cons (pe_tup (pa_cons pe_str (pa_cons pe_str pa_nil))) pa_nil)))) pa_nil))) pa_nil))))
      (pss_cons (ps_set (i := 10) sc_lw_maker.nd rfl (Or.inl rfl) (pe_tup (pa_cons (pe_tup (pa_cons pe_str (pa_cons (pe_ix ix_list (pe_lst (pa_cons pe_str (pa_cons pe_str pa_nil))) (pe_op op_mod (pe_op op_fdiv (pv 3) pe_int) pe_int) (fun _ _ => rfl)) (pa_cons (pe_tup (pa_cons pe_str (pa_cons pe_str pa_nil))) pa_nil)))) (pa_cons (pe_tup (pa_cons pe_str (pa_cons (pe_call go (hr.mono (by omega)) (by rfl) T.g_lw_object T.F_lw_object.kp T.b_lw_object .nil pass0 (pa_cons (pv 0) (pa_cons (pv 1) (pa_cons (pv 6) (pa_cons (pe_op op_cat (pv 7) (pe_lst (pa_cons pe_str pa_nil))) (pa_cons pe_int (pa_cons pe_int pa_nil))))))) pa_nil))) pa_nil))))
      (pss_cons (ps_set (i := 11) sc_lw_maker.nd rfl (Or.inl rfl) (pe_call gb (hr.mono (by omega)) (by rfl) T.g_lw_block T.F_lw_block.kp T.b_lw_block .nil pass0 (pa_cons (pv 0) (pa_cons (pv 1) (pa_cons (pe_op op_cat (pv 6) (pe_lst (pa_cons pe_str pa_nil))) (pa_cons (pe_op op_cat (pv 7) (pe_lst (pa_cons pe_str pa_nil))) (pa_cons pe_int (pa_cons pe_int (pa_cons pe_str pa_nil)))))))))
      (pss_cons (ps_set (i := 11) sc_lw_maker.nd rfl (Or.inl rfl) (pe_op op_catA (pv 11) (pe_tup (pa_cons (pe_tup (pa_cons pe_str (pa_cons (pe_call gi (hr.mono (by omega)) (by rfl) T.g_lw_int T.F_lw_int.kp T.b_lw_int .nil pass0 (pa_cons (pv 0) (pa_cons (pv 1) (pa_cons (pe_op op_cat (pv 6) (pe_lst (pa_cons pe_str pa_nil))) (pa_cons (pe_op op_cat (pv 7) (pe_lst (pa_cons pe_str pa_nil))) (pa_cons pe_int (pa_cons pe_int pa_nil))))))) pa_nil))) pa_nil))))
      (pss_cons (ps_set (i := 12) sc_lw_maker.nd rfl (Or.inl rfl) (pe_tup (pa_cons (pe_tup (pa_cons pe_str (pa_cons (pe_tup pa_nil) (pa_cons pe_str (pa_cons (pv 8) pa_nil))))) (pa_cons (pe_tup (pa_cons pe_str (pa_cons (pe_tup (pa_cons (pe_tup (pa_cons pe_str (pa_cons pe_str pa_nil))) pa_nil)) (pa_cons pe_str (pa_cons (pv 9) pa_nil))))) (pa_cons (pe_tup (pa_cons pe_str (pa_cons (pe_tup (pa_cons (pe_tup (pa_cons pe_str (pa_cons pe_str pa_nil))) pa_nil)) (pa_cons pe_str (pa_cons (pv 10) pa_nil))))) (pa_cons (pe_tup (pa_cons pe_str (pa_cons (pe_tup (pa_cons (pe_tup (pa_cons pe_str (pa_cons pe_str pa_nil))) (pa_cons (pe_tup (pa_cons pe_str (pa_cons pe_str pa_nil))) pa_nil))) (pa_cons pe_str (pa_cons (pv 11) pa_nil))))) pa_nil))))))
      (pss_one (ps_ret (pe_tup (pa_cons (pv 2) (pa_cons (pv 4) (pa_cons (pv 5) (pa_cons (pv 12) pa_nil)))))))))))))))))), ?_⟩
  refine ⟨_, rfl, _, rfl, nu, c, rfl, g0, fun H1 p hp g1 k1 => ?_⟩
  -- params, fields
  refine ⟨_, rfl, _, _, rfl, rfl, (by show (0 : Int) < 2; decide), rfl, Cm.small (by show 3 ≤ 100000; decide), fun p2 np2 => ⟨Cm.small (by show 3 ≤ 100000; decide), fun p3 np3 => ⟨Cm.small (by show 2 ≤ 100000; decide), fun p4 np4 => ?_⟩⟩⟩
  have rP2 := made (K := K) np2 (.cons (.bl (decide (V.int (p % 2) = V.int 0))) (.cons (.str "o") (.cons (.str "Cell") .nil)))
  have rP3 := made (K := K) np3 (.cons (.bl false) (.cons (.str "n") (.cons (.str "int") .nil)))
  have rP := made (K := K) np4 (.cons (rP2.keep (Same.tups (Cm.same_new np3))) (.cons rP3 .nil))
  have s4 := (Cm.same_new np2).trans ((Cm.same_new np3).trans (Cm.same_new (o := .tup [.ref p2, .ref p3]) np4))
  refine ⟨_, rfl, _, _, rfl, rfl, ⟨by decide, by decide⟩, _, _, rfl, rfl, (by show (0 : Int) < 2; decide), rfl, Cm.small (by show 4 ≤ 100000; decide), fun p5 np5 => ?_⟩
  refine ⟨_, rfl, _, _, rfl, rfl, ⟨by decide, by decide⟩, _, _, rfl, rfl, (by show (0 : Int) < 9; decide), _, _, rfl, rfl, Cm.small (by show 4 ≤ 100000; decide), fun p6 np6 => ⟨Cm.small (by show 2 ≤ 100000; decide), fun p7 np7 => ?_⟩⟩
  have rF5 := made (K := K) np5 (.cons (.bl (decide (V.int (p / 2 % 2) = V.int 0))) (.cons (.str "p") (.cons (.str "Cell") (.cons (.int 0) .nil))))
  have rF6 := made (K := K) np6 (.cons (.bl false) (.cons (.str "m") (.cons (.str "int") (.cons (.int (p / 4 % 9 - 4)) .nil))))
  have rF := made (K := K) np7 (.cons (rF5.keep (Same.tups (Cm.same_new np6))) (.cons rF6 .nil))
  have s7 := (Cm.same_new np5).trans ((Cm.same_new np6).trans (Cm.same_new (o := .tup [.ref p5, .ref p6]) np7))
  -- ints, cells
  refine ⟨Cm.small (by show 2 ≤ 100000; decide), fun li nli => ⟨Cm.small (by show 3 ≤ 100000; decide), fun lc nlc => ?_⟩⟩
  have s9 := (Cm.same_new nli).trans (Cm.same_new (o := .lst [.str "o", .str "p", .str "self"]) nlc)
  have sA := (s4.trans s7).trans s9
  have k9 := k1.trans (Keep.of sA)
  have R : Rps K _ _ _ := .cons (rP.keep (Same.tups (s7.trans s9))) (.cons (rF.keep (Same.tups s9)) .nil)
  have ev : Ev K _ nu c li lc isN csN := ⟨g1.same sA, (by rw [upd_ne (ne_of_none upd_same nlc)]; exact upd_same), upd_same, so_all⟩
  -- get
  refine ⟨_, rfl, _, rfl, _, rfl, _, rfl, nu, c, li, lc, _, _, 0, 1, "g", rfl, by decide, ev, by decide +kernel, by decide +kernel, by decide, by decide, fun H10 v10 b10 g10 k10 r10 o10 => ?_⟩
  have ev10 := ev.keep k10 g10
  have R10 := R.keep (ev.g.tups k10)
  refine ⟨_, rfl, _, rfl, _, rfl, _, rfl, nu, c, li, lc, _, _, 0, 2, rfl, by decide, ev10, fun H11 v11 e11 g11 k11 r11 o11 => ⟨Cm.small (by show 2 ≤ 100000; decide), fun p12 np12 => ⟨Cm.small (by show 1 ≤ 100000; decide), fun p13 np13 => ?_⟩⟩⟩
  have ev11 := ev10.keep k11 g11
  have R11 := R10.keep (ev10.g.tups k11)
  have s13 := (Cm.same_new np12).trans (Cm.same_new (o := .tup [.ref p12]) np13)
  have r13 := made1 (K := K) np13 (made np12 (.cons (.str "return") (.cons r11 .nil)))
  have hz10 := szB b10
  have hy10 := o10.sz
  rw [cb4.2.1] at hy10
  refine cat_rp ((ev10.g.rp k11 r10).keep (Same.tups s13)) r13 (by show b10.ds.length + 1 ≤ 10000000; omega) fun v14 H14 s14 r14 => ?_
  have sB := s13.trans s14
  have ev14 := ev11.same sB
  have k14 := ((k9.trans k10).trans k11).trans (Keep.of sB)
  have oget : OkP fieldS (b10.app (.cons (.plain "return" (.cons e11 .nil)) .nil)) := okP_snoc o10 o11 n_get n_get (by decide) (by decide) (by decide +kernel)
  have r14 : Rp K H14 v14 (.tuple (b10.app (.cons (.plain "return" (.cons e11 .nil)) .nil)).ds) := by
    rw [Ss.app_ds]
    exact r14
  have R14 : Rps K _ _ _ := .cons r14 (R11.keep (Same.tups sB))
  -- put
  refine ⟨_, rfl, _, rfl, _, rfl, Cm.small (by show 1 ≤ 100000; decide), fun p15 np15 => ⟨li, p15, _, _, rfl, rfl, (ev14.same (Cm.same_new np15)).ti, upd_same, Cm.small (by show 2 + 1 ≤ 100000; decide), fun lv nlv => ?_⟩⟩
  have s15 := Cm.same_new (o := .lst [.str "v"]) np15
  have evv := (ev14.same s15).moreI (vs := isN.map V.str ++ [.str "v"]) (x := "v") nlv rfl (by decide +kernel)
  have s16 := s15.trans (Cm.same_new (o := .lst (isN.map V.str ++ [.str "v"])) nlv)
  refine ⟨_, rfl, nu, c, lv, lc, _, _, 0, 1, rfl, by decide, evv, fun H17 v17 e17 g17 k17 r17 o17 => ⟨Cm.small (by show 3 ≤ 100000; decide), fun p18 np18 => ⟨Cm.small (by show 2 ≤ 100000; decide), fun p19 np19 => ⟨Cm.small (by show 2 ≤ 100000; decide), fun p20 np20 => ⟨Cm.small (by show 3 ≤ 100000; decide), fun p21 np21 => ⟨Cm.small (by show 2 ≤ 100000; decide), fun p22 np22 => ⟨Cm.small (by show 2 ≤ 100000; decide), fun p23 np23 => ?_⟩⟩⟩⟩⟩⟩⟩
  have r18 := made (K := K) np18 (.cons (.str "set") (.cons (.str "n") (.cons r17 .nil)))
  have r19 := made (K := K) np19 (.cons (.str "name") (.cons (.str "n") .nil))
  have r20 := made (K := K) np20 (.cons (.str "name") (.cons (.str "v") .nil))
  have r21 := made (K := K) np21 (.cons (.str "add") (.cons (r19.keep (Same.tups (Cm.same_new np20))) (.cons r20 .nil)))
  have r22 := made (K := K) np22 (.cons (.str "return") (.cons r21 .nil))
  have r23 := made (K := K) np23 (.cons (r18.keep (Same.tups ((Cm.same_new np19).trans ((Cm.same_new np20).trans ((Cm.same_new np21).trans (Cm.same_new np22)))))) (.cons r22 .nil))
  have s23 := (Cm.same_new np18).trans ((Cm.same_new np19).trans ((Cm.same_new np20).trans ((Cm.same_new np21).trans ((Cm.same_new np22).trans (Cm.same_new (o := .tup [.ref p18, .ref p22]) np23)))))
  have evw := (ev14.same s16)
  have ev23 := (evw.keep k17 g17).same s23
  have k23 := ((k14.trans (Keep.of s16)).trans k17).trans (Keep.of s23)
  have oput : OkP ("v" :: fieldS) (.cons (.setS "n" e17) (.cons (.plain "return" (.cons (.plain "add" (.cons (.name "n") (.cons (.name "v") .nil))) .nil)) .nil)) := okP_two (by decide +kernel) (by decide +kernel) o17 n_put ok_add n_nv (by decide) (by decide) (by decide +kernel)
  have R23 : Rps K _ _ _ := .cons r23 (((R14.keep (Same.tups s16)).keep (evw.g.tups k17)).keep (Same.tups s23))
  -- link
  obtain ⟨xl, hxl, exl⟩ := Cm.at_str (ws := ["o", "p"]) (i := p / 36 % 2) (by omega) (by show p / 36 % 2 < 2; omega)
  refine ⟨Cm.small (by decide), fun p24 np24 => ?_⟩
  have s24 := Cm.same_new (o := .lst ((["o", "p"] : List Str).map V.str)) np24
  refine ⟨_, rfl, _, _, rfl, rfl, ⟨by decide, by decide⟩, _, _, rfl, rfl, (by show (0 : Int) < 2; decide), p24, _, _, .str xl, rfl, rfl, Cm.sql_new, exl, Cm.small (by show 2 ≤ 100000; decide), fun p25 np25 => ⟨Cm.small (by show 3 ≤ 100000; decide), fun p26 np26 => ?_⟩⟩
  have r25 := made (K := K) np25 (.cons (.str "name") (.cons (.str "c") .nil))
  have r26 := made (K := K) np26 (.cons (.str "set") (.cons (.str xl) (.cons r25 .nil)))
  have s26 := (s24.trans (Cm.same_new np25)).trans (Cm.same_new (o := .tup [.str "set", .str xl, .ref p25]) np26)
  have ev26 := ev23.same s26
  refine ⟨_, rfl, _, rfl, _, rfl, _, rfl, Cm.small (by show 1 ≤ 100000; decide), fun p27 np27 => ⟨lc, p27, _, _, rfl, rfl, (ev26.same (Cm.same_new np27)).tk, upd_same, Cm.small (by show 3 + 1 ≤ 100000; decide), fun lk nlk => ?_⟩⟩
  have s27 := Cm.same_new (o := .lst [.str "c"]) np27
  have evc := (ev26.same s27).moreC (vs := csN.map V.str ++ [.str "c"]) (x := "c") nlk rfl (by decide +kernel)
  have s28 := s27.trans (Cm.same_new (o := .lst (csN.map V.str ++ [.str "c"])) nlk)
  refine ⟨nu, c, li, lk, _, _, 1, 1, rfl, by decide, evc, fun H29 v29 e29 g29 k29 r29 o29 => ⟨Cm.small (by show 2 ≤ 100000; decide), fun p30 np30 => ⟨Cm.small (by show 2 ≤ 100000; decide), fun p31 np31 => ?_⟩⟩⟩
  have evx := ev26.same s28
  have r26b := evx.g.rp k29 (r26.keep (Same.tups s28))
  have r30 := made (K := K) np30 (.cons (.str "return") (.cons r29 .nil))
  have r31 := made (K := K) np31 (.cons (r26b.keep (Same.tups (Cm.same_new np30))) (.cons r30 .nil))
  have s31 := (Cm.same_new np30).trans (Cm.same_new (o := .tup [.ref p26, .ref p30]) np31)
  have ev31 := (evx.keep k29 g29).same s31
  have k31 := ((k23.trans (Keep.of (s26.trans s28))).trans k29).trans (Keep.of s31)
  have olink : OkP ("c" :: fieldS) (.cons (.setS xl (.name "c")) (.cons (.plain "return" (.cons e29 .nil)) .nil)) := okP_two ((by decide +kernel : ∀ x ∈ (["o", "p"] : List Str), x ∈ ("c" :: fieldS : List Str)) xl hxl) ((by decide +kernel : ∀ x ∈ (["o", "p"] : List Str), PyData.strOk x = true) xl hxl) ok_c n_c o29 n_link (by decide) (by decide) (by decide +kernel)
  have R31 : Rps K _ _ _ := .cons r31 (((R23.keep (Same.tups (s26.trans s28))).keep (evx.g.tups k29)).keep (Same.tups s31))
  -- both: the block
  refine ⟨_, rfl, _, rfl, _, rfl, Cm.small (by show 1 ≤ 100000; decide), fun p32 np32 => ⟨li, p32, _, _, rfl, rfl, (ev31.same (Cm.same_new np32)).ti, upd_same, Cm.small (by show 2 + 1 ≤ 100000; decide), fun lv2 nlv2 => ?_⟩⟩
  have s32 := Cm.same_new (o := .lst [.str "v"]) np32
  have ev33 := (ev31.same s32).moreI (vs := isN.map V.str ++ [.str "v"]) (x := "v") nlv2 rfl (by decide +kernel)
  have s33 := s32.trans (Cm.same_new (o := .lst (isN.map V.str ++ [.str "v"])) nlv2)
  refine ⟨_, rfl, Cm.small (by show 1 ≤ 100000; decide), fun p34 np34 => ⟨lc, p34, _, _, rfl, rfl, (ev33.same (Cm.same_new np34)).tk, upd_same, Cm.small (by show 3 + 1 ≤ 100000; decide), fun lk2 nlk2 => ?_⟩⟩
  have s34 := Cm.same_new (o := .lst [.str "c"]) np34
  have ev35 := (ev33.same s34).moreC (vs := csN.map V.str ++ [.str "c"]) (x := "c") nlk2 rfl (by decide +kernel)
  have s35 := s33.trans (s34.trans (Cm.same_new (o := .lst (csN.map V.str ++ [.str "c"])) nlk2))
  refine ⟨nu, c, lv2, lk2, _, _, 2, 2, "b", rfl, by decide, ev35, by decide +kernel, by decide +kernel, by decide, by decide, fun H36 v36 b36 g36 k36 r36 o36 => ?_⟩
  have evy := ev31.same s35
  have ev36 := evy.keep k36 g36
  have R36 := (R31.keep (Same.tups s35)).keep (evy.g.tups k36)
  have k36' := (k31.trans (Keep.of s35)).trans k36
  -- both: the return
  refine ⟨_, rfl, _, rfl, _, rfl, _, rfl, Cm.small (by show 1 ≤ 100000; decide), fun p37 np37 => ⟨li, p37, _, _, rfl, rfl, (ev36.same (Cm.same_new np37)).ti, upd_same, Cm.small (by show 2 + 1 ≤ 100000; decide), fun lv3 nlv3 => ?_⟩⟩
  have s37 := Cm.same_new (o := .lst [.str "v"]) np37
  have ev38 := (ev36.same s37).moreI (vs := isN.map V.str ++ [.str "v"]) (x := "v") nlv3 rfl (by decide +kernel)
  have s38 := s37.trans (Cm.same_new (o := .lst (isN.map V.str ++ [.str "v"])) nlv3)
  refine ⟨_, rfl, Cm.small (by show 1 ≤ 100000; decide), fun p39 np39 => ⟨lc, p39, _, _, rfl, rfl, (ev38.same (Cm.same_new np39)).tk, upd_same, Cm.small (by show 3 + 1 ≤ 100000; decide), fun lk3 nlk3 => ?_⟩⟩
  have s39 := Cm.same_new (o := .lst [.str "c"]) np39
  have ev40 := (ev38.same s39).moreC (vs := csN.map V.str ++ [.str "c"]) (x := "c") nlk3 rfl (by decide +kernel)
  have s40 := s38.trans (s39.trans (Cm.same_new (o := .lst (csN.map V.str ++ [.str "c"])) nlk3))
  refine ⟨nu, c, lv3, lk3, _, _, 2, 2, rfl, by decide, ev40, fun H41 v41 e41 g41 k41 r41 o41 => ⟨Cm.small (by show 2 ≤ 100000; decide), fun p42 np42 => ⟨Cm.small (by show 1 ≤ 100000; decide), fun p43 np43 => ?_⟩⟩⟩
  have evz := ev36.same s40
  have r36b := evz.g.rp k41 (r36.keep (Same.tups s40))
  have R41 := (R36.keep (Same.tups s40)).keep (evz.g.tups k41)
  have k41' := (k36'.trans (Keep.of s40)).trans k41
  have s43 := (Cm.same_new np42).trans (Cm.same_new (o := .tup [.ref p42]) np43)
  have r43 := made1 (K := K) np43 (made np42 (.cons (.str "return") (.cons r41 .nil)))
  have hz36 := szB b36
  have hy36 := o36.sz
  rw [cb4.2.2.1] at hy36
  refine cat_rp (r36b.keep (Same.tups s43)) r43 (by show b36.ds.length + 1 ≤ 10000000; omega) fun v44 H44 s44 r44 => ?_
  have sC := s43.trans s44
  have g44 := g41.same sC
  have k44 := k41'.trans (Keep.of sC)
  have oboth : OkP ("c" :: "v" :: fieldS) (b36.app (.cons (.plain "return" (.cons e41 .nil)) .nil)) := okP_snoc o36 o41 n_both n_both (by decide) (by decide) (by decide +kernel)
  have r44 : Rp K H44 v44 (.tuple (b36.app (.cons (.plain "return" (.cons e41 .nil)) .nil)).ds) := by
    rw [Ss.app_ds]
    exact r44
  obtain ⟨vl, _, e1, rl, Ra⟩ := (R41.keep (Same.tups sC)).cons_inv
  cases e1
  obtain ⟨vp, _, e2, rp, Rb⟩ := Ra.cons_inv
  cases e2
  obtain ⟨vg, _, e3, rg, Rc⟩ := Rb.cons_inv
  cases e3
  obtain ⟨vP, _, e4, rP2, Rd⟩ := Rc.cons_inv
  cases e4
  obtain ⟨vF, _, e5, rF2, Re⟩ := Rd.cons_inv
  cases e5
  -- rows
  refine ⟨Cm.small (by decide), fun q1 nq1 => ⟨_, rfl, Cm.small (by show 4 ≤ 100000; decide), fun q2 nq2 => ?_⟩⟩
  have t1 := Cm.same_new (o := .tup []) nq1
  have rr2 := made (K := K) nq2 (.cons (.str "get") (.cons (made nq1 .nil) (.cons (.str "int") (.cons (rg.keep (Same.tups t1)) .nil))))
  have t2 := t1.trans (Cm.same_new (o := .tup [.str "get", .ref q1, .str "int", v14]) nq2)
  refine ⟨Cm.small (by show 2 ≤ 100000; decide), fun q3 nq3 => ⟨Cm.small (by show 1 ≤ 100000; decide), fun q4 nq4 => ⟨_, rfl, Cm.small (by show 4 ≤ 100000; decide), fun q5 nq5 => ?_⟩⟩⟩
  have t34 := (Cm.same_new nq3).trans (Cm.same_new (o := .tup [.ref q3]) nq4)
  have rr5 := made (K := K) nq5 (.cons (.str "put") (.cons (made1 nq4 (made nq3 (.cons (.str "v") (.cons (.str "int") .nil)))) (.cons (.str "int") (.cons (rp.keep (Same.tups (t2.trans t34))) .nil))))
  have t5 := t34.trans (Cm.same_new (o := .tup [.str "put", .ref q4, .str "int", .ref p23]) nq5)
  refine ⟨Cm.small (by show 2 ≤ 100000; decide), fun q6 nq6 => ⟨Cm.small (by show 1 ≤ 100000; decide), fun q7 nq7 => ⟨_, rfl, Cm.small (by show 4 ≤ 100000; decide), fun q8 nq8 => ?_⟩⟩⟩
  have t67 := (Cm.same_new nq6).trans (Cm.same_new (o := .tup [.ref q6]) nq7)
  have rr8 := made (K := K) nq8 (.cons (.str "link") (.cons (made1 nq7 (made nq6 (.cons (.str "c") (.cons (.str "Cell") .nil)))) (.cons (.str "Cell") (.cons (rl.keep (Same.tups ((t2.trans t5).trans t67))) .nil))))
  have t8 := t67.trans (Cm.same_new (o := .tup [.str "link", .ref q7, .str "Cell", .ref p31]) nq8)
  refine ⟨Cm.small (by show 2 ≤ 100000; decide), fun q9 nq9 => ⟨Cm.small (by show 2 ≤ 100000; decide), fun q10 nq10 => ⟨Cm.small (by show 2 ≤ 100000; decide), fun q11 nq11 => ⟨_, rfl, Cm.small (by show 4 ≤ 100000; decide), fun q12 nq12 => ⟨Cm.small (by show 4 ≤ 100000; decide), fun q13 nq13 => ?_⟩⟩⟩⟩⟩
  have t911 := (Cm.same_new nq9).trans ((Cm.same_new nq10).trans (Cm.same_new (o := .tup [.ref q9, .ref q10]) nq11))
  have tt := (t2.trans t5).trans (t8.trans t911)
  have r11 := made (K := K) nq11 (.cons ((made (K := K) nq9 (.cons (.str "c") (.cons (.str "Cell") .nil))).keep (Same.tups (Cm.same_new nq10))) (.cons (made nq10 (.cons (.str "v") (.cons (.str "int") .nil))) .nil))
  have rr12 := made (K := K) nq12 (.cons (.str "both") (.cons r11 (.cons (.str "int") (.cons (r44.keep (Same.tups tt)) .nil))))
  have t12 := t911.trans (Cm.same_new (o := .tup [.str "both", .ref q11, .str "int", v44]) nq12)
  have rr13 := made (K := K) nq13 (.cons (rr2.keep (Same.tups ((t5.trans t8).trans t12))) (.cons (rr5.keep (Same.tups (t8.trans t12))) (.cons (rr8.keep (Same.tups t12)) (.cons rr12 .nil))))
  have t13 := ((t2.trans t5).trans (t8.trans t12)).trans (Cm.same_new (o := .tup [.ref q2, .ref q5, .ref q8, .ref q12]) nq13)
  -- the maker
  refine ⟨_, rfl, _, rfl, _, rfl, _, rfl, Cm.small (by show 4 ≤ 100000; decide), fun q14 nq14 => ?_⟩
  have t14 := t13.trans (Cm.same_new (o := .tup [.str nm, .ref p4, .ref p7, .ref q13]) nq14)
  exact q _ _ ⟨nm, decide (V.int (p % 2) = V.int 0), decide (V.int (p / 2 % 2) = V.int 0), p / 4 % 9 - 4, b10.app (.cons (.plain "return" (.cons e11 .nil)) .nil), .cons (.setS "n" e17) (.cons (.plain "return" (.cons (.plain "add" (.cons (.name "n") (.cons (.name "v") .nil))) .nil)) .nil),
      .cons (.setS xl (.name "c")) (.cons (.plain "return" (.cons e29 .nil)) .nil), b36.app (.cons (.plain "return" (.cons e41 .nil)) .nil)⟩ (g44.same t14) (k44.trans (Keep.of t14))
    (made nq14 (.cons (.str nm) (.cons (rP2.keep (Same.tups t13)) (.cons (rF2.keep (Same.tups t13)) (.cons rr13 .nil))))) ⟨oget, oput, olink, oboth⟩ rfl
def ifaceD : PyData := .tuple [.str "Cell", .tuple [.tuple [.str "get", .tuple [], .str "int"], .tuple [.str "put", .tuple [.str "int"], .str "int"], .tuple [.str "link", .tuple [.str "Cell"], .str "Cell"], .tuple [.str "both", .tuple [.str "Cell", .str "int"], .str "int"]]]
def spIface (K : PySem.W.Frag) : Sp := fun vs H Q _ => vs = [] ∧ ∀ (H' : Hp) (v : V), Same H H' → Rp K H' v ifaceD → Q v H'
theorem ok_lw_interface (T : Txt K mg w a) : FnOk P w K mg base CX0 1 (He.ga K "_law_interface") a.d_lw_interface [] (spIface K) := by
  refine T.F_lw_interface.ok sc_lw_interface (fun vs H Q E h => ?_) (fun cdv A outer s H0 vs Q E hr h => ?_)
  · rw [h.1]
    rfl
  obtain ⟨rfl, q⟩ := h
  refine ⟨_, PSs.nox (pss_one (ps_ret (pe_tup (pa_cons pe_str (pa_cons (pe_tup (pa_cons (pe_tup (pa_cons pe_str (pa_cons (pe_tup pa_nil) (pa_cons pe_str pa_nil)))) (pa_cons (pe_tup (pa_cons pe_str (pa_cons (pe_tup (pa_cons pe_str pa_nil)) (pa_cons pe_str pa_nil)))) (pa_cons (pe_tup (pa_cons pe_str (pa_cons (pe_tup (pa_cons pe_str pa_nil)) (pa_cons pe_str pa_nil)))) (pa_cons (pe_tup (pa_cons pe_str (pa_cons (pe_tup (pa_cons pe_str (pa_cons pe_str pa_nil))) (pa_cons pe_str pa_nil)))) pa_nil))))) pa_nil))))), ?_⟩
  refine ⟨Cm.small (by decide), fun p1 n1 => ⟨Cm.small (by show 3 ≤ 100000; decide), fun p2 n2 => ⟨Cm.small (by show 1 ≤ 100000; decide), fun p3 n3 => ⟨Cm.small (by show 3 ≤ 100000; decide), fun p4 n4 => ⟨Cm.small (by show 1 ≤ 100000; decide), fun p5 n5 => ⟨Cm.small (by show 3 ≤ 100000; decide), fun p6 n6 => ⟨Cm.small (by show 2 ≤ 100000; decide), fun p7 n7 => ⟨Cm.small (by show 3 ≤ 100000; decide), fun p8 n8 => ⟨Cm.small (by show 4 ≤ 100000; decide), fun p9 n9 => ⟨Cm.small (by show 2 ≤ 100000; decide), fun p10 n10 => ?_⟩⟩⟩⟩⟩⟩⟩⟩⟩⟩
  have r2 := made (K := K) n2 (.cons (.str "get") (.cons (made n1 .nil) (.cons (.str "int") .nil)))
  have r4 := made (K := K) n4 (.cons (.str "put") (.cons (made n3 (.cons (.str "int") .nil)) (.cons (.str "int") .nil)))
  have r6 := made (K := K) n6 (.cons (.str "link") (.cons (made n5 (.cons (.str "Cell") .nil)) (.cons (.str "Cell") .nil)))
  have r8 := made (K := K) n8 (.cons (.str "both") (.cons (made n7 (.cons (.str "Cell") (.cons (.str "int") .nil))) (.cons (.str "int") .nil)))
  have t8 := (Cm.same_new n7).trans (Cm.same_new (o := .tup [.str "both", .ref p7, .str "int"]) n8)
  have t6 := (Cm.same_new n5).trans (Cm.same_new (o := .tup [.str "link", .ref p5, .str "Cell"]) n6)
  have t4 := (Cm.same_new n3).trans (Cm.same_new (o := .tup [.str "put", .ref p3, .str "int"]) n4)
  have t2 := (Cm.same_new n1).trans (Cm.same_new (o := .tup [.str "get", .ref p1, .str "int"]) n2)
  have r9 := made (K := K) n9 (.cons (r2.keep (Same.tups ((t4.trans t6).trans t8))) (.cons (r4.keep (Same.tups (t6.trans t8))) (.cons (r6.keep (Same.tups t8)) (.cons r8 .nil))))
  exact q _ _ ((((t2.trans t4).trans t6).trans t8).trans ((Cm.same_new n9).trans (Cm.same_new n10))) (made n10 (.cons (.str "Cell") (.cons r9 .nil)))
def progD (m1 m2 : MkD) (b : Ss) : PyData := .tuple [.tuple [ifaceD], .tuple [m1.d, m2.d], .tuple b.ds]
def spProgram (K : PySem.W.Frag) : Sp := fun vs H Q _ => ∃ (nu : Addr) (ns : List Int) (many : Nat) (level : Int), vs = [.ref nu, .int many, .int level] ∧ SqL K H nu (ns.map V.int) ∧ ns.length = 60 ∧ (∀ x ∈ ns, 0 ≤ x) ∧ many ≤ 4 ∧
  ∀ (H' : Hp) (v : V) (m1 m2 : MkD) (b : Ss), Same H H' → Rp K H' v (progD m1 m2 b) → m1.Ok → m2.Ok → m1.nm = "Box" → m2.nm = "Pair" → OkP [] b → Q v H'
abbrev startS (b : Ss) (e : E) : Ss := .cons (.letS "a" "Cell" (.new "Box" (.cons (.plain "nil" .nil) (.cons (.int 4) .nil)))) (.cons (.letS "b" "Cell" (.new "Pair" (.cons (.name "a") (.cons (.int 7) .nil)))) (.cons (.letS "i" "int" (.int 3)) (b.app (.cons (.plain "return" (.cons e .nil)) .nil))))
abbrev iN : List Str := ["i"]
abbrev abN : List Str := ["a", "b"]
theorem iab : ∀ x ∈ iN ++ fl abN, x = "a" ∨ x = "b" ∨ x = "i" := by decide +kernel
theorem so_iab : ∀ x ∈ iN ++ abN, PyData.strOk x = true := by decide +kernel
theorem layAll_cons {x : PyData} {l : List PyData} (h : x.canLay0 = true) (h2 : PyData.canLayAll0 l = true) : PyData.canLayAll0 (x :: l) = true := by simp [PyData.canLayAll0, h, h2]
theorem ok_start {m : Nat} {b : Ss} {e : E} (o : OkB (iN ++ fl abN) m b) (oe : OkE (iN ++ fl abN) 2 e) (hm : m ≤ 4) : OkP [] (startS b e) := by
  have ml : ∀ x : Str, (x = "a" ∨ x = "b" ∨ x = "i" ∨ x ∈ b.lets) → x ∈ (startS b e).lets := by
    intro x hx
    show x ∈ [_] ++ ([_] ++ ([_] ++ (b.app _).lets))
    rw [Ss.app_lets]
    simp only [List.mem_append, List.mem_singleton]
    rcases hx with h | h | h | h
    · exact .inl h
    · exact .inr (.inl h)
    · exact .inr (.inr (.inl h))
    · exact .inr (.inr (.inr (.inl h)))
  have o3 := okP_snoc (N := iN ++ fl abN) (w := "return") o oe (fun _ h => h) (fun _ h => h) hm (by decide) (by decide +kernel)
  have hs := o3.sz
  have hd := o3.dp
  have bs := o.sz
  have bd := o.dp
  have es := oe.sz
  have ed := oe.dp
  rw [le2] at es
  have hb : Cb m ≤ 4000 := by
    match m, hm with
    | 0, _ => decide
    | 1, _ => decide
    | 2, _ => decide
    | 3, _ => decide
    | 4, _ => decide
  refine ⟨fun x hx => .inr ?_, ?_, ?_, ?_, and2 (by decide +kernel) (and2 (by decide +kernel) (and2 rfl o3.wf)), ⟨.cons (.letS "a" "Cell" (.new "Box" (.cons (.plain "nil" .nil) (.cons (.int 4) .nil)))) (.cons (.letS "b" "Cell" (.new "Pair" (.cons (.name "a") (.cons (.int 7) .nil)))) (.cons (.letS "i" "int" (.int 3)) b)), e, rfl⟩⟩
  · have hx' : x ∈ (("a" :: ([] ++ ([] ++ [])) : List Str)) ++ ((("b" :: ([("a" : Str)] ++ ([] ++ [])) : List Str)) ++ ((("i" :: []) : List Str) ++ (b.app (.cons (.plain "return" (.cons e .nil)) .nil)).uses)) := hx
    rw [Ss.app_uses] at hx'
    simp only [List.mem_append, List.mem_cons, List.not_mem_nil, or_false, false_or] at hx'
    rcases hx' with h | (h | h) | h | h | h
    · exact ml x (.inl h)
    · exact ml x (.inr (.inl h))
    · exact ml x (.inl h)
    · exact ml x (.inr (.inr (.inl h)))
    · rcases o.us x h with h | h
      · rcases iab x h with h | h | h
        · exact ml x (.inl h)
        · exact ml x (.inr (.inl h))
        · exact ml x (.inr (.inr (.inl h)))
      · exact ml x (.inr (.inr (.inr h)))
    · have h' : x ∈ (e.uses ++ []) ++ [] := h
      rw [List.append_nil, List.append_nil] at h'
      rcases iab x (oe.us x h') with h | h | h
      · exact ml x (.inl h)
      · exact ml x (.inr (.inl h))
      · exact ml x (.inr (.inr (.inl h)))
  · show max (max (0 + 1) (max 0 0) + 1 + 1) (max (max 0 (max 0 0) + 1 + 1) (max (0 + 1) (b.app _).dep)) ≤ 12
    omega
  · show (0 + 1) + (1 + 0) + 1 + 1 + (1 + (1 + 0) + 1 + 1 + (1 + 1 + (b.app _).sz)) ≤ 5000
    rw [Ss.app_sz]
    show (0 + 1) + (1 + 0) + 1 + 1 + (1 + (1 + 0) + 1 + 1 + (1 + 1 + (b.sz + (e.sz + 0 + 1 + 0)))) ≤ 5000
    omega
  · refine layAll_cons (lay4 (tx (by decide +kernel)) (tx (by decide +kernel)) (tx (by decide +kernel)) (lay3 (tx (by decide +kernel)) (tx (by decide +kernel)) (lay2 (lay1 (tx (by decide +kernel))) (lay2 (tx (by decide +kernel)) layI)))) ?_
    refine layAll_cons (lay4 (tx (by decide +kernel)) (tx (by decide +kernel)) (tx (by decide +kernel)) (lay3 (tx (by decide +kernel)) (tx (by decide +kernel)) (lay2 (lay2 (tx (by decide +kernel)) (tx (by decide +kernel))) (lay2 (tx (by decide +kernel)) layI)))) ?_
    exact layAll_cons (lay4 (tx (by decide +kernel)) (tx (by decide +kernel)) (tx (by decide +kernel)) (lay2 (tx (by decide +kernel)) layI)) o3.lay
theorem ok_lw_program (T : Txt K mg w a) : FnOk P w K mg base CX0 15 (He.ga K "_law_program") a.d_lw_program ["numbers", "many", "level"] (spProgram K) := by
  obtain ⟨gi, _, _⟩ := ok_E (P := P) (w := w) (base := base) T 3 (by decide)
  have gb := ok_block (P := P) (w := w) (base := base) T 5 (by decide)
  have gm := ok_lw_maker (P := P) (w := w) (base := base) T
  refine T.F_lw_program.ok sc_lw_program (fun vs H Q E h => ?_) (fun cdv A outer s H0 vs Q E hr h => ?_)
  · obtain ⟨nu, ns, many, level, rfl, _⟩ := h
    rfl
  obtain ⟨nu, ns, many, level, rfl, hnu, hnl, hnp, hm, q⟩ := h
  refine ⟨_, PSs.nox (pss_cons (ps_set (i := 3) sc_lw_program.nd rfl (Or.inl rfl) (pe_lst (pa_cons pe_int pa_nil)))
      (pss_cons (ps_set (i := 4) sc_lw_program.nd rfl (Or.inl rfl) (pe_tup (pa_cons (pe_call gm (hr.mono (by omega)) (by rfl) T.g_lw_maker T.F_lw_maker.kp T.b_lw_maker .nil pass0 (pa_cons (pv 0) (pa_cons (pv 3) (pa_cons pe_str pa_nil)))) (pa_cons (pe_call gm (hr.mono (by omega)) (by rfl) T.g_lw_maker T.F_lw_maker.kp T.b_lw_maker .nil pass0 (pa_cons (pv 0) (pa_cons (pv 3) (pa_cons pe_str pa_nil)))) pa_nil))))
      (pss_cons (ps_set (i := 5) sc_lw_program.nd rfl (Or.inl rfl) (pe_tup (pa_cons pe_str (pa_cons pe_str (pa_cons pe_str (pa_cons (pe_tup (pa_cons pe_str (pa_cons pe_str (pa_cons (pe_tup (pa_cons (pe_tup (pa_cons pe_str pa_nil)) (pa_cons (pe_tup (pa_cons pe_str (pa_cons pe_int pa_nil))) pa_nil))) pa_nil)))) pa_nil))))))
      (pss_cons (ps_set (i := 6) sc_lw_program.nd rfl (Or.inl rfl) (pe_tup (pa_cons pe_str (pa_cons pe_str (pa_cons pe_str (pa_cons (pe_tup (pa_cons pe_str (pa_cons pe_str (pa_cons (pe_tup (pa_cons (pe_tup (pa_cons pe_str (pa_cons pe_str pa_nil))) (pa_cons (pe_tup (pa_cons pe_str (pa_cons pe_int pa_nil))) pa_nil))) pa_nil)))) pa_nil))))))
      (pss_cons (ps_set (i := 7) sc_lw_program.nd rfl (Or.inl rfl) (pe_tup (pa_cons pe_str (pa_cons pe_str (pa_cons pe_str (pa_cons (pe_tup (pa_cons pe_str (pa_cons pe_int pa_nil))) pa_nil))))))
      (pss_cons (ps_set (i := 8) sc_lw_program.nd rfl (Or.inl rfl) (pe_call gb (hr.mono (by omega)) (by rfl) T.g_lw_block T.F_lw_block.kp T.b_lw_block .nil pass0 (pa_cons (pv 0) (pa_cons (pv 3) (pa_cons (pe_lst (pa_cons pe_str pa_nil)) (pa_cons (pe_lst (pa_cons pe_str (pa_cons pe_str pa_nil))) (pa_cons (pv 2) (pa_cons (pv 1) (pa_cons pe_str pa_nil)))))))))
      (pss_cons (ps_set (i := 9) sc_lw_program.nd rfl (Or.inl rfl) (pe_tup (pa_cons pe_str (pa_cons (pe_call gi (hr.mono (by omega)) (by rfl) T.g_lw_int T.F_lw_int.kp T.b_lw_int .nil pass0 (pa_cons (pv 0) (pa_cons (pv 3) (pa_cons (pe_lst (pa_cons pe_str pa_nil)) (pa_cons (pe_lst (pa_cons pe_str (pa_cons pe_str pa_nil))) (pa_cons (pv 2) (pa_cons pe_int pa_nil))))))) pa_nil))))
      (pss_one (ps_ret (pe_tup (pa_cons (pe_tup (pa_cons (pe_call0 (ok_lw_interface T) (hr.mono (by omega)) (by rfl) T.g_lw_interface T.F_lw_interface.kp T.b_lw_interface .nil pass0) pa_nil)) (pa_cons (pv 4) (pa_cons (pe_op op_catA (pe_op op_catA (pe_tup (pa_cons (pv 5) (pa_cons (pv 6) (pa_cons (pv 7) pa_nil)))) (pv 8)) (pe_tup (pa_cons (pv 9) pa_nil))) pa_nil))))))))))))), ?_⟩
  -- at = [0]
  refine ⟨Cm.small (by show 1 ≤ 100000; decide), fun c nc => ?_⟩
  have s0 := Cm.same_new (o := .lst [.int 0]) nc
  have g0 : G K (upd H0 c (.lst [.int 0])) nu c := ⟨ns, 0, s0.seq hnu, hnl, hnp, upd_same, by decide⟩
  -- makers
  refine ⟨_, rfl, _, rfl, nu, c, "Box", rfl, g0, fun H1 v1 m1 g1 k1 r1 o1 e1 => ?_⟩
  refine ⟨_, rfl, _, rfl, nu, c, "Pair", rfl, g1, fun H2 v2 m2 g2 k2 r2 o2 e2 => ⟨Cm.small (by show 2 ≤ 100000; decide), fun p3 n3 => ?_⟩⟩
  have R3 : Rps K _ _ _ := .cons (made (K := K) n3 (.cons (g1.rp k2 r1) (.cons r2 .nil))) .nil
  have s3 := Cm.same_new (o := .tup [v1, v2]) n3
  -- first
  refine ⟨Cm.small (by show 1 ≤ 100000; decide), fun p4 n4 => ⟨Cm.small (by show 2 ≤ 100000; decide), fun p5 n5 => ⟨Cm.small (by show 2 ≤ 100000; decide), fun p6 n6 => ⟨Cm.small (by show 3 ≤ 100000; decide), fun p7 n7 => ⟨Cm.small (by show 4 ≤ 100000; decide), fun p8 n8 => ?_⟩⟩⟩⟩⟩
  have r6 := made (K := K) n6 (.cons ((made (K := K) n4 (.cons (.str "nil") .nil)).keep (Same.tups (Cm.same_new n5))) (.cons (made n5 (.cons (.str "int") (.cons (.int 4) .nil))) .nil))
  have r8 := made (K := K) n8 (.cons (.str "let") (.cons (.str "a") (.cons (.str "Cell") (.cons (made n7 (.cons (.str "new") (.cons (.str "Box") (.cons r6 .nil)))) .nil))))
  have s8 := (Cm.same_new n4).trans ((Cm.same_new n5).trans ((Cm.same_new n6).trans ((Cm.same_new n7).trans (Cm.same_new (o := .tup [.str "let", .str "a", .str "Cell", .ref p7]) n8))))
  have R8 : Rps K _ _ _ := .cons r8 (R3.keep (Same.tups s8))
  -- second
  refine ⟨Cm.small (by show 2 ≤ 100000; decide), fun p9 n9 => ⟨Cm.small (by show 2 ≤ 100000; decide), fun p10 n10 => ⟨Cm.small (by show 2 ≤ 100000; decide), fun p11 n11 => ⟨Cm.small (by show 3 ≤ 100000; decide), fun p12 n12 => ⟨Cm.small (by show 4 ≤ 100000; decide), fun p13 n13 => ?_⟩⟩⟩⟩⟩
  have r11 := made (K := K) n11 (.cons ((made (K := K) n9 (.cons (.str "name") (.cons (.str "a") .nil))).keep (Same.tups (Cm.same_new n10))) (.cons (made n10 (.cons (.str "int") (.cons (.int 7) .nil))) .nil))
  have r13 := made (K := K) n13 (.cons (.str "let") (.cons (.str "b") (.cons (.str "Cell") (.cons (made n12 (.cons (.str "new") (.cons (.str "Pair") (.cons r11 .nil)))) .nil))))
  have s13 := (Cm.same_new n9).trans ((Cm.same_new n10).trans ((Cm.same_new n11).trans ((Cm.same_new n12).trans (Cm.same_new (o := .tup [.str "let", .str "b", .str "Cell", .ref p12]) n13))))
  have R13 : Rps K _ _ _ := .cons r13 (R8.keep (Same.tups s13))
  -- third
  refine ⟨Cm.small (by show 2 ≤ 100000; decide), fun p14 n14 => ⟨Cm.small (by show 4 ≤ 100000; decide), fun p15 n15 => ?_⟩⟩
  have r15 := made (K := K) n15 (.cons (.str "let") (.cons (.str "i") (.cons (.str "int") (.cons (made n14 (.cons (.str "int") (.cons (.int 3) .nil))) .nil))))
  have s15 := (Cm.same_new n14).trans (Cm.same_new (o := .tup [.str "let", .str "i", .str "int", .ref p14]) n15)
  have R15 : Rps K _ _ _ := .cons r15 (R13.keep (Same.tups s15))
  have sA := s3.trans (s8.trans (s13.trans s15))
  -- block
  refine ⟨_, rfl, _, rfl, Cm.small (by show 1 ≤ 100000; decide), fun li nli => ⟨Cm.small (by show 2 ≤ 100000; decide), fun lc nlc => ?_⟩⟩
  have sB := (Cm.same_new nli).trans (Cm.same_new (o := .lst [.str "a", .str "b"]) nlc)
  have g16 := (g2.same sA).same sB
  have ev16 : Ev K _ nu c li lc iN abN := ⟨g16, (by rw [upd_ne (ne_of_none upd_same nlc)]; exact upd_same), upd_same, so_iab⟩
  refine ⟨_, rfl, _, rfl, nu, c, li, lc, _, _, level, many, "s", rfl, by omega, ev16, by show 1 + 2 * many ≤ 90; omega, by decide +kernel, by show 1 + 10 * many ≤ 500; omega, by show 2 + 10 * many ≤ 500; omega, fun H17 v17 b17 g17 k17 r17 o17 => ?_⟩
  have R17 := (R15.keep (Same.tups sB)).keep (g16.tups k17)
  -- end
  refine ⟨_, rfl, _, rfl, Cm.small (by show 1 ≤ 100000; decide), fun li2 nli2 => ⟨Cm.small (by show 2 ≤ 100000; decide), fun lc2 nlc2 => ?_⟩⟩
  have sC := (Cm.same_new nli2).trans (Cm.same_new (o := .lst [.str "a", .str "b"]) nlc2)
  have g18 := g17.same sC
  have ev18 : Ev K _ nu c li2 lc2 iN abN := ⟨g18, (by rw [upd_ne (ne_of_none upd_same nlc2)]; exact upd_same), upd_same, so_iab⟩
  refine ⟨_, rfl, nu, c, li2, lc2, _, _, level, 2, rfl, by decide, ev18, fun H19 v19 e19 g19 k19 r19 o19 => ⟨Cm.small (by show 2 ≤ 100000; decide), fun p20 n20 => ?_⟩⟩
  have R19 := (R17.keep (Same.tups sC)).keep (g18.tups k19)
  have r17b := g18.rp k19 (r17.keep (Same.tups sC))
  have s20 := Cm.same_new (o := .tup [.str "return", v19]) n20
  have r20 := made (K := K) n20 (.cons (.str "return") (.cons r19 .nil))
  -- the program
  refine ⟨rfl, fun H21 v21 s21 r21 => ⟨Cm.small (by show 1 ≤ 100000; decide), fun p22 n22 => ⟨_, rfl, _, rfl, _, rfl, _, rfl, Cm.small (by show 3 ≤ 100000; decide), fun p23 n23 => ?_⟩⟩⟩
  have s22 := (s20.trans s21).trans (Cm.same_new (o := .tup [v21]) n22)
  have r22 := made1 (K := K) n22 r21
  obtain ⟨vi, _, e3, ri, Ra⟩ := (R19.keep (Same.tups s22)).cons_inv
  cases e3
  obtain ⟨vb, _, e4, rb, Rb⟩ := Ra.cons_inv
  cases e4
  obtain ⟨va, _, e5, ra, Rc⟩ := Rb.cons_inv
  cases e5
  obtain ⟨vm, _, e6, rm, Rd⟩ := Rc.cons_inv
  cases e6
  have r23 := made (K := K) n23 (.cons ra (.cons rb (.cons ri .nil)))
  have s23 := s22.trans (Cm.same_new (o := .tup [.ref p8, .ref p13, .ref p15]) n23)
  have hb := szB b17
  have hbs := o17.sz
  have hcb : Cb many ≤ 4000 := by
    match many, hm with
    | 0, _ => decide
    | 1, _ => decide
    | 2, _ => decide
    | 3, _ => decide
    | 4, _ => decide
  refine ⟨_, rfl, cat_rp r23 (r17b.keep (Same.tups s23)) (by show 3 + b17.ds.length ≤ 10000000; omega) fun v24 H24 s24 r24 => ?_⟩
  refine ⟨_, rfl, Cm.small (by show 1 ≤ 100000; decide), fun p25 n25 => ?_⟩
  have s25 := s24.trans (Cm.same_new (o := .tup [.ref p20]) n25)
  have r25 := made1 (K := K) n25 (r20.keep (Same.tups (((s21.trans (Cm.same_new n22)).trans (Cm.same_new n23)).trans s24)))
  refine cat_rp (r24.keep (Same.tups (Cm.same_new n25))) r25 (by simp only [List.length_append, List.length_cons, List.length_nil]; omega) fun v26 H26 s26 r26 => ⟨Cm.small (by show 3 ≤ 100000; decide), fun p27 n27 => ?_⟩
  have s27 := ((s23.trans s25).trans s26).trans (Cm.same_new (o := .tup [.ref p22, .ref p3, v26]) n27)
  have ds : (startS b17 e19).ds = (([(S.letS "a" "Cell" (.new "Box" (.cons (.plain "nil" .nil) (.cons (.int 4) .nil)))).d, (S.letS "b" "Cell" (.new "Pair" (.cons (.name "a") (.cons (.int 7) .nil)))).d, (S.letS "i" "int" (.int 3)).d] ++ b17.ds) ++ [(S.plain "return" (.cons e19 .nil)).d]) := by
    show _ :: _ :: _ :: (b17.app _).ds = _
    rw [Ss.app_ds]
    rfl
  have r26' : Rp K H26 v26 (.tuple (startS b17 e19).ds) := by
    rw [ds]
    exact r26
  have kAll : Keep c (upd H0 c (.lst [.int 0])) _ := (((((k1.trans k2).trans (Keep.of sA)).trans (Keep.of sB)).trans k17).trans (Keep.of sC)).trans (k19.trans (Keep.of s27))
  refine q _ _ m1 m2 (startS b17 e19) (fun x o hx => kAll x o (s0 x o hx) (ne_of_none hx nc)) (made n27 (.cons (r22.keep (Same.tups (((Cm.same_new n23).trans s25).trans s26))) (.cons (rm.keep (Same.tups (((Cm.same_new n23).trans s25).trans s26))) (.cons r26' .nil)))) o1 o2 e1 e2 (ok_start o17 o19 hm)
/-! ### the compiler: expressions -/
theorem args3 {x y : V} {i j : Int} (h : i = j) : ([x, y, .int i] : List V) ++ [] = [x, y, .int j] := by
  rw [h]
  rfl
theorem intE {K : PySem.W.Frag} {H : Hp} {i j : Int} (h : i = j) : Rp K H (.int i) (.int j) := by
  rw [h]
  exact .int j
abbrev pX : List Str := ["names", "expression", "at"]
/-- the code of e, from a place on -/
def spX (K : PySem.W.Frag) (d : Nat) : Sp := fun vs H Q _ => ∃ (nd : Addr) (v : V) (at_ : Nat) (e : E) (pl : Plc) (N : List Str), vs = [.ref nd, v, .int at_] ∧ PlAt K H nd pl N ∧ Rp K H v e.d ∧ e.wf = true ∧ (∀ x ∈ e.uses, x ∈ N) ∧ e.dep < d ∧ e.sz ≤ 100000 ∧
  ∀ (H' : Hp) (u : V), Same H H' → Rp K H' u (.tuple (e.code pl at_)) → Q u H'
def spR (K : PySem.W.Frag) (d : Nat) : Sp := fun vs H Q _ => ∃ (nd : Addr) (v : V) (at_ : Nat) (e : Es) (pl : Plc) (N : List Str), vs = [.ref nd, v, .int at_] ∧ PlAt K H nd pl N ∧ Rp K H v (.tuple e.ds) ∧ e.wf = true ∧ (∀ x ∈ e.uses, x ∈ N) ∧ e.dep < d ∧ e.sz ≤ 100000 ∧
  ∀ (H' : Hp) (u : V), Same H H' → Rp K H' u (.tuple (e.code pl at_)) → Q u H'
/-- a call or a fork -/
def spC (K : PySem.W.Frag) (d : Nat) : Sp := fun vs H Q _ => ∃ (nd : Addr) (v : V) (at_ : Nat) (wd : Str) (r : E) (f : Str) (as : Es) (pl : Plc) (N : List Str), vs = [.ref nd, v, .int at_] ∧ PlAt K H nd pl N ∧ Rp K H v (.tuple [.str wd, r.d, .str f, .tuple as.ds]) ∧ (r.wf && as.wf) = true ∧ (∀ x ∈ r.uses ++ as.uses, x ∈ N) ∧ max r.dep as.dep < d ∧ r.sz + as.sz ≤ 100000 ∧
  ∀ (H' : Hp) (u : V), Same H H' → Rp K H' u (.tuple ((r.code pl at_ ++ as.code pl (at_ + r.sz)) ++ [I3 wd f as.len])) → Q u H'
/-- and, or -/
def spO (K : PySem.W.Frag) (d : Nat) : Sp := fun vs H Q _ => ∃ (nd : Addr) (v : V) (at_ : Nat) (o : Bool) (l r : E) (pl : Plc) (N : List Str), vs = [.ref nd, v, .int at_] ∧ PlAt K H nd pl N ∧ Rp K H v (E.choice o l r).d ∧ (l.wf && r.wf) = true ∧ (∀ x ∈ l.uses ++ r.uses, x ∈ N) ∧ max l.dep r.dep < d ∧ (E.choice o l r).sz ≤ 100000 ∧
  ∀ (H' : Hp) (u : V), Same H H' → Rp K H' u (.tuple ((E.choice o l r).code pl at_)) → Q u H'
theorem ok_row (T : Txt K mg w a) (d : Nat) (gx : FnOk P w K mg base CX0 (3 * d + 1) (He.ga K "_expression_code") a.d_expression_code pX (spX K d)) :
    FnOk P w K mg base CX0 (3 * d + 2) (He.ga K "_row_code") a.d_row_code ["names", "expressions", "at"] (spR K d) := by
  refine T.F_row_code.ok sc_row_code (fun vs H Q E h => ?_) (fun cdv A outer s H vs Q E hr h => ?_)
  · obtain ⟨_, _, _, _, _, _, rfl, _⟩ := h
    rfl
  obtain ⟨nd, v, at_, es, pl, N, rfl, hpl, hv, hw, hu, hd, hsz, q⟩ := h
  refine ⟨_, PSs.nox (pss_cons (ps_set (i := 3) sc_row_code.nd rfl (Or.inl rfl) (pe_tup pa_nil))
      (pss_cons (ps_for PassesOwn.never rfl (pi_tup (pv 1)) (pg_name (i := 4) sc_row_code.nd rfl (Or.inl rfl))
      (pss_one (ps_set (i := 3) sc_row_code.nd rfl (Or.inl rfl) (pe_op op_catA (pv 3) (pe_call gx (hr.mono (by omega)) (by rfl) T.g_expression_code T.F_expression_code.kp T.b_expression_code .nil pass0 (pa_cons (pv 0) (pa_cons (pv 4) (pa_cons (pe_op op_add (pv 2) (pe_callB call_len_seq (by rfl) T.g_len boot_len (pa_cons (pv 3) pa_nil))) pa_nil))))))))
      (pss_one (ps_ret (pv 3))))), ?_⟩
  refine ⟨Nat.zero_le _, fun p np => ?_⟩
  have s0 := Cm.same_new (o := .tup []) np
  obtain ⟨b, vs, rfl, hb, hvs⟩ := hv.tup_inv
  have hlen : vs.length = es.list.length := by rw [hvs.len, Es.list_ds, List.length_map]
  refine ⟨_, rfl, b, rfl, ⟨vs, Cm.sameT s0 hb⟩, for_tup (K := K) (a := b) (xs := vs) (fun i σ H2 => ∃ (u : V) (x4 : Option V), σ = [some (.ref nd), some (.ref b), some (.int at_), some u, x4] ∧ Same H H2 ∧ Rp K H2 u (.tuple ((es.take i).code pl at_)))
    ⟨_, none, rfl, s0, made np (by cases es <;> exact .nil)⟩ (fun i σ H2 _ ⟨_, _, _, s2, _⟩ => Cm.sameT s2 hb) (fun i x σ H2 hx ⟨u, x4, e, s2, ru⟩ => ?_) fun σ H2 ⟨u, x4, e, s2, ru⟩ => ?_⟩
  · subst e
    obtain ⟨e, he, re⟩ := hvs.at_E hx
    obtain ⟨h1, h2, h3, h4⟩ := Es.part (List.mem_of_getElem? he)
    obtain ⟨nc, nz⟩ := Es.take_next (pl := pl) at_ he
    obtain ⟨c, cs, rfl, hc, hcl⟩ := len_rp ru
    rw [Es.code_len] at hcl
    refine ⟨_, rfl, _, rfl, _, rfl, _, rfl, _, rfl, c, cs, rfl, .inr hc, _, _, rfl, rfl, nd, x, at_ + (es.take i).sz, e, pl, N, args3 (by omega), hpl.same s2, re.keep (Same.tups s2), h1 hw, fun y hy => hu y (h2 y hy), by omega, by omega, fun H3 u3 s3 r3 => ?_⟩
    have hz := Es.take_sz es i
    refine cat_rp (ru.keep (Same.tups s3)) r3 (by rw [Es.code_len, Pt.E.code_len]; omega) fun u4 H4 s4 r4 => ?_
    exact ⟨u4, _, rfl, (s2.trans s3).trans s4, by rw [nc]; exact r4⟩
  · subst e
    rw [hlen, Es.take_all] at ru
    exact ⟨_, rfl, q _ _ s2 ru⟩
theorem E.sz_pos : ∀ e : E, 1 ≤ e.sz
  | .int _ => Nat.le_refl 1
  | .name _ => Nat.le_refl 1
  | .choice o l r => by
    show 1 ≤ l.sz + r.sz + (if o then 2 else 0) + 5
    omega
  | .call r _ as => Nat.le_add_left 1 (r.sz + as.sz)
  | .new _ as => Nat.le_add_left 1 as.sz
  | .plain _ as => Nat.le_add_left 1 as.sz
theorem as_len : ∀ as : Es, as.ds.length ≤ as.sz
  | .nil => Nat.le_refl 0
  | .cons e es => by
    have h1 := E.sz_pos e
    have h2 := as_len es
    show es.ds.length + 1 ≤ e.sz + es.sz
    omega
theorem ok_call (T : Txt K mg w a) (d : Nat) (gr : FnOk P w K mg base CX0 (3 * d + 2) (He.ga K "_row_code") a.d_row_code ["names", "expressions", "at"] (spR K d)) :
    FnOk P w K mg base CX0 (3 * d + 3) (He.ga K "_call_code") a.d_call_code ["names", "call", "at"] (spC K d) := by
  refine T.F_call_code.ok sc_call_code (fun vs H Q E h => ?_) (fun cdv A outer s H vs Q E hr h => ?_)
  · obtain ⟨_, _, _, _, _, _, _, _, _, rfl, _⟩ := h
    rfl
  obtain ⟨nd, v, at_, wd, r, f, as, pl, N, rfl, hpl, hv, hw, hu, hd, hsz, q⟩ := h
  refine ⟨_, PSs.nox (pss_cons (ps_asg (pv 1) (pg_tup (by rfl) (pgs_cons (pg_name (i := 3) sc_call_code.nd rfl (Or.inl rfl)) (pgs_cons (pg_name (i := 4) sc_call_code.nd rfl (Or.inl rfl)) (pgs_cons (pg_name (i := 5) sc_call_code.nd rfl (Or.inl rfl)) (pgs_cons (pg_name (i := 6) sc_call_code.nd rfl (Or.inl rfl)) pgs_nil))))))
      (pss_one (ps_ret (pe_op op_catA (pe_call gr (hr.mono (by omega)) (by rfl) T.g_row_code T.F_row_code.kp T.b_row_code .nil pass0 (pa_cons (pv 0) (pa_cons (pe_op op_catA (pe_tup (pa_cons (pv 4) pa_nil)) (pv 6)) (pa_cons (pv 2) pa_nil)))) (pe_tup (pa_cons (pe_tup (pa_cons (pv 3) (pa_cons (pv 5) (pa_cons (pe_callB call_len_seq (by rfl) T.g_len boot_len (pa_cons (pv 6) pa_nil)) pa_nil)))) pa_nil)))))), ?_⟩
  obtain ⟨b, vs, rfl, hb, hvs⟩ := hv.tup_inv
  obtain ⟨v0, vs, rfl, r0, hvs⟩ := hvs.cons_inv
  obtain ⟨v1, vs, rfl, r1, hvs⟩ := hvs.cons_inv
  obtain ⟨v2, vs, rfl, r2, hvs⟩ := hvs.cons_inv
  obtain ⟨v3, vs, rfl, r3, hvs⟩ := hvs.cons_inv
  cases hvs.nil_inv
  cases r0.str_inv
  cases r2.str_inv
  refine ⟨_, rfl, b, _, rfl, hb, rfl, _, _, rfl, _, _, rfl, _, _, rfl, _, _, rfl, rfl, ?_⟩
  refine ⟨_, rfl, _, rfl, Cm.small (by show 1 ≤ 100000; decide), fun p np => ?_⟩
  have s0 := Cm.same_new (o := .tup [v1]) np
  have hl := Es.ds_len as
  obtain ⟨hw1, hw2⟩ := Bool.and_eq_true_iff.mp hw
  have hal := as_len as
  refine ⟨_, rfl, cat_rp (made1 np r1) (r3.keep (Same.tups s0)) (by show 1 + as.ds.length ≤ 10000000; omega) fun u1 H1 s1 ru1 => ?_⟩
  refine ⟨_, rfl, nd, u1, at_, .cons r as, pl, N, rfl, hpl.same (s0.trans s1), ru1, and2 hw1 hw2, hu, hd, hsz, fun H2 u2 s2 ru2 => ?_⟩
  obtain ⟨c, cs, rfl, hc, hcl⟩ := len_rp r3
  have sA := (s0.trans s1).trans s2
  refine ⟨_, rfl, _, rfl, _, rfl, c, cs, rfl, .inr (Cm.sameT sA hc), Cm.small (by show 3 ≤ 100000; decide), fun p3 np3 => ⟨Cm.small (by show 1 ≤ 100000; decide), fun p4 np4 => ?_⟩⟩
  have s4 := (Cm.same_new np3).trans (Cm.same_new (o := .tup [.ref p3]) np4)
  have e : (cs.length : Int) = (as.len : Nat) := by rw [hcl, hl]
  have r4 := made1 (K := K) np4 (made (K := K) np3 (.cons (.str wd) (.cons (.str f) (.cons (.int (cs.length : Int)) .nil))))
  refine cat_rp (ru2.keep (Same.tups s4)) r4 (by rw [Es.code_len]; show r.sz + as.sz + 1 ≤ 10000000; omega) fun u5 H5 s5 r5 => ?_
  rw [e] at r5
  exact q _ _ ((sA.trans s4).trans s5) r5
theorem ok_chc (T : Txt K mg w a) (d : Nat) (gx : FnOk P w K mg base CX0 (3 * d + 1) (He.ga K "_expression_code") a.d_expression_code pX (spX K d)) :
    FnOk P w K mg base CX0 (3 * d + 2) (He.ga K "_choice_code") a.d_choice_code pX (spO K d) := by
  refine T.F_choice_code.ok sc_choice_code (fun vs H Q E h => ?_) (fun cdv A outer s H vs Q E hr h => ?_)
  · obtain ⟨_, _, _, _, _, _, _, _, rfl, _⟩ := h
    rfl
  obtain ⟨nd, v, at_, o, l, r, pl, N, rfl, hpl, hv, hw, hu, hd, hsz, q⟩ := h
  refine ⟨_, PSs.nox (pss_cons (ps_asg (pv 1) (pg_tup (by rfl) (pgs_cons (pg_name (i := 3) sc_choice_code.nd rfl (Or.inl rfl)) (pgs_cons (pg_name (i := 4) sc_choice_code.nd rfl (Or.inl rfl)) (pgs_cons (pg_name (i := 5) sc_choice_code.nd rfl (Or.inl rfl)) pgs_nil)))))
      (pss_cons (ps_set (i := 6) sc_choice_code.nd rfl (Or.inl rfl) (pe_ifExp (pt_cmpR op_eq (pv 3) pe_str (nomark _)) (pe_tup (pa_cons (pe_tup (pa_cons pe_str pa_nil)) pa_nil)) (pe_tup pa_nil)))
      (pss_cons (ps_set (i := 7) sc_choice_code.nd rfl (Or.inl rfl) (pe_op op_catA (pe_call gx (hr.mono (by omega)) (by rfl) T.g_expression_code T.F_expression_code.kp T.b_expression_code .nil pass0 (pa_cons (pv 0) (pa_cons (pv 4) (pa_cons (pv 2) pa_nil)))) (pv 6)))
      (pss_cons (ps_set (i := 8) sc_choice_code.nd rfl (Or.inl rfl) (pe_op op_catA (pe_call gx (hr.mono (by omega)) (by rfl) T.g_expression_code T.F_expression_code.kp T.b_expression_code .nil pass0 (pa_cons (pv 0) (pa_cons (pv 5) (pa_cons (pe_op op_add (pe_op op_add (pv 2) (pe_callB call_len_seq (by rfl) T.g_len boot_len (pa_cons (pv 7) pa_nil))) pe_int) pa_nil)))) (pv 6)))
      (pss_cons (ps_set (i := 9) sc_choice_code.nd rfl (Or.inl rfl) (pe_op op_add (pe_op op_add (pe_op op_add (pe_op op_add (pv 2) (pe_callB call_len_seq (by rfl) T.g_len boot_len (pa_cons (pv 7) pa_nil))) pe_int) (pe_callB call_len_seq (by rfl) T.g_len boot_len (pa_cons (pv 8) pa_nil))) pe_int))
      (pss_cons (ps_asg (pe_ifExp (pt_cmpR op_eq (pv 3) pe_str (nomark _)) (pe_tup (pa_cons pe_int (pa_cons pe_int pa_nil))) (pe_tup (pa_cons pe_int (pa_cons pe_int pa_nil)))) (pg_tup (by rfl) (pgs_cons (pg_name (i := 10) sc_choice_code.nd rfl (Or.inl rfl)) (pgs_cons (pg_name (i := 11) sc_choice_code.nd rfl (Or.inl rfl)) pgs_nil))))
      (pss_cons (ps_set (i := 12) sc_choice_code.nd rfl (Or.inl rfl) (pe_tup (pa_cons (pe_tup (pa_cons pe_str (pa_cons (pv 10) pa_nil))) (pa_cons (pe_tup (pa_cons pe_str (pa_cons (pe_op op_add (pv 9) pe_int) pa_nil))) (pa_cons (pe_tup (pa_cons pe_str (pa_cons (pv 11) pa_nil))) pa_nil)))))
      (pss_one (ps_ret (pe_op op_catA (pe_op op_catA (pe_op op_catA (pe_op op_catA (pv 7) (pe_tup (pa_cons (pe_tup (pa_cons pe_str (pa_cons (pv 9) pa_nil))) pa_nil))) (pv 8)) (pe_tup (pa_cons (pe_tup (pa_cons pe_str (pa_cons (pv 9) pa_nil))) pa_nil))) (pv 12))))))))))), ?_⟩
  obtain ⟨b, vs, rfl, hb, hvs⟩ := hv.tup_inv
  obtain ⟨v0, vs, rfl, r0, hvs⟩ := hvs.cons_inv
  obtain ⟨v1, vs, rfl, r1, hvs⟩ := hvs.cons_inv
  obtain ⟨v2, vs, rfl, r2, hvs⟩ := hvs.cons_inv
  cases hvs.nil_inv
  cases r0.str_inv
  refine ⟨_, rfl, b, _, rfl, hb, rfl, _, _, rfl, _, _, rfl, _, _, rfl, rfl, ?_⟩
  obtain ⟨hw1, hw2⟩ := Bool.and_eq_true_iff.mp hw
  cases o
  · refine ⟨_, rfl, rfl, _, rfl, Cm.itES (fun e => absurd e (by decide)) (fun _ => ⟨Nat.zero_le _, fun p np => ?_⟩)⟩
    have ru : Rp K (upd H p (.tup [])) (.ref p) (.tuple (tn false)) := Rp.made np .nil
    have s0 := Cm.same_new (o := .tup []) np
    generalize upd H p (.tup []) = H1 at ru s0 ⊢
    generalize V.ref p = u at ru ⊢
    have hz : l.sz + r.sz + 5 ≤ 100000 := Nat.le_trans (by show l.sz + r.sz + 5 ≤ l.sz + r.sz + _ + 5; omega) hsz
    refine ⟨_, rfl, _, rfl, _, rfl, nd, v1, at_, l, pl, N, rfl, hpl.same s0, r1.keep (Same.tups s0), hw1, fun x hx => hu x (List.mem_append_left _ hx), by omega, by omega, fun H2 u2 s2 ru2 => ?_⟩
    have s02 := s0.trans s2
    refine ⟨_, rfl, cat_rp ru2 (ru.keep (Same.tups s2)) (by rw [Pt.E.code_len, tn_len]; show l.sz + (if false then 1 else 0) ≤ 10000000; simp; omega) fun u3 H3 s3 ru3 => ?_⟩
    have s03 := s02.trans s3
    obtain ⟨c3, cs3, rfl, hc3, hcl3⟩ := len_rp ru3
    rw [List.length_append, Pt.E.code_len, tn_len] at hcl3
    refine ⟨_, rfl, _, rfl, _, rfl, _, rfl, c3, cs3, rfl, .inr hc3, _, _, rfl, rfl, _, _, rfl, rfl, ?_⟩
    refine ⟨nd, v2, at_ + l.sz + kn false + 1, r, pl, N, args3 (by omega), hpl.same s03, r2.keep (Same.tups s03), hw2, fun x hx => hu x (List.mem_append_right _ hx), by omega, by omega, fun H4 u4 s4 ru4 => ?_⟩
    have s04 := s03.trans s4
    refine ⟨_, rfl, cat_rp ru4 (ru.keep (Same.tups ((s2.trans s3).trans s4))) (by rw [Pt.E.code_len, tn_len]; show r.sz + (if false then 1 else 0) ≤ 10000000; simp; omega) fun u5 H5 s5 ru5 => ?_⟩
    obtain ⟨c5, cs5, rfl, hc5, hcl5⟩ := len_rp ru5
    rw [List.length_append, Pt.E.code_len, tn_len] at hcl5
    refine ⟨_, rfl, _, rfl, c3, cs3, rfl, .inr (Cm.sameT (s4.trans s5) hc3), _, _, rfl, rfl, _, _, rfl, rfl, _, rfl, c5, cs5, rfl, .inr hc5, _, _, rfl, rfl, _, _, rfl, rfl, ?_⟩
    have ru3' := ru3.keep (Same.tups (s4.trans s5))
    have s05 := s04.trans s5
    have eD : ((at_ : Int) + (cs3.length : Nat) + 1 + (cs5.length : Nat) + 3) = ((at_ + l.sz + kn false + 1 + r.sz + kn false + 3 : Nat) : Int) := by omega
    have eI : V.int ((at_ : Int) + (cs3.length : Nat) + 1 + (cs5.length : Nat) + 3) = V.int ((at_ + l.sz + kn false + 1 + r.sz + kn false + 3 : Nat) : Int) := congrArg V.int eD
    refine ⟨_, rfl, rfl, _, rfl, Cm.itES (fun e => absurd e (by decide)) (fun _ => ⟨Cm.small (by show 2 ≤ 100000; decide), fun p6 np6 => ?_⟩)⟩
    have s6 := Cm.same_new (o := .tup [.int 1, .int 0]) np6
    refine ⟨p6, _, rfl, Cm.sqt_new, rfl, _, _, rfl, _, _, rfl, rfl, ?_⟩
    have sB := s05.trans s6
    have rt := ru.keep (Same.tups ((((s2.trans s3).trans s4).trans s5).trans s6))
    have rf := ru3'.keep (Same.tups s6)
    have rs := ru5.keep (Same.tups s6)
    generalize upd H5 p6 (.tup [.int 1, .int 0]) = H6 at sB rt rf rs ⊢
    refine ⟨_, rfl, Cm.small (by show 2 ≤ 100000; decide), fun p7 np7 => ⟨_, rfl, _, _, rfl, rfl, Cm.small (by show 2 ≤ 100000; decide), fun p8 np8 => ⟨_, rfl, Cm.small (by show 2 ≤ 100000; decide), fun p9 np9 => ⟨Cm.small (by show 3 ≤ 100000; decide), fun p10 np10 => ?_⟩⟩⟩⟩
    have r7 := made (K := K) np7 (.cons (.str "push") (.cons (.int 1) .nil))
    have r8 := made (K := K) np8 (.cons (.str "jump") (.cons (intE (congrArg (· + 1) eD)) .nil))
    have r9 := made (K := K) np9 (.cons (.str "push") (.cons (.int 0) .nil))
    have s78 := Cm.same_new (o := .tup [.str "jump", .int ((at_ : Int) + (cs3.length : Nat) + 1 + (cs5.length : Nat) + 3 + 1)]) np8
    have s79 := Cm.same_new (o := .tup [.str "push", .int 0]) np9
    have s710 := Cm.same_new (o := .tup [.ref p7, .ref p8, .ref p9]) np10
    have r10 := made (K := K) np10 (.cons (r7.keep (Same.tups (s78.trans s79))) (.cons (r8.keep (Same.tups s79)) (.cons r9 .nil)))
    have s7 := (((Cm.same_new (o := .tup [.str "push", .int 1]) np7).trans s78).trans s79).trans s710
    have hlf : (l.code pl at_ ++ tn false).length = l.sz + kn false := by rw [List.length_append, Pt.E.code_len, tn_len]
    have hls : (r.code pl (at_ + l.sz + kn false + 1) ++ tn false).length = r.sz + kn false := by rw [List.length_append, Pt.E.code_len, tn_len]
    have hk : kn false ≤ 1 := by decide
    have rf7 := rf.keep (Same.tups s7)
    have rs7 := rs.keep (Same.tups s7)
    have sC := sB.trans s7
    refine ⟨_, rfl, _, rfl, Cm.small (by show 2 ≤ 100000; decide), fun p11 np11 => ⟨Cm.small (by show 1 ≤ 100000; decide), fun p12 np12 => ?_⟩⟩
    have r12 := made1 (K := K) np12 (made np11 (.cons (.str "unless") (.cons (intE eD) .nil)))
    have s11 := (Cm.same_new (o := .tup [.str "unless", .int ((at_ : Int) + (cs3.length : Nat) + 1 + (cs5.length : Nat) + 3)]) np11).trans (Cm.same_new (o := .tup [.ref p11]) np12)
    refine cat_rp (rf7.keep (Same.tups s11)) r12 (by simp only [List.length_append, List.length_cons, List.length_nil, hlf]; omega) fun u13 H13 s13 r13 => ?_
    have s113 := s11.trans s13
    refine ⟨_, rfl, cat_rp r13 (rs7.keep (Same.tups s113)) (by simp only [List.length_append, List.length_cons, List.length_nil, hlf, hls]; omega) fun u14 H14 s14 r14 => ?_⟩
    refine ⟨_, rfl, Cm.small (by show 2 ≤ 100000; decide), fun p15 np15 => ⟨Cm.small (by show 1 ≤ 100000; decide), fun p16 np16 => ?_⟩⟩
    have r16 := made1 (K := K) np16 (made np15 (.cons (.str "unless") (.cons (intE eD) .nil)))
    have s15 := (Cm.same_new (o := .tup [.str "unless", .int ((at_ : Int) + (cs3.length : Nat) + 1 + (cs5.length : Nat) + 3)]) np15).trans (Cm.same_new (o := .tup [.ref p15]) np16)
    refine cat_rp (r14.keep (Same.tups s15)) r16 (by simp only [List.length_append, List.length_cons, List.length_nil, hlf, hls]; omega) fun u17 H17 s17 r17 => ?_
    have sD := ((s113.trans s14).trans s15).trans s17
    refine ⟨_, rfl, cat_rp r17 (r10.keep (Same.tups sD)) (by simp only [List.length_append, List.length_cons, List.length_nil, hlf, hls]; omega) fun u18 H18 s18 r18 => ?_⟩
    exact q _ _ ((sC.trans sD).trans s18) r18
  · refine ⟨_, rfl, rfl, _, rfl, Cm.itES (fun _ => ⟨Cm.small (by show 1 ≤ 100000; decide), fun p np => ⟨Cm.small (by show 1 ≤ 100000; decide), fun p2 np2 => ?_⟩⟩) (fun e => absurd rfl e)⟩
    have ru : Rp K (upd (upd H p (.tup [.str "not"])) p2 (.tup [.ref p])) (.ref p2) (.tuple (tn true)) := made1 np2 (made np (.cons (.str "not") .nil))
    have s0 := (Cm.same_new (o := .tup [.str "not"]) np).trans (Cm.same_new (o := .tup [.ref p]) np2)
    generalize upd (upd H p (.tup [.str "not"])) p2 (.tup [.ref p]) = H1 at ru s0 ⊢
    generalize V.ref p2 = u at ru ⊢
    have hz : l.sz + r.sz + 5 ≤ 100000 := Nat.le_trans (by show l.sz + r.sz + 5 ≤ l.sz + r.sz + _ + 5; omega) hsz
    refine ⟨_, rfl, _, rfl, _, rfl, nd, v1, at_, l, pl, N, rfl, hpl.same s0, r1.keep (Same.tups s0), hw1, fun x hx => hu x (List.mem_append_left _ hx), by omega, by omega, fun H2 u2 s2 ru2 => ?_⟩
    have s02 := s0.trans s2
    refine ⟨_, rfl, cat_rp ru2 (ru.keep (Same.tups s2)) (by rw [Pt.E.code_len, tn_len]; show l.sz + (if true then 1 else 0) ≤ 10000000; simp; omega) fun u3 H3 s3 ru3 => ?_⟩
    have s03 := s02.trans s3
    obtain ⟨c3, cs3, rfl, hc3, hcl3⟩ := len_rp ru3
    rw [List.length_append, Pt.E.code_len, tn_len] at hcl3
    refine ⟨_, rfl, _, rfl, _, rfl, _, rfl, c3, cs3, rfl, .inr hc3, _, _, rfl, rfl, _, _, rfl, rfl, ?_⟩
    refine ⟨nd, v2, at_ + l.sz + kn true + 1, r, pl, N, args3 (by omega), hpl.same s03, r2.keep (Same.tups s03), hw2, fun x hx => hu x (List.mem_append_right _ hx), by omega, by omega, fun H4 u4 s4 ru4 => ?_⟩
    have s04 := s03.trans s4
    refine ⟨_, rfl, cat_rp ru4 (ru.keep (Same.tups ((s2.trans s3).trans s4))) (by rw [Pt.E.code_len, tn_len]; show r.sz + (if true then 1 else 0) ≤ 10000000; simp; omega) fun u5 H5 s5 ru5 => ?_⟩
    obtain ⟨c5, cs5, rfl, hc5, hcl5⟩ := len_rp ru5
    rw [List.length_append, Pt.E.code_len, tn_len] at hcl5
    refine ⟨_, rfl, _, rfl, c3, cs3, rfl, .inr (Cm.sameT (s4.trans s5) hc3), _, _, rfl, rfl, _, _, rfl, rfl, _, rfl, c5, cs5, rfl, .inr hc5, _, _, rfl, rfl, _, _, rfl, rfl, ?_⟩
    have ru3' := ru3.keep (Same.tups (s4.trans s5))
    have s05 := s04.trans s5
    have eD : ((at_ : Int) + (cs3.length : Nat) + 1 + (cs5.length : Nat) + 3) = ((at_ + l.sz + kn true + 1 + r.sz + kn true + 3 : Nat) : Int) := by omega
    have eI : V.int ((at_ : Int) + (cs3.length : Nat) + 1 + (cs5.length : Nat) + 3) = V.int ((at_ + l.sz + kn true + 1 + r.sz + kn true + 3 : Nat) : Int) := congrArg V.int eD
    refine ⟨_, rfl, rfl, _, rfl, Cm.itES (fun _ => ⟨Cm.small (by show 2 ≤ 100000; decide), fun p6 np6 => ?_⟩) (fun e => absurd rfl e)⟩
    have s6 := Cm.same_new (o := .tup [.int 0, .int 1]) np6
    refine ⟨p6, _, rfl, Cm.sqt_new, rfl, _, _, rfl, _, _, rfl, rfl, ?_⟩
    have sB := s05.trans s6
    have rt := ru.keep (Same.tups ((((s2.trans s3).trans s4).trans s5).trans s6))
    have rf := ru3'.keep (Same.tups s6)
    have rs := ru5.keep (Same.tups s6)
    generalize upd H5 p6 (.tup [.int 0, .int 1]) = H6 at sB rt rf rs ⊢
    refine ⟨_, rfl, Cm.small (by show 2 ≤ 100000; decide), fun p7 np7 => ⟨_, rfl, _, _, rfl, rfl, Cm.small (by show 2 ≤ 100000; decide), fun p8 np8 => ⟨_, rfl, Cm.small (by show 2 ≤ 100000; decide), fun p9 np9 => ⟨Cm.small (by show 3 ≤ 100000; decide), fun p10 np10 => ?_⟩⟩⟩⟩
    have r7 := made (K := K) np7 (.cons (.str "push") (.cons (.int 0) .nil))
    have r8 := made (K := K) np8 (.cons (.str "jump") (.cons (intE (congrArg (· + 1) eD)) .nil))
    have r9 := made (K := K) np9 (.cons (.str "push") (.cons (.int 1) .nil))
    have s78 := Cm.same_new (o := .tup [.str "jump", .int ((at_ : Int) + (cs3.length : Nat) + 1 + (cs5.length : Nat) + 3 + 1)]) np8
    have s79 := Cm.same_new (o := .tup [.str "push", .int 1]) np9
    have s710 := Cm.same_new (o := .tup [.ref p7, .ref p8, .ref p9]) np10
    have r10 := made (K := K) np10 (.cons (r7.keep (Same.tups (s78.trans s79))) (.cons (r8.keep (Same.tups s79)) (.cons r9 .nil)))
    have s7 := (((Cm.same_new (o := .tup [.str "push", .int 0]) np7).trans s78).trans s79).trans s710
    have hlf : (l.code pl at_ ++ tn true).length = l.sz + kn true := by rw [List.length_append, Pt.E.code_len, tn_len]
    have hls : (r.code pl (at_ + l.sz + kn true + 1) ++ tn true).length = r.sz + kn true := by rw [List.length_append, Pt.E.code_len, tn_len]
    have hk : kn true ≤ 1 := by decide
    have rf7 := rf.keep (Same.tups s7)
    have rs7 := rs.keep (Same.tups s7)
    have sC := sB.trans s7
    refine ⟨_, rfl, _, rfl, Cm.small (by show 2 ≤ 100000; decide), fun p11 np11 => ⟨Cm.small (by show 1 ≤ 100000; decide), fun p12 np12 => ?_⟩⟩
    have r12 := made1 (K := K) np12 (made np11 (.cons (.str "unless") (.cons (intE eD) .nil)))
    have s11 := (Cm.same_new (o := .tup [.str "unless", .int ((at_ : Int) + (cs3.length : Nat) + 1 + (cs5.length : Nat) + 3)]) np11).trans (Cm.same_new (o := .tup [.ref p11]) np12)
    refine cat_rp (rf7.keep (Same.tups s11)) r12 (by simp only [List.length_append, List.length_cons, List.length_nil, hlf]; omega) fun u13 H13 s13 r13 => ?_
    have s113 := s11.trans s13
    refine ⟨_, rfl, cat_rp r13 (rs7.keep (Same.tups s113)) (by simp only [List.length_append, List.length_cons, List.length_nil, hlf, hls]; omega) fun u14 H14 s14 r14 => ?_⟩
    refine ⟨_, rfl, Cm.small (by show 2 ≤ 100000; decide), fun p15 np15 => ⟨Cm.small (by show 1 ≤ 100000; decide), fun p16 np16 => ?_⟩⟩
    have r16 := made1 (K := K) np16 (made np15 (.cons (.str "unless") (.cons (intE eD) .nil)))
    have s15 := (Cm.same_new (o := .tup [.str "unless", .int ((at_ : Int) + (cs3.length : Nat) + 1 + (cs5.length : Nat) + 3)]) np15).trans (Cm.same_new (o := .tup [.ref p15]) np16)
    refine cat_rp (r14.keep (Same.tups s15)) r16 (by simp only [List.length_append, List.length_cons, List.length_nil, hlf, hls]; omega) fun u17 H17 s17 r17 => ?_
    have sD := ((s113.trans s14).trans s15).trans s17
    refine ⟨_, rfl, cat_rp r17 (r10.keep (Same.tups sD)) (by simp only [List.length_append, List.length_cons, List.length_nil, hlf, hls]; omega) fun u18 H18 s18 r18 => ?_⟩
    exact q _ _ ((sC.trans sD).trans s18) r18
theorem step_expr (T : Txt K mg w a) (d : Nat) (ih : FnOk P w K mg base CX0 (3 * d + 1) (He.ga K "_expression_code") a.d_expression_code pX (spX K d)) :
    FnOk P w K mg base CX0 (3 * (d + 1) + 1) (He.ga K "_expression_code") a.d_expression_code pX (spX K (d + 1)) := by
  have gr := ok_row T d ih
  have gc := ok_call T d gr
  have go := ok_chc T d ih
  refine T.F_expression_code.ok sc_expression_code (fun vs H Q E h => ?_) (fun cdv A outer s H vs Q E hr h => ?_)
  · obtain ⟨_, _, _, _, _, _, rfl, _⟩ := h
    rfl
  obtain ⟨nd, v, at_, e, pl, N, rfl, hpl, hv, hw, hu, hd, hsz, q⟩ := h
  refine ⟨_, PSs.nox (pss_cons (ps_set (i := 3) sc_expression_code.nd rfl (Or.inl rfl) (pe_ix ix_tup (pv 1) pe_int (fun _ _ => rfl)))
      (pss_cons (ps_if (pt_cmpR op_eq (pv 3) pe_str (nomark _)) (pss_one (ps_ret (pe_tup (pa_cons (pe_tup (pa_cons pe_str (pa_cons (pe_ix ix_tup (pv 1) pe_int (fun _ _ => rfl)) pa_nil))) pa_nil)))) pss_nil)
      (pss_cons (ps_if (pt_cmpR op_eq (pv 3) pe_str (nomark _)) (pss_one (ps_ret (pe_tup (pa_cons (pe_dget (hu_of hr) (pv 0) (pe_ix ix_tup (pv 1) pe_int (fun _ _ => rfl)) (fun _ _ => rfl)) pa_nil)))) pss_nil)
      (pss_cons (ps_if (PW.pt (pw_or (pt_cmpR op_eq (pv 3) pe_str (nomark _)) (pw_or1 (pt_cmpR op_eq (pv 3) pe_str (nomark _))))) (pss_one (ps_ret (pe_call go (hr.mono (by omega)) (by rfl) T.g_choice_code T.F_choice_code.kp T.b_choice_code .nil pass0 (pa_cons (pv 0) (pa_cons (pv 1) (pa_cons (pv 2) pa_nil)))))) pss_nil)
      (pss_cons (ps_if (pt_cmpR op_eq (pv 3) pe_str (nomark _)) (pss_one (ps_ret (pe_call gc (hr.mono (by omega)) (by rfl) T.g_call_code T.F_call_code.kp T.b_call_code .nil pass0 (pa_cons (pv 0) (pa_cons (pv 1) (pa_cons (pv 2) pa_nil)))))) pss_nil)
      (pss_cons (ps_if (pt_cmpR op_eq (pv 3) pe_str (nomark _)) (pss_one (ps_ret (pe_op op_catA (pe_call gr (hr.mono (by omega)) (by rfl) T.g_row_code T.F_row_code.kp T.b_row_code .nil pass0 (pa_cons (pv 0) (pa_cons (pe_ix ix_tup (pv 1) pe_int (fun _ _ => rfl)) (pa_cons (pv 2) pa_nil)))) (pe_tup (pa_cons (pe_tup (pa_cons pe_str (pa_cons (pe_ix ix_tup (pv 1) pe_int (fun _ _ => rfl)) (pa_cons (pe_callB call_len_seq (by rfl) T.g_len boot_len (pa_cons (pe_ix ix_tup (pv 1) pe_int (fun _ _ => rfl)) pa_nil)) pa_nil)))) pa_nil))))) pss_nil)
      (pss_one (ps_ret (pe_op op_catA (pe_call gr (hr.mono (by omega)) (by rfl) T.g_row_code T.F_row_code.kp T.b_row_code .nil pass0 (pa_cons (pv 0) (pa_cons (pe_slice sl_tupA (pv 1) (po_some pe_int) po_none) (pa_cons (pv 2) pa_nil)))) (pe_tup (pa_cons (pe_tup (pa_cons (pv 3) pa_nil)) pa_nil))))))))))), ?_⟩
  have s0 := Same.refl H
  cases e with
  | int n =>
    refine ⟨_, rfl, ix_rp (i := 0) hv rfl fun v0 rv0 => ?_⟩
    cases rv0.str_inv
    refine ⟨_, rfl, rfl, _, rfl, Cm.itES (fun _ => ?_) (fun e => absurd rfl e)⟩
    refine ⟨_, rfl, ix_rp (i := 1) hv rfl fun v1 rv1 => ⟨Cm.small (by show 2 ≤ 100000; decide), fun p np => ⟨Cm.small (by show 1 ≤ 100000; decide), fun p2 np2 => ?_⟩⟩⟩
    exact q _ _ ((Cm.same_new np).trans (Cm.same_new np2)) (made1 np2 (made np (.cons (.str "push") (.cons rv1 .nil))))
  | name x =>
    refine ⟨_, rfl, ix_rp (i := 0) hv rfl fun v0 rv0 => ?_⟩
    cases rv0.str_inv
    refine ⟨_, rfl, rfl, _, rfl, Cm.itES (fun e => absurd e (by decide)) (fun _ => ?_)⟩
    refine ⟨_, rfl, rfl, _, rfl, Cm.itES (fun _ => ?_) (fun e => absurd rfl e)⟩
    obtain ⟨kvs, hk, hx⟩ := hpl
    obtain ⟨_, u, hu1, ru⟩ := hx x (hu x (List.mem_cons_self))
    have gx : DGet H nd (.str x) (some u) := by
      rw [← hu1]
      exact DGet.k (k := .inr x) hk
    refine ⟨_, rfl, _, rfl, ?_⟩
    obtain ⟨b, vs, rfl, hb, hvs⟩ := hv.tup_inv
    obtain ⟨v0, vs, rfl, r0, hvs⟩ := hvs.cons_inv
    obtain ⟨v1, vs, rfl, r1, hvs⟩ := hvs.cons_inv
    cases hvs.nil_inv
    cases r1.str_inv
    exact ⟨b, _, _, _, rfl, rfl, hb, rfl, nd, u, rfl, gx, Cm.small (by show 1 ≤ 100000; decide), fun p np => q _ _ (Cm.same_new np) (made1 np ru)⟩
  | choice o l r =>
    refine ⟨_, rfl, ix_rp (i := 0) hv rfl fun v0 rv0 => ?_⟩
    cases rv0.str_inv
    have n1 : ¬ cw o = "int" := by cases o <;> decide
    have n2 : ¬ cw o = "name" := by cases o <;> decide
    refine ⟨_, rfl, rfl, _, rfl, Cm.itES (fun e => absurd e n1) (fun _ => ?_)⟩
    refine ⟨_, rfl, rfl, _, rfl, Cm.itES (fun e => absurd e n2) (fun _ => ?_)⟩
    refine (fun hA => ⟨_, rfl, rfl, _, rfl, Cm.itES (fun _ => hA) (fun n3 => ⟨_, rfl, rfl, _, rfl, Cm.itES (fun _ => hA) (fun n4 => ?_)⟩)⟩) ?_
    · refine iteT ?_
      exact ⟨_, rfl, _, rfl, _, rfl, nd, v, at_, o, l, r, pl, N, rfl, hpl, hv, hw, hu, by have : max l.dep r.dep + 1 < d + 1 := hd; omega, hsz, q⟩
    · cases o
      · exact absurd rfl n3
      · exact absurd rfl n4
  | call r f as =>
    refine ⟨_, rfl, ix_rp (i := 0) hv rfl fun v0 rv0 => ?_⟩
    cases rv0.str_inv
    refine ⟨_, rfl, rfl, _, rfl, Cm.itES (fun e => absurd e (by decide)) (fun _ => ?_)⟩
    refine ⟨_, rfl, rfl, _, rfl, Cm.itES (fun e => absurd e (by decide)) (fun _ => ?_)⟩
    refine ⟨_, rfl, rfl, _, rfl, Cm.itES (fun e => absurd e (by decide)) (fun _ => ⟨_, rfl, rfl, _, rfl, Cm.itES (fun e => absurd e (by decide)) (fun _ => ?_)⟩)⟩
    refine ⟨_, rfl, rfl, _, rfl, Cm.itES (fun _ => ?_) (fun e => absurd rfl e)⟩
    have hz : r.sz + as.sz + 1 ≤ 100000 := hsz
    exact ⟨_, rfl, _, rfl, _, rfl, nd, v, at_, "call", r, f, as, pl, N, rfl, hpl, hv, hw, hu, by have : max r.dep as.dep + 1 < d + 1 := hd; omega, by omega, q⟩
  | new m as =>
    refine ⟨_, rfl, ix_rp (i := 0) hv rfl fun v0 rv0 => ?_⟩
    cases rv0.str_inv
    refine ⟨_, rfl, rfl, _, rfl, Cm.itES (fun e => absurd e (by decide)) (fun _ => ?_)⟩
    refine ⟨_, rfl, rfl, _, rfl, Cm.itES (fun e => absurd e (by decide)) (fun _ => ?_)⟩
    refine ⟨_, rfl, rfl, _, rfl, Cm.itES (fun e => absurd e (by decide)) (fun _ => ⟨_, rfl, rfl, _, rfl, Cm.itES (fun e => absurd e (by decide)) (fun _ => ?_)⟩)⟩
    refine ⟨_, rfl, rfl, _, rfl, Cm.itES (fun e => absurd e (by decide)) (fun _ => ?_)⟩
    refine ⟨_, rfl, rfl, _, rfl, Cm.itES (fun _ => ?_) (fun e => absurd rfl e)⟩
    have hz : as.sz + 1 ≤ 100000 := hsz
    refine ⟨_, rfl, _, rfl, ?_⟩
    unfold tC
    dsimp only
    refine ix_rp (i := 2) hv rfl fun v2 rv2 => ⟨_, rfl, ?_⟩
    refine ⟨nd, v2, at_, as, pl, N, rfl, hpl, rv2, hw, hu, by have : as.dep + 1 < d + 1 := hd; omega, by omega, fun H1 u1 s1 ru1 => ?_⟩
    have hv1 := hv.keep (Same.tups s1)
    refine ⟨_, rfl, ix_rp (i := 1) hv1 rfl fun v3 rv3 => ⟨_, rfl, ix_rp (i := 2) hv1 rfl fun v4 rv4 => ?_⟩⟩
    cases rv3.str_inv
    obtain ⟨c, cs, rfl, hc, hcl⟩ := len_rp rv4
    rw [Es.ds_len] at hcl
    refine ⟨c, cs, rfl, .inr hc, Cm.small (by show 3 ≤ 100000; decide), fun p np => ⟨Cm.small (by show 1 ≤ 100000; decide), fun p2 np2 => ?_⟩⟩
    have r2 := made1 (K := K) np2 (made np (.cons (.str "new") (.cons (.str m) (.cons (intE (congrArg (Int.ofNat) hcl)) .nil))))
    have s2 := (Cm.same_new (o := .tup [.str "new", .str m, .int (cs.length : Int)]) np).trans (Cm.same_new (o := .tup [.ref p]) np2)
    exact cat_rp (ru1.keep (Same.tups s2)) r2 (by rw [Es.code_len]; show as.sz + 1 ≤ 10000000; omega) fun u5 H5 s5 r5 => q _ _ ((s1.trans s2).trans s5) r5
  | plain wd as =>
    obtain ⟨hw1, hw2⟩ := Bool.and_eq_true_iff.mp hw
    have hm : wd ∈ plainE := of_decide_eq_true (Bool.and_eq_true_iff.mp hw1).1
    have no : ∀ x ∈ plainE, ¬ x = Str.ofString "int" ∧ ¬ x = Str.ofString "name" ∧ ¬ x = Str.ofString "and" ∧ ¬ x = Str.ofString "or" ∧ ¬ x = Str.ofString "call" ∧ ¬ x = Str.ofString "new" := by decide +kernel
    obtain ⟨n1, n2, n3, n4, n5, n6⟩ := no wd hm
    refine ⟨_, rfl, ix_rp (i := 0) hv rfl fun v0 rv0 => ?_⟩
    cases rv0.str_inv
    refine ⟨_, rfl, rfl, _, rfl, Cm.itES (fun e => absurd e n1) (fun _ => ?_)⟩
    refine ⟨_, rfl, rfl, _, rfl, Cm.itES (fun e => absurd e n2) (fun _ => ?_)⟩
    refine ⟨_, rfl, rfl, _, rfl, Cm.itES (fun e => absurd e n3) (fun _ => ⟨_, rfl, rfl, _, rfl, Cm.itES (fun e => absurd e n4) (fun _ => ?_)⟩)⟩
    refine ⟨_, rfl, rfl, _, rfl, Cm.itES (fun e => absurd e n5) (fun _ => ?_)⟩
    refine ⟨_, rfl, rfl, _, rfl, Cm.itES (fun e => absurd e n6) (fun _ => ?_)⟩
    have hz : as.sz + 1 ≤ 100000 := hsz
    refine ⟨_, rfl, _, rfl, ?_⟩
    unfold tPart tNoPart tC
    dsimp only
    refine ⟨1, rfl, ?_⟩
    refine from_rp (k := 1) hv (Nat.le_add_left 1 _) fun u1 H1 s1 ru1 => ⟨_, rfl, ?_⟩
    refine ⟨nd, u1, at_, as, pl, N, rfl, hpl.same s1, ru1, hw2, hu, by have : as.dep + 1 < d + 1 := hd; omega, by omega, fun H2 u2 s2 ru2 => ?_⟩
    refine ⟨_, rfl, Cm.small (by show 1 ≤ 100000; decide), fun p np => ⟨Cm.small (by show 1 ≤ 100000; decide), fun p2 np2 => ?_⟩⟩
    have r2 := made1 (K := K) np2 (made np (.cons (.str wd) .nil))
    have s3 := (Cm.same_new (o := .tup [.str wd]) np).trans (Cm.same_new (o := .tup [.ref p]) np2)
    exact cat_rp (ru2.keep (Same.tups s3)) r2 (by rw [Es.code_len]; show as.sz + 1 ≤ 10000000; omega) fun u5 H5 s5 r5 => q _ _ (((s1.trans s2).trans s3).trans s5) r5
theorem ok_expr (T : Txt K mg w a) : ∀ d : Nat, FnOk P w K mg base CX0 (3 * d + 1) (He.ga K "_expression_code") a.d_expression_code pX (spX K d)
  | 0 => vac fun vs H Q E h => by
    obtain ⟨_, _, _, e, _, _, _, _, _, _, _, hd, _⟩ := h
    exact absurd hd (Nat.not_lt_zero e.dep)
  | d + 1 => step_expr T d (ok_expr T d)
/-! ### the compiler: statements -/
abbrev pS : List Str := ["names", "statement", "at"]
abbrev pB : List Str := ["names", "block", "at"]
def spBc (K : PySem.W.Frag) (d : Nat) : Sp := fun vs H Q _ => ∃ (nd : Addr) (v : V) (at_ : Nat) (b : Ss) (pl : Plc) (N : List Str), vs = [.ref nd, v, .int at_] ∧ PlAt K H nd pl N ∧ Rp K H v (.tuple b.ds) ∧ b.wf = true ∧ (∀ x ∈ b.uses, x ∈ N) ∧ b.dep < d ∧ b.sz ≤ 100000 ∧
  ∀ (H' : Hp) (u : V), Same H H' → Rp K H' u (.tuple (b.code pl at_)) → Q u H'
def spSc (K : PySem.W.Frag) (d : Nat) : Sp := fun vs H Q _ => ∃ (nd : Addr) (v : V) (at_ : Nat) (b : S) (pl : Plc) (N : List Str), vs = [.ref nd, v, .int at_] ∧ PlAt K H nd pl N ∧ Rp K H v b.d ∧ b.wf = true ∧ (∀ x ∈ b.uses, x ∈ N) ∧ b.dep < d ∧ b.sz ≤ 100000 ∧
  ∀ (H' : Hp) (u : V), Same H H' → Rp K H' u (.tuple (b.code pl at_)) → Q u H'
def spIc (K : PySem.W.Frag) (d : Nat) : Sp := fun vs H Q _ => ∃ (nd : Addr) (v : V) (at_ : Nat) (e : E) (b c : Ss) (pl : Plc) (N : List Str), vs = [.ref nd, v, .int at_] ∧ PlAt K H nd pl N ∧ Rp K H v (S.ifS e b c).d ∧ (S.ifS e b c).wf = true ∧ (∀ x ∈ (S.ifS e b c).uses, x ∈ N) ∧ (S.ifS e b c).dep < d ∧ (S.ifS e b c).sz ≤ 100000 ∧
  ∀ (H' : Hp) (u : V), Same H H' → Rp K H' u (.tuple ((S.ifS e b c).code pl at_)) → Q u H'
def spWc (K : PySem.W.Frag) (d : Nat) : Sp := fun vs H Q _ => ∃ (nd : Addr) (v : V) (at_ : Nat) (e : E) (b : Ss) (pl : Plc) (N : List Str), vs = [.ref nd, v, .int at_] ∧ PlAt K H nd pl N ∧ Rp K H v (S.whileS e b).d ∧ (S.whileS e b).wf = true ∧ (∀ x ∈ (S.whileS e b).uses, x ∈ N) ∧ (S.whileS e b).dep < d ∧ (S.whileS e b).sz ≤ 100000 ∧
  ∀ (H' : Hp) (u : V), Same H H' → Rp K H' u (.tuple ((S.whileS e b).code pl at_)) → Q u H'
theorem ok_while (T : Txt K mg w a) (d : Nat) (hd13 : d ≤ 12) (gx : FnOk P w K mg base CX0 40 (He.ga K "_expression_code") a.d_expression_code pX (spX K 13))
    (gb : FnOk P w K mg base CX0 (3 * d + 44) (He.ga K "_block_code") a.d_block_code pB (spBc K d)) :
    FnOk P w K mg base CX0 (3 * d + 45) (He.ga K "_while_code") a.d_while_code pS (spWc K (d + 1)) := by
  refine T.F_while_code.ok sc_while_code (fun vs H Q E h => ?_) (fun cdv A outer s H vs Q E hr h => ?_)
  · obtain ⟨_, _, _, _, _, _, _, rfl, _⟩ := h
    rfl
  obtain ⟨nd, v, at_, e, bl, pl, N, rfl, hpl, hv, hw, hu, hd, hsz, q⟩ := h
  refine ⟨_, PSs.nox (pss_cons (ps_set (i := 3) sc_while_code.nd rfl (Or.inl rfl) (pe_call gx (hr.mono (by omega)) (by rfl) T.g_expression_code T.F_expression_code.kp T.b_expression_code .nil pass0 (pa_cons (pv 0) (pa_cons (pe_ix ix_tup (pv 1) pe_int (fun _ _ => rfl)) (pa_cons (pv 2) pa_nil)))))
      (pss_cons (ps_set (i := 4) sc_while_code.nd rfl (Or.inl rfl) (pe_call gb (hr.mono (by omega)) (by rfl) T.g_block_code T.F_block_code.kp T.b_block_code .nil pass0 (pa_cons (pv 0) (pa_cons (pe_ix ix_tup (pv 1) pe_int (fun _ _ => rfl)) (pa_cons (pe_op op_add (pe_op op_add (pv 2) (pe_callB call_len_seq (by rfl) T.g_len boot_len (pa_cons (pv 3) pa_nil))) pe_int) pa_nil)))))
      (pss_cons (ps_set (i := 5) sc_while_code.nd rfl (Or.inl rfl) (pe_op op_add (pe_op op_add (pe_op op_add (pe_op op_add (pv 2) (pe_callB call_len_seq (by rfl) T.g_len boot_len (pa_cons (pv 3) pa_nil))) pe_int) (pe_callB call_len_seq (by rfl) T.g_len boot_len (pa_cons (pv 4) pa_nil))) pe_int))
      (pss_one (ps_ret (pe_op op_catA (pe_op op_catA (pe_op op_catA (pv 3) (pe_tup (pa_cons (pe_tup (pa_cons pe_str (pa_cons (pv 5) pa_nil))) pa_nil))) (pv 4)) (pe_tup (pa_cons (pe_tup (pa_cons pe_str (pa_cons (pv 2) pa_nil))) pa_nil)))))))), ?_⟩
  obtain ⟨b, vs, rfl, hb, hvs⟩ := hv.tup_inv
  obtain ⟨v0, vs, rfl, r0, hvs⟩ := hvs.cons_inv
  obtain ⟨v1, vs, rfl, r1, hvs⟩ := hvs.cons_inv
  obtain ⟨v2, vs, rfl, r2, hvs⟩ := hvs.cons_inv
  cases hvs.nil_inv
  cases r0.str_inv
  obtain ⟨hw1, hw2⟩ := Bool.and_eq_true_iff.mp hw
  have hz : e.sz + bl.sz + 2 ≤ 100000 := hsz
  have hdd : max e.dep bl.dep + 1 < d + 1 := hd
  refine ⟨_, rfl, _, rfl, b, _, _, v1, rfl, rfl, hb, rfl, _, rfl, ?_⟩
  refine ⟨nd, v1, at_, e, pl, N, rfl, hpl, r1, hw1, fun x hx => hu x (List.mem_append_left _ hx), by omega, by omega, fun H1 u1 s1 ru1 => ?_⟩
  obtain ⟨c1, cs1, rfl, hc1, hcl1⟩ := len_rp ru1
  rw [Pt.E.code_len] at hcl1
  refine ⟨_, rfl, _, rfl, b, _, _, v2, rfl, rfl, Cm.sameT s1 hb, rfl, _, rfl, _, rfl, c1, cs1, rfl, .inr hc1, _, _, rfl, rfl, _, _, rfl, rfl, ?_⟩
  refine ⟨nd, v2, at_ + e.sz + 1, bl, pl, N, args3 (by omega), hpl.same s1, r2.keep (Same.tups s1), hw2, fun x hx => hu x (List.mem_append_right _ hx), by omega, by omega, fun H2 u2 s2 ru2 => ?_⟩
  obtain ⟨c2, cs2, rfl, hc2, hcl2⟩ := len_rp ru2
  rw [Ss.code_len] at hcl2
  refine ⟨_, rfl, _, rfl, c1, cs1, rfl, .inr (Cm.sameT s2 hc1), _, _, rfl, rfl, _, _, rfl, rfl, _, rfl, c2, cs2, rfl, .inr hc2, _, _, rfl, rfl, _, _, rfl, rfl, ?_⟩
  have eD : ((at_ : Int) + (cs1.length : Nat) + 1 + (cs2.length : Nat) + 1) = ((at_ + e.sz + 1 + bl.sz + 1 : Nat) : Int) := by omega
  refine ⟨_, rfl, _, rfl, Cm.small (by show 2 ≤ 100000; decide), fun p3 np3 => ⟨Cm.small (by show 1 ≤ 100000; decide), fun p4 np4 => ?_⟩⟩
  have r4 := made1 (K := K) np4 (made np3 (.cons (.str "unless") (.cons (intE eD) .nil)))
  have s4 := (Cm.same_new (o := .tup [.str "unless", .int ((at_ : Int) + (cs1.length : Nat) + 1 + (cs2.length : Nat) + 1)]) np3).trans (Cm.same_new (o := .tup [.ref p3]) np4)
  have s24 := s2.trans s4
  refine cat_rp (ru1.keep (Same.tups s24)) r4 (by simp only [List.length_append, List.length_cons, List.length_nil, Pt.E.code_len]; omega) fun u5 H5 s5 r5 => ?_
  refine ⟨_, rfl, cat_rp r5 (ru2.keep (Same.tups (s4.trans s5))) (by simp only [List.length_append, List.length_cons, List.length_nil, Pt.E.code_len, Ss.code_len]; omega) fun u6 H6 s6 r6 => ?_⟩
  refine ⟨_, rfl, Cm.small (by show 2 ≤ 100000; decide), fun p7 np7 => ⟨Cm.small (by show 1 ≤ 100000; decide), fun p8 np8 => ?_⟩⟩
  have r8 := made1 (K := K) np8 (made np7 (.cons (.str "jump") (.cons (.int (at_ : Int)) .nil)))
  have s8 := (Cm.same_new (o := .tup [.str "jump", .int (at_ : Int)]) np7).trans (Cm.same_new (o := .tup [.ref p7]) np8)
  refine cat_rp (r6.keep (Same.tups s8)) r8 (by simp only [List.length_append, List.length_cons, List.length_nil, Pt.E.code_len, Ss.code_len]; omega) fun u9 H9 s9 r9 => ?_
  exact q _ _ (((((s1.trans s24).trans s5).trans s6).trans s8).trans s9) r9
theorem ifsz {e : E} {b c : Ss} {n : Nat} (h : (S.ifS e b c).sz ≤ n) : e.sz + 1 + b.sz + c.sz ≤ n := by
  cases c with
  | nil => exact h
  | cons s ss =>
    have h' : e.sz + 1 + b.sz + 1 + (Ss.cons s ss).sz ≤ n := h
    omega
theorem ok_if (T : Txt K mg w a) (d : Nat) (hd13 : d ≤ 12) (gx : FnOk P w K mg base CX0 40 (He.ga K "_expression_code") a.d_expression_code pX (spX K 13))
    (gb : FnOk P w K mg base CX0 (3 * d + 44) (He.ga K "_block_code") a.d_block_code pB (spBc K d)) :
    FnOk P w K mg base CX0 (3 * d + 45) (He.ga K "_if_code") a.d_if_code pS (spIc K (d + 1)) := by
  refine T.F_if_code.ok sc_if_code (fun vs H Q E h => ?_) (fun cdv A outer s H vs Q E hr h => ?_)
  · obtain ⟨_, _, _, _, _, _, _, _, rfl, _⟩ := h
    rfl
  obtain ⟨nd, v, at_, e, bl, cl, pl, N, rfl, hpl, hv, hw, hu, hd, hsz, q⟩ := h
  refine ⟨_, PSs.nox (pss_cons (ps_asg (pv 1) (pg_tup (by rfl) (pgs_cons (pg_name (i := 3) sc_if_code.nd rfl (Or.inl rfl)) (pgs_cons (pg_name (i := 4) sc_if_code.nd rfl (Or.inl rfl)) (pgs_cons (pg_name (i := 5) sc_if_code.nd rfl (Or.inl rfl)) (pgs_cons (pg_name (i := 6) sc_if_code.nd rfl (Or.inl rfl)) pgs_nil))))))
      (pss_cons (ps_set (i := 7) sc_if_code.nd rfl (Or.inl rfl) (pe_call gx (hr.mono (by omega)) (by rfl) T.g_expression_code T.F_expression_code.kp T.b_expression_code .nil pass0 (pa_cons (pv 0) (pa_cons (pv 4) (pa_cons (pv 2) pa_nil)))))
      (pss_cons (ps_set (i := 8) sc_if_code.nd rfl (Or.inl rfl) (pe_call gb (hr.mono (by omega)) (by rfl) T.g_block_code T.F_block_code.kp T.b_block_code .nil pass0 (pa_cons (pv 0) (pa_cons (pv 5) (pa_cons (pe_op op_add (pe_op op_add (pv 2) (pe_callB call_len_seq (by rfl) T.g_len boot_len (pa_cons (pv 7) pa_nil))) pe_int) pa_nil)))))
      (pss_cons (ps_set (i := 9) sc_if_code.nd rfl (Or.inl rfl) (pe_op op_add (pe_op op_add (pe_op op_add (pv 2) (pe_callB call_len_seq (by rfl) T.g_len boot_len (pa_cons (pv 7) pa_nil))) pe_int) (pe_callB call_len_seq (by rfl) T.g_len boot_len (pa_cons (pv 8) pa_nil))))
      (pss_cons (ps_if (pt_cmpR op_eq (pe_callB call_len_seq (by rfl) T.g_len boot_len (pa_cons (pv 6) pa_nil)) pe_int (nomark _)) (pss_one (ps_ret (pe_op op_catA (pe_op op_catA (pv 7) (pe_tup (pa_cons (pe_tup (pa_cons pe_str (pa_cons (pv 9) pa_nil))) pa_nil))) (pv 8)))) pss_nil)
      (pss_cons (ps_set (i := 10) sc_if_code.nd rfl (Or.inl rfl) (pe_call gb (hr.mono (by omega)) (by rfl) T.g_block_code T.F_block_code.kp T.b_block_code .nil pass0 (pa_cons (pv 0) (pa_cons (pv 6) (pa_cons (pe_op op_add (pv 9) pe_int) pa_nil)))))
      (pss_one (ps_ret (pe_op op_catA (pe_op op_catA (pe_op op_catA (pe_op op_catA (pv 7) (pe_tup (pa_cons (pe_tup (pa_cons pe_str (pa_cons (pe_op op_add (pv 9) pe_int) pa_nil))) pa_nil))) (pv 8)) (pe_tup (pa_cons (pe_tup (pa_cons pe_str (pa_cons (pe_op op_add (pe_op op_add (pv 9) pe_int) (pe_callB call_len_seq (by rfl) T.g_len boot_len (pa_cons (pv 10) pa_nil))) pa_nil))) pa_nil))) (pv 10)))))))))), ?_⟩
  obtain ⟨b, vs, rfl, hb, hvs⟩ := hv.tup_inv
  obtain ⟨v0, vs, rfl, r0, hvs⟩ := hvs.cons_inv
  obtain ⟨v1, vs, rfl, r1, hvs⟩ := hvs.cons_inv
  obtain ⟨v2, vs, rfl, r2, hvs⟩ := hvs.cons_inv
  obtain ⟨v3, vs, rfl, r3, hvs⟩ := hvs.cons_inv
  cases hvs.nil_inv
  cases r0.str_inv
  obtain ⟨hw1, hw2⟩ := Bool.and_eq_true_iff.mp hw
  obtain ⟨hw2, hw3⟩ := Bool.and_eq_true_iff.mp hw2
  have hz : e.sz + 1 + bl.sz + cl.sz ≤ 100000 := ifsz hsz
  have hdd : max e.dep (max bl.dep cl.dep) + 1 < d + 1 := hd
  have hu1 : ∀ x ∈ e.uses, x ∈ N := fun x hx => hu x (List.mem_append_left _ hx)
  have hu2 : ∀ x ∈ bl.uses, x ∈ N := fun x hx => hu x (List.mem_append_right _ (List.mem_append_left _ hx))
  have hu3 : ∀ x ∈ cl.uses, x ∈ N := fun x hx => hu x (List.mem_append_right _ (List.mem_append_right _ hx))
  refine ⟨_, rfl, b, _, rfl, hb, rfl, _, _, rfl, _, _, rfl, _, _, rfl, _, _, rfl, rfl, ?_⟩
  refine ⟨_, rfl, _, rfl, _, rfl, ?_⟩
  refine ⟨nd, v1, at_, e, pl, N, rfl, hpl, r1, hw1, hu1, by omega, by omega, fun H1 u1 s1 ru1 => ?_⟩
  obtain ⟨c1, cs1, rfl, hc1, hcl1⟩ := len_rp ru1
  rw [Pt.E.code_len] at hcl1
  refine ⟨_, rfl, _, rfl, _, rfl, _, rfl, c1, cs1, rfl, .inr hc1, _, _, rfl, rfl, _, _, rfl, rfl, ?_⟩
  refine ⟨nd, v2, at_ + e.sz + 1, bl, pl, N, args3 (by omega), hpl.same s1, r2.keep (Same.tups s1), hw2, hu2, by omega, by omega, fun H2 u2 s2 ru2 => ?_⟩
  obtain ⟨c2, cs2, rfl, hc2, hcl2⟩ := len_rp ru2
  rw [Ss.code_len] at hcl2
  refine ⟨_, rfl, _, rfl, c1, cs1, rfl, .inr (Cm.sameT s2 hc1), _, _, rfl, rfl, _, _, rfl, rfl, _, rfl, c2, cs2, rfl, .inr hc2, _, _, rfl, rfl, ?_⟩
  have eD : ((at_ : Int) + (cs1.length : Nat) + 1 + (cs2.length : Nat)) = ((at_ + e.sz + 1 + bl.sz : Nat) : Int) := by omega
  have s02 := s1.trans s2
  obtain ⟨c3, cs3, rfl, hc3, hcl3⟩ := len_rp (r3.keep (Same.tups s02))
  refine ⟨_, rfl, c3, cs3, rfl, .inr hc3, ?_⟩
  cases cl with
  | nil =>
    have e3 : (cs3.length : Int) = 0 := by rw [hcl3]; rfl
    refine ⟨rfl, _, rfl, Cm.itEI (fun _ => ?_) (fun n => absurd e3 n)⟩
    refine ⟨_, rfl, _, rfl, Cm.small (by show 2 ≤ 100000; decide), fun p3 np3 => ⟨Cm.small (by show 1 ≤ 100000; decide), fun p4 np4 => ?_⟩⟩
    have r4 := made1 (K := K) np4 (made np3 (.cons (.str "unless") (.cons (intE eD) .nil)))
    have s4 := (Cm.same_new (o := .tup [.str "unless", .int ((at_ : Int) + (cs1.length : Nat) + 1 + (cs2.length : Nat))]) np3).trans (Cm.same_new (o := .tup [.ref p3]) np4)
    have s24 := s2.trans s4
    refine cat_rp (ru1.keep (Same.tups s24)) r4 (by simp only [List.length_append, List.length_cons, List.length_nil, Pt.E.code_len]; omega) fun u5 H5 s5 r5 => ?_
    refine ⟨_, rfl, cat_rp r5 (ru2.keep (Same.tups (s4.trans s5))) (by simp only [List.length_append, List.length_cons, List.length_nil, Pt.E.code_len, Ss.code_len]; omega) fun u6 H6 s6 r6 => ?_⟩
    exact q _ _ (((s1.trans s24).trans s5).trans s6) r6
  | cons st ss =>
    have e3 : ¬ (cs3.length : Int) = 0 := by
      rw [hcl3]
      show ¬ ((ss.ds.length + 1 : Nat) : Int) = 0
      omega
    have hz' : e.sz + 1 + bl.sz + 1 + (Ss.cons st ss).sz ≤ 100000 := hsz
    refine ⟨rfl, _, rfl, Cm.itEI (fun n => absurd n e3) (fun _ => ?_)⟩
    refine ⟨_, rfl, _, rfl, _, rfl, _, _, rfl, rfl, ?_⟩
    refine ⟨nd, .ref c3, at_ + e.sz + 1 + bl.sz + 1, .cons st ss, pl, N, args3 (by omega), hpl.same s02, r3.keep (Same.tups s02), hw3, hu3, by omega, by omega, fun H3 u3 s3 ru3 => ?_⟩
    obtain ⟨c4, cs4, rfl, hc4, hcl4⟩ := len_rp ru3
    rw [Ss.code_len] at hcl4
    have eE : ((at_ : Int) + (cs1.length : Nat) + 1 + (cs2.length : Nat) + 1) = ((at_ + e.sz + 1 + bl.sz + 1 : Nat) : Int) := by omega
    have eF : ((at_ : Int) + (cs1.length : Nat) + 1 + (cs2.length : Nat) + 1 + (cs4.length : Nat)) = ((at_ + e.sz + 1 + bl.sz + 1 + (st.sz + ss.sz) : Nat) : Int) := by
      rw [hcl4]
      show _ + ((st.sz + ss.sz : Nat) : Int) = _
      omega
    refine ⟨_, rfl, _, rfl, _, _, rfl, rfl, Cm.small (by show 2 ≤ 100000; decide), fun p3 np3 => ⟨Cm.small (by show 1 ≤ 100000; decide), fun p4 np4 => ?_⟩⟩
    have r4 := made1 (K := K) np4 (made np3 (.cons (.str "unless") (.cons (intE eE) .nil)))
    have s4 := (Cm.same_new (o := .tup [.str "unless", .int ((at_ : Int) + (cs1.length : Nat) + 1 + (cs2.length : Nat) + 1)]) np3).trans (Cm.same_new (o := .tup [.ref p3]) np4)
    have s234 := (s2.trans s3).trans s4
    refine cat_rp (ru1.keep (Same.tups s234)) r4 (by simp only [List.length_append, List.length_cons, List.length_nil, Pt.E.code_len]; omega) fun u5 H5 s5 r5 => ?_
    refine ⟨_, rfl, cat_rp r5 (ru2.keep (Same.tups ((s3.trans s4).trans s5))) (by simp only [List.length_append, List.length_cons, List.length_nil, Pt.E.code_len, Ss.code_len]; omega) fun u6 H6 s6 r6 => ?_⟩
    have s46 := (s4.trans s5).trans s6
    refine ⟨_, rfl, _, _, rfl, rfl, _, rfl, c4, cs4, rfl, .inr (Cm.sameT s46 hc4), _, _, rfl, rfl, Cm.small (by show 2 ≤ 100000; decide), fun p7 np7 => ⟨Cm.small (by show 1 ≤ 100000; decide), fun p8 np8 => ?_⟩⟩
    have r8 := made1 (K := K) np8 (made np7 (.cons (.str "jump") (.cons (intE eF) .nil)))
    have s8 := (Cm.same_new (o := .tup [.str "jump", .int ((at_ : Int) + (cs1.length : Nat) + 1 + (cs2.length : Nat) + 1 + (cs4.length : Nat))]) np7).trans (Cm.same_new (o := .tup [.ref p7]) np8)
    refine cat_rp (r6.keep (Same.tups s8)) r8 (by simp only [List.length_append, List.length_cons, List.length_nil, Pt.E.code_len, Ss.code_len]; omega) fun u9 H9 s9 r9 => ?_
    have s49 := (s46.trans s8).trans s9
    refine ⟨_, rfl, cat_rp r9 (ru3.keep (Same.tups s49)) (by simp only [List.length_append, List.length_cons, List.length_nil, Pt.E.code_len, Ss.code_len]; omega) fun u10 H10 s10 r10 => ?_⟩
    exact q _ _ (((s02.trans s3).trans s49).trans s10) r10
theorem at0 {x : V} {xs : List V} : atI (x :: xs) 0 = some x := atI_nat (j := 0) rfl
theorem dlen_D {st : S} : ∃ w ds, st.d = .tuple (.str w :: ds) := by
  cases st <;> exact ⟨_, _, rfl⟩
theorem ok_stmt (T : Txt K mg w a) (d : Nat) (hd13 : d ≤ 12) (gx : FnOk P w K mg base CX0 40 (He.ga K "_expression_code") a.d_expression_code pX (spX K 13))
    (gr : FnOk P w K mg base CX0 41 (He.ga K "_row_code") a.d_row_code ["names", "expressions", "at"] (spR K 13)) (gc : FnOk P w K mg base CX0 42 (He.ga K "_call_code") a.d_call_code ["names", "call", "at"] (spC K 13))
    (gi : FnOk P w K mg base CX0 (3 * d + 45) (He.ga K "_if_code") a.d_if_code pS (spIc K (d + 1))) (gw : FnOk P w K mg base CX0 (3 * d + 45) (He.ga K "_while_code") a.d_while_code pS (spWc K (d + 1))) :
    FnOk P w K mg base CX0 (3 * d + 46) (He.ga K "_statement_code") a.d_statement_code pS (spSc K (d + 1)) := by
  refine T.F_statement_code.ok sc_statement_code (fun vs H Q E h => ?_) (fun cdv A outer s H vs Q E hr h => ?_)
  · obtain ⟨_, _, _, _, _, _, rfl, _⟩ := h
    rfl
  obtain ⟨nd, v, at_, st, pl, N, rfl, hpl, hv, hw, hu, hd, hsz, q⟩ := h
  refine ⟨_, PSs.nox (pss_cons (ps_set (i := 3) sc_statement_code.nd rfl (Or.inl rfl) (pe_ix ix_tup (pv 1) pe_int (fun _ _ => rfl)))
      (pss_cons (ps_if (pt_cmpR op_eq (pv 3) pe_str (nomark _)) (pss_one (ps_ret (pe_call gi (hr.mono (by omega)) (by rfl) T.g_if_code T.F_if_code.kp T.b_if_code .nil pass0 (pa_cons (pv 0) (pa_cons (pv 1) (pa_cons (pv 2) pa_nil)))))) pss_nil)
      (pss_cons (ps_if (pt_cmpR op_eq (pv 3) pe_str (nomark _)) (pss_one (ps_ret (pe_call gw (hr.mono (by omega)) (by rfl) T.g_while_code T.F_while_code.kp T.b_while_code .nil pass0 (pa_cons (pv 0) (pa_cons (pv 1) (pa_cons (pv 2) pa_nil)))))) pss_nil)
      (pss_cons (ps_if (pt_cmpR op_eq (pv 3) pe_str (nomark _)) (pss_one (ps_ret (pe_call gc (hr.mono (by omega)) (by rfl) T.g_call_code T.F_call_code.kp T.b_call_code .nil pass0 (pa_cons (pv 0) (pa_cons (pv 1) (pa_cons (pv 2) pa_nil)))))) pss_nil)
      (pss_cons (ps_if (PW.pt (pw_or (pt_cmpR op_eq (pv 3) pe_str (nomark _)) (pw_or1 (pt_cmpR op_eq (pv 3) pe_str (nomark _))))) (pss_cons (ps_asg (pe_dget (hu_of hr) (pv 0) (pe_ix ix_tup (pv 1) pe_int (fun _ _ => rfl)) (fun _ _ => rfl)) (pg_tup (by rfl) (pgs_cons (pg_name (i := 4) sc_statement_code.nd rfl (Or.inl rfl)) (pgs_cons (pg_name (i := 5) sc_statement_code.nd rfl (Or.inl rfl)) pgs_nil))))
      (pss_one (ps_ret (pe_op op_catA (pe_call gx (hr.mono (by omega)) (by rfl) T.g_expression_code T.F_expression_code.kp T.b_expression_code .nil pass0 (pa_cons (pv 0) (pa_cons (pe_ix ix_tup (pv 1) (pe_un un_neg pe_int) (fun _ _ => rfl)) (pa_cons (pv 2) pa_nil)))) (pe_tup (pa_cons (pe_tup (pa_cons (pe_op op_add_str pe_str (pv 4)) (pa_cons (pv 5) pa_nil))) pa_nil)))))) pss_nil)
      (pss_cons (ps_set (i := 6) sc_statement_code.nd rfl (Or.inl rfl) (pe_ifExp (pt_cmpR op_eq (pv 3) pe_str (nomark _)) pe_str (pv 3)))
      (pss_one (ps_ret (pe_op op_catA (pe_call gr (hr.mono (by omega)) (by rfl) T.g_row_code T.F_row_code.kp T.b_row_code .nil pass0 (pa_cons (pv 0) (pa_cons (pe_slice sl_tupA (pv 1) (po_some pe_int) po_none) (pa_cons (pv 2) pa_nil)))) (pe_tup (pa_cons (pe_tup (pa_cons (pv 6) pa_nil)) pa_nil))))))))))), ?_⟩
  cases st with
  | ifS e bl cl =>
    obtain ⟨b, vs, rfl, hb, hvs⟩ := hv.tup_inv
    obtain ⟨v0, vs, rfl, r0, hvs⟩ := hvs.cons_inv
    cases r0.str_inv
    refine ⟨_, rfl, b, _, _, _, rfl, rfl, hb, at0, ?_⟩
    refine ⟨_, rfl, rfl, _, rfl, Cm.itES (fun _ => ?_) (fun e => absurd rfl e)⟩
    exact ⟨_, rfl, _, rfl, _, rfl, nd, _, at_, e, bl, cl, pl, N, rfl, hpl, hv, hw, hu, hd, hsz, q⟩
  | whileS e bl =>
    obtain ⟨b, vs, rfl, hb, hvs⟩ := hv.tup_inv
    obtain ⟨v0, vs, rfl, r0, hvs⟩ := hvs.cons_inv
    cases r0.str_inv
    refine ⟨_, rfl, b, _, _, _, rfl, rfl, hb, at0, ?_⟩
    refine ⟨_, rfl, rfl, _, rfl, Cm.itES (fun e => absurd e (by decide)) (fun _ => ?_)⟩
    refine ⟨_, rfl, rfl, _, rfl, Cm.itES (fun _ => ?_) (fun e => absurd rfl e)⟩
    exact ⟨_, rfl, _, rfl, _, rfl, nd, _, at_, e, bl, pl, N, rfl, hpl, hv, hw, hu, hd, hsz, q⟩
  | fork r f as =>
    obtain ⟨b, vs, rfl, hb, hvs⟩ := hv.tup_inv
    obtain ⟨v0, vs, rfl, r0, hvs⟩ := hvs.cons_inv
    cases r0.str_inv
    refine ⟨_, rfl, b, _, _, _, rfl, rfl, hb, at0, ?_⟩
    refine ⟨_, rfl, rfl, _, rfl, Cm.itES (fun e => absurd e (by decide)) (fun _ => ?_)⟩
    refine ⟨_, rfl, rfl, _, rfl, Cm.itES (fun e => absurd e (by decide)) (fun _ => ?_)⟩
    refine ⟨_, rfl, rfl, _, rfl, Cm.itES (fun _ => ?_) (fun e => absurd rfl e)⟩
    have hz : r.sz + as.sz + 1 ≤ 100000 := hsz
    have hdd : max r.dep as.dep + 1 < d + 1 := hd
    exact ⟨_, rfl, _, rfl, _, rfl, nd, _, at_, "fork", r, f, as, pl, N, rfl, hpl, hv, hw, hu, by omega, by omega, q⟩
  | letS x k e =>
    obtain ⟨b, vs, rfl, hb, hvs⟩ := hv.tup_inv
    obtain ⟨v0, vs, rfl, r0, hvs⟩ := hvs.cons_inv
    obtain ⟨v1, vs, rfl, r1, hvs⟩ := hvs.cons_inv
    obtain ⟨v2, vs, rfl, r2, hvs⟩ := hvs.cons_inv
    obtain ⟨v3, vs, rfl, r3, hvs⟩ := hvs.cons_inv
    cases hvs.nil_inv
    cases r0.str_inv
    cases r1.str_inv
    have hz : e.sz + 1 ≤ 100000 := hsz
    have hdd : e.dep + 1 < d + 1 := hd
    obtain ⟨kvs, hk, hx⟩ := id hpl
    obtain ⟨hxl, u, hu1, ru⟩ := hx x (hu x (List.mem_cons_self))
    have gx : DGet H nd (.str x) (some u) := by
      rw [← hu1]
      exact DGet.k (k := .inr x) hk
    obtain ⟨c, us, rfl, hc, hus⟩ := ru.tup_inv
    obtain ⟨w0, us, rfl, rw0, hus⟩ := hus.cons_inv
    obtain ⟨w1, us, rfl, rw1, hus⟩ := hus.cons_inv
    cases hus.nil_inv
    cases rw0.str_inv
    cases rw1.int_inv
    refine ⟨_, rfl, b, _, _, _, rfl, rfl, hb, rfl, ?_⟩
    refine ⟨_, rfl, rfl, _, rfl, Cm.itES (fun e => absurd e (by decide)) (fun _ => ?_)⟩
    refine ⟨_, rfl, rfl, _, rfl, Cm.itES (fun e => absurd e (by decide)) (fun _ => ?_)⟩
    refine ⟨_, rfl, rfl, _, rfl, Cm.itES (fun e => absurd e (by decide)) (fun _ => ?_)⟩
    refine ⟨_, rfl, rfl, _, rfl, Cm.itES (fun _ => ?_) (fun e => absurd rfl e)⟩
    refine ⟨_, rfl, _, rfl, b, _, _, _, rfl, rfl, hb, rfl, nd, _, rfl, gx, ?_⟩
    refine ⟨c, _, rfl, hc, rfl, _, _, rfl, _, _, rfl, rfl, ?_⟩
    refine ⟨_, rfl, _, rfl, _, rfl, b, _, _, _, rfl, rfl, hb, rfl, _, rfl, ?_⟩
    refine ⟨nd, v3, at_, e, pl, N, rfl, hpl, r3, hw, fun y hy => hu y (List.mem_cons_of_mem _ hy), by omega, by omega, fun H1 u1 s1 ru1 => ?_⟩
    refine ⟨_, rfl, _, _, rfl, rfl, Cm.small (by show 3 + (pl x).1.length ≤ 100000; omega), _, rfl, Cm.small (by show 2 ≤ 100000; decide), fun p3 np3 => ⟨Cm.small (by show 1 ≤ 100000; decide), fun p4 np4 => ?_⟩⟩
    have r4 := made1 (K := K) np4 (made np3 (.cons (.str ("set" ++ (pl x).1)) (.cons (.int (pl x).2) .nil)))
    have s4 := (Cm.same_new (o := .tup [.str ("set" ++ (pl x).1), .int (pl x).2]) np3).trans (Cm.same_new (o := .tup [.ref p3]) np4)
    refine cat_rp (ru1.keep (Same.tups s4)) r4 (by simp only [List.length_append, List.length_cons, List.length_nil, Pt.E.code_len]; omega) fun u5 H5 s5 r5 => ?_
    exact q _ _ ((s1.trans s4).trans s5) r5
  | setS x e =>
    obtain ⟨b, vs, rfl, hb, hvs⟩ := hv.tup_inv
    obtain ⟨v0, vs, rfl, r0, hvs⟩ := hvs.cons_inv
    obtain ⟨v1, vs, rfl, r1, hvs⟩ := hvs.cons_inv
    obtain ⟨v2, vs, rfl, r2, hvs⟩ := hvs.cons_inv
    cases hvs.nil_inv
    cases r0.str_inv
    cases r1.str_inv
    have hz : e.sz + 1 ≤ 100000 := hsz
    have hdd : e.dep + 1 < d + 1 := hd
    obtain ⟨kvs, hk, hx⟩ := id hpl
    obtain ⟨hxl, u, hu1, ru⟩ := hx x (hu x (List.mem_cons_self))
    have gx : DGet H nd (.str x) (some u) := by
      rw [← hu1]
      exact DGet.k (k := .inr x) hk
    obtain ⟨c, us, rfl, hc, hus⟩ := ru.tup_inv
    obtain ⟨w0, us, rfl, rw0, hus⟩ := hus.cons_inv
    obtain ⟨w1, us, rfl, rw1, hus⟩ := hus.cons_inv
    cases hus.nil_inv
    cases rw0.str_inv
    cases rw1.int_inv
    refine ⟨_, rfl, b, _, _, _, rfl, rfl, hb, rfl, ?_⟩
    refine ⟨_, rfl, rfl, _, rfl, Cm.itES (fun e => absurd e (by decide)) (fun _ => ?_)⟩
    refine ⟨_, rfl, rfl, _, rfl, Cm.itES (fun e => absurd e (by decide)) (fun _ => ?_)⟩
    refine ⟨_, rfl, rfl, _, rfl, Cm.itES (fun e => absurd e (by decide)) (fun _ => ?_)⟩
    refine ⟨_, rfl, rfl, _, rfl, Cm.itES (fun e => absurd e (by decide)) (fun _ => ?_)⟩
    refine ⟨_, rfl, rfl, _, rfl, Cm.itES (fun _ => ?_) (fun e => absurd rfl e)⟩
    refine ⟨_, rfl, _, rfl, b, _, _, _, rfl, rfl, hb, rfl, nd, _, rfl, gx, ?_⟩
    refine ⟨c, _, rfl, hc, rfl, _, _, rfl, _, _, rfl, rfl, ?_⟩
    refine ⟨_, rfl, _, rfl, _, rfl, b, _, _, _, rfl, rfl, hb, rfl, _, rfl, ?_⟩
    refine ⟨nd, v2, at_, e, pl, N, rfl, hpl, r2, hw, fun y hy => hu y (List.mem_cons_of_mem _ hy), by omega, by omega, fun H1 u1 s1 ru1 => ?_⟩
    refine ⟨_, rfl, _, _, rfl, rfl, Cm.small (by show 3 + (pl x).1.length ≤ 100000; omega), _, rfl, Cm.small (by show 2 ≤ 100000; decide), fun p3 np3 => ⟨Cm.small (by show 1 ≤ 100000; decide), fun p4 np4 => ?_⟩⟩
    have r4 := made1 (K := K) np4 (made np3 (.cons (.str ("set" ++ (pl x).1)) (.cons (.int (pl x).2) .nil)))
    have s4 := (Cm.same_new (o := .tup [.str ("set" ++ (pl x).1), .int (pl x).2]) np3).trans (Cm.same_new (o := .tup [.ref p3]) np4)
    refine cat_rp (ru1.keep (Same.tups s4)) r4 (by simp only [List.length_append, List.length_cons, List.length_nil, Pt.E.code_len]; omega) fun u5 H5 s5 r5 => ?_
    exact q _ _ ((s1.trans s4).trans s5) r5
  | doS e =>
    have hz : e.sz + 1 ≤ 100000 := hsz
    have hdd : e.dep + 1 < d + 1 := hd
    obtain ⟨b, vs, rfl, hb, hvs⟩ := id hv.tup_inv
    obtain ⟨v0, vs, rfl, r0, hvs⟩ := hvs.cons_inv
    cases r0.str_inv
    refine ⟨_, rfl, b, _, _, _, rfl, rfl, hb, at0, ?_⟩
    refine ⟨_, rfl, rfl, _, rfl, Cm.itES (fun e => absurd e (by decide)) (fun _ => ?_)⟩
    refine ⟨_, rfl, rfl, _, rfl, Cm.itES (fun e => absurd e (by decide)) (fun _ => ?_)⟩
    refine ⟨_, rfl, rfl, _, rfl, Cm.itES (fun e => absurd e (by decide)) (fun _ => ?_)⟩
    refine ⟨_, rfl, rfl, _, rfl, Cm.itES (fun e => absurd e (by decide)) (fun _ => ?_)⟩
    refine ⟨_, rfl, rfl, _, rfl, Cm.itES (fun e => absurd e (by decide)) (fun _ => ?_)⟩
    refine ⟨_, rfl, rfl, _, rfl, Cm.itES (fun _ => ?_) (fun e => absurd rfl e)⟩
    refine ⟨_, rfl, _, rfl, ?_⟩
    unfold tPart tNoPart tC
    dsimp only
    refine ⟨1, rfl, ?_⟩
    refine from_rp (k := 1) hv (Nat.le_add_left 1 _) fun u1 H1 s1 ru1 => ⟨_, rfl, ?_⟩
    refine ⟨nd, u1, at_, .cons e .nil, pl, N, rfl, hpl.same s1, ru1, and2 hw rfl, fun x hx => hu x (by rcases List.mem_append.mp hx with h | h; exact h; cases h), (by show max e.dep 0 < 13; omega), (by show e.sz + 0 ≤ 100000; omega), fun H2 u2 s2 ru2 => ?_⟩
    have ec : (Es.cons e .nil).code pl at_ = e.code pl at_ := List.append_nil _
    rw [ec] at ru2
    refine ⟨_, rfl, Cm.small (by show 1 ≤ 100000; decide), fun p np => ⟨Cm.small (by show 1 ≤ 100000; decide), fun p2 np2 => ?_⟩⟩
    have r2 := made1 (K := K) np2 (made np (.cons (.str "drop") .nil))
    have s3 := (Cm.same_new (o := .tup [.str "drop"]) np).trans (Cm.same_new (o := .tup [.ref p]) np2)
    exact cat_rp (ru2.keep (Same.tups s3)) r2 (by rw [Pt.E.code_len]; show e.sz + 1 ≤ 10000000; omega) fun u5 H5 s5 r5 => q _ _ (((s1.trans s2).trans s3).trans s5) r5
  | plain wd as =>
    have hz : as.sz + 1 ≤ 100000 := hsz
    have hdd : as.dep + 1 < d + 1 := hd
    obtain ⟨hw1, hw2⟩ := Bool.and_eq_true_iff.mp hw
    have hm : wd ∈ plainB := of_decide_eq_true (Bool.and_eq_true_iff.mp hw1).1
    have no : ∀ x ∈ plainB, ¬ x = Str.ofString "if" ∧ ¬ x = Str.ofString "while" ∧ ¬ x = Str.ofString "fork" ∧ ¬ x = Str.ofString "let" ∧ ¬ x = Str.ofString "set" ∧ ¬ x = Str.ofString "do" := by decide +kernel
    obtain ⟨n1, n2, n3, n4, n5, n6⟩ := no wd hm
    obtain ⟨b, vs, rfl, hb, hvs⟩ := id hv.tup_inv
    obtain ⟨v0, vs, rfl, r0, hvs⟩ := hvs.cons_inv
    cases r0.str_inv
    refine ⟨_, rfl, b, _, _, _, rfl, rfl, hb, at0, ?_⟩
    refine ⟨_, rfl, rfl, _, rfl, Cm.itES (fun e => absurd e n1) (fun _ => ?_)⟩
    refine ⟨_, rfl, rfl, _, rfl, Cm.itES (fun e => absurd e n2) (fun _ => ?_)⟩
    refine ⟨_, rfl, rfl, _, rfl, Cm.itES (fun e => absurd e n3) (fun _ => ?_)⟩
    refine ⟨_, rfl, rfl, _, rfl, Cm.itES (fun e => absurd e n4) (fun _ => ?_)⟩
    refine ⟨_, rfl, rfl, _, rfl, Cm.itES (fun e => absurd e n5) (fun _ => ?_)⟩
    refine ⟨_, rfl, rfl, _, rfl, Cm.itES (fun e => absurd e n6) (fun _ => ?_)⟩
    refine ⟨_, rfl, ?_⟩
    refine ⟨_, rfl, _, rfl, ?_⟩
    unfold tPart tNoPart tC
    dsimp only
    refine ⟨1, rfl, ?_⟩
    refine from_rp (k := 1) hv (Nat.le_add_left 1 _) fun u1 H1 s1 ru1 => ⟨_, rfl, ?_⟩
    refine ⟨nd, u1, at_, as, pl, N, rfl, hpl.same s1, ru1, hw2, hu, by omega, by omega, fun H2 u2 s2 ru2 => ?_⟩
    refine ⟨_, rfl, Cm.small (by show 1 ≤ 100000; decide), fun p np => ⟨Cm.small (by show 1 ≤ 100000; decide), fun p2 np2 => ?_⟩⟩
    have r2 := made1 (K := K) np2 (made np (.cons (.str wd) .nil))
    have s3 := (Cm.same_new (o := .tup [.str wd]) np).trans (Cm.same_new (o := .tup [.ref p]) np2)
    exact cat_rp (ru2.keep (Same.tups s3)) r2 (by rw [Es.code_len]; show as.sz + 1 ≤ 10000000; omega) fun u5 H5 s5 r5 => q _ _ (((s1.trans s2).trans s3).trans s5) r5
theorem step_blockc (T : Txt K mg w a) (d : Nat) (gs : FnOk P w K mg base CX0 (3 * d + 46) (He.ga K "_statement_code") a.d_statement_code pS (spSc K (d + 1))) :
    FnOk P w K mg base CX0 (3 * (d + 1) + 44) (He.ga K "_block_code") a.d_block_code pB (spBc K (d + 1)) := by
  refine T.F_block_code.ok sc_block_code (fun vs H Q E h => ?_) (fun cdv A outer s H vs Q E hr h => ?_)
  · obtain ⟨_, _, _, _, _, _, rfl, _⟩ := h
    rfl
  obtain ⟨nd, v, at_, es, pl, N, rfl, hpl, hv, hw, hu, hd, hsz, q⟩ := h
  refine ⟨_, PSs.nox (pss_cons (ps_set (i := 3) sc_block_code.nd rfl (Or.inl rfl) (pe_tup pa_nil))
      (pss_cons (ps_for PassesOwn.never rfl (pi_tup (pv 1)) (pg_name (i := 4) sc_block_code.nd rfl (Or.inl rfl))
      (pss_one (ps_set (i := 3) sc_block_code.nd rfl (Or.inl rfl) (pe_op op_catA (pv 3) (pe_call gs (hr.mono (by omega)) (by rfl) T.g_statement_code T.F_statement_code.kp T.b_statement_code .nil pass0 (pa_cons (pv 0) (pa_cons (pv 4) (pa_cons (pe_op op_add (pv 2) (pe_callB call_len_seq (by rfl) T.g_len boot_len (pa_cons (pv 3) pa_nil))) pa_nil))))))))
      (pss_one (ps_ret (pv 3))))), ?_⟩
  refine ⟨Nat.zero_le _, fun p np => ?_⟩
  have s0 := Cm.same_new (o := .tup []) np
  obtain ⟨b, vs, rfl, hb, hvs⟩ := hv.tup_inv
  have hlen : vs.length = es.list.length := by rw [hvs.len, Ss.list_ds, List.length_map]
  refine ⟨_, rfl, b, rfl, ⟨vs, Cm.sameT s0 hb⟩, for_tup (K := K) (a := b) (xs := vs) (fun i σ H2 => ∃ (u : V) (x4 : Option V), σ = [some (.ref nd), some (.ref b), some (.int at_), some u, x4] ∧ Same H H2 ∧ Rp K H2 u (.tuple ((es.take i).code pl at_)))
    ⟨_, none, rfl, s0, made np (by cases es <;> exact .nil)⟩ (fun i σ H2 _ ⟨_, _, _, s2, _⟩ => Cm.sameT s2 hb) (fun i x σ H2 hx ⟨u, x4, e, s2, ru⟩ => ?_) fun σ H2 ⟨u, x4, e, s2, ru⟩ => ?_⟩
  · subst e
    obtain ⟨e, he, re⟩ := hvs.at_S hx
    obtain ⟨h1, h2, h3, h4⟩ := Ss.part (List.mem_of_getElem? he)
    obtain ⟨nc, nz⟩ := Ss.take_next (pl := pl) at_ he
    obtain ⟨c, cs, rfl, hc, hcl⟩ := len_rp ru
    rw [Ss.code_len] at hcl
    refine ⟨_, rfl, _, rfl, _, rfl, _, rfl, _, rfl, c, cs, rfl, .inr hc, _, _, rfl, rfl, nd, x, at_ + (es.take i).sz, e, pl, N, args3 (by omega), hpl.same s2, re.keep (Same.tups s2), h1 hw, fun y hy => hu y (h2 y hy), by omega, by omega, fun H3 u3 s3 r3 => ?_⟩
    have hz := Ss.take_sz es i
    refine cat_rp (ru.keep (Same.tups s3)) r3 (by rw [Ss.code_len, S.code_len]; omega) fun u4 H4 s4 r4 => ?_
    exact ⟨u4, _, rfl, (s2.trans s3).trans s4, by rw [nc]; exact r4⟩
  · subst e
    rw [hlen, Ss.take_all] at ru
    exact ⟨_, rfl, q _ _ s2 ru⟩
theorem ok_blockc (T : Txt K mg w a) : ∀ d : Nat, d ≤ 13 → FnOk P w K mg base CX0 (3 * d + 44) (He.ga K "_block_code") a.d_block_code pB (spBc K d)
  | 0, _ => vac fun vs H Q E h => by
    obtain ⟨_, _, _, e, _, _, _, _, _, _, _, hd, _⟩ := h
    exact absurd hd (Nat.not_lt_zero e.dep)
  | d + 1, hd => by
    have gx := ok_expr (P := P) (w := w) (base := base) T 13
    have gr := ok_row T 13 gx
    have gc := ok_call T 13 gr
    have gb := ok_blockc T d (by omega)
    exact step_blockc T d (ok_stmt T d (by omega) gx gr gc (ok_if T d (by omega) gx gb) (ok_while T d (by omega) gx gb))
/-- compiled_block -/
def spCb (K : PySem.W.Frag) : Sp := fun vs H Q _ => ∃ (nd : Addr) (v : V) (b : Ss) (pl : Plc) (N : List Str), vs = [.ref nd, v] ∧ PlAt K H nd pl N ∧ Rp K H v (.tuple b.ds) ∧ b.wf = true ∧ (∀ x ∈ b.uses, x ∈ N) ∧ b.dep < 13 ∧ b.sz ≤ 100000 ∧
  ∀ (H' : Hp) (u : V), Same H H' → Rp K H' u (.tuple (b.code pl 0)) → Q u H'
theorem ok_compiled (T : Txt K mg w a) : FnOk P w K mg base CX0 84 (He.ga K "compiled_block") a.d_compiled_block ["names", "block"] (spCb K) := by
  have gb := ok_blockc (P := P) (w := w) (base := base) T 13 (by decide)
  refine T.F_compiled_block.ok sc_compiled_block (fun vs H Q E h => ?_) (fun cdv A outer s H vs Q E hr h => ?_)
  · obtain ⟨_, _, _, _, _, rfl, _⟩ := h
    rfl
  obtain ⟨nd, v, es, pl, N, rfl, hpl, hv, hw, hu, hd, hsz, q⟩ := h
  refine ⟨_, PSs.nox (pss_one (ps_ret (pe_call gb (hr.mono (by omega)) (by rfl) T.g_block_code T.F_block_code.kp T.b_block_code .nil pass0 (pa_cons (pv 0) (pa_cons (pv 1) (pa_cons pe_int pa_nil)))))), ?_⟩
  exact ⟨_, rfl, _, rfl, nd, v, 0, es, pl, N, rfl, hpl, hv, hw, hu, hd, hsz, q⟩
/-! ### the names of lets -/
def subsS : S → List Ss
  | .ifS _ b c => [b, c]
  | .whileS _ b => [b]
  | _ => []
def ownS : S → List Str
  | .letS x _ _ => [x]
  | _ => []
def letsL : List Ss → List Str
  | [] => []
  | b :: bs => b.lets ++ letsL bs
theorem lets_eq (s : S) : s.lets = ownS s ++ letsL (subsS s) := by
  cases s with
  | ifS e b c => show b.lets ++ c.lets = [] ++ (b.lets ++ (c.lets ++ [])); rw [List.append_nil, List.nil_append]
  | whileS e b => show b.lets = [] ++ (b.lets ++ []); rw [List.append_nil, List.nil_append]
  | letS x k e => rfl
  | setS x e => rfl
  | doS e => rfl
  | fork r f as => rfl
  | plain w as => rfl
theorem letsL_snoc {b : Ss} : ∀ {bs : List Ss} {j : Nat}, bs[j]? = some b → letsL (bs.take (j + 1)) = letsL (bs.take j) ++ b.lets
  | c :: bs, 0, h => by
    cases h
    show b.lets ++ letsL (bs.take 0) = [] ++ b.lets
    rw [List.nil_append]
    exact List.append_nil _
  | c :: bs, j + 1, h => by
    show c.lets ++ letsL (bs.take (j + 1)) = (c.lets ++ letsL (bs.take j)) ++ b.lets
    rw [letsL_snoc (bs := bs) (j := j) h, List.append_assoc]
  | [], _, h => by cases h
theorem take_lets : ∀ {es : Ss} {i : Nat} {e : S}, es.list[i]? = some e → (es.take (i + 1)).lets = (es.take i).lets ++ e.lets
  | .cons e es, 0, _, h => by
    cases h
    show e.lets ++ (es.take 0).lets = [] ++ e.lets
    cases es <;> exact List.append_nil _
  | .cons e es, i + 1, f, h => by
    show e.lets ++ (es.take (i + 1)).lets = (e.lets ++ (es.take i).lets) ++ f.lets
    rw [take_lets (es := es) (i := i) h, List.append_assoc]
  | .nil, i, _, h => by cases h
mutual
theorem S.lets_sz : ∀ s : S, s.lets.length ≤ s.sz
  | .ifS e b c => by
    have h1 := Ss.lets_sz b
    have h2 := Ss.lets_sz c
    have h3 := ifsz (Nat.le_refl (S.ifS e b c).sz)
    show (b.lets ++ c.lets).length ≤ _
    rw [List.length_append]
    omega
  | .whileS e b => by
    have h1 := Ss.lets_sz b
    show b.lets.length ≤ e.sz + b.sz + 2
    omega
  | .letS x k e => by show 1 ≤ e.sz + 1; omega
  | .setS x e => Nat.zero_le _
  | .doS e => Nat.zero_le _
  | .fork r f as => Nat.zero_le _
  | .plain w as => Nat.zero_le _
theorem Ss.lets_sz : ∀ b : Ss, b.lets.length ≤ b.sz
  | .nil => Nat.le_refl 0
  | .cons s ss => by
    have h1 := S.lets_sz s
    have h2 := Ss.lets_sz ss
    show (s.lets ++ ss.lets).length ≤ s.sz + ss.sz
    rw [List.length_append]
    omega
end
theorem subs_dep {s : S} {b : Ss} (h : b ∈ subsS s) : b.dep < s.dep := by
  cases s with
  | ifS e c d =>
    have e1 : (S.ifS e c d).dep = max e.dep (max c.dep d.dep) + 1 := rfl
    rcases List.mem_cons.mp h with rfl | h
    · omega
    · rcases List.mem_cons.mp h with rfl | h
      · omega
      · cases h
  | whileS e c =>
    have e1 : (S.whileS e c).dep = max e.dep c.dep + 1 := rfl
    rcases List.mem_cons.mp h with rfl | h
    · omega
    · cases h
  | letS x k e => cases h
  | setS x e => cases h
  | doS e => cases h
  | fork r f as => cases h
  | plain w as => cases h
theorem subs_sz {s : S} {b : Ss} (h : b ∈ subsS s) : b.sz ≤ s.sz := by
  cases s with
  | ifS e c d =>
    have h3 := ifsz (Nat.le_refl (S.ifS e c d).sz)
    rcases List.mem_cons.mp h with rfl | h
    · omega
    · rcases List.mem_cons.mp h with rfl | h
      · omega
      · cases h
  | whileS e c =>
    have e1 : (S.whileS e c).sz = e.sz + c.sz + 2 := rfl
    rcases List.mem_cons.mp h with rfl | h
    · omega
    · cases h
  | letS x k e => cases h
  | setS x e => cases h
  | doS e => cases h
  | fork r f as => cases h
  | plain w as => cases h
theorem subs_wf {s : S} {b : Ss} (h : b ∈ subsS s) (hw : s.wf = true) : b.wf = true := by
  cases s with
  | ifS e c d =>
    obtain ⟨_, h2⟩ := Bool.and_eq_true_iff.mp (show (e.wf && (c.wf && d.wf)) = true from hw)
    obtain ⟨h1, h2⟩ := Bool.and_eq_true_iff.mp h2
    rcases List.mem_cons.mp h with rfl | h
    · exact h1
    · rcases List.mem_cons.mp h with rfl | h
      · exact h2
      · cases h
  | whileS e c =>
    obtain ⟨_, h2⟩ := Bool.and_eq_true_iff.mp (show (e.wf && c.wf) = true from hw)
    rcases List.mem_cons.mp h with rfl | h
    · exact h2
    · cases h
  | letS x k e => cases h
  | setS x e => cases h
  | doS e => cases h
  | fork r f as => cases h
  | plain w as => cases h
theorem map_at {α β : Type} {g : α → β} {l : List α} {i : Nat} {y : β} (h : (l.map g)[i]? = some y) : ∃ x, l[i]? = some x ∧ g x = y := by
  rw [List.getElem?_map] at h
  cases e : l[i]? with
  | none => rw [e] at h; cases h
  | some x =>
    rw [e] at h
    exact ⟨x, rfl, Option.some.inj h⟩
theorem rps_at {K : PySem.W.Frag} {H : Hp} {vs : List V} {ds : List PyData} {i : Nat} {v : V} (r : Rps K H vs ds) (h : vs[i]? = some v) : ∃ d, ds[i]? = some d ∧ Rp K H v d := by
  have hi : i < ds.length := by
    rw [← r.len]
    exact (List.getElem?_eq_some_iff.mp h).1
  obtain ⟨u, hu, ru⟩ := r.at_ (List.getElem?_eq_getElem hi)
  rw [h] at hu
  cases hu
  exact ⟨_, List.getElem?_eq_getElem hi, ru⟩
theorem letsL_sz {s : S} : ∀ {bs : List Ss} (j : Nat), (letsL (bs.take j)).length ≤ (letsL bs).length
  | [], j => by cases j <;> exact Nat.le_refl 0
  | b :: bs, 0 => Nat.zero_le _
  | b :: bs, j + 1 => by
    have h := letsL_sz (s := s) (bs := bs) j
    show (b.lets ++ letsL (bs.take j)).length ≤ (b.lets ++ letsL bs).length
    rw [List.length_append, List.length_append]
    omega
theorem at1 {x y : V} {xs : List V} : atI (x :: y :: xs) 1 = some y := atI_nat (j := 1) rfl
theorem st_word (st : S) (hw : st.wf = true) : (∃ nm kd e, st = .letS nm kd e) ∨ (ownS st = [] ∧ ∃ wd ds, st.d = .tuple (.str wd :: ds) ∧ ¬ wd = Str.ofString "let") := by
  cases st with
  | letS nm kd e => exact .inl ⟨nm, kd, e, rfl⟩
  | ifS e bl cl => exact .inr ⟨rfl, _, _, rfl, by decide⟩
  | whileS e bl => exact .inr ⟨rfl, _, _, rfl, by decide⟩
  | setS x e => exact .inr ⟨rfl, _, _, rfl, by decide⟩
  | doS e => exact .inr ⟨rfl, _, _, rfl, by decide⟩
  | fork r f as => exact .inr ⟨rfl, _, _, rfl, by decide⟩
  | plain wd as => exact .inr ⟨rfl, _, _, rfl, (by decide +kernel : ∀ x ∈ plainB, ¬ x = Str.ofString "let") wd (of_decide_eq_true (Bool.and_eq_true_iff.mp (Bool.and_eq_true_iff.mp hw).1).1)⟩
def spBi (K : PySem.W.Frag) : Sp := fun vs H Q _ => ∃ (v : V) (s : S), vs = [v] ∧ Rp K H v s.d ∧ s.wf = true ∧
  ∀ (H' : Hp) (p : Addr) (xs : List V), Same H H' → H p = none → H' p = some (.lst xs) → Rps K H' xs ((subsS s).map fun b => .tuple b.ds) → Q (.ref p) H'
theorem made2L {K : PySem.W.Frag} {H : Hp} {p : Addr} {xs : List V} {ds : List PyData} (np : H p = none) (r : Rps K H xs ds) : Rps K (upd H p (.lst xs)) xs ds := r.keep (Same.tups (Cm.same_new np))
theorem ok_blocks_in (T : Txt K mg w a) : FnOk P w K mg base CX0 1 (He.ga K "blocks_in") a.d_blocks_in ["statement"] (spBi K) := by
  refine T.F_blocks_in.ok sc_blocks_in (fun vs H Q E h => ?_) (fun cdv A outer s H vs Q E hr h => ?_)
  · obtain ⟨_, _, rfl, _⟩ := h
    rfl
  obtain ⟨v, st, rfl, hv, hw, q⟩ := h
  refine ⟨_, PSs.nox (pss_cons (ps_if (pt_cmpR op_eq (pe_ix ix_tup (pv 0) pe_int (fun _ _ => rfl)) pe_str (nomark _)) (pss_one (ps_ret (pe_lst (pa_cons (pe_ix ix_tup (pv 0) pe_int (fun _ _ => rfl)) (pa_cons (pe_ix ix_tup (pv 0) pe_int (fun _ _ => rfl)) pa_nil))))) pss_nil)
      (pss_cons (ps_if (pt_cmpR op_eq (pe_ix ix_tup (pv 0) pe_int (fun _ _ => rfl)) pe_str (nomark _)) (pss_one (ps_ret (pe_lst (pa_cons (pe_ix ix_tup (pv 0) pe_int (fun _ _ => rfl)) pa_nil)))) pss_nil)
      (pss_one (ps_ret (pe_lst pa_nil))))), ?_⟩
  have fin : ∀ {wd : Str} {ds : List PyData} {Goal : Prop}, Rp K H v (.tuple (.str wd :: ds)) → (∀ b vs, v = .ref b → SqT K H b (.str wd :: vs) → Rps K H vs ds → Goal) → Goal := fun {wd ds Goal} r k => by
    obtain ⟨b, vs, rfl, hb, hvs⟩ := r.tup_inv
    obtain ⟨v0, vs, rfl, r0, hvs2⟩ := hvs.cons_inv
    cases r0.str_inv
    exact k b vs rfl hb hvs2
  cases st with
  | ifS e bl cl =>
    refine fin hv fun b vs ev hb hvs => ?_
    subst ev
    obtain ⟨v1, vs, rfl, r1, hvs⟩ := hvs.cons_inv
    obtain ⟨v2, vs, rfl, r2, hvs⟩ := hvs.cons_inv
    obtain ⟨v3, vs, rfl, r3, hvs⟩ := hvs.cons_inv
    cases hvs.nil_inv
    refine ⟨_, rfl, b, _, _, _, rfl, rfl, hb, at0, rfl, _, rfl, Cm.itES (fun _ => ?_) (fun e => absurd rfl e)⟩
    refine ⟨_, rfl, b, _, _, _, rfl, rfl, hb, rfl, _, rfl, b, _, _, _, rfl, rfl, hb, rfl, Cm.small (by show 2 ≤ 100000; decide), fun p np => ?_⟩
    exact q _ p _ (Cm.same_new np) np upd_same (made2L np (.cons r2 (.cons r3 .nil)))
  | whileS e bl =>
    refine fin hv fun b vs ev hb hvs => ?_
    subst ev
    obtain ⟨v1, vs, rfl, r1, hvs⟩ := hvs.cons_inv
    obtain ⟨v2, vs, rfl, r2, hvs⟩ := hvs.cons_inv
    cases hvs.nil_inv
    refine ⟨_, rfl, b, _, _, _, rfl, rfl, hb, at0, rfl, _, rfl, Cm.itES (fun e => absurd e (by decide)) (fun _ => ?_)⟩
    refine ⟨_, rfl, b, _, _, _, rfl, rfl, hb, at0, rfl, _, rfl, Cm.itES (fun _ => ?_) (fun e => absurd rfl e)⟩
    refine ⟨_, rfl, b, _, _, _, rfl, rfl, hb, rfl, Cm.small (by show 1 ≤ 100000; decide), fun p np => ?_⟩
    exact q _ p _ (Cm.same_new np) np upd_same (made2L np (.cons r2 .nil))
  | letS x k e =>
    refine fin hv fun b vs ev hb hvs => ?_
    subst ev
    refine ⟨_, rfl, b, _, _, _, rfl, rfl, hb, at0, rfl, _, rfl, Cm.itES (fun e => absurd e (by decide)) (fun _ => ?_)⟩
    refine ⟨_, rfl, b, _, _, _, rfl, rfl, hb, at0, rfl, _, rfl, Cm.itES (fun e => absurd e (by decide)) (fun _ => ?_)⟩
    exact ⟨Nat.zero_le _, fun p np => q _ p _ (Cm.same_new np) np upd_same .nil⟩
  | setS x e =>
    refine fin hv fun b vs ev hb hvs => ?_
    subst ev
    refine ⟨_, rfl, b, _, _, _, rfl, rfl, hb, at0, rfl, _, rfl, Cm.itES (fun e => absurd e (by decide)) (fun _ => ?_)⟩
    refine ⟨_, rfl, b, _, _, _, rfl, rfl, hb, at0, rfl, _, rfl, Cm.itES (fun e => absurd e (by decide)) (fun _ => ?_)⟩
    exact ⟨Nat.zero_le _, fun p np => q _ p _ (Cm.same_new np) np upd_same .nil⟩
  | doS e =>
    refine fin hv fun b vs ev hb hvs => ?_
    subst ev
    refine ⟨_, rfl, b, _, _, _, rfl, rfl, hb, at0, rfl, _, rfl, Cm.itES (fun e => absurd e (by decide)) (fun _ => ?_)⟩
    refine ⟨_, rfl, b, _, _, _, rfl, rfl, hb, at0, rfl, _, rfl, Cm.itES (fun e => absurd e (by decide)) (fun _ => ?_)⟩
    exact ⟨Nat.zero_le _, fun p np => q _ p _ (Cm.same_new np) np upd_same .nil⟩
  | fork r f as =>
    refine fin hv fun b vs ev hb hvs => ?_
    subst ev
    refine ⟨_, rfl, b, _, _, _, rfl, rfl, hb, at0, rfl, _, rfl, Cm.itES (fun e => absurd e (by decide)) (fun _ => ?_)⟩
    refine ⟨_, rfl, b, _, _, _, rfl, rfl, hb, at0, rfl, _, rfl, Cm.itES (fun e => absurd e (by decide)) (fun _ => ?_)⟩
    exact ⟨Nat.zero_le _, fun p np => q _ p _ (Cm.same_new np) np upd_same .nil⟩
  | plain wd as =>
    have hm : wd ∈ plainB := of_decide_eq_true (Bool.and_eq_true_iff.mp (Bool.and_eq_true_iff.mp hw).1).1
    obtain ⟨n1, n2⟩ := (by decide +kernel : ∀ x ∈ plainB, ¬ x = Str.ofString "if" ∧ ¬ x = Str.ofString "while") wd hm
    refine fin hv fun b vs ev hb hvs => ?_
    subst ev
    refine ⟨_, rfl, b, _, _, _, rfl, rfl, hb, at0, rfl, _, rfl, Cm.itES (fun e => absurd e n1) (fun _ => ?_)⟩
    refine ⟨_, rfl, b, _, _, _, rfl, rfl, hb, at0, rfl, _, rfl, Cm.itES (fun e => absurd e n2) (fun _ => ?_)⟩
    exact ⟨Nat.zero_le _, fun p np => q _ p _ (Cm.same_new np) np upd_same .nil⟩
def spLn (K : PySem.W.Frag) (d : Nat) : Sp := fun vs H Q _ => ∃ (v : V) (b : Ss), vs = [v] ∧ Rp K H v (.tuple b.ds) ∧ b.wf = true ∧ b.dep < d ∧ b.sz ≤ 100000 ∧
  ∀ (H' : Hp) (p : Addr), Same H H' → H p = none → H' p = some (.lst (b.lets.map V.str)) → Q (.ref p) H'
theorem step_lets (T : Txt K mg w a) (d : Nat) (gl : FnOk P w K mg base CX0 (d + 2) (He.ga K "let_names") a.d_let_names ["block"] (spLn K d)) :
    FnOk P w K mg base CX0 (d + 3) (He.ga K "let_names") a.d_let_names ["block"] (spLn K (d + 1)) := by
  have gb := ok_blocks_in (P := P) (w := w) (base := base) T
  refine T.F_let_names.ok sc_let_names (fun vs H Q E h => ?_) (fun cdv A outer s H vs Q E hr h => ?_)
  · obtain ⟨_, _, rfl, _⟩ := h
    rfl
  obtain ⟨v, es, rfl, hv, hw, hd, hsz, q⟩ := h
  refine ⟨_, PSs.nox (pss_cons (ps_set (i := 1) sc_let_names.nd rfl (Or.inl rfl) (pe_lst pa_nil))
      (pss_cons (ps_for PassesOwn.never rfl (pi_tup (pv 0)) (pg_name (i := 2) sc_let_names.nd rfl (Or.inl rfl))
      (pss_cons (ps_if (pt_cmpR op_eq (pe_ix ix_tup (pv 2) pe_int (fun _ _ => rfl)) pe_str (nomark _)) (pss_one (ps_expr (pe_bm PySem.F.plainAttrs_list PySem.F.slot_list_append PySem.F.type_list_append mt_append (pv 1) (pa_cons (pe_ix ix_tup (pv 2) pe_int (fun _ _ => rfl)) pa_nil)))) pss_nil)
      (pss_one (ps_for PassesOwn.never rfl (pi_list (pe_call gb (hr.mono (by omega)) (by rfl) T.g_blocks_in T.F_blocks_in.kp T.b_blocks_in .nil pass0 (pa_cons (pv 2) pa_nil))) (pg_name (i := 3) sc_let_names.nd rfl (Or.inl rfl))
      (pss_one (ps_expr (pe_bm PySem.F.plainAttrs_list PySem.F.slot_list_extend PySem.F.type_list_extend mt_extend (pv 1) (pa_cons (pe_call gl (hr.mono (by omega)) (by rfl) T.g_let_names T.F_let_names.kp T.b_let_names .nil pass0 (pa_cons (pv 3) pa_nil)) pa_nil))))))))
      (pss_one (ps_ret (pv 1))))), ?_⟩
  refine ⟨Nat.zero_le _, fun f nf => ?_⟩
  have s0 := Cm.same_new (o := .lst []) nf
  obtain ⟨b, vs, rfl, hb, hvs⟩ := hv.tup_inv
  have hlen : vs.length = es.list.length := by rw [hvs.len, Ss.list_ds, List.length_map]
  refine ⟨_, rfl, b, rfl, ⟨vs, Cm.sameT s0 hb⟩, for_tup (K := K) (a := b) (xs := vs) (fun i σ H2 => ∃ (x3 x4 : Option V), σ = [some (.ref b), some (.ref f), x3, x4] ∧ Same H H2 ∧ H2 f = some (.lst ((es.take i).lets.map V.str)))
    ⟨none, none, rfl, s0, (by rw [upd_same]; cases es <;> rfl)⟩ (fun i σ H2 _ ⟨_, _, _, s2, _⟩ => Cm.sameT s2 hb) (fun i x σ H2 hx ⟨x3, x4, e, s2, hf⟩ => ?_) fun σ H2 ⟨x3, x4, e, s2, hf⟩ => ?_⟩
  · subst e
    obtain ⟨st, he, re⟩ := hvs.at_S hx
    obtain ⟨h1, h2, h3, h4⟩ := Ss.part (List.mem_of_getElem? he)
    have hz := Ss.take_sz es i
    have hlz := Ss.lets_sz (es.take i)
    rcases st_word st (h1 hw) with ⟨nm, kd, e, rfl⟩ | ⟨ho, wd, ds, ed, nw⟩
    · obtain ⟨c, us, rfl, hc, hus⟩ := (show Rp K H x (.tuple [.str "let", .str nm, .str kd, e.d]) from re).tup_inv
      obtain ⟨v0, us, rfl, r0, hus⟩ := hus.cons_inv
      obtain ⟨v1, us, rfl, r1, hus⟩ := hus.cons_inv
      cases r0.str_inv
      cases r1.str_inv
      refine ⟨_, rfl, c, _, _, _, rfl, rfl, Cm.sameT s2 hc, at0, rfl, _, rfl, Cm.itES (fun _ => ?_) (fun e => absurd rfl e)⟩
      refine ⟨_, rfl, .inl ⟨rfl, _, SqL.of hf⟩, _, rfl, c, _, _, _, rfl, rfl, Cm.sameT s2 hc, at1, f, _, _, rfl, rfl, hf, Cm.smallL (by rw [List.length_map]; omega), ?_⟩
      have sF : Same H (upd H2 f (.lst ((es.take i).lets.map V.str ++ [.str nm]))) := Cm.same_mut s2 nf
      have hfF : upd H2 f (.lst ((es.take i).lets.map V.str ++ [.str nm])) f = some (.lst (((es.take i).lets ++ ownS (.letS nm kd e)).map V.str)) := by
        rw [upd_same, List.map_append]
        rfl
      generalize upd H2 f (.lst ((es.take i).lets.map V.str ++ [.str nm])) = H2 at sF hfF ⊢
      generalize hst : S.letS nm kd e = st at *
      refine ⟨_, rfl, _, st, rfl, re.keep (Same.tups sF), h1 hw, fun H4 p xs s4 np hp rp => ⟨p, rfl, ⟨xs, SqL.of hp⟩, ?_⟩⟩
      have hfp : f ≠ p := ne_of_none hfF np
      have hll : xs.length = (subsS st).length := by rw [rp.len, List.length_map]
      refine for_list (K := K) (a := p) (xs := xs) (fun j σ H3 => ∃ (y4 : Option V), σ = [some (.ref b), some (.ref f), some (V.ref c), y4] ∧ Same H H3 ∧ H3 p = some (.lst xs) ∧ Rps K H3 xs ((subsS st).map fun b => .tuple b.ds) ∧ H3 f = some (.lst (((es.take i).lets ++ (ownS st ++ letsL ((subsS st).take j))).map V.str)))
        ⟨x4, rfl, sF.trans s4, hp, rp, (by rw [s4 _ _ hfF, List.take_zero]; exact congrArg (fun l => some (HO.lst (List.map V.str ((es.take i).lets ++ l)))) (List.append_nil _).symm)⟩ (fun j σ H3 _ ⟨_, _, _, h, _⟩ => SqL.of h) (fun j y σ H3 hy ⟨y4, ey, s3, hp3, rp3, hf3⟩ => ?_) fun σ H3 ⟨y4, ey, s3, hp3, rp3, hf3⟩ => ?_
      · subst ey
        obtain ⟨dd, hdd, ry⟩ := rps_at rp3 hy
        obtain ⟨bb, hbb, rfl⟩ := map_at hdd
        have hm := List.mem_of_getElem? hbb
        have d1 := subs_dep hm
        have z1 := subs_sz hm
        have z2 := Ss.lets_sz bb
        have z3 := letsL_sz (s := st) (bs := subsS st) j
        have z4 := S.lets_sz st
        have z5 : (ownS st).length + (letsL (subsS st)).length = st.lets.length := by rw [lets_eq st, List.length_append]
        refine ⟨_, rfl, .inl ⟨rfl, _, SqL.of hf3⟩, _, rfl, y, bb, rfl, ry, subs_wf hm (h1 hw), by omega, by omega, fun H5 p5 s5 np5 hp5 => ?_⟩
        refine ⟨f, p5, _, _, rfl, rfl, s5 _ _ hf3, hp5, (by rw [sizeLine_eq]; simp only [List.length_map, List.length_append]; omega), y, rfl, ?_⟩
        refine ⟨Cm.same_mut (s3.trans s5) nf, (upd_ne (Ne.symm hfp)).trans (s5 _ _ hp3), rp3.keep (fun q o e no => (upd_ne fun z => ?_).trans (s5 _ _ e)), ?_⟩
        · rw [z, hf3] at e
          exact no _ (Option.some.inj e).symm
        · rw [upd_same, letsL_snoc hbb, ← List.map_append]
          simp only [List.append_assoc]
      · subst ey
        rw [hll, List.take_length, ← lets_eq st, ← take_lets he] at hf3
        exact ⟨_, _, rfl, s3, hf3⟩
    · obtain ⟨c, us, rfl, hc, hus⟩ := (show Rp K H x (.tuple (.str wd :: ds)) from ed ▸ re).tup_inv
      obtain ⟨v0, us, rfl, r0, hus⟩ := hus.cons_inv
      cases r0.str_inv
      refine ⟨_, rfl, c, _, _, _, rfl, rfl, Cm.sameT s2 hc, at0, rfl, _, rfl, Cm.itES (fun e => absurd e nw) (fun _ => ?_)⟩
      have sF := s2
      have hfF : H2 f = some (.lst (((es.take i).lets ++ ownS st).map V.str)) := by
        rw [ho, List.append_nil]
        exact hf
      refine ⟨_, rfl, _, st, rfl, re.keep (Same.tups sF), h1 hw, fun H4 p xs s4 np hp rp => ⟨p, rfl, ⟨xs, SqL.of hp⟩, ?_⟩⟩
      have hfp : f ≠ p := ne_of_none hfF np
      have hll : xs.length = (subsS st).length := by rw [rp.len, List.length_map]
      refine for_list (K := K) (a := p) (xs := xs) (fun j σ H3 => ∃ (y4 : Option V), σ = [some (.ref b), some (.ref f), some (V.ref c), y4] ∧ Same H H3 ∧ H3 p = some (.lst xs) ∧ Rps K H3 xs ((subsS st).map fun b => .tuple b.ds) ∧ H3 f = some (.lst (((es.take i).lets ++ (ownS st ++ letsL ((subsS st).take j))).map V.str)))
        ⟨x4, rfl, sF.trans s4, hp, rp, (by rw [s4 _ _ hfF, List.take_zero]; exact congrArg (fun l => some (HO.lst (List.map V.str ((es.take i).lets ++ l)))) (List.append_nil _).symm)⟩ (fun j σ H3 _ ⟨_, _, _, h, _⟩ => SqL.of h) (fun j y σ H3 hy ⟨y4, ey, s3, hp3, rp3, hf3⟩ => ?_) fun σ H3 ⟨y4, ey, s3, hp3, rp3, hf3⟩ => ?_
      · subst ey
        obtain ⟨dd, hdd, ry⟩ := rps_at rp3 hy
        obtain ⟨bb, hbb, rfl⟩ := map_at hdd
        have hm := List.mem_of_getElem? hbb
        have d1 := subs_dep hm
        have z1 := subs_sz hm
        have z2 := Ss.lets_sz bb
        have z3 := letsL_sz (s := st) (bs := subsS st) j
        have z4 := S.lets_sz st
        have z5 : (ownS st).length + (letsL (subsS st)).length = st.lets.length := by rw [lets_eq st, List.length_append]
        refine ⟨_, rfl, .inl ⟨rfl, _, SqL.of hf3⟩, _, rfl, y, bb, rfl, ry, subs_wf hm (h1 hw), by omega, by omega, fun H5 p5 s5 np5 hp5 => ?_⟩
        refine ⟨f, p5, _, _, rfl, rfl, s5 _ _ hf3, hp5, (by rw [sizeLine_eq]; simp only [List.length_map, List.length_append]; omega), y, rfl, ?_⟩
        refine ⟨Cm.same_mut (s3.trans s5) nf, (upd_ne (Ne.symm hfp)).trans (s5 _ _ hp3), rp3.keep (fun q o e no => (upd_ne fun z => ?_).trans (s5 _ _ e)), ?_⟩
        · rw [z, hf3] at e
          exact no _ (Option.some.inj e).symm
        · rw [upd_same, letsL_snoc hbb, ← List.map_append]
          simp only [List.append_assoc]
      · subst ey
        rw [hll, List.take_length, ← lets_eq st, ← take_lets he] at hf3
        exact ⟨_, _, rfl, s3, hf3⟩
  · subst e
    rw [hlen, Ss.take_all] at hf
    exact ⟨_, rfl, q _ _ s2 nf hf⟩
/-! ### the code, as the law makes it -/
theorem lets_all (T : Txt K mg w a) : ∀ d : Nat, FnOk P w K mg base CX0 (d + 2) (He.ga K "let_names") a.d_let_names ["block"] (spLn K d)
  | 0 => vac fun vs H Q E h => by
    obtain ⟨_, e, _, _, _, hd, _⟩ := h
    exact absurd hd (Nat.not_lt_zero e.dep)
  | d + 1 => step_lets T d (lets_all T d)
def spNames (K : PySem.W.Frag) : Sp := fun vs H Q _ => ∃ (lp : Addr) (ps : List Str) (v : V) (b : Ss), vs = [.ref lp, v] ∧ H lp = some (.lst (ps.map V.str)) ∧ ps.length ≤ 1000 ∧ Rp K H v (.tuple b.ds) ∧ b.wf = true ∧ b.dep < 13 ∧ b.sz ≤ 100000 ∧
  ∀ (H' : Hp) (p : Addr), Same H H' → H' p = some (.lst ((ps ++ b.lets).map V.str)) → Q (.ref p) H'
theorem ok_names (T : Txt K mg w a) : FnOk P w K mg base CX0 16 (He.ga K "local_names") a.d_local_names ["params", "block"] (spNames K) := by
  have gl := lets_all (P := P) (w := w) (base := base) T 13
  refine T.F_local_names.ok sc_local_names (fun vs H Q E h => ?_) (fun cdv A outer s H vs Q E hr h => ?_)
  · obtain ⟨_, _, _, _, rfl, _⟩ := h
    rfl
  obtain ⟨lp, ps, v, b, rfl, hlp, hlen, hv, hw, hd, hsz, q⟩ := h
  refine ⟨_, PSs.nox (pss_one (ps_ret (pe_op op_cat (pv 0) (pe_call gl (hr.mono (by omega)) (by rfl) T.g_let_names T.F_let_names.kp T.b_let_names .nil pass0 (pa_cons (pv 1) pa_nil))))), ?_⟩
  have hz := Ss.lets_sz b
  refine ⟨_, rfl, _, rfl, v, b, rfl, hv, hw, hd, hsz, fun H1 p1 s1 np1 hp1 => ?_⟩
  refine ⟨lp, p1, _, _, rfl, rfl, s1 _ _ hlp, hp1, (by rw [sizeLine_eq]; simp only [List.length_map]; omega), fun p2 np2 => ?_⟩
  exact q _ _ (s1.trans (Cm.same_new np2)) (by rw [upd_same, ← List.map_append])
/-- what has code of its own: an expression, a fork, a return, a print, a move -/
inductive Nd where
  | e (x : E)
  | f (r : E) (g : Str) (as : Es)
  | p (w : Str) (as : Es)
def Nd.d : Nd → PyData
  | .e x => x.d
  | .f r g as => (S.fork r g as).d
  | .p w as => (S.plain w as).d
def Nd.code (pl : Plc) : Nd → Nat → List PyData
  | .e x, i => x.code pl i
  | .f r g as, i => (S.fork r g as).code pl i
  | .p w as, i => (S.plain w as).code pl i
def Nd.sz : Nd → Nat
  | .e x => x.sz
  | .f r g as => (S.fork r g as).sz
  | .p w as => (S.plain w as).sz
def Nd.dep : Nd → Nat
  | .e x => x.dep
  | .f r g as => (S.fork r g as).dep
  | .p w as => (S.plain w as).dep
def Nd.uses : Nd → List Str
  | .e x => x.uses
  | .f r g as => (S.fork r g as).uses
  | .p w as => (S.plain w as).uses
def Nd.wf : Nd → Bool
  | .e x => x.wf
  | .f r g as => (S.fork r g as).wf
  | .p w as => (S.plain w as).wf
theorem at2 {x y z : V} {xs : List V} : atI (x :: y :: z :: xs) 2 = some z := atI_nat (j := 2) rfl
theorem at3 {x y z u : V} {xs : List V} : atI (x :: y :: z :: u :: xs) 3 = some u := atI_nat (j := 3) rfl
/-- a list of data -/
def Lr (K : PySem.W.Frag) (H : Hp) (v : V) (ds : List PyData) : Prop := ∃ l xs, v = .ref l ∧ H l = some (.lst xs) ∧ Rps K H xs ds
theorem Lr.same {K : PySem.W.Frag} {H H' : Hp} {v : V} {ds : List PyData} (h : Lr K H v ds) (s : Same H H') : Lr K H' v ds := by
  obtain ⟨l, xs, e, hl, r⟩ := h
  exact ⟨l, xs, e, s _ _ hl, r.keep (Same.tups s)⟩
theorem Lr.made {K : PySem.W.Frag} {H : Hp} {p : Addr} {xs : List V} {ds : List PyData} (np : H p = none) (r : Rps K H xs ds) : Lr K (upd H p (.lst xs)) (.ref p) ds := ⟨p, xs, rfl, upd_same, r.keep (Same.tups (Cm.same_new np))⟩
theorem Lr.len {K : PySem.W.Frag} {H : Hp} {v : V} {ds : List PyData} (h : Lr K H v ds) : ∃ l xs, v = .ref l ∧ SqL K H l xs ∧ xs.length = ds.length := by
  obtain ⟨l, xs, e, hl, r⟩ := h
  exact ⟨l, xs, e, SqL.of hl, r.len⟩
theorem cat_lr {K : PySem.W.Frag} {H : Hp} {x y : V} {ds es : List PyData} {Q : VK} (hx : Lr K H x ds) (hy : Lr K H y es) (hz : ds.length + es.length ≤ 10000000) (h : ∀ (v : V) (H' : Hp), Same H H' → Lr K H' v (ds ++ es) → Q v H') : rCat x y H Q := by
  obtain ⟨l, xs, rfl, hl, r⟩ := hx
  obtain ⟨b, ys, rfl, hb, r2⟩ := hy
  refine ⟨l, b, xs, ys, rfl, rfl, hl, hb, ?_, fun p np => h _ _ (Cm.same_new np) (Lr.made np (r.app r2))⟩
  rw [r.len, r2.len, sizeLine_eq]
  omega
def spLc (K : PySem.W.Frag) (d : Nat) : Sp := fun vs H Q _ => ∃ (v : V) (nd : Addr) (at_ : Nat) (e : Nd) (pl : Plc) (N : List Str), vs = [v, .ref nd, .int at_] ∧ PlAt K H nd pl N ∧ Rp K H v e.d ∧ e.wf = true ∧ (∀ x ∈ e.uses, x ∈ N) ∧ e.dep < d ∧ e.sz ≤ 100000 ∧
  ∀ (H' : Hp) (u : V), Same H H' → Lr K H' u (e.code pl at_) → Q u H'
abbrev opsW : List Str := ["add", "sub", "mul", "less", "most", "same", "not", "return", "print", "move"]
theorem Nd.kinds (e : Nd) (hw : e.wf = true) : (∃ n, e = .e (.int n)) ∨ (∃ x, e = .e (.name x)) ∨ (∃ o l r, e = .e (.choice o l r)) ∨ (∃ w : Str, (w = "nil" ∨ w = "self") ∧ e = .e (.plain w .nil)) ∨
    (∃ (w : Str) (r : E) (f : Str) (as : Es), (w = "call" ∨ w = "fork") ∧ e.d = .tuple [.str w, r.d, .str f, .tuple as.ds] ∧ (∀ pl i, e.code pl i = (Es.cons r as).code pl i ++ [I3 w f as.len]) ∧ (Es.cons r as).wf = true ∧ e.uses = (Es.cons r as).uses ∧ e.dep = (Es.cons r as).dep + 1 ∧ e.sz = (Es.cons r as).sz + 1) ∨
    (∃ m as, e = .e (.new m as)) ∨
    (∃ w x as, w ∈ opsW ∧ e.d = .tuple (.str w :: (Es.cons x as).ds) ∧ (∀ pl i, e.code pl i = (Es.cons x as).code pl i ++ [I1 w]) ∧ (Es.cons x as).wf = true ∧ e.uses = (Es.cons x as).uses ∧ e.dep = (Es.cons x as).dep + 1 ∧ e.sz = (Es.cons x as).sz + 1) := by
  cases e with
  | e x =>
    cases x with
    | int n => exact .inl ⟨n, rfl⟩
    | name x => exact .inr (.inl ⟨x, rfl⟩)
    | choice o l r => exact .inr (.inr (.inl ⟨o, l, r, rfl⟩))
    | call r f as => exact .inr (.inr (.inr (.inr (.inl ⟨"call", r, f, as, .inl rfl, rfl, fun _ _ => rfl, hw, rfl, rfl, rfl⟩))))
    | new m as => exact .inr (.inr (.inr (.inr (.inr (.inl ⟨m, as, rfl⟩)))))
    | plain w as =>
      obtain ⟨h1, h2⟩ := Bool.and_eq_true_iff.mp hw
      obtain ⟨h1, h3⟩ := Bool.and_eq_true_iff.mp h1
      have hm : w ∈ plainE := of_decide_eq_true h1
      cases as with
      | nil =>
        have hl : w ∈ leafE := ar_nil h3
        refine .inr (.inr (.inr (.inl ⟨w, ?_, rfl⟩)))
        rcases List.mem_cons.mp hl with h | h
        · exact .inl h
        · exact .inr (List.mem_singleton.mp h)
      | cons x as =>
        have hl : ¬ w ∈ leafE := ar_some (n := as.len) h3
        have ho : w ∈ opsW := (by decide +kernel : ∀ w ∈ plainE, ¬ w ∈ leafE → w ∈ opsW) w hm hl
        exact .inr (.inr (.inr (.inr (.inr (.inr ⟨w, x, as, ho, rfl, fun _ _ => rfl, h2, rfl, rfl, rfl⟩)))))
  | f r g as => exact .inr (.inr (.inr (.inr (.inl ⟨"fork", r, g, as, .inr rfl, rfl, fun _ _ => rfl, hw, rfl, rfl, rfl⟩))))
  | p w as =>
    obtain ⟨h1, h2⟩ := Bool.and_eq_true_iff.mp hw
    obtain ⟨h1, h3⟩ := Bool.and_eq_true_iff.mp h1
    have hm : w ∈ plainB := of_decide_eq_true h1
    cases as with
    | nil =>
      have h4 : 0 = arB w := of_decide_eq_true h3
      unfold arB at h4
      split at h4 <;> omega
    | cons x as =>
      have ho : w ∈ opsW := (by decide +kernel : ∀ w ∈ plainB, w ∈ opsW) w hm
      exact .inr (.inr (.inr (.inr (.inr (.inr ⟨w, x, as, ho, rfl, fun _ _ => rfl, h2, rfl, rfl, rfl⟩)))))
theorem step_lcode (T : Txt K mg w a) (d : Nat) (gc : FnOk P w K mg base CX0 (d + 1) (He.ga K "_law_code") a.d_lw_code ["node", "places", "base"] (spLc K d)) :
    FnOk P w K mg base CX0 (d + 2) (He.ga K "_law_code") a.d_lw_code ["node", "places", "base"] (spLc K (d + 1)) := by
  refine T.F_lw_code.ok sc_lw_code (fun vs H Q E h => ?_) (fun cdv A outer s H vs Q E hr h => ?_)
  · obtain ⟨_, _, _, _, _, _, rfl, _⟩ := h
    rfl
  obtain ⟨v, nd, at_, e, pl, N, rfl, hpl, hv, hw, hu, hd, hsz, q⟩ := h
  refine ⟨_, PSs.nox (pss_cons (ps_set (i := 3) sc_lw_code.nd rfl (Or.inl rfl) (pe_ix ix_tup (pv 0) pe_int (fun _ _ => rfl)))
      (pss_cons (ps_if (pt_cmpR op_eq (pv 3) pe_str (nomark _)) (pss_one (ps_ret (pe_lst (pa_cons (pe_tup (pa_cons pe_str (pa_cons (pe_ix ix_tup (pv 0) pe_int (fun _ _ => rfl)) pa_nil))) pa_nil)))) pss_nil)
      (pss_cons (ps_if (pt_cmpR op_in_seq (pv 3) (pe_tup (pa_cons pe_str (pa_cons pe_str pa_nil))) (by rfl)) (pss_one (ps_ret (pe_lst (pa_cons (pv 0) pa_nil)))) pss_nil)
      (pss_cons (ps_if (pt_cmpR op_eq (pv 3) pe_str (nomark _)) (pss_one (ps_ret (pe_lst (pa_cons (pe_dget (hu_of hr) (pv 1) (pe_ix ix_tup (pv 0) pe_int (fun _ _ => rfl)) (fun _ _ => rfl)) pa_nil)))) pss_nil)
      (pss_cons (ps_if (pt_cmpR op_in_seq (pv 3) (pe_tup (pa_cons pe_str (pa_cons pe_str pa_nil))) (by rfl)) (pss_cons (ps_set (i := 4) sc_lw_code.nd rfl (Or.inl rfl) (pe_op op_rep (pe_lst (pa_cons (pe_tup (pa_cons pe_str pa_nil)) pa_nil)) (pe_callTy call_int1 (by rfl) T.g_int boot_int (pa_cons (pe_cmpR op_eq (pv 3) pe_str (nomark _)) pa_nil))))
      (pss_cons (ps_set (i := 5) sc_lw_code.nd rfl (Or.inl rfl) (pe_op op_cat (pe_call gc (hr.mono (by omega)) (by rfl) T.g_lw_code T.F_lw_code.kp T.b_lw_code .nil pass0 (pa_cons (pe_ix ix_tup (pv 0) pe_int (fun _ _ => rfl)) (pa_cons (pv 1) (pa_cons (pv 2) pa_nil)))) (pv 4)))
      (pss_cons (ps_set (i := 6) sc_lw_code.nd rfl (Or.inl rfl) (pe_op op_cat (pe_call gc (hr.mono (by omega)) (by rfl) T.g_lw_code T.F_lw_code.kp T.b_lw_code .nil pass0 (pa_cons (pe_ix ix_tup (pv 0) pe_int (fun _ _ => rfl)) (pa_cons (pv 1) (pa_cons (pe_op op_add (pe_op op_add (pv 2) (pe_callB call_len_seq (by rfl) T.g_len boot_len (pa_cons (pv 5) pa_nil))) pe_int) pa_nil)))) (pv 4)))
      (pss_cons (ps_set (i := 7) sc_lw_code.nd rfl (Or.inl rfl) (pe_op op_add (pe_op op_add (pe_op op_add (pv 2) (pe_callB call_len_seq (by rfl) T.g_len boot_len (pa_cons (pv 5) pa_nil))) (pe_callB call_len_seq (by rfl) T.g_len boot_len (pa_cons (pv 6) pa_nil))) pe_int))
      (pss_one (ps_ret (pe_op op_cat (pe_op op_cat (pe_op op_cat (pv 5) (pe_lst (pa_cons (pe_tup (pa_cons pe_str (pa_cons (pv 7) pa_nil))) pa_nil))) (pv 6)) (pe_lst (pa_cons (pe_tup (pa_cons pe_str (pa_cons (pv 7) pa_nil))) (pa_cons (pe_tup (pa_cons pe_str (pa_cons (pe_callTy call_int1 (by rfl) T.g_int boot_int (pa_cons (pe_cmpR op_eq (pv 3) pe_str (nomark _)) pa_nil)) pa_nil))) (pa_cons (pe_tup (pa_cons pe_str (pa_cons (pe_op op_add (pv 7) pe_int) pa_nil))) (pa_cons (pe_tup (pa_cons pe_str (pa_cons (pe_callTy call_int1 (by rfl) T.g_int boot_int (pa_cons (pe_cmpR op_eq (pv 3) pe_str (nomark _)) pa_nil)) pa_nil))) pa_nil)))))))))))) pss_nil)
      (pss_cons (ps_set (i := 8) sc_lw_code.nd rfl (Or.inl rfl) (pe_dget2 (hu_of hr) (pe_disp (pps_cons pe_str (pe_tup (pa_cons (pe_ix ix_tup (pv 0) pe_int (fun _ _ => rfl)) pa_nil)) (pps_cons pe_str (pe_tup (pa_cons (pe_ix ix_tup (pv 0) pe_int (fun _ _ => rfl)) pa_nil)) (pps_cons pe_str (pe_tup pa_nil) pps_nil))) (by rfl) (by rfl) (fun z => by cases z) (by decide)) (pv 3) (pe_slice sl_tupA (pv 0) (po_some pe_int) po_none) ⟨rfl, rfl, rfl, rfl⟩))
      (pss_cons (ps_if (pt_cmpR op_in_seq (pv 3) (pe_tup (pa_cons pe_str (pa_cons pe_str pa_nil))) (by rfl)) (pss_one (ps_set (i := 8) sc_lw_code.nd rfl (Or.inl rfl) (pe_op op_catA (pv 8) (pe_ix ix_tup (pv 0) pe_int (fun _ _ => rfl))))) (pss_one (ps_if (pt_cmpR op_eq (pv 3) pe_str (nomark _)) (pss_one (ps_set (i := 8) sc_lw_code.nd rfl (Or.inl rfl) (pe_ix ix_tup (pv 0) pe_int (fun _ _ => rfl)))) pss_nil)))
      (pss_cons (ps_set (i := 9) sc_lw_code.nd rfl (Or.inl rfl) (pe_lst pa_nil))
      (pss_cons (ps_for PassesOwn.never rfl (pi_tup (pv 8)) (pg_name (i := 10) sc_lw_code.nd rfl (Or.inl rfl))
      (pss_one (ps_set (i := 9) sc_lw_code.nd rfl (Or.inl rfl) (pe_op op_cat (pv 9) (pe_call gc (hr.mono (by omega)) (by rfl) T.g_lw_code T.F_lw_code.kp T.b_lw_code .nil pass0 (pa_cons (pv 10) (pa_cons (pv 1) (pa_cons (pe_op op_add (pv 2) (pe_callB call_len_seq (by rfl) T.g_len boot_len (pa_cons (pv 9) pa_nil))) pa_nil))))))))
      (pss_cons (ps_if (pt_cmpR op_in_seq (pv 3) (pe_tup (pa_cons pe_str (pa_cons pe_str pa_nil))) (by rfl)) (pss_one (ps_ret (pe_op op_cat (pv 9) (pe_lst (pa_cons (pe_tup (pa_cons (pv 3) (pa_cons (pe_ix ix_tup (pv 0) pe_int (fun _ _ => rfl)) (pa_cons (pe_callB call_len_seq (by rfl) T.g_len boot_len (pa_cons (pe_ix ix_tup (pv 0) pe_int (fun _ _ => rfl)) pa_nil)) pa_nil)))) pa_nil))))) pss_nil)
      (pss_cons (ps_if (pt_cmpR op_eq (pv 3) pe_str (nomark _)) (pss_one (ps_ret (pe_op op_cat (pv 9) (pe_lst (pa_cons (pe_tup (pa_cons pe_str (pa_cons (pe_ix ix_tup (pv 0) pe_int (fun _ _ => rfl)) (pa_cons (pe_callB call_len_seq (by rfl) T.g_len boot_len (pa_cons (pe_ix ix_tup (pv 0) pe_int (fun _ _ => rfl)) pa_nil)) pa_nil)))) pa_nil))))) pss_nil)
      (pss_one (ps_ret (pe_op op_cat (pv 9) (pe_lst (pa_cons (pe_tup (pa_cons (pv 3) pa_nil)) pa_nil)))))))))))))))), ?_⟩
  rcases e.kinds hw with ⟨n, rfl⟩ | ⟨x, rfl⟩ | ⟨o, l, r, rfl⟩ | ⟨wd, hwd, rfl⟩ | ⟨wd, r, f, as, hwd, ed, ec, ew, eu, edp, esz⟩ | ⟨m, as, rfl⟩ | ⟨wd, x, as, hwd, ed, ec, ew, eu, edp, esz⟩
  · -- int
    obtain ⟨b, vs, rfl, hb, hvs⟩ := hv.tup_inv
    obtain ⟨v0, vs, rfl, r0, hvs⟩ := hvs.cons_inv
    obtain ⟨v1, vs, rfl, r1, hvs⟩ := hvs.cons_inv
    cases hvs.nil_inv
    cases r0.str_inv
    refine ⟨_, rfl, b, _, _, _, rfl, rfl, hb, at0, ?_⟩
    refine ⟨_, rfl, rfl, _, rfl, Cm.itES (fun _ => ?_) (fun e => absurd rfl e)⟩
    refine ⟨_, rfl, b, _, _, _, rfl, rfl, hb, at1, Cm.small (by show 2 ≤ 100000; decide), fun p np => ⟨Cm.small (by show 1 ≤ 100000; decide), fun p2 np2 => ?_⟩⟩
    exact q _ _ ((Cm.same_new np).trans (Cm.same_new np2)) (Lr.made np2 (.cons (made np (.cons (.str "push") (.cons r1 .nil))) .nil))
  · -- name
    obtain ⟨kvs, hk, hx⟩ := id hpl
    obtain ⟨_, u, hu1, ru⟩ := hx x (hu x (List.mem_cons_self))
    have gx : DGet H nd (.str x) (some u) := by
      rw [← hu1]
      exact DGet.k (k := .inr x) hk
    obtain ⟨b, vs, rfl, hb, hvs⟩ := hv.tup_inv
    obtain ⟨v0, vs, rfl, r0, hvs⟩ := hvs.cons_inv
    obtain ⟨v1, vs, rfl, r1, hvs⟩ := hvs.cons_inv
    cases hvs.nil_inv
    cases r0.str_inv
    cases r1.str_inv
    refine ⟨_, rfl, b, _, _, _, rfl, rfl, hb, at0, ?_⟩
    refine ⟨_, rfl, rfl, _, rfl, Cm.itES (fun e => absurd e (by decide)) (fun _ => ?_)⟩
    refine ⟨_, rfl, Cm.small (by show 2 ≤ 100000; decide), fun p1 np1 => ⟨p1, _, rfl, .inr Cm.sqt_new, rfl, rfl, _, rfl, Cm.itV (fun e => absurd e (by decide)) (fun _ => ?_)⟩⟩
    have t1 := Cm.same_new (o := .tup [.str "nil", .str "self"]) np1
    generalize upd H p1 (.tup [.str "nil", .str "self"]) = H1 at t1 ⊢
    refine ⟨_, rfl, rfl, _, rfl, Cm.itES (fun _ => ?_) (fun e => absurd rfl e)⟩
    refine ⟨_, rfl, _, rfl, b, _, _, _, rfl, rfl, Cm.sameT t1 hb, at1, nd, u, rfl, ?_, Cm.small (by show 1 ≤ 100000; decide), fun p2 np2 => ?_⟩
    · rw [← hu1]
      exact DGet.k (k := .inr x) (t1 _ _ hk)
    · exact q _ _ (t1.trans (Cm.same_new np2)) (Lr.made np2 (.cons (ru.keep (Same.tups t1)) .nil))
  · -- and, or
    obtain ⟨b, vs, rfl, hb, hvs⟩ := hv.tup_inv
    obtain ⟨v0, vs, rfl, r0, hvs⟩ := hvs.cons_inv
    obtain ⟨v1, vs, rfl, r1, hvs⟩ := hvs.cons_inv
    obtain ⟨v2, vs, rfl, r2, hvs⟩ := hvs.cons_inv
    cases hvs.nil_inv
    cases r0.str_inv
    have n1 : ¬ cw o = "int" := by cases o <;> decide
    have n2 : ¬ cw o = "name" := by cases o <;> decide
    have n3 : ¬ inV (.str (cw o)) [.str "nil", .str "self"] = true := by cases o <;> decide
    have n4 : inV (.str (cw o)) [.str "and", .str "or"] = true := by cases o <;> decide
    have e5 : decide (V.str (cw o) = V.str "or") = o := by cases o <;> decide
    have e6 : decide (V.str (cw o) = V.str "and") = !o := by cases o <;> decide
    obtain ⟨hw1, hw2⟩ := Bool.and_eq_true_iff.mp (show (l.wf && r.wf) = true from hw)
    have hz : l.sz + r.sz + (if o then 2 else 0) + 5 ≤ 100000 := hsz
    have hdd : max l.dep r.dep + 1 < d + 1 := hd
    refine ⟨_, rfl, b, _, _, _, rfl, rfl, hb, at0, ?_⟩
    refine ⟨_, rfl, rfl, _, rfl, Cm.itES (fun e => absurd e n1) (fun _ => ?_)⟩
    refine ⟨_, rfl, Cm.small (by show 2 ≤ 100000; decide), fun p1 np1 => ⟨p1, _, rfl, .inr Cm.sqt_new, rfl, rfl, _, rfl, Cm.itV (fun e => absurd e n3) (fun _ => ?_)⟩⟩
    have t1 := Cm.same_new (o := .tup [.str "nil", .str "self"]) np1
    generalize upd H p1 (.tup [.str "nil", .str "self"]) = H1 at t1 ⊢
    refine ⟨_, rfl, rfl, _, rfl, Cm.itES (fun e => absurd e n2) (fun _ => ?_)⟩
    refine ⟨_, rfl, Cm.small (by show 2 ≤ 100000; decide), fun p2 np2 => ⟨p2, _, rfl, .inr Cm.sqt_new, rfl, rfl, _, rfl, Cm.itV (fun _ => ?_) (fun e => absurd n4 (by rw [e]; decide))⟩⟩
    have t2 := t1.trans (Cm.same_new (o := .tup [.str "and", .str "or"]) np2)
    generalize upd H1 p2 (.tup [.str "and", .str "or"]) = H2 at t2 ⊢
    refine ⟨Cm.small (by show 1 ≤ 100000; decide), fun p3 np3 => ⟨Cm.small (by show 1 ≤ 100000; decide), fun p4 np4 => ⟨_, rfl, rfl, .inr ⟨_, rfl, ?_⟩⟩⟩⟩
    have r3 := made (K := K) np3 (.cons (.str "not") .nil)
    have t4 := (Cm.same_new (o := .tup [.str "not"]) np3).trans (Cm.same_new (o := .lst [.ref p3]) np4)
    have kB : ∀ k : Bool, (if k = true then (1 : Int) else 0) = 1 ∨ (if k = true then (1 : Int) else 0) = 0 := by decide
    refine ⟨p4, _, _, rfl, rfl, upd_same, ?_, ?_, ?_, fun p5 np5 => ?_⟩
    · rcases kB (decide (V.str (cw o) = V.str "or")) with h | h <;> rw [h] <;> decide
    · rcases kB (decide (V.str (cw o) = V.str "or")) with h | h <;> rw [h] <;> decide
    · rcases kB (decide (V.str (cw o) = V.str "or")) with h | h <;> rw [h] <;> exact Cm.small (by show _ ≤ 100000; simp)
    have t5 := t2.trans (t4.trans (Cm.same_new (o := .lst (List.replicate (if decide (V.str (cw o) = V.str "or") = true then (1 : Int) else 0).toNat [V.ref p3]).flatten) np5))
    have l5 : Lr K (upd (upd (upd H2 p3 (.tup [.str "not"])) p4 (.lst [.ref p3])) p5 (.lst (List.replicate (if decide (V.str (cw o) = V.str "or") = true then (1 : Int) else 0).toNat [V.ref p3]).flatten)) (.ref p5) (tn o) := by
      refine Lr.made np5 ?_
      rw [e5]
      cases o
      · exact .nil
      · exact .cons (r3.keep (Same.tups (Cm.same_new np4))) .nil
    generalize upd (upd (upd H2 p3 (.tup [.str "not"])) p4 (.lst [.ref p3])) p5 (.lst (List.replicate (if decide (V.str (cw o) = V.str "or") = true then (1 : Int) else 0).toNat [V.ref p3]).flatten) = H5 at t5 l5 ⊢
    have hko : kn o ≤ 1 := by cases o <;> decide
    refine ⟨_, rfl, b, _, _, _, rfl, rfl, Cm.sameT t5 hb, at1, _, rfl, _, rfl, ?_⟩
    refine ⟨v1, nd, at_, .e l, pl, N, rfl, hpl.same t5, r1.keep (Same.tups t5), hw1, fun x hx => hu x (List.mem_append_left _ hx), (by show l.dep < d; omega), (by show l.sz ≤ 100000; omega), fun H6 u6 s6 l6 => ?_⟩
    replace l6 : Lr K H6 u6 (l.code pl at_) := l6
    refine ⟨_, rfl, cat_lr l6 (l5.same s6) (by rw [Pt.E.code_len, tn_len]; omega) fun u7 H7 s7 l7 => ?_⟩
    have t7 := (t5.trans s6).trans s7
    have l5' := l5.same (s6.trans s7)
    obtain ⟨c7, xs7, rfl, hc7, hl7⟩ := l7.len
    rw [List.length_append, Pt.E.code_len, tn_len] at hl7
    refine ⟨_, rfl, b, _, _, _, rfl, rfl, Cm.sameT t7 hb, at2, _, rfl, _, rfl, _, rfl, c7, xs7, rfl, .inl hc7, _, _, rfl, rfl, _, _, rfl, rfl, ?_⟩
    refine ⟨v2, nd, at_ + l.sz + kn o + 1, .e r, pl, N, args3 (by omega), hpl.same t7, r2.keep (Same.tups t7), hw2, fun x hx => hu x (List.mem_append_right _ hx), (by show r.dep < d; omega), (by show r.sz ≤ 100000; omega), fun H8 u8 s8 l8 => ?_⟩
    replace l8 : Lr K H8 u8 (r.code pl (at_ + l.sz + kn o + 1)) := l8
    refine ⟨_, rfl, cat_lr l8 (l5'.same s8) (by rw [Pt.E.code_len, tn_len]; omega) fun u9 H9 s9 l9 => ?_⟩
    have t9 := (t7.trans s8).trans s9
    have l7' := l7.same (s8.trans s9)
    obtain ⟨c9, xs9, rfl, hc9, hl9⟩ := l9.len
    rw [List.length_append, Pt.E.code_len, tn_len] at hl9
    refine ⟨_, rfl, _, rfl, c7, xs7, rfl, .inl ((s8.trans s9).seq hc7), _, _, rfl, rfl, _, rfl, c9, xs9, rfl, .inl hc9, _, _, rfl, rfl, _, _, rfl, rfl, ?_⟩
    have eD : ((at_ : Int) + (xs7.length : Nat) + (xs9.length : Nat) + 4) = ((at_ + l.sz + kn o + 1 + r.sz + kn o + 3 : Nat) : Int) := by omega
    have hlf : (l.code pl at_ ++ tn o).length = l.sz + kn o := by rw [List.length_append, Pt.E.code_len, tn_len]
    have hls : (r.code pl (at_ + l.sz + kn o + 1) ++ tn o).length = r.sz + kn o := by rw [List.length_append, Pt.E.code_len, tn_len]
    refine ⟨_, rfl, _, rfl, Cm.small (by show 2 ≤ 100000; decide), fun p10 np10 => ⟨Cm.small (by show 1 ≤ 100000; decide), fun p11 np11 => ?_⟩⟩
    have r10 := made (K := K) np10 (.cons (.str "unless") (.cons (intE eD) .nil))
    have t11 := (Cm.same_new (o := .tup [.str "unless", .int ((at_ : Int) + (xs7.length : Nat) + (xs9.length : Nat) + 4)]) np10).trans (Cm.same_new (o := .lst [.ref p10]) np11)
    have l11 : Lr K _ _ _ := Lr.made (K := K) np11 (.cons r10 .nil)
    refine cat_lr (l7'.same t11) l11 (by simp only [List.length_cons, List.length_nil, hlf]; omega) fun u12 H12 s12 l12 => ?_
    refine ⟨_, rfl, cat_lr l12 ((l9.same t11).same s12) (by simp only [List.length_append, List.length_cons, List.length_nil, tn_len, Pt.E.code_len]; omega) fun u13 H13 s13 l13 => ?_⟩
    have t13 := ((t9.trans t11).trans s12).trans s13
    refine ⟨_, rfl, Cm.small (by show 2 ≤ 100000; decide), fun p14 np14 => ⟨_, rfl, rfl, .inr ⟨_, rfl, Cm.small (by show 2 ≤ 100000; decide), fun p15 np15 => ⟨_, rfl, _, _, rfl, rfl, Cm.small (by show 2 ≤ 100000; decide), fun p16 np16 => ⟨_, rfl, rfl, .inr ⟨_, rfl, Cm.small (by show 2 ≤ 100000; decide), fun p17 np17 => ⟨Cm.small (by show 4 ≤ 100000; decide), fun p18 np18 => ?_⟩⟩⟩⟩⟩⟩⟩
    have b5 : (if decide (V.str (cw o) = V.str "and") = true then (1 : Int) else 0) = if o then 0 else 1 := by rw [e6]; cases o <;> rfl
    have b6 : (if decide (V.str (cw o) = V.str "or") = true then (1 : Int) else 0) = if o then 1 else 0 := by rw [e5]
    have r14 := made (K := K) np14 (.cons (.str "unless") (.cons (intE eD) .nil))
    have r15 := made (K := K) np15 (.cons (.str "push") (.cons (intE b5) .nil))
    have r16 := made (K := K) np16 (.cons (.str "jump") (.cons (intE (congrArg (· + 1) eD)) .nil))
    have r17 := made (K := K) np17 (.cons (.str "push") (.cons (intE b6) .nil))
    have s15 := Cm.same_new (o := .tup [.str "push", .int (if decide (V.str (cw o) = V.str "and") = true then (1 : Int) else 0)]) np15
    have s16 := Cm.same_new (o := .tup [.str "jump", .int (((at_ : Int) + (xs7.length : Nat) + (xs9.length : Nat) + 4) + 1)]) np16
    have s17 := Cm.same_new (o := .tup [.str "push", .int (if decide (V.str (cw o) = V.str "or") = true then (1 : Int) else 0)]) np17
    have l18 : Lr K _ _ _ := Lr.made (K := K) np18 (.cons (r14.keep (Same.tups ((s15.trans s16).trans s17))) (.cons (r15.keep (Same.tups (s16.trans s17))) (.cons (r16.keep (Same.tups s17)) (.cons r17 .nil))))
    have t18 := ((((Cm.same_new (o := .tup [.str "unless", .int ((at_ : Int) + (xs7.length : Nat) + (xs9.length : Nat) + 4)]) np14).trans s15).trans s16).trans s17).trans (Cm.same_new (o := .lst [.ref p14, .ref p15, .ref p16, .ref p17]) np18)
    refine cat_lr (l13.same t18) l18 (by simp only [List.length_append, List.length_cons, List.length_nil, tn_len, Pt.E.code_len]; omega) fun u19 H19 s19 l19 => ?_
    refine q _ _ ((t13.trans t18).trans s19) ?_
    have ec : ∀ (A B : List PyData) (x : PyData) (E : List PyData), A ++ [x] ++ B ++ (x :: E) = A ++ [x] ++ B ++ [x] ++ E := fun A B x E => by simp
    rw [← show _ = Nd.code pl (.e (.choice o l r)) at_ from ec (l.code pl at_ ++ tn o) (r.code pl (at_ + l.sz + kn o + 1) ++ tn o) (I2 "unless" ((at_ + l.sz + kn o + 1 + r.sz + kn o + 3 : Nat) : Int)) (ends o (at_ + l.sz + kn o + 1 + r.sz + kn o + 3))]
    exact l19
  · -- nil, self
    obtain ⟨b, vs, rfl, hb, hvs⟩ := id hv.tup_inv
    obtain ⟨v0, vs, rfl, r0, hvs⟩ := hvs.cons_inv
    cases hvs.nil_inv
    cases r0.str_inv
    have n1 : ¬ wd = Str.ofString "int" := by rcases hwd with rfl | rfl <;> decide
    have n3 : inV (.str wd) [.str "nil", .str "self"] = true := by rcases hwd with rfl | rfl <;> decide
    refine ⟨_, rfl, b, _, _, _, rfl, rfl, hb, at0, ?_⟩
    refine ⟨_, rfl, rfl, _, rfl, Cm.itES (fun e => absurd e n1) (fun _ => ?_)⟩
    refine ⟨_, rfl, Cm.small (by show 2 ≤ 100000; decide), fun p2 np2 => ⟨p2, _, rfl, .inr Cm.sqt_new, rfl, rfl, _, rfl, Cm.itV (fun _ => ?_) (fun e => absurd n3 (by rw [e]; decide))⟩⟩
    have t2 := Cm.same_new (o := .tup [.str "nil", .str "self"]) np2
    refine ⟨_, rfl, Cm.small (by show 1 ≤ 100000; decide), fun p3 np3 => ?_⟩
    exact q _ _ (t2.trans (Cm.same_new np3)) (Lr.made np3 (.cons (hv.keep (Same.tups t2)) .nil))
  · -- call
    have hv' : Rp K H v (.tuple [.str wd, r.d, .str f, .tuple as.ds]) := ed ▸ hv
    obtain ⟨b, vs, rfl, hb, hvs⟩ := id hv'.tup_inv
    obtain ⟨v0, vs, rfl, r0, hvs⟩ := hvs.cons_inv
    obtain ⟨v1, vs, rfl, r1, hvs⟩ := hvs.cons_inv
    obtain ⟨v2, vs, rfl, r2, hvs⟩ := hvs.cons_inv
    obtain ⟨v3, vs, rfl, r3, hvs⟩ := hvs.cons_inv
    cases hvs.nil_inv
    cases r0.str_inv
    cases r2.str_inv
    have n1 : ¬ wd = Str.ofString "int" := by rcases hwd with rfl | rfl <;> decide
    have n2 : ¬ wd = Str.ofString "name" := by rcases hwd with rfl | rfl <;> decide
    have n3 : ¬ inV (.str wd) [.str "nil", .str "self"] = true := by rcases hwd with rfl | rfl <;> decide
    have n4 : ¬ inV (.str wd) [.str "and", .str "or"] = true := by rcases hwd with rfl | rfl <;> decide
    have c1 : inV (.str wd) [.str "call", .str "fork"] = true := by rcases hwd with rfl | rfl <;> decide
    refine ⟨_, rfl, b, _, _, _, rfl, rfl, hb, at0, ?_⟩
    refine ⟨_, rfl, rfl, _, rfl, Cm.itES (fun e => absurd e n1) (fun _ => ?_)⟩
    refine ⟨_, rfl, Cm.small (by show 2 ≤ 100000; decide), fun p1 np1 => ⟨p1, _, rfl, .inr Cm.sqt_new, rfl, rfl, _, rfl, Cm.itV (fun e => absurd e n3) (fun _ => ?_)⟩⟩
    have t1 := Cm.same_new (o := .tup [.str "nil", .str "self"]) np1
    generalize upd H p1 (.tup [.str "nil", .str "self"]) = H1 at t1 ⊢
    refine ⟨_, rfl, rfl, _, rfl, Cm.itES (fun e => absurd e n2) (fun _ => ?_)⟩
    refine ⟨_, rfl, Cm.small (by show 2 ≤ 100000; decide), fun p2 np2 => ⟨p2, _, rfl, .inr Cm.sqt_new, rfl, rfl, _, rfl, Cm.itV (fun e => absurd e n4) (fun _ => ?_)⟩⟩
    have t2 := Cm.same_new (o := .tup [.str "and", .str "or"]) np2
    generalize upd H1 p2 (.tup [.str "and", .str "or"]) = H2 at t2 ⊢
    have t12 := t1.trans t2
    refine fun D nD => ⟨_, rfl, b, _, _, _, rfl, rfl, Cm.sameT (t12.trans (Cm.same_new nD)) hb, at1, Cm.small (by show 1 ≤ 100000; decide), fun pa npa => ⟨_, rfl, b, _, _, _, rfl, rfl, Cm.sameT ((t12.trans (Cm.same_new nD)).trans (Cm.same_new npa)) hb, at1, Cm.small (by show 1 ≤ 100000; decide), fun pb npb => ⟨Nat.zero_le _, fun pc npc => ?_⟩⟩⟩
    have sab := ((Cm.same_new (o := .tup [v1]) npa).trans (Cm.same_new (o := .tup [v1]) npb)).trans (Cm.same_new (o := .tup []) npc)
    have h4D : upd (upd (upd (upd H2 D (.dK [])) pa (.tup [v1])) pb (.tup [v1])) pc (.tup []) D = some (.dK []) := sab _ _ upd_same
    have h4a : upd (upd (upd (upd H2 D (.dK [])) pa (.tup [v1])) pb (.tup [v1])) pc (.tup []) pa = some (.tup [v1]) := ((Cm.same_new (o := .tup [v1]) npb).trans (Cm.same_new (o := .tup []) npc)) _ _ upd_same
    have h4b : upd (upd (upd (upd H2 D (.dK [])) pa (.tup [v1])) pb (.tup [v1])) pc (.tup []) pb = some (.tup [v1]) := (Cm.same_new (o := .tup []) npc) _ _ upd_same
    have h4c : upd (upd (upd (upd H2 D (.dK [])) pa (.tup [v1])) pb (.tup [v1])) pc (.tup []) pc = some (.tup []) := upd_same
    have nDa : D ≠ pa := ne_of_none upd_same npa
    have nDb : D ≠ pb := ne_of_none ((Cm.same_new (o := .tup [v1]) npa) _ _ upd_same) npb
    have nDc : D ≠ pc := ne_of_none (((Cm.same_new (o := .tup [v1]) npa).trans (Cm.same_new (o := .tup [v1]) npb)) _ _ upd_same) npc
    have s24 := (Cm.same_new (o := .dK []) nD).trans sab
    generalize upd (upd (upd (upd H2 D (.dK [])) pa (.tup [v1])) pb (.tup [v1])) pc (.tup []) = H4 at h4D h4a h4b h4c s24 ⊢
    refine ⟨h4D, [(.inr "call", .ref pa), (.inr "fork", .ref pb), (.inr "new", .ref pc)], rfl, (by show 3 ≤ 15; decide), D, rfl, .inl ⟨_, .inl upd_same⟩, _, rfl, _, rfl, ?_⟩
    have tE : Same H (upd H4 D (.dK (mergeK [] [(.inr "call", .ref pa), (.inr "fork", .ref pb), (.inr "new", .ref pc)]))) := t12.trans (Cm.same_mut s24 nD)
    have hE : upd H4 D (.dK (mergeK [] [(.inr "call", .ref pa), (.inr "fork", .ref pb), (.inr "new", .ref pc)])) D = some (.dK [(.inr "call", .ref pa), (.inr "fork", .ref pb), (.inr "new", .ref pc)]) := upd_same
    have ga := (upd_ne (Ne.symm nDa) : upd H4 D (.dK (mergeK [] [(.inr "call", .ref pa), (.inr "fork", .ref pb), (.inr "new", .ref pc)])) pa = _).trans h4a
    have gb := (upd_ne (Ne.symm nDb) : upd H4 D (.dK (mergeK [] [(.inr "call", .ref pa), (.inr "fork", .ref pb), (.inr "new", .ref pc)])) pb = _).trans h4b
    have gc' := (upd_ne (Ne.symm nDc) : upd H4 D (.dK (mergeK [] [(.inr "call", .ref pa), (.inr "fork", .ref pb), (.inr "new", .ref pc)])) pc = _).trans h4c
    generalize upd H4 D (.dK (mergeK [] [(.inr "call", .ref pa), (.inr "fork", .ref pb), (.inr "new", .ref pc)])) = HE at tE hE ga gb gc' ⊢
    unfold tPart tNoPart tC
    dsimp only
    refine ⟨1, rfl, ?_⟩
    refine from_rp (k := 1) (hv'.keep (Same.tups tE)) (Nat.le_add_left 1 _) fun uS HS sS rS => ?_
    have tS := tE.trans sS
    have hu' : ∀ x ∈ (Es.cons r as).uses, x ∈ N := fun x hx => hu x (eu ▸ hx)
    rw [edp] at hd
    rw [esz] at hsz
    have hal := as_len as
    have hal2 : (Es.cons r as).sz = r.sz + as.sz := rfl
    obtain ⟨pp, hpp, gpp⟩ : ∃ pp : Addr, valV ([(.inr "call", .ref pa), (.inr "fork", .ref pb), (.inr "new", .ref pc)] : List (Key × V)) (.inr wd) = some (.ref pp) ∧ HE pp = some (.tup [v1]) := by
      rcases hwd with rfl | rfl
      · exact ⟨pa, rfl, ga⟩
      · exact ⟨pb, rfl, gb⟩
    have gx : DGet HS D (.str wd) (some (.ref pp)) := by
      rw [← hpp]
      exact DGet.k (k := .inr wd) (sS _ _ hE)
    refine ⟨_, gx, ?_⟩
    refine ⟨_, rfl, Cm.small (by show 2 ≤ 100000; decide), fun p5 np5 => ⟨p5, _, rfl, .inr Cm.sqt_new, rfl, rfl, _, rfl, Cm.itV (fun _ => ?_) (fun e => absurd c1 (by rw [e]; decide))⟩⟩
    have t5 := tS.trans (Cm.same_new (o := .tup [.str "call", .str "fork"]) np5)
    have rpp : Rp K (upd HS p5 (.tup [.str "call", .str "fork"])) (.ref pp) (.tuple [r.d]) := .tup (.inl (.inl ((sS.trans (Cm.same_new np5)) _ _ gpp))) (.cons (r1.keep (Same.tups t5)) .nil)
    generalize upd HS p5 (.tup [.str "call", .str "fork"]) = H5 at t5 rpp ⊢
    refine ⟨_, rfl, _, rfl, b, _, _, _, rfl, rfl, Cm.sameT t5 hb, at3, ?_⟩
    refine cat_rp rpp (r3.keep (Same.tups t5)) (by show 1 + as.ds.length ≤ 10000000; omega) fun u6 H6 s6 r6 => ?_
    have t6 := t5.trans s6
    replace r6 : Rp K H6 u6 (.tuple (Es.cons r as).ds) := r6
    refine ⟨Nat.zero_le _, fun pz npz => ?_⟩
    obtain ⟨bp, xs, rfl, hbp, hxs⟩ := r6.tup_inv
    have hlen : xs.length = (Es.cons r as).list.length := by rw [hxs.len, Es.list_ds, List.length_map]
    refine ⟨_, rfl, bp, rfl, ⟨xs, Cm.sameT (Cm.same_new npz) hbp⟩, for_tup (K := K) (a := bp) (xs := xs) (fun i σ H8 => ∃ (u : V) (x10 : Option V), σ = [some (.ref b), some (.ref nd), some (.int at_), some (.str wd), none, none, none, none, some (.ref bp), some u, x10] ∧ Same H6 H8 ∧ Lr K H8 u (((Es.cons r as).take i).code pl at_))
      ⟨_, none, rfl, Cm.same_new npz, Lr.made npz (by exact .nil)⟩ (fun i σ H8 _ ⟨_, _, _, s2, _⟩ => Cm.sameT s2 hbp) (fun i x σ H8 hx ⟨u, x10, e, s8, lu⟩ => ?_) fun σ H8 ⟨u, x10, e, s8, lu⟩ => ?_⟩
    · subst e
      obtain ⟨e, he, re⟩ := hxs.at_E hx
      obtain ⟨g1, g2, g3, g4⟩ := Es.part (List.mem_of_getElem? he)
      obtain ⟨nc, nz⟩ := Es.take_next (pl := pl) at_ he
      obtain ⟨c, cs, rfl, hc, hcl⟩ := lu.len
      rw [Es.code_len] at hcl
      have hz8 := Es.take_sz (Es.cons r as) i
      refine ⟨_, rfl, _, rfl, _, rfl, _, rfl, _, rfl, c, cs, rfl, .inl hc, _, _, rfl, rfl, x, nd, at_ + ((Es.cons r as).take i).sz, .e e, pl, N, args3 (by omega), hpl.same (t6.trans s8), re.keep (Same.tups s8), g1 ew, fun y hy => hu' y (g2 y hy), (by show e.dep < d; omega), (by show e.sz ≤ 100000; omega), fun H9 u9 s9 l9 => ?_⟩
      replace l9 : Lr K H9 u9 (e.code pl (at_ + ((Es.cons r as).take i).sz)) := l9
      refine cat_lr (lu.same s9) l9 (by rw [Es.code_len, Pt.E.code_len]; omega) fun u11 H11 s11 l11 => ?_
      exact ⟨u11, _, rfl, (s8.trans s9).trans s11, by rw [nc]; exact l11⟩
    · subst e
      rw [hlen, Es.take_all] at lu
      refine ⟨_, rfl, Cm.small (by show 2 ≤ 100000; decide), fun p12 np12 => ⟨p12, _, rfl, .inr Cm.sqt_new, rfl, rfl, _, rfl, Cm.itV (fun _ => ?_) (fun e => absurd c1 (by rw [e]; decide))⟩⟩
      have s12 := t6.trans (s8.trans (Cm.same_new (o := .tup [.str "call", .str "fork"]) np12))
      have lu12 := lu.same (Cm.same_new (o := .tup [.str "call", .str "fork"]) np12)
      generalize upd H8 p12 (.tup [.str "call", .str "fork"]) = H12 at s12 lu12 ⊢
      obtain ⟨c3, cs3, rfl, hc3, hcl3⟩ := len_rp (r3.keep (Same.tups s12))
      rw [Es.ds_len] at hcl3
      refine ⟨_, rfl, _, rfl, _, rfl, b, _, _, _, rfl, rfl, Cm.sameT s12 hb, at2, _, rfl, b, _, _, _, rfl, rfl, Cm.sameT s12 hb, at3, c3, cs3, rfl, .inr hc3, Cm.small (by show 3 ≤ 100000; decide), fun p13 np13 => ⟨Cm.small (by show 1 ≤ 100000; decide), fun p14 np14 => ?_⟩⟩
      have r13 := made (K := K) np13 (.cons (.str wd) (.cons (.str f) (.cons (intE (congrArg Int.ofNat hcl3)) .nil)))
      have l14 : Lr K _ _ _ := Lr.made (K := K) np14 (.cons r13 .nil)
      have s14 := (Cm.same_new (o := .tup [.str wd, .str f, .int (cs3.length : Int)]) np13).trans (Cm.same_new (o := .lst [.ref p13]) np14)
      exact cat_lr (lu12.same s14) l14 (by rw [Es.code_len]; show _ + 1 ≤ 10000000; omega) fun u15 H15 s15 l15 => q _ _ ((s12.trans s14).trans s15) (by rw [ec]; exact l15)
  · -- new
    have hv' : Rp K H v (.tuple [.str "new", .str m, .tuple as.ds]) := hv
    obtain ⟨b, vs, rfl, hb, hvs⟩ := id hv'.tup_inv
    obtain ⟨v0, vs, rfl, r0, hvs⟩ := hvs.cons_inv
    obtain ⟨v1, vs, rfl, r1, hvs⟩ := hvs.cons_inv
    obtain ⟨v2, vs, rfl, r2, hvs⟩ := hvs.cons_inv
    cases hvs.nil_inv
    cases r0.str_inv
    cases r1.str_inv
    have n1 : ¬ Str.ofString "new" = Str.ofString "int" := by decide
    have n2 : ¬ Str.ofString "new" = Str.ofString "name" := by decide
    have n3 : ¬ inV (.str "new") [.str "nil", .str "self"] = true := by decide
    have n4 : ¬ inV (.str "new") [.str "and", .str "or"] = true := by decide
    have c1 : ¬ inV (.str "new") [.str "call", .str "fork"] = true := by decide
    refine ⟨_, rfl, b, _, _, _, rfl, rfl, hb, at0, ?_⟩
    refine ⟨_, rfl, rfl, _, rfl, Cm.itES (fun e => absurd e n1) (fun _ => ?_)⟩
    refine ⟨_, rfl, Cm.small (by show 2 ≤ 100000; decide), fun p1 np1 => ⟨p1, _, rfl, .inr Cm.sqt_new, rfl, rfl, _, rfl, Cm.itV (fun e => absurd e n3) (fun _ => ?_)⟩⟩
    have t1 := Cm.same_new (o := .tup [.str "nil", .str "self"]) np1
    generalize upd H p1 (.tup [.str "nil", .str "self"]) = H1 at t1 ⊢
    refine ⟨_, rfl, rfl, _, rfl, Cm.itES (fun e => absurd e n2) (fun _ => ?_)⟩
    refine ⟨_, rfl, Cm.small (by show 2 ≤ 100000; decide), fun p2 np2 => ⟨p2, _, rfl, .inr Cm.sqt_new, rfl, rfl, _, rfl, Cm.itV (fun e => absurd e n4) (fun _ => ?_)⟩⟩
    have t2 := Cm.same_new (o := .tup [.str "and", .str "or"]) np2
    generalize upd H1 p2 (.tup [.str "and", .str "or"]) = H2 at t2 ⊢
    have t12 := t1.trans t2
    refine fun D nD => ⟨_, rfl, b, _, _, _, rfl, rfl, Cm.sameT (t12.trans (Cm.same_new nD)) hb, at1, Cm.small (by show 1 ≤ 100000; decide), fun pa npa => ⟨_, rfl, b, _, _, _, rfl, rfl, Cm.sameT ((t12.trans (Cm.same_new nD)).trans (Cm.same_new npa)) hb, at1, Cm.small (by show 1 ≤ 100000; decide), fun pb npb => ⟨Nat.zero_le _, fun pc npc => ?_⟩⟩⟩
    have sab := ((Cm.same_new (o := .tup [.str m]) npa).trans (Cm.same_new (o := .tup [.str m]) npb)).trans (Cm.same_new (o := .tup []) npc)
    have h4D : upd (upd (upd (upd H2 D (.dK [])) pa (.tup [.str m])) pb (.tup [.str m])) pc (.tup []) D = some (.dK []) := sab _ _ upd_same
    have h4a : upd (upd (upd (upd H2 D (.dK [])) pa (.tup [.str m])) pb (.tup [.str m])) pc (.tup []) pa = some (.tup [.str m]) := ((Cm.same_new (o := .tup [.str m]) npb).trans (Cm.same_new (o := .tup []) npc)) _ _ upd_same
    have h4b : upd (upd (upd (upd H2 D (.dK [])) pa (.tup [.str m])) pb (.tup [.str m])) pc (.tup []) pb = some (.tup [.str m]) := (Cm.same_new (o := .tup []) npc) _ _ upd_same
    have h4c : upd (upd (upd (upd H2 D (.dK [])) pa (.tup [.str m])) pb (.tup [.str m])) pc (.tup []) pc = some (.tup []) := upd_same
    have nDa : D ≠ pa := ne_of_none upd_same npa
    have nDb : D ≠ pb := ne_of_none ((Cm.same_new (o := .tup [.str m]) npa) _ _ upd_same) npb
    have nDc : D ≠ pc := ne_of_none (((Cm.same_new (o := .tup [.str m]) npa).trans (Cm.same_new (o := .tup [.str m]) npb)) _ _ upd_same) npc
    have s24 := (Cm.same_new (o := .dK []) nD).trans sab
    generalize upd (upd (upd (upd H2 D (.dK [])) pa (.tup [.str m])) pb (.tup [.str m])) pc (.tup []) = H4 at h4D h4a h4b h4c s24 ⊢
    refine ⟨h4D, [(.inr "call", .ref pa), (.inr "fork", .ref pb), (.inr "new", .ref pc)], rfl, (by show 3 ≤ 15; decide), D, rfl, .inl ⟨_, .inl upd_same⟩, _, rfl, _, rfl, ?_⟩
    have tE : Same H (upd H4 D (.dK (mergeK [] [(.inr "call", .ref pa), (.inr "fork", .ref pb), (.inr "new", .ref pc)]))) := t12.trans (Cm.same_mut s24 nD)
    have hE : upd H4 D (.dK (mergeK [] [(.inr "call", .ref pa), (.inr "fork", .ref pb), (.inr "new", .ref pc)])) D = some (.dK [(.inr "call", .ref pa), (.inr "fork", .ref pb), (.inr "new", .ref pc)]) := upd_same
    have ga := (upd_ne (Ne.symm nDa) : upd H4 D (.dK (mergeK [] [(.inr "call", .ref pa), (.inr "fork", .ref pb), (.inr "new", .ref pc)])) pa = _).trans h4a
    have gb := (upd_ne (Ne.symm nDb) : upd H4 D (.dK (mergeK [] [(.inr "call", .ref pa), (.inr "fork", .ref pb), (.inr "new", .ref pc)])) pb = _).trans h4b
    have gc' := (upd_ne (Ne.symm nDc) : upd H4 D (.dK (mergeK [] [(.inr "call", .ref pa), (.inr "fork", .ref pb), (.inr "new", .ref pc)])) pc = _).trans h4c
    generalize upd H4 D (.dK (mergeK [] [(.inr "call", .ref pa), (.inr "fork", .ref pb), (.inr "new", .ref pc)])) = HE at tE hE ga gb gc' ⊢
    unfold tPart tNoPart tC
    dsimp only
    refine ⟨1, rfl, ?_⟩
    refine from_rp (k := 1) (hv'.keep (Same.tups tE)) (Nat.le_add_left 1 _) fun uS HS sS rS => ?_
    have tS := tE.trans sS
    have hu' : ∀ x ∈ as.uses, x ∈ N := hu
    replace hd : as.dep + 1 < d + 1 := hd
    replace hsz : as.sz + 1 ≤ 100000 := hsz
    have hal := as_len as
    have gx : DGet HS D (.str "new") (some (.ref pc)) := DGet.k (k := .inr "new") (sS _ _ hE)
    refine ⟨_, gx, ?_⟩
    refine ⟨_, rfl, Cm.small (by show 2 ≤ 100000; decide), fun p5 np5 => ⟨p5, _, rfl, .inr Cm.sqt_new, rfl, rfl, _, rfl, Cm.itV (fun e => absurd e c1) (fun _ => ?_)⟩⟩
    have t6 := tS.trans (Cm.same_new (o := .tup [.str "call", .str "fork"]) np5)
    generalize upd HS p5 (.tup [.str "call", .str "fork"]) = H6 at t6 ⊢
    refine ⟨_, rfl, rfl, _, rfl, Cm.itES (fun _ => ?_) (fun e => absurd rfl e)⟩
    refine ⟨_, rfl, b, _, _, _, rfl, rfl, Cm.sameT t6 hb, at2, ?_⟩
    have r6 : Rp K H6 v2 (.tuple as.ds) := r2.keep (Same.tups t6)
    refine ⟨Nat.zero_le _, fun pz npz => ?_⟩
    obtain ⟨bp, xs, rfl, hbp, hxs⟩ := r6.tup_inv
    have hlen : xs.length = (as).list.length := by rw [hxs.len, Es.list_ds, List.length_map]
    refine ⟨_, rfl, bp, rfl, ⟨xs, Cm.sameT (Cm.same_new npz) hbp⟩, for_tup (K := K) (a := bp) (xs := xs) (fun i σ H8 => ∃ (u : V) (x10 : Option V), σ = [some (.ref b), some (.ref nd), some (.int at_), some (.str "new"), none, none, none, none, some (.ref bp), some u, x10] ∧ Same H6 H8 ∧ Lr K H8 u (((as).take i).code pl at_))
      ⟨_, none, rfl, Cm.same_new npz, Lr.made npz (by cases as <;> exact .nil)⟩ (fun i σ H8 _ ⟨_, _, _, s2, _⟩ => Cm.sameT s2 hbp) (fun i x σ H8 hx ⟨u, x10, e, s8, lu⟩ => ?_) fun σ H8 ⟨u, x10, e, s8, lu⟩ => ?_⟩
    · subst e
      obtain ⟨e, he, re⟩ := hxs.at_E hx
      obtain ⟨g1, g2, g3, g4⟩ := Es.part (List.mem_of_getElem? he)
      obtain ⟨nc, nz⟩ := Es.take_next (pl := pl) at_ he
      obtain ⟨c, cs, rfl, hc, hcl⟩ := lu.len
      rw [Es.code_len] at hcl
      have hz8 := Es.take_sz (as) i
      refine ⟨_, rfl, _, rfl, _, rfl, _, rfl, _, rfl, c, cs, rfl, .inl hc, _, _, rfl, rfl, x, nd, at_ + ((as).take i).sz, .e e, pl, N, args3 (by omega), hpl.same (t6.trans s8), re.keep (Same.tups s8), g1 hw, fun y hy => hu' y (g2 y hy), (by show e.dep < d; omega), (by show e.sz ≤ 100000; omega), fun H9 u9 s9 l9 => ?_⟩
      replace l9 : Lr K H9 u9 (e.code pl (at_ + ((as).take i).sz)) := l9
      refine cat_lr (lu.same s9) l9 (by rw [Es.code_len, Pt.E.code_len]; omega) fun u11 H11 s11 l11 => ?_
      exact ⟨u11, _, rfl, (s8.trans s9).trans s11, by rw [nc]; exact l11⟩
    · subst e
      rw [hlen, Es.take_all] at lu
      refine ⟨_, rfl, Cm.small (by show 2 ≤ 100000; decide), fun p12 np12 => ⟨p12, _, rfl, .inr Cm.sqt_new, rfl, rfl, _, rfl, Cm.itV (fun e => absurd e c1) (fun _ => ?_)⟩⟩
      have s12 := t6.trans (s8.trans (Cm.same_new (o := .tup [.str "call", .str "fork"]) np12))
      have lu12 := lu.same (Cm.same_new (o := .tup [.str "call", .str "fork"]) np12)
      have h12 := Cm.sameT (s8.trans (Cm.same_new (o := .tup [.str "call", .str "fork"]) np12)) hbp
      generalize upd H8 p12 (.tup [.str "call", .str "fork"]) = H12 at s12 lu12 h12 ⊢
      refine ⟨_, rfl, rfl, _, rfl, Cm.itES (fun _ => ?_) (fun e => absurd rfl e)⟩
      have hcl3 : xs.length = as.len := by rw [hxs.len, Es.ds_len]
      refine ⟨_, rfl, _, rfl, b, _, _, _, rfl, rfl, Cm.sameT s12 hb, at1, _, rfl, b, _, _, _, rfl, rfl, Cm.sameT s12 hb, at2, bp, xs, rfl, .inr h12, Cm.small (by show 3 ≤ 100000; decide), fun p13 np13 => ⟨Cm.small (by show 1 ≤ 100000; decide), fun p14 np14 => ?_⟩⟩
      have r13 := made (K := K) np13 (.cons (.str "new") (.cons (.str m) (.cons (intE (congrArg Int.ofNat hcl3)) .nil)))
      have l14 : Lr K _ _ _ := Lr.made (K := K) np14 (.cons r13 .nil)
      have s14 := (Cm.same_new (o := .tup [.str "new", .str m, .int (xs.length : Int)]) np13).trans (Cm.same_new (o := .lst [.ref p13]) np14)
      exact cat_lr (lu12.same s14) l14 (by rw [Es.code_len]; show _ + 1 ≤ 10000000; omega) fun u15 H15 s15 l15 => q _ _ ((s12.trans s14).trans s15) l15
  · -- op
    have hv' : Rp K H v (.tuple (.str wd :: x.d :: as.ds)) := ed ▸ hv
    obtain ⟨b, vs, rfl, hb, hvs⟩ := id hv'.tup_inv
    obtain ⟨v0, vs, rfl, r0, hvs⟩ := hvs.cons_inv
    obtain ⟨v1, vs, rfl, r1, hvs⟩ := hvs.cons_inv
    cases r0.str_inv
    have n1 : ¬ wd = Str.ofString "int" := (by decide +kernel : ∀ w ∈ opsW, ¬ w = Str.ofString "int") wd hwd
    have n2 : ¬ wd = Str.ofString "name" := (by decide +kernel : ∀ w ∈ opsW, ¬ w = Str.ofString "name") wd hwd
    have n3 : ¬ inV (.str wd) [.str "nil", .str "self"] = true := (by decide +kernel : ∀ w ∈ opsW, ¬ inV (.str w) [.str "nil", .str "self"] = true) wd hwd
    have n4 : ¬ inV (.str wd) [.str "and", .str "or"] = true := (by decide +kernel : ∀ w ∈ opsW, ¬ inV (.str w) [.str "and", .str "or"] = true) wd hwd
    have c1 : ¬ inV (.str wd) [.str "call", .str "fork"] = true := (by decide +kernel : ∀ w ∈ opsW, ¬ inV (.str w) [.str "call", .str "fork"] = true) wd hwd
    have c2 : ¬ wd = Str.ofString "new" := (by decide +kernel : ∀ w ∈ opsW, ¬ w = Str.ofString "new") wd hwd
    refine ⟨_, rfl, b, _, _, _, rfl, rfl, hb, at0, ?_⟩
    refine ⟨_, rfl, rfl, _, rfl, Cm.itES (fun e => absurd e n1) (fun _ => ?_)⟩
    refine ⟨_, rfl, Cm.small (by show 2 ≤ 100000; decide), fun p1 np1 => ⟨p1, _, rfl, .inr Cm.sqt_new, rfl, rfl, _, rfl, Cm.itV (fun e => absurd e n3) (fun _ => ?_)⟩⟩
    have t1 := Cm.same_new (o := .tup [.str "nil", .str "self"]) np1
    generalize upd H p1 (.tup [.str "nil", .str "self"]) = H1 at t1 ⊢
    refine ⟨_, rfl, rfl, _, rfl, Cm.itES (fun e => absurd e n2) (fun _ => ?_)⟩
    refine ⟨_, rfl, Cm.small (by show 2 ≤ 100000; decide), fun p2 np2 => ⟨p2, _, rfl, .inr Cm.sqt_new, rfl, rfl, _, rfl, Cm.itV (fun e => absurd e n4) (fun _ => ?_)⟩⟩
    have t2 := Cm.same_new (o := .tup [.str "and", .str "or"]) np2
    generalize upd H1 p2 (.tup [.str "and", .str "or"]) = H2 at t2 ⊢
    have t12 := t1.trans t2
    refine fun D nD => ⟨_, rfl, b, _, _, _, rfl, rfl, Cm.sameT (t12.trans (Cm.same_new nD)) hb, at1, Cm.small (by show 1 ≤ 100000; decide), fun pa npa => ⟨_, rfl, b, _, _, _, rfl, rfl, Cm.sameT ((t12.trans (Cm.same_new nD)).trans (Cm.same_new npa)) hb, at1, Cm.small (by show 1 ≤ 100000; decide), fun pb npb => ⟨Nat.zero_le _, fun pc npc => ?_⟩⟩⟩
    have sab := ((Cm.same_new (o := .tup [v1]) npa).trans (Cm.same_new (o := .tup [v1]) npb)).trans (Cm.same_new (o := .tup []) npc)
    have h4D : upd (upd (upd (upd H2 D (.dK [])) pa (.tup [v1])) pb (.tup [v1])) pc (.tup []) D = some (.dK []) := sab _ _ upd_same
    have h4a : upd (upd (upd (upd H2 D (.dK [])) pa (.tup [v1])) pb (.tup [v1])) pc (.tup []) pa = some (.tup [v1]) := ((Cm.same_new (o := .tup [v1]) npb).trans (Cm.same_new (o := .tup []) npc)) _ _ upd_same
    have h4b : upd (upd (upd (upd H2 D (.dK [])) pa (.tup [v1])) pb (.tup [v1])) pc (.tup []) pb = some (.tup [v1]) := (Cm.same_new (o := .tup []) npc) _ _ upd_same
    have h4c : upd (upd (upd (upd H2 D (.dK [])) pa (.tup [v1])) pb (.tup [v1])) pc (.tup []) pc = some (.tup []) := upd_same
    have nDa : D ≠ pa := ne_of_none upd_same npa
    have nDb : D ≠ pb := ne_of_none ((Cm.same_new (o := .tup [v1]) npa) _ _ upd_same) npb
    have nDc : D ≠ pc := ne_of_none (((Cm.same_new (o := .tup [v1]) npa).trans (Cm.same_new (o := .tup [v1]) npb)) _ _ upd_same) npc
    have s24 := (Cm.same_new (o := .dK []) nD).trans sab
    generalize upd (upd (upd (upd H2 D (.dK [])) pa (.tup [v1])) pb (.tup [v1])) pc (.tup []) = H4 at h4D h4a h4b h4c s24 ⊢
    refine ⟨h4D, [(.inr "call", .ref pa), (.inr "fork", .ref pb), (.inr "new", .ref pc)], rfl, (by show 3 ≤ 15; decide), D, rfl, .inl ⟨_, .inl upd_same⟩, _, rfl, _, rfl, ?_⟩
    have tE : Same H (upd H4 D (.dK (mergeK [] [(.inr "call", .ref pa), (.inr "fork", .ref pb), (.inr "new", .ref pc)]))) := t12.trans (Cm.same_mut s24 nD)
    have hE : upd H4 D (.dK (mergeK [] [(.inr "call", .ref pa), (.inr "fork", .ref pb), (.inr "new", .ref pc)])) D = some (.dK [(.inr "call", .ref pa), (.inr "fork", .ref pb), (.inr "new", .ref pc)]) := upd_same
    have ga := (upd_ne (Ne.symm nDa) : upd H4 D (.dK (mergeK [] [(.inr "call", .ref pa), (.inr "fork", .ref pb), (.inr "new", .ref pc)])) pa = _).trans h4a
    have gb := (upd_ne (Ne.symm nDb) : upd H4 D (.dK (mergeK [] [(.inr "call", .ref pa), (.inr "fork", .ref pb), (.inr "new", .ref pc)])) pb = _).trans h4b
    have gc' := (upd_ne (Ne.symm nDc) : upd H4 D (.dK (mergeK [] [(.inr "call", .ref pa), (.inr "fork", .ref pb), (.inr "new", .ref pc)])) pc = _).trans h4c
    generalize upd H4 D (.dK (mergeK [] [(.inr "call", .ref pa), (.inr "fork", .ref pb), (.inr "new", .ref pc)])) = HE at tE hE ga gb gc' ⊢
    unfold tPart tNoPart tC
    dsimp only
    refine ⟨1, rfl, ?_⟩
    refine from_rp (k := 1) (hv'.keep (Same.tups tE)) (Nat.le_add_left 1 _) fun uS HS sS rS => ?_
    have tS := tE.trans sS
    have hu' : ∀ y ∈ (Es.cons x as).uses, y ∈ N := fun y hy => hu y (eu ▸ hy)
    rw [edp] at hd
    rw [esz] at hsz
    have hnone : valV ([(.inr "call", .ref pa), (.inr "fork", .ref pb), (.inr "new", .ref pc)] : List (Key × V)) (.inr wd) = none := by
      have m1 : ¬ (.inr "call" : Key) = .inr wd := fun e => c1 (by rw [← Sum.inr.inj e]; decide)
      have m2 : ¬ (.inr "fork" : Key) = .inr wd := fun e => c1 (by rw [← Sum.inr.inj e]; decide)
      have m3 : ¬ (.inr "new" : Key) = .inr wd := fun e => c2 (Sum.inr.inj e).symm
      rw [valV_neg m1, valV_neg m2, valV_neg m3]
      rfl
    have gx : DGet HS D (.str wd) none := by
      rw [← hnone]
      exact DGet.k (k := .inr wd) (sS _ _ hE)
    refine ⟨_, gx, ?_⟩
    refine ⟨_, rfl, Cm.small (by show 2 ≤ 100000; decide), fun p5 np5 => ⟨p5, _, rfl, .inr Cm.sqt_new, rfl, rfl, _, rfl, Cm.itV (fun e => absurd e c1) (fun _ => ?_)⟩⟩
    have t6 := tS.trans (Cm.same_new (o := .tup [.str "call", .str "fork"]) np5)
    have r6 : Rp K (upd HS p5 (.tup [.str "call", .str "fork"])) uS (.tuple (Es.cons x as).ds) := rS.keep (Same.tups (Cm.same_new np5))
    generalize upd HS p5 (.tup [.str "call", .str "fork"]) = H6 at t6 r6 ⊢
    refine ⟨_, rfl, rfl, _, rfl, Cm.itES (fun e => absurd e c2) (fun _ => ?_)⟩
    refine ⟨Nat.zero_le _, fun pz npz => ?_⟩
    obtain ⟨bp, xs, rfl, hbp, hxs⟩ := r6.tup_inv
    have hlen : xs.length = (Es.cons x as).list.length := by rw [hxs.len, Es.list_ds, List.length_map]
    refine ⟨_, rfl, bp, rfl, ⟨xs, Cm.sameT (Cm.same_new npz) hbp⟩, for_tup (K := K) (a := bp) (xs := xs) (fun i σ H8 => ∃ (u : V) (x10 : Option V), σ = [some (.ref b), some (.ref nd), some (.int at_), some (.str wd), none, none, none, none, some (.ref bp), some u, x10] ∧ Same H6 H8 ∧ Lr K H8 u (((Es.cons x as).take i).code pl at_))
      ⟨_, none, rfl, Cm.same_new npz, Lr.made npz (by exact .nil)⟩ (fun i σ H8 _ ⟨_, _, _, s2, _⟩ => Cm.sameT s2 hbp) (fun i y σ H8 hx ⟨u, x10, e, s8, lu⟩ => ?_) fun σ H8 ⟨u, x10, e, s8, lu⟩ => ?_⟩
    · subst e
      obtain ⟨e, he, re⟩ := hxs.at_E hx
      obtain ⟨g1, g2, g3, g4⟩ := Es.part (List.mem_of_getElem? he)
      obtain ⟨nc, nz⟩ := Es.take_next (pl := pl) at_ he
      obtain ⟨c, cs, rfl, hc, hcl⟩ := lu.len
      rw [Es.code_len] at hcl
      have hz8 := Es.take_sz (Es.cons x as) i
      refine ⟨_, rfl, _, rfl, _, rfl, _, rfl, _, rfl, c, cs, rfl, .inl hc, _, _, rfl, rfl, y, nd, at_ + ((Es.cons x as).take i).sz, .e e, pl, N, args3 (by omega), hpl.same (t6.trans s8), re.keep (Same.tups s8), g1 ew, fun z hz => hu' z (g2 z hz), (by show e.dep < d; omega), (by show e.sz ≤ 100000; omega), fun H9 u9 s9 l9 => ?_⟩
      replace l9 : Lr K H9 u9 (e.code pl (at_ + ((Es.cons x as).take i).sz)) := l9
      refine cat_lr (lu.same s9) l9 (by rw [Es.code_len, Pt.E.code_len]; omega) fun u11 H11 s11 l11 => ?_
      exact ⟨u11, _, rfl, (s8.trans s9).trans s11, by rw [nc]; exact l11⟩
    · subst e
      rw [hlen, Es.take_all] at lu
      refine ⟨_, rfl, Cm.small (by show 2 ≤ 100000; decide), fun p12 np12 => ⟨p12, _, rfl, .inr Cm.sqt_new, rfl, rfl, _, rfl, Cm.itV (fun e => absurd e c1) (fun _ => ?_)⟩⟩
      have s12 := t6.trans (s8.trans (Cm.same_new (o := .tup [.str "call", .str "fork"]) np12))
      have lu12 := lu.same (Cm.same_new (o := .tup [.str "call", .str "fork"]) np12)
      generalize upd H8 p12 (.tup [.str "call", .str "fork"]) = H12 at s12 lu12 ⊢
      refine ⟨_, rfl, rfl, _, rfl, Cm.itES (fun e => absurd e c2) (fun _ => ?_)⟩
      refine ⟨_, rfl, _, rfl, Cm.small (by show 1 ≤ 100000; decide), fun p13 np13 => ⟨Cm.small (by show 1 ≤ 100000; decide), fun p14 np14 => ?_⟩⟩
      have r13 := made (K := K) np13 (.cons (.str wd) .nil)
      have l14 : Lr K _ _ _ := Lr.made (K := K) np14 (.cons r13 .nil)
      have s14 := (Cm.same_new (o := .tup [.str wd]) np13).trans (Cm.same_new (o := .lst [.ref p13]) np14)
      exact cat_lr (lu12.same s14) l14 (by rw [Es.code_len]; show _ + 1 ≤ 10000000; omega) fun u15 H15 s15 l15 => q _ _ ((s12.trans s14).trans s15) (by rw [ec]; exact l15)
theorem ok_lcode (T : Txt K mg w a) : ∀ d : Nat, FnOk P w K mg base CX0 (d + 1) (He.ga K "_law_code") a.d_lw_code ["node", "places", "base"] (spLc K d)
  | 0 => vac fun vs H Q E h => by
    obtain ⟨_, _, _, e, _, _, _, _, _, _, _, hd, _⟩ := h
    exact absurd hd (Nat.not_lt_zero e.dep)
  | d + 1 => step_lcode T d (ok_lcode T d)
def spLb (K : PySem.W.Frag) (d : Nat) : Sp := fun vs H Q _ => ∃ (v : V) (nd : Addr) (at_ : Nat) (b : Ss) (pl : Plc) (N : List Str), vs = [v, .ref nd, .int at_] ∧ PlAt K H nd pl N ∧ Rp K H v (.tuple b.ds) ∧ b.wf = true ∧ (∀ x ∈ b.uses, x ∈ N) ∧ b.dep < d ∧ b.sz ≤ 100000 ∧
  ∀ (H' : Hp) (u : V), Same H H' → Lr K H' u (b.code pl at_) → Q u H'
theorem S.word (st : S) (hw : st.wf = true) : (∃ x k e, st = .letS x k e) ∨ (∃ x e, st = .setS x e) ∨ (∃ e, st = .doS e) ∨ (∃ e b c, st = .ifS e b c) ∨ (∃ e b, st = .whileS e b) ∨
    (∃ (e : Nd) (wd : Str) (ds : List PyData), (wd = "fork" ∨ wd ∈ plainB) ∧ st.d = e.d ∧ e.d = .tuple (.str wd :: ds) ∧ (∀ pl i, st.code pl i = e.code pl i) ∧ e.wf = true ∧ st.uses = e.uses ∧ st.dep = e.dep ∧ st.sz = e.sz) := by
  cases st with
  | letS x k e => exact .inl ⟨x, k, e, rfl⟩
  | setS x e => exact .inr (.inl ⟨x, e, rfl⟩)
  | doS e => exact .inr (.inr (.inl ⟨e, rfl⟩))
  | ifS e b c => exact .inr (.inr (.inr (.inl ⟨e, b, c, rfl⟩)))
  | whileS e b => exact .inr (.inr (.inr (.inr (.inl ⟨e, b, rfl⟩))))
  | fork r f as => exact .inr (.inr (.inr (.inr (.inr ⟨.f r f as, "fork", _, .inl rfl, rfl, rfl, fun _ _ => rfl, hw, rfl, rfl, rfl⟩))))
  | plain w as => exact .inr (.inr (.inr (.inr (.inr ⟨.p w as, w, _, .inr (of_decide_eq_true (Bool.and_eq_true_iff.mp (Bool.and_eq_true_iff.mp hw).1).1), rfl, rfl, fun _ _ => rfl, hw, rfl, rfl, rfl⟩))))
theorem step_lblock (T : Txt K mg w a) (d : Nat) (hd13 : d ≤ 12) (gc : FnOk P w K mg base CX0 14 (He.ga K "_law_code") a.d_lw_code ["node", "places", "base"] (spLc K 13))
    (gb : FnOk P w K mg base CX0 (d + 15) (He.ga K "_law_block_code") a.d_lw_block_code ["block", "places", "base"] (spLb K d)) :
    FnOk P w K mg base CX0 (d + 16) (He.ga K "_law_block_code") a.d_lw_block_code ["block", "places", "base"] (spLb K (d + 1)) := by
  refine T.F_lw_block_code.ok sc_lw_block_code (fun vs H Q E h => ?_) (fun cdv A outer s H vs Q E hr h => ?_)
  · obtain ⟨_, _, _, _, _, _, rfl, _⟩ := h
    rfl
  obtain ⟨v, nd, at_, es, pl, N, rfl, hpl, hv, hw, hu, hd, hsz, q⟩ := h
  refine ⟨_, PSs.nox (pss_cons (ps_set (i := 3) sc_lw_block_code.nd rfl (Or.inl rfl) (pe_lst pa_nil))
      (pss_cons (ps_for PassesOwn.never rfl (pi_tup (pv 0)) (pg_name (i := 4) sc_lw_block_code.nd rfl (Or.inl rfl))
      (pss_cons (ps_set (i := 5) sc_lw_block_code.nd rfl (Or.inl rfl) (pe_op op_add (pv 2) (pe_callB call_len_seq (by rfl) T.g_len boot_len (pa_cons (pv 3) pa_nil))))
      (pss_cons (ps_set (i := 6) sc_lw_block_code.nd rfl (Or.inl rfl) (pe_ix ix_tup (pv 4) pe_int (fun _ _ => rfl)))
      (pss_one (ps_if (pt_cmpR op_in_seq (pv 6) (pe_tup (pa_cons pe_str (pa_cons pe_str pa_nil))) (by rfl)) (pss_cons (ps_set (i := 7) sc_lw_block_code.nd rfl (Or.inl rfl) (pe_dget (hu_of hr) (pv 1) (pe_ix ix_tup (pv 4) pe_int (fun _ _ => rfl)) (fun _ _ => rfl)))
      (pss_one (ps_set (i := 3) sc_lw_block_code.nd rfl (Or.inl rfl) (pe_op op_cat (pe_op op_cat (pv 3) (pe_call gc (hr.mono (by omega)) (by rfl) T.g_lw_code T.F_lw_code.kp T.b_lw_code .nil pass0 (pa_cons (pe_ix ix_tup (pv 4) (pe_un un_neg pe_int) (fun _ _ => rfl)) (pa_cons (pv 1) (pa_cons (pv 5) pa_nil))))) (pe_lst (pa_cons (pe_tup (pa_cons (pe_op op_add_str pe_str (pe_ix ix_tup (pv 7) pe_int (fun _ _ => rfl))) (pa_cons (pe_ix ix_tup (pv 7) pe_int (fun _ _ => rfl)) pa_nil))) pa_nil)))))) (pss_one (ps_if (pt_cmpR op_eq (pv 6) pe_str (nomark _)) (pss_one (ps_set (i := 3) sc_lw_block_code.nd rfl (Or.inl rfl) (pe_op op_cat (pe_op op_cat (pv 3) (pe_call gc (hr.mono (by omega)) (by rfl) T.g_lw_code T.F_lw_code.kp T.b_lw_code .nil pass0 (pa_cons (pe_ix ix_tup (pv 4) pe_int (fun _ _ => rfl)) (pa_cons (pv 1) (pa_cons (pv 5) pa_nil))))) (pe_lst (pa_cons (pe_tup (pa_cons pe_str pa_nil)) pa_nil))))) (pss_one (ps_if (pt_cmpR op_eq (pv 6) pe_str (nomark _)) (pss_cons (ps_set (i := 8) sc_lw_block_code.nd rfl (Or.inl rfl) (pe_call gc (hr.mono (by omega)) (by rfl) T.g_lw_code T.F_lw_code.kp T.b_lw_code .nil pass0 (pa_cons (pe_ix ix_tup (pv 4) pe_int (fun _ _ => rfl)) (pa_cons (pv 1) (pa_cons (pv 5) pa_nil)))))
      (pss_cons (ps_set (i := 9) sc_lw_block_code.nd rfl (Or.inl rfl) (pe_call gb (hr.mono (by omega)) (by rfl) T.g_lw_block_code T.F_lw_block_code.kp T.b_lw_block_code .nil pass0 (pa_cons (pe_ix ix_tup (pv 4) pe_int (fun _ _ => rfl)) (pa_cons (pv 1) (pa_cons (pe_op op_add (pe_op op_add (pv 5) (pe_callB call_len_seq (by rfl) T.g_len boot_len (pa_cons (pv 8) pa_nil))) pe_int) pa_nil)))))
      (pss_cons (ps_set (i := 10) sc_lw_block_code.nd rfl (Or.inl rfl) (pe_op op_add (pe_op op_add (pe_op op_add (pv 5) (pe_callB call_len_seq (by rfl) T.g_len boot_len (pa_cons (pv 8) pa_nil))) pe_int) (pe_callB call_len_seq (by rfl) T.g_len boot_len (pa_cons (pv 9) pa_nil))))
      (pss_one (ps_if (pt_cmpR op_eq (pe_callB call_len_seq (by rfl) T.g_len boot_len (pa_cons (pe_ix ix_tup (pv 4) pe_int (fun _ _ => rfl)) pa_nil)) pe_int (nomark _)) (pss_one (ps_set (i := 3) sc_lw_block_code.nd rfl (Or.inl rfl) (pe_op op_cat (pe_op op_cat (pe_op op_cat (pv 3) (pv 8)) (pe_lst (pa_cons (pe_tup (pa_cons pe_str (pa_cons (pv 10) pa_nil))) pa_nil))) (pv 9)))) (pss_cons (ps_set (i := 11) sc_lw_block_code.nd rfl (Or.inl rfl) (pe_call gb (hr.mono (by omega)) (by rfl) T.g_lw_block_code T.F_lw_block_code.kp T.b_lw_block_code .nil pass0 (pa_cons (pe_ix ix_tup (pv 4) pe_int (fun _ _ => rfl)) (pa_cons (pv 1) (pa_cons (pe_op op_add (pv 10) pe_int) pa_nil)))))
      (pss_one (ps_set (i := 3) sc_lw_block_code.nd rfl (Or.inl rfl) (pe_op op_cat (pe_op op_cat (pe_op op_cat (pe_op op_cat (pe_op op_cat (pv 3) (pv 8)) (pe_lst (pa_cons (pe_tup (pa_cons pe_str (pa_cons (pe_op op_add (pv 10) pe_int) pa_nil))) pa_nil))) (pv 9)) (pe_lst (pa_cons (pe_tup (pa_cons pe_str (pa_cons (pe_op op_add (pe_op op_add (pv 10) pe_int) (pe_callB call_len_seq (by rfl) T.g_len boot_len (pa_cons (pv 11) pa_nil))) pa_nil))) pa_nil))) (pv 11)))))))))) (pss_one (ps_if (pt_cmpR op_eq (pv 6) pe_str (nomark _)) (pss_cons (ps_set (i := 8) sc_lw_block_code.nd rfl (Or.inl rfl) (pe_call gc (hr.mono (by omega)) (by rfl) T.g_lw_code T.F_lw_code.kp T.b_lw_code .nil pass0 (pa_cons (pe_ix ix_tup (pv 4) pe_int (fun _ _ => rfl)) (pa_cons (pv 1) (pa_cons (pv 5) pa_nil)))))
      (pss_cons (ps_set (i := 12) sc_lw_block_code.nd rfl (Or.inl rfl) (pe_call gb (hr.mono (by omega)) (by rfl) T.g_lw_block_code T.F_lw_block_code.kp T.b_lw_block_code .nil pass0 (pa_cons (pe_ix ix_tup (pv 4) pe_int (fun _ _ => rfl)) (pa_cons (pv 1) (pa_cons (pe_op op_add (pe_op op_add (pv 5) (pe_callB call_len_seq (by rfl) T.g_len boot_len (pa_cons (pv 8) pa_nil))) pe_int) pa_nil)))))
      (pss_one (ps_set (i := 3) sc_lw_block_code.nd rfl (Or.inl rfl) (pe_op op_cat (pe_op op_cat (pe_op op_cat (pe_op op_cat (pv 3) (pv 8)) (pe_lst (pa_cons (pe_tup (pa_cons pe_str (pa_cons (pe_op op_add (pe_op op_add (pe_op op_add (pv 5) (pe_callB call_len_seq (by rfl) T.g_len boot_len (pa_cons (pv 8) pa_nil))) pe_int) (pe_callB call_len_seq (by rfl) T.g_len boot_len (pa_cons (pv 12) pa_nil))) pa_nil))) pa_nil))) (pv 12)) (pe_lst (pa_cons (pe_tup (pa_cons pe_str (pa_cons (pv 5) pa_nil))) pa_nil))))))) (pss_one (ps_set (i := 3) sc_lw_block_code.nd rfl (Or.inl rfl) (pe_op op_cat (pv 3) (pe_call gc (hr.mono (by omega)) (by rfl) T.g_lw_code T.F_lw_code.kp T.b_lw_code .nil pass0 (pa_cons (pv 4) (pa_cons (pv 1) (pa_cons (pv 5) pa_nil))))))))))))))))))
      (pss_one (ps_ret (pv 3))))), ?_⟩
  refine ⟨Nat.zero_le _, fun f nf => ?_⟩
  have s0 := Cm.same_new (o := .lst []) nf
  obtain ⟨b0, vs, rfl, hb0, hvs⟩ := hv.tup_inv
  have hlen : vs.length = es.list.length := by rw [hvs.len, Ss.list_ds, List.length_map]
  refine ⟨_, rfl, b0, rfl, ⟨vs, Cm.sameT s0 hb0⟩, for_tup (K := K) (a := b0) (xs := vs) (fun i σ H2 => ∃ (u : V) (x4 x5 x6 x7 x8 x9 x10 x11 x12 : Option V), σ = [some (.ref b0), some (.ref nd), some (.int at_), some u, x4, x5, x6, x7, x8, x9, x10, x11, x12] ∧ Same H H2 ∧ Lr K H2 u ((es.take i).code pl at_))
    ⟨_, none, none, none, none, none, none, none, none, none, rfl, s0, Lr.made nf (by cases es <;> exact .nil)⟩ (fun i σ H2 _ ⟨_, _, _, _, _, _, _, _, _, _, _, s2, _⟩ => Cm.sameT s2 hb0) (fun i x σ H2 hx ⟨u, x4, x5, x6, x7, x8, x9, x10, x11, x12, e, s2, lu⟩ => ?_) fun σ H2 ⟨u, x4, x5, x6, x7, x8, x9, x10, x11, x12, e, s2, lu⟩ => ?_⟩
  · subst e
    obtain ⟨st, he, re⟩ := hvs.at_S hx
    obtain ⟨g1, g2, g3, g4⟩ := Ss.part (List.mem_of_getElem? he)
    obtain ⟨nc, nz⟩ := Ss.take_next (pl := pl) at_ he
    have hz := Ss.take_sz es i
    have cl := Ss.code_len pl (es.take i) at_
    have fin : ∀ {H' : Hp} {u' : V} {y4 y5 y6 y7 y8 y9 y10 y11 y12 : Option V} {ds : List PyData}, Same H H' → Lr K H' u' ((es.take i).code pl at_ ++ ds) → ds = st.code pl (at_ + (es.take i).sz) →
        ∃ (u : V) (x4 x5 x6 x7 x8 x9 x10 x11 x12 : Option V), ([some (.ref b0), some (.ref nd), some (.int at_), some u', y4, y5, y6, y7, y8, y9, y10, y11, y12] : L2.St) = [some (.ref b0), some (.ref nd), some (.int at_), some u, x4, x5, x6, x7, x8, x9, x10, x11, x12] ∧ Same H H' ∧ Lr K H' u ((es.take (i + 1)).code pl at_) := fun {H' u' y4 y5 y6 y7 y8 y9 y10 y11 y12 ds} s l e => by
      refine ⟨_, _, _, _, _, _, _, _, _, _, rfl, s, ?_⟩
      rw [nc, ← e]
      exact l
    generalize hCC : (es.take i).code pl at_ = C at lu cl fin
    generalize (es.take i).sz = Z at fin hz cl nz
    obtain ⟨c, cs, rfl, hc, hcl⟩ := lu.len
    rw [cl] at hcl
    have hw' := g1 hw
    have hre := re.keep (Same.tups s2)
    have eA : ((at_ : Int) + (cs.length : Nat)) = ((at_ + Z : Nat) : Int) := by omega
    rcases S.word st hw' with ⟨nm, kd, e, rfl⟩ | ⟨nm, e, rfl⟩ | ⟨e, rfl⟩ | ⟨e, bl, cl2, rfl⟩ | ⟨e, bl, rfl⟩ | ⟨e, wd, ds, hwd, ed, ed2, ec, ew, eu, edp, esz⟩
    · replace hre : Rp K H2 x (.tuple [.str "let", .str nm, .str kd, e.d]) := hre
      obtain ⟨b, vs2, rfl, hb, hvs2⟩ := id hre.tup_inv
      obtain ⟨v0, vs2, rfl, r0, hvs2⟩ := hvs2.cons_inv
      obtain ⟨v1, vs2, rfl, r1, hvs2⟩ := hvs2.cons_inv
      obtain ⟨v2, vs2, rfl, r2, hvs2⟩ := hvs2.cons_inv
      obtain ⟨v3, vs2, rfl, r3, hvs2⟩ := hvs2.cons_inv
      cases hvs2.nil_inv
      cases r0.str_inv
      cases r1.str_inv
      refine ⟨_, rfl, _, rfl, c, cs, rfl, .inl hc, _, _, rfl, rfl, ?_⟩
      refine ⟨_, rfl, b, _, _, _, rfl, rfl, hb, at0, ?_⟩
      refine ⟨_, rfl, Cm.small (by show 2 ≤ 100000; decide), fun p1 np1 => ⟨p1, _, rfl, .inr Cm.sqt_new, rfl, rfl, _, rfl, Cm.itV (fun _ => ?_) (fun e => absurd (show inV (.str "let") [.str "let", .str "set"] = true by decide) (by rw [e]; decide))⟩⟩
      have t1 := s2.trans (Cm.same_new (o := .tup [.str "let", .str "set"]) np1)
      have lu1 := lu.same (Cm.same_new (o := .tup [.str "let", .str "set"]) np1)
      have hb1 := Cm.sameT (Cm.same_new (o := .tup [.str "let", .str "set"]) np1) hb
      have re1 := hre.keep (Same.tups (Cm.same_new (o := .tup [.str "let", .str "set"]) np1))
      have d1 := Cm.same_new (o := .tup [.str "let", .str "set"]) np1
      generalize upd H2 p1 (.tup [.str "let", .str "set"]) = H3 at t1 lu1 hb1 re1 d1 ⊢
      have hdd : e.dep + 1 ≤ es.dep := g3
      have hzz : e.sz + 1 ≤ es.sz := g4
      obtain ⟨kvs, hk, hx2⟩ := id (hpl.same t1)
      obtain ⟨hxl, pu, hu1, ru⟩ := hx2 nm (hu nm (g2 nm List.mem_cons_self))
      have gx : DGet H3 nd (.str nm) (some pu) := by
        rw [← hu1]
        exact DGet.k (k := .inr nm) hk
      obtain ⟨pc, us, rfl, hpc, hus⟩ := ru.tup_inv
      obtain ⟨w0, us, rfl, rw0, hus⟩ := hus.cons_inv
      obtain ⟨w1, us, rfl, rw1, hus⟩ := hus.cons_inv
      cases hus.nil_inv
      cases rw0.str_inv
      cases rw1.int_inv
      refine ⟨_, rfl, _, rfl, b, _, _, _, rfl, rfl, hb1, at1, nd, _, rfl, gx, ?_⟩
      refine ⟨_, rfl, _, rfl, _, rfl, b, _, _, _, rfl, rfl, hb1, rfl, _, rfl, _, rfl, ?_⟩
      refine ⟨v3, nd, at_ + Z, .e e, pl, N, args3 eA, hpl.same t1, r3.keep (Same.tups d1), hw', fun y hy => hu y (g2 y (List.mem_cons_of_mem _ hy)), (by show e.dep < 13; omega), (by show e.sz ≤ 100000; omega), fun H4 u4 s4 l4 => ?_⟩
      replace l4 : Lr K H4 u4 (e.code pl (at_ + Z)) := l4
      refine cat_lr (lu1.same s4) l4 (by rw [cl, Pt.E.code_len]; omega) fun u5 H5 s5 l5 => ?_
      have s45 := s4.trans s5
      refine ⟨_, rfl, pc, _, _, _, rfl, rfl, Cm.sameT s45 hpc, at0, _, _, rfl, rfl, Cm.small (by show 3 + (pl nm).1.length ≤ 100000; omega), _, rfl, pc, _, _, _, rfl, rfl, Cm.sameT s45 hpc, at1, Cm.small (by show 2 ≤ 100000; decide), fun p6 np6 => ⟨Cm.small (by show 1 ≤ 100000; decide), fun p7 np7 => ?_⟩⟩
      have r6 := made (K := K) np6 (.cons (.str ("set" ++ (pl nm).1)) (.cons (.int (pl nm).2) .nil))
      have l7 : Lr K _ _ _ := Lr.made (K := K) np7 (.cons r6 .nil)
      have s7 := (Cm.same_new (o := .tup [.str ("set" ++ (pl nm).1), .int (pl nm).2]) np6).trans (Cm.same_new (o := .lst [.ref p6]) np7)
      refine cat_lr (l5.same s7) l7 (by simp only [List.length_append, List.length_cons, List.length_nil, cl, Pt.E.code_len]; omega) fun u8 H8 s8 l8 => ?_
      rw [List.append_assoc] at l8
      exact fin (((t1.trans s45).trans s7).trans s8) l8 rfl
    · replace hre : Rp K H2 x (.tuple [.str "set", .str nm, e.d]) := hre
      obtain ⟨b, vs2, rfl, hb, hvs2⟩ := id hre.tup_inv
      obtain ⟨v0, vs2, rfl, r0, hvs2⟩ := hvs2.cons_inv
      obtain ⟨v1, vs2, rfl, r1, hvs2⟩ := hvs2.cons_inv
      obtain ⟨v2, vs2, rfl, r2, hvs2⟩ := hvs2.cons_inv
      cases hvs2.nil_inv
      cases r0.str_inv
      cases r1.str_inv
      refine ⟨_, rfl, _, rfl, c, cs, rfl, .inl hc, _, _, rfl, rfl, ?_⟩
      refine ⟨_, rfl, b, _, _, _, rfl, rfl, hb, at0, ?_⟩
      refine ⟨_, rfl, Cm.small (by show 2 ≤ 100000; decide), fun p1 np1 => ⟨p1, _, rfl, .inr Cm.sqt_new, rfl, rfl, _, rfl, Cm.itV (fun _ => ?_) (fun e => absurd (show inV (.str "set") [.str "let", .str "set"] = true by decide) (by rw [e]; decide))⟩⟩
      have t1 := s2.trans (Cm.same_new (o := .tup [.str "let", .str "set"]) np1)
      have lu1 := lu.same (Cm.same_new (o := .tup [.str "let", .str "set"]) np1)
      have hb1 := Cm.sameT (Cm.same_new (o := .tup [.str "let", .str "set"]) np1) hb
      have re1 := hre.keep (Same.tups (Cm.same_new (o := .tup [.str "let", .str "set"]) np1))
      have d1 := Cm.same_new (o := .tup [.str "let", .str "set"]) np1
      generalize upd H2 p1 (.tup [.str "let", .str "set"]) = H3 at t1 lu1 hb1 re1 d1 ⊢
      have hdd : e.dep + 1 ≤ es.dep := g3
      have hzz : e.sz + 1 ≤ es.sz := g4
      obtain ⟨kvs, hk, hx2⟩ := id (hpl.same t1)
      obtain ⟨hxl, pu, hu1, ru⟩ := hx2 nm (hu nm (g2 nm List.mem_cons_self))
      have gx : DGet H3 nd (.str nm) (some pu) := by
        rw [← hu1]
        exact DGet.k (k := .inr nm) hk
      obtain ⟨pc, us, rfl, hpc, hus⟩ := ru.tup_inv
      obtain ⟨w0, us, rfl, rw0, hus⟩ := hus.cons_inv
      obtain ⟨w1, us, rfl, rw1, hus⟩ := hus.cons_inv
      cases hus.nil_inv
      cases rw0.str_inv
      cases rw1.int_inv
      refine ⟨_, rfl, _, rfl, b, _, _, _, rfl, rfl, hb1, at1, nd, _, rfl, gx, ?_⟩
      refine ⟨_, rfl, _, rfl, _, rfl, b, _, _, _, rfl, rfl, hb1, rfl, _, rfl, _, rfl, ?_⟩
      refine ⟨v2, nd, at_ + Z, .e e, pl, N, args3 eA, hpl.same t1, r2.keep (Same.tups d1), hw', fun y hy => hu y (g2 y (List.mem_cons_of_mem _ hy)), (by show e.dep < 13; omega), (by show e.sz ≤ 100000; omega), fun H4 u4 s4 l4 => ?_⟩
      replace l4 : Lr K H4 u4 (e.code pl (at_ + Z)) := l4
      refine cat_lr (lu1.same s4) l4 (by rw [cl, Pt.E.code_len]; omega) fun u5 H5 s5 l5 => ?_
      have s45 := s4.trans s5
      refine ⟨_, rfl, pc, _, _, _, rfl, rfl, Cm.sameT s45 hpc, at0, _, _, rfl, rfl, Cm.small (by show 3 + (pl nm).1.length ≤ 100000; omega), _, rfl, pc, _, _, _, rfl, rfl, Cm.sameT s45 hpc, at1, Cm.small (by show 2 ≤ 100000; decide), fun p6 np6 => ⟨Cm.small (by show 1 ≤ 100000; decide), fun p7 np7 => ?_⟩⟩
      have r6 := made (K := K) np6 (.cons (.str ("set" ++ (pl nm).1)) (.cons (.int (pl nm).2) .nil))
      have l7 : Lr K _ _ _ := Lr.made (K := K) np7 (.cons r6 .nil)
      have s7 := (Cm.same_new (o := .tup [.str ("set" ++ (pl nm).1), .int (pl nm).2]) np6).trans (Cm.same_new (o := .lst [.ref p6]) np7)
      refine cat_lr (l5.same s7) l7 (by simp only [List.length_append, List.length_cons, List.length_nil, cl, Pt.E.code_len]; omega) fun u8 H8 s8 l8 => ?_
      rw [List.append_assoc] at l8
      exact fin (((t1.trans s45).trans s7).trans s8) l8 rfl
    · replace hre : Rp K H2 x (.tuple [.str "do", e.d]) := hre
      obtain ⟨b, vs2, rfl, hb, hvs2⟩ := id hre.tup_inv
      obtain ⟨v0, vs2, rfl, r0, hvs2⟩ := hvs2.cons_inv
      obtain ⟨v1, vs2, rfl, r1, hvs2⟩ := hvs2.cons_inv
      cases hvs2.nil_inv
      cases r0.str_inv
      refine ⟨_, rfl, _, rfl, c, cs, rfl, .inl hc, _, _, rfl, rfl, ?_⟩
      refine ⟨_, rfl, b, _, _, _, rfl, rfl, hb, at0, ?_⟩
      refine ⟨_, rfl, Cm.small (by show 2 ≤ 100000; decide), fun p1 np1 => ⟨p1, _, rfl, .inr Cm.sqt_new, rfl, rfl, _, rfl, Cm.itV (fun e => absurd e (show ¬ inV (.str "do") [.str "let", .str "set"] = true by decide)) (fun _ => ?_)⟩⟩
      have t1 := s2.trans (Cm.same_new (o := .tup [.str "let", .str "set"]) np1)
      have lu1 := lu.same (Cm.same_new (o := .tup [.str "let", .str "set"]) np1)
      have hb1 := Cm.sameT (Cm.same_new (o := .tup [.str "let", .str "set"]) np1) hb
      have re1 := hre.keep (Same.tups (Cm.same_new (o := .tup [.str "let", .str "set"]) np1))
      have d1 := Cm.same_new (o := .tup [.str "let", .str "set"]) np1
      generalize upd H2 p1 (.tup [.str "let", .str "set"]) = H3 at t1 lu1 hb1 re1 d1 ⊢
      refine ⟨_, rfl, rfl, _, rfl, Cm.itES (fun _ => ?_) (fun e => absurd rfl e)⟩
      have hdd : e.dep + 1 ≤ es.dep := g3
      have hzz : e.sz + 1 ≤ es.sz := g4
      refine ⟨_, rfl, _, rfl, b, _, _, _, rfl, rfl, hb1, at1, _, rfl, _, rfl, ?_⟩
      refine ⟨v1, nd, at_ + Z, .e e, pl, N, args3 eA, hpl.same t1, r1.keep (Same.tups d1), hw', fun y hy => hu y (g2 y hy), (by show e.dep < 13; omega), (by show e.sz ≤ 100000; omega), fun H4 u4 s4 l4 => ?_⟩
      replace l4 : Lr K H4 u4 (e.code pl (at_ + Z)) := l4
      refine cat_lr (lu1.same s4) l4 (by rw [cl, Pt.E.code_len]; omega) fun u5 H5 s5 l5 => ?_
      refine ⟨Cm.small (by show 1 ≤ 100000; decide), fun p6 np6 => ⟨Cm.small (by show 1 ≤ 100000; decide), fun p7 np7 => ?_⟩⟩
      have r6 := made (K := K) np6 (.cons (.str "drop") .nil)
      have l7 : Lr K _ _ _ := Lr.made (K := K) np7 (.cons r6 .nil)
      have s7 := (Cm.same_new (o := .tup [.str "drop"]) np6).trans (Cm.same_new (o := .lst [.ref p6]) np7)
      refine cat_lr (l5.same s7) l7 (by simp only [List.length_append, List.length_cons, List.length_nil, cl, Pt.E.code_len]; omega) fun u8 H8 s8 l8 => ?_
      rw [List.append_assoc] at l8
      exact fin (((t1.trans (s4.trans s5)).trans s7).trans s8) l8 rfl
    · replace hre : Rp K H2 x (.tuple [.str "if", e.d, .tuple bl.ds, .tuple cl2.ds]) := hre
      obtain ⟨b, vs2, rfl, hb, hvs2⟩ := id hre.tup_inv
      obtain ⟨v0, vs2, rfl, r0, hvs2⟩ := hvs2.cons_inv
      obtain ⟨v1, vs2, rfl, r1, hvs2⟩ := hvs2.cons_inv
      obtain ⟨v2, vs2, rfl, r2, hvs2⟩ := hvs2.cons_inv
      obtain ⟨v3, vs2, rfl, r3, hvs2⟩ := hvs2.cons_inv
      cases hvs2.nil_inv
      cases r0.str_inv
      refine ⟨_, rfl, _, rfl, c, cs, rfl, .inl hc, _, _, rfl, rfl, ?_⟩
      refine ⟨_, rfl, b, _, _, _, rfl, rfl, hb, at0, ?_⟩
      refine ⟨_, rfl, Cm.small (by show 2 ≤ 100000; decide), fun p1 np1 => ⟨p1, _, rfl, .inr Cm.sqt_new, rfl, rfl, _, rfl, Cm.itV (fun e => absurd e (show ¬ inV (.str "if") [.str "let", .str "set"] = true by decide)) (fun _ => ?_)⟩⟩
      have t1 := s2.trans (Cm.same_new (o := .tup [.str "let", .str "set"]) np1)
      have lu1 := lu.same (Cm.same_new (o := .tup [.str "let", .str "set"]) np1)
      have hb1 := Cm.sameT (Cm.same_new (o := .tup [.str "let", .str "set"]) np1) hb
      have re1 := hre.keep (Same.tups (Cm.same_new (o := .tup [.str "let", .str "set"]) np1))
      have d1 := Cm.same_new (o := .tup [.str "let", .str "set"]) np1
      generalize upd H2 p1 (.tup [.str "let", .str "set"]) = H3 at t1 lu1 hb1 re1 d1 ⊢
      refine ⟨_, rfl, rfl, _, rfl, Cm.itES (fun e => absurd e (by decide)) (fun _ => ?_)⟩
      refine ⟨_, rfl, rfl, _, rfl, Cm.itES (fun _ => ?_) (fun e => absurd rfl e)⟩
      have hdd : max e.dep (max bl.dep cl2.dep) + 1 ≤ es.dep := g3
      have hzz : e.sz + 1 + bl.sz + cl2.sz ≤ es.sz := ifsz g4
      obtain ⟨w1, w2⟩ := Bool.and_eq_true_iff.mp (show (e.wf && (bl.wf && cl2.wf)) = true from hw')
      obtain ⟨w2, w3⟩ := Bool.and_eq_true_iff.mp w2
      have hu2 : ∀ x ∈ bl.uses, x ∈ N := fun y hy => hu y (g2 y (List.mem_append_right _ (List.mem_append_left _ hy)))
      have hu3 : ∀ x ∈ cl2.uses, x ∈ N := fun y hy => hu y (g2 y (List.mem_append_right _ (List.mem_append_right _ hy)))
      refine ⟨_, rfl, b, _, _, _, rfl, rfl, hb1, at1, _, rfl, _, rfl, ?_⟩
      refine ⟨v1, nd, at_ + Z, .e e, pl, N, args3 eA, hpl.same t1, r1.keep (Same.tups d1), w1, fun y hy => hu y (g2 y (List.mem_append_left _ hy)), (by show e.dep < 13; omega), (by show e.sz ≤ 100000; omega), fun H4 u4 s4 l4 => ?_⟩
      replace l4 : Lr K H4 u4 (e.code pl (at_ + Z)) := l4
      obtain ⟨c4, cs4, rfl, hc4, hl4⟩ := l4.len
      rw [Pt.E.code_len] at hl4
      refine ⟨_, rfl, b, _, _, _, rfl, rfl, Cm.sameT s4 hb1, at2, _, rfl, _, rfl, _, rfl, c4, cs4, rfl, .inl hc4, _, _, rfl, rfl, _, _, rfl, rfl, ?_⟩
      refine ⟨v2, nd, at_ + Z + e.sz + 1, bl, pl, N, args3 (by omega), hpl.same (t1.trans s4), r2.keep (Same.tups (d1.trans s4)), w2, hu2, by omega, by omega, fun H5 u5 s5 l5 => ?_⟩
      obtain ⟨c5, cs5, rfl, hc5, hl5⟩ := l5.len
      rw [Ss.code_len] at hl5
      have s45 := s4.trans s5
      have eD : ((at_ : Int) + (cs.length : Nat) + (cs4.length : Nat) + 1 + (cs5.length : Nat)) = ((at_ + Z + e.sz + 1 + bl.sz : Nat) : Int) := by omega
      have l4' := l4.same s5
      refine ⟨_, rfl, _, rfl, c4, cs4, rfl, .inl (s5.seq hc4), _, _, rfl, rfl, _, _, rfl, rfl, _, rfl, c5, cs5, rfl, .inl hc5, _, _, rfl, rfl, ?_⟩
      have r3' := r3.keep (Same.tups (d1.trans s45))
      obtain ⟨c3, cs3, rfl, hc3, hcl3⟩ := len_rp r3'
      refine ⟨_, rfl, b, _, _, _, rfl, rfl, Cm.sameT s45 hb1, at3, c3, cs3, rfl, .inr hc3, ?_⟩
      cases cl2 with
      | nil =>
        have e3 : (cs3.length : Int) = 0 := by rw [hcl3]; rfl
        refine ⟨rfl, _, rfl, Cm.itEI (fun _ => ?_) (fun n => absurd e3 n)⟩
        refine ⟨_, rfl, _, rfl, cat_lr (lu1.same s45) l4' (by simp only [List.length_append, List.length_cons, List.length_nil, cl, Pt.E.code_len, Ss.code_len]; omega) fun u6 H6 s6 l6 => ?_⟩
        refine ⟨_, rfl, Cm.small (by show 2 ≤ 100000; decide), fun p7 np7 => ⟨Cm.small (by show 1 ≤ 100000; decide), fun p8 np8 => ?_⟩⟩
        have r7 := made (K := K) np7 (.cons (.str "unless") (.cons (intE eD) .nil))
        have l8 : Lr K _ _ _ := Lr.made (K := K) np8 (.cons r7 .nil)
        have s8 := (Cm.same_new (o := .tup [.str "unless", .int ((at_ : Int) + (cs.length : Nat) + (cs4.length : Nat) + 1 + (cs5.length : Nat))]) np7).trans (Cm.same_new (o := .lst [.ref p7]) np8)
        refine cat_lr (l6.same s8) l8 (by simp only [List.length_append, List.length_cons, List.length_nil, cl, Pt.E.code_len, Ss.code_len]; omega) fun u9 H9 s9 l9 => ?_
        refine ⟨_, rfl, cat_lr l9 (l5.same ((s6.trans s8).trans s9)) (by simp only [List.length_append, List.length_cons, List.length_nil, cl, Pt.E.code_len, Ss.code_len]; omega) fun u10 H10 s10 l10 => ?_⟩
        rw [List.append_assoc, List.append_assoc] at l10
        refine fin (((((t1.trans s45).trans s6).trans s8).trans s9).trans s10) l10 ?_
        show _ = e.code pl (at_ + Z) ++ [I2 "unless" ((at_ + Z + e.sz + 1 + bl.sz : Nat) : Int)] ++ bl.code pl (at_ + Z + e.sz + 1)
        simp only [List.append_assoc]
        rfl
      | cons st2 ss2 =>
        have e3 : ¬ (cs3.length : Int) = 0 := by
          rw [hcl3]
          show ¬ ((ss2.ds.length + 1 : Nat) : Int) = 0
          omega
        have hz' : e.sz + 1 + bl.sz + 1 + (Ss.cons st2 ss2).sz ≤ es.sz := g4
        refine ⟨rfl, _, rfl, Cm.itEI (fun n => absurd n e3) (fun _ => ?_)⟩
        refine ⟨_, rfl, b, _, _, _, rfl, rfl, Cm.sameT s45 hb1, at3, _, rfl, _, rfl, _, _, rfl, rfl, ?_⟩
        refine ⟨.ref c3, nd, at_ + Z + e.sz + 1 + bl.sz + 1, .cons st2 ss2, pl, N, args3 (by omega), hpl.same (t1.trans s45), r3', w3, hu3, by omega, by omega, fun H6 u6 s6 l6 => ?_⟩
        obtain ⟨c6, cs6, rfl, hc6, hl6⟩ := l6.len
        rw [Ss.code_len] at hl6
        have eE : ((at_ : Int) + (cs.length : Nat) + (cs4.length : Nat) + 1 + (cs5.length : Nat) + 1) = ((at_ + Z + e.sz + 1 + bl.sz + 1 : Nat) : Int) := by omega
        have eF : ((at_ : Int) + (cs.length : Nat) + (cs4.length : Nat) + 1 + (cs5.length : Nat) + 1 + (cs6.length : Nat)) = ((at_ + Z + e.sz + 1 + bl.sz + 1 + (st2.sz + ss2.sz) : Nat) : Int) := by
          rw [hl6]
          show _ + ((st2.sz + ss2.sz : Nat) : Int) = _
          omega
        refine ⟨_, rfl, _, rfl, cat_lr (lu1.same (s45.trans s6)) (l4'.same s6) (by simp only [List.length_append, List.length_cons, List.length_nil, cl, Pt.E.code_len, Ss.code_len]; omega) fun u7 H7 s7 l7 => ?_⟩
        refine ⟨_, rfl, _, _, rfl, rfl, Cm.small (by show 2 ≤ 100000; decide), fun p8 np8 => ⟨Cm.small (by show 1 ≤ 100000; decide), fun p9 np9 => ?_⟩⟩
        have r8 := made (K := K) np8 (.cons (.str "unless") (.cons (intE eE) .nil))
        have l9 : Lr K _ _ _ := Lr.made (K := K) np9 (.cons r8 .nil)
        have s9 := (Cm.same_new (o := .tup [.str "unless", .int ((at_ : Int) + (cs.length : Nat) + (cs4.length : Nat) + 1 + (cs5.length : Nat) + 1)]) np8).trans (Cm.same_new (o := .lst [.ref p8]) np9)
        refine cat_lr (l7.same s9) l9 (by simp only [List.length_append, List.length_cons, List.length_nil, cl, Pt.E.code_len, Ss.code_len]; omega) fun u10 H10 s10 l10 => ?_
        have s710 := (s7.trans s9).trans s10
        refine ⟨_, rfl, cat_lr l10 (l5.same (s6.trans s710)) (by simp only [List.length_append, List.length_cons, List.length_nil, cl, Pt.E.code_len, Ss.code_len]; omega) fun u11 H11 s11 l11 => ?_⟩
        have s711 := s710.trans s11
        refine ⟨_, rfl, _, _, rfl, rfl, _, rfl, c6, cs6, rfl, .inl (s711.seq hc6), _, _, rfl, rfl, Cm.small (by show 2 ≤ 100000; decide), fun p12 np12 => ⟨Cm.small (by show 1 ≤ 100000; decide), fun p13 np13 => ?_⟩⟩
        have r12 := made (K := K) np12 (.cons (.str "jump") (.cons (intE eF) .nil))
        have l13 : Lr K _ _ _ := Lr.made (K := K) np13 (.cons r12 .nil)
        have s13 := (Cm.same_new (o := .tup [.str "jump", .int ((at_ : Int) + (cs.length : Nat) + (cs4.length : Nat) + 1 + (cs5.length : Nat) + 1 + (cs6.length : Nat))]) np12).trans (Cm.same_new (o := .lst [.ref p12]) np13)
        refine cat_lr (l11.same s13) l13 (by simp only [List.length_append, List.length_cons, List.length_nil, cl, Pt.E.code_len, Ss.code_len]; omega) fun u14 H14 s14 l14 => ?_
        have s714 := (s711.trans s13).trans s14
        refine ⟨_, rfl, cat_lr l14 (l6.same s714) (by simp only [List.length_append, List.length_cons, List.length_nil, cl, Pt.E.code_len, Ss.code_len]; omega) fun u15 H15 s15 l15 => ?_⟩
        rw [List.append_assoc, List.append_assoc, List.append_assoc, List.append_assoc] at l15
        refine fin ((((t1.trans s45).trans s6).trans s714).trans s15) l15 ?_
        show _ = e.code pl (at_ + Z) ++ [I2 "unless" ((at_ + Z + e.sz + 1 + bl.sz + 1 : Nat) : Int)] ++ bl.code pl (at_ + Z + e.sz + 1) ++ [I2 "jump" ((at_ + Z + e.sz + 1 + bl.sz + 1 + (st2.sz + ss2.sz) : Nat) : Int)] ++ (Ss.cons st2 ss2).code pl (at_ + Z + e.sz + 1 + bl.sz + 1)
        simp only [List.append_assoc]
        rfl
    · replace hre : Rp K H2 x (.tuple [.str "while", e.d, .tuple bl.ds]) := hre
      obtain ⟨b, vs2, rfl, hb, hvs2⟩ := id hre.tup_inv
      obtain ⟨v0, vs2, rfl, r0, hvs2⟩ := hvs2.cons_inv
      obtain ⟨v1, vs2, rfl, r1, hvs2⟩ := hvs2.cons_inv
      obtain ⟨v2, vs2, rfl, r2, hvs2⟩ := hvs2.cons_inv
      cases hvs2.nil_inv
      cases r0.str_inv
      refine ⟨_, rfl, _, rfl, c, cs, rfl, .inl hc, _, _, rfl, rfl, ?_⟩
      refine ⟨_, rfl, b, _, _, _, rfl, rfl, hb, at0, ?_⟩
      refine ⟨_, rfl, Cm.small (by show 2 ≤ 100000; decide), fun p1 np1 => ⟨p1, _, rfl, .inr Cm.sqt_new, rfl, rfl, _, rfl, Cm.itV (fun e => absurd e (show ¬ inV (.str "while") [.str "let", .str "set"] = true by decide)) (fun _ => ?_)⟩⟩
      have t1 := s2.trans (Cm.same_new (o := .tup [.str "let", .str "set"]) np1)
      have lu1 := lu.same (Cm.same_new (o := .tup [.str "let", .str "set"]) np1)
      have hb1 := Cm.sameT (Cm.same_new (o := .tup [.str "let", .str "set"]) np1) hb
      have re1 := hre.keep (Same.tups (Cm.same_new (o := .tup [.str "let", .str "set"]) np1))
      have d1 := Cm.same_new (o := .tup [.str "let", .str "set"]) np1
      generalize upd H2 p1 (.tup [.str "let", .str "set"]) = H3 at t1 lu1 hb1 re1 d1 ⊢
      refine ⟨_, rfl, rfl, _, rfl, Cm.itES (fun e => absurd e (by decide)) (fun _ => ?_)⟩
      refine ⟨_, rfl, rfl, _, rfl, Cm.itES (fun e => absurd e (by decide)) (fun _ => ?_)⟩
      refine ⟨_, rfl, rfl, _, rfl, Cm.itES (fun _ => ?_) (fun e => absurd rfl e)⟩
      have hdd : max e.dep bl.dep + 1 ≤ es.dep := g3
      have hzz : e.sz + bl.sz + 2 ≤ es.sz := g4
      obtain ⟨w1, w2⟩ := Bool.and_eq_true_iff.mp (show (e.wf && bl.wf) = true from hw')
      refine ⟨_, rfl, b, _, _, _, rfl, rfl, hb1, at1, _, rfl, _, rfl, ?_⟩
      refine ⟨v1, nd, at_ + Z, .e e, pl, N, args3 eA, hpl.same t1, r1.keep (Same.tups d1), w1, fun y hy => hu y (g2 y (List.mem_append_left _ hy)), (by show e.dep < 13; omega), (by show e.sz ≤ 100000; omega), fun H4 u4 s4 l4 => ?_⟩
      replace l4 : Lr K H4 u4 (e.code pl (at_ + Z)) := l4
      obtain ⟨c4, cs4, rfl, hc4, hl4⟩ := l4.len
      rw [Pt.E.code_len] at hl4
      refine ⟨_, rfl, b, _, _, _, rfl, rfl, Cm.sameT s4 hb1, at2, _, rfl, _, rfl, _, rfl, c4, cs4, rfl, .inl hc4, _, _, rfl, rfl, _, _, rfl, rfl, ?_⟩
      refine ⟨v2, nd, at_ + Z + e.sz + 1, bl, pl, N, args3 (by omega), hpl.same (t1.trans s4), r2.keep (Same.tups (d1.trans s4)), w2, fun y hy => hu y (g2 y (List.mem_append_right _ hy)), by omega, by omega, fun H5 u5 s5 l5 => ?_⟩
      obtain ⟨c5, cs5, rfl, hc5, hl5⟩ := l5.len
      rw [Ss.code_len] at hl5
      have s45 := s4.trans s5
      have eD : ((at_ : Int) + (cs.length : Nat) + (cs4.length : Nat) + 2 + (cs5.length : Nat)) = ((at_ + Z + e.sz + 1 + bl.sz + 1 : Nat) : Int) := by omega
      have l4' := l4.same s5
      refine ⟨_, rfl, _, rfl, cat_lr (lu1.same s45) l4' (by simp only [List.length_append, List.length_cons, List.length_nil, cl, Pt.E.code_len, Ss.code_len]; omega) fun u6 H6 s6 l6 => ?_⟩
      refine ⟨_, rfl, _, rfl, c4, cs4, rfl, .inl ((s5.trans s6).seq hc4), _, _, rfl, rfl, _, _, rfl, rfl, _, rfl, c5, cs5, rfl, .inl (s6.seq hc5), _, _, rfl, rfl, Cm.small (by show 2 ≤ 100000; decide), fun p7 np7 => ⟨Cm.small (by show 1 ≤ 100000; decide), fun p8 np8 => ?_⟩⟩
      have r7 := made (K := K) np7 (.cons (.str "unless") (.cons (intE eD) .nil))
      have l8 : Lr K _ _ _ := Lr.made (K := K) np8 (.cons r7 .nil)
      have s8 := (Cm.same_new (o := .tup [.str "unless", .int ((at_ : Int) + (cs.length : Nat) + (cs4.length : Nat) + 2 + (cs5.length : Nat))]) np7).trans (Cm.same_new (o := .lst [.ref p7]) np8)
      refine cat_lr (l6.same s8) l8 (by simp only [List.length_append, List.length_cons, List.length_nil, cl, Pt.E.code_len, Ss.code_len]; omega) fun u9 H9 s9 l9 => ?_
      refine ⟨_, rfl, cat_lr l9 (l5.same ((s6.trans s8).trans s9)) (by simp only [List.length_append, List.length_cons, List.length_nil, cl, Pt.E.code_len, Ss.code_len]; omega) fun u10 H10 s10 l10 => ?_⟩
      refine ⟨_, rfl, Cm.small (by show 2 ≤ 100000; decide), fun p11 np11 => ⟨Cm.small (by show 1 ≤ 100000; decide), fun p12 np12 => ?_⟩⟩
      have r11 := made (K := K) np11 (.cons (.str "jump") (.cons (intE eA) .nil))
      have l12 : Lr K _ _ _ := Lr.made (K := K) np12 (.cons r11 .nil)
      have s12 := (Cm.same_new (o := .tup [.str "jump", .int ((at_ : Int) + (cs.length : Nat))]) np11).trans (Cm.same_new (o := .lst [.ref p11]) np12)
      refine cat_lr (l10.same s12) l12 (by simp only [List.length_append, List.length_cons, List.length_nil, cl, Pt.E.code_len, Ss.code_len]; omega) fun u13 H13 s13 l13 => ?_
      rw [List.append_assoc, List.append_assoc, List.append_assoc] at l13
      refine fin (((((t1.trans s45).trans s6).trans s8).trans s9).trans ((s10.trans s12).trans s13)) l13 ?_
      show _ = e.code pl (at_ + Z) ++ [I2 "unless" ((at_ + Z + e.sz + 1 + bl.sz + 1 : Nat) : Int)] ++ bl.code pl (at_ + Z + e.sz + 1) ++ [I2 "jump" ((at_ + Z : Nat) : Int)]
      simp only [List.append_assoc]
      rfl
    · have hre2 : Rp K H2 x (.tuple (.str wd :: ds)) := ed2 ▸ (ed ▸ hre)
      have nw : inV (.str wd) [.str "let", .str "set"] = false ∧ ¬ wd = Str.ofString "do" ∧ ¬ wd = Str.ofString "if" ∧ ¬ wd = Str.ofString "while" := by
        rcases hwd with h | h
        · rw [h]
          decide
        · exact (by decide +kernel : ∀ w ∈ plainB, inV (.str w) [.str "let", .str "set"] = false ∧ ¬ w = Str.ofString "do" ∧ ¬ w = Str.ofString "if" ∧ ¬ w = Str.ofString "while") wd h
      obtain ⟨n0, n1, n2, n3⟩ := nw
      obtain ⟨b, vs2, rfl, hb, hvs2⟩ := id hre2.tup_inv
      obtain ⟨v0, vs2, rfl, r0, hvs2⟩ := hvs2.cons_inv
      cases r0.str_inv
      refine ⟨_, rfl, _, rfl, c, cs, rfl, .inl hc, _, _, rfl, rfl, ?_⟩
      refine ⟨_, rfl, b, _, _, _, rfl, rfl, hb, at0, ?_⟩
      refine ⟨_, rfl, Cm.small (by show 2 ≤ 100000; decide), fun p1 np1 => ⟨p1, _, rfl, .inr Cm.sqt_new, rfl, rfl, _, rfl, Cm.itV (fun e => absurd e (show ¬ inV (.str wd) [.str "let", .str "set"] = true by rw [n0]; decide)) (fun _ => ?_)⟩⟩
      have t1 := s2.trans (Cm.same_new (o := .tup [.str "let", .str "set"]) np1)
      have lu1 := lu.same (Cm.same_new (o := .tup [.str "let", .str "set"]) np1)
      have hb1 := Cm.sameT (Cm.same_new (o := .tup [.str "let", .str "set"]) np1) hb
      have re1 := hre.keep (Same.tups (Cm.same_new (o := .tup [.str "let", .str "set"]) np1))
      have d1 := Cm.same_new (o := .tup [.str "let", .str "set"]) np1
      generalize upd H2 p1 (.tup [.str "let", .str "set"]) = H3 at t1 lu1 hb1 re1 d1 ⊢
      refine ⟨_, rfl, rfl, _, rfl, Cm.itES (fun e => absurd e n1) (fun _ => ?_)⟩
      refine ⟨_, rfl, rfl, _, rfl, Cm.itES (fun e => absurd e n2) (fun _ => ?_)⟩
      refine ⟨_, rfl, rfl, _, rfl, Cm.itES (fun e => absurd e n3) (fun _ => ?_)⟩
      refine ⟨_, rfl, _, rfl, _, rfl, _, rfl, ?_⟩
      refine ⟨_, nd, at_ + Z, e, pl, N, args3 eA, hpl.same t1, (ed ▸ re1), ew, fun y hy => hu y (g2 y (eu ▸ hy)), (by omega), (by omega), fun H4 u4 s4 l4 => ?_⟩
      rw [← ec] at l4
      refine cat_lr (lu1.same s4) l4 (by rw [cl, S.code_len]; omega) fun u5 H5 s5 l5 => ?_
      exact fin ((t1.trans s4).trans s5) l5 rfl
  · subst e
    rw [hlen, Ss.take_all] at lu
    exact ⟨_, rfl, q _ _ s2 lu⟩
theorem ok_lblock (T : Txt K mg w a) : ∀ d : Nat, d ≤ 13 → FnOk P w K mg base CX0 (d + 15) (He.ga K "_law_block_code") a.d_lw_block_code ["block", "places", "base"] (spLb K d)
  | 0, _ => vac fun vs H Q E h => by
    obtain ⟨_, _, _, e, _, _, _, _, _, _, _, hd, _⟩ := h
    exact absurd hd (Nat.not_lt_zero e.dep)
  | d + 1, hd => step_lblock T d (by omega) (ok_lcode T 13) (ok_lblock T d (by omega))
theorem S.letw (st : S) (hw : st.wf = true) : (∃ x k e, st = .letS x k e) ∨ (∃ e b c, st = .ifS e b c) ∨ (∃ e b, st = .whileS e b) ∨
    (∃ (wd : Str) (ds : List PyData), st.d = .tuple (.str wd :: ds) ∧ (¬ wd = "let" ∧ ¬ wd = "if" ∧ ¬ wd = "while") ∧ st.lets = []) := by
  cases st with
  | letS x k e => exact .inl ⟨x, k, e, rfl⟩
  | ifS e b c => exact .inr (.inl ⟨e, b, c, rfl⟩)
  | whileS e b => exact .inr (.inr (.inl ⟨e, b, rfl⟩))
  | setS x e => exact .inr (.inr (.inr ⟨_, _, rfl, by decide, rfl⟩))
  | doS e => exact .inr (.inr (.inr ⟨_, _, rfl, by decide, rfl⟩))
  | fork r f as => exact .inr (.inr (.inr ⟨_, _, rfl, by decide, rfl⟩))
  | plain w as => exact .inr (.inr (.inr ⟨w, _, rfl, (by decide +kernel : ∀ w ∈ plainB, ¬ w = "let" ∧ ¬ w = "if" ∧ ¬ w = "while") w (of_decide_eq_true (Bool.and_eq_true_iff.mp (Bool.and_eq_true_iff.mp hw).1).1), rfl⟩))
theorem step_llets (T : Txt K mg w a) (d : Nat) (gl : FnOk P w K mg base CX0 (d + 1) (He.ga K "_law_lets") a.d_lw_lets ["block"] (spLn K d)) :
    FnOk P w K mg base CX0 (d + 2) (He.ga K "_law_lets") a.d_lw_lets ["block"] (spLn K (d + 1)) := by
  refine T.F_lw_lets.ok sc_lw_lets (fun vs H Q E h => ?_) (fun cdv A outer s H vs Q E hr h => ?_)
  · obtain ⟨_, _, rfl, _⟩ := h
    rfl
  obtain ⟨v, es, rfl, hv, hw, hd, hsz, q⟩ := h
  refine ⟨_, PSs.nox (pss_cons (ps_set (i := 1) sc_lw_lets.nd rfl (Or.inl rfl) (pe_lst pa_nil))
      (pss_cons (ps_for PassesOwn.never rfl (pi_tup (pv 0)) (pg_name (i := 2) sc_lw_lets.nd rfl (Or.inl rfl))
      (pss_one (ps_if (pt_cmpR op_eq (pe_ix ix_tup (pv 2) pe_int (fun _ _ => rfl)) pe_str (nomark _)) (pss_one (ps_expr (pe_bm PySem.F.plainAttrs_list PySem.F.slot_list_append PySem.F.type_list_append mt_append (pv 1) (pa_cons (pe_ix ix_tup (pv 2) pe_int (fun _ _ => rfl)) pa_nil)))) (pss_one (ps_if (pt_cmpR op_eq (pe_ix ix_tup (pv 2) pe_int (fun _ _ => rfl)) pe_str (nomark _)) (pss_one (ps_set (i := 1) sc_lw_lets.nd rfl (Or.inl rfl) (pe_op op_cat (pe_op op_cat (pv 1) (pe_call gl (hr.mono (by omega)) (by rfl) T.g_lw_lets T.F_lw_lets.kp T.b_lw_lets .nil pass0 (pa_cons (pe_ix ix_tup (pv 2) pe_int (fun _ _ => rfl)) pa_nil))) (pe_call gl (hr.mono (by omega)) (by rfl) T.g_lw_lets T.F_lw_lets.kp T.b_lw_lets .nil pass0 (pa_cons (pe_ix ix_tup (pv 2) pe_int (fun _ _ => rfl)) pa_nil))))) (pss_one (ps_if (pt_cmpR op_eq (pe_ix ix_tup (pv 2) pe_int (fun _ _ => rfl)) pe_str (nomark _)) (pss_one (ps_set (i := 1) sc_lw_lets.nd rfl (Or.inl rfl) (pe_op op_cat (pv 1) (pe_call gl (hr.mono (by omega)) (by rfl) T.g_lw_lets T.F_lw_lets.kp T.b_lw_lets .nil pass0 (pa_cons (pe_ix ix_tup (pv 2) pe_int (fun _ _ => rfl)) pa_nil))))) pss_nil)))))))
      (pss_one (ps_ret (pv 1))))), ?_⟩
  refine ⟨Nat.zero_le _, fun f nf => ?_⟩
  have s0 := Cm.same_new (o := .lst []) nf
  obtain ⟨b, vs, rfl, hb, hvs⟩ := hv.tup_inv
  have hlen : vs.length = es.list.length := by rw [hvs.len, Ss.list_ds, List.length_map]
  refine ⟨_, rfl, b, rfl, ⟨vs, Cm.sameT s0 hb⟩, for_tup (K := K) (a := b) (xs := vs) (fun i σ H2 => ∃ (f : Addr) (x3 : Option V), σ = [some (.ref b), some (.ref f), x3] ∧ Same H H2 ∧ H f = none ∧ H2 f = some (.lst ((es.take i).lets.map V.str)))
    ⟨f, none, rfl, s0, nf, (by rw [upd_same]; cases es <;> rfl)⟩ (fun i σ H2 _ ⟨_, _, _, s2, _⟩ => Cm.sameT s2 hb) (fun i x σ H2 hx ⟨f, x3, e, s2, nf, hf⟩ => ?_) fun σ H2 ⟨f, x3, e, s2, nf, hf⟩ => ?_⟩
  · subst e
    obtain ⟨st, he, re⟩ := hvs.at_S hx
    obtain ⟨h1, h2, h3, h4⟩ := Ss.part (List.mem_of_getElem? he)
    have hz := Ss.take_sz es i
    have hlz := Ss.lets_sz (es.take i)
    have hzs := S.lets_sz st
    have tl := take_lets he
    have hre := re.keep (Same.tups s2)
    rcases S.letw st (h1 hw) with ⟨nm, kd, e, rfl⟩ | ⟨e, bl, cl, rfl⟩ | ⟨e, bl, rfl⟩ | ⟨wd, ds, ed, ⟨n1, n2, n3⟩, nl⟩
    · obtain ⟨c, us, rfl, hc, hus⟩ := (show Rp K H2 x (.tuple [.str "let", .str nm, .str kd, e.d]) from hre).tup_inv
      obtain ⟨v0, us, rfl, r0, hus⟩ := hus.cons_inv
      obtain ⟨v1, us, rfl, r1, hus⟩ := hus.cons_inv
      cases r0.str_inv
      cases r1.str_inv
      refine ⟨_, rfl, c, _, _, _, rfl, rfl, hc, at0, rfl, _, rfl, Cm.itES (fun _ => ?_) (fun e => absurd rfl e)⟩
      refine ⟨_, rfl, .inl ⟨rfl, _, SqL.of hf⟩, _, rfl, c, _, _, _, rfl, rfl, hc, at1, f, _, _, rfl, rfl, hf, Cm.smallL (by rw [List.length_map]; omega), ?_⟩
      refine ⟨f, _, rfl, Cm.same_mut s2 nf, nf, ?_⟩
      rw [upd_same, tl, List.map_append]
      rfl
    · obtain ⟨c, us, rfl, hc, hus⟩ := (show Rp K H2 x (.tuple [.str "if", e.d, .tuple bl.ds, .tuple cl.ds]) from hre).tup_inv
      obtain ⟨v0, us, rfl, r0, hus⟩ := hus.cons_inv
      obtain ⟨v1, us, rfl, r1, hus⟩ := hus.cons_inv
      obtain ⟨v2, us, rfl, r2, hus⟩ := hus.cons_inv
      obtain ⟨v3, us, rfl, r3, hus⟩ := hus.cons_inv
      cases hus.nil_inv
      cases r0.str_inv
      have hdd : max e.dep (max bl.dep cl.dep) + 1 ≤ es.dep := h3
      have hzz : e.sz + 1 + bl.sz + cl.sz ≤ es.sz := ifsz h4
      obtain ⟨w1, w2⟩ := Bool.and_eq_true_iff.mp (show (e.wf && (bl.wf && cl.wf)) = true from h1 hw)
      obtain ⟨w2, w3⟩ := Bool.and_eq_true_iff.mp w2
      have z1 := Ss.lets_sz bl
      have z2 := Ss.lets_sz cl
      refine ⟨_, rfl, c, _, _, _, rfl, rfl, hc, at0, rfl, _, rfl, Cm.itES (fun e => absurd e (by decide)) (fun _ => ?_)⟩
      refine ⟨_, rfl, c, _, _, _, rfl, rfl, hc, at0, rfl, _, rfl, Cm.itES (fun _ => ?_) (fun e => absurd rfl e)⟩
      refine ⟨_, rfl, _, rfl, c, _, _, _, rfl, rfl, hc, at2, v2, bl, rfl, r2, w2, by omega, by omega, fun H4 p4 s4 n4 h4' => ?_⟩
      refine ⟨f, p4, _, _, rfl, rfl, s4 _ _ hf, h4', (by rw [sizeLine_eq]; simp only [List.length_map, List.length_append]; omega), fun p5 np5 => ?_⟩
      have s5 := Cm.same_new (o := .lst ((es.take i).lets.map V.str ++ bl.lets.map V.str)) np5
      have s45 := s4.trans s5
      refine ⟨_, rfl, c, _, _, _, rfl, rfl, Cm.sameT s45 hc, at3, v3, cl, rfl, r3.keep (Same.tups s45), w3, by omega, by omega, fun H6 p6 s6 n6 h6 => ?_⟩
      refine ⟨p5, p6, _, _, rfl, rfl, s6 _ _ upd_same, h6, (by rw [sizeLine_eq]; simp only [List.length_map, List.length_append]; omega), fun p7 np7 => ?_⟩
      refine ⟨p7, _, rfl, s2.trans (s45.trans (s6.trans (Cm.same_new np7))), ?_, ?_⟩
      · cases hq : H p7 with
        | none => rfl
        | some o =>
          have := (s2.trans (s45.trans s6)) _ _ hq
          rw [np7] at this
          cases this
      · rw [upd_same, tl, show (S.ifS e bl cl).lets = bl.lets ++ cl.lets from rfl, List.map_append, List.map_append, List.append_assoc]
    · obtain ⟨c, us, rfl, hc, hus⟩ := (show Rp K H2 x (.tuple [.str "while", e.d, .tuple bl.ds]) from hre).tup_inv
      obtain ⟨v0, us, rfl, r0, hus⟩ := hus.cons_inv
      obtain ⟨v1, us, rfl, r1, hus⟩ := hus.cons_inv
      obtain ⟨v2, us, rfl, r2, hus⟩ := hus.cons_inv
      cases hus.nil_inv
      cases r0.str_inv
      have hdd : max e.dep bl.dep + 1 ≤ es.dep := h3
      have hzz : e.sz + bl.sz + 2 ≤ es.sz := h4
      obtain ⟨w1, w2⟩ := Bool.and_eq_true_iff.mp (show (e.wf && bl.wf) = true from h1 hw)
      have z1 := Ss.lets_sz bl
      refine ⟨_, rfl, c, _, _, _, rfl, rfl, hc, at0, rfl, _, rfl, Cm.itES (fun e => absurd e (by decide)) (fun _ => ?_)⟩
      refine ⟨_, rfl, c, _, _, _, rfl, rfl, hc, at0, rfl, _, rfl, Cm.itES (fun e => absurd e (by decide)) (fun _ => ?_)⟩
      refine ⟨_, rfl, c, _, _, _, rfl, rfl, hc, at0, rfl, _, rfl, Cm.itES (fun _ => ?_) (fun e => absurd rfl e)⟩
      refine ⟨_, rfl, _, rfl, c, _, _, _, rfl, rfl, hc, at2, v2, bl, rfl, r2, w2, by omega, by omega, fun H4 p4 s4 n4 h4' => ?_⟩
      refine ⟨f, p4, _, _, rfl, rfl, s4 _ _ hf, h4', (by rw [sizeLine_eq]; simp only [List.length_map, List.length_append]; omega), fun p5 np5 => ?_⟩
      refine ⟨p5, _, rfl, s2.trans (s4.trans (Cm.same_new np5)), ?_, ?_⟩
      · cases hq : H p5 with
        | none => rfl
        | some o =>
          have := (s2.trans s4) _ _ hq
          rw [np5] at this
          cases this
      · rw [upd_same, tl, show (S.whileS e bl).lets = bl.lets from rfl, List.map_append]
    · obtain ⟨c, us, rfl, hc, hus⟩ := (show Rp K H2 x (.tuple (.str wd :: ds)) from ed ▸ hre).tup_inv
      obtain ⟨v0, us, rfl, r0, hus⟩ := hus.cons_inv
      cases r0.str_inv
      refine ⟨_, rfl, c, _, _, _, rfl, rfl, hc, at0, rfl, _, rfl, Cm.itES (fun e => absurd e n1) (fun _ => ?_)⟩
      refine ⟨_, rfl, c, _, _, _, rfl, rfl, hc, at0, rfl, _, rfl, Cm.itES (fun e => absurd e n2) (fun _ => ?_)⟩
      refine ⟨_, rfl, c, _, _, _, rfl, rfl, hc, at0, rfl, _, rfl, Cm.itES (fun e => absurd e n3) (fun _ => ?_)⟩
      refine ⟨f, _, rfl, s2, nf, ?_⟩
      rw [tl, nl, List.append_nil]
      exact hf
  · subst e
    rw [hlen, Ss.take_all] at hf
    exact ⟨_, rfl, q _ _ s2 nf hf⟩
theorem ok_llets (T : Txt K mg w a) : ∀ d : Nat, FnOk P w K mg base CX0 (d + 1) (He.ga K "_law_lets") a.d_lw_lets ["block"] (spLn K d)
  | 0 => vac fun vs H Q E h => by
    obtain ⟨_, e, _, _, _, hd, _⟩ := h
    exact absurd hd (Nat.not_lt_zero e.dep)
  | d + 1 => step_llets T d (ok_llets T d)
/-! ### the code is data that may be compared; the names are texts -/
theorem layAll_app : ∀ {xs ys : List PyData}, PyData.canLayAll0 xs = true → PyData.canLayAll0 ys = true → PyData.canLayAll0 (xs ++ ys) = true
  | [], _, _, h => h
  | x :: xs, ys, h1, h2 => by
    simp only [List.cons_append, PyData.canLayAll0, Bool.and_eq_true] at h1 ⊢
    exact ⟨h1.1, layAll_app h1.2 h2⟩
theorem lay_t {ds : List PyData} (h : (PyData.tuple ds).canLay0 = true) : PyData.canLayAll0 ds = true := by simpa [PyData.canLay0] using h
theorem lay_c {x : PyData} {xs : List PyData} (h : PyData.canLayAll0 (x :: xs) = true) : x.canLay0 = true ∧ PyData.canLayAll0 xs = true := by simpa [PyData.canLayAll0] using h
theorem lay_s {x : Str} (h : (PyData.str x).canLay0 = true) : PyData.strOk x = true := by simpa [PyData.canLay0] using h
theorem lay_i2 {x : Str} {n : Int} (h : PyData.strOk x = true) : PyData.canLayAll0 [I2 x n] = true := layAll_cons (lay2 (tx h) layI) rfl
theorem lay_i1 {x : Str} (h : PyData.strOk x = true) : PyData.canLayAll0 [I1 x] = true := layAll_cons (lay1 (tx h)) rfl
theorem lay_i3 {x y : Str} {n : Int} (h : PyData.strOk x = true) (h2 : PyData.strOk y = true) : PyData.canLayAll0 [I3 x y n] = true := layAll_cons (lay3 (tx h) (tx h2) layI) rfl
theorem lay_tn (o : Bool) : PyData.canLayAll0 (tn o) = true := by cases o <;> decide +kernel
theorem lay_ends (o : Bool) (d : Nat) : PyData.canLayAll0 (ends o d) = true := layAll_cons (lay2 (tx (by decide +kernel)) layI) (layAll_cons (lay2 (tx (by decide +kernel)) layI) (layAll_cons (lay2 (tx (by decide +kernel)) layI) rfl))
def PlOk (pl : Plc) : Prop := ∀ x, (pl x).1 = "local" ∨ (pl x).1 = "field"
theorem PlOk.so {pl : Plc} (h : PlOk pl) (x : Str) : PyData.strOk (pl x).1 = true := by
  rcases h x with e | e <;> rw [e] <;> decide +kernel
theorem PlOk.so2 {pl : Plc} (h : PlOk pl) (x : Str) : PyData.strOk ("set" ++ (pl x).1) = true := by
  rcases h x with e | e <;> rw [e] <;> decide +kernel
mutual
theorem layE {pl : Plc} (hp : PlOk pl) : ∀ (e : E) (i : Nat), e.d.canLay0 = true → PyData.canLayAll0 (e.code pl i) = true
  | .int n, i, h => lay_i2 (by decide +kernel)
  | .name x, i, h => lay_i2 (hp.so x)
  | .choice o l r, i, h => by
    obtain ⟨h0, h⟩ := lay_c (lay_t h)
    obtain ⟨h1, h⟩ := lay_c h
    obtain ⟨h2, h⟩ := lay_c h
    exact layAll_app (layAll_app (layAll_app (layAll_app (layAll_app (layE hp l _ h1) (lay_tn o)) (lay_i2 (by decide +kernel))) (layAll_app (layE hp r _ h2) (lay_tn o))) (lay_i2 (by decide +kernel))) (lay_ends o _)
  | .call r f as, i, h => by
    obtain ⟨h0, h⟩ := lay_c (lay_t h)
    obtain ⟨h1, h⟩ := lay_c h
    obtain ⟨h2, h⟩ := lay_c h
    obtain ⟨h3, h⟩ := lay_c h
    exact layAll_app (layAll_app (layE hp r _ h1) (layEs hp as _ (lay_t h3))) (lay_i3 (by decide +kernel) (lay_s h2))
  | .new m as, i, h => by
    obtain ⟨h0, h⟩ := lay_c (lay_t h)
    obtain ⟨h1, h⟩ := lay_c h
    obtain ⟨h2, h⟩ := lay_c h
    exact layAll_app (layEs hp as _ (lay_t h2)) (lay_i3 (by decide +kernel) (lay_s h1))
  | .plain w as, i, h => by
    obtain ⟨h0, h⟩ := lay_c (lay_t h)
    exact layAll_app (layEs hp as _ h) (lay_i1 (lay_s h0))
theorem layEs {pl : Plc} (hp : PlOk pl) : ∀ (es : Es) (i : Nat), PyData.canLayAll0 es.ds = true → PyData.canLayAll0 (es.code pl i) = true
  | .nil, i, h => rfl
  | .cons e es, i, h => by
    obtain ⟨h0, h⟩ := lay_c h
    exact layAll_app (layE hp e _ h0) (layEs hp es _ h)
end
mutual
theorem layS {pl : Plc} (hp : PlOk pl) : ∀ (s : S) (i : Nat), s.d.canLay0 = true → PyData.canLayAll0 (s.code pl i) = true
  | .letS x k e, i, h => by
    obtain ⟨h0, h⟩ := lay_c (lay_t h)
    obtain ⟨h1, h⟩ := lay_c h
    obtain ⟨h2, h⟩ := lay_c h
    obtain ⟨h3, h⟩ := lay_c h
    exact layAll_app (layE hp e _ h3) (lay_i2 (hp.so2 x))
  | .setS x e, i, h => by
    obtain ⟨h0, h⟩ := lay_c (lay_t h)
    obtain ⟨h1, h⟩ := lay_c h
    obtain ⟨h2, h⟩ := lay_c h
    exact layAll_app (layE hp e _ h2) (lay_i2 (hp.so2 x))
  | .ifS e b .nil, i, h => by
    obtain ⟨h0, h⟩ := lay_c (lay_t h)
    obtain ⟨h1, h⟩ := lay_c h
    obtain ⟨h2, h⟩ := lay_c h
    exact layAll_app (layAll_app (layE hp e _ h1) (lay_i2 (by decide +kernel))) (laySs hp b _ (lay_t h2))
  | .ifS e b (.cons s ss), i, h => by
    obtain ⟨h0, h⟩ := lay_c (lay_t h)
    obtain ⟨h1, h⟩ := lay_c h
    obtain ⟨h2, h⟩ := lay_c h
    obtain ⟨h3, h⟩ := lay_c h
    obtain ⟨h4, h5⟩ := lay_c (lay_t h3)
    exact layAll_app (layAll_app (layAll_app (layAll_app (layE hp e _ h1) (lay_i2 (by decide +kernel))) (laySs hp b _ (lay_t h2))) (lay_i2 (by decide +kernel))) (layAll_app (layS hp s _ h4) (laySs hp ss _ h5))
  | .whileS e b, i, h => by
    obtain ⟨h0, h⟩ := lay_c (lay_t h)
    obtain ⟨h1, h⟩ := lay_c h
    obtain ⟨h2, h⟩ := lay_c h
    exact layAll_app (layAll_app (layAll_app (layE hp e _ h1) (lay_i2 (by decide +kernel))) (laySs hp b _ (lay_t h2))) (lay_i2 (by decide +kernel))
  | .doS e, i, h => by
    obtain ⟨h0, h⟩ := lay_c (lay_t h)
    obtain ⟨h1, h⟩ := lay_c h
    exact layAll_app (layE hp e _ h1) (lay_i1 (by decide +kernel))
  | .fork r f as, i, h => by
    obtain ⟨h0, h⟩ := lay_c (lay_t h)
    obtain ⟨h1, h⟩ := lay_c h
    obtain ⟨h2, h⟩ := lay_c h
    obtain ⟨h3, h⟩ := lay_c h
    exact layAll_app (layAll_app (layE hp r _ h1) (layEs hp as _ (lay_t h3))) (lay_i3 (by decide +kernel) (lay_s h2))
  | .plain w as, i, h => by
    obtain ⟨h0, h⟩ := lay_c (lay_t h)
    exact layAll_app (layEs hp as _ h) (lay_i1 (lay_s h0))
theorem laySs {pl : Plc} (hp : PlOk pl) : ∀ (ss : Ss) (i : Nat), PyData.canLayAll0 ss.ds = true → PyData.canLayAll0 (ss.code pl i) = true
  | .nil, i, h => rfl
  | .cons s ss, i, h => by
    obtain ⟨h0, h⟩ := lay_c h
    exact layAll_app (layS hp s _ h0) (laySs hp ss _ h)
end
mutual
theorem S.letsOk : ∀ s : S, s.d.canLay0 = true → ∀ x ∈ s.lets, PyData.strOk x = true
  | .letS x k e, h, y, hy => by
    obtain ⟨h0, h⟩ := lay_c (lay_t h)
    obtain ⟨h1, h⟩ := lay_c h
    rw [List.mem_singleton.mp hy]
    exact lay_s h1
  | .ifS e b c, h, y, hy => by
    obtain ⟨h0, h⟩ := lay_c (lay_t h)
    obtain ⟨h1, h⟩ := lay_c h
    obtain ⟨h2, h⟩ := lay_c h
    obtain ⟨h3, h⟩ := lay_c h
    rcases List.mem_append.mp hy with hy | hy
    · exact Ss.letsOk b (lay_t h2) y hy
    · exact Ss.letsOk c (lay_t h3) y hy
  | .whileS e b, h, y, hy => by
    obtain ⟨h0, h⟩ := lay_c (lay_t h)
    obtain ⟨h1, h⟩ := lay_c h
    obtain ⟨h2, h⟩ := lay_c h
    exact Ss.letsOk b (lay_t h2) y hy
  | .setS x e, h, y, hy => (nomatch hy)
  | .doS e, h, y, hy => (nomatch hy)
  | .fork r f as, h, y, hy => (nomatch hy)
  | .plain w as, h, y, hy => (nomatch hy)
theorem Ss.letsOk : ∀ s : Ss, PyData.canLayAll0 s.ds = true → ∀ x ∈ s.lets, PyData.strOk x = true
  | .nil, h, y, hy => (nomatch hy)
  | .cons s ss, h, y, hy => by
    obtain ⟨h0, h⟩ := lay_c h
    rcases List.mem_append.mp hy with hy | hy
    · exact S.letsOk s h0 y hy
    · exact Ss.letsOk ss h y hy
end
theorem dAll_app : ∀ {xs ys : List PyData} {n : Nat}, PyData.depthAll xs ≤ n → PyData.depthAll ys ≤ n → PyData.depthAll (xs ++ ys) ≤ n
  | [], _, _, _, h => h
  | x :: xs, ys, n, h1, h2 => by
    have h1' : max x.depth (PyData.depthAll xs) ≤ n := h1
    show max x.depth (PyData.depthAll (xs ++ ys)) ≤ n
    have h3 := dAll_app (xs := xs) (ys := ys) (n := n) (by omega) h2
    omega
theorem d_i2 {x : Str} {n : Int} : PyData.depthAll [I2 x n] ≤ 1 := Nat.le_refl 1
theorem d_i1 {x : Str} : PyData.depthAll [I1 x] ≤ 1 := Nat.le_refl 1
theorem d_i3 {x y : Str} {n : Int} : PyData.depthAll [I3 x y n] ≤ 1 := Nat.le_refl 1
theorem d_tn (o : Bool) : PyData.depthAll (tn o) ≤ 1 := by cases o <;> decide
theorem d_ends (o : Bool) (d : Nat) : PyData.depthAll (ends o d) ≤ 1 := Nat.le_refl 1
mutual
theorem dE {pl : Plc} : ∀ (e : E) (i : Nat), PyData.depthAll (e.code pl i) ≤ 1
  | .int n, i => d_i2
  | .name x, i => d_i2
  | .choice o l r, i => dAll_app (dAll_app (dAll_app (dAll_app (dAll_app (dE l _) (d_tn o)) d_i2) (dAll_app (dE r _) (d_tn o))) d_i2) (d_ends o _)
  | .call r f as, i => dAll_app (dAll_app (dE r _) (dEs as _)) d_i3
  | .new m as, i => dAll_app (dEs as _) d_i3
  | .plain w as, i => dAll_app (dEs as _) d_i1
theorem dEs {pl : Plc} : ∀ (es : Es) (i : Nat), PyData.depthAll (es.code pl i) ≤ 1
  | .nil, i => Nat.zero_le 1
  | .cons e es, i => dAll_app (dE e _) (dEs es _)
end
mutual
theorem dS {pl : Plc} : ∀ (s : S) (i : Nat), PyData.depthAll (s.code pl i) ≤ 1
  | .letS x k e, i => dAll_app (dE e _) d_i2
  | .setS x e, i => dAll_app (dE e _) d_i2
  | .ifS e b .nil, i => dAll_app (dAll_app (dE e _) d_i2) (dSs b _)
  | .ifS e b (.cons s ss), i => dAll_app (dAll_app (dAll_app (dAll_app (dE e _) d_i2) (dSs b _)) d_i2) (dAll_app (dS s _) (dSs ss _))
  | .whileS e b, i => dAll_app (dAll_app (dAll_app (dE e _) d_i2) (dSs b _)) d_i2
  | .doS e, i => dAll_app (dE e _) d_i1
  | .fork r f as, i => dAll_app (dAll_app (dE r _) (dEs as _)) d_i3
  | .plain w as, i => dAll_app (dEs as _) d_i1
theorem dSs {pl : Plc} : ∀ (ss : Ss) (i : Nat), PyData.depthAll (ss.code pl i) ≤ 1
  | .nil, i => Nat.zero_le 1
  | .cons s ss, i => dAll_app (dS s _) (dSs ss _)
end
theorem shaped_code {pl : Plc} (hp : PlOk pl) {b : Ss} (h : PyData.canLayAll0 b.ds = true) : SeqAt.shaped (.tuple (b.code pl 0)) = true := by
  refine shaped_of ?_ ?_
  · have := laySs hp b 0 h
    simpa [PyData.canLay0] using this
  · have := dSs (pl := pl) b 0
    show PyData.depthAll (b.code pl 0) + 1 ≤ 64
    omega
theorem eqv_code {pl : Plc} (hp : PlOk pl) {b : Ss} (h : PyData.canLayAll0 b.ds = true) : PyData.eqv (.tuple (b.code pl 0)) (.tuple (b.code pl 0)) = true :=
  SeqAt.eqv_refl _ (SeqAt.canLay_of_shaped (shaped_code hp h))
theorem strs_lay : ∀ {ns : List Str}, (∀ x ∈ ns, PyData.strOk x = true) → PyData.canLayAll0 (ns.map PyData.str) = true ∧ PyData.depthAll (ns.map PyData.str) = 0
  | [], _ => ⟨rfl, rfl⟩
  | x :: ns, h => by
    obtain ⟨h1, h2⟩ := strs_lay (ns := ns) fun y hy => h y (List.mem_cons_of_mem _ hy)
    exact ⟨layAll_cons (tx (h x List.mem_cons_self)) h1, by show max 0 (PyData.depthAll (ns.map PyData.str)) = 0; rw [h2]; rfl⟩
theorem shaped_strs {ns : List Str} (h : ∀ x ∈ ns, PyData.strOk x = true) : SeqAt.shaped (.list (ns.map PyData.str)) = true := by
  obtain ⟨h1, h2⟩ := strs_lay h
  refine shaped_of ?_ ?_
  · simpa [PyData.canLay0] using h1
  · show PyData.depthAll (ns.map PyData.str) + 1 ≤ 64
    omega
theorem dp_strs {K : PySem.W.Frag} {H : Hp} {l : Addr} {ns : List Str} (h : H l = some (.lst (ns.map V.str))) : Dp K H (.ref l) (.list (ns.map PyData.str)) := by
  refine .lst (SqL.of h) ?_
  clear h
  induction ns with
  | nil => exact .nil
  | cons x ns ih => exact .cons (.str x) ih
/-! ### rows of names out of tuples -/
def At1 (ds : List PyData) (ns : List Str) : Prop := ds.length = ns.length ∧ ∀ (i : Nat) (d : PyData), ds[i]? = some d → ∃ (d0 : PyData) (x : Str) (r : List PyData), d = PyData.tuple (d0 :: .str x :: r) ∧ ns[i]? = some x
theorem comp_at1 {n16 : Nat} {K : PySem.W.Frag} {a D : Addr} {xs : List V} {ds : List PyData} {ns : List Str} {H1 : Hp} {σ : L2.St} {Qd : Hp → Prop} (ha : SqT K H1 a xs) (hv : Rps K H1 xs ds) (hat : At1 ds ns) (hD : H1 D = none) (hl : ns.length ≤ 1000)
    (hw : ∀ v, wipe ((wipe σ [n16]).set n16 (some v)) [n16] = wipe σ [n16]) (hg : ∀ v : V, ((wipe σ [n16]).set n16 (some v))[n16]? = some (some v)) (hd : ∀ H, Same H1 H → H D = some (.lst (ns.map V.str)) → Qd H) :
    ∃ W : Nat → Nat → Hp → Prop, (∃ m, W 0 m (upd H1 D (.lst []))) ∧ ∀ i m H, W i m H → ((Itt K a).stop i H ∧ Qd H) ∨ ((Itt K a).go i H ∧ ∃ Nx : Hp → Prop, (∀ H', Nx H' → ∃ m', m' < m ∧ W (i + 1) m' H') ∧ ∀ x H', (Itt K a).yld i H x H' →
      gName n16 x (wipe σ [n16]) H' fun σ2 H2 => wipe σ2 [n16] = wipe σ [n16] ∧ tYes σ2 H2 fun b H3 => if b = true then tOp (rIxT K) (tVar n16) (tC (.int 1)) σ2 H3 fun y H4 => ∃ acc, H4 D = some (.lst acc) ∧ acc.length < sizeLine ∧ Nx (upd H4 D (.lst (acc ++ [y]))) else Nx H3) := by
  have hlen : xs.length = ns.length := hv.len.trans hat.1
  refine lc_tup (K := K) (a := a) (xs := xs) (fun i H => Same H1 H ∧ H D = some (.lst ((ns.take i).map V.str))) ⟨Cm.same_new hD, upd_same⟩ (fun i H _ p => Cm.sameT p.1 ha) (fun i x H hx p => ?_) fun H p => ?_
  · obtain ⟨s, hH⟩ := p
    obtain ⟨d, hdd, rx⟩ := rps_at hv hx
    obtain ⟨d0, y, r, rfl, hy⟩ := hat.2 i d hdd
    obtain ⟨b, us, rfl, hb, hus⟩ := rx.tup_inv
    obtain ⟨v0, us, rfl, r0, hus⟩ := hus.cons_inv
    obtain ⟨v1, us, rfl, r1, hus⟩ := hus.cons_inv
    cases r1.str_inv
    refine ⟨hw _, ?_⟩
    refine ⟨_, hg _, b, _, _, _, rfl, rfl, Cm.sameT s hb, at1, _, hH, Cm.smallL (by rw [List.length_map, List.length_take]; omega), Cm.same_mut s hD, ?_⟩
    rw [upd_same, List.take_succ, hy, List.map_append]
    rfl
  · rw [hlen, List.take_length] at p
    exact hd H p.1 p.2
def At0 (ds : List PyData) (ns : List Str) : Prop := ds.length = ns.length ∧ ∀ (i : Nat) (d : PyData), ds[i]? = some d → ∃ x y : Str, d = PyData.tuple [.str x, .str y] ∧ ns[i]? = some x
theorem comp_at0 {n17 n18 : Nat} {K : PySem.W.Frag} {a D : Addr} {xs : List V} {ds : List PyData} {ns : List Str} {H1 : Hp} {σ : L2.St} {Qd : Hp → Prop} (ha : SqT K H1 a xs) (hv : Rps K H1 xs ds) (hat : At0 ds ns) (hD : H1 D = none) (hl : ns.length ≤ 1000)
    (hw : ∀ u v, wipe (((wipe σ [n17, n18]).set n17 (some u)).set n18 (some v)) [n17, n18] = wipe σ [n17, n18]) (hg : ∀ u v : V, (((wipe σ [n17, n18]).set n17 (some u)).set n18 (some v))[n17]? = some (some u)) (hd : ∀ H, Same H1 H → H D = some (.lst (ns.map V.str)) → Qd H) :
    ∃ W : Nat → Nat → Hp → Prop, (∃ m, W 0 m (upd H1 D (.lst []))) ∧ ∀ i m H, W i m H → ((Itt K a).stop i H ∧ Qd H) ∨ ((Itt K a).go i H ∧ ∃ Nx : Hp → Prop, (∀ H', Nx H' → ∃ m', m' < m ∧ W (i + 1) m' H') ∧ ∀ x H', (Itt K a).yld i H x H' →
      gTup K 2 (gCons (gName n17) (gCons (gName n18) gNil)) x (wipe σ [n17, n18]) H' fun σ2 H2 => wipe σ2 [n17, n18] = wipe σ [n17, n18] ∧ tYes σ2 H2 fun b H3 => if b = true then tVar n17 σ2 H3 fun y H4 => ∃ acc, H4 D = some (.lst acc) ∧ acc.length < sizeLine ∧ Nx (upd H4 D (.lst (acc ++ [y]))) else Nx H3) := by
  have hlen : xs.length = ns.length := hv.len.trans hat.1
  refine lc_tup (K := K) (a := a) (xs := xs) (fun i H => Same H1 H ∧ H D = some (.lst ((ns.take i).map V.str))) ⟨Cm.same_new hD, upd_same⟩ (fun i H _ p => Cm.sameT p.1 ha) (fun i x H hx p => ?_) fun H p => ?_
  · obtain ⟨s, hH⟩ := p
    obtain ⟨d, hdd, rx⟩ := rps_at hv hx
    obtain ⟨y, z, rfl, hy⟩ := hat.2 i d hdd
    obtain ⟨b, us, rfl, hb, hus⟩ := rx.tup_inv
    obtain ⟨v0, us, rfl, r0, hus⟩ := hus.cons_inv
    obtain ⟨v1, us, rfl, r1, hus⟩ := hus.cons_inv
    cases hus.nil_inv
    cases r0.str_inv
    refine ⟨b, _, rfl, Cm.sameT s hb, rfl, _, _, rfl, _, _, rfl, rfl, hw _ _, ?_⟩
    refine ⟨_, hg _ _, _, hH, Cm.smallL (by rw [List.length_map, List.length_take]; omega), Cm.same_mut s hD, ?_⟩
    rw [upd_same, List.take_succ, hy, List.map_append]
    rfl
  · rw [hlen, List.take_length] at p
    exact hd H p.1 p.2
/-! ### what stands in the row of blocks -/
/-- a row of names: a list, or the empty tuple -/
def Sv (K : PySem.W.Frag) (H : Hp) (v : V) (ns : List Str) : Prop := ∃ a, v = .ref a ∧ (H a = some (.lst (ns.map V.str)) ∨ (ns = [] ∧ SqT K H a []))
structure BD where
  ps : List Str
  fs : List Str
  b : Ss
structure BD.Ok (x : BD) : Prop where
  ok : OkP (x.fs ++ x.ps) x.b
  so : ∀ y ∈ x.ps, PyData.strOk y = true
  pl : x.ps.length ≤ 10
  fl : x.fs.length ≤ 10
def BE (K : PySem.W.Frag) (H : Hp) (v : V) : Prop := ∃ (p : Addr) (pv bv fv : V) (x : BD), v = .ref p ∧ SqT K H p [pv, bv, fv] ∧ Sv K H pv x.ps ∧ Rp K H bv (.tuple x.b.ds) ∧ Sv K H fv x.fs ∧ x.Ok
theorem Sv.same {K : PySem.W.Frag} {H H' : Hp} {v : V} {ns : List Str} (h : Sv K H v ns) (s : Same H H') : Sv K H' v ns := by
  obtain ⟨a, e, h | ⟨h1, h2⟩⟩ := h
  · exact ⟨a, e, .inl (s _ _ h)⟩
  · exact ⟨a, e, .inr ⟨h1, Cm.sameT s h2⟩⟩
theorem BE.same {K : PySem.W.Frag} {H H' : Hp} {v : V} (h : BE K H v) (s : Same H H') : BE K H' v := by
  obtain ⟨p, pv, bv, fv, x, e, h1, h2, h3, h4, h5⟩ := h
  exact ⟨p, pv, bv, fv, x, e, Cm.sameT s h1, h2.same s, h3.keep (Same.tups s), h4.same s, h5⟩
theorem Sv.push {K : PySem.W.Frag} {H : Hp} {bl : Addr} {vs vs' : List V} {v : V} {ns : List Str} (h : Sv K H v ns) (hb : H bl = some (.lst vs)) (hr : ∀ v ∈ vs, ∃ a, v = .ref a) (hn : vs ≠ []) : Sv K (upd H bl (.lst vs')) v ns := by
  have tp : Tups H (upd H bl (.lst vs')) := fun q x e no => by
    refine (upd_ne fun z => ?_).trans e
    rw [z, hb] at e
    exact no vs (Option.some.inj e).symm
  obtain ⟨a, e, h | ⟨h1, h2⟩⟩ := h
  · refine ⟨a, e, .inl ((upd_ne fun z => ?_).trans h)⟩
    rw [z, hb] at h
    have e2 : vs = ns.map V.str := by cases h; rfl
    cases ns with
    | nil => exact hn e2
    | cons y ns =>
      obtain ⟨a2, ha2⟩ := hr (.str y) (by rw [e2]; exact List.mem_cons_self)
      cases ha2
  · exact ⟨a, e, .inr ⟨h1, tp.sqt h2⟩⟩
theorem BE.push {K : PySem.W.Frag} {H : Hp} {bl : Addr} {vs vs' : List V} {v : V} (h : BE K H v) (hb : H bl = some (.lst vs)) (hr : ∀ v ∈ vs, BE K H v) (hn : vs ≠ []) : BE K (upd H bl (.lst vs')) v := by
  have hr2 : ∀ v ∈ vs, ∃ a, v = .ref a := fun v hv => by
    obtain ⟨p, _, _, _, _, e, _⟩ := hr v hv
    exact ⟨p, e⟩
  have tp : Tups H (upd H bl (.lst vs')) := fun q x e no => by
    refine (upd_ne fun z => ?_).trans e
    rw [z, hb] at e
    exact no vs (Option.some.inj e).symm
  obtain ⟨p, pv, bv, fv, x, e, h1, h2, h3, h4, h5⟩ := h
  exact ⟨p, pv, bv, fv, x, e, tp.sqt h1, h2.push hb hr2 hn, h3.keep tp, h4.push hb hr2 hn, h5⟩
theorem Sv.sq {K : PySem.W.Frag} {H : Hp} {v : V} {ns : List Str} (h : Sv K H v ns) : ∃ a, v = .ref a ∧ (SqL K H a (ns.map V.str) ∨ SqT K H a (ns.map V.str)) := by
  obtain ⟨a, e, h | ⟨h1, h2⟩⟩ := h
  · exact ⟨a, e, .inl (SqL.of h)⟩
  · subst h1
    exact ⟨a, e, .inr h2⟩
/-! ### the dict of places -/
mutual
theorem Rp.keepS {K : PySem.W.Frag} {H H' : Hp} (k : ∀ a xs, SqT K H a xs → SqT K H' a xs) : ∀ {v : V} {d : PyData}, Rp K H v d → Rp K H' v d
  | _, _, .non => .non
  | _, _, .bl b => .bl b
  | _, _, .int i => .int i
  | _, _, .str x => .str x
  | _, _, .tup h r => .tup (k _ _ h) (Rps.keepS k r)
theorem Rps.keepS {K : PySem.W.Frag} {H H' : Hp} (k : ∀ a xs, SqT K H a xs → SqT K H' a xs) : ∀ {vs : List V} {ds : List PyData}, Rps K H vs ds → Rps K H' vs ds
  | _, _, .nil => .nil
  | _, _, .cons h r => .cons (Rp.keepS k h) (Rps.keepS k r)
end
theorem dict_sqt {K : PySem.W.Frag} {H : Hp} {pd : Addr} {kvs kvs' : List (Key × V)} (h : H pd = some (.dK kvs)) : ∀ a xs, SqT K H a xs → SqT K (upd H pd (.dK kvs')) a xs := fun a xs q => by
  have ne : ∀ o, H a = some o → (∀ k, o ≠ .dK k) → upd H pd (.dK kvs') a = some o := fun o e no => (upd_ne fun z => by
    rw [z, h] at e
    exact no kvs (Option.some.inj e).symm).trans e
  rcases q with (q | ⟨o, q⟩) | q
  · exact .inl (.inl (ne _ q fun _ e => by cases e))
  · exact .inl (.inr ⟨o, ne _ q fun _ e => by cases e⟩)
  · exact .inr q
structure PlI (K : PySem.W.Frag) (H : Hp) (pd : Addr) (n : Nat) (N : List Str) (pl : Plc) (kvs : List (Key × V)) : Prop where
  h : H pd = some (.dK kvs)
  nd : (kvs.map (·.1)).Nodup
  calm : ∀ p ∈ kvs, DictN.calmB p.2 = true
  len : kvs.length ≤ n
  ok : PlOk pl
  at_ : ∀ x ∈ N, ∃ v, valV kvs (.inr x : Key) = some v ∧ Rp K H v (.tuple [.str (pl x).1, .int (pl x).2])
theorem PlI.same {K : PySem.W.Frag} {H H' : Hp} {pd : Addr} {n : Nat} {N : List Str} {pl : Plc} {kvs : List (Key × V)} (p : PlI K H pd n N pl kvs) (s : Same H H') : PlI K H' pd n N pl kvs :=
  ⟨s _ _ p.h, p.nd, p.calm, p.len, p.ok, fun x hx => by
    obtain ⟨v, h1, h2⟩ := p.at_ x hx
    exact ⟨v, h1, h2.keep (Same.tups s)⟩⟩
theorem PlI.put {K : PySem.W.Frag} {H : Hp} {pd : Addr} {n : Nat} {N : List Str} {pl : Plc} {kvs : List (Key × V)} (p : PlI K H pd n N pl kvs) {q : Addr} {x w : Str} {j : Int} (hq : SqT K H q [.str w, .int j]) (hw : w = "local" ∨ w = "field") :
    PlI K (upd H pd (.dK (putK kvs (.inr x) (.ref q)))) pd (n + 1) (N ++ [x]) (fun y => if y = x then (w, j) else pl y) (putK kvs (.inr x) (.ref q)) := by
  have ks := dict_sqt (K := K) (kvs' := putK kvs (.inr x) (.ref q)) p.h
  refine ⟨upd_same, DictN.nd_put p.nd, fun z hz => ?_, ?_, fun y => ?_, fun y hy => ?_⟩
  · rcases DictN.mem_put hz with h | h
    · exact p.calm z h
    · rw [h]
      rfl
  · have := p.len
    have := DictN.len_put (kvs := kvs) (k := (.inr x : Key)) (v := .ref q)
    omega
  · by_cases e : y = x
    · rw [if_pos e]
      exact hw
    · rw [if_neg e]
      exact p.ok y
  · rw [valV_put]
    by_cases e : y = x
    · rw [if_pos (congrArg Sum.inr e), if_pos e]
      exact ⟨_, rfl, .tup (ks _ _ hq) (.cons (.str w) (.cons (.int j) .nil))⟩
    · rw [if_neg fun z => e (Sum.inr.inj z), if_neg e]
      rcases List.mem_append.mp hy with h | h
      · obtain ⟨v, h1, h2⟩ := p.at_ y h
        exact ⟨v, h1, K21.Rp.keepS ks h2⟩
      · exact absurd (List.mem_singleton.mp h) e
theorem PlI.new {K : PySem.W.Frag} {H : Hp} {pd : Addr} (np : H pd = none) : PlI K (upd H pd (.dK [])) pd 0 [] (fun _ => ("local", 0)) [] :=
  ⟨upd_same, List.nodup_nil, fun p h => (nomatch h), Nat.le_refl 0, fun _ => .inl rfl, fun x h => (nomatch h)⟩
theorem PlI.pl {K : PySem.W.Frag} {H : Hp} {pd : Addr} {n : Nat} {N : List Str} {pl : Plc} {kvs : List (Key × V)} (p : PlI K H pd n N pl kvs) : PlAt K H pd pl N :=
  ⟨kvs, p.h, fun x hx => ⟨by rcases p.ok x with e | e <;> rw [e] <;> decide, p.at_ x hx⟩⟩
/-! ### a block from a place on -/
def Ss.dropN : Ss → Nat → Ss
  | b, 0 => b
  | .nil, _ + 1 => .nil
  | .cons _ b, n + 1 => Ss.dropN b n
theorem dropN_ds : ∀ (b : Ss) (n : Nat), (Ss.dropN b n).ds = b.ds.drop n
  | b, 0 => by cases b <;> rfl
  | .nil, _ + 1 => rfl
  | .cons s b, n + 1 => dropN_ds b n
theorem dropN_all : ∀ (b : Ss) (n : Nat), (b.wf = true → (Ss.dropN b n).wf = true) ∧ (∀ x ∈ (Ss.dropN b n).uses, x ∈ b.uses) ∧ (Ss.dropN b n).dep ≤ b.dep ∧ (Ss.dropN b n).sz ≤ b.sz ∧ (PyData.canLayAll0 b.ds = true → PyData.canLayAll0 (Ss.dropN b n).ds = true)
  | .nil, 0 => ⟨id, fun _ h => h, Nat.le_refl _, Nat.le_refl _, id⟩
  | .cons _ _, 0 => ⟨id, fun _ h => h, Nat.le_refl _, Nat.le_refl _, id⟩
  | .nil, _ + 1 => ⟨id, fun _ h => h, Nat.le_refl _, Nat.le_refl _, id⟩
  | .cons s b, n + 1 => by
    obtain ⟨h1, h2, h3, h4, h5⟩ := dropN_all b n
    refine ⟨fun h => h1 (Bool.and_eq_true_iff.mp h).2, fun x hx => List.mem_append_right _ (h2 x hx), ?_, ?_, fun h => h5 (lay_c h).2⟩
    · show (Ss.dropN b n).dep ≤ max s.dep b.dep
      omega
    · show (Ss.dropN b n).sz ≤ s.sz + b.sz
      omega
theorem at_map {ns : List Str} {j : Nat} {x : Str} (h : ns[j]? = some x) : atI (ns.map V.str) (0 + (j : Int)) = some (.str x) := by
  rw [Int.zero_add]
  exact atI_nat (by rw [List.getElem?_map, h]; rfl)
theorem take_put {ns : List Str} {j : Nat} {x : Str} (h : ns[j]? = some x) : ns.take (j + 1) = ns.take j ++ [x] := by
  rw [List.take_succ, h]
  rfl
/-! ### rows of images -/
abbrev pl0 : Plc := fun _ => ("local", 0)
def plGo (w : Str) : List Str → Nat → Plc → Plc
  | [], _, pl => pl
  | x :: xs, j, pl => plGo w xs (j + 1) fun y => if y = x then (w, (j : Int)) else pl y
theorem plGo_snoc {w x : Str} : ∀ {xs : List Str} {j : Nat} {pl : Plc}, plGo w (xs ++ [x]) j pl = fun y => if y = x then (w, ((j + xs.length : Nat) : Int)) else plGo w xs j pl y
  | [], j, pl => rfl
  | z :: xs, j, pl => by
    show plGo w (xs ++ [x]) (j + 1) _ = _
    rw [plGo_snoc (xs := xs) (j := j + 1)]
    funext y
    have e : j + 1 + xs.length = j + (z :: xs).length := by
      rw [List.length_cons]
      omega
    rw [e]
    rfl
theorem plGo_take {w x : Str} {xs : List Str} {j : Nat} {pl : Plc} (h : xs[j]? = some x) : plGo w (xs.take (j + 1)) 0 pl = fun y => if y = x then (w, (j : Int)) else plGo w (xs.take j) 0 pl y := by
  have hl : (xs.take j).length = j := by
    rw [List.length_take]
    have := (List.getElem?_eq_some_iff.mp h).1
    omega
  rw [take_put h, plGo_snoc, Nat.zero_add, hl]
def plOf (fs ns : List Str) : Plc := plGo "local" ns 0 (plGo "field" fs 0 pl0)
def rowD (nm : Str) (ps fs : List Str) (b : Ss) : PyData := .tuple [.str nm, .int ps.length, .int (ps ++ b.lets).length, .tuple (b.code (plOf fs (ps ++ b.lets)) 0)]
/-- the dict of fields of a maker, or an empty one -/
def FdI (K : PySem.W.Frag) (H : Hp) (v : V) (fs : List Str) : Prop := ∃ fd kvs, v = .ref fd ∧ PlI K H fd fs.length fs (plGo "field" fs 0 pl0) kvs
theorem FdI.same {K : PySem.W.Frag} {H H' : Hp} {v : V} {fs : List Str} (h : FdI K H v fs) (s : Same H H') : FdI K H' v fs := by
  obtain ⟨fd, kvs, e, p⟩ := h
  exact ⟨fd, kvs, e, p.same s⟩
structure BOk (fs ps : List Str) (b : Ss) : Prop where
  ok : OkP (fs ++ ps) b
  so : ∀ y ∈ ps, PyData.strOk y = true
  pl : ps.length ≤ 10
  fl : fs.length ≤ 10
theorem BOk.uses {fs ps : List Str} {b : Ss} (o : BOk fs ps b) : ∀ y ∈ b.uses, y ∈ fs ++ (ps ++ b.lets) := fun y hy => by
  rcases o.ok.us y hy with h | h
  · rcases List.mem_append.mp h with h | h
    · exact List.mem_append_left _ h
    · exact List.mem_append_right _ (List.mem_append_left _ h)
  · exact List.mem_append_right _ (List.mem_append_right _ h)
theorem BOk.nl {fs ps : List Str} {b : Ss} (o : BOk fs ps b) : (ps ++ b.lets).length ≤ 6000 := by
  have h1 := o.pl
  have h2 := o.ok.sz
  have h3 := Ss.lets_sz b
  rw [List.length_append]
  omega
def spCr (K : PySem.W.Frag) : Sp := fun vs H Q _ => ∃ (nm : Str) (lp : Addr) (ps : List Str) (v : V) (b : Ss) (f : V) (fs : List Str), vs = [.str nm, .ref lp, v, f] ∧ H lp = some (.lst (ps.map V.str)) ∧ Rp K H v (.tuple b.ds) ∧ FdI K H f fs ∧ BOk fs ps b ∧
  ∀ (H' : Hp) (u : V), Same H H' → Rp K H' u (rowD nm ps fs b) → Q u H'
theorem ok_crow (T : Txt K mg w a) : FnOk P w K mg base CX0 85 (He.ga K "_compiled_row") a.d_compiled_row ["name", "params", "block", "fields"] (spCr K) := by
  have gcb := ok_compiled (P := P) (w := w) (base := base) T
  have gnm := ok_names (P := P) (w := w) (base := base) T
  refine T.F_compiled_row.ok sc_compiled_row (fun vs H Q E h => ?_) (fun cdv A outer s H vs Q E hr h => ?_)
  · obtain ⟨_, _, _, _, _, _, _, rfl, _⟩ := h
    rfl
  obtain ⟨nm, lp, ps, v, b, f, fs, rfl, hlp, rb, hf, ob, q⟩ := h
  refine ⟨_, PSs.nox (pss_cons (ps_set (i := 4) sc_compiled_row.nd rfl (Or.inl rfl) (pe_call gnm (hr.mono (by omega)) (by rfl) T.g_local_names T.F_local_names.kp T.b_local_names .nil pass0 (pa_cons (pv 1) (pa_cons (pv 2) pa_nil))))
      (pss_cons (ps_set (i := 5) sc_compiled_row.nd rfl (Or.inl rfl) (pe_callTy call_dictD (by rfl) T.g_dict boot_dict (pa_cons (pv 3) pa_nil)))
      (pss_cons (ps_for PassesOwn.never rfl (pi_enum (by rfl) T.g_enumerate (pa_cons (pv 4) pa_nil)) (pg_tup (by rfl) (pgs_cons (pg_name (i := 6) sc_compiled_row.nd rfl (Or.inl rfl)) (pgs_cons (pg_name (i := 7) sc_compiled_row.nd rfl (Or.inl rfl)) pgs_nil)))
      (pss_one (ps_dput (hu_of hr) (pv 5) (pv 7) (pe_tup (pa_cons pe_str (pa_cons (pv 6) pa_nil))) rfl)))
      (pss_one (ps_ret (pe_tup (pa_cons (pv 0) (pa_cons (pe_callB call_len_seq (by rfl) T.g_len boot_len (pa_cons (pv 1) pa_nil)) (pa_cons (pe_callB call_len_seq (by rfl) T.g_len boot_len (pa_cons (pv 4) pa_nil)) (pa_cons (pe_call gcb (hr.mono (by omega)) (by rfl) T.g_compiled_block T.F_compiled_block.kp T.b_compiled_block .nil pass0 (pa_cons (pv 5) (pa_cons (pv 2) pa_nil))) pa_nil)))))))))), ?_⟩
  have bdep := ob.ok.dp
  have bsz := ob.ok.sz
  have plen := ob.pl
  have flen := ob.fl
  have nl := ob.nl
  -- inner
  refine ⟨_, rfl, _, rfl, lp, ps, v, b, rfl, hlp, by omega, rb, ob.ok.wf, by omega, by omega, fun H1 p1 s1 h1 => ?_⟩
  -- names
  obtain ⟨fd, kvs, rfl, pi⟩ := hf.same s1
  refine ⟨_, rfl, fd, kvs, rfl, .inl pi.h, fun pk npk => ?_⟩
  have sk := Cm.same_new (o := .dK kvs) npk
  have pik : PlI K (upd H1 pk (.dK kvs)) pk fs.length fs (plGo "field" fs 0 pl0) kvs := by
    have pis := pi.same sk
    exact ⟨upd_same, pis.nd, pis.calm, pis.len, pis.ok, pis.at_⟩
  have hp1 := sk _ _ h1
  have s2 := s1.trans sk
  -- for k, local in enumerate(inner)
  refine ⟨_, rfl, p1, _, rfl, SqL.of hp1, ?_⟩
  generalize hNS : ps ++ b.lets = NS at h1 hp1 nl
  refine for_it (walk_enum (K := K) (a := p1) (xs := NS.map V.str)) (fun j σ H3 => ∃ (x6 x7 : Option V) (kvs : List (Key × V)), σ = [some (.str nm), some (.ref lp), some v, some (.ref fd), some (.ref p1), some (.ref pk), x6, x7] ∧ Same H1 H3 ∧ PlI K H3 pk (fs.length + j) (fs ++ NS.take j) (plGo "local" (NS.take j) 0 (plGo "field" fs 0 pl0)) kvs)
    ⟨_, _, kvs, rfl, sk, by rw [List.take_zero, List.append_nil]; exact pik⟩ (fun j σ H3 _ ⟨_, _, _, _, s3, _⟩ => SqL.of (s3 _ _ h1)) (fun j x σ H3 H4 hj ⟨x6, x7, kvs, e, s3, pj⟩ y => ?_) fun σ H3 ⟨x6, x7, kvs, e, s3, pj⟩ => ?_
  · subst e
    obtain ⟨t, x, y, rfl, nt, rfl, ex, ey⟩ := y
    cases ex
    have hj' : j < NS.length := by
      have h := hj
      rw [List.length_map] at h
      exact h
    have exn := List.getElem?_eq_getElem hj'
    have ey : (NS.map V.str)[j]? = some y := ey
    rw [List.getElem?_map] at ey
    generalize NS[j] = xn at exn
    rw [exn] at ey
    cases ey
    have st := Cm.same_new (o := .tup [.int (j : Nat), .str xn]) nt
    refine ⟨t, _, rfl, Cm.sqt_new, rfl, _, _, rfl, _, _, rfl, rfl, ?_⟩
    refine ⟨_, rfl, Cm.small (by show 2 ≤ 100000; decide), fun r nr => ?_⟩
    have sr := st.trans (Cm.same_new (o := .tup [.str "local", .int (j : Nat)]) nr)
    have pr := pj.same sr
    refine ⟨_, rfl, _, rfl, pk, _, rfl, DPut.k (k := .inr xn) pr.h (Cm.smallL (by have := pr.len; omega)), ?_⟩
    have p2 := pr.put (x := xn) (w := "local") (j := (j : Int)) (q := r) Cm.sqt_new (.inl rfl)
    rw [List.append_assoc, ← take_put exn] at p2
    rw [← plGo_take exn] at p2
    exact ⟨_, _, _, rfl, Cm.same_mut (s3.trans sr) npk, p2⟩
  · subst e
    rw [List.length_map, List.take_length] at pj
    have rb3 := rb.keep (Same.tups (s1.trans s3))
    have e1 : plGo "local" NS 0 (plGo "field" fs 0 pl0) = plOf fs NS := rfl
    rw [e1] at pj
    refine ⟨_, rfl, _, rfl, lp, _, rfl, .inl (SqL.of (s3 _ _ (s1 _ _ hlp))), ?_⟩
    refine ⟨_, rfl, p1, _, rfl, .inl (SqL.of (s3 _ _ h1)), ?_⟩
    refine ⟨_, rfl, _, rfl, pk, v, b, plOf fs NS, fs ++ NS, rfl, pj.pl, rb3, ob.ok.wf, (by rw [← hNS]; exact ob.uses), by omega, by omega, fun H5 u5 s5 r5 => ?_⟩
    refine ⟨Cm.small (by show 4 ≤ 100000; decide), fun p6 n6 => ?_⟩
    refine q _ _ ((s1.trans s3).trans (s5.trans (Cm.same_new n6))) ?_
    rw [rowD, hNS, List.length_map, List.length_map]
    exact made n6 (.cons (.str nm) (.cons (.int _) (.cons (.int _) (.cons r5 .nil))))
def spLr (K : PySem.W.Frag) : Sp := fun vs H Q _ => ∃ (nm : Str) (pv : V) (pd : List PyData) (ps : List Str) (f v : V) (b : Ss) (fs : List Str), vs = [.str nm, pv, f, v] ∧ Rp K H pv (.tuple pd) ∧ At0 pd ps ∧ Sv K H f fs ∧ Rp K H v (.tuple b.ds) ∧ BOk fs ps b ∧
  ∀ (H' : Hp) (u : V), Same H H' → Rp K H' u (rowD nm ps fs b) → Q u H'
theorem ok_lrow (T : Txt K mg w a) : FnOk P w K mg base CX0 29 (He.ga K "_law_row") a.d_lw_row ["name", "params", "fields", "block"] (spLr K) := by
  have glb := ok_lblock (P := P) (w := w) (base := base) T 13 (by decide)
  have gll := ok_llets (P := P) (w := w) (base := base) T 13
  refine T.F_lw_row.ok sc_lw_row (fun vs H Q E h => ?_) (fun cdv A outer s H vs Q E hr h => ?_)
  · obtain ⟨_, _, _, _, _, _, _, _, rfl, _⟩ := h
    rfl
  obtain ⟨nm, pvv, pdd, ps, fvv, bv, b, fs, rfl, rpv, hat, hfv, rb, ob, q⟩ := h
  refine ⟨_, PSs.nox (pss_cons (ps_set (i := 4) sc_lw_row.nd rfl (Or.inl rfl) (pe_op op_cat (pe_lc (own := [("one", 7), ("kind", 8)]) (g := gTup K 2 (gCons (gName 7) (gCons (gName 8) gNil))) (tt := tYes)  (by rfl) sc_lw_row.nd (pi_tup (pv 1)) (blkOk_by (own := [("one", 7), ("kind", 8)]) (N := N_lw_row) (sc := defScope s_lw_row) (by decide +kernel)) (fun _ _ _ _ _ => (pg_tup (by rfl) (pgs_cons (pg_name (i := 7) sc_lw_row.nd rfl (Or.inl rfl)) (pgs_cons (pg_name (i := 8) sc_lw_row.nd rfl (Or.inl rfl)) pgs_nil)))) (fun _ _ _ _ _ => pts_nil) (fun _ _ _ _ _ => (pv 7))) (pe_call gll (hr.mono (by omega)) (by rfl) T.g_lw_lets T.F_lw_lets.kp T.b_lw_lets .nil pass0 (pa_cons (pv 3) pa_nil))))
      (pss_cons (ps_set (i := 5) sc_lw_row.nd rfl (Or.inl rfl) pe_dnewK)
      (pss_cons (ps_for PassesOwn.never rfl (pi_range1 (by rfl) T.g_range (pa_cons (pe_callB call_len_seq (by rfl) T.g_len boot_len (pa_cons (pv 2) pa_nil)) pa_nil)) (pg_name (i := 6) sc_lw_row.nd rfl (Or.inl rfl))
      (pss_one (ps_dput (hu_of hr) (pv 5) (pe_ix ix_list (pv 2) (pv 6) (fun _ _ => rfl)) (pe_tup (pa_cons pe_str (pa_cons (pv 6) pa_nil))) rfl)))
      (pss_cons (ps_for PassesOwn.never rfl (pi_range1 (by rfl) T.g_range (pa_cons (pe_callB call_len_seq (by rfl) T.g_len boot_len (pa_cons (pv 4) pa_nil)) pa_nil)) (pg_name (i := 6) sc_lw_row.nd rfl (Or.inl rfl))
      (pss_one (ps_dput (hu_of hr) (pv 5) (pe_ix ix_list (pv 4) (pv 6) (fun _ _ => rfl)) (pe_tup (pa_cons pe_str (pa_cons (pv 6) pa_nil))) rfl)))
      (pss_one (ps_ret (pe_tup (pa_cons (pv 0) (pa_cons (pe_callB call_len_seq (by rfl) T.g_len boot_len (pa_cons (pv 1) pa_nil)) (pa_cons (pe_callB call_len_seq (by rfl) T.g_len boot_len (pa_cons (pv 4) pa_nil)) (pa_cons (pe_callTy call_tuple_of (by rfl) T.g_tuple boot_tuple (pa_cons (pe_call glb (hr.mono (by omega)) (by rfl) T.g_lw_block_code T.F_lw_block_code.kp T.b_lw_block_code .nil pass0 (pa_cons (pv 3) (pa_cons (pv 5) (pa_cons pe_int pa_nil)))) pa_nil)) pa_nil))))))))))), ?_⟩
  have bdep := ob.ok.dp
  have bsz := ob.ok.sz
  have bwf := ob.ok.wf
  have plen := ob.pl
  have flen := ob.fl
  have nll := ob.nl
  have lsz := Ss.lets_sz b
  obtain ⟨cq, xq, rfl, hcq, hxq⟩ := rpv.tup_inv
  -- names
  refine ⟨_, rfl, cq, rfl, ⟨_, hcq⟩, fun D nD => comp_at0 hcq hxq hat nD (by omega) (fun _ _ => rfl) (fun _ _ => rfl) fun H1 s1 hD => ?_⟩
  refine ⟨_, rfl, bv, b, rfl, rb.keep (Same.tups s1), bwf, by omega, by omega, fun H8 p8 s8 n8 h8 => ?_⟩
  refine ⟨D, p8, _, _, rfl, rfl, s8 _ _ hD, h8, (by rw [sizeLine_eq]; simp only [List.length_map]; omega), fun nl nnl => ?_⟩
  have t9 := (s1.trans s8).trans (Cm.same_new (o := .lst (ps.map V.str ++ b.lets.map V.str)) nnl)
  have hnl : upd H8 nl (.lst (ps.map V.str ++ b.lets.map V.str)) nl = some (.lst ((ps ++ b.lets).map V.str)) := by
    rw [upd_same, List.map_append]
  generalize upd H8 nl (.lst (ps.map V.str ++ b.lets.map V.str)) = H9 at t9 hnl ⊢
  generalize hNS : ps ++ b.lets = NS at hnl nll
  -- places
  refine fun pd npd => ?_
  have rb9 := rb.keep (Same.tups t9)
  have hfv9 := hfv.same t9
  obtain ⟨af, rfl, haf9⟩ := id hfv9.sq
  have sP := Cm.same_new (o := .dK []) npd
  refine ⟨_, rfl, af, _, rfl, (haf9.imp sP.seq (Cm.sameT sP)), _, rfl, (by rw [List.length_map]; omega), (by rw [List.length_map]; omega), ?_⟩
  refine for_range (fun j σ H10 => ∃ (x6 x7 x8 : Option V) (kvs : List (Key × V)), σ = [some (.str nm), some (.ref cq), some (.ref af), some bv, some (.ref nl), some (.ref pd), x6, x7, x8] ∧ Same H9 H10 ∧ PlI K H10 pd j (fs.take j) (plGo "field" (fs.take j) 0 pl0) kvs)
    ⟨_, _, _, _, rfl, sP, PlI.new npd⟩ (fun j σ H10 hj ⟨x6, x7, x8, kvs, e, s10, pi⟩ => ?_) fun σ H10 ⟨x6, x7, x8, kvs, e, s10, pi⟩ => ?_
  · subst e
    have hj' : j < fs.length := by
      have h := hj
      rw [List.length_map] at h
      omega
    have ex := List.getElem?_eq_getElem hj'
    generalize fs[j] = xn at ex
    have haf10 : SqL K H10 af (fs.map V.str) := by
      obtain ⟨a2, e2, h | ⟨h1, h2⟩⟩ := hfv9.same s10
      · cases e2
        exact SqL.of h
      · subst h1
        exact absurd hj' (Nat.not_lt_zero _)
    refine ⟨_, rfl, Cm.small (by show 2 ≤ 100000; decide), fun q nq => ?_⟩
    have sq := Cm.same_new (o := .tup [.str "field", .int (0 + (j : Int))]) nq
    have piq := pi.same sq
    refine ⟨_, rfl, _, rfl, _, rfl, af, _, _, _, rfl, rfl, sq.seq haf10, at_map ex, pd, _, rfl, DPut.k (k := .inr xn) piq.h (Cm.smallL (by have := piq.len; omega)), ?_⟩
    have pi2 := piq.put (x := xn) (w := "field") (j := 0 + (j : Int)) (q := q) Cm.sqt_new (.inr rfl)
    rw [← take_put ex] at pi2
    rw [show (fun y => if y = xn then (("field" : Str), 0 + (j : Int)) else plGo "field" (fs.take j) 0 pl0 y) = plGo "field" (fs.take (j + 1)) 0 pl0 by rw [Int.zero_add, plGo_take ex]] at pi2
    exact ⟨_, _, _, _, rfl, Cm.same_mut (s10.trans sq) npd, pi2⟩
  subst e
  rw [List.length_map] at pi
  have efs : (fs.length : Int).toNat = fs.length := Int.toNat_natCast _
  rw [efs, List.take_length] at pi
  -- for j in range(len(names))
  refine ⟨_, rfl, nl, _, rfl, .inl (SqL.of (s10 _ _ hnl)), _, rfl, (by rw [List.length_map]; omega), (by rw [List.length_map]; omega), ?_⟩
  refine for_range (fun j σ H11 => ∃ (x6 x7 x8 : Option V) (kvs : List (Key × V)), σ = [some (.str nm), some (.ref cq), some (.ref af), some bv, some (.ref nl), some (.ref pd), x6, x7, x8] ∧ Same H9 H11 ∧ PlI K H11 pd (fs.length + j) (fs ++ NS.take j) (plGo "local" (NS.take j) 0 (plGo "field" fs 0 pl0)) kvs)
    ⟨x6, x7, x8, kvs, rfl, s10, (by rw [List.take_zero, List.append_nil]; exact pi)⟩ (fun j σ H11 hj ⟨x6, x7, x8, kvs, e, s11, pi⟩ => ?_) fun σ H11 ⟨x6, x7, x8, kvs, e, s11, pi⟩ => ?_
  · subst e
    have hj' : j < NS.length := by
      have h := hj
      rw [List.length_map] at h
      omega
    have ex := List.getElem?_eq_getElem hj'
    generalize NS[j] = xn at ex
    refine ⟨_, rfl, Cm.small (by show 2 ≤ 100000; decide), fun q nq => ?_⟩
    have sq := Cm.same_new (o := .tup [.str "local", .int (0 + (j : Int))]) nq
    have piq := pi.same sq
    refine ⟨_, rfl, _, rfl, _, rfl, nl, _, _, _, rfl, rfl, SqL.of ((s11.trans sq) _ _ hnl), at_map ex, pd, _, rfl, DPut.k (k := .inr xn) piq.h (Cm.smallL (by have := piq.len; omega)), ?_⟩
    have pi2 := piq.put (x := xn) (w := "local") (j := 0 + (j : Int)) (q := q) Cm.sqt_new (.inl rfl)
    rw [List.append_assoc, ← take_put ex] at pi2
    rw [show (fun y => if y = xn then (("local" : Str), 0 + (j : Int)) else plGo "local" (NS.take j) 0 (plGo "field" fs 0 pl0) y) = plGo "local" (NS.take (j + 1)) 0 (plGo "field" fs 0 pl0) by rw [Int.zero_add, plGo_take ex]] at pi2
    exact ⟨_, _, _, _, rfl, Cm.same_mut (s11.trans sq) npd, pi2⟩
  subst e
  rw [List.length_map, Int.toNat_natCast, List.take_length] at pi
  have e1 : plGo "local" NS 0 (plGo "field" fs 0 pl0) = plOf fs NS := rfl
  rw [e1] at pi
  have t11 := t9.trans s11
  refine ⟨_, rfl, _, rfl, cq, _, rfl, .inr (Cm.sameT t11 hcq), ?_⟩
  refine ⟨_, rfl, nl, _, rfl, .inl (SqL.of (s11 _ _ hnl)), ?_⟩
  refine ⟨_, rfl, _, rfl, bv, pd, 0, b, plOf fs NS, fs ++ NS, rfl, pi.pl, rb.keep (Same.tups t11), bwf, (by rw [← hNS]; exact ob.uses), by omega, by omega, fun H14 u14 s14 l14 => ?_⟩
  obtain ⟨l14a, xs14, rfl, h14, r14⟩ := l14
  refine ⟨l14a, xs14, rfl, .inl ⟨SqL.of h14, fun p15 np15 => ?_⟩⟩
  have r15 : Rp K (upd H14 p15 (.tup xs14)) (.ref p15) (.tuple (b.code (plOf fs NS) 0)) := Rp.made np15 r14
  refine ⟨Cm.small (by show 4 ≤ 100000; decide), fun p16 n16 => ?_⟩
  refine q _ _ ((t11.trans s14).trans ((Cm.same_new np15).trans (Cm.same_new n16))) ?_
  have hxl : xq.length = ps.length := hxq.len.trans hat.1
  rw [rowD, hNS, List.length_map, hxl]
  exact made n16 (.cons (.str nm) (.cons (.int _) (.cons (.int _) (.cons r15 .nil))))


/-! ### images of makers -/
/-- the truth of a value -/
def tTr (K : PySem.W.Frag) (ta : TE) : TT := fun σ H Q => ta σ H fun x H' => ∃ k, TruV K x H' k ∧ Q k H'
theorem dc_it {J : It} {n : Nat} {G : Hp → Prop} {Y : Nat → Hp → V → Hp → Prop} (w : Walk J n G Y) {g : TG} {tt : TT} {tk tv : TE} {vs : List Nat} {σ : L2.St} {H1 : Hp} {D : Addr} {Qd : Hp → Prop} (Pv : Nat → Hp → Prop) (h0 : Pv 0 (upd H1 D (.dK []))) (hG : ∀ i H, i ≤ n → Pv i H → G H)
    (hs : ∀ i x H H', i < n → Pv i H → Y i H x H' → g x (wipe σ vs) H' fun σ2 H2 => wipe σ2 vs = wipe σ vs ∧ tt σ2 H2 fun b H3 =>
      if b = true then tk σ2 H3 fun y H4 => tv σ2 H4 fun z H5 => ∃ kvs k, y = kV k ∧ H5 D = some (.dK kvs) ∧ kvs.length < sizeLine ∧ Pv (i + 1) (upd H5 D (.dK (putK kvs k z))) else Pv (i + 1) H3) (hd : ∀ H, Pv n H → Qd H) :
    ∃ W : Nat → Nat → Hp → Prop, (∃ m, W 0 m (upd H1 D (.dK []))) ∧ ∀ i m H, W i m H →
      (J.stop i H ∧ Qd H) ∨ (J.go i H ∧ ∃ Nx : Hp → Prop, (∀ H', Nx H' → ∃ m', m' < m ∧ W (i + 1) m' H') ∧ ∀ x H', J.yld i H x H' → g x (wipe σ vs) H' fun σ2 H2 => wipe σ2 vs = wipe σ vs ∧ tt σ2 H2 fun b H3 =>
        if b = true then tk σ2 H3 fun y H4 => tv σ2 H4 fun z H5 => ∃ kvs k, y = kV k ∧ H5 D = some (.dK kvs) ∧ kvs.length < sizeLine ∧ Nx (upd H5 D (.dK (putK kvs k z))) else Nx H3) := by
  refine ⟨fun i m H => m = n - i ∧ i ≤ n ∧ Pv i H, ⟨n, by simp, Nat.zero_le _, h0⟩, ?_⟩
  rintro i m H ⟨rfl, hi, p⟩
  have q := hG i H hi p
  by_cases hlt : i < n
  · refine .inr ⟨w.goes i H hlt q, Pv (i + 1), fun H' p' => ⟨n - (i + 1), by omega, rfl, hlt, p'⟩, fun x H' y => hs i x H H' hlt p (w.yields i H x H' hlt q y)⟩
  · have e : i = n := by omega
    subst e
    exact .inl ⟨w.stops H q, hd H p⟩
/-- a list of data that grows at D, which was new at H1 -/
def Bl (K : PySem.W.Frag) (H1 : Hp) (D : Addr) (ds : List PyData) (H : Hp) : Prop := Same H1 H ∧ ∃ acc, H D = some (.lst acc) ∧ Rps K H acc ds
theorem Bl.new {K : PySem.W.Frag} {H1 : Hp} {D : Addr} (nD : H1 D = none) : Bl K H1 D [] (upd H1 D (.lst [])) := ⟨Cm.same_new nD, [], upd_same, .nil⟩
theorem Bl.push {K : PySem.W.Frag} {H1 H H4 : Hp} {D : Addr} {ds : List PyData} {d : PyData} {y : V} (b : Bl K H1 D ds H) (nD : H1 D = none) (s : Same H H4) (ry : Rp K H4 y d) :
    ∃ acc, H4 D = some (.lst acc) ∧ acc.length = ds.length ∧ Bl K H1 D (ds ++ [d]) (upd H4 D (.lst (acc ++ [y]))) := by
  obtain ⟨s1, acc, hD, r⟩ := b
  have hD4 := s _ _ hD
  have k : Tups H4 (upd H4 D (.lst (acc ++ [y]))) := Keep.tups (c := D) (xs := acc) (fun b o h ne => (upd_ne ne).trans h) hD4
  exact ⟨acc, hD4, r.len, Cm.same_mut (s1.trans s) nD, _, upd_same, ((r.keep (Same.tups s)).keep k).app (Rps.one (ry.keep k))⟩
theorem Bl.same {K : PySem.W.Frag} {H1 H H4 : Hp} {D : Addr} {ds : List PyData} (b : Bl K H1 D ds H) (s : Same H H4) : Bl K H1 D ds H4 := by
  obtain ⟨s1, acc, hD, r⟩ := b
  exact ⟨s1.trans s, acc, s _ _ hD, r.keep (Same.tups s)⟩
theorem take_one {ds : List PyData} {j : Nat} {d : PyData} (h : ds[j]? = some d) : ds.take (j + 1) = ds.take j ++ [d] := by
  rw [List.take_succ, h]
  rfl
theorem at0' {x : V} {xs : List V} : atI (x :: xs) 0 = some x := atI_nat (j := 0) rfl
theorem comp_p0 {n16 : Nat} {K : PySem.W.Frag} {a D : Addr} {xs : List V} {ds : List PyData} {ns : List Str} {H1 : Hp} {σ : L2.St} {Qd : Hp → Prop} (ha : SqT K H1 a xs) (hv : Rps K H1 xs ds) (hat : At0 ds ns) (hD : H1 D = none) (hl : ns.length ≤ 1000)
    (hw : ∀ v, wipe ((wipe σ [n16]).set n16 (some v)) [n16] = wipe σ [n16]) (hg : ∀ v : V, ((wipe σ [n16]).set n16 (some v))[n16]? = some (some v)) (hd : ∀ H, Same H1 H → H D = some (.lst (ns.map V.str)) → Qd H) :
    ∃ W : Nat → Nat → Hp → Prop, (∃ m, W 0 m (upd H1 D (.lst []))) ∧ ∀ i m H, W i m H → ((Itt K a).stop i H ∧ Qd H) ∨ ((Itt K a).go i H ∧ ∃ Nx : Hp → Prop, (∀ H', Nx H' → ∃ m', m' < m ∧ W (i + 1) m' H') ∧ ∀ x H', (Itt K a).yld i H x H' →
      gName n16 x (wipe σ [n16]) H' fun σ2 H2 => wipe σ2 [n16] = wipe σ [n16] ∧ tYes σ2 H2 fun b H3 => if b = true then tOp (rIxT K) (tVar n16) (tC (.int 0)) σ2 H3 fun y H4 => ∃ acc, H4 D = some (.lst acc) ∧ acc.length < sizeLine ∧ Nx (upd H4 D (.lst (acc ++ [y]))) else Nx H3) := by
  have hlen : xs.length = ns.length := hv.len.trans hat.1
  refine lc_tup (K := K) (a := a) (xs := xs) (fun i H => Same H1 H ∧ H D = some (.lst ((ns.take i).map V.str))) ⟨Cm.same_new hD, upd_same⟩ (fun i H _ p => Cm.sameT p.1 ha) (fun i x H hx p => ?_) fun H p => ?_
  · obtain ⟨s, hH⟩ := p
    obtain ⟨d, hdd, rx⟩ := rps_at hv hx
    obtain ⟨y, z, rfl, hy⟩ := hat.2 i d hdd
    obtain ⟨b, us, rfl, hb, hus⟩ := rx.tup_inv
    obtain ⟨v0, us, rfl, r0, hus⟩ := hus.cons_inv
    obtain ⟨v1, us, rfl, r1, hus⟩ := hus.cons_inv
    cases r0.str_inv
    refine ⟨hw _, ?_⟩
    refine ⟨_, hg _, b, _, _, _, rfl, rfl, Cm.sameT s hb, at0', _, hH, Cm.smallL (by rw [List.length_map, List.length_take]; omega), Cm.same_mut s hD, ?_⟩
    rw [upd_same, List.take_succ, hy, List.map_append]
    rfl
  · rw [hlen, List.take_length] at p
    exact hd H p.1 p.2
def attG : List Bool → Nat → List PyData
  | [], _ => []
  | b :: bs, j => (if b then [PyData.int j] else []) ++ attG bs (j + 1)
theorem attG_snoc {b : Bool} : ∀ {bs : List Bool} {j : Nat}, attG (bs ++ [b]) j = attG bs j ++ (if b then [PyData.int ((j + bs.length : Nat) : Int)] else [])
  | [], j => by
    show (if b then [PyData.int j] else []) ++ [] = [] ++ (if b then [PyData.int ((j + 0 : Nat) : Int)] else [])
    rw [List.append_nil, List.nil_append, Nat.add_zero]
  | c :: bs, j => by
    show (if c then [PyData.int j] else []) ++ attG (bs ++ [b]) (j + 1) = _
    have e : j + 1 + bs.length = j + (c :: bs).length := by
      rw [List.length_cons]
      omega
    rw [attG_snoc (bs := bs) (j := j + 1), e, ← List.append_assoc]
    rfl
theorem attG_take {b : Bool} {bs : List Bool} {j : Nat} (h : bs[j]? = some b) : attG (bs.take (j + 1)) 0 = attG (bs.take j) 0 ++ (if b then [PyData.int (j : Int)] else []) := by
  have hl : (bs.take j).length = j := by
    rw [List.length_take]
    have := (List.getElem?_eq_some_iff.mp h).1
    omega
  rw [List.take_succ, h]
  show attG (bs.take j ++ [b]) 0 = _
  rw [attG_snoc, Nat.zero_add, hl]
theorem attG_len : ∀ (bs : List Bool) (j : Nat), (attG bs j).length ≤ bs.length
  | [], _ => Nat.le_refl 0
  | b :: bs, j => by
    have := attG_len bs (j + 1)
    show ((if b then [PyData.int j] else []) ++ attG bs (j + 1)).length ≤ bs.length + 1
    rw [List.length_append]
    cases b
    · show 0 + _ ≤ _
      omega
    · show 1 + _ ≤ _
      omega
def flagsM (m : MkD) : List Bool := [m.b1, false, m.b2, false]
def AtF (ds : List PyData) (bs : List Bool) : Prop := ds.length = bs.length ∧ ∀ (i : Nat) (d : PyData), ds[i]? = some d → ∃ (b : Bool) (r : List PyData), d = PyData.tuple (.bool b :: r) ∧ bs[i]? = some b
theorem atF_held (m : MkD) : AtF (m.pars ++ m.flds) (flagsM m) := ⟨rfl, fun i d h => by
  match i, h with
  | 0, h => cases h; exact ⟨_, _, rfl, rfl⟩
  | 1, h => cases h; exact ⟨_, _, rfl, rfl⟩
  | 2, h => cases h; exact ⟨_, _, rfl, rfl⟩
  | 3, h => cases h; exact ⟨_, _, rfl, rfl⟩
  | i + 4, h => cases h⟩
def attD (m : MkD) : List PyData := attG (flagsM m) 0
def firD (m : MkD) : List PyData := [.tuple [.str "nil"], .int m.i]
def rowsD (m : MkD) : List PyData := [rowD "get" [] fieldS m.get, rowD "put" ["v"] fieldS m.put, rowD "link" ["c"] fieldS m.link, rowD "both" ["c", "v"] fieldS m.both]
def imgD (m : MkD) : PyData := .tuple [.str m.nm, .int 2, .tuple (firD m), .tuple (attD m), .tuple (rowsD m)]
def spCm (K : PySem.W.Frag) : Sp := fun vs H Q _ => ∃ (v : V) (m : MkD), vs = [v] ∧ Rp K H v m.d ∧ m.Ok ∧ ∀ (H' : Hp) (u : V), Same H H' → Rp K H' u (imgD m) → Q u H'
theorem rows_img (m : MkD) (om : m.Ok) (i : Nat) (d : PyData) (hd : m.rows[i]? = some d) : ∃ (x : Str) (pd : List PyData) (ps : List Str) (k : Str) (b : Ss), d = opT x pd k b ∧ At0 pd ps ∧ BOk fieldS ps b ∧ (rowsD m)[i]? = some (rowD x ps fieldS b) := by
  have at0_1 : ∀ {x k : Str}, At0 [pr x k] [x] := fun {x k} => ⟨rfl, fun i d h => by
    match i, h with
    | 0, h => cases h; exact ⟨x, k, rfl, rfl⟩
    | i + 1, h => cases h⟩
  have mk : ∀ {ps : List Str} {b : Ss}, OkP (ps ++ fieldS) b → (∀ y ∈ ps, PyData.strOk y = true) → ps.length ≤ 10 → BOk fieldS ps b := fun {ps b} h1 h2 h3 => ⟨h1.mono fun x hx => (List.mem_append.mp hx).elim (fun h => List.mem_append_right _ h) (fun h => List.mem_append_left _ h), h2, h3, by show 4 ≤ 10; decide⟩
  match i, hd with
  | 0, h => cases h; exact ⟨_, [], [], _, _, rfl, ⟨rfl, fun i d h => by cases h⟩, mk (ps := []) om.get (fun y h => (nomatch h)) (by decide), rfl⟩
  | 1, h => cases h; exact ⟨_, _, ["v"], _, _, rfl, at0_1, mk (ps := ["v"]) om.put (by decide +kernel) (by decide), rfl⟩
  | 2, h => cases h; exact ⟨_, _, ["c"], _, _, rfl, at0_1, mk (ps := ["c"]) om.link (by decide +kernel) (by decide), rfl⟩
  | 3, h =>
    cases h
    refine ⟨_, _, ["c", "v"], _, _, rfl, ⟨rfl, fun i d h => ?_⟩, mk (ps := ["c", "v"]) om.both (by decide +kernel) (by decide), rfl⟩
    match i, h with
    | 0, h => cases h; exact ⟨_, _, rfl, rfl⟩
    | 1, h => cases h; exact ⟨_, _, rfl, rfl⟩
    | i + 2, h => cases h
  | i + 4, h => cases h
theorem at1_held (m : MkD) : At1 (m.pars ++ m.flds) fieldS := ⟨rfl, fun i d h => by
  match i, h with
  | 0, h => cases h; exact ⟨_, _, _, rfl, rfl⟩
  | 1, h => cases h; exact ⟨_, _, _, rfl, rfl⟩
  | 2, h => cases h; exact ⟨_, _, _, rfl, rfl⟩
  | 3, h => cases h; exact ⟨_, _, _, rfl, rfl⟩
  | i + 4, h => cases h⟩
theorem ok_cmaker (T : Txt K mg w a) : FnOk P w K mg base CX0 86 (He.ga K "_compiled_maker") a.d_compiled_maker ["maker"] (spCm K) := by
  have gcr := ok_crow (P := P) (w := w) (base := base) T
  refine T.F_compiled_maker.ok sc_compiled_maker (fun vs H Q E h => ?_) (fun cdv A outer s H vs Q E hr h => ?_)
  · obtain ⟨_, _, rfl, _⟩ := h
    rfl
  obtain ⟨v, m, rfl, rm, om, q⟩ := h
  refine ⟨_, PSs.nox (pss_cons (ps_asg (pv 0) (pg_tup (by rfl) (pgs_cons (pg_name (i := 1) sc_compiled_maker.nd rfl (Or.inl rfl)) (pgs_cons (pg_name (i := 2) sc_compiled_maker.nd rfl (Or.inl rfl)) (pgs_cons (pg_name (i := 3) sc_compiled_maker.nd rfl (Or.inl rfl)) (pgs_cons (pg_name (i := 4) sc_compiled_maker.nd rfl (Or.inl rfl)) pgs_nil))))))
      (pss_cons (ps_set (i := 5) sc_compiled_maker.nd rfl (Or.inl rfl) (pe_op op_catA (pv 2) (pv 3)))
      (pss_cons (ps_set (i := 6) sc_compiled_maker.nd rfl (Or.inr rfl) (pe_dc (own := [("k", 10), ("part", 11)]) (g := gTup K 2 (gCons (gName 10) (gCons (gName 11) gNil))) (tt := tYes) (tk := (tOp (rIxT K) (tVar 11) (tC (.int 1)))) (tv := (tTup (tCons (tC (.str "field")) (tCons (tVar 10) tNil)))) (by rfl) sc_compiled_maker.nd (EnumT.pi_enumT (by rfl) T.g_enumerate (pa_cons (pv 5) pa_nil)) (blkOk_by (own := [("k", 10), ("part", 11)]) (N := N_compiled_maker) (sc := defScope s_compiled_maker) (by decide +kernel)) (fun _ _ _ _ _ => (pg_tup (by rfl) (pgs_cons (pg_name (i := 10) sc_compiled_maker.nd rfl (Or.inl rfl)) (pgs_cons (pg_name (i := 11) sc_compiled_maker.nd rfl (Or.inl rfl)) pgs_nil)))) (fun _ _ _ _ _ => pts_nil) (fun _ _ _ _ _ => (pe_ix ix_tup (pv 11) pe_int (fun _ _ => rfl))) (fun _ _ _ _ _ => (pe_tup (pa_cons pe_str (pa_cons (pv 10) pa_nil))))))
      (pss_cons (ps_setLc (i := 7) (own := [("_", 12), ("kind", 13), ("first", 14)]) (g := gTup K 4 (gCons (gName 12) (gCons (gName 12) (gCons (gName 13) (gCons (gName 14) gNil))))) (tt := tYes)  (by rfl) sc_compiled_maker.nd rfl rfl (sw_true rfl rfl rfl (by decide +kernel)) (pi_tup (pv 3)) (blkOk_by (own := [("_", 12), ("kind", 13), ("first", 14)]) (N := N_compiled_maker) (sc := defScope s_compiled_maker) (by decide +kernel)) (fun _ _ _ _ _ => (pg_tup (by rfl) (pgs_cons (pg_name (i := 12) sc_compiled_maker.nd rfl (Or.inl rfl)) (pgs_cons (pg_name (i := 12) sc_compiled_maker.nd rfl (Or.inl rfl)) (pgs_cons (pg_name (i := 13) sc_compiled_maker.nd rfl (Or.inl rfl)) (pgs_cons (pg_name (i := 14) sc_compiled_maker.nd rfl (Or.inl rfl)) pgs_nil)))))) (fun _ _ _ _ _ => pts_nil) (fun _ _ _ _ _ => (pe_ifExp (pt_cmpR op_eq (pv 13) pe_str (nomark _)) (pv 14) (pe_tup (pa_cons pe_str pa_nil)))))
      (pss_cons (ps_setLc (i := 8) (own := [("k", 10), ("part", 11)]) (g := gTup K 2 (gCons (gName 10) (gCons (gName 11) gNil))) (tt := tTr K (tOp (rIxT K) (tVar 11) (tC (.int 0))))  (by rfl) sc_compiled_maker.nd rfl rfl (sw_true rfl rfl rfl (by decide +kernel)) (EnumT.pi_enumT (by rfl) T.g_enumerate (pa_cons (pv 5) pa_nil)) (blkOk_by (own := [("k", 10), ("part", 11)]) (N := N_compiled_maker) (sc := defScope s_compiled_maker) (by decide +kernel)) (fun _ _ _ _ _ => (pg_tup (by rfl) (pgs_cons (pg_name (i := 10) sc_compiled_maker.nd rfl (Or.inl rfl)) (pgs_cons (pg_name (i := 11) sc_compiled_maker.nd rfl (Or.inl rfl)) pgs_nil)))) (fun _ _ _ _ _ => pts_one (pt_truth (pe_ix (r := rIxT K) ix_tup (pv 11) pe_int (fun _ _ => rfl)) (by intro _; rfl))) (fun _ _ _ _ _ => (pv 10)))
      (pss_cons (ps_setLc (i := 9) (own := [("row", 15), ("inner", 16), ("_", 12), ("block", 17)]) (g := gTup K 4 (gCons (gName 15) (gCons (gName 16) (gCons (gName 12) (gCons (gName 17) gNil))))) (tt := tYes) (te := (tCall (spCr K) [] E0 (tCons (tVar 15) (tCons (tLc (iTup K (tVar 16)) (gName 18) tYes (tOp (rIxT K) (tVar 18) (tC (.int 0))) [18]) (tCons (tVar 17) (tCons (tVar 6) tNil)))))) (by rfl) sc_compiled_maker.nd rfl rfl (sw_true rfl rfl rfl (by decide +kernel)) (pi_tup (pv 4)) (blkOk_by (own := [("row", 15), ("inner", 16), ("_", 12), ("block", 17)]) (N := N_compiled_maker) (sc := defScope s_compiled_maker) (by decide +kernel)) (fun _ _ _ _ _ => (pg_tup (by rfl) (pgs_cons (pg_name (i := 15) sc_compiled_maker.nd rfl (Or.inl rfl)) (pgs_cons (pg_name (i := 16) sc_compiled_maker.nd rfl (Or.inl rfl)) (pgs_cons (pg_name (i := 12) sc_compiled_maker.nd rfl (Or.inl rfl)) (pgs_cons (pg_name (i := 17) sc_compiled_maker.nd rfl (Or.inl rfl)) pgs_nil)))))) (fun _ _ _ _ _ => pts_nil) (fun _ _ _ _ _ => (pe_call gcr (hr.mono (by omega)) (by rfl) T.g_compiled_row T.F_compiled_row.kp T.b_compiled_row .nil pass0 (pa_cons (pv 15) (pa_cons (pe_lc (own := [("param", 18)]) (g := gName 18) (tt := tYes) (te := (tOp (rIxT K) (tVar 18) (tC (.int 0)))) (by rfl) sc_compiled_maker.nd (pi_tup (pv 16)) (blkOk_by (own := [("param", 18)]) (by first | kernel_rfl | rfl)) (fun _ _ _ _ _ => pg_name (i := 18) sc_compiled_maker.nd rfl (Or.inl rfl)) (fun _ _ _ _ _ => pts_nil) (fun _ _ _ _ _ => (pe_ix (r := rIxT K) ix_tup (pv 18) pe_int (fun _ _ => rfl)))) (pa_cons (pv 17) (pa_cons (pv 6) pa_nil)))))))
      (pss_one (ps_ret (pe_tup (pa_cons (pv 1) (pa_cons (pe_callB call_len_seq (by rfl) T.g_len boot_len (pa_cons (pv 2) pa_nil)) (pa_cons (pe_callTy call_tuple_of (by rfl) T.g_tuple boot_tuple (pa_cons (pv 7) pa_nil)) (pa_cons (pe_callTy call_tuple_of (by rfl) T.g_tuple boot_tuple (pa_cons (pv 8) pa_nil)) (pa_cons (pe_callTy call_tuple_of (by rfl) T.g_tuple boot_tuple (pa_cons (pv 9) pa_nil)) pa_nil)))))))))))))), ?_⟩
  obtain ⟨cmk, vk, rfl, hcmk, hvk⟩ := rm.tup_inv
  obtain ⟨k0, vk, rfl, rk0, hvk⟩ := hvk.cons_inv
  obtain ⟨k1, vk, rfl, rk1, hvk⟩ := hvk.cons_inv
  obtain ⟨k2, vk, rfl, rk2, hvk⟩ := hvk.cons_inv
  obtain ⟨k3, vk, rfl, rk3, hvk⟩ := hvk.cons_inv
  cases hvk.nil_inv
  cases rk0.str_inv
  rw [show L2.start N_compiled_maker [V.ref cmk] = [some (.ref cmk), none, none, none, none, none, none, none, none, none, none, none, none, none, none, none, none, none, none] from rfl]
  refine ⟨_, rfl, cmk, _, rfl, hcmk, rfl, _, _, rfl, _, _, rfl, _, _, rfl, _, _, rfl, rfl, ?_⟩
  simp only [List.set_cons_succ, List.set_cons_zero]
  -- held
  refine ⟨_, rfl, _, rfl, cat_rp rk1 rk2 (by show 2 + 2 ≤ 10000000; decide) fun hv H1 s1 rh => ?_⟩
  obtain ⟨ch, xh, rfl, hch, hxh⟩ := rh.tup_inv
  -- names
  refine ⟨_, rfl, ch, _, rfl, hch, fun D nD => ?_⟩
  simp only [List.set_cons_succ, List.set_cons_zero, List.map_cons, List.map_nil]
  have hat := at1_held m
  have hlen : xh.length = 4 := hxh.len.trans hat.1
  refine dc_it (EnumT.walk_enumT (K := K) (a := ch) (xs := xh)) (fun i H => ∃ kvs, Same H1 H ∧ PlI K H D i (fieldS.take i) (plGo "field" (fieldS.take i) 0 pl0) kvs) ⟨[], Cm.same_new nD, PlI.new nD⟩ (fun i H _ ⟨kvs, s, _⟩ => Cm.sameT s hch) (fun i x H H' hi ⟨kvs, s, pi⟩ y => ?_) fun H2 ⟨kvs, s2, pi⟩ => ?_
  · obtain ⟨t, z, y, rfl, nt, rfl, ex, ey⟩ := y
    cases ex
    obtain ⟨d, hd, ry⟩ := rps_at (hxh.keep (Same.tups s)) ey
    obtain ⟨d0, xn, r, rfl, hxn⟩ := hat.2 i d hd
    obtain ⟨b, us, rfl, hb, hus⟩ := ry.tup_inv
    obtain ⟨v0, us, rfl, r0, hus⟩ := hus.cons_inv
    obtain ⟨v1, us, rfl, r1, hus⟩ := hus.cons_inv
    cases r1.str_inv
    have st := Cm.same_new (o := .tup [.int (i : Nat), .ref b]) nt
    refine ⟨t, _, rfl, Cm.sqt_new, rfl, _, _, rfl, _, _, rfl, rfl, rfl, ?_⟩
    refine ⟨_, rfl, b, _, _, _, rfl, rfl, Cm.sameT st hb, at1, _, rfl, Cm.small (by show 2 ≤ 100000; decide), fun p np => ?_⟩
    have sp := st.trans (Cm.same_new (o := .tup [.str "field", .int (i : Nat)]) np)
    have pip := pi.same sp
    have p2 := pip.put (x := xn) (w := "field") (j := (i : Int)) (q := p) Cm.sqt_new (.inr rfl)
    rw [← take_put hxn, ← plGo_take hxn] at p2
    exact ⟨kvs, .inr xn, rfl, pip.h, Cm.smallL (by have := pip.len; omega), _, Cm.same_mut (s.trans sp) nD, p2⟩
  rw [hlen] at pi
  have pF : PlI K H2 D 4 fieldS (plGo "field" fieldS 0 pl0) kvs := pi
  clear pi
  have t2 := s1.trans s2
  -- firsts
  obtain ⟨cf, xf, rfl, hcf, hxf⟩ := (rk2.keep (Same.tups t2)).tup_inv
  refine ⟨_, rfl, cf, rfl, ⟨_, hcf⟩, fun D2 nD2 => ?_⟩
  simp only [List.set_cons_succ, List.set_cons_zero, List.map_cons, List.map_nil]
  refine lc_tup (K := K) (a := cf) (xs := xf) (fun i H => Bl K H2 D2 ((firD m).take i) H) (Bl.new nD2) (fun i H _ b => Cm.sameT b.1 hcf) (fun i x H hx b => ?_) fun H3 b => ?_
  · obtain ⟨d, hd, rx⟩ := rps_at (hxf.keep (Same.tups b.1)) hx
    obtain ⟨bb, xn, kn, jn, e1, e2⟩ : ∃ (bb : Bool) (xn kn : Str) (jn : Int), d = fldT bb xn kn jn ∧ (firD m)[i]? = some (if kn = "int" then .int jn else .tuple [.str "nil"]) := by
      match i, hd with
      | 0, h => cases h; exact ⟨_, _, _, _, rfl, by rw [if_neg (by decide)]; rfl⟩
      | 1, h => cases h; exact ⟨_, _, _, _, rfl, by rw [if_pos rfl]; rfl⟩
      | i + 2, h => cases h
    subst e1
    obtain ⟨c, us, rfl, hc, hus⟩ := rx.tup_inv
    obtain ⟨v0, us, rfl, r0, hus⟩ := hus.cons_inv
    obtain ⟨v1, us, rfl, r1, hus⟩ := hus.cons_inv
    obtain ⟨v2, us, rfl, r2, hus⟩ := hus.cons_inv
    obtain ⟨v3, us, rfl, r3, hus⟩ := hus.cons_inv
    cases hus.nil_inv
    cases r2.str_inv
    refine ⟨c, _, rfl, hc, rfl, _, _, rfl, _, _, rfl, _, _, rfl, _, _, rfl, rfl, rfl, ?_⟩
    rw [take_one e2]
    refine ⟨_, rfl, rfl, _, rfl, Cm.itES (fun e => ?_) (fun e => ?_)⟩
    · rw [if_pos e]
      obtain ⟨acc, g1, g2, g3⟩ := b.push nD2 (Same.refl _) r3
      exact ⟨_, rfl, acc, g1, Cm.smallL (by rw [g2, List.length_take]; have : (firD m).length = 2 := rfl; omega), g3⟩
    · rw [if_neg e]
      refine ⟨Cm.small (by show 1 ≤ 100000; decide), fun p np => ?_⟩
      obtain ⟨acc, g1, g2, g3⟩ := b.push nD2 (Cm.same_new np) (made np (.cons (.str "nil") .nil))
      exact ⟨acc, g1, Cm.smallL (by rw [g2, List.length_take]; have : (firD m).length = 2 := rfl; omega), g3⟩
  have hfl : xf.length = 2 := hxf.len
  rw [hfl] at b
  have bF : Bl K H2 D2 (firD m) H3 := b
  clear b
  -- attached
  have hch3 := Cm.sameT (s2.trans bF.1) hch
  refine ⟨_, rfl, ch, _, rfl, hch3, fun D3 nD3 => ?_⟩
  simp only [List.set_cons_succ, List.set_cons_zero, List.map_cons, List.map_nil]
  refine lc_it (EnumT.walk_enumT (K := K) (a := ch) (xs := xh)) (fun i H => Bl K H3 D3 (attG ((flagsM m).take i) 0) H) (Bl.new nD3) (fun i H _ b => Cm.sameT b.1 hch3) (fun i x H H' hi b y => ?_) fun H4 b => ?_
  · obtain ⟨t, z, y, rfl, nt, rfl, ex, ey⟩ := y
    cases ex
    obtain ⟨d, hd, ry⟩ := rps_at (hxh.keep (Same.tups (s2.trans (bF.1.trans b.1)))) ey
    obtain ⟨fb, r, rfl, hfb⟩ := (atF_held m).2 i d hd
    obtain ⟨c, us, rfl, hc, hus⟩ := ry.tup_inv
    obtain ⟨v0, us, rfl, r0, hus⟩ := hus.cons_inv
    cases r0.bl_inv
    have st := Cm.same_new (o := .tup [.int (i : Nat), .ref c]) nt
    refine ⟨t, _, rfl, Cm.sqt_new, rfl, _, _, rfl, _, _, rfl, rfl, rfl, ?_⟩
    refine ⟨_, rfl, c, _, _, _, rfl, rfl, Cm.sameT st hc, at0, fb, rfl, ?_⟩
    rw [attG_take hfb]
    cases fb
    · show Bl K H3 D3 _ _
      rw [if_neg (by decide), List.append_nil]
      exact b.same st
    · obtain ⟨acc, g1, g2, g3⟩ := b.push nD3 st (.int (i : Int))
      exact ⟨_, rfl, acc, g1, Cm.smallL (by rw [g2]; have h9 := attG_len ((flagsM m).take i) 0; rw [List.length_take] at h9; have h8 : (flagsM m).length = 4 := rfl; omega), g3⟩
  rw [hlen] at b
  have bA : Bl K H3 D3 (attD m) H4 := b
  clear b
  -- rows
  have t4 := t2.trans (bF.1.trans bA.1)
  obtain ⟨cr, xr, rfl, hcr, hxr⟩ := (rk3.keep (Same.tups t4)).tup_inv
  refine ⟨_, rfl, cr, rfl, ⟨_, hcr⟩, fun D4 nD4 => ?_⟩
  simp only [List.set_cons_succ, List.set_cons_zero, List.map_cons, List.map_nil]
  refine lc_tup (K := K) (a := cr) (xs := xr) (fun i H => Bl K H4 D4 ((rowsD m).take i) H) (Bl.new nD4) (fun i H _ b => Cm.sameT b.1 hcr) (fun i x H hx b => ?_) fun H5 b => ?_
  · obtain ⟨d, hd, rx⟩ := rps_at (hxr.keep (Same.tups b.1)) hx
    obtain ⟨xn, pd, ps, kn, bb, rfl, hatp, ob, e2⟩ := rows_img m om i d hd
    obtain ⟨c, us, rfl, hc, hus⟩ := rx.tup_inv
    obtain ⟨v0, us, rfl, r0, hus⟩ := hus.cons_inv
    obtain ⟨v1, us, rfl, r1, hus⟩ := hus.cons_inv
    obtain ⟨v2, us, rfl, r2, hus⟩ := hus.cons_inv
    obtain ⟨v3, us, rfl, r3, hus⟩ := hus.cons_inv
    cases hus.nil_inv
    cases r0.str_inv
    refine ⟨c, _, rfl, hc, rfl, _, _, rfl, _, _, rfl, _, _, rfl, _, _, rfl, rfl, rfl, ?_⟩
    simp only [List.set_cons_succ, List.set_cons_zero, wipe]
    obtain ⟨cq, xq, rfl, hcq, hxq⟩ := r1.tup_inv
    have plen := ob.pl
    refine ⟨_, rfl, _, rfl, cq, rfl, ⟨_, hcq⟩, fun D5 nD5 => comp_p0 hcq hxq hatp nD5 (by omega) (fun _ => rfl) (fun _ => rfl) fun H6 s6 hD5 => ?_⟩
    have t6 := (bF.1.trans bA.1).trans (b.1.trans s6)
    refine ⟨_, rfl, _, rfl, xn, D5, ps, v3, bb, .ref D, fieldS, rfl, hD5, r3.keep (Same.tups s6), ⟨D, kvs, rfl, pF.same t6⟩, ob, fun H7 u s7 r7 => ?_⟩
    rw [take_one e2]
    obtain ⟨acc, g1, g2, g3⟩ := b.push nD4 (s6.trans s7) r7
    exact ⟨acc, g1, Cm.smallL (by rw [g2, List.length_take]; have : (rowsD m).length = 4 := rfl; omega), g3⟩
  have hrl : xr.length = 4 := hxr.len
  rw [hrl] at b
  have bR : Bl K H4 D4 (rowsD m) H5 := b
  clear b
  -- the tuple
  have t5 := t4.trans bR.1
  have bF5 := bF.same (bA.1.trans bR.1)
  have bA5 := bA.same bR.1
  obtain ⟨_, aF, hF, rF⟩ := bF5
  obtain ⟨_, aA, hA, rA⟩ := bA5
  obtain ⟨_, aR, hR, rR⟩ := bR
  obtain ⟨cp, xp, rfl, hcp, hxp⟩ := (rk1.keep (Same.tups t5)).tup_inv
  refine ⟨_, rfl, _, rfl, cp, _, rfl, .inr hcp, _, rfl, D2, aF, rfl, .inl ⟨SqL.of hF, fun p1 n1 => ?_⟩⟩
  have s1' := Cm.same_new (o := .tup aF) n1
  refine ⟨_, rfl, D3, aA, rfl, .inl ⟨SqL.of (s1' _ _ hA), fun p2 n2 => ?_⟩⟩
  have s2' := s1'.trans (Cm.same_new (o := .tup aA) n2)
  refine ⟨_, rfl, D4, aR, rfl, .inl ⟨SqL.of (s2' _ _ hR), fun p3 n3 => ?_⟩⟩
  have s3' := s2'.trans (Cm.same_new (o := .tup aR) n3)
  refine ⟨Cm.small (by show 5 ≤ 100000; decide), fun p4 n4 => ?_⟩
  have r1' := (Rp.made n1 rF).keep (Same.tups ((Cm.same_new n2).trans (Cm.same_new (o := .tup aR) n3)))
  have r2' := (Rp.made n2 (rA.keep (Same.tups s1'))).keep (Same.tups (Cm.same_new (o := .tup aR) n3))
  have r3' := Rp.made n3 (rR.keep (Same.tups s2'))
  refine q _ _ (t5.trans (s3'.trans (Cm.same_new n4))) ?_
  have hpl : xp.length = 2 := hxp.len
  rw [hpl]
  exact made n4 (.cons (.str m.nm) (.cons (.int _) (.cons r1' (.cons r2' (.cons r3' .nil)))))
theorem ok_limage (T : Txt K mg w a) : FnOk P w K mg base CX0 30 (He.ga K "_law_image_of") a.d_lw_image_of ["maker"] (spCm K) := by
  have glr := ok_lrow (P := P) (w := w) (base := base) T
  refine T.F_lw_image_of.ok sc_lw_image_of (fun vs H Q E h => ?_) (fun cdv A outer s H vs Q E hr h => ?_)
  · obtain ⟨_, _, rfl, _⟩ := h
    rfl
  obtain ⟨v, m, rfl, rm, om, q⟩ := h
  refine ⟨_, PSs.nox (pss_cons (ps_set (i := 1) sc_lw_image_of.nd rfl (Or.inr rfl) (pe_op op_catA (pe_ix ix_tup (pv 0) pe_int (fun _ _ => rfl)) (pe_ix ix_tup (pv 0) pe_int (fun _ _ => rfl))))
      (pss_cons (ps_set (i := 2) sc_lw_image_of.nd rfl (Or.inl rfl) (pe_lst pa_nil))
      (pss_cons (ps_for PassesOwn.never rfl (pi_tup (pe_ix ix_tup (pv 0) pe_int (fun _ _ => rfl))) (pg_tup (by rfl) (pgs_cons (pg_name (i := 3) sc_lw_image_of.nd rfl (Or.inl rfl)) (pgs_cons (pg_name (i := 4) sc_lw_image_of.nd rfl (Or.inl rfl)) (pgs_cons (pg_name (i := 5) sc_lw_image_of.nd rfl (Or.inl rfl)) (pgs_cons (pg_name (i := 6) sc_lw_image_of.nd rfl (Or.inl rfl)) pgs_nil)))))
      (pss_one (ps_expr (pe_bm PySem.F.plainAttrs_list PySem.F.slot_list_append PySem.F.type_list_append mt_append (pv 2) (pa_cons (pe_ix ix_list (pe_lst (pa_cons (pe_tup (pa_cons pe_str pa_nil)) (pa_cons (pv 6) pa_nil))) (pe_callTy call_int1 (by rfl) T.g_int boot_int (pa_cons (pe_cmpR op_eq (pv 5) pe_str (nomark _)) pa_nil)) (fun _ _ => rfl)) pa_nil)))))
      (pss_cons (ps_setLc (i := 7) (own := [("name", 4), ("params", 8), ("result", 9), ("block", 10)]) (g := gTup K 4 (gCons (gName 4) (gCons (gName 8) (gCons (gName 9) (gCons (gName 10) gNil))))) (tt := tYes) (te := (tCall (spLr K) [] E0 (tCons (tVar 4) (tCons (tVar 8) (tCons (tLc (iTup K (tVar 1)) (gName 12) tYes (tOp (rIxT K) (tVar 12) (tC (.int 1))) [12]) (tCons (tVar 10) tNil)))))) (by rfl) sc_lw_image_of.nd rfl rfl (sw_true rfl rfl rfl (by decide +kernel)) (pi_tup (pe_ix ix_tup (pv 0) pe_int (fun _ _ => rfl))) (blkOk_by (own := [("name", 4), ("params", 8), ("result", 9), ("block", 10)]) (N := N_lw_image_of) (sc := defScope s_lw_image_of) (by decide +kernel)) (fun _ _ _ _ _ => (pg_tup (by rfl) (pgs_cons (pg_name (i := 4) sc_lw_image_of.nd rfl (Or.inl rfl)) (pgs_cons (pg_name (i := 8) sc_lw_image_of.nd rfl (Or.inl rfl)) (pgs_cons (pg_name (i := 9) sc_lw_image_of.nd rfl (Or.inl rfl)) (pgs_cons (pg_name (i := 10) sc_lw_image_of.nd rfl (Or.inl rfl)) pgs_nil)))))) (fun _ _ _ _ _ => pts_nil) (fun _ _ _ _ _ => (pe_call glr (hr.mono (by omega)) (by rfl) T.g_lw_row T.F_lw_row.kp T.b_lw_row .nil pass0 (pa_cons (pv 4) (pa_cons (pv 8) (pa_cons (pe_lc (own := [("part", 12)]) (g := gName 12) (tt := tYes) (te := (tOp (rIxT K) (tVar 12) (tC (.int 1)))) (by rfl) sc_lw_image_of.nd (pi_tup (pv 1)) (blkOk_by (own := [("part", 12)]) (by first | kernel_rfl | rfl)) (fun _ _ _ _ _ => pg_name (i := 12) sc_lw_image_of.nd rfl (Or.inl rfl)) (fun _ _ _ _ _ => pts_nil) (fun _ _ _ _ _ => (pe_ix (r := rIxT K) ix_tup (pv 12) pe_int (fun _ _ => rfl)))) (pa_cons (pv 10) pa_nil)))))))
      (pss_cons (ps_set (i := 3) sc_lw_image_of.nd rfl (Or.inl rfl) (pe_callTy call_tuple_of (by rfl) T.g_tuple boot_tuple (pa_cons (pe_lc (own := [("j", 11)]) (g := gName 11) (tt := tTr K (tOp (rIxT K) (tOp (rIxT K) (tVar 1) (tVar 11)) (tC (.int 0))))  (by rfl) sc_lw_image_of.nd (pi_range1 (by rfl) T.g_range (pa_cons (pe_callB call_len_seq (by rfl) T.g_len boot_len (pa_cons (pv 1) pa_nil)) pa_nil)) (blkOk_by (own := [("j", 11)]) (N := N_lw_image_of) (sc := defScope s_lw_image_of) (by decide +kernel)) (fun _ _ _ _ _ => pg_name (i := 11) sc_lw_image_of.nd rfl (Or.inl rfl)) (fun _ _ _ _ _ => pts_one (pt_truth (pe_ix (r := rIxT K) ix_tup (pe_ix (r := rIxT K) ix_tup (pv 1) (pv 11) (fun _ _ => rfl)) pe_int (fun _ _ => rfl)) (by intro _; rfl))) (fun _ _ _ _ _ => (pv 11))) pa_nil)))
      (pss_one (ps_ret (pe_tup (pa_cons (pe_ix ix_tup (pv 0) pe_int (fun _ _ => rfl)) (pa_cons (pe_callB call_len_seq (by rfl) T.g_len boot_len (pa_cons (pe_ix ix_tup (pv 0) pe_int (fun _ _ => rfl)) pa_nil)) (pa_cons (pe_callTy call_tuple_of (by rfl) T.g_tuple boot_tuple (pa_cons (pv 2) pa_nil)) (pa_cons (pv 3) (pa_cons (pe_callTy call_tuple_of (by rfl) T.g_tuple boot_tuple (pa_cons (pv 7) pa_nil)) pa_nil))))))))))))), ?_⟩
  obtain ⟨cmk, vk, rfl, hcmk, hvk⟩ := rm.tup_inv
  obtain ⟨k0, vk, rfl, rk0, hvk⟩ := hvk.cons_inv
  obtain ⟨k1, vk, rfl, rk1, hvk⟩ := hvk.cons_inv
  obtain ⟨k2, vk, rfl, rk2, hvk⟩ := hvk.cons_inv
  obtain ⟨k3, vk, rfl, rk3, hvk⟩ := hvk.cons_inv
  cases hvk.nil_inv
  cases rk0.str_inv
  rw [show L2.start N_lw_image_of [V.ref cmk] = [some (.ref cmk), none, none, none, none, none, none, none, none, none, none, none, none] from rfl]
  -- parts
  refine ⟨_, rfl, cmk, _, _, _, rfl, rfl, hcmk, at1, _, rfl, cmk, _, _, _, rfl, rfl, hcmk, at2, cat_rp rk1 rk2 (by show 2 + 2 ≤ 10000000; decide) fun hv H1 s1 rh => ?_⟩
  obtain ⟨ch, xh, rfl, hch, hxh⟩ := rh.tup_inv
  have hat := at1_held m
  have hlen : xh.length = 4 := hxh.len.trans hat.1
  -- firsts
  refine ⟨Nat.zero_le _, fun D nD => ?_⟩
  have s1D := s1.trans (Cm.same_new (o := .lst []) nD)
  obtain ⟨cf, xf, rfl, hcf, hxf⟩ := (rk2.keep (Same.tups s1)).tup_inv
  simp only [List.set_cons_succ, List.set_cons_zero]
  refine ⟨_, rfl, cmk, _, _, _, rfl, rfl, Cm.sameT s1D hcmk, at2, cf, rfl, ⟨_, Cm.sameT (Cm.same_new nD) hcf⟩, ?_⟩
  refine for_tup (K := K) (a := cf) (xs := xf) (fun i σ H => ∃ x3 x4 x5 x6 : Option V, σ = [some (.ref cmk), some (.ref ch), some (.ref D), x3, x4, x5, x6, none, none, none, none, none, none] ∧ Bl K H1 D ((firD m).take i) H) ⟨_, _, _, _, rfl, Bl.new nD⟩ (fun i σ H _ ⟨_, _, _, _, _, b⟩ => Cm.sameT b.1 hcf) (fun i x σ H hx ⟨x3, x4, x5, x6, e, b⟩ => ?_) fun σ H2 ⟨x3, x4, x5, x6, e, b⟩ => ?_
  · subst e
    obtain ⟨d, hd, rx⟩ := rps_at (hxf.keep (Same.tups b.1)) hx
    obtain ⟨bb, xn, kn, jn, e1, e2⟩ : ∃ (bb : Bool) (xn kn : Str) (jn : Int), d = fldT bb xn kn jn ∧ (firD m)[i]? = some (if kn = "int" then .int jn else .tuple [.str "nil"]) := by
      match i, hd with
      | 0, h => cases h; exact ⟨_, _, _, _, rfl, by rw [if_neg (by decide)]; rfl⟩
      | 1, h => cases h; exact ⟨_, _, _, _, rfl, by rw [if_pos rfl]; rfl⟩
      | i + 2, h => cases h
    subst e1
    obtain ⟨c, us, rfl, hc, hus⟩ := rx.tup_inv
    obtain ⟨v0, us, rfl, r0, hus⟩ := hus.cons_inv
    obtain ⟨v1, us, rfl, r1, hus⟩ := hus.cons_inv
    obtain ⟨v2, us, rfl, r2, hus⟩ := hus.cons_inv
    obtain ⟨v3, us, rfl, r3, hus⟩ := hus.cons_inv
    cases hus.nil_inv
    cases r2.str_inv
    refine ⟨c, _, rfl, hc, rfl, _, _, rfl, _, _, rfl, _, _, rfl, _, _, rfl, rfl, ?_⟩
    rw [take_one e2]
    have hDc := b.2
    obtain ⟨acc, hD, hacc⟩ := hDc
    refine ⟨_, rfl, .inl ⟨rfl, _, SqL.of hD⟩, Cm.small (by show 1 ≤ 100000; decide), fun p1 n1 => ⟨_, rfl, Cm.small (by show 2 ≤ 100000; decide), fun p2 n2 => ?_⟩⟩
    have sp := (Cm.same_new (o := .tup [.str "nil"]) n1).trans (Cm.same_new (o := .lst [.ref p1, v3]) n2)
    by_cases e : kn = "int"
    · rw [if_pos e]
      have hw : (if decide (V.str kn = V.str "int") = true then (1 : Int) else 0) = 1 := by
        rw [e]
        rfl
      obtain ⟨acc', g1, g2, g3⟩ := b.push nD sp (r3.keep (Same.tups sp))
      refine ⟨_, rfl, rfl, .inr ⟨_, rfl, p2, _, _, v3, rfl, rfl, SqL.of upd_same, (by rw [hw]; exact at1), D, acc', _, rfl, rfl, g1, Cm.smallL (by rw [g2, List.length_take]; have : (firD m).length = 2 := rfl; omega), ?_⟩⟩
      exact ⟨_, _, _, _, rfl, g3⟩
    · rw [if_neg e]
      have hw : (if decide (V.str kn = V.str "int") = true then (1 : Int) else 0) = 0 := by
        rw [decide_eq_false (fun z => e (V.str.inj z))]
        rfl
      have rp1 : Rp K (upd (upd H p1 (.tup [.str "nil"])) p2 (.lst [.ref p1, v3])) (.ref p1) (.tuple [.str "nil"]) := (made (K := K) n1 (.cons (.str "nil") .nil)).keep (Same.tups (Cm.same_new n2))
      obtain ⟨acc', g1, g2, g3⟩ := b.push nD sp rp1
      refine ⟨_, rfl, rfl, .inr ⟨_, rfl, p2, _, _, .ref p1, rfl, rfl, SqL.of upd_same, (by rw [hw]; exact at0), D, acc', _, rfl, rfl, g1, Cm.smallL (by rw [g2, List.length_take]; have : (firD m).length = 2 := rfl; omega), ?_⟩⟩
      exact ⟨_, _, _, _, rfl, g3⟩
  subst e
  have hfl : xf.length = 2 := hxf.len
  rw [hfl] at b
  have bF : Bl K H1 D (firD m) H2 := b
  clear b
  have t2 := s1.trans bF.1
  -- rows
  obtain ⟨cr, xr, rfl, hcr, hxr⟩ := (rk3.keep (Same.tups t2)).tup_inv
  have hch2 := Cm.sameT bF.1 hch
  have hxh2 := hxh.keep (Same.tups bF.1)
  refine ⟨_, rfl, cmk, _, _, _, rfl, rfl, Cm.sameT t2 hcmk, at3, cr, rfl, ⟨_, hcr⟩, fun D4 nD4 => ?_⟩
  simp only [List.set_cons_succ, List.set_cons_zero, List.map_cons, List.map_nil]
  refine lc_tup (K := K) (a := cr) (xs := xr) (fun i H => Bl K H2 D4 ((rowsD m).take i) H) (Bl.new nD4) (fun i H _ b => Cm.sameT b.1 hcr) (fun i x H hx b => ?_) fun H5 b => ?_
  · obtain ⟨d, hd, rx⟩ := rps_at (hxr.keep (Same.tups b.1)) hx
    obtain ⟨xn, pd, ps, kn, bb, rfl, hatp, ob, e2⟩ := rows_img m om i d hd
    obtain ⟨c, us, rfl, hc, hus⟩ := rx.tup_inv
    obtain ⟨v0, us, rfl, r0, hus⟩ := hus.cons_inv
    obtain ⟨v1, us, rfl, r1, hus⟩ := hus.cons_inv
    obtain ⟨v2, us, rfl, r2, hus⟩ := hus.cons_inv
    obtain ⟨v3, us, rfl, r3, hus⟩ := hus.cons_inv
    cases hus.nil_inv
    cases r0.str_inv
    refine ⟨c, _, rfl, hc, rfl, _, _, rfl, _, _, rfl, _, _, rfl, _, _, rfl, rfl, rfl, ?_⟩
    simp only [List.set_cons_succ, List.set_cons_zero, wipe]
    have hchb := Cm.sameT b.1 hch2
    refine ⟨_, rfl, _, rfl, _, rfl, ch, rfl, ⟨_, hchb⟩, fun D5 nD5 => comp_at1 hchb (hxh2.keep (Same.tups b.1)) hat nD5 (by decide) (fun _ => rfl) (fun _ => rfl) fun H6 s6 hD5 => ?_⟩
    refine ⟨_, rfl, xn, v1, pd, ps, .ref D5, v3, bb, fieldS, rfl, r1.keep (Same.tups s6), hatp, ⟨D5, rfl, .inl hD5⟩, r3.keep (Same.tups s6), ob, fun H7 u s7 r7 => ?_⟩
    rw [take_one e2]
    obtain ⟨acc, g1, g2, g3⟩ := b.push nD4 (s6.trans s7) r7
    exact ⟨acc, g1, Cm.smallL (by rw [g2, List.length_take]; have : (rowsD m).length = 4 := rfl; omega), g3⟩
  have hrl : xr.length = 4 := hxr.len
  rw [hrl] at b
  have bR : Bl K H2 D4 (rowsD m) H5 := b
  clear b
  -- attached
  have hch5 := Cm.sameT bR.1 hch2
  have hxh5 := hxh2.keep (Same.tups bR.1)
  refine ⟨_, rfl, ch, _, rfl, .inr hch5, _, rfl, (by rw [hlen]; decide), (by rw [hlen]; decide), fun D3 nD3 => ?_⟩
  simp only [List.set_cons_succ, List.set_cons_zero, List.map_cons, List.map_nil]
  have hn4 : (xh.length : Int).toNat = 4 := by
    rw [hlen]
    rfl
  rw [hn4]
  refine lc_range (n := 4) (fun i H => Bl K H5 D3 (attG ((flagsM m).take i) 0) H) (Bl.new nD3) (fun i H hi b => ?_) fun H6 b => ?_
  · have hi4 : i < (m.pars ++ m.flds).length := hi
    obtain ⟨fb, r, ed, hfb⟩ := (atF_held m).2 i _ (List.getElem?_eq_getElem hi4)
    obtain ⟨y, hy, ry⟩ := (hxh5.keep (Same.tups b.1)).at_ (List.getElem?_eq_getElem hi4)
    rw [ed] at ry
    obtain ⟨c, us, rfl, hc, hus⟩ := ry.tup_inv
    obtain ⟨v0, us, rfl, r0, hus⟩ := hus.cons_inv
    cases r0.bl_inv
    refine ⟨rfl, ?_⟩
    simp only [List.set_cons_succ, List.set_cons_zero, wipe]
    refine ⟨_, rfl, _, rfl, ch, _, _, _, rfl, rfl, Cm.sameT b.1 hch5, (by rw [Int.zero_add]; exact atI_nat hy), c, _, _, _, rfl, rfl, hc, at0, fb, rfl, ?_⟩
    rw [attG_take hfb]
    cases fb
    · show Bl K H5 D3 _ _
      rw [if_neg (by decide), List.append_nil]
      exact b
    · obtain ⟨acc, g1, g2, g3⟩ := b.push nD3 (Same.refl _) (.int (0 + (i : Int)))
      rw [Int.zero_add] at g3
      refine ⟨_, rfl, acc, g1, Cm.smallL (by rw [g2]; have h9 := attG_len ((flagsM m).take i) 0; rw [List.length_take] at h9; have h8 : (flagsM m).length = 4 := rfl; omega), ?_⟩
      rw [Int.zero_add]
      exact g3
  have bA : Bl K H5 D3 (attD m) H6 := b
  clear b
  obtain ⟨sA, aA, hA, rA⟩ := bA
  obtain ⟨_, aF, hF, rF⟩ := bF.same (bR.1.trans sA)
  obtain ⟨_, aR, hR, rR⟩ := bR.same sA
  refine ⟨D3, aA, rfl, .inl ⟨SqL.of hA, fun p1 n1 => ?_⟩⟩
  have s1' := Cm.same_new (o := .tup aA) n1
  have t6 := (t2.trans bR.1).trans sA
  have hm1 := Cm.sameT (t6.trans s1') hcmk
  obtain ⟨cp, xp, rfl, hcp, hxp⟩ := (rk1.keep (Same.tups (t6.trans s1'))).tup_inv
  refine ⟨_, rfl, cmk, _, _, _, rfl, rfl, hm1, at0, _, rfl, cmk, _, _, _, rfl, rfl, hm1, at1, cp, _, rfl, .inr hcp, ?_⟩
  refine ⟨_, rfl, D, aF, rfl, .inl ⟨SqL.of (s1' _ _ hF), fun p2 n2 => ?_⟩⟩
  have s2' := s1'.trans (Cm.same_new (o := .tup aF) n2)
  refine ⟨_, rfl, _, rfl, D4, aR, rfl, .inl ⟨SqL.of (s2' _ _ hR), fun p3 n3 => ?_⟩⟩
  have s3' := s2'.trans (Cm.same_new (o := .tup aR) n3)
  refine ⟨Cm.small (by show 5 ≤ 100000; decide), fun p4 n4 => ?_⟩
  have r1' := (Rp.made n1 rA).keep (Same.tups ((Cm.same_new n2).trans (Cm.same_new (o := .tup aR) n3)))
  have r2' := (Rp.made n2 (rF.keep (Same.tups s1'))).keep (Same.tups (Cm.same_new (o := .tup aR) n3))
  have r3' := Rp.made n3 (rR.keep (Same.tups s2'))
  refine q _ _ (t6.trans (s3'.trans (Cm.same_new n4))) ?_
  have hpl : xp.length = 2 := hxp.len
  rw [hpl]
  exact made n4 (.cons (.str m.nm) (.cons (.int _) (.cons r2' (.cons r1' (.cons r3' .nil)))))
/-! ### the image -/
def imageD (ms : List MkD) (b : Ss) : PyData := .tuple [.tuple (ms.map imgD), rowD "start" [] [] b]
def spCp (K : PySem.W.Frag) : Sp := fun vs H Q _ => ∃ (v : V) (d0 : PyData) (ms : List MkD) (b : Ss), vs = [v] ∧ Rp K H v (.tuple [d0, .tuple (ms.map MkD.d), .tuple b.ds]) ∧ (∀ m ∈ ms, m.Ok) ∧ ms.length ≤ 10 ∧ OkP [] b ∧
  ∀ (H' : Hp) (u : V), Same H H' → Rp K H' u (imageD ms b) → Q u H'
theorem bok_start {b : Ss} (o : OkP [] b) : BOk [] [] b := ⟨o, fun y h => (nomatch h), Nat.zero_le _, Nat.zero_le _⟩
theorem ok_cprog (T : Txt K mg w a) : FnOk P w K mg base CX0 87 (He.ga K "compile_program") a.d_compile_program ["program"] (spCp K) := by
  have gcm := ok_cmaker (P := P) (w := w) (base := base) T
  have gcr := ok_crow (P := P) (w := w) (base := base) T
  refine T.F_compile_program.ok sc_compile_program (fun vs H Q E h => ?_) (fun cdv A outer s H vs Q E hr h => ?_)
  · obtain ⟨_, _, _, _, rfl, _⟩ := h
    rfl
  obtain ⟨v, d0, ms, b, rfl, rv, oms, lms, ob, q⟩ := h
  refine ⟨_, PSs.nox (pss_cons (ps_setLc (i := 1) (own := [("maker", 2)]) (g := gName 2) (tt := tYes) (te := (tCall (spCm K) [] E0 (tCons (tVar 2) tNil))) (by rfl) sc_compile_program.nd rfl rfl (sw_true rfl rfl rfl (by decide +kernel)) (pi_tup (pe_ix ix_tup (pv 0) pe_int (fun _ _ => rfl))) (blkOk_by (own := [("maker", 2)]) (N := N_compile_program) (sc := defScope s_compile_program) (by decide +kernel)) (fun _ _ _ _ _ => pg_name (i := 2) sc_compile_program.nd rfl (Or.inl rfl)) (fun _ _ _ _ _ => pts_nil) (fun _ _ _ _ _ => (pe_call gcm (hr.mono (by omega)) (by rfl) T.g_compiled_maker T.F_compiled_maker.kp T.b_compiled_maker .nil pass0 (pa_cons (pv 2) pa_nil))))
      (pss_one (ps_ret (pe_tup (pa_cons (pe_callTy call_tuple_of (by rfl) T.g_tuple boot_tuple (pa_cons (pv 1) pa_nil)) (pa_cons (pe_call gcr (hr.mono (by omega)) (by rfl) T.g_compiled_row T.F_compiled_row.kp T.b_compiled_row .nil pass0 (pa_cons pe_str (pa_cons (pe_lst pa_nil) (pa_cons (pe_ix ix_tup (pv 0) pe_int (fun _ _ => rfl)) (pa_cons pe_dnewK pa_nil))))) pa_nil)))))), ?_⟩
  obtain ⟨cp, vp, rfl, hcp, hvp⟩ := rv.tup_inv
  obtain ⟨p0, vp, rfl, rp0, hvp⟩ := hvp.cons_inv
  obtain ⟨p1, vp, rfl, rp1, hvp⟩ := hvp.cons_inv
  obtain ⟨p2, vp, rfl, rp2, hvp⟩ := hvp.cons_inv
  cases hvp.nil_inv
  obtain ⟨cm, xm, rfl, hcm, hxm⟩ := rp1.tup_inv
  rw [show L2.start N_compile_program [V.ref cp] = [some (.ref cp), none, none] from rfl]
  have hml : xm.length = ms.length := hxm.len.trans (List.length_map _)
  refine ⟨_, rfl, cp, _, _, _, rfl, rfl, hcp, at1, cm, rfl, ⟨_, hcm⟩, fun D nD => ?_⟩
  simp only [List.set_cons_succ, List.set_cons_zero, List.map_cons, List.map_nil]
  refine lc_tup (K := K) (a := cm) (xs := xm) (fun i H1 => Bl K H D ((ms.map imgD).take i) H1) (Bl.new nD) (fun i H _ b => Cm.sameT b.1 hcm) (fun i x H1 hx bl => ?_) fun H1 bl => ?_
  · obtain ⟨d, hd, rx⟩ := rps_at (hxm.keep (Same.tups bl.1)) hx
    rw [List.getElem?_map] at hd
    obtain ⟨m, hm, rfl⟩ := Option.map_eq_some_iff.mp hd
    refine ⟨rfl, ?_⟩
    refine ⟨_, rfl, x, m, rfl, rx, oms m (List.mem_of_getElem? hm), fun H2 u s2 r2 => ?_⟩
    rw [take_one (d := imgD m) (by rw [List.getElem?_map, hm]; rfl)]
    obtain ⟨acc, g1, g2, g3⟩ := bl.push nD s2 r2
    exact ⟨acc, g1, Cm.smallL (by rw [g2, List.length_take, List.length_map]; omega), g3⟩
  rw [hml, show ms.length = (ms.map imgD).length from (List.length_map _).symm, List.take_length] at bl
  obtain ⟨s1, acc, hD, rD⟩ := bl
  refine ⟨_, rfl, D, acc, rfl, .inl ⟨SqL.of hD, fun p1 n1 => ?_⟩⟩
  have s2 := s1.trans (Cm.same_new (o := .tup acc) n1)
  have r1 := Rp.made n1 rD
  refine ⟨Nat.zero_le _, fun p3 n3 => ?_⟩
  have s3 := s2.trans (Cm.same_new (o := .lst []) n3)
  refine ⟨_, rfl, cp, _, _, _, rfl, rfl, Cm.sameT s3 hcp, at2, fun p4 n4 => ?_⟩
  have s4 := s3.trans (Cm.same_new (o := .dK []) n4)
  refine ⟨"start", p3, [], p2, b, .ref p4, [], rfl, (Cm.same_new n4) _ _ upd_same, rp2.keep (Same.tups s4), ⟨p4, [], rfl, PlI.new n4⟩, bok_start ob, fun H5 u5 s5 r5 => ?_⟩
  refine ⟨Cm.small (by show 2 ≤ 100000; decide), fun p6 n6 => ?_⟩
  exact q _ _ ((s4.trans s5).trans (Cm.same_new n6)) (made n6 (.cons (r1.keep (Same.tups (((Cm.same_new n3).trans (Cm.same_new n4)).trans s5))) (.cons r5 .nil)))
/-! ### makers and rows are found -/
def startM (b : Ss) : PyData := .tuple [.str "start", .int 0, .tuple [], .tuple [], .tuple [rowD "start" [] [] b]]
def mkOf (ms : List MkD) (b : Ss) (nm : Str) : Option PyData := if nm = "start" then some (startM b) else (ms.find? fun m => decide (m.nm = nm)).map imgD
def spMo (K : PySem.W.Frag) : Sp := fun vs H Q E => ∃ (v : V) (nm : Str) (ms : List MkD) (b : Ss), vs = [v, .str nm] ∧ Rp K H v (imageD ms b) ∧ ms.length ≤ 10 ∧ nm.length ≤ 1000 ∧
  (∀ (d : PyData), mkOf ms b nm = some d → ∀ (H' : Hp) (u : V), Same H H' → Rp K H' u d → Q u H') ∧ (mkOf ms b nm = none → E (.ref (He.ga K "Missing")) none H)
theorem find_none {α : Type} {p : α → Bool} {l : List α} {i : Nat} {x : α} (h : (l.take i).find? p = none) (hx : l[i]? = some x) (hp : p x = false) : (l.take (i + 1)).find? p = none := by
  rw [List.take_succ, hx, List.find?_append, h]
  show (none <|> [x].find? p) = none
  simp [hp]
theorem find_here {α : Type} {p : α → Bool} {l : List α} {i : Nat} {x : α} (h : (l.take i).find? p = none) (hx : l[i]? = some x) (hp : p x = true) : l.find? p = some x := by
  have e : l = l.take i ++ (x :: l.drop (i + 1)) := by
    have h1 := (List.getElem?_eq_some_iff.mp hx)
    obtain ⟨h2, h3⟩ := h1
    conv => lhs; rw [← List.take_append_drop i l, List.drop_eq_getElem_cons h2, h3]
  rw [e, List.find?_append, h]
  show (none <|> (x :: l.drop (i + 1)).find? p) = some x
  simp [List.find?_cons, hp]
theorem ok_mkof (T : Txt K mg w a) : FnOk P w K mg base (L2.CX P w) 1 (He.ga K "maker_of") a.d_maker_of ["image", "name"] (spMo K) := by
  refine T.F_maker_of.ok (CX := L2.CX P w) sc_maker_of (fun vs H Q E h => ?_) (fun cdv A outer s H vs Q E hr h => ?_)
  · obtain ⟨_, _, _, _, rfl, _⟩ := h
    rfl
  obtain ⟨v, nm, ms, b, rfl, rv, lms, lnm, q, qe⟩ := h
  refine ⟨_, (pss_cons (ps_asg (pv 0) (pg_tup (by rfl) (pgs_cons (pg_name (i := 2) sc_maker_of.nd rfl (Or.inl rfl)) (pgs_cons (pg_name (i := 3) sc_maker_of.nd rfl (Or.inl rfl)) pgs_nil))))
      (pss_cons (ps_if (pt_cmpR op_eq (pv 1) pe_str (nomark _)) (pss_one (ps_ret (pe_tup (pa_cons pe_str (pa_cons pe_int (pa_cons (pe_tup pa_nil) (pa_cons (pe_tup pa_nil) (pa_cons (pe_tup (pa_cons (pv 3) pa_nil)) pa_nil)))))))) pss_nil)
      (pss_cons (ps_for (passes_of rfl) rfl (pi_tup (pv 2)) (pg_name (i := 4) sc_maker_of.nd rfl (Or.inl rfl))
      (pss_one (ps_if (pt_cmpR op_eq (pe_ix ix_tup (pv 4) pe_int (fun _ _ => rfl)) (pv 1) (nomark _)) (pss_one (ps_ret (pv 4))) pss_nil)))
      (pss_one (ps_raise rfl (takes_of rfl rfl rfl rfl) (SkE.pmk_own1 PySem.F.excBase_ValueError T.x_Missing T.g_Missing T.k_Missing (raises_own T.s_Missing T.t_Missing) (by rfl) (pe_joined (.cons pe_str (.cons (pe_fmt (pv 1)) .nil))))))))), ?_⟩
  obtain ⟨ci, vi, rfl, hci, hvi⟩ := rv.tup_inv
  obtain ⟨i0, vi, rfl, ri0, hvi⟩ := hvi.cons_inv
  obtain ⟨i1, vi, rfl, ri1, hvi⟩ := hvi.cons_inv
  cases hvi.nil_inv
  obtain ⟨cm, xm, rfl, hcm, hxm⟩ := ri0.tup_inv
  rw [show L2.start N_maker_of [V.ref ci, .str nm] = [some (.ref ci), some (.str nm), none, none, none] from rfl]
  refine ⟨_, rfl, ci, _, rfl, hci, rfl, _, _, rfl, _, _, rfl, rfl, ?_⟩
  simp only [List.set_cons_succ, List.set_cons_zero]
  have hml : xm.length = ms.length := hxm.len.trans (List.length_map _)
  refine ⟨_, rfl, rfl, _, rfl, Cm.itES (fun e => ?_) (fun e => ?_)⟩
  · refine ⟨Nat.zero_le _, fun p1 n1 => ⟨Nat.zero_le _, fun p2 n2 => ⟨_, rfl, Cm.small (by show 1 ≤ 100000; decide), fun p3 n3 => ⟨Cm.small (by show 5 ≤ 100000; decide), fun p4 n4 => ?_⟩⟩⟩⟩
    have s3 := ((Cm.same_new (o := .tup []) n1).trans (Cm.same_new (o := .tup []) n2))
    have r3 := made (K := K) n3 (.cons (ri1.keep (Same.tups s3)) .nil)
    have r1 := (made (K := K) n1 .nil).keep (Same.tups ((Cm.same_new (o := .tup []) n2).trans (Cm.same_new (o := .tup [i1]) n3)))
    have r2 := (made (K := K) n2 .nil).keep (Same.tups (Cm.same_new (o := .tup [i1]) n3))
    refine q (startM b) (by rw [mkOf, if_pos e]) _ _ (s3.trans ((Cm.same_new n3).trans (Cm.same_new n4))) ?_
    exact made n4 (.cons (.str "start") (.cons (.int 0) (.cons r1 (.cons r2 (.cons r3 .nil)))))
  refine ⟨_, rfl, cm, rfl, ⟨_, hcm⟩, ?_⟩
  refine for_tup (K := K) (a := cm) (xs := xm) (fun i σ H1 => ∃ x4 : Option V, σ = [some (.ref ci), some (.str nm), some (.ref cm), some i1, x4] ∧ H1 = H ∧ (ms.take i).find? (fun m => decide (m.nm = nm)) = none) ⟨_, rfl, rfl, rfl⟩ (fun i σ H1 _ ⟨_, _, e1, _⟩ => by rw [e1]; exact hcm) (fun i x σ H1 hx ⟨x4, e0, e1, hn⟩ => ?_) fun σ H1 ⟨x4, e0, e1, hn⟩ => ?_
  · subst e0 e1
    obtain ⟨d, hd, rx⟩ := rps_at hxm hx
    rw [List.getElem?_map] at hd
    obtain ⟨m, hm, rfl⟩ := Option.map_eq_some_iff.mp hd
    obtain ⟨c, us, rfl, hc, hus⟩ := id rx.tup_inv
    obtain ⟨v0, us, rfl, r0, hus⟩ := hus.cons_inv
    cases r0.str_inv
    refine ⟨_, rfl, c, _, _, _, rfl, rfl, hc, at0, _, rfl, rfl, _, rfl, Cm.itES (fun e2 => ?_) (fun e2 => ?_)⟩
    · refine ⟨_, rfl, q (imgD m) ?_ _ _ (Same.refl _) rx⟩
      rw [mkOf, if_neg e, find_here hn hm (decide_eq_true e2)]
      rfl
    · exact ⟨_, rfl, rfl, find_none hn hm (decide_eq_false e2)⟩
  · subst e0 e1
    rw [hml, List.take_length] at hn
    have l1 : (Str.empty ++ ("there is no maker " : Str)).length ≤ 100 := by decide +kernel
    refine ⟨("there is no maker " : Str), rfl, Cm.small (by omega), _, rfl, .inl ⟨nm, rfl, Cm.small (by omega), nm, rfl, ?_, ?_⟩⟩
    · rw [Str.length_append]
      exact Cm.small (by omega)
    · exact qe (by rw [mkOf, if_neg e, hn]; rfl)
/-- the rows of a maker -/
def rowsOf (ms : List MkD) (b : Ss) (nm : Str) : Option (List PyData) := if nm = "start" then some [rowD "start" [] [] b] else (ms.find? fun m => decide (m.nm = nm)).map rowsD
def rowNm : PyData → Str
  | .tuple (.str x :: _) => x
  | _ => Str.empty
def rwOf (ms : List MkD) (b : Ss) (nm op : Str) : Option PyData := (rowsOf ms b nm).bind fun rs => rs.find? fun r => decide (rowNm r = op)
def IsRow (r : PyData) : Prop := ∃ (x : Str) (tl : List PyData), r = .tuple (.str x :: tl)
theorem rows_are (m : MkD) : ∀ r ∈ rowsD m, IsRow r := fun r h => by
  have h' : r = rowD "get" [] fieldS m.get ∨ r = rowD "put" ["v"] fieldS m.put ∨ r = rowD "link" ["c"] fieldS m.link ∨ r = rowD "both" ["c", "v"] fieldS m.both := by
    simpa [rowsD] using h
  rcases h' with rfl | rfl | rfl | rfl <;> exact ⟨_, _, rfl⟩
theorem mkOf_some {ms : List MkD} {b : Ss} {nm : Str} {d : PyData} (h : mkOf ms b nm = some d) : ∃ (x y z n : PyData) (rs : List PyData), d = .tuple [x, y, z, n, .tuple rs] ∧ rowsOf ms b nm = some rs ∧ rs.length ≤ 10 ∧ ∀ r ∈ rs, IsRow r := by
  unfold mkOf at h
  unfold rowsOf
  by_cases e : nm = "start"
  · rw [if_pos e] at h ⊢
    cases h
    exact ⟨_, _, _, _, _, rfl, rfl, by show 1 ≤ 10; decide, fun r hr => by rw [List.mem_singleton.mp hr]; exact ⟨_, _, rfl⟩⟩
  · rw [if_neg e] at h ⊢
    obtain ⟨m, hm, rfl⟩ := Option.map_eq_some_iff.mp h
    rw [hm]
    exact ⟨_, _, _, _, _, rfl, rfl, by show 4 ≤ 10; decide, rows_are m⟩
theorem mkOf_none {ms : List MkD} {b : Ss} {nm : Str} (h : mkOf ms b nm = none) : rowsOf ms b nm = none := by
  unfold mkOf at h
  unfold rowsOf
  by_cases e : nm = "start"
  · rw [if_pos e] at h
    cases h
  · rw [if_neg e] at h ⊢
    rw [Option.map_eq_none_iff] at h ⊢
    exact h
def spRo (K : PySem.W.Frag) : Sp := fun vs H Q E => ∃ (v : V) (nm op : Str) (ms : List MkD) (b : Ss), vs = [v, .str nm, .str op] ∧ Rp K H v (imageD ms b) ∧ ms.length ≤ 10 ∧ nm.length ≤ 1000 ∧ op.length ≤ 1000 ∧
  (∀ (d : PyData), rwOf ms b nm op = some d → ∀ (H' : Hp) (u : V), Same H H' → Rp K H' u d → Q u H') ∧ (rwOf ms b nm op = none → ∀ H', Same H H' → E (.ref (He.ga K "Missing")) none H')
theorem ok_rowof (T : Txt K mg w a) : FnOk P w K mg base (L2.CX P w) 2 (He.ga K "row_of") a.d_row_of ["image", "maker", "operation"] (spRo K) := by
  have gmk := ok_mkof (P := P) (w := w) (base := base) T
  refine T.F_row_of.ok (CX := L2.CX P w) sc_row_of (fun vs H Q E h => ?_) (fun cdv A outer s H vs Q E hr h => ?_)
  · obtain ⟨_, _, _, _, _, rfl, _⟩ := h
    rfl
  obtain ⟨v, nm, op, ms, b, rfl, rv, lms, lnm, lop, q, qe⟩ := h
  refine ⟨_, (pss_cons (ps_for (passes_of rfl) rfl (pi_tup (pe_ix ix_tup (pe_callS gmk (hr.mono (by omega)) (by rfl) T.g_maker_of T.F_maker_of.kp T.b_maker_of (fun σ => passAt (takes_of rfl rfl rfl rfl) σ) (pa_cons (pv 0) (pa_cons (pv 1) pa_nil))) pe_int (fun _ _ => rfl))) (pg_name (i := 3) sc_row_of.nd rfl (Or.inl rfl))
      (pss_one (ps_if (pt_cmpR op_eq (pe_ix ix_tup (pv 3) pe_int (fun _ _ => rfl)) (pv 2) (nomark _)) (pss_one (ps_ret (pv 3))) pss_nil)))
      (pss_one (ps_raise rfl (takes_of rfl rfl rfl rfl) (SkE.pmk_own1 PySem.F.excBase_ValueError T.x_Missing T.g_Missing T.k_Missing (raises_own T.s_Missing T.t_Missing) (by rfl) (pe_joined (.cons (pe_fmt (pv 1)) (.cons pe_str (.cons (pe_fmt (pv 2)) .nil)))))))), ?_⟩
  rw [show L2.start N_row_of [v, .str nm, .str op] = [some v, some (.str nm), some (.str op), none] from rfl]
  refine ⟨_, rfl, _, rfl, v, nm, ms, b, rfl, rv, lms, lnm, fun d hd H1 u s1 r1 => ?_, fun hn => qe (by rw [rwOf, mkOf_none hn]; rfl) H (Same.refl _)⟩
  obtain ⟨x0, x1, x2, x3, rs, rfl, hrs, lrs, irs⟩ := mkOf_some hd
  obtain ⟨cm, xm, rfl, hcm, hxm⟩ := r1.tup_inv
  obtain ⟨v0, us, rfl, _, hus⟩ := hxm.cons_inv
  obtain ⟨v1, us, rfl, _, hus⟩ := hus.cons_inv
  obtain ⟨v2, us, rfl, _, hus⟩ := hus.cons_inv
  obtain ⟨v3, us, rfl, _, hus⟩ := hus.cons_inv
  obtain ⟨v4, us, rfl, r4, hus⟩ := hus.cons_inv
  cases hus.nil_inv
  obtain ⟨cr, xr, rfl, hcr, hxr⟩ := r4.tup_inv
  have hrl : xr.length = rs.length := hxr.len
  refine ⟨cm, _, _, _, rfl, rfl, hcm, atI_nat (j := 4) rfl, cr, rfl, ⟨_, hcr⟩, ?_⟩
  refine for_tup (K := K) (a := cr) (xs := xr) (fun i σ H2 => ∃ x4 : Option V, σ = [some v, some (.str nm), some (.str op), x4] ∧ H2 = H1 ∧ (rs.take i).find? (fun r => decide (rowNm r = op)) = none) ⟨_, rfl, rfl, rfl⟩ (fun i σ H2 _ ⟨_, _, e1, _⟩ => by rw [e1]; exact hcr) (fun i x σ H2 hx ⟨x4, e0, e1, hn⟩ => ?_) fun σ H2 ⟨x4, e0, e1, hn⟩ => ?_
  · subst e0 e1
    obtain ⟨d, hd2, rx⟩ := rps_at hxr hx
    obtain ⟨rn, tl, rfl⟩ := irs d (List.mem_of_getElem? hd2)
    obtain ⟨c, us, rfl, hc, hus⟩ := id rx.tup_inv
    obtain ⟨v0, us, rfl, r0, hus⟩ := hus.cons_inv
    cases r0.str_inv
    refine ⟨_, rfl, c, _, _, _, rfl, rfl, hc, at0, _, rfl, rfl, _, rfl, Cm.itES (fun e2 => ?_) (fun e2 => ?_)⟩
    · refine ⟨_, rfl, q _ ?_ _ _ s1 rx⟩
      rw [rwOf, hrs]
      exact find_here hn hd2 (decide_eq_true e2)
    · exact ⟨_, rfl, rfl, find_none hn hd2 (decide_eq_false e2)⟩
  · subst e0 e1
    rw [hrl, List.take_length] at hn
    have l1 : (" has no operation " : Str).length ≤ 100 := by decide +kernel
    have l0 : Str.empty.length = 0 := rfl
    refine ⟨_, rfl, .inl ⟨nm, rfl, Cm.small (by omega), nm, rfl, ?_, (" has no operation " : Str), rfl, ?_, _, rfl, .inl ⟨op, rfl, Cm.small (by omega), op, rfl, ?_, ?_⟩⟩⟩
    · rw [Str.length_append]
      exact Cm.small (by omega)
    · rw [Str.length_append, Str.length_append]
      exact Cm.small (by omega)
    · rw [Str.length_append, Str.length_append, Str.length_append]
      exact Cm.small (by omega)
    · exact qe (by rw [rwOf, hrs]; exact hn) _ s1
/-! ### images may be compared -/
def Gd (d : PyData) (n : Nat) : Prop := d.canLay0 = true ∧ d.depth ≤ n
def GdA (ds : List PyData) (n : Nat) : Prop := PyData.canLayAll0 ds = true ∧ PyData.depthAll ds ≤ n
theorem gd_nil {n : Nat} : GdA [] n := ⟨rfl, Nat.zero_le _⟩
theorem gd_cons {d : PyData} {ds : List PyData} {n : Nat} (h : Gd d n) (hs : GdA ds n) : GdA (d :: ds) n := ⟨layAll_cons h.1 hs.1, Nat.max_le.mpr ⟨h.2, hs.2⟩⟩
theorem gd_tup {ds : List PyData} {n : Nat} (h : GdA ds n) : Gd (.tuple ds) (n + 1) := ⟨by have h1 := h.1; simpa [PyData.canLay0] using h1, Nat.succ_le_succ h.2⟩
theorem gd_int {i : Int} {n : Nat} : Gd (.int i) n := ⟨layI, Nat.zero_le _⟩
theorem gd_str {x : Str} {n : Nat} (h : PyData.strOk x = true) : Gd (.str x) n := ⟨tx h, Nat.zero_le _⟩
theorem gd_mono {d : PyData} {n m : Nat} (h : Gd d n) (hm : n ≤ m) : Gd d m := ⟨h.1, Nat.le_trans h.2 hm⟩
theorem gd_app {xs ys : List PyData} {n : Nat} (h : GdA xs n) (h2 : GdA ys n) : GdA (xs ++ ys) n := ⟨layAll_app h.1 h2.1, dAll_app h.2 h2.2⟩
theorem gd_attG : ∀ (bs : List Bool) (j : Nat), GdA (attG bs j) 0
  | [], _ => gd_nil
  | b :: bs, j => by
    refine gd_app ?_ (gd_attG bs (j + 1))
    cases b
    · exact gd_nil
    · exact gd_cons gd_int gd_nil
theorem plGo_ok {w : Str} (hw : w = "local" ∨ w = "field") : ∀ {xs : List Str} {j : Nat} {pl : Plc}, PlOk pl → PlOk (plGo w xs j pl)
  | [], _, _, h => h
  | x :: xs, j, pl, h => plGo_ok hw (xs := xs) fun y => by
    show (if y = x then (w, (j : Int)) else pl y).1 = _ ∨ (if y = x then (w, (j : Int)) else pl y).1 = _
    by_cases e : y = x
    · rw [if_pos e]
      exact hw
    · rw [if_neg e]
      exact h y
theorem plOf_ok (fs ns : List Str) : PlOk (plOf fs ns) := plGo_ok (.inl rfl) (plGo_ok (.inr rfl) fun _ => .inl rfl)
theorem gd_row {nm : Str} {ps fs : List Str} {b : Ss} (hn : PyData.strOk nm = true) (hb : PyData.canLayAll0 b.ds = true) : Gd (rowD nm ps fs b) 3 :=
  gd_tup (gd_cons (gd_str hn) (gd_cons gd_int (gd_cons gd_int (gd_cons (gd_tup ⟨laySs (plOf_ok fs _) b 0 hb, dSs b 0⟩) gd_nil))))
theorem gd_rows (m : MkD) (om : m.Ok) : GdA (rowsD m) 3 :=
  gd_cons (gd_row (by decide +kernel) om.get.lay) (gd_cons (gd_row (by decide +kernel) om.put.lay) (gd_cons (gd_row (by decide +kernel) om.link.lay) (gd_cons (gd_row (by decide +kernel) om.both.lay) gd_nil)))
theorem gd_img (m : MkD) (om : m.Ok) (hn : PyData.strOk m.nm = true) : Gd (imgD m) 5 :=
  gd_tup (gd_cons (gd_str hn) (gd_cons gd_int (gd_cons (gd_mono (gd_tup (n := 1) (gd_cons (gd_tup (gd_cons (gd_str (by decide +kernel)) gd_nil)) (gd_cons gd_int gd_nil))) (by decide)) (gd_cons (gd_mono (gd_tup (gd_attG _ 0)) (by decide)) (gd_cons (gd_tup (gd_rows m om)) gd_nil)))))
theorem gd_start {b : Ss} (ob : OkP [] b) : Gd (rowD "start" [] [] b) 3 := gd_row (by decide +kernel) ob.lay
theorem gd_startM {b : Ss} (ob : OkP [] b) : Gd (startM b) 5 :=
  gd_tup (gd_cons (gd_str (by decide +kernel)) (gd_cons gd_int (gd_cons (gd_mono (gd_tup (n := 0) gd_nil) (by decide)) (gd_cons (gd_mono (gd_tup (n := 0) gd_nil) (by decide)) (gd_cons (gd_tup (gd_cons (gd_start ob) gd_nil)) gd_nil)))))
theorem gd_imgs : ∀ {ms : List MkD}, (∀ m ∈ ms, m.Ok ∧ PyData.strOk m.nm = true) → GdA (ms.map imgD) 5
  | [], _ => gd_nil
  | m :: ms, h => gd_cons (gd_img m (h m List.mem_cons_self).1 (h m List.mem_cons_self).2) (gd_imgs fun x hx => h x (List.mem_cons_of_mem _ hx))
theorem gd_image {ms : List MkD} {b : Ss} (h : ∀ m ∈ ms, m.Ok ∧ PyData.strOk m.nm = true) (ob : OkP [] b) : Gd (imageD ms b) 7 := gd_tup (gd_cons (gd_tup (gd_imgs h)) (gd_cons (gd_mono (gd_start ob) (by decide)) gd_nil))
theorem gd_shaped {d : PyData} {n : Nat} (h : Gd d n) (hn : n ≤ 64) : SeqAt.shaped d = true := shaped_of h.1 (Nat.le_trans h.2 hn)
theorem gd_eqv {d : PyData} {n : Nat} (h : Gd d n) (hn : n ≤ 64) : PyData.eqv d d = true := SeqAt.eqv_refl _ (SeqAt.canLay_of_shaped (gd_shaped h hn))
/-- two of the same are not different -/
theorem ne_same {K : PySem.W.Frag} {H : Hp} {x y : V} {d : PyData} {n : Nat} {Q : VK} (hx : Rp K H x d) (hy : Rp K H y d) (h : Gd d n) (hn : n ≤ 64) (q : Q (.bl false) H) : rNeD K x y H Q := by
  refine ⟨_, _, hx.dp, hy.dp, gd_shaped h hn, gd_shaped h hn, ?_⟩
  rw [gd_eqv h hn]
  exact q
/-! ### what is found -/
structure Two (ms : List MkD) : Prop where
  ok : ∀ m ∈ ms, m.Ok ∧ PyData.strOk m.nm = true
  nm : ∀ m ∈ ms, m.nm = "Box" ∨ m.nm = "Pair"
  nd : ∀ m ∈ ms, ms.find? (fun x => decide (x.nm = m.nm)) = some m
  len : ms.length = 2
theorem two_of {x y : MkD} (ox : x.Ok) (oy : y.Ok) (h : (x.nm = "Box" ∧ y.nm = "Pair") ∨ (x.nm = "Pair" ∧ y.nm = "Box")) : Two [x, y] := by
  have hx : x.nm = "Box" ∨ x.nm = "Pair" := h.elim (fun h => .inl h.1) fun h => .inr h.1
  have hy : y.nm = "Box" ∨ y.nm = "Pair" := h.elim (fun h => .inr h.2) fun h => .inl h.2
  have so : ∀ {z : MkD}, (z.nm = "Box" ∨ z.nm = "Pair") → PyData.strOk z.nm = true := fun {z} hz => by
    rcases hz with e | e <;> rw [e] <;> decide +kernel
  have ne : ¬ x.nm = y.nm := by
    rcases h with ⟨e1, e2⟩ | ⟨e1, e2⟩ <;> rw [e1, e2] <;> decide
  have mem : ∀ m ∈ [x, y], m = x ∨ m = y := fun m hm => by simpa using hm
  refine ⟨fun m hm => ?_, fun m hm => ?_, fun m hm => ?_, rfl⟩
  · rcases mem m hm with rfl | rfl
    · exact ⟨ox, so hx⟩
    · exact ⟨oy, so hy⟩
  · rcases mem m hm with rfl | rfl
    · exact hx
    · exact hy
  · rcases mem m hm with rfl | rfl
    · simp
    · simp [ne]
theorem Two.found {ms : List MkD} {b : Ss} (h : Two ms) {m : MkD} (hm : m ∈ ms) : mkOf ms b m.nm = some (imgD m) := by
  have e : ¬ m.nm = "start" := by
    rcases h.nm m hm with e | e <;> rw [e] <;> decide
  rw [mkOf, if_neg e, h.nd m hm]
  rfl
theorem Two.rows {ms : List MkD} {b : Ss} (h : Two ms) {m : MkD} (hm : m ∈ ms) : rowsOf ms b m.nm = some (rowsD m) := by
  have e : ¬ m.nm = "start" := by
    rcases h.nm m hm with e | e <;> rw [e] <;> decide
  rw [rowsOf, if_neg e, h.nd m hm]
  rfl
theorem row_nm {x : Str} {ps fs : List Str} {b : Ss} : rowNm (rowD x ps fs b) = x := rfl
theorem Two.row {ms : List MkD} {b : Ss} (h : Two ms) {m : MkD} (hm : m ∈ ms) {r : PyData} (hr : r ∈ rowsD m) : rwOf ms b m.nm (rowNm r) = some r := by
  rw [rwOf, h.rows hm, Option.bind_some]
  have h' : r = rowD "get" [] fieldS m.get ∨ r = rowD "put" ["v"] fieldS m.put ∨ r = rowD "link" ["c"] fieldS m.link ∨ r = rowD "both" ["c", "v"] fieldS m.both := by
    simpa [rowsD] using hr
  have n1 : ¬ ("get" : Str) = "put" := by decide
  have n2 : ¬ ("get" : Str) = "link" := by decide
  have n3 : ¬ ("get" : Str) = "both" := by decide
  have n4 : ¬ ("put" : Str) = "link" := by decide
  have n5 : ¬ ("put" : Str) = "both" := by decide
  have n6 : ¬ ("link" : Str) = "both" := by decide
  rcases h' with rfl | rfl | rfl | rfl <;> simp [rowsD, row_nm, List.find?_cons, n1, n2, n3, n4, n5, n6]
theorem Two.noRow {ms : List MkD} {b : Ss} (h : Two ms) {m : MkD} (hm : m ∈ ms) {op : Str} (h1 : ¬ ("get" : Str) = op) (h2 : ¬ ("put" : Str) = op) (h3 : ¬ ("link" : Str) = op) (h4 : ¬ ("both" : Str) = op) : rwOf ms b m.nm op = none := by
  rw [rwOf, h.rows hm, Option.bind_some]
  simp [rowsD, row_nm, List.find?_cons, h1, h2, h3, h4]
theorem Two.noMk {ms : List MkD} {b : Ss} (h : Two ms) {nm : Str} (h0 : ¬ nm = "start") (h1 : ¬ ("Box" : Str) = nm) (h2 : ¬ ("Pair" : Str) = nm) : mkOf ms b nm = none := by
  rw [mkOf, if_neg h0]
  have e : ms.find? (fun x => decide (x.nm = nm)) = none := by
    rw [List.find?_eq_none]
    intro m hm
    rcases h.nm m hm with e | e <;> rw [e] <;> simp [h1, h2]
  rw [e]
  rfl
theorem start_row {ms : List MkD} {b : Ss} : rwOf ms b "start" "start" = some (rowD "start" [] [] b) := by
  rw [rwOf, show rowsOf ms b "start" = some [rowD "start" [] [] b] from rfl, Option.bind_some]
  simp [row_nm]
theorem start_noRow {ms : List MkD} {b : Ss} : rwOf ms b "start" "get" = none := by
  have n : ¬ ("start" : Str) = "get" := by decide
  rw [rwOf, show rowsOf ms b "start" = some [rowD "start" [] [] b] from rfl, Option.bind_some]
  simp [row_nm, n]
theorem start_mk {ms : List MkD} {b : Ss} : mkOf ms b "start" = some (startM b) := rfl
theorem gd_mem {n : Nat} : ∀ {ds : List PyData} {d : PyData}, GdA ds n → d ∈ ds → Gd d n
  | x :: xs, d, h, hd => by
    obtain ⟨h1, h2⟩ := h
    obtain ⟨l1, l2⟩ := lay_c h1
    obtain ⟨m1, m2⟩ := Nat.max_le.mp (show max x.depth (PyData.depthAll xs) ≤ n from h2)
    rcases List.mem_cons.mp hd with rfl | hd
    · exact ⟨l1, m1⟩
    · exact gd_mem (ds := xs) ⟨l2, m2⟩ hd
theorem row_len (m : MkD) {r : PyData} (hr : r ∈ rowsD m) : (rowNm r).length ≤ 1000 := by
  have h' : r = rowD "get" [] fieldS m.get ∨ r = rowD "put" ["v"] fieldS m.put ∨ r = rowD "link" ["c"] fieldS m.link ∨ r = rowD "both" ["c", "v"] fieldS m.both := by
    simpa [rowsD] using hr
  rcases h' with rfl | rfl | rfl | rfl <;> rw [row_nm] <;> decide +kernel
theorem Txt.e_Missing (T : Txt K mg w a) : ExcC K (He.ga K "Missing") := ⟨T.m1_, T.m2_, T.s_Missing, T.m4_, T.m5_, T.m6_, T.m7_, T.m8_⟩
theorem pss_cls {X : Cx} {cls cls' : Value} {d d' : Option Addr} {ss : List Stmt} {t : TS} (h : cls = cls' → d = d' → PSs X ss t) : PSs X ss (fun D σ H => cls = cls' ∧ d = d' ∧ t D σ H) :=
  ⟨fun pins s σ H D I hh => (h hh.1 hh.2.1).run pins s σ H D I hh.2.2⟩
theorem zc_of {cls cls' : Value} {d d' : Option Addr} {o : Obj} (h1 : cls = cls') (h2 : d = d') (hz : Zc cls d o) : Zc cls' d' o := by
  subst h1 h2
  exact hz
def spMi (K : PySem.W.Frag) : Sp := fun vs H Q E => ∃ (v : V) (nm : Str) (o : V) (ms : List MkD) (b : Ss), vs = [v, .str nm, o] ∧ Rp K H v (imageD ms b) ∧ ms.length ≤ 10 ∧ nm.length ≤ 1000 ∧
  ((o = .non ∧ mkOf ms b nm = none) ∨ ∃ op : Str, o = .str op ∧ op.length ≤ 1000 ∧ rwOf ms b nm op = none) ∧ ∀ (H' : Hp), Same H H' → Q (.bl true) H'
theorem ok_missing (T : Txt K mg w a) : FnOk P w K mg base CX0 3 (He.ga K "_law_missing") a.d_lw_missing ["image", "maker", "operation"] (spMi K) := by
  have gmk := ok_mkof (P := P) (w := w) (base := base) T
  have grw := ok_rowof (P := P) (w := w) (base := base) T
  refine T.F_lw_missing.ok sc_lw_missing (fun vs H Q E h => ?_) (fun cdv A outer s H vs Q E hr h => ?_)
  · obtain ⟨_, _, _, _, _, rfl, _⟩ := h
    rfl
  obtain ⟨v, nm, o, ms, b, rfl, rv, lms, lnm, ho, q⟩ := h
  refine ⟨_, PSs.nox (pss_cons (ps_try_as (i := 3) rfl rfl sc_lw_missing.nd rfl rfl ⟨rfl, by decide, .inl T.g_Missing⟩ takes0 (fun W pn xe tk _ => (pss_one (ps_if (pt_cmpR op_isN (pv 2) pe_non (nomark _)) (pss_one (ps_expr (pe_callS gmk (hr.mono (by omega)) (by rfl) T.g_maker_of T.F_maker_of.kp T.b_maker_of (fun σ => passAt tk σ) (pa_cons (pv 0) (pa_cons (pv 1) pa_nil))))) (pss_one (ps_expr (pe_callS grw (hr.mono (by omega)) (by rfl) T.g_row_of T.F_row_of.kp T.b_row_of (fun σ => passAt tk σ) (pa_cons (pv 0) (pa_cons (pv 1) (pa_cons (pv 2) pa_nil)))))))))
      (fun a oe cls d pn hz hf => pss_cls (cls' := .ref (He.ga K "Missing")) (d' := none) fun z1 z2 => (pss_one (ps_ret (pe_and (pe_callB (call_isE T.e_Missing (zc_of z1 z2 hz) hf) (by rfl) T.g_isinstance boot_isinstance (pa_cons (pv 3) (pa_cons (pe_glob (v := .ref (He.ga K "PortError")) (by rfl) T.g_PortError rfl) pa_nil))) (pe_one (pe_not (pe_callB (call_isE T.e_Missing (zc_of z1 z2 hz) hf) (by rfl) T.g_isinstance boot_isinstance (pa_cons (pv 3) (pa_cons (pe_glob (v := .ref (He.ga K "NotAllowed")) (by rfl) T.g_NotAllowed rfl) pa_nil))))))))))
      (pss_one (ps_ret pe_bl))), ?_⟩
  rw [show L2.start N_lw_missing [v, .str nm, o] = [some v, some (.str nm), some o, none] from rfl]
  rcases ho with ⟨rfl, hn⟩ | ⟨op, rfl, lop, hn⟩
  · refine ⟨_, rfl, rfl, _, rfl, Cm.itD (fun _ => ?_) (fun e => absurd rfl e)⟩
    refine ⟨_, rfl, _, rfl, v, nm, ms, b, rfl, rv, lms, lnm, (fun d hd => by rw [hn] at hd; cases hd), fun _ => ⟨true, T.e1_, fun _ e' ha => ⟨rfl, rfl, ?_⟩, fun z => nomatch z⟩⟩
    refine ⟨_, rfl, _, .ref (He.ga K "PortError"), true, rfl, (fun u h => h), T.e2_, true, rfl, ?_⟩
    rw [if_pos rfl]
    refine ⟨_, rfl, _, .ref (He.ga K "NotAllowed"), false, rfl, (fun u h => h), T.e3_, ?_⟩
    exact ⟨false, rfl, q _ (Same.refl _)⟩
  · refine ⟨_, rfl, rfl, _, rfl, Cm.itD (fun e => nomatch e) (fun _ => ?_)⟩
    refine ⟨_, rfl, _, rfl, _, rfl, v, nm, op, ms, b, rfl, rv, lms, lnm, lop, (fun d hd => by rw [hn] at hd; cases hd), fun _ H1 s1 => ⟨true, T.e1_, fun _ e' ha => ⟨rfl, rfl, ?_⟩, fun z => nomatch z⟩⟩
    refine ⟨_, rfl, _, .ref (He.ga K "PortError"), true, rfl, (fun u h => h), T.e2_, true, rfl, ?_⟩
    rw [if_pos rfl]
    refine ⟨_, rfl, _, .ref (He.ga K "NotAllowed"), false, rfl, (fun u h => h), T.e3_, ?_⟩
    exact ⟨false, rfl, q _ s1⟩
def spLaw (K : PySem.W.Frag) : Sp := fun vs H Q _ => ∃ (a : Addr) (ns : List Int), vs = [.ref a] ∧ SqL K H a (ns.map V.int) ∧ ns.length ≤ 63 ∧ ∀ H', Q (.bl true) H'
theorem ok_law (T : Txt K mg w a) : FnOk P w K mg base CX0 88 (He.ga K "law") a.d_law ["script"] (spLaw K) := by
  have gcp := ok_cprog (P := P) (w := w) (base := base) T
  have glr := ok_lrow (P := P) (w := w) (base := base) T
  have gli := ok_limage (P := P) (w := w) (base := base) T
  have gmk := ok_mkof (P := P) (w := w) (base := base) T
  have grw := ok_rowof (P := P) (w := w) (base := base) T
  have gmi := ok_missing (P := P) (w := w) (base := base) T
  have gpr := ok_lw_program (P := P) (w := w) (base := base) T
  refine T.F_law.ok sc_law (fun vs H Q E h => ?_) (fun cdv A outer s H vs Q E hr h => ?_)
  · obtain ⟨_, _, rfl, _⟩ := h
    rfl
  obtain ⟨sc, ns, rfl, hS, hn, q⟩ := h
  refine ⟨_, PSs.nox (pss_cons (ps_for PassesOwn.never rfl (pi_range1 (by rfl) T.g_range (pa_cons (pe_callB (call_max2 rfl) (by rfl) T.g_max boot_max (pa_cons pe_int (pa_cons (pe_callB (call_min2 rfl) (by rfl) T.g_min boot_min (pa_cons (pe_callB call_len_seq (by rfl) T.g_len boot_len (pa_cons (pv 0) pa_nil)) (pa_cons pe_int pa_nil))) pa_nil))) pa_nil)) (pg_name (i := 1) sc_law.nd rfl (Or.inl rfl))
      (pss_cons (ps_set (i := 2) sc_law.nd rfl (Or.inl rfl) (pe_call (ok_lw_numbers T) (hr.mono (by omega)) (by rfl) T.g_lw_numbers T.F_lw_numbers.kp T.b_lw_numbers .nil pass0 (pa_cons (pe_call (ok_lw_cell T) (hr.mono (by omega)) (by rfl) T.g_lw_cell T.F_lw_cell.kp T.b_lw_cell .nil pass0 (pa_cons (pv 0) (pa_cons (pv 1) pa_nil))) (pa_cons (pv 1) (pa_cons pe_int pa_nil)))))
      (pss_cons (ps_set (i := 3) sc_law.nd rfl (Or.inl rfl) (pe_call gpr (hr.mono (by omega)) (by rfl) T.g_lw_program T.F_lw_program.kp T.b_lw_program .nil pass0 (pa_cons (pv 2) (pa_cons (pe_op op_add pe_int (pe_op op_mod (pe_callTy call_int1 (by rfl) T.g_int boot_int (pa_cons (pe_ix ix_list (pv 2) pe_int (fun _ _ => rfl)) pa_nil)) pe_int)) (pa_cons pe_int pa_nil)))))
      (pss_cons (ps_if (pt_cmpR op_eq (pe_op op_mod (pe_callTy call_int1 (by rfl) T.g_int boot_int (pa_cons (pe_ix ix_list (pv 2) pe_int (fun _ _ => rfl)) pa_nil)) pe_int) pe_int (nomark _)) (pss_one (ps_set (i := 3) sc_law.nd rfl (Or.inl rfl) (pe_tup (pa_cons (pe_ix ix_tup (pv 3) pe_int (fun _ _ => rfl)) (pa_cons (RevS.pe_revT (pe_ix ix_tup (pv 3) pe_int (fun _ _ => rfl))) (pa_cons (pe_ix ix_tup (pv 3) pe_int (fun _ _ => rfl)) pa_nil)))))) pss_nil)
      (pss_cons (ps_set (i := 4) sc_law.nd rfl (Or.inl rfl) (pe_call gcp (hr.mono (by omega)) (by rfl) T.g_compile_program T.F_compile_program.kp T.b_compile_program .nil pass0 (pa_cons (pv 3) pa_nil)))
      (pss_cons (ps_set (i := 5) sc_law.nd rfl (Or.inl rfl) (pe_call glr (hr.mono (by omega)) (by rfl) T.g_lw_row T.F_lw_row.kp T.b_lw_row .nil pass0 (pa_cons pe_str (pa_cons (pe_tup pa_nil) (pa_cons (pe_tup pa_nil) (pa_cons (pe_ix ix_tup (pv 3) pe_int (fun _ _ => rfl)) pa_nil))))))
      (pss_cons (ps_if (pt_cmpR (op_neD hr.units) (pv 4) (pe_tup (pa_cons (pe_callTy call_tuple_of (by rfl) T.g_tuple boot_tuple (pa_cons (pe_lc (own := [("maker", 6)]) (g := gName 6) (tt := tYes) (te := (tCall (spCm K) [] E0 (tCons (tVar 6) tNil))) (by rfl) sc_law.nd (pi_tup (pe_ix ix_tup (pv 3) pe_int (fun _ _ => rfl))) (blkOk_by (own := [("maker", 6)]) (N := N_law) (sc := defScope s_law) (by decide +kernel)) (fun _ _ _ _ _ => pg_name (i := 6) sc_law.nd rfl (Or.inl rfl)) (fun _ _ _ _ _ => pts_nil) (fun _ _ _ _ _ => (pe_call gli (hr.mono (by omega)) (by rfl) T.g_lw_image_of T.F_lw_image_of.kp T.b_lw_image_of .nil pass0 (pa_cons (pv 6) pa_nil)))) pa_nil)) (pa_cons (pv 5) pa_nil))) (nomark _)) (pss_one (ps_ret pe_bl)) pss_nil)
      (pss_cons (ps_if (PW.pt (pw_or (pt_cmpR (op_neD hr.units) (pe_callS gmk (hr.mono (by omega)) (by rfl) T.g_maker_of T.F_maker_of.kp T.b_maker_of (fun σ => passAt takes0 σ) (pa_cons (pv 4) (pa_cons pe_str pa_nil))) (pe_tup (pa_cons pe_str (pa_cons pe_int (pa_cons (pe_tup pa_nil) (pa_cons (pe_tup pa_nil) (pa_cons (pe_tup (pa_cons (pv 5) pa_nil)) pa_nil)))))) (nomark _)) (pw_or1 (pt_cmpR (op_neD hr.units) (pe_callS grw (hr.mono (by omega)) (by rfl) T.g_row_of T.F_row_of.kp T.b_row_of (fun σ => passAt takes0 σ) (pa_cons (pv 4) (pa_cons pe_str (pa_cons pe_str pa_nil)))) (pv 5) (nomark _))))) (pss_one (ps_ret pe_bl)) pss_nil)
      (pss_cons (ps_for PassesOwn.never rfl (pi_tup (pe_ix ix_tup (pv 4) pe_int (fun _ _ => rfl))) (pg_name (i := 6) sc_law.nd rfl (Or.inl rfl))
      (pss_cons (ps_if (pt_cmpR (op_neD hr.units) (pe_callS gmk (hr.mono (by omega)) (by rfl) T.g_maker_of T.F_maker_of.kp T.b_maker_of (fun σ => passAt takes0 σ) (pa_cons (pv 4) (pa_cons (pe_ix ix_tup (pv 6) pe_int (fun _ _ => rfl)) pa_nil))) (pv 6) (nomark _)) (pss_one (ps_ret pe_bl)) pss_nil)
      (pss_cons (ps_for PassesOwn.never rfl (pi_tup (pe_ix ix_tup (pv 6) pe_int (fun _ _ => rfl))) (pg_name (i := 7) sc_law.nd rfl (Or.inl rfl))
      (pss_one (ps_if (pt_cmpR (op_neD hr.units) (pe_callS grw (hr.mono (by omega)) (by rfl) T.g_row_of T.F_row_of.kp T.b_row_of (fun σ => passAt takes0 σ) (pa_cons (pv 4) (pa_cons (pe_ix ix_tup (pv 6) pe_int (fun _ _ => rfl)) (pa_cons (pe_ix ix_tup (pv 7) pe_int (fun _ _ => rfl)) pa_nil)))) (pv 7) (nomark _)) (pss_one (ps_ret pe_bl)) pss_nil)))
      (pss_one (ps_if (PW.pt (pw_or (pt_not (pt_val (pe_call gmi (hr.mono (by omega)) (by rfl) T.g_lw_missing T.F_lw_missing.kp T.b_lw_missing .nil pass0 (pa_cons (pv 4) (pa_cons (pe_ix ix_tup (pv 6) pe_int (fun _ _ => rfl)) (pa_cons pe_str pa_nil)))))) (pw_or1 (pt_not (pt_val (pe_call gmi (hr.mono (by omega)) (by rfl) T.g_lw_missing T.F_lw_missing.kp T.b_lw_missing .nil pass0 (pa_cons (pv 4) (pa_cons (pe_ix ix_tup (pv 6) pe_int (fun _ _ => rfl)) (pa_cons pe_str pa_nil))))))))) (pss_one (ps_ret pe_bl)) pss_nil)))))
      (pss_one (ps_if (PW.pt (pw_or (pt_not (pt_val (pe_call gmi (hr.mono (by omega)) (by rfl) T.g_lw_missing T.F_lw_missing.kp T.b_lw_missing .nil pass0 (pa_cons (pv 4) (pa_cons pe_str (pa_cons pe_non pa_nil)))))) (pw_or (pt_not (pt_val (pe_call gmi (hr.mono (by omega)) (by rfl) T.g_lw_missing T.F_lw_missing.kp T.b_lw_missing .nil pass0 (pa_cons (pv 4) (pa_cons pe_str (pa_cons pe_str pa_nil)))))) (pw_or1 (pt_not (pt_val (pe_call gmi (hr.mono (by omega)) (by rfl) T.g_lw_missing T.F_lw_missing.kp T.b_lw_missing .nil pass0 (pa_cons (pv 4) (pa_cons pe_str (pa_cons pe_str pa_nil)))))))))) (pss_one (ps_ret pe_bl)) pss_nil)))))))))))
      (pss_one (ps_ret pe_bl))), ?_⟩
  refine ⟨_, rfl, sc, _, rfl, .inl hS, _, _, rfl, _, _, rfl, _, rfl, ?_, ?_, ?_⟩
  · split <;> split <;> omega
  · rw [List.length_map]
    split <;> split <;> omega
  refine for_range (fun i σ H2 => ∃ x1 x2 x3 x4 x5 x6 x7 : Option V, σ = [some (.ref sc), x1, x2, x3, x4, x5, x6, x7] ∧ SqL K H2 sc (ns.map V.int)) ⟨none, none, none, none, none, none, none, rfl, hS⟩ (fun i σ H2 hi ⟨x1, x2, x3, x4, x5, x6, x7, e, hS2⟩ => ?_) fun σ H2 ⟨x1, x2, x3, x4, x5, x6, x7, e, hS2⟩ => ?_
  · subst e
    have hi2 : i ≤ 64 := by
      rw [List.length_map] at hi
      revert hi
      split <;> split <;> omega
    -- numbers
    refine ⟨_, rfl, _, rfl, sc, ns, i, by rw [Int.zero_add] <;> rfl, hS2, fun c => ?_⟩
    refine ⟨_, rfl, c, i, 60, by rw [Int.zero_add] <;> rfl, by omega, by omega, fun H3 p3 nums s3 np3 hp3 hn3 hrange => ?_⟩
    have hL : SqL K H3 p3 (nums.map V.int) := SqL.of hp3
    obtain ⟨n58, m58, e58⟩ := Cm.at_int (ns := nums) (i := 58) (by decide) (by rw [hn3]; decide)
    have r58 := hrange n58 m58
    obtain ⟨n57, m57, e57⟩ := Cm.at_int (ns := nums) (i := 57) (by decide) (by rw [hn3]; decide)
    -- program
    refine ⟨_, rfl, _, rfl, p3, _, _, _, rfl, rfl, hL, e58, .inl ⟨_, rfl, _, _, rfl, rfl, (by show (0 : Int) < 3; decide), _, _, rfl, rfl, ?_⟩⟩
    refine ⟨p3, nums, (1 + n58 % 3).toNat, 4, (by rw [Int.toNat_of_nonneg (by omega)] <;> rfl), hL, hn3, fun x hx => (hrange x hx).1, by omega, fun H4 v4 m1 m2 b s4 r4 o1 o2 e1 e2 ob => ?_⟩
    have hS4 := s4.seq (s3.seq hS2)
    obtain ⟨c4, vs4, rfl, hc4, hvs4⟩ := r4.tup_inv
    obtain ⟨v40, vs4, rfl, r40, hvs4⟩ := hvs4.cons_inv
    obtain ⟨v41, vs4, rfl, r41, hvs4⟩ := hvs4.cons_inv
    obtain ⟨v42, vs4, rfl, r42, hvs4⟩ := hvs4.cons_inv
    cases hvs4.nil_inv
    obtain ⟨cm, vsm, rfl, hcm, hvsm⟩ := r41.tup_inv
    simp only [List.set_cons_succ, List.set_cons_zero]
    obtain ⟨u1, vsm, rfl, ru1, hvsm⟩ := hvsm.cons_inv
    obtain ⟨u2, vsm, rfl, ru2, hvsm⟩ := hvsm.cons_inv
    cases hvsm.nil_inv
    refine ⟨_, rfl, p3, _, _, _, rfl, rfl, s4.seq hL, e57, .inl ⟨_, rfl, _, _, rfl, rfl, (by show (0 : Int) < 2; decide), rfl, _, rfl, Cm.itEI (fun _ => ?_) (fun _ => ?_)⟩⟩
    · refine ⟨_, rfl, c4, _, _, _, rfl, rfl, hc4, at0, _, rfl, c4, _, _, _, rfl, rfl, hc4, at1, cm, _, rfl, hcm, fun p5 n5 => ⟨_, rfl, c4, _, _, _, rfl, rfl, Cm.sameT (Cm.same_new n5) hc4, at2, Cm.small (by show 3 ≤ 100000; decide), fun p6 n6 => ?_⟩⟩
      have sP := (Cm.same_new (o := .tup [u2, u1]) n5).trans (Cm.same_new (o := .tup [v40, .ref p5, v42]) n6)
      have hP : Rp K (upd (upd H4 p5 (.tup [u2, u1])) p6 (.tup [v40, .ref p5, v42])) (.ref p6) (.tuple [.tuple [ifaceD], .tuple ([m2, m1].map MkD.d), .tuple b.ds]) := by
        have t5 := Cm.same_new (o := .tup [u2, u1]) n5
        exact made n6 (.cons (r40.keep (Same.tups t5)) (.cons (made n5 (.cons ru2 (.cons ru1 .nil))) (.cons (r42.keep (Same.tups t5)) .nil)))
      have two : Two [m2, m1] := two_of o2 o1 (.inr ⟨e2, e1⟩)
      rw [show ([u1, u2] : List V).reverse = [u2, u1] from rfl]
      simp only [gName, List.set_cons_succ, List.set_cons_zero]
      generalize upd (upd H4 p5 (.tup [u2, u1])) p6 (.tup [v40, .ref p5, v42]) = HP at sP hP ⊢
      generalize [m2, m1] = ms at hP two
      generalize p6 = cP at hP ⊢
      have hSP := sP.seq hS4
      -- image
      refine ⟨_, rfl, .ref cP, _, ms, b, rfl, hP, (fun m hm => (two.ok m hm).1), (by rw [two.len]; decide), ob, fun H7 u7 s7 r7 => ?_⟩
      simp only [List.set_cons_succ, List.set_cons_zero]
      obtain ⟨_, vP, eP, hcP, hvP⟩ := (hP.keep (Same.tups s7)).tup_inv
      cases eP
      obtain ⟨w0, vP, rfl, rw0, hvP⟩ := hvP.cons_inv
      obtain ⟨w1, vP, rfl, rw1, hvP⟩ := hvP.cons_inv
      obtain ⟨w2, vP, rfl, rw2, hvP⟩ := hvP.cons_inv
      cases hvP.nil_inv
      obtain ⟨cmP, xm, rfl, hcmP, hxm⟩ := rw1.tup_inv
      have hml : xm.length = ms.length := hxm.len.trans (List.length_map _)
      -- start
      refine ⟨Nat.zero_le _, fun p8 n8 => ⟨Nat.zero_le _, fun p9 n9 => ?_⟩⟩
      have s9 := (Cm.same_new (o := .tup []) n8).trans (Cm.same_new (o := .tup []) n9)
      refine ⟨_, rfl, cP, _, _, _, rfl, rfl, Cm.sameT s9 hcP, at2, "start", .ref p8, [], [], .ref p9, w2, b, [], rfl, (made n8 .nil).keep (Same.tups (Cm.same_new n9)), ⟨rfl, fun i d h => by cases h⟩, ⟨p9, rfl, .inr ⟨rfl, Cm.sqt_new⟩⟩, rw2.keep (Same.tups s9), bok_start ob, fun H10 u10 s10 r10 => ?_⟩
      simp only [List.set_cons_succ, List.set_cons_zero]
      have t10 := s9.trans s10
      have rI := r7.keep (Same.tups t10)
      have hS10 := (s7.trans t10).seq hSP
      have hcP' := Cm.sameT t10 hcP
      have hcm' := Cm.sameT t10 hcmP
      have hxm' := hxm.keep (Same.tups t10)
      have gI : Gd (imageD ms b) 7 := gd_image two.ok ob
      -- image
      refine ⟨_, rfl, _, rfl, cP, _, _, _, rfl, rfl, hcP', at1, cmP, rfl, ⟨_, hcm'⟩, fun D nD => ?_⟩
      simp only [List.map_cons, List.map_nil]
      refine lc_tup (K := K) (a := cmP) (xs := xm) (fun i H1 => Bl K H10 D ((ms.map imgD).take i) H1) (Bl.new nD) (fun i H _ b => Cm.sameT b.1 hcm') (fun i x H1 hx bl => ?_) fun H1 bl => ?_
      · obtain ⟨d, hd, rx⟩ := rps_at (hxm'.keep (Same.tups bl.1)) hx
        rw [List.getElem?_map] at hd
        obtain ⟨m, hm, rfl⟩ := Option.map_eq_some_iff.mp hd
        refine ⟨rfl, ?_⟩
        refine ⟨_, rfl, x, m, rfl, rx, (two.ok m (List.mem_of_getElem? hm)).1, fun H2 u s2 r2 => ?_⟩
        rw [take_one (d := imgD m) (by rw [List.getElem?_map, hm]; rfl)]
        obtain ⟨acc, g1, g2, g3⟩ := bl.push nD s2 r2
        have l2 := two.len
        exact ⟨acc, g1, Cm.smallL (by rw [g2, List.length_take, List.length_map]; omega), g3⟩
      rw [hml, show ms.length = (ms.map imgD).length from (List.length_map _).symm, List.take_length] at bl
      obtain ⟨s11, acc, hD, rD⟩ := bl
      refine ⟨D, acc, rfl, .inl ⟨SqL.of hD, fun p12 n12 => ?_⟩⟩
      have r12 := Rp.made n12 rD
      have s12 := s11.trans (Cm.same_new (o := .tup acc) n12)
      refine ⟨_, rfl, Cm.small (by show 2 ≤ 100000; decide), fun p13 n13 => ?_⟩
      have s13 := s12.trans (Cm.same_new (o := .tup [.ref p12, u10]) n13)
      have r13 : Rp K (upd (upd H1 p12 (.tup acc)) p13 (.tup [.ref p12, u10])) (.ref p13) (imageD ms b) := made n13 (.cons r12 (.cons (r10.keep (Same.tups s12)) .nil))
      refine ne_same (rI.keep (Same.tups s13)) r13 gI (by decide) ⟨_, rfl, Cm.itB (fun e => nomatch e) (fun _ => ?_)⟩
      clear r13 r12 rD hD n13 n12 nD hcP' hcm' hxm' hcP hcmP hxm rw0 rw1
      have rI13 := rI.keep (Same.tups s13)
      have rS13 := r10.keep (Same.tups s13)
      have hS13 := s13.seq hS10
      have lmm : ms.length ≤ 10 := by
        rw [two.len]
        decide
      generalize upd (upd H1 p12 (.tup acc)) p13 (.tup [.ref p12, u10]) = H13 at rI13 rS13 hS13 ⊢
      clear rI hS10 s13 s12 s11 r7
      -- maker_of, row_of of start
      refine ⟨_, rfl, u7, "start", ms, b, rfl, rI13, lmm, (by decide +kernel), fun d hd H14 u14 s14 r14 => ?_, fun z => by rw [start_mk] at z; cases z⟩
      rw [start_mk] at hd
      cases hd
      refine ⟨Nat.zero_le _, fun p1 n1 => ⟨Nat.zero_le _, fun p2 n2 => ⟨_, rfl, Cm.small (by show 1 ≤ 100000; decide), fun p5 n5 => ⟨Cm.small (by show 5 ≤ 100000; decide), fun p6 n6 => ?_⟩⟩⟩⟩
      have s15 := (Cm.same_new (o := .tup []) n1).trans (Cm.same_new (o := .tup []) n2)
      have r5 := made (K := K) n5 (.cons (rS13.keep (Same.tups (s14.trans s15))) .nil)
      have s16 := s15.trans ((Cm.same_new (o := .tup [u10]) n5).trans (Cm.same_new (o := .tup [.str "start", .int 0, .ref p1, .ref p2, .ref p5]) n6))
      have r6 : Rp K _ (.ref p6) (startM b) := made n6 (.cons (.str "start") (.cons (.int 0) (.cons ((made n1 .nil).keep (Same.tups ((Cm.same_new n2).trans (Cm.same_new (o := .tup [u10]) n5)))) (.cons ((made n2 .nil).keep (Same.tups (Cm.same_new (o := .tup [u10]) n5))) (.cons r5 .nil)))))
      refine ne_same (r14.keep (Same.tups s16)) r6 (gd_startM ob) (by decide) ⟨_, rfl, Cm.itB (fun e => nomatch e) (fun _ => ?_)⟩
      have t16 := s14.trans s16
      refine ⟨_, rfl, u7, "start", "start", ms, b, rfl, rI13.keep (Same.tups t16), lmm, (by decide +kernel), (by decide +kernel), fun d hd H17 u17 s17 r17 => ?_, fun z => by rw [start_row] at z; cases z⟩
      rw [start_row] at hd
      cases hd
      have t17 := t16.trans s17
      refine ⟨_, rfl, ne_same r17 (rS13.keep (Same.tups t17)) (gd_start ob) (by decide) ⟨_, rfl, Cm.itB (fun e => nomatch e) (fun _ => ?_)⟩⟩
      have rI17 := rI13.keep (Same.tups t17)
      have hS17 := t17.seq hS13
      clear r17 r14 r6 r5 n1 n2 n5 n6 rI13 hS13 s15 s16 t16 t17
      -- for maker in image[0]
      obtain ⟨ci, vi, rfl, hci, hvi⟩ := id rI17.tup_inv
      obtain ⟨i0, vi, rfl, ri0, hvi⟩ := hvi.cons_inv
      obtain ⟨i1, vi, rfl, ri1, hvi⟩ := hvi.cons_inv
      cases hvi.nil_inv
      obtain ⟨cg, xg, rfl, hcg, hxg⟩ := ri0.tup_inv
      refine ⟨_, rfl, ci, _, _, _, rfl, rfl, hci, at0, cg, rfl, ⟨_, hcg⟩, ?_⟩
      refine for_tup (K := K) (a := cg) (xs := xg) (fun i' σ H => ∃ x6 x7 : Option V, σ = [some (.ref sc), some (.int (0 + i)), some (.ref p3), some (.ref cP), some (.ref ci), some u10, x6, x7] ∧ Same H17 H) ⟨_, _, rfl, Same.refl _⟩ (fun i' σ H _ ⟨_, _, _, s⟩ => Cm.sameT s hcg) (fun i' x σ H hx ⟨x6, x7, e, s18⟩ => ?_) fun σ H ⟨x6, x7, e, s18⟩ => ?_
      · subst e
        obtain ⟨d, hd, rx⟩ := rps_at (hxg.keep (Same.tups s18)) hx
        rw [List.getElem?_map] at hd
        obtain ⟨m, hm, rfl⟩ := Option.map_eq_some_iff.mp hd
        have hmm := List.mem_of_getElem? hm
        have lnm : m.nm.length ≤ 1000 := by
          rcases two.nm m hmm with e | e <;> rw [e] <;> decide +kernel
        obtain ⟨ck, vk, rfl, hck, hvk⟩ := id rx.tup_inv
        obtain ⟨k0, vk, rfl, rk0, hvk⟩ := hvk.cons_inv
        obtain ⟨k1, vk, rfl, rk1, hvk⟩ := hvk.cons_inv
        obtain ⟨k2, vk, rfl, rk2, hvk⟩ := hvk.cons_inv
        obtain ⟨k3, vk, rfl, rk3, hvk⟩ := hvk.cons_inv
        obtain ⟨k4, vk, rfl, rk4, hvk⟩ := hvk.cons_inv
        cases hvk.nil_inv
        cases rk0.str_inv
        have rI18 := rI17.keep (Same.tups s18)
        simp only [List.set_cons_succ, List.set_cons_zero]
        refine ⟨_, rfl, _, rfl, ck, _, _, _, rfl, rfl, hck, at0, .ref ci, m.nm, ms, b, rfl, rI18, lmm, lnm, fun d hd H19 u19 s19 r19 => ?_, fun z => by rw [two.found hmm] at z; cases z⟩
        rw [two.found hmm] at hd
        cases hd
        refine ⟨_, rfl, ne_same r19 (rx.keep (Same.tups s19)) (gd_img m (two.ok m hmm).1 (two.ok m hmm).2) (by decide) ⟨_, rfl, Cm.itB (fun e => nomatch e) (fun _ => ?_)⟩⟩
        have rI19 := rI18.keep (Same.tups s19)
        have hck19 := Cm.sameT s19 hck
        obtain ⟨cr, xr, rfl, hcr, hxr⟩ := (rk4.keep (Same.tups s19)).tup_inv
        refine ⟨_, rfl, ck, _, _, _, rfl, rfl, hck19, atI_nat (j := 4) rfl, cr, rfl, ⟨_, hcr⟩, ?_⟩
        refine for_tup (K := K) (a := cr) (xs := xr) (fun j σ H => ∃ x7 : Option V, σ = [some (.ref sc), some (.int (0 + i)), some (.ref p3), some (.ref cP), some (.ref ci), some u10, some (.ref ck), x7] ∧ Same H19 H) ⟨_, rfl, Same.refl _⟩ (fun j σ H _ ⟨_, _, s⟩ => Cm.sameT s hcr) (fun j y σ H hy ⟨x7, e, s20⟩ => ?_) fun σ H ⟨x7, e, s20⟩ => ?_
        · subst e
          obtain ⟨r, hr, ry⟩ := rps_at (hxr.keep (Same.tups s20)) hy
          have hrm := List.mem_of_getElem? hr
          obtain ⟨rn, tl, er⟩ := rows_are m r hrm
          subst er
          obtain ⟨cy, vy, rfl, hcy, hvy⟩ := id ry.tup_inv
          obtain ⟨y0, vy, rfl, ry0, hvy⟩ := hvy.cons_inv
          cases ry0.str_inv
          have lrn : rn.length ≤ 1000 := row_len m hrm
          have frow : rwOf ms b m.nm rn = some (.tuple (.str rn :: tl)) := two.row hmm hrm
          refine ⟨_, rfl, _, rfl, ck, _, _, _, rfl, rfl, Cm.sameT s20 hck19, at0, _, rfl, cy, _, _, _, rfl, rfl, hcy, at0, .ref ci, m.nm, rn, ms, b, rfl, rI19.keep (Same.tups s20), lmm, lnm, lrn, fun d hd H21 u21 s21 r21 => ?_, fun z => by rw [frow] at z; cases z⟩
          rw [frow] at hd
          cases hd
          refine ⟨_, rfl, ne_same r21 (ry.keep (Same.tups s21)) (gd_mem (gd_rows m (two.ok m hmm).1) hrm) (by decide) ⟨_, rfl, Cm.itB (fun e => nomatch e) (fun _ => ?_)⟩⟩
          exact ⟨_, rfl, s20.trans s21⟩
        subst e
        have rI20 := rI19.keep (Same.tups s20)
        have hck20 := Cm.sameT s20 hck19
        refine ⟨_, rfl, _, rfl, ck, _, _, _, rfl, rfl, hck20, at0, .ref ci, m.nm, .str "start", ms, b, rfl, rI20, lmm, lnm, .inr ⟨"start", rfl, by decide +kernel, two.noRow hmm (by decide) (by decide) (by decide) (by decide)⟩, fun H21 s21 => ?_⟩
        refine ⟨_, rfl, Cm.itBn (fun e => nomatch e) (fun _ => ?_)⟩
        refine ⟨_, rfl, _, rfl, ck, _, _, _, rfl, rfl, Cm.sameT s21 hck20, at0, .ref ci, m.nm, .str "gett", ms, b, rfl, rI20.keep (Same.tups s21), lmm, lnm, .inr ⟨"gett", rfl, by decide +kernel, two.noRow hmm (by decide) (by decide) (by decide) (by decide)⟩, fun H22 s22 => ?_⟩
        refine ⟨_, rfl, Cm.itBn (fun e => nomatch e) (fun _ => ?_)⟩
        exact ⟨_, _, rfl, ((s18.trans s19).trans s20).trans (s21.trans s22)⟩
      · subst e
        have rI18 := rI17.keep (Same.tups s18)
        refine ⟨_, rfl, .ref ci, "Bo", .non, ms, b, rfl, rI18, lmm, by decide +kernel, .inl ⟨rfl, two.noMk (by decide) (by decide) (by decide)⟩, fun H19 s19 => ⟨_, rfl, Cm.itBn (fun e => nomatch e) (fun _ => ?_)⟩⟩
        have rI19 := rI18.keep (Same.tups s19)
        refine ⟨_, rfl, .ref ci, "", .str "get", ms, b, rfl, rI19, lmm, by decide +kernel, .inr ⟨"get", rfl, by decide +kernel, by rw [rwOf, mkOf_none (two.noMk (b := b) (nm := "") (by decide) (by decide) (by decide))]; rfl⟩, fun H20 s20 => ⟨_, rfl, Cm.itBn (fun e => nomatch e) (fun _ => ?_)⟩⟩
        refine ⟨_, rfl, .ref ci, "start", .str "get", ms, b, rfl, rI19.keep (Same.tups s20), lmm, by decide +kernel, .inr ⟨"get", rfl, by decide +kernel, start_noRow⟩, fun H21 s21 => ⟨_, rfl, Cm.itBn (fun e => nomatch e) (fun _ => ?_)⟩⟩
        exact ⟨_, _, _, _, _, _, _, rfl, (((s18.trans s19).trans s20).trans s21).seq hS17⟩
    · have sP := Same.refl H4
      have two : Two [m1, m2] := two_of o1 o2 (.inl ⟨e1, e2⟩)
      have hP : Rp K H4 (.ref c4) (.tuple [.tuple [ifaceD], .tuple ([m1, m2].map MkD.d), .tuple b.ds]) := r4
      obtain ⟨HP, hHP⟩ : ∃ HP, HP = H4 := ⟨_, rfl⟩
      rw [← hHP] at hP ⊢
      have sP : Same H4 HP := by
        rw [hHP]
        exact Same.refl H4
      clear hHP
      generalize [m1, m2] = ms at hP two
      generalize c4 = cP at hP ⊢
      have hSP := sP.seq hS4
      -- image
      refine ⟨_, rfl, .ref cP, _, ms, b, rfl, hP, (fun m hm => (two.ok m hm).1), (by rw [two.len]; decide), ob, fun H7 u7 s7 r7 => ?_⟩
      simp only [List.set_cons_succ, List.set_cons_zero]
      obtain ⟨_, vP, eP, hcP, hvP⟩ := (hP.keep (Same.tups s7)).tup_inv
      cases eP
      obtain ⟨w0, vP, rfl, rw0, hvP⟩ := hvP.cons_inv
      obtain ⟨w1, vP, rfl, rw1, hvP⟩ := hvP.cons_inv
      obtain ⟨w2, vP, rfl, rw2, hvP⟩ := hvP.cons_inv
      cases hvP.nil_inv
      obtain ⟨cmP, xm, rfl, hcmP, hxm⟩ := rw1.tup_inv
      have hml : xm.length = ms.length := hxm.len.trans (List.length_map _)
      -- start
      refine ⟨Nat.zero_le _, fun p8 n8 => ⟨Nat.zero_le _, fun p9 n9 => ?_⟩⟩
      have s9 := (Cm.same_new (o := .tup []) n8).trans (Cm.same_new (o := .tup []) n9)
      refine ⟨_, rfl, cP, _, _, _, rfl, rfl, Cm.sameT s9 hcP, at2, "start", .ref p8, [], [], .ref p9, w2, b, [], rfl, (made n8 .nil).keep (Same.tups (Cm.same_new n9)), ⟨rfl, fun i d h => by cases h⟩, ⟨p9, rfl, .inr ⟨rfl, Cm.sqt_new⟩⟩, rw2.keep (Same.tups s9), bok_start ob, fun H10 u10 s10 r10 => ?_⟩
      simp only [List.set_cons_succ, List.set_cons_zero]
      have t10 := s9.trans s10
      have rI := r7.keep (Same.tups t10)
      have hS10 := (s7.trans t10).seq hSP
      have hcP' := Cm.sameT t10 hcP
      have hcm' := Cm.sameT t10 hcmP
      have hxm' := hxm.keep (Same.tups t10)
      have gI : Gd (imageD ms b) 7 := gd_image two.ok ob
      -- image
      refine ⟨_, rfl, _, rfl, cP, _, _, _, rfl, rfl, hcP', at1, cmP, rfl, ⟨_, hcm'⟩, fun D nD => ?_⟩
      simp only [List.map_cons, List.map_nil]
      refine lc_tup (K := K) (a := cmP) (xs := xm) (fun i H1 => Bl K H10 D ((ms.map imgD).take i) H1) (Bl.new nD) (fun i H _ b => Cm.sameT b.1 hcm') (fun i x H1 hx bl => ?_) fun H1 bl => ?_
      · obtain ⟨d, hd, rx⟩ := rps_at (hxm'.keep (Same.tups bl.1)) hx
        rw [List.getElem?_map] at hd
        obtain ⟨m, hm, rfl⟩ := Option.map_eq_some_iff.mp hd
        refine ⟨rfl, ?_⟩
        refine ⟨_, rfl, x, m, rfl, rx, (two.ok m (List.mem_of_getElem? hm)).1, fun H2 u s2 r2 => ?_⟩
        rw [take_one (d := imgD m) (by rw [List.getElem?_map, hm]; rfl)]
        obtain ⟨acc, g1, g2, g3⟩ := bl.push nD s2 r2
        have l2 := two.len
        exact ⟨acc, g1, Cm.smallL (by rw [g2, List.length_take, List.length_map]; omega), g3⟩
      rw [hml, show ms.length = (ms.map imgD).length from (List.length_map _).symm, List.take_length] at bl
      obtain ⟨s11, acc, hD, rD⟩ := bl
      refine ⟨D, acc, rfl, .inl ⟨SqL.of hD, fun p12 n12 => ?_⟩⟩
      have r12 := Rp.made n12 rD
      have s12 := s11.trans (Cm.same_new (o := .tup acc) n12)
      refine ⟨_, rfl, Cm.small (by show 2 ≤ 100000; decide), fun p13 n13 => ?_⟩
      have s13 := s12.trans (Cm.same_new (o := .tup [.ref p12, u10]) n13)
      have r13 : Rp K (upd (upd H1 p12 (.tup acc)) p13 (.tup [.ref p12, u10])) (.ref p13) (imageD ms b) := made n13 (.cons r12 (.cons (r10.keep (Same.tups s12)) .nil))
      refine ne_same (rI.keep (Same.tups s13)) r13 gI (by decide) ⟨_, rfl, Cm.itB (fun e => nomatch e) (fun _ => ?_)⟩
      clear r13 r12 rD hD n13 n12 nD hcP' hcm' hxm' hcP hcmP hxm rw0 rw1
      have rI13 := rI.keep (Same.tups s13)
      have rS13 := r10.keep (Same.tups s13)
      have hS13 := s13.seq hS10
      have lmm : ms.length ≤ 10 := by
        rw [two.len]
        decide
      generalize upd (upd H1 p12 (.tup acc)) p13 (.tup [.ref p12, u10]) = H13 at rI13 rS13 hS13 ⊢
      clear rI hS10 s13 s12 s11 r7
      -- maker_of, row_of of start
      refine ⟨_, rfl, u7, "start", ms, b, rfl, rI13, lmm, (by decide +kernel), fun d hd H14 u14 s14 r14 => ?_, fun z => by rw [start_mk] at z; cases z⟩
      rw [start_mk] at hd
      cases hd
      refine ⟨Nat.zero_le _, fun p1 n1 => ⟨Nat.zero_le _, fun p2 n2 => ⟨_, rfl, Cm.small (by show 1 ≤ 100000; decide), fun p5 n5 => ⟨Cm.small (by show 5 ≤ 100000; decide), fun p6 n6 => ?_⟩⟩⟩⟩
      have s15 := (Cm.same_new (o := .tup []) n1).trans (Cm.same_new (o := .tup []) n2)
      have r5 := made (K := K) n5 (.cons (rS13.keep (Same.tups (s14.trans s15))) .nil)
      have s16 := s15.trans ((Cm.same_new (o := .tup [u10]) n5).trans (Cm.same_new (o := .tup [.str "start", .int 0, .ref p1, .ref p2, .ref p5]) n6))
      have r6 : Rp K _ (.ref p6) (startM b) := made n6 (.cons (.str "start") (.cons (.int 0) (.cons ((made n1 .nil).keep (Same.tups ((Cm.same_new n2).trans (Cm.same_new (o := .tup [u10]) n5)))) (.cons ((made n2 .nil).keep (Same.tups (Cm.same_new (o := .tup [u10]) n5))) (.cons r5 .nil)))))
      refine ne_same (r14.keep (Same.tups s16)) r6 (gd_startM ob) (by decide) ⟨_, rfl, Cm.itB (fun e => nomatch e) (fun _ => ?_)⟩
      have t16 := s14.trans s16
      refine ⟨_, rfl, u7, "start", "start", ms, b, rfl, rI13.keep (Same.tups t16), lmm, (by decide +kernel), (by decide +kernel), fun d hd H17 u17 s17 r17 => ?_, fun z => by rw [start_row] at z; cases z⟩
      rw [start_row] at hd
      cases hd
      have t17 := t16.trans s17
      refine ⟨_, rfl, ne_same r17 (rS13.keep (Same.tups t17)) (gd_start ob) (by decide) ⟨_, rfl, Cm.itB (fun e => nomatch e) (fun _ => ?_)⟩⟩
      have rI17 := rI13.keep (Same.tups t17)
      have hS17 := t17.seq hS13
      clear r17 r14 r6 r5 n1 n2 n5 n6 rI13 hS13 s15 s16 t16 t17
      -- for maker in image[0]
      obtain ⟨ci, vi, rfl, hci, hvi⟩ := id rI17.tup_inv
      obtain ⟨i0, vi, rfl, ri0, hvi⟩ := hvi.cons_inv
      obtain ⟨i1, vi, rfl, ri1, hvi⟩ := hvi.cons_inv
      cases hvi.nil_inv
      obtain ⟨cg, xg, rfl, hcg, hxg⟩ := ri0.tup_inv
      refine ⟨_, rfl, ci, _, _, _, rfl, rfl, hci, at0, cg, rfl, ⟨_, hcg⟩, ?_⟩
      refine for_tup (K := K) (a := cg) (xs := xg) (fun i' σ H => ∃ x6 x7 : Option V, σ = [some (.ref sc), some (.int (0 + i)), some (.ref p3), some (.ref cP), some (.ref ci), some u10, x6, x7] ∧ Same H17 H) ⟨_, _, rfl, Same.refl _⟩ (fun i' σ H _ ⟨_, _, _, s⟩ => Cm.sameT s hcg) (fun i' x σ H hx ⟨x6, x7, e, s18⟩ => ?_) fun σ H ⟨x6, x7, e, s18⟩ => ?_
      · subst e
        obtain ⟨d, hd, rx⟩ := rps_at (hxg.keep (Same.tups s18)) hx
        rw [List.getElem?_map] at hd
        obtain ⟨m, hm, rfl⟩ := Option.map_eq_some_iff.mp hd
        have hmm := List.mem_of_getElem? hm
        have lnm : m.nm.length ≤ 1000 := by
          rcases two.nm m hmm with e | e <;> rw [e] <;> decide +kernel
        obtain ⟨ck, vk, rfl, hck, hvk⟩ := id rx.tup_inv
        obtain ⟨k0, vk, rfl, rk0, hvk⟩ := hvk.cons_inv
        obtain ⟨k1, vk, rfl, rk1, hvk⟩ := hvk.cons_inv
        obtain ⟨k2, vk, rfl, rk2, hvk⟩ := hvk.cons_inv
        obtain ⟨k3, vk, rfl, rk3, hvk⟩ := hvk.cons_inv
        obtain ⟨k4, vk, rfl, rk4, hvk⟩ := hvk.cons_inv
        cases hvk.nil_inv
        cases rk0.str_inv
        have rI18 := rI17.keep (Same.tups s18)
        simp only [List.set_cons_succ, List.set_cons_zero]
        refine ⟨_, rfl, _, rfl, ck, _, _, _, rfl, rfl, hck, at0, .ref ci, m.nm, ms, b, rfl, rI18, lmm, lnm, fun d hd H19 u19 s19 r19 => ?_, fun z => by rw [two.found hmm] at z; cases z⟩
        rw [two.found hmm] at hd
        cases hd
        refine ⟨_, rfl, ne_same r19 (rx.keep (Same.tups s19)) (gd_img m (two.ok m hmm).1 (two.ok m hmm).2) (by decide) ⟨_, rfl, Cm.itB (fun e => nomatch e) (fun _ => ?_)⟩⟩
        have rI19 := rI18.keep (Same.tups s19)
        have hck19 := Cm.sameT s19 hck
        obtain ⟨cr, xr, rfl, hcr, hxr⟩ := (rk4.keep (Same.tups s19)).tup_inv
        refine ⟨_, rfl, ck, _, _, _, rfl, rfl, hck19, atI_nat (j := 4) rfl, cr, rfl, ⟨_, hcr⟩, ?_⟩
        refine for_tup (K := K) (a := cr) (xs := xr) (fun j σ H => ∃ x7 : Option V, σ = [some (.ref sc), some (.int (0 + i)), some (.ref p3), some (.ref cP), some (.ref ci), some u10, some (.ref ck), x7] ∧ Same H19 H) ⟨_, rfl, Same.refl _⟩ (fun j σ H _ ⟨_, _, s⟩ => Cm.sameT s hcr) (fun j y σ H hy ⟨x7, e, s20⟩ => ?_) fun σ H ⟨x7, e, s20⟩ => ?_
        · subst e
          obtain ⟨r, hr, ry⟩ := rps_at (hxr.keep (Same.tups s20)) hy
          have hrm := List.mem_of_getElem? hr
          obtain ⟨rn, tl, er⟩ := rows_are m r hrm
          subst er
          obtain ⟨cy, vy, rfl, hcy, hvy⟩ := id ry.tup_inv
          obtain ⟨y0, vy, rfl, ry0, hvy⟩ := hvy.cons_inv
          cases ry0.str_inv
          have lrn : rn.length ≤ 1000 := row_len m hrm
          have frow : rwOf ms b m.nm rn = some (.tuple (.str rn :: tl)) := two.row hmm hrm
          refine ⟨_, rfl, _, rfl, ck, _, _, _, rfl, rfl, Cm.sameT s20 hck19, at0, _, rfl, cy, _, _, _, rfl, rfl, hcy, at0, .ref ci, m.nm, rn, ms, b, rfl, rI19.keep (Same.tups s20), lmm, lnm, lrn, fun d hd H21 u21 s21 r21 => ?_, fun z => by rw [frow] at z; cases z⟩
          rw [frow] at hd
          cases hd
          refine ⟨_, rfl, ne_same r21 (ry.keep (Same.tups s21)) (gd_mem (gd_rows m (two.ok m hmm).1) hrm) (by decide) ⟨_, rfl, Cm.itB (fun e => nomatch e) (fun _ => ?_)⟩⟩
          exact ⟨_, rfl, s20.trans s21⟩
        subst e
        have rI20 := rI19.keep (Same.tups s20)
        have hck20 := Cm.sameT s20 hck19
        refine ⟨_, rfl, _, rfl, ck, _, _, _, rfl, rfl, hck20, at0, .ref ci, m.nm, .str "start", ms, b, rfl, rI20, lmm, lnm, .inr ⟨"start", rfl, by decide +kernel, two.noRow hmm (by decide) (by decide) (by decide) (by decide)⟩, fun H21 s21 => ?_⟩
        refine ⟨_, rfl, Cm.itBn (fun e => nomatch e) (fun _ => ?_)⟩
        refine ⟨_, rfl, _, rfl, ck, _, _, _, rfl, rfl, Cm.sameT s21 hck20, at0, .ref ci, m.nm, .str "gett", ms, b, rfl, rI20.keep (Same.tups s21), lmm, lnm, .inr ⟨"gett", rfl, by decide +kernel, two.noRow hmm (by decide) (by decide) (by decide) (by decide)⟩, fun H22 s22 => ?_⟩
        refine ⟨_, rfl, Cm.itBn (fun e => nomatch e) (fun _ => ?_)⟩
        exact ⟨_, _, rfl, ((s18.trans s19).trans s20).trans (s21.trans s22)⟩
      · subst e
        have rI18 := rI17.keep (Same.tups s18)
        refine ⟨_, rfl, .ref ci, "Bo", .non, ms, b, rfl, rI18, lmm, by decide +kernel, .inl ⟨rfl, two.noMk (by decide) (by decide) (by decide)⟩, fun H19 s19 => ⟨_, rfl, Cm.itBn (fun e => nomatch e) (fun _ => ?_)⟩⟩
        have rI19 := rI18.keep (Same.tups s19)
        refine ⟨_, rfl, .ref ci, "", .str "get", ms, b, rfl, rI19, lmm, by decide +kernel, .inr ⟨"get", rfl, by decide +kernel, by rw [rwOf, mkOf_none (two.noMk (b := b) (nm := "") (by decide) (by decide) (by decide))]; rfl⟩, fun H20 s20 => ⟨_, rfl, Cm.itBn (fun e => nomatch e) (fun _ => ?_)⟩⟩
        refine ⟨_, rfl, .ref ci, "start", .str "get", ms, b, rfl, rI19.keep (Same.tups s20), lmm, by decide +kernel, .inr ⟨"get", rfl, by decide +kernel, start_noRow⟩, fun H21 s21 => ⟨_, rfl, Cm.itBn (fun e => nomatch e) (fun _ => ?_)⟩⟩
        exact ⟨_, _, _, _, _, _, _, rfl, (((s18.trans s19).trans s20).trans s21).seq hS17⟩
  · subst e
    exact q _
def fn : List He.DefD := [⟨("blocks_in", none), "blocks_in", "blocks_in", defArgs s_blocks_in, defBody s_blocks_in, defScope s_blocks_in, [], []⟩,
  ⟨("let_names", none), "let_names", "let_names", defArgs s_let_names, defBody s_let_names, defScope s_let_names, [], []⟩,
  ⟨("compile_program", none), "compile_program", "compile_program", defArgs s_compile_program, defBody s_compile_program, defScope s_compile_program, [], []⟩,
  ⟨("_compiled_maker", none), "_compiled_maker", "_compiled_maker", defArgs s_compiled_maker, defBody s_compiled_maker, defScope s_compiled_maker, [], []⟩,
  ⟨("_compiled_row", none), "_compiled_row", "_compiled_row", defArgs s_compiled_row, defBody s_compiled_row, defScope s_compiled_row, [], []⟩,
  ⟨("local_names", none), "local_names", "local_names", defArgs s_local_names, defBody s_local_names, defScope s_local_names, [], []⟩,
  ⟨("compiled_block", none), "compiled_block", "compiled_block", defArgs s_compiled_block, defBody s_compiled_block, defScope s_compiled_block, [], []⟩,
  ⟨("row_of", none), "row_of", "row_of", defArgs s_row_of, defBody s_row_of, defScope s_row_of, [], []⟩,
  ⟨("maker_of", none), "maker_of", "maker_of", defArgs s_maker_of, defBody s_maker_of, defScope s_maker_of, [], []⟩,
  ⟨("_block_code", none), "_block_code", "_block_code", defArgs s_block_code, defBody s_block_code, defScope s_block_code, [], []⟩,
  ⟨("_statement_code", none), "_statement_code", "_statement_code", defArgs s_statement_code, defBody s_statement_code, defScope s_statement_code, [], []⟩,
  ⟨("_if_code", none), "_if_code", "_if_code", defArgs s_if_code, defBody s_if_code, defScope s_if_code, [], []⟩,
  ⟨("_while_code", none), "_while_code", "_while_code", defArgs s_while_code, defBody s_while_code, defScope s_while_code, [], []⟩,
  ⟨("_row_code", none), "_row_code", "_row_code", defArgs s_row_code, defBody s_row_code, defScope s_row_code, [], []⟩,
  ⟨("_call_code", none), "_call_code", "_call_code", defArgs s_call_code, defBody s_call_code, defScope s_call_code, [], []⟩,
  ⟨("_expression_code", none), "_expression_code", "_expression_code", defArgs s_expression_code, defBody s_expression_code, defScope s_expression_code, [], []⟩,
  ⟨("_choice_code", none), "_choice_code", "_choice_code", defArgs s_choice_code, defBody s_choice_code, defScope s_choice_code, [], []⟩,
  ⟨("_law_cell", none), "_law_cell", "_law_cell", defArgs s_lw_cell, defBody s_lw_cell, defScope s_lw_cell, [], []⟩,
  ⟨("_law_numbers", none), "_law_numbers", "_law_numbers", defArgs s_lw_numbers, defBody s_lw_numbers, defScope s_lw_numbers, [], []⟩,
  ⟨("_law_pick", none), "_law_pick", "_law_pick", defArgs s_lw_pick, defBody s_lw_pick, defScope s_lw_pick, [], []⟩,
  ⟨("_law_int", none), "_law_int", "_law_int", defArgs s_lw_int, defBody s_lw_int, defScope s_lw_int, [], []⟩,
  ⟨("_law_object", none), "_law_object", "_law_object", defArgs s_lw_object, defBody s_lw_object, defScope s_lw_object, [], []⟩,
  ⟨("_law_receiver", none), "_law_receiver", "_law_receiver", defArgs s_lw_receiver, defBody s_lw_receiver, defScope s_lw_receiver, [], []⟩,
  ⟨("_law_block", none), "_law_block", "_law_block", defArgs s_lw_block, defBody s_lw_block, defScope s_lw_block, [], []⟩,
  ⟨("_law_maker", none), "_law_maker", "_law_maker", defArgs s_lw_maker, defBody s_lw_maker, defScope s_lw_maker, [], []⟩,
  ⟨("_law_interface", none), "_law_interface", "_law_interface", defArgs s_lw_interface, defBody s_lw_interface, defScope s_lw_interface, [], []⟩,
  ⟨("_law_program", none), "_law_program", "_law_program", defArgs s_lw_program, defBody s_lw_program, defScope s_lw_program, [], []⟩,
  ⟨("_law_code", none), "_law_code", "_law_code", defArgs s_lw_code, defBody s_lw_code, defScope s_lw_code, [], []⟩,
  ⟨("_law_block_code", none), "_law_block_code", "_law_block_code", defArgs s_lw_block_code, defBody s_lw_block_code, defScope s_lw_block_code, [], []⟩,
  ⟨("_law_lets", none), "_law_lets", "_law_lets", defArgs s_lw_lets, defBody s_lw_lets, defScope s_lw_lets, [], []⟩,
  ⟨("_law_row", none), "_law_row", "_law_row", defArgs s_lw_row, defBody s_lw_row, defScope s_lw_row, [], []⟩,
  ⟨("_law_image_of", none), "_law_image_of", "_law_image_of", defArgs s_lw_image_of, defBody s_lw_image_of, defScope s_lw_image_of, [], []⟩,
  ⟨("_law_missing", none), "_law_missing", "_law_missing", defArgs s_lw_missing, defBody s_lw_missing, defScope s_lw_missing, [], []⟩,
  ⟨("law", none), "law", "law", defArgs s_law, defBody s_law, defScope s_law, [], []⟩]
def fas : List He.Fa := [.glo "blocks_in", .glo "let_names", .glo "compile_program", .glo "_compiled_maker", .glo "_compiled_row", .glo "local_names", .glo "compiled_block", .glo "row_of", .glo "maker_of", .glo "_block_code", .glo "_statement_code", .glo "_if_code", .glo "_while_code", .glo "_row_code", .glo "_call_code", .glo "_expression_code", .glo "_choice_code", .glo "_law_cell", .glo "_law_numbers", .glo "_law_pick", .glo "_law_int", .glo "_law_object", .glo "_law_receiver", .glo "_law_block", .glo "_law_maker", .glo "_law_interface", .glo "_law_program", .glo "_law_code", .glo "_law_block_code", .glo "_law_lets", .glo "_law_row", .glo "_law_image_of", .glo "_law_missing", .glo "law", .glo "PortError", .glo "NotAllowed", .glo "Missing", .free "tuple", .free "len", .free "enumerate", .free "dict", .free "range", .free "int", .free "str", .free "min", .free "isinstance", .free "max"]
def tabs : List He.Tab := []
def okX (K : PySem.W.Frag) : Bool := PySem.W.excIn K (He.ga K "Missing") [.type "ValueError", .type "Exception", .type "BaseException", .type "object"] "ValueError.__new__" && (PySem.W.keepIn K (.ref (He.ga K "Missing")) && ((PySem.W.subIn K (.ref (He.ga K "Missing")) (.type "BaseException") == some true) && ((PySem.W.typeIn K (.ref (He.ga K "Missing")) == some (.type "type")) && ((PySem.W.findIn K (.ref (He.ga K "Missing")) "__getattribute__" == some (some (.builtin "BaseException.__getattribute__"))) && ((PySem.W.findIn K (.ref (He.ga K "Missing")) "__getattr__" == some none) && (PySem.W.hasDictIn K (He.ga K "Missing") && ((PySem.W.findIn K (.ref (He.ga K "Missing")) "__class__" == some (some (.builtin "object.__class__"))) && ((PySem.W.specialIn K (.builtin "object.__class__") "__get__" == some (some (.builtin "getset_descriptor.__get__"))) && ((PySem.W.takesIn K (.builtin "object.__class__") == some true) && ((PySem.W.mroIn K (He.ga K "Missing") (.type "object") == some true) && ((PySem.W.exmOne K (.ref (He.ga K "Missing")) (.ref (He.ga K "Missing")) == some true) && ((PySem.W.kitOne K (.ref (He.ga K "Missing")) (.ref (He.ga K "PortError")) == some true) && ((PySem.W.kitOne K (.ref (He.ga K "Missing")) (.ref (He.ga K "NotAllowed")) == some false))))))))))))))
abbrev R : PySem.W.OpenRow := PySem.W.OpenLaw.row PySem.Challenge.rw_portage_k22_images
abbrev hk : PySem.W.Hook := Cm.hookX 4 fas fn tabs okX
def ob (s : PySem.W.SharedT) : Cm.AlX := Cm.obsXG 4 fas fn tabs okX (HandSHeadRun.getT s)
theorem ob_eq (s : PySem.W.SharedT) : ob s = hk.obs s.abs := Cm.obsXG_eq (HandSHeadRun.getT_eq s)
abbrev loose : List Str := (["blocks_in", "let_names", "PortError", "NotAllowed", "Missing", "compile_program", "_compiled_maker", "_compiled_row", "local_names", "compiled_block", "row_of", "maker_of", "_block_code", "_statement_code", "_if_code", "_while_code", "_row_code", "_call_code", "_expression_code", "_choice_code", "_law_cell", "_law_numbers", "_law_pick", "_law_int", "_law_object", "_law_receiver", "_law_block", "_law_maker", "_law_interface", "_law_program"] : List Str) ++ (["_law_code", "_law_block_code", "_law_lets", "_law_row", "_law_image_of", "_law_missing"] : List Str)
theorem run (w : World) : HandSHeadRun.RunEq R (PySem.W.view R.prog [40]) hk ob 3000 loose w := by
  intro os
  kernel_rfl
theorem facts {P : Program} {w : World} {K : PySem.W.Frag} {h : Heap} {mg : Str → Option Value} {f : Addr} (X : K.In h) (G : h.Ns mainGlobals mg) (hfa : mg ("law" : Str) = some (.ref f)) (ok : okX K = true) (c : He.SaysT fas fn tabs w K) :
    ∃ fd : FuncData, (∀ (s : Shared) (v : Value), BindsTo s fd ⟨[v], []⟩ [("script", v)]) ∧ ∀ base : Heap, K.In base → base.Ns mainGlobals mg → FnOk P w K mg base CX0 88 f fd ["script"] (spLaw K) := by
  obtain ⟨d_blocks_in, F_blocks_in⟩ := c.d.def_ 0 rfl
  obtain ⟨d_let_names, F_let_names⟩ := c.d.def_ 1 rfl
  obtain ⟨d_compile_program, F_compile_program⟩ := c.d.def_ 2 rfl
  obtain ⟨d_compiled_maker, F_compiled_maker⟩ := c.d.def_ 3 rfl
  obtain ⟨d_compiled_row, F_compiled_row⟩ := c.d.def_ 4 rfl
  obtain ⟨d_local_names, F_local_names⟩ := c.d.def_ 5 rfl
  obtain ⟨d_compiled_block, F_compiled_block⟩ := c.d.def_ 6 rfl
  obtain ⟨d_row_of, F_row_of⟩ := c.d.def_ 7 rfl
  obtain ⟨d_maker_of, F_maker_of⟩ := c.d.def_ 8 rfl
  obtain ⟨d_block_code, F_block_code⟩ := c.d.def_ 9 rfl
  obtain ⟨d_statement_code, F_statement_code⟩ := c.d.def_ 10 rfl
  obtain ⟨d_if_code, F_if_code⟩ := c.d.def_ 11 rfl
  obtain ⟨d_while_code, F_while_code⟩ := c.d.def_ 12 rfl
  obtain ⟨d_row_code, F_row_code⟩ := c.d.def_ 13 rfl
  obtain ⟨d_call_code, F_call_code⟩ := c.d.def_ 14 rfl
  obtain ⟨d_expression_code, F_expression_code⟩ := c.d.def_ 15 rfl
  obtain ⟨d_choice_code, F_choice_code⟩ := c.d.def_ 16 rfl
  obtain ⟨d_lw_cell, F_lw_cell⟩ := c.d.def_ 17 rfl
  obtain ⟨d_lw_numbers, F_lw_numbers⟩ := c.d.def_ 18 rfl
  obtain ⟨d_lw_pick, F_lw_pick⟩ := c.d.def_ 19 rfl
  obtain ⟨d_lw_int, F_lw_int⟩ := c.d.def_ 20 rfl
  obtain ⟨d_lw_object, F_lw_object⟩ := c.d.def_ 21 rfl
  obtain ⟨d_lw_receiver, F_lw_receiver⟩ := c.d.def_ 22 rfl
  obtain ⟨d_lw_block, F_lw_block⟩ := c.d.def_ 23 rfl
  obtain ⟨d_lw_maker, F_lw_maker⟩ := c.d.def_ 24 rfl
  obtain ⟨d_lw_interface, F_lw_interface⟩ := c.d.def_ 25 rfl
  obtain ⟨d_lw_program, F_lw_program⟩ := c.d.def_ 26 rfl
  obtain ⟨d_lw_code, F_lw_code⟩ := c.d.def_ 27 rfl
  obtain ⟨d_lw_block_code, F_lw_block_code⟩ := c.d.def_ 28 rfl
  obtain ⟨d_lw_lets, F_lw_lets⟩ := c.d.def_ 29 rfl
  obtain ⟨d_lw_row, F_lw_row⟩ := c.d.def_ 30 rfl
  obtain ⟨d_lw_image_of, F_lw_image_of⟩ := c.d.def_ 31 rfl
  obtain ⟨d_lw_missing, F_lw_missing⟩ := c.d.def_ 32 rfl
  obtain ⟨d_law, F_law⟩ := c.d.def_ 33 rfl
  have e := hfa.symm.trans (He.glo_ok X G (c.d.fact 33 (f := .glo "law") rfl))
  cases e
  unfold okX at ok
  simp only [Bool.and_eq_true] at ok
  obtain ⟨o0, o1, o2, o3, o4, o5, o6, o7, o8, o9, o10, o11, o12, o13⟩ := ok
  have T : Txt K mg w ⟨d_blocks_in, d_let_names, d_compile_program, d_compiled_maker, d_compiled_row, d_local_names, d_compiled_block, d_row_of, d_maker_of, d_block_code, d_statement_code, d_if_code, d_while_code, d_row_code, d_call_code, d_expression_code, d_choice_code, d_lw_cell, d_lw_numbers, d_lw_pick, d_lw_int, d_lw_object, d_lw_receiver, d_lw_block, d_lw_maker, d_lw_interface, d_lw_program, d_lw_code, d_lw_block_code, d_lw_lets, d_lw_row, d_lw_image_of, d_lw_missing, d_law⟩ := {
    F_blocks_in := F_blocks_in
    b_blocks_in := F_blocks_in.bindsN (ps := ["statement"]) fun _ _ _ _ _ _ us hl => match us, hl with | [_], _ => rfl
    g_blocks_in := He.glo_ok X G (c.d.fact 0 (f := .glo "blocks_in") rfl)
    F_let_names := F_let_names
    b_let_names := F_let_names.bindsN (ps := ["block"]) fun _ _ _ _ _ _ us hl => match us, hl with | [_], _ => rfl
    g_let_names := He.glo_ok X G (c.d.fact 1 (f := .glo "let_names") rfl)
    F_compile_program := F_compile_program
    b_compile_program := F_compile_program.bindsN (ps := ["program"]) fun _ _ _ _ _ _ us hl => match us, hl with | [_], _ => rfl
    g_compile_program := He.glo_ok X G (c.d.fact 2 (f := .glo "compile_program") rfl)
    F_compiled_maker := F_compiled_maker
    b_compiled_maker := F_compiled_maker.bindsN (ps := ["maker"]) fun _ _ _ _ _ _ us hl => match us, hl with | [_], _ => rfl
    g_compiled_maker := He.glo_ok X G (c.d.fact 3 (f := .glo "_compiled_maker") rfl)
    F_compiled_row := F_compiled_row
    b_compiled_row := F_compiled_row.bindsN (ps := ["name", "params", "block", "fields"]) fun _ _ _ _ _ _ us hl => match us, hl with | [_, _, _, _], _ => rfl
    g_compiled_row := He.glo_ok X G (c.d.fact 4 (f := .glo "_compiled_row") rfl)
    F_local_names := F_local_names
    b_local_names := F_local_names.bindsN (ps := ["params", "block"]) fun _ _ _ _ _ _ us hl => match us, hl with | [_, _], _ => rfl
    g_local_names := He.glo_ok X G (c.d.fact 5 (f := .glo "local_names") rfl)
    F_compiled_block := F_compiled_block
    b_compiled_block := F_compiled_block.bindsN (ps := ["names", "block"]) fun _ _ _ _ _ _ us hl => match us, hl with | [_, _], _ => rfl
    g_compiled_block := He.glo_ok X G (c.d.fact 6 (f := .glo "compiled_block") rfl)
    F_row_of := F_row_of
    b_row_of := F_row_of.bindsN (ps := ["image", "maker", "operation"]) fun _ _ _ _ _ _ us hl => match us, hl with | [_, _, _], _ => rfl
    g_row_of := He.glo_ok X G (c.d.fact 7 (f := .glo "row_of") rfl)
    F_maker_of := F_maker_of
    b_maker_of := F_maker_of.bindsN (ps := ["image", "name"]) fun _ _ _ _ _ _ us hl => match us, hl with | [_, _], _ => rfl
    g_maker_of := He.glo_ok X G (c.d.fact 8 (f := .glo "maker_of") rfl)
    F_block_code := F_block_code
    b_block_code := F_block_code.bindsN (ps := ["names", "block", "at"]) fun _ _ _ _ _ _ us hl => match us, hl with | [_, _, _], _ => rfl
    g_block_code := He.glo_ok X G (c.d.fact 9 (f := .glo "_block_code") rfl)
    F_statement_code := F_statement_code
    b_statement_code := F_statement_code.bindsN (ps := ["names", "statement", "at"]) fun _ _ _ _ _ _ us hl => match us, hl with | [_, _, _], _ => rfl
    g_statement_code := He.glo_ok X G (c.d.fact 10 (f := .glo "_statement_code") rfl)
    F_if_code := F_if_code
    b_if_code := F_if_code.bindsN (ps := ["names", "statement", "at"]) fun _ _ _ _ _ _ us hl => match us, hl with | [_, _, _], _ => rfl
    g_if_code := He.glo_ok X G (c.d.fact 11 (f := .glo "_if_code") rfl)
    F_while_code := F_while_code
    b_while_code := F_while_code.bindsN (ps := ["names", "statement", "at"]) fun _ _ _ _ _ _ us hl => match us, hl with | [_, _, _], _ => rfl
    g_while_code := He.glo_ok X G (c.d.fact 12 (f := .glo "_while_code") rfl)
    F_row_code := F_row_code
    b_row_code := F_row_code.bindsN (ps := ["names", "expressions", "at"]) fun _ _ _ _ _ _ us hl => match us, hl with | [_, _, _], _ => rfl
    g_row_code := He.glo_ok X G (c.d.fact 13 (f := .glo "_row_code") rfl)
    F_call_code := F_call_code
    b_call_code := F_call_code.bindsN (ps := ["names", "call", "at"]) fun _ _ _ _ _ _ us hl => match us, hl with | [_, _, _], _ => rfl
    g_call_code := He.glo_ok X G (c.d.fact 14 (f := .glo "_call_code") rfl)
    F_expression_code := F_expression_code
    b_expression_code := F_expression_code.bindsN (ps := ["names", "expression", "at"]) fun _ _ _ _ _ _ us hl => match us, hl with | [_, _, _], _ => rfl
    g_expression_code := He.glo_ok X G (c.d.fact 15 (f := .glo "_expression_code") rfl)
    F_choice_code := F_choice_code
    b_choice_code := F_choice_code.bindsN (ps := ["names", "expression", "at"]) fun _ _ _ _ _ _ us hl => match us, hl with | [_, _, _], _ => rfl
    g_choice_code := He.glo_ok X G (c.d.fact 16 (f := .glo "_choice_code") rfl)
    F_lw_cell := F_lw_cell
    b_lw_cell := F_lw_cell.bindsN (ps := ["script", "k"]) fun _ _ _ _ _ _ us hl => match us, hl with | [_, _], _ => rfl
    g_lw_cell := He.glo_ok X G (c.d.fact 17 (f := .glo "_law_cell") rfl)
    F_lw_numbers := F_lw_numbers
    b_lw_numbers := F_lw_numbers.bindsN (ps := ["cell", "k", "many"]) fun _ _ _ _ _ _ us hl => match us, hl with | [_, _, _], _ => rfl
    g_lw_numbers := He.glo_ok X G (c.d.fact 18 (f := .glo "_law_numbers") rfl)
    F_lw_pick := F_lw_pick
    b_lw_pick := F_lw_pick.bindsN (ps := ["numbers", "at"]) fun _ _ _ _ _ _ us hl => match us, hl with | [_, _], _ => rfl
    g_lw_pick := He.glo_ok X G (c.d.fact 19 (f := .glo "_law_pick") rfl)
    F_lw_int := F_lw_int
    b_lw_int := F_lw_int.bindsN (ps := ["numbers", "at", "ints", "cells", "level", "depth"]) fun _ _ _ _ _ _ us hl => match us, hl with | [_, _, _, _, _, _], _ => rfl
    g_lw_int := He.glo_ok X G (c.d.fact 20 (f := .glo "_law_int") rfl)
    F_lw_object := F_lw_object
    b_lw_object := F_lw_object.bindsN (ps := ["numbers", "at", "ints", "cells", "level", "depth"]) fun _ _ _ _ _ _ us hl => match us, hl with | [_, _, _, _, _, _], _ => rfl
    g_lw_object := He.glo_ok X G (c.d.fact 21 (f := .glo "_law_object") rfl)
    F_lw_receiver := F_lw_receiver
    b_lw_receiver := F_lw_receiver.bindsN (ps := ["numbers", "at", "ints", "cells", "level", "depth"]) fun _ _ _ _ _ _ us hl => match us, hl with | [_, _, _, _, _, _], _ => rfl
    g_lw_receiver := He.glo_ok X G (c.d.fact 22 (f := .glo "_law_receiver") rfl)
    F_lw_block := F_lw_block
    b_lw_block := F_lw_block.bindsN (ps := ["numbers", "at", "ints", "cells", "level", "many", "mark"]) fun _ _ _ _ _ _ us hl => match us, hl with | [_, _, _, _, _, _, _], _ => rfl
    g_lw_block := He.glo_ok X G (c.d.fact 23 (f := .glo "_law_block") rfl)
    F_lw_maker := F_lw_maker
    b_lw_maker := F_lw_maker.bindsN (ps := ["numbers", "at", "name"]) fun _ _ _ _ _ _ us hl => match us, hl with | [_, _, _], _ => rfl
    g_lw_maker := He.glo_ok X G (c.d.fact 24 (f := .glo "_law_maker") rfl)
    F_lw_interface := F_lw_interface
    b_lw_interface := F_lw_interface.bindsN (ps := []) fun _ _ _ _ _ _ us hl => match us, hl with | [], _ => rfl
    g_lw_interface := He.glo_ok X G (c.d.fact 25 (f := .glo "_law_interface") rfl)
    F_lw_program := F_lw_program
    b_lw_program := F_lw_program.bindsN (ps := ["numbers", "many", "level"]) fun _ _ _ _ _ _ us hl => match us, hl with | [_, _, _], _ => rfl
    g_lw_program := He.glo_ok X G (c.d.fact 26 (f := .glo "_law_program") rfl)
    F_lw_code := F_lw_code
    b_lw_code := F_lw_code.bindsN (ps := ["node", "places", "base"]) fun _ _ _ _ _ _ us hl => match us, hl with | [_, _, _], _ => rfl
    g_lw_code := He.glo_ok X G (c.d.fact 27 (f := .glo "_law_code") rfl)
    F_lw_block_code := F_lw_block_code
    b_lw_block_code := F_lw_block_code.bindsN (ps := ["block", "places", "base"]) fun _ _ _ _ _ _ us hl => match us, hl with | [_, _, _], _ => rfl
    g_lw_block_code := He.glo_ok X G (c.d.fact 28 (f := .glo "_law_block_code") rfl)
    F_lw_lets := F_lw_lets
    b_lw_lets := F_lw_lets.bindsN (ps := ["block"]) fun _ _ _ _ _ _ us hl => match us, hl with | [_], _ => rfl
    g_lw_lets := He.glo_ok X G (c.d.fact 29 (f := .glo "_law_lets") rfl)
    F_lw_row := F_lw_row
    b_lw_row := F_lw_row.bindsN (ps := ["name", "params", "fields", "block"]) fun _ _ _ _ _ _ us hl => match us, hl with | [_, _, _, _], _ => rfl
    g_lw_row := He.glo_ok X G (c.d.fact 30 (f := .glo "_law_row") rfl)
    F_lw_image_of := F_lw_image_of
    b_lw_image_of := F_lw_image_of.bindsN (ps := ["maker"]) fun _ _ _ _ _ _ us hl => match us, hl with | [_], _ => rfl
    g_lw_image_of := He.glo_ok X G (c.d.fact 31 (f := .glo "_law_image_of") rfl)
    F_lw_missing := F_lw_missing
    b_lw_missing := F_lw_missing.bindsN (ps := ["image", "maker", "operation"]) fun _ _ _ _ _ _ us hl => match us, hl with | [_, _, _], _ => rfl
    g_lw_missing := He.glo_ok X G (c.d.fact 32 (f := .glo "_law_missing") rfl)
    F_law := F_law
    b_law := F_law.bindsN (ps := ["script"]) fun _ _ _ _ _ _ us hl => match us, hl with | [_], _ => rfl
    g_law := He.glo_ok X G (c.d.fact 33 (f := .glo "law") rfl)
    g_PortError := He.glo_ok X G (c.d.fact 34 (f := .glo "PortError") rfl)
    g_NotAllowed := He.glo_ok X G (c.d.fact 35 (f := .glo "NotAllowed") rfl)
    g_Missing := He.glo_ok X G (c.d.fact 36 (f := .glo "Missing") rfl)
    g_tuple := He.free_ok X G (c.d.fact 37 (f := .free "tuple") rfl)
    g_len := He.free_ok X G (c.d.fact 38 (f := .free "len") rfl)
    g_enumerate := He.free_ok X G (c.d.fact 39 (f := .free "enumerate") rfl)
    g_dict := He.free_ok X G (c.d.fact 40 (f := .free "dict") rfl)
    g_range := He.free_ok X G (c.d.fact 41 (f := .free "range") rfl)
    g_int := He.free_ok X G (c.d.fact 42 (f := .free "int") rfl)
    g_str := He.free_ok X G (c.d.fact 43 (f := .free "str") rfl)
    g_min := He.free_ok X G (c.d.fact 44 (f := .free "min") rfl)
    g_isinstance := He.free_ok X G (c.d.fact 45 (f := .free "isinstance") rfl)
    g_max := He.free_ok X G (c.d.fact 46 (f := .free "max") rfl)
    x_Missing := o0
    k_Missing := o1
    s_Missing := eq_of_beq o2
    t_Missing := eq_of_beq o3
    m1_ := eq_of_beq o4
    m2_ := eq_of_beq o5
    m4_ := o6
    m5_ := eq_of_beq o7
    m6_ := eq_of_beq o8
    m7_ := eq_of_beq o9
    m8_ := eq_of_beq o10
    e1_ := eq_of_beq o11
    e2_ := eq_of_beq o12
    e3_ := eq_of_beq o13
  }
  have b := Cm.bindsA_of (x := "law") (st := s_law) (ps := ["script"]) F_law fun _ _ _ _ _ _ us hl => match us, hl with | [_], _ => rfl
  exact ⟨d_law, fun s v => b s [v] rfl, fun base _ _ => ok_law T⟩
end K21
open PySem PySem.W PySem.Calls PyProof.Rows
set_option maxHeartbeats 0 in
theorem PySem.Challenge.cw_portage_k22_images_holds : PySem.Challenge.rw_portage_k22_images.Holds := by
  w_on; o_law
  refine HandSHeadRun.head_any (r := OpenLaw.row PySem.Challenge.rw_portage_k22_images) (q := view (OpenLaw.row PySem.Challenge.rw_portage_k22_images).prog [40]) (H := K21.hk) (ob := K21.ob) (M := 3000) (loose := K21.loose) (d := HandSHeadRun.topDef (OpenLaw.row PySem.Challenge.rw_portage_k22_images).prog 40) (kwd := []) K21.ob_eq
    (by kernel_rfl) (fun s => by kernel_rfl) K21.run (by kernel_rfl) (by kernel_rfl) (by kernel_rfl) (by rfl) (by first | assumption | decide +kernel) (by decide +kernel) ⟨rfl, rfl, rfl, rfl, rfl, by decide +kernel⟩ ?hw ?hc
  case hw => w_witness2
  case hc =>
    refine L2.walk_ofE (l := PySem.Challenge.rw_portage_k22_images) (n := 63) (k := 88) (x := "script") (CX := L2.CX0) rfl (by decide) (by kernel_rfl) ⟨rfl, by decide, by decide⟩ ?F (fun _ _ _ _ z => z)
    intro w mg fa h Y G hmg0
    obtain ⟨K, KX, ok, c⟩ := Y
    have hmg : mg ("law" : PySem.Str) = some (.ref fa) := by
      have e : (HandSHeadRun.topDef (OpenLaw.row PySem.Challenge.rw_portage_k22_images).prog 40).name = ("law" : PySem.Str) := by kernel_rfl
      rw [← e]
      exact hmg0
    obtain ⟨fd, hb, hF⟩ := K21.facts (P := (PySem.Challenge.rw_portage_k22_images).prog) (w := w) KX G hmg ok c
    exact ⟨K, fd, K21.spLaw K, KX, hb, fun H a ns hl _ hS => ⟨a, ns, rfl, hS, hl, fun _ => rfl⟩, hF⟩

