import PyProof.Rows.All
import Wide.All
import OpenK.AllK
import Wide.FinOn
import HandS.ForMost
import HandS.SlotsOwn
import HandS.Wide
import HandS.IsInst
import HandS.Style
import HandS.Zip
import HandS.Walk
import HandS.Exc
import HandS.TryOnly
import HandS.ExcOwn
import HandS.WordsExc
import HandS.ExcIs
import KE.OsGo
import HandS.Codes
import HandS.Text
import KE.IntTextLaws
import KE.KExcIs
import KE.DataEq
import KE.KTupSum
import HandS.Defaults
import HandS.MakeKw
import HandS.MakeKwOnly
import HandS.ClsMeth
import HandS.Strs
import KE.GoesMore
import HandS.TupAny
import HandS.TupMul
import HandS.TryMany
import HandS.ExcCtx
import KE.KOpsOwn
import PyProof.P3In
import HandS.Dict
import HandS.More
import PyProof.ReprRoads
import HandS.Conv
import PyProof.EqKinds
import PyProof.NeKinds
import HandS.DictComp
import PySem.Challenge.RW_wheelchorus_k06_towns_refused
set_option Elab.async false
set_option linter.all false
set_option maxRecDepth 100000
set_option maxHeartbeats 4000000
/-! Numbers as lists of digits, their rows, and where two rows part. -/
namespace Wm
open PySem L2
def codes (ds : List Nat) : List Nat := ds.map (· + 48)
def numS (ds : List Nat) : Str := ⟨(codes ds).toArray⟩
structure Dig (ds : List Nat) : Prop where
  dig : ∀ d ∈ ds, 1 ≤ d ∧ d ≤ 9
structure Num (ds : List Nat) : Prop where
  pos : 1 ≤ ds.length
  len : ds.length ≤ 4
  dig : ∀ d ∈ ds, 1 ≤ d ∧ d ≤ 9
  sum : ds.sum ≤ 24
def blk (d : Nat) : List Int := (List.replicate d [1, 0]).flatten
def rowL : List Nat → List Int
  | [] => [0, 0]
  | d :: ds => blk d ++ ([0, 0] ++ rowL ds)
structure Diff (xs ys : List Int) (k : Nat) (a b : Int) : Prop where
  one : xs[k]? = some a
  two : ys[k]? = some b
  ne : a ≠ b
  eq : ∀ j, j < k → xs[j]? = ys[j]?
theorem Diff.symm {xs ys : List Int} {k : Nat} {a b : Int} (h : Diff xs ys k a b) : Diff ys xs k b a :=
  ⟨h.two, h.one, h.ne.symm, fun j l => (h.eq j l).symm⟩
theorem Diff.cons {xs ys : List Int} {k : Nat} {a b : Int} (z : Int) (h : Diff xs ys k a b) : Diff (z :: xs) (z :: ys) (k + 1) a b := by
  refine ⟨by simpa using h.one, by simpa using h.two, h.ne, fun j l => ?_⟩
  cases j with
  | zero => rfl
  | succ j => simpa using h.eq j (by omega)
theorem Diff.app {xs ys : List Int} {k : Nat} {a b : Int} : ∀ (p : List Int), Diff xs ys k a b → Diff (p ++ xs) (p ++ ys) (p.length + k) a b
  | [], h => by simpa using h
  | z :: p, h => by
    have ih := (Diff.app p h).cons z
    have e : (z :: p).length + k = p.length + k + 1 := by simp only [List.length_cons]; omega
    rw [e]
    exact ih
theorem Diff.uniq {xs ys : List Int} {k l : Nat} {a b c d : Int} (h : Diff xs ys k a b) (g : Diff xs ys l c d) : k = l ∧ a = c ∧ b = d := by
  have e : k = l := by
    rcases Nat.lt_trichotomy k l with x | x | x
    · exact absurd (by have q := g.eq k x; rw [h.one, h.two] at q; exact Option.some.inj q) h.ne
    · exact x
    · exact absurd (by have q := h.eq l x; rw [g.one, g.two] at q; exact Option.some.inj q) g.ne
  subst e
  exact ⟨rfl, Option.some.inj (h.one.symm.trans g.one), Option.some.inj (h.two.symm.trans g.two)⟩
theorem Diff.lt1 {xs ys : List Int} {k : Nat} {a b : Int} (h : Diff xs ys k a b) : k < xs.length := (List.getElem?_eq_some_iff.mp h.one).1
theorem Diff.lt2 {xs ys : List Int} {k : Nat} {a b : Int} (h : Diff xs ys k a b) : k < ys.length := (List.getElem?_eq_some_iff.mp h.two).1
theorem blk_add (d e : Nat) : blk (d + e) = blk d ++ blk e := by
  unfold blk
  rw [← List.replicate_append_replicate, List.flatten_append]
theorem blk_succ (e : Nat) : blk (e + 1) = [1, 0] ++ blk e := by
  rw [Nat.add_comm, blk_add]
  rfl
theorem blk_len (d : Nat) : (blk d).length = 2 * d := by
  induction d with
  | zero => rfl
  | succ d ih => rw [blk_succ, List.length_append, ih]; simp only [List.length_cons, List.length_nil]; omega
theorem row_less (d e : Nat) (ds es : List Nat) (h : d < e) : Diff (rowL (d :: ds)) (rowL (e :: es)) (2 * d) 0 1 := by
  obtain ⟨f, rfl⟩ : ∃ f, e = d + (f + 1) := ⟨e - d - 1, by omega⟩
  have h0 : Diff ([0, 0] ++ rowL ds) ([1, 0] ++ (blk f ++ ([0, 0] ++ rowL es))) 0 0 1 := ⟨rfl, rfl, by decide, fun j l => absurd l (Nat.not_lt_zero _)⟩
  have h1 := h0.app (blk d)
  rw [blk_len, Nat.add_zero] at h1
  have e1 : rowL ((d + (f + 1)) :: es) = blk d ++ ([1, 0] ++ (blk f ++ ([0, 0] ++ rowL es))) := by
    show blk (d + (f + 1)) ++ _ = _
    rw [blk_add, blk_succ, List.append_assoc, List.append_assoc]
  rw [e1]
  exact h1
theorem rows_part : ∀ (ds es : List Nat), (∀ d ∈ ds, 1 ≤ d) → (∀ e ∈ es, 1 ≤ e) →
    ds = es ∨ (∃ k, Diff (rowL ds) (rowL es) k 1 0 ∧ es < ds) ∨ (∃ k, Diff (rowL ds) (rowL es) k 0 1 ∧ ds < es)
  | [], [], _, _ => .inl rfl
  | [], e :: es, _, h => by
    obtain ⟨f, rfl⟩ : ∃ f, e = f + 1 := ⟨e - 1, by have := h e (by simp); omega⟩
    refine .inr (.inr ⟨0, ⟨rfl, ?_, by decide, fun j l => absurd l (Nat.not_lt_zero _)⟩, List.nil_lt_cons _ _⟩)
    show (blk (f + 1) ++ _)[0]? = _
    rw [blk_succ]
    rfl
  | d :: ds, [], h, _ => by
    obtain ⟨f, rfl⟩ : ∃ f, d = f + 1 := ⟨d - 1, by have := h d (by simp); omega⟩
    refine .inr (.inl ⟨0, ⟨?_, rfl, by decide, fun j l => absurd l (Nat.not_lt_zero _)⟩, List.nil_lt_cons _ _⟩)
    show (blk (f + 1) ++ _)[0]? = _
    rw [blk_succ]
    rfl
  | d :: ds, e :: es, h, g => by
    rcases Nat.lt_trichotomy d e with x | x | x
    · exact .inr (.inr ⟨_, row_less d e ds es x, List.cons_lt_cons_iff.mpr (.inl x)⟩)
    · subst x
      rcases rows_part ds es (fun y m => h y (List.mem_cons_of_mem _ m)) (fun y m => g y (List.mem_cons_of_mem _ m)) with q | ⟨k, q, l⟩ | ⟨k, q, l⟩
      · exact .inl (by rw [q])
      · exact .inr (.inl ⟨_, (q.app [0, 0]).app (blk d), List.cons_lt_cons_iff.mpr (.inr ⟨rfl, l⟩)⟩)
      · exact .inr (.inr ⟨_, (q.app [0, 0]).app (blk d), List.cons_lt_cons_iff.mpr (.inr ⟨rfl, l⟩)⟩)
    · exact .inr (.inl ⟨_, (row_less e d es ds x).symm, List.cons_lt_cons_iff.mpr (.inl x)⟩)
theorem codes_lt : ∀ (ds es : List Nat), ds < es → codes ds < codes es
  | [], [], h => absurd h (List.lt_irrefl _)
  | [], _ :: _, _ => List.nil_lt_cons _ _
  | _ :: _, [], h => absurd h (List.not_lt_nil _)
  | d :: ds, e :: es, h => by
    rcases List.cons_lt_cons_iff.mp h with x | ⟨x, y⟩
    · exact List.cons_lt_cons_iff.mpr (.inl (Nat.add_lt_add_right x 48))
    · exact List.cons_lt_cons_iff.mpr (.inr ⟨by rw [x], codes_lt ds es y⟩)
theorem codes_inj : ∀ (ds es : List Nat), codes ds = codes es → ds = es
  | [], [], _ => rfl
  | [], _ :: _, h => by simp [codes] at h
  | _ :: _, [], h => by simp [codes] at h
  | d :: ds, e :: es, h => by
    have h1 : d + 48 = e + 48 := (List.cons.inj h).1
    have h2 : codes ds = codes es := (List.cons.inj h).2
    rw [codes_inj ds es h2, show d = e by omega]
theorem numS_cps (ds : List Nat) : (numS ds).cps.toList = codes ds := rfl
theorem numS_inj {ds es : List Nat} (h : numS ds = numS es) : ds = es := codes_inj _ _ (by rw [← numS_cps, h, numS_cps])
theorem numS_len (ds : List Nat) : (numS ds).length = ds.length := by
  show (codes ds).toArray.size = _
  simp [codes]
theorem lt_asymm' {a b : List Nat} (h : a < b) : ¬ b < a := fun g => List.lt_irrefl _ (List.lt_trans h g)
theorem rowL_le : ∀ ds : List Nat, (∀ d ∈ ds, d ≤ 9) → (rowL ds).length ≤ 20 * ds.length + 2
  | [], _ => by decide
  | d :: ds, h => by
    have ih := rowL_le ds fun y m => h y (List.mem_cons_of_mem _ m)
    have hd := h d (by simp)
    show (blk d ++ ([0, 0] ++ rowL ds)).length ≤ _
    rw [List.length_append, List.length_append, blk_len]
    simp only [List.length_cons, List.length_nil]
    omega
end Wm

/-! Digits as signs, texts of digits cut and joined; what a heap keeps. -/
namespace Wm
open PySem L2
theorem dig_cases {d : Nat} (h : 1 ≤ d ∧ d ≤ 9) : d = 1 ∨ d = 2 ∨ d = 3 ∨ d = 4 ∨ d = 5 ∨ d = 6 ∨ d = 7 ∨ d = 8 ∨ d = 9 := by omega
theorem dig_int {d : Nat} (h : 1 ≤ d ∧ d ≤ 9) : PySem.intText? ⟨#[d + 48]⟩ = some (d : Int) := by
  rcases dig_cases h with e | e | e | e | e | e | e | e | e <;> subst e <;> decide +kernel
theorem dig_in {d : Nat} (h : 1 ≤ d ∧ d ≤ 9) : (d + 48) ∈ ("123456789" : Str).cps.toList := by
  rcases dig_cases h with e | e | e | e | e | e | e | e | e <;> subst e <;> decide +kernel
theorem dig_str {d : Nat} (h : 1 ≤ d ∧ d ≤ 9) : ((toString (d : Int) : String) : Str) = numS [d] := by
  rcases dig_cases h with e | e | e | e | e | e | e | e | e <;> subst e <;> decide +kernel
theorem numS_app (ds es : List Nat) : numS ds ++ numS es = numS (ds ++ es) := by
  refine PyProof.Rows.ext_toList ?_
  show ((numS ds).cps ++ (numS es).cps).toList = _
  rw [Array.toList_append, numS_cps, numS_cps, numS_cps]
  simp [codes]
theorem numS_nil : numS [] = ("" : Str) := by decide +kernel
theorem numS_take (ds : List Nat) (k : Nat) : cutS (numS ds) none (some (k : Int)) = numS (ds.take k) := by
  refine PyProof.Rows.ext_toList ?_
  show ((codes ds).drop 0).take (HT.sIx (numS ds).length (numS ds).length (some (k : Int)) - 0) = codes (ds.take k)
  rw [numS_len, HT.sIx_nat, List.drop_zero, Nat.sub_zero]
  simp only [codes, ← List.map_take]
  congr 1
  rw [List.take_eq_take_iff]
  omega
theorem numS_last (ds : List Nat) : cutS (numS ds) none (some (-1)) = numS ds.dropLast := by
  refine PyProof.Rows.ext_toList ?_
  show ((codes ds).drop 0).take (HT.sIx (numS ds).length (numS ds).length (some (-1)) - 0) = codes ds.dropLast
  rw [numS_len, List.drop_zero, Nat.sub_zero, List.dropLast_eq_take]
  simp only [codes, ← List.map_take]
  have e : HT.sIx ds.length ds.length (some (-1)) = ds.length - 1 := by
    unfold HT.sIx
    simp only [show (-1 : Int) < 0 by decide, if_true]
    omega
  rw [e]
theorem numS_at (ds : List Nat) (i : Nat) (hi : i < ds.length) : (numS ds).cps[i]? = some (ds[i] + 48) := by
  show ((codes ds).toArray)[i]? = _
  simp [codes, hi]
theorem numS_size (ds : List Nat) : (numS ds).cps.size = ds.length := numS_len ds

/-! heaps -/
theorem same_new {H : Hp} {p : Addr} {o : HO} (n : H p = none) : Same H (upd H p o) := fun b u e => by
  rw [upd_ne (ne_of_none e n)]
  exact e
theorem at_old {H : Hp} {p q : Addr} {o u : HO} (h : H p = some o) (n : H q = none) : upd H q u p = some o := by
  rw [upd_ne (ne_of_none h n)]
  exact h
theorem sameT {K : PySem.W.Frag} {H H' : Hp} {a : Addr} {xs : List V} (e : Same H H') (h : SqT K H a xs) : SqT K H' a xs := by
  rcases h with (h | ⟨o, h⟩) | h
  · exact .inl (.inl (e _ _ h))
  · exact .inl (.inr ⟨o, e _ _ h⟩)
  · exact .inr h
/-- what stood stands, but for what H did not know and the object at p, which is new since -/
theorem same_mut {H H' : Hp} {p : Addr} {o : HO} (s : Same H H') (n : H p = none) : Same H (upd H' p o) := fun b u e => by
  rw [upd_ne (ne_of_none e n)]
  exact s b u e
/-- the bag's list at b, its cells at c -/
def Cel (H : Hp) (b c : Addr) : Prop := ∃ x k m z : Int, H b = some (.lst [.int x, .ref c, .int k, .int m, .int z])
structure But (b : Addr) (H H' : Hp) : Prop where
  keep : ∀ p o, p ≠ b → H p = some o → H' p = some o
  cel : ∀ c, Cel H b c → Cel H' b c
instance {b : Addr} {H H' : Hp} : CoeFun (But b H H') (fun _ => ∀ p o, p ≠ b → H p = some o → H' p = some o) := ⟨But.keep⟩
theorem But.refl (b : Addr) (H : Hp) : But b H H := ⟨fun _ _ _ h => h, fun _ h => h⟩
theorem But.trans {b : Addr} {H H1 H2 : Hp} (x : But b H H1) (y : But b H1 H2) : But b H H2 := ⟨fun p o n h => y.keep p o n (x.keep p o n h), fun c h => y.cel c (x.cel c h)⟩
theorem But.of {b : Addr} {H H' : Hp} (s : Same H H') : But b H H' := ⟨fun p o _ h => s p o h, fun _ ⟨x, k, m, z, h⟩ => ⟨x, k, m, z, s _ _ h⟩⟩
theorem But.set {b c : Addr} {H : Hp} {x k m z x' k' m' z' : Int} (hb : H b = some (.lst [.int x, .ref c, .int k, .int m, .int z])) : But b H (upd H b (.lst [.int x', .ref c, .int k', .int m', .int z'])) :=
  ⟨fun p u n h => by
    rw [upd_ne n]
    exact h, fun c2 ⟨a1, a2, a3, a4, h⟩ => by
    rw [hb] at h
    have h := Option.some.inj h
    injection h with h
    injection h with h1 h
    injection h with h2 h
    injection h2 with h2
    subst h2
    exact ⟨x', k', m', z', upd_same⟩⟩
/-- the bag of draws: its cells' list and its four numbers -/
def Bag (H : Hp) (b : Addr) (n : Nat) : Prop :=
  ∃ (c : Addr) (x k m z : Int) (ns : List Int), H b = some (.lst [.int x, .ref c, .int k, .int m, .int z]) ∧ H c = some (.lst (ns.map V.int)) ∧ 0 ≤ k ∧ 0 ≤ m ∧ m ≤ (n : Int)
theorem bag_ne {H : Hp} {b c : Addr} {x k m z : Int} {ns : List Int} (hb : H b = some (.lst [.int x, .ref c, .int k, .int m, .int z])) (hc : H c = some (.lst (ns.map V.int))) : c ≠ b := by
  intro e
  subst e
  rw [hb] at hc
  have q := Option.some.inj hc
  have q2 : ([.int x, .ref c, .int k, .int m, .int z] : List V) = ns.map V.int := by injection q
  cases ns with
  | nil => simp at q2
  | cons u r => cases r with
    | nil => simp at q2
    | cons v r => simp at q2
theorem Bag.mono {H : Hp} {b : Addr} {n m : Nat} (h : Bag H b n) (l : n ≤ m) : Bag H b m := by
  obtain ⟨c, x, k, q, z, ns, h1, h2, h3, h4, h5⟩ := h
  exact ⟨c, x, k, q, z, ns, h1, h2, h3, h4, by omega⟩
theorem Bag.keep {H H' : Hp} {b : Addr} {n : Nat} (h : Bag H b n) (s : Same H H') : Bag H' b n := by
  obtain ⟨c, x, k, q, z, ns, h1, h2, h3, h4, h5⟩ := h
  exact ⟨c, x, k, q, z, ns, s _ _ h1, s _ _ h2, h3, h4, h5⟩
theorem Cel.uniq {H : Hp} {b c d : Addr} (h : Cel H b c) (g : Cel H b d) : c = d := by
  obtain ⟨x, k, m, z, h⟩ := h
  obtain ⟨x', k', m', z', g⟩ := g
  rw [h] at g
  have g := Option.some.inj g
  injection g with g
  injection g with g1 g
  injection g with g2 g
  injection g2
theorem But.put {b D : Addr} {H H' : Hp} {o : HO} (e : But b H H') (n : H D = none) : But b H (upd H' D o) := by
  refine ⟨fun p u pb h => ?_, fun c h => ?_⟩
  · rw [upd_ne (ne_of_none h n)]
    exact e.keep p u pb h
  · have h0 := h
    obtain ⟨x, k, m, z, h⟩ := h
    obtain ⟨x', k', m', z', g⟩ := e.cel c h0
    exact ⟨x', k', m', z', by rw [upd_ne (ne_of_none h n)]; exact g⟩
theorem Bag.put {b D : Addr} {H H' : Hp} {o : HO} {n m : Nat} (bag : Bag H b n) (f : H D = none) (e : But b H H') (bag2 : Bag H' b m) : Bag (upd H' D o) b m := by
  obtain ⟨c, x, k, q, z, ns, h1, h2, h3, h4, h5⟩ := bag
  obtain ⟨c', x', k', q', z', ns', g1, g2, g3, g4, g5⟩ := bag2
  have ec : c = c' := Cel.uniq (e.cel c ⟨x, k, q, z, h1⟩) ⟨x', k', q', z', g1⟩
  subst ec
  exact ⟨c, x', k', q', z', ns', by rw [upd_ne (ne_of_none h1 f)]; exact g1, by rw [upd_ne (ne_of_none h2 f)]; exact g2, g3, g4, g5⟩
end Wm
namespace Wm
open PySem L2
theorem yesT {σ : L2.St} {H : Hp} {A B : Hp → Prop} (h : A H) : tYes σ H (fun b H3 => if b = true then A H3 else B H3) := by
  show (if true = true then A H else B H)
  rw [if_pos rfl]
  exact h
end Wm

/-! row[::2] of a list or a tuple; a loop over a list or a tuple. -/
namespace Hf
open PySem PySem.Spec PyProof.Rows L2
def ev2 {α : Type} : List α → List α
  | [] => []
  | [x] => [x]
  | x :: _ :: r => x :: ev2 r
theorem ev2_le {α : Type} : ∀ xs : List α, (ev2 xs).length ≤ xs.length
  | [] => Nat.le_refl _
  | [_] => Nat.le_refl _
  | x :: y :: r => by
    have ih := ev2_le r
    show (ev2 r).length + 1 ≤ r.length + 2
    omega
theorem ev2_mem {α : Type} {z : α} : ∀ {xs : List α}, z ∈ ev2 xs → z ∈ xs
  | [], h => h
  | [_], h => h
  | x :: y :: r, h => by
    rcases List.mem_cons.mp h with e | e
    · rw [e]; simp
    · exact List.mem_cons_of_mem _ (List.mem_cons_of_mem _ (ev2_mem e))
theorem ev2_map {α β : Type} (f : α → β) : ∀ xs : List α, ev2 (xs.map f) = (ev2 xs).map f
  | [] => rfl
  | [_] => rfl
  | x :: y :: r => by
    show f x :: ev2 (r.map f) = f x :: (ev2 r).map f
    rw [ev2_map f r]
theorem ev2_pick {α : Type} : ∀ xs : List α, (List.range ((xs.length + 1) / 2)).filterMap (fun k => xs[2 * k]?) = ev2 xs
  | [] => by simp [ev2]
  | [x] => by
    rw [show ([x].length + 1) / 2 = 1 by simp, show List.range 1 = [0] by decide]
    simp [ev2]
  | x :: y :: r => by
    have ih := ev2_pick r
    have e : ((x :: y :: r).length + 1) / 2 = (r.length + 1) / 2 + 1 := by
      show (r.length + 1 + 1 + 1) / 2 = _
      omega
    rw [e, List.range_succ_eq_map, List.filterMap_cons]
    show x :: _ = x :: ev2 r
    rw [List.filterMap_map, ← ih]
    rfl
theorem ev2_vals : ∀ {xs : List V} {us : List Value}, Vals xs us → Vals (ev2 xs) (ev2 us)
  | [], _, h => by cases h; exact .nil
  | [x], _, h => by
    cases h with
    | cons a b =>
      cases b
      exact .cons a .nil
  | x :: y :: r, _, h => by
    cases h with
    | cons a b =>
      cases b with
      | cons c d => exact .cons a (ev2_vals d)
theorem pick2 (items : Array Value) : slicePick items none none (some 2) = (ev2 items.toList).toArray := by
  have e := ev2_pick items.toList
  unfold slicePick
  have b : sliceBounds none none (some 2) items.size = (0, (items.size : Int), 2) := by
    first
    | rfl
    | simp [sliceBounds]
  rw [b]
  show ((sliceRange 0 (items.size : Int) 2).filterMap (items[·]?)).toArray = _
  have r : sliceRange 0 (items.size : Int) 2 = (List.range ((items.size + 1) / 2)).map fun k => 2 * k := by
    unfold sliceRange
    have h1 : (2 : Int) > 0 := by decide
    by_cases h : (0 : Int) < (items.size : Int)
    · have e : ((items.size : Int) - 0 + 2 - 1) / 2 = (((items.size + 1) / 2 : Nat) : Int) := by omega
      simp only [h1, if_true, h, e, Int.toNat_natCast]
      apply List.map_congr_left
      intro k _
      omega
    · have e : items.size = 0 := by omega
      simp [e]
  rw [r, List.filterMap_map]
  rw [Array.length_toList] at e
  rw [← e]
  refine congrArg List.toArray (congrArg (fun f => List.filterMap f _) (funext fun k => ?_))
  show items[2 * k]? = _
  rw [Array.getElem?_toList]
section
variable {prog : Program} {w : World} {A : Around} {E : Value → Shared → Prop} {s : Shared}
theorem places2 (n : Nat) : Builtin.Slice.slicePlaces 0 (n : Int) 2 = (n + 1) / 2 := by
  unfold Builtin.Slice.slicePlaces
  have h1 : (2 : Int) > 0 := by omega
  simp only [h1, if_true]
  split <;> omega
theorem adjust2 (n : Nat) : Builtin.Slice.sliceAdjust none none 2 (n : Int) = (0, (n : Int)) := by
  have h1 : ¬ ((2 : Int) < 0) := by omega
  unfold Builtin.Slice.sliceAdjust
  simp only [h1, if_false]
theorem sliceApplied2 {sl : Addr} {t : Tok} {n : Nat} {Q : Int × Int × Nat → Shared → Prop} (hs : s.heap.IsSliceOf sl .none .none (.int 2 t))
    (h : Q (0, 2, (n + 1) / 2) s) : wpAny (model prog w) A (Builtin.Slice.sliceApplied (.ref sl) (pure (n : Int))) Q E s := by
  obtain ⟨os, hos, hcs, hds⟩ := id hs
  unfold Builtin.Slice.sliceApplied Builtin.Slice.sliceFields
  refine wpAny_bind (wpAny_bind (wpAny_field hos hds (x := .none) rfl (wpAny_bind (wpAny_field hos hds (x := .none) rfl (wpAny_bind (wpAny_field hos hds (x := .int 2 t) rfl (wpAny_pure ?_)))))))
  refine wpAny_bind (slicePart_int ?_)
  show wpAny _ _ (if ((2 : Int) == 0) = true then _ else _) _ _ s
  rw [if_neg (by decide)]
  refine wpAny_bind (HT.slicePart_ .none (wpAny_bind (HT.slicePart_ .none (wpAny_bind (wpAny_pure ?_)))))
  show wpAny _ _ (match Builtin.Slice.sliceAdjust none none 2 (n : Int) with | (lo, hi) => pure (lo, (2 : Int), Builtin.Slice.slicePlaces lo hi 2)) _ _ s
  rw [adjust2 n]
  show wpAny _ _ (pure ((0 : Int), (2 : Int), Builtin.Slice.slicePlaces (0 : Int) (n : Int) 2)) _ _ s
  rw [places2]
  exact wpAny_pure h
theorem pick2t (xs : Array Value) : ((List.range ((xs.size + 1) / 2)).filterMap fun (m : Nat) => xs[((0 : Int) + (m : Int) * 2).toNat]?).toArray = (ev2 xs.toList).toArray := by
  have e : (fun (m : Nat) => xs[((0 : Int) + (m : Int) * 2).toNat]?) = fun m => xs.toList[2 * m]? := by
    funext m
    have : ((0 : Int) + (m : Int) * 2).toNat = 2 * m := by omega
    rw [this, Array.getElem?_toList]
  rw [e, ← ev2_pick xs.toList, Array.length_toList]
theorem getItem_tuple_2 {t sl : Addr} {tk : Tok} {items : Array Value} {Q : Value → Shared → Prop} (ht : IsTup s.heap t items) (hs : s.heap.IsSliceOf sl .none .none (.int 2 tk))
    (h : Q (.ref s.heap.objs.size) { s with heap := s.heap.push { cls := .type "tuple", data := .seq (ev2 items.toList).toArray } })
    (hsz : items.size ≤ sizeLine) : wpAny (model prog w) A (getItem (.ref t) (.ref sl)) Q E s := by
  have htake : sizeOk (.seq (ev2 items.toList).toArray) := by
    show (ev2 items.toList).toArray.size ≤ sizeLine
    rw [List.size_toArray]
    exact Nat.le_trans (ev2_le items.toList) (by rw [Array.length_toList]; exact hsz)
  obtain ⟨os, hos, hcs, hds⟩ := id hs
  have hTs : s.TypeIs (.ref sl) "slice" := ⟨os, hos, hcs⟩
  unfold getItem
  try with_reducible refine wpAny_holding ?_
  first | refine wpAny_bind (wpAny_pure ?_) | skip
  refine wpAny_bind (wpAny_sequenceKey ht.typeIs (by decide) ?_)
  refine wpAny_bind (wpAny_callSpecial?_slot (name := Str.ofString "__getitem__") ht.typeIs PyProof.Rows.slot_tuple_getitem
    (wpAny_call_entry PyProof.Rows.slot_tuple_getitem ht.typeIs entry_tuple_getitem ?_ (args_tuple_getitem _ _)))
  show wpAny _ _ (Builtin.Tuple.tupleItemsOf (.ref t) >>= _) _ _ s
  refine wpAny_bind (tupleItemsOf_ ht ?_)
  refine wpAny_bind (wpAny_typeOf hTs ?_)
  rw [if_pos (by decide)]
  refine wpAny_bind (sliceApplied2 hs ?_)
  have hno : ¬ (((0 : Int) == 0 && (2 : Int) == 1 && ((items.size + 1) / 2) == items.size) = true) := by
    intro q
    rw [Bool.and_eq_true, Bool.and_eq_true] at q
    exact absurd q.1.2 (by decide)
  show wpAny _ _ (if ((0 : Int) == 0 && (2 : Int) == 1 && ((items.size + 1) / 2) == items.size) = true then _ else _) _ _ s
  rw [if_neg hno, pick2t]
  first
    | exact wpAny_bind (m := Builtin.Tuple.tupleExact _) (wpAny_newObj_type (wpAny_pure ⟨_, rfl, wpAny_pure h⟩) htake)
    | exact wpAny_bind (m := Builtin.Tuple.tupleExact _) (wpAny_newObj_type (wpAny_bind (wpAny_pure (wpAny_pure ⟨_, rfl, wpAny_pure h⟩))) htake)
    | exact wpAny_bind (wpAny_bind (m := Builtin.Tuple.tupleExact _) (wpAny_newObj_type (wpAny_pure (wpAny_pure ⟨_, rfl, wpAny_pure h⟩)) htake))
    | exact wpAny_bind (wpAny_bind (m := Builtin.Tuple.tupleExact _) (wpAny_newObj_type (wpAny_pure ⟨_, rfl, wpAny_pure h⟩) htake))
end
section
variable {X : Cx}
def tHalf (K : PySem.W.Frag) (te : TE) : TE := fun σ H Q => te σ H fun x H1 => ∃ a xs, x = .ref a ∧ (SqL K H1 a xs ∨ SqT K H1 a xs) ∧
  ∀ p H2, (∀ b o, H1 b = some o → H2 b = some o) → H1 p = none → (SqL K H2 p (ev2 xs) ∨ SqT K H2 p (ev2 xs)) → Q (.ref p) H2
theorem new_same {H : Hp} {p : Addr} {o : HO} (n : H p = none) : ∀ b u, H b = some u → upd H p o b = some u := fun b u e => by
  rw [upd_ne (ne_of_none e n)]
  exact e
theorem pe_half {e : Expr} {te : TE} {k : Nat} {p1 p3 pos : Pos} (he : PE X e te) : PE X (.Subscript e (.Slice none none (some (.Constant (.int 2) k p1)) p3) pos) (tHalf X.K te) := by
  refine ⟨fun pins s σ H Q I h => ?_⟩
  refine Subscript_ (thn (he.run pins s σ H _ I h) fun v s1 ⟨x, H1, I1, r1, q1⟩ => ?_)
  obtain ⟨a, xs, ex, hq, q⟩ := q1
  subst ex
  cases r1
  have hst : PO X (some (.Constant (.int 2) k p1)) (tPart (tC (.int 2))) := po_some pe_int
  refine wpAny_Slice (thn (po_none.run pins s1 σ H1 (fun o H2 => o = none ∧ H2 = H1) I1 ⟨rfl, rfl⟩) fun vl s2 ⟨l, H2, I2, pl, el, e2⟩ => ?_)
  subst el e2
  refine thn (po_none.run pins s2 σ H2 (fun o H3 => o = none ∧ H3 = H2) I2 ⟨rfl, rfl⟩) fun vu s3 ⟨u, H3, I3, pu, eu, e3⟩ => ?_
  subst eu e3
  refine thn (hst.run pins s3 σ H3 (fun o H4 => o = some 2 ∧ H4 = H3) I3 ⟨2, rfl, rfl, rfl⟩) fun vs s4 ⟨o, H4, I4, ps, eo, e4⟩ => ?_
  subst eo e4
  have I5 : Inv X pins σ H4 { s4 with heap := s4.heap.push { cls := .type "slice", data := .fields #[vl, vu, vs] } } := I4.kept (t' := s4.toks) fun b ob q => Heap.get?_push_of_some _ q
  rcases hq with hx | hx
  · obtain ⟨its, r, ht, hz⟩ := I5.list hx
    have hlen := r.length
    show wpAny (model X.prog X.w) X.A (subscriptTail e (.Slice none none (some (.Constant (.int 2) k p1)) p3) (.ref a) (.ref s4.heap.objs.size)) (EP X pins σ Q) X.xe { s4 with heap := s4.heap.push { cls := .type "slice", data := .fields #[vl, vu, vs] } }
    refine tail_any (ops := [.ref a, .ref s4.heap.objs.size]) ht.isList.typeIs (PySem.slot_list_getitem.lookup) ?_ (by with_unfolding_all rfl)
    refine wpAny_getItem_list_slice ht.isList (Heap.IsSliceOf.new _ vl vu vs) pl pu ps (by decide) ?_ (by rw [List.size_toArray]; omega)
    rw [pick2]
    refine ⟨.ref _, _, I5.laid (t' := s4.toks) (o := .lst (ev2 xs)) (fun b ob q => Heap.get?_push_of_some _ q) (Nat.le_refl _) ?_, rfl, q _ _ (new_same (I5.hok.fresh (Nat.le_refl _))) (I5.hok.fresh (Nat.le_refl _)) (.inl (SqL.of upd_same))⟩
    exact ⟨Nat.le_trans (ev2_le xs) hz, _, 0, ev2_vals r, Heap.get?_push_size _ rfl⟩
  · obtain ⟨its, r, ht, hz⟩ := I5.tuple hx
    have hlen := r.length
    cases pl
    cases pu
    cases ps
    show wpAny (model X.prog X.w) X.A (subscriptTail e (.Slice none none (some (.Constant (.int 2) k p1)) p3) (.ref a) (.ref s4.heap.objs.size)) (EP X pins σ Q) X.xe { s4 with heap := s4.heap.push { cls := .type "slice", data := .fields #[Value.none, Value.none, .int 2 _] } }
    refine tail_any (ops := [.ref a, .ref s4.heap.objs.size]) ht.typeIs (PyProof.Rows.slot_tuple_getitem.lookup) ?_ (by with_unfolding_all rfl)
    refine getItem_tuple_2 ht (Heap.IsSliceOf.new _ _ _ _) ?_ (by rw [List.size_toArray]; omega)
    refine ⟨.ref _, _, I5.laid (t' := s4.toks) (o := .tup (ev2 xs)) (fun b ob q => Heap.get?_push_of_some _ q) (Nat.le_refl _) ?_, rfl, q _ _ (new_same (I5.hok.fresh (Nat.le_refl _))) (I5.hok.fresh (Nat.le_refl _)) (.inr (SqT.of upd_same))⟩
    exact ⟨Nat.le_trans (ev2_le xs) hz, _, ev2_vals r, IsTup.new _ _⟩
theorem keepL {K : PySem.W.Frag} {H H' : Hp} {a : Addr} {xs : List V} (e : Same H H') (h : SqL K H a xs) : SqL K H' a xs := by
  rcases h with (h | ⟨o, h⟩) | h
  · exact .inl (.inl (e _ _ h))
  · exact .inl (.inr ⟨o, e _ _ h⟩)
  · exact .inr h
theorem keepT {K : PySem.W.Frag} {H H' : Hp} {a : Addr} {xs : List V} (e : Same H H') (h : SqT K H a xs) : SqT K H' a xs := by
  rcases h with (h | ⟨o, h⟩) | h
  · exact .inl (.inl (e _ _ h))
  · exact .inl (.inr ⟨o, e _ _ h⟩)
  · exact .inr h
def iSeq (K : PySem.W.Frag) (tl : TE) : TI := fun σ H R => tl σ H fun x H1 => ∃ a xs, x = .ref a ∧ (SqL K H1 a xs ∨ SqT K H1 a xs) ∧
  ∀ J G, Walk J xs.length G (YAt xs) → (∀ H', Same H1 H' → G H') → R J H1
theorem pi_seq {tg l : Expr} {tl : TE} (hl : PE X l tl) : PI X tg l (iSeq X.K tl) := by
  refine ⟨fun pins s σ H R I h => ?_⟩
  refine thn (hl.run pins s σ H _ I h) fun v s1 ⟨x, H1, I1, r1, q1⟩ => ?_
  obtain ⟨a, xs, e, hq, q⟩ := q1
  subst e
  cases r1
  rcases hq with hq | hq
  · have q := q _ _ walk_list fun H' s => keepL s hq
    obtain ⟨its, rv, p, hz⟩ := I1.list hq
    refine wpAny_pyIter_list p.isList ?_
    refine ⟨s1.heap.objs.size, [s1.heap.objs.size], _, _, H1, rfl, I1.kept (t' := s1.toks) fun b o e => Heap.get?_push_of_some _ e, turn_list a _, ⟨_, Heap.get?_push_size _ rfl, rfl, rfl⟩, fun b hb => ?_, q⟩
    have e : b = s1.heap.objs.size := by simpa using hb
    subst e
    exact I1.fpOk (Nat.le_refl _) (I1.hok.fresh (Nat.le_refl _))
  · have q := q _ _ walk_tup fun H' s => keepT s hq
    obtain ⟨its, rv, p, hz⟩ := I1.tuple hq
    refine wpAny_pyIter_tuple (show s1.heap.IsTuple a its.toArray from p) ?_
    refine ⟨s1.heap.objs.size, [s1.heap.objs.size], _, _, H1, rfl, I1.kept (t' := s1.toks) fun b o e => Heap.get?_push_of_some _ e, turn_tuple a _, ⟨_, Heap.get?_push_size _ rfl, rfl, rfl⟩, fun b hb => ?_, q⟩
    have e : b = s1.heap.objs.size := by simpa using hb
    subst e
    exact I1.fpOk (Nat.le_refl _) (I1.hok.fresh (Nat.le_refl _))
end
end Hf

/-! Rows read back: strokes, steps, groups. -/
namespace Wm
open PySem L2 TL
/-- the rows of the first digits, without the two ticks at the end -/
def pre : List Nat → List Int
  | [] => []
  | d :: ds => blk d ++ ([0, 0] ++ pre ds)
theorem pre_app : ∀ (ds : List Nat) (d : Nat), pre (ds ++ [d]) = pre ds ++ (blk d ++ [0, 0])
  | [], d => by show blk d ++ ([0, 0] ++ []) = [] ++ _; simp
  | e :: ds, d => by
    show blk e ++ ([0, 0] ++ pre (ds ++ [d])) = (blk e ++ ([0, 0] ++ pre ds)) ++ _
    rw [pre_app ds d]
    simp only [List.append_assoc]
theorem pre_row : ∀ ds : List Nat, pre ds ++ [0, 0] = rowL ds
  | [] => rfl
  | d :: ds => by
    show (blk d ++ ([0, 0] ++ pre ds)) ++ _ = blk d ++ ([0, 0] ++ rowL ds)
    rw [← pre_row ds]
    simp only [List.append_assoc]
theorem blk_V (d : Nat) : (List.replicate d [V.int 1, V.int 0]).flatten = (blk d).map V.int := by
  unfold blk
  rw [List.map_flatten, List.map_replicate]
  rfl
theorem pre_le : ∀ ds : List Nat, (∀ d ∈ ds, d ≤ 9) → (pre ds).length ≤ 20 * ds.length
  | [], _ => by decide
  | d :: ds, h => by
    have ih := pre_le ds fun y m => h y (List.mem_cons_of_mem _ m)
    have hd := h d (by simp)
    show (blk d ++ ([0, 0] ++ pre ds)).length ≤ _
    rw [List.length_append, List.length_append, blk_len]
    simp only [List.length_cons, List.length_nil]
    omega
theorem take_succ_app {α : Type} {l : List α} {i : Nat} {x : α} (h : l[i]? = some x) : l.take (i + 1) = l.take i ++ [x] := by
  rw [List.take_add_one, h]
  rfl
theorem take_succ_map {α β : Type} {l : List α} {i : Nat} {x : α} (f : α → β) (h : l[i]? = some x) : (l.take i).map f ++ [f x] = (l.take (i + 1)).map f := by
  rw [take_succ_app h, List.map_append]
  rfl
theorem row_sum : ∀ ds : List Nat, (rowL ds).length = 2 * (ds.sum + ds.length + 1)
  | [] => rfl
  | d :: ds => by
    have ih := row_sum ds
    show (blk d ++ ([0, 0] ++ rowL ds)).length = _
    rw [List.length_append, List.length_append, blk_len, ih, List.sum_cons]
    simp only [List.length_cons, List.length_nil]
    omega
theorem row_le (ds : List Nat) (N : Num ds) : (rowL ds).length ≤ 100 := by
  have h := rowL_le ds fun d m => (N.dig d m).2
  have l := N.len
  omega
theorem row_bits : ∀ (ds : List Nat) (z : Int), z ∈ rowL ds → z = 0 ∨ z = 1
  | [], z, h => by
    have h : z ∈ [0, 0] := h
    simp only [List.mem_cons, List.not_mem_nil, or_false, or_self] at h
    exact .inl h
  | d :: ds, z, h => by
    have h : z ∈ blk d ++ ([0, 0] ++ rowL ds) := h
    rw [List.mem_append, List.mem_append] at h
    rcases h with h | h | h
    · obtain ⟨l, hl, hz⟩ := List.mem_flatten.mp h
      rw [(List.mem_replicate.mp hl).2] at hz
      simp only [List.mem_cons, List.not_mem_nil, or_false] at hz
      exact hz.symm
    · simp only [List.mem_cons, List.not_mem_nil, or_false, or_self] at h
      exact .inl h
    · exact row_bits ds z h
/-! strokes -/
def ones : Nat → List Int → List Nat
  | _, [] => []
  | o, x :: xs => if x = 1 then o :: ones (o + 1) xs else ones (o + 1) xs
theorem ones_app : ∀ (a : List Int) (o : Nat) (b : List Int), ones o (a ++ b) = ones o a ++ ones (o + a.length) b
  | [], o, b => rfl
  | x :: a, o, b => by
    have ih := ones_app a (o + 1) b
    have e : o + (x :: a).length = o + 1 + a.length := by rw [List.length_cons]; omega
    rw [e]
    show (if x = 1 then o :: ones (o + 1) (a ++ b) else ones (o + 1) (a ++ b)) = (if x = 1 then o :: ones (o + 1) a else ones (o + 1) a) ++ _
    rw [ih]
    by_cases c : x = 1
    · rw [if_pos c, if_pos c]; rfl
    · rw [if_neg c, if_neg c]
theorem ones_mem : ∀ (xs : List Int) (o k : Nat), k ∈ ones o xs ↔ ∃ j, k = o + j ∧ xs[j]? = some 1
  | [], o, k => by simp [ones]
  | x :: xs, o, k => by
    have ih := ones_mem xs (o + 1) k
    show k ∈ (if x = 1 then o :: ones (o + 1) xs else ones (o + 1) xs) ↔ _
    constructor
    · intro h
      by_cases c : x = 1
      · rw [if_pos c] at h
        rcases List.mem_cons.mp h with e | e
        · exact ⟨0, by omega, by rw [c]; rfl⟩
        · obtain ⟨j, e1, e2⟩ := ih.mp e
          exact ⟨j + 1, by omega, by simpa using e2⟩
      · rw [if_neg c] at h
        obtain ⟨j, e1, e2⟩ := ih.mp h
        exact ⟨j + 1, by omega, by simpa using e2⟩
    · rintro ⟨j, e1, e2⟩
      cases j with
      | zero =>
        have c : x = 1 := Option.some.inj e2
        rw [if_pos c]
        exact List.mem_cons.mpr (.inl (by omega))
      | succ j =>
        have m : k ∈ ones (o + 1) xs := ih.mpr ⟨j, by omega, by simpa using e2⟩
        by_cases c : x = 1
        · rw [if_pos c]; exact List.mem_cons_of_mem _ m
        · rw [if_neg c]; exact m
theorem ones_blk (o d : Nat) : ones o (blk (d + 1)) = ones o (blk d) ++ [o + 2 * d] := by
  rw [blk_add, ones_app, blk_len]
  rfl
theorem ones_end (a : List Int) (o : Nat) : ones o (a ++ [0, 0]) = ones o a := by
  rw [ones_app]
  show ones o a ++ [] = _
  rw [List.append_nil]
theorem step2 (s : List Nat) (d : Nat) : ones 0 (pre s ++ blk (d + 1)) = ones 0 (pre s ++ blk d) ++ [(pre s).length + 2 * d] := by
  rw [ones_app, ones_app, ones_blk, List.append_assoc, Nat.zero_add]
theorem step4 (s : List Nat) (d : Nat) : ones 0 (pre (s ++ [d]) ++ blk 1) = ones 0 (pre s ++ blk d) ++ [(pre s).length + 2 * d + 2] := by
  rw [ones_app, pre_app, ← List.append_assoc, ones_end]
  have e : ((pre s ++ blk d) ++ ([0, 0] : List Int)).length = (pre s).length + 2 * d + 2 := by
    rw [List.length_append, List.length_append, blk_len]
    rfl
  rw [e, Nat.zero_add]
  rfl
theorem ones_row (s : List Nat) (d : Nat) : ones 0 (rowL (s ++ [d])) = ones 0 (pre s ++ blk d) := by
  rw [← pre_row, pre_app, ← List.append_assoc, ones_end, ones_end]
theorem ones_inj {ds es : List Nat} (h1 : ∀ d ∈ ds, 1 ≤ d) (h2 : ∀ e ∈ es, 1 ≤ e) (h : ones 0 (rowL ds) = ones 0 (rowL es)) : ds = es := by
  rcases rows_part ds es h1 h2 with q | ⟨k, q, _⟩ | ⟨k, q, _⟩
  · exact q
  · have m : k ∈ ones 0 (rowL ds) := (ones_mem _ _ _).mpr ⟨k, by omega, q.one⟩
    rw [h] at m
    obtain ⟨j, e1, e2⟩ := (ones_mem _ _ _).mp m
    rw [show j = k by omega, q.two] at e2
    cases e2
  · have m : k ∈ ones 0 (rowL es) := (ones_mem _ _ _).mpr ⟨k, by omega, q.two⟩
    rw [← h] at m
    obtain ⟨j, e1, e2⟩ := (ones_mem _ _ _).mp m
    rw [show j = k by omega, q.one] at e2
    cases e2
def St (l : List Nat) : Prop := ∀ (k a b : Nat), l[k]? = some a → l[k + 1]? = some b → b = a + 2 ∨ b = a + 4
theorem St.cons {x : Nat} {l : List Nat} (h : ∀ y, l.head? = some y → y = x + 2 ∨ y = x + 4) (s : St l) : St (x :: l) := by
  intro k a b e1 e2
  cases k with
  | zero =>
    have e : x = a := Option.some.inj e1
    subst e
    refine h b ?_
    rw [List.head?_eq_getElem?]
    exact e2
  | succ k => exact s k a b (by simpa using e1) (by simpa using e2)
theorem steps_blk {l : List Int} (hl : ∀ o, St (ones o l) ∧ ∀ y, (ones o l).head? = some y → y = o) : ∀ (d o : Nat), St (ones o (blk d ++ ([0, 0] ++ l))) ∧ ∀ y, (ones o (blk d ++ ([0, 0] ++ l))).head? = some y → (y = o ∨ y = o + 2)
  | 0, o => by
    have h := hl (o + 2)
    exact ⟨h.1, fun y e => .inr (h.2 y e)⟩
  | d + 1, o => by
    have ih := steps_blk hl d (o + 2)
    have e : ones o (blk (d + 1) ++ ([0, 0] ++ l)) = o :: ones (o + 2) (blk d ++ ([0, 0] ++ l)) := by
      rw [blk_succ]
      rfl
    rw [e]
    refine ⟨ih.1.cons fun y q => ?_, fun y q => .inl (Option.some.inj q).symm⟩
    rcases ih.2 y q with z | z
    · exact .inl z
    · exact .inr (by omega)
theorem steps_row : ∀ (es : List Nat), (∀ d ∈ es, 1 ≤ d) → ∀ o, St (ones o (rowL es)) ∧ ∀ y, (ones o (rowL es)).head? = some y → y = o
  | [], _, o => ⟨fun k a b (e : (none : Option Nat) = some a) => (by cases e), fun y (e : (none : Option Nat) = some y) => by cases e⟩
  | d :: es, h, o => by
    have ih := steps_row es fun y m => h y (List.mem_cons_of_mem _ m)
    obtain ⟨f, rfl⟩ : ∃ f, d = f + 1 := ⟨d - 1, by have := h d (by simp); omega⟩
    have q := steps_blk ih (f + 1) o
    refine ⟨q.1, fun y e => ?_⟩
    have e' : ones o (rowL ((f + 1) :: es)) = o :: ones (o + 2) (blk f ++ ([0, 0] ++ rowL es)) := by
      show ones o (blk (f + 1) ++ _) = _
      rw [blk_succ]
      rfl
    rw [e'] at e
    exact (Option.some.inj e).symm
theorem first_row (d : Nat) (es : List Nat) (h : 1 ≤ d) : (ones 0 (rowL (d :: es)))[0]? = some 0 := by
  obtain ⟨f, rfl⟩ : ∃ f, d = f + 1 := ⟨d - 1, by omega⟩
  show (ones 0 (blk (f + 1) ++ _))[0]? = _
  rw [blk_succ]
  rfl
/-! groups -/
def gaps : List Int → List Nat
  | [] => [0]
  | z :: zs => if z = 1 then (match gaps zs with | [] => [1] | g :: gs => (g + 1) :: gs) else 0 :: gaps zs
theorem gaps_ne : ∀ zs, gaps zs ≠ []
  | [] => by simp [gaps]
  | z :: zs => by
    show (if z = 1 then (match gaps zs with | [] => [1] | g :: gs => (g + 1) :: gs) else 0 :: gaps zs) ≠ []
    by_cases c : z = 1
    · rw [if_pos c]
      split <;> simp
    · rw [if_neg c]; simp
def bits (zs : List Int) : List Nat := zs.map fun z => if z = 1 then 49 else 48
theorem joinL_cons {s : List Nat} {p : List Nat} {ps : List (List Nat)} (h : ps ≠ []) : joinL s (p :: ps) = p ++ (s ++ joinL s ps) := by
  cases ps with
  | nil => exact absurd rfl h
  | cons q r => rfl
theorem joinL_one (s p : List Nat) : joinL s [p] = p := rfl
theorem map_ne {α β : Type} {f : α → β} {l : List α} (h : l ≠ []) : l.map f ≠ [] := fun e => h (List.map_eq_nil_iff.mp e)
theorem gaps_join : ∀ zs, bits zs = joinL [48] ((gaps zs).map fun g => List.replicate g 49)
  | [] => rfl
  | z :: zs => by
    have ih := gaps_join zs
    have ne := gaps_ne zs
    show (if z = 1 then 49 else 48) :: bits zs = joinL [48] ((if z = 1 then (match gaps zs with | [] => [1] | g :: gs => (g + 1) :: gs) else 0 :: gaps zs).map _)
    by_cases c : z = 1
    · rw [if_pos c, if_pos c]
      cases e : gaps zs with
      | nil => exact absurd e ne
      | cons g gs =>
        rw [e] at ih
        rw [ih]
        cases gs with
        | nil => rfl
        | cons g2 gs => rfl
    · rw [if_neg c, if_neg c, List.map_cons, joinL_cons (map_ne ne), ← ih]
      rfl
theorem gaps_sum : ∀ zs, (gaps zs).sum ≤ zs.length ∧ (gaps zs).length ≤ zs.length + 1
  | [] => by decide
  | z :: zs => by
    have ih := gaps_sum zs
    show (if z = 1 then (match gaps zs with | [] => [1] | g :: gs => (g + 1) :: gs) else 0 :: gaps zs).sum ≤ zs.length + 1 ∧ (if z = 1 then (match gaps zs with | [] => [1] | g :: gs => (g + 1) :: gs) else 0 :: gaps zs).length ≤ zs.length + 1 + 1
    by_cases c : z = 1
    · rw [if_pos c]
      cases e : gaps zs with
      | nil => exact absurd e (gaps_ne zs)
      | cons g gs =>
        rw [e, List.sum_cons, List.length_cons] at ih
        show ((g + 1) :: gs).sum ≤ _ ∧ ((g + 1) :: gs).length ≤ _
        rw [List.sum_cons, List.length_cons]
        omega
    · rw [if_neg c, List.sum_cons, List.length_cons]
      omega
theorem mem_sum {g : Nat} : ∀ {l : List Nat}, g ∈ l → g ≤ l.sum
  | a :: l, h => by
    rw [List.sum_cons]
    rcases List.mem_cons.mp h with e | e
    · omega
    · have := mem_sum e
      omega
theorem gaps_le {zs : List Int} {g : Nat} (h : g ∈ gaps zs) : g ≤ zs.length := by
  have h1 := (gaps_sum zs).1
  have h2 : g ≤ (gaps zs).sum := mem_sum h
  omega
theorem ev2_row : ∀ ds, Hf.ev2 (rowL ds) = (match ds with | [] => [0] | d :: r => List.replicate d 1 ++ (0 :: Hf.ev2 (rowL r)))
  | [] => rfl
  | d :: r => by
    show Hf.ev2 (blk d ++ ([0, 0] ++ rowL r)) = List.replicate d 1 ++ (0 :: Hf.ev2 (rowL r))
    induction d with
    | zero => rfl
    | succ d ih =>
      rw [blk_succ, List.replicate_succ]
      show (1 : Int) :: Hf.ev2 (blk d ++ ([0, 0] ++ rowL r)) = _
      rw [ih]
      rfl
theorem gaps_rep (l : List Int) (d : Nat) : gaps (List.replicate d 1 ++ (0 :: l)) = d :: gaps l := by
  induction d with
  | zero => rfl
  | succ d ih =>
    rw [List.replicate_succ]
    show (if (1 : Int) = 1 then (match gaps (List.replicate d 1 ++ (0 :: l)) with | [] => [1] | g :: gs => (g + 1) :: gs) else _) = _
    rw [if_pos rfl, ih]
theorem gaps_row : ∀ ds, gaps (Hf.ev2 (rowL ds)) = ds ++ [0, 0]
  | [] => rfl
  | d :: r => by
    rw [ev2_row]
    show gaps (List.replicate d 1 ++ (0 :: Hf.ev2 (rowL r))) = _
    rw [gaps_rep, gaps_row r]
    rfl
end Wm

/-! Ticks of bent rows as data. -/
namespace Wm
open PySem L2
inductive Tk : PyData → Prop
  | int {i : Int} : i.natAbs < 1000000 → Tk (.int i)
  | bl (b : Bool) : Tk (.bool b)
  | non : Tk .none
  | one : Tk (.str "1")
  | lst : Tk (.list [.int 0])
def Item (K : PySem.W.Frag) (H : Hp) (x : V) : Prop := ∃ d, Dp K H x d ∧ Tk d
theorem sqL_keep {K : PySem.W.Frag} {H H' : Hp} {a : Addr} {xs : List V} (e : Same H H') (h : SqL K H a xs) : SqL K H' a xs := by
  rcases h with (h | ⟨o, h⟩) | h
  · exact .inl (.inl (e _ _ h))
  · exact .inl (.inr ⟨o, e _ _ h⟩)
  · exact .inr h
theorem tk_keep {K : PySem.W.Frag} {H H' : Hp} {x : V} {d : PyData} (e : Same H H') (h : Dp K H x d) (t : Tk d) : Dp K H' x d := by
  cases t with
  | int _ => cases h; exact .int _
  | bl b => cases h; exact .bl _
  | non => cases h; exact .non
  | one => cases h; exact .str _
  | lst =>
    cases h with
    | lst q a =>
      refine .lst (sqL_keep e q) ?_
      cases a with
      | cons b c =>
        cases b
        cases c
        exact .cons (.int _) .nil
theorem Item.keep {K : PySem.W.Frag} {H H' : Hp} {x : V} (e : Same H H') (h : Item K H x) : Item K H' x := let ⟨d, a, b⟩ := h; ⟨d, tk_keep e a b, b⟩
theorem tks_keep {K : PySem.W.Frag} {H H' : Hp} (e : Same H H') : ∀ {xs : List V} {ds : List PyData}, DpAll K H xs ds → (∀ d ∈ ds, Tk d) → DpAll K H' xs ds
  | _, _, .nil, _ => .nil
  | _, _, .cons a b, t => .cons (tk_keep e a (t _ (by simp))) (tks_keep e b fun d m => t d (List.mem_cons_of_mem _ m))
theorem items_data {K : PySem.W.Frag} {H : Hp} : ∀ {xs : List V}, (∀ x ∈ xs, Item K H x) → ∃ ds, DpAll K H xs ds ∧ (∀ d ∈ ds, Tk d) ∧ ds.length = xs.length
  | [], _ => ⟨[], .nil, by simp, rfl⟩
  | x :: xs, h => by
    obtain ⟨d, a, b⟩ := h x (by simp)
    obtain ⟨ds, c1, c2, c3⟩ := items_data (xs := xs) fun y m => h y (List.mem_cons_of_mem _ m)
    refine ⟨d :: ds, .cons a c1, fun y m => ?_, by rw [List.length_cons, List.length_cons, c3]⟩
    rcases List.mem_cons.mp m with q | q
    · rw [q]; exact b
    · exact c2 y q
theorem item_int {K : PySem.W.Frag} {H : Hp} {i : Int} (h : i.natAbs < 1000000) : Item K H (.int i) := ⟨_, .int i, .int h⟩
theorem tk_lay {d : PyData} (t : Tk d) : d.canLay0 = true ∧ d.depth ≤ 1 := by
  cases t with
  | int _ => exact ⟨by simp [PyData.canLay0], by simp [PyData.depth]⟩
  | bl b => exact ⟨by simp [PyData.canLay0], by simp [PyData.depth]⟩
  | non => exact ⟨by simp [PyData.canLay0], by simp [PyData.depth]⟩
  | one => exact ⟨by decide +kernel, by simp [PyData.depth]⟩
  | lst => exact ⟨by simp [PyData.canLay0, PyData.canLayAll0], by simp [PyData.depth, PyData.depthAll]⟩
theorem tks_lay : ∀ {ds : List PyData}, (∀ d ∈ ds, Tk d) → PyData.canLayAll0 ds = true ∧ PyData.depthAll ds ≤ 1
  | [], _ => by simp [PyData.canLayAll0, PyData.depthAll]
  | d :: ds, h => by
    have h1 := tk_lay (h d (by simp))
    have h2 := tks_lay (ds := ds) fun y m => h y (List.mem_cons_of_mem _ m)
    simp only [PyData.canLayAll0, PyData.depthAll, h1.1, h2.1, Bool.and_self, true_and]
    omega
theorem tks_shaped {ds : List PyData} (h : ∀ d ∈ ds, Tk d) : SeqAt.shaped (.list ds) = true := by
  have q := tks_lay h
  have e : decide ((PyData.list ds).depth ≤ 64) = true := decide_eq_true (by simp only [PyData.depth]; omega)
  show ((PyData.list ds).canLay0 && _) = true
  rw [e, Bool.and_true]
  exact q.1
theorem tk_show {d : PyData} (t : Tk d) : d.showable = true ∧ d.hasDict = false ∧ d.leavesShort 13 = true ∧ d.weight ≤ 30 := by
  cases t with
  | @int i h =>
    have hl : i.natAbs.log2 < 20 ∨ i = 0 := by
      by_cases z : i = 0
      · exact .inr z
      · exact .inl ((Nat.log2_lt (by omega)).mpr (by omega))
    refine ⟨decide_eq_true ?_, rfl, decide_eq_true (PyData.shown_int_le (by omega)), ?_⟩
    · rcases hl with z | z
      · omega
      · subst z; decide
    · rcases hl with z | z
      · simp only [PyData.weight]; split <;> omega
      · subst z; decide
  | bl b => exact ⟨rfl, rfl, rfl, by simp [PyData.weight]⟩
  | non => exact ⟨rfl, rfl, rfl, by simp [PyData.weight]⟩
  | one => exact ⟨rfl, rfl, by decide +kernel, by decide +kernel⟩
  | lst => exact ⟨by decide +kernel, rfl, by decide +kernel, by decide +kernel⟩
theorem tks_show : ∀ {ds : List PyData}, (∀ d ∈ ds, Tk d) → PyData.showableAll ds = true ∧ PyData.hasDictAll ds = false ∧ PyData.leavesShortAll 13 ds = true ∧ PyData.weightAll ds ≤ 31 * ds.length
  | [], _ => by simp [PyData.showableAll, PyData.hasDictAll, PyData.leavesShortAll, PyData.weightAll]
  | d :: ds, h => by
    have h1 := tk_show (h d (by simp))
    have h2 := tks_show (ds := ds) fun y m => h y (List.mem_cons_of_mem _ m)
    simp only [PyData.showableAll, PyData.hasDictAll, PyData.leavesShortAll, PyData.weightAll, h1.1, h1.2.1, h1.2.2.1, h2.1, h2.2.1, h2.2.2.1, Bool.and_self, Bool.or_self, true_and, List.length_cons]
    omega
theorem tks_shown {ds : List PyData} (h : ∀ d ∈ ds, Tk d) (l : ds.length ≤ 1000) : (PyData.list ds).shown.length ≤ sizeLine :=
  PyData.shown_fits (B := 13) (by decide) (by decide) (tks_show h).2.2.1 (Nat.le_trans (tks_show h).2.2.2 (by omega))
def isI : V → Bool
  | .int _ => true
  | _ => false
def isBit (x : V) : Bool := decide (x = .int 0) || decide (x = .int 1)
theorem all_ints {xs : List V} (h : ∀ x ∈ xs, isI x = true) : ∃ zs : List Int, xs = zs.map V.int := by
  induction xs with
  | nil => exact ⟨[], rfl⟩
  | cons x xs ih =>
    obtain ⟨zs, e⟩ := ih fun y m => h y (List.mem_cons_of_mem _ m)
    have hx := h x (by simp)
    cases x with
    | int i => exact ⟨i :: zs, by rw [e]; rfl⟩
    | _ => cases hx
theorem all_bits {xs : List V} (h : ∀ x ∈ xs, isBit x = true) : ∃ zs : List Int, xs = zs.map V.int ∧ ∀ z ∈ zs, z = 0 ∨ z = 1 := by
  induction xs with
  | nil => exact ⟨[], rfl, by simp⟩
  | cons x xs ih =>
    obtain ⟨zs, e, b⟩ := ih fun y m => h y (List.mem_cons_of_mem _ m)
    have hx := h x (by simp)
    have hc : x = .int 0 ∨ x = .int 1 := by
      rcases Bool.or_eq_true_iff.mp hx with q | q
      · exact .inl (of_decide_eq_true q)
      · exact .inr (of_decide_eq_true q)
    have : ∃ i : Int, x = .int i ∧ (i = 0 ∨ i = 1) := by
      rcases hc with q | q
      · exact ⟨0, q, .inl rfl⟩
      · exact ⟨1, q, .inr rfl⟩
    obtain ⟨i, rfl, hi⟩ := this
    refine ⟨i :: zs, by rw [e]; rfl, fun z m => ?_⟩
    rcases List.mem_cons.mp m with q | q
    · rw [q]; exact hi
    · exact b z q
/-- what isinstance asks of such a tick -/
theorem tyx_of {K : PySem.W.Frag} {H : Hp} {x : V} (h : Item K H x) : ∃ (n : String) (a b : Bool), TyX K H x (.type n) ∧ PySem.W.kitOne K (.type n) (.type "int") = some a ∧
    PySem.W.kitOne K (.type n) (.type "bool") = some b ∧ (a && !b) = isI x := by
  obtain ⟨d, h, t⟩ := h
  cases t with
  | int _ => cases h; exact ⟨"int", true, false, .base (.int _), kit_ty (by decide +kernel), kit_ty (by decide +kernel), rfl⟩
  | bl b => cases h; exact ⟨"bool", true, true, .base (.bl _), kit_ty (by decide +kernel), kit_ty (by decide +kernel), rfl⟩
  | non => cases h; exact ⟨"NoneType", false, false, .base .non, kit_ty (by decide +kernel), kit_ty (by decide +kernel), rfl⟩
  | one => cases h; exact ⟨"str", false, false, .base (.str _), kit_ty (by decide +kernel), kit_ty (by decide +kernel), rfl⟩
  | lst =>
    cases h with
    | lst q a =>
      rcases q with (q | ⟨o, q⟩) | q
      · exact ⟨"list", false, false, .base (.lst q), kit_ty (by decide +kernel), kit_ty (by decide +kernel), rfl⟩
      · exact ⟨"list", false, false, .base (.frz q), kit_ty (by decide +kernel), kit_ty (by decide +kernel), rfl⟩
      · obtain ⟨o, xs, n, e, c, _⟩ := q
        exact ⟨"list", false, false, .kList e c, kit_ty (by decide +kernel), kit_ty (by decide +kernel), rfl⟩
/-- a list or a tuple -/
def SqA (K : PySem.W.Frag) (H : Hp) (a : Addr) (xs : List V) : Prop := SqL K H a xs ∨ SqT K H a xs
theorem SqA.keep {K : PySem.W.Frag} {H H' : Hp} {a : Addr} {xs : List V} (e : Same H H') (h : SqA K H a xs) : SqA K H' a xs := h.imp (sqL_keep e) (sameT e)
end Wm

/-! Texts of digits: halves, groups, the number they tell. -/
namespace Wm
open PySem L2 TL
def oneS (g : Nat) : Str := ⟨(List.replicate g 49).toArray⟩
def bitS (z : Int) : Str := if z = 1 then "1" else "0"
def decS (g : Nat) : Str := ((toString (g : Int) : String) : Str)
theorem bit_str {z : Int} (h : z = 0 ∨ z = 1) : ((toString z : String) : Str) = bitS z := by
  rcases h with e | e <;> subst e <;> decide +kernel
theorem tl_bit (z : Int) : tl (bitS z) = [if z = 1 then 49 else 48] := by
  unfold bitS
  by_cases c : z = 1
  · rw [if_pos c, if_pos c]; decide +kernel
  · rw [if_neg c, if_neg c]; decide +kernel
theorem joinL_nil : ∀ ps : List (List Nat), joinL [] ps = ps.flatten
  | [] => rfl
  | [p] => by show p = [p].flatten; simp
  | p :: q :: r => by
    show p ++ ([] ++ joinL [] (q :: r)) = _
    rw [joinL_nil (q :: r), List.nil_append]
    rfl
theorem tl_empty : tl ("" : Str) = [] := by decide +kernel
theorem tl_zero : tl ("0" : Str) = [48] := by decide +kernel
theorem tl_join0 (ys : List Str) : tl (Txt.join "" ys) = (ys.map tl).flatten := by
  rw [join_eq, tl_join, tl_empty, joinL_nil]
theorem bits_flat : ∀ zs : List Int, ((zs.map bitS).map tl).flatten = bits zs
  | [] => rfl
  | z :: zs => by
    rw [List.map_cons, List.map_cons, List.flatten_cons, bits_flat zs, tl_bit]
    rfl
theorem halves_eq (zs : List Int) : Txt.join "" (zs.map bitS) = Txt.join "0" ((gaps zs).map oneS) := by
  refine ext_tl ?_
  rw [tl_join0, bits_flat, gaps_join, join_eq, tl_join, tl_zero, List.map_map]
  rfl
theorem groups_eq (zs : List Int) : Txt.split (Txt.join "" (zs.map bitS)) "0" = (gaps zs).map oneS := by
  rw [halves_eq]
  refine split_join (s := 48) (S := []) tl_zero (by decide +kernel) (map_ne (gaps_ne zs)) fun p hp h => ?_
  obtain ⟨g, _, rfl⟩ := List.mem_map.mp hp
  have h : 48 ∈ List.replicate g 49 := h
  exact absurd (List.mem_replicate.mp h).2 (by decide)
theorem oneS_len (g : Nat) : (oneS g).length = g := by
  rw [len_tl]
  show (List.replicate g 49).length = g
  rw [List.length_replicate]
theorem halves_len (zs : List Int) : (Txt.join "" (zs.map bitS)).length = zs.length := by
  rw [len_tl, tl_join0, bits_flat]
  unfold bits
  rw [List.length_map]
theorem len4 : ∀ g : Fin 1001, (decS g.val).length ≤ 4 := by decide +kernel
theorem dec_len {g : Nat} (h : g ≤ 1000) : (decS g).length ≤ 4 := len4 ⟨g, by omega⟩
theorem dec_sum : ∀ {gs : List Nat}, (∀ g ∈ gs, g ≤ 1000) → ((gs.map decS).map (·.length)).sum ≤ 4 * gs.length
  | [], _ => by simp
  | g :: gs, h => by
    have h1 := dec_len (h g (by simp))
    have h2 := dec_sum (gs := gs) fun y m => h y (List.mem_cons_of_mem _ m)
    rw [List.map_cons, List.map_cons, List.sum_cons, List.length_cons]
    omega
theorem join0_len (ys : List Str) : (Txt.join "" ys).length = (ys.map (·.length)).sum := by
  rw [len_tl, tl_join0]
  induction ys with
  | nil => rfl
  | cons y ys ih => rw [List.map_cons, List.flatten_cons, List.length_append, ih, List.map_cons, List.sum_cons, len_tl]
theorem bit_sum (zs : List Int) : ((zs.map bitS).map (·.length)).sum = zs.length := by rw [← join0_len, halves_len]
theorem num_text : ∀ {ds : List Nat}, (∀ d ∈ ds, 1 ≤ d ∧ d ≤ 9) → Txt.join "" (ds.map decS) = numS ds
  | [], _ => by decide +kernel
  | d :: ds, h => by
    have ih := num_text (ds := ds) fun y m => h y (List.mem_cons_of_mem _ m)
    refine ext_tl ?_
    rw [tl_join0, List.map_cons, List.map_cons, List.flatten_cons, ← tl_join0, ih]
    have e : decS d = numS [d] := dig_str (h d (by simp))
    rw [e]
    rfl
/-- the number that a row of bits tells, if it is a row -/
def told (zs : List Int) : Str := Txt.join "" ((gaps (Hf.ev2 zs)).dropLast.dropLast.map decS)
theorem told_row {ds : List Nat} (h : ∀ d ∈ ds, 1 ≤ d ∧ d ≤ 9) : told (rowL ds) = numS ds := by
  unfold told
  rw [gaps_row, ← num_text h]
  congr 2
  show (ds ++ [0, 0]).dropLast.dropLast = ds
  rw [show (ds ++ [0, 0]) = (ds ++ [0]) ++ [0] by simp, List.dropLast_concat, List.dropLast_concat]
theorem digits_codes : ("123456789" : Str).cps.toList = [49, 50, 51, 52, 53, 54, 55, 56, 57] := by decide +kernel
theorem dig_text (t : Str) (h : ∀ c ∈ tl t, c ∈ ("123456789" : Str).cps.toList) : ∃ ds : List Nat, (∀ d ∈ ds, 1 ≤ d ∧ d ≤ 9) ∧ t = numS ds := by
  have h2 : ∀ c ∈ tl t, 49 ≤ c ∧ c ≤ 57 := fun c m => by
    have q := h c m
    rw [digits_codes] at q
    simp only [List.mem_cons, List.not_mem_nil, or_false] at q
    omega
  refine ⟨(tl t).map (· - 48), fun d m => ?_, ?_⟩
  · obtain ⟨c, mc, rfl⟩ := List.mem_map.mp m
    have := h2 c mc
    omega
  · refine ext_tl ?_
    show tl t = ((tl t).map (· - 48)).map (· + 48)
    rw [List.map_map]
    refine (List.map_id _).symm.trans (List.map_congr_left fun c m => ?_)
    have := h2 c m
    show c = c - 48 + 48
    omega
theorem num_codes {ds : List Nat} (h : ∀ d ∈ ds, 1 ≤ d ∧ d ≤ 9) : ∀ c ∈ tl (numS ds), c ∈ ("123456789" : Str).cps.toList := fun c m => by
  have m : c ∈ codes ds := m
  obtain ⟨d, md, rfl⟩ := List.mem_map.mp m
  exact dig_in (h d md)
def IsNum (t : Str) : Prop := ∃ ds, Num ds ∧ t = numS ds
theorem isnum_dig {ds : List Nat} : IsNum (numS ds) ↔ Num ds :=
  ⟨fun ⟨es, N, e⟩ => by rw [numS_inj e]; exact N, fun N => ⟨ds, N, rfl⟩⟩
theorem row_inj {ds es : List Nat} (N : Num ds) (M : Num es) (h : (rowL ds).map V.int = (rowL es).map V.int) : ds = es := by
  have e : rowL ds = rowL es := by
    have q := congrArg (List.map fun v => match v with | V.int i => i | _ => 0) h
    simpa [List.map_map, Function.comp_def] using q
  exact ones_inj (fun d m => (N.dig d m).1) (fun d m => (M.dig d m).1) (by rw [e])
theorem map_int_inj {xs ys : List Int} (h : xs.map V.int = ys.map V.int) : xs = ys := by
  have q := congrArg (List.map fun v => match v with | V.int i => i | _ => 0) h
  simpa [List.map_map, Function.comp_def] using q
/-- what number_of tells of a row -/
def Told (xs : List V) (v : V) : Prop := (∃ ds, Num ds ∧ xs = (rowL ds).map V.int ∧ v = .str (numS ds)) ∨ ((∀ ds, Num ds → xs ≠ (rowL ds).map V.int) ∧ v = .non)
theorem Told.uniq {xs : List V} {v u : V} (a : Told xs v) (b : Told xs u) : v = u := by
  rcases a with ⟨ds, N, e, rfl⟩ | ⟨n, rfl⟩
  · rcases b with ⟨es, M, f, rfl⟩ | ⟨n, _⟩
    · rw [row_inj N M (e.symm.trans f)]
    · exact absurd e (n ds N)
  · rcases b with ⟨es, M, f, rfl⟩ | ⟨_, rfl⟩
    · exact absurd f (n es M)
    · rfl
theorem Told.row {ds : List Nat} {v : V} (N : Num ds) (a : Told ((rowL ds).map V.int) v) : v = .str (numS ds) := a.uniq (.inl ⟨ds, N, rfl, rfl⟩)
end Wm

/-! Things as data: what may be asked whether it is a number. -/
namespace Wm
open PySem L2 TL
structure Tx (t : Str) : Prop where
  len : t.length ≤ 100
  asc : ∀ c ∈ tl t, c < 128
inductive Tg : PyData → Prop
  | int {i : Int} : i.natAbs < 1000000 → Tg (.int i)
  | bl (b : Bool) : Tg (.bool b)
  | non : Tg .none
  | str {t : Str} : Tx t → Tg (.str t)
  | lst {ts : List Str} : (∀ t ∈ ts, Tx t) → ts.length ≤ 100 → Tg (.list (ts.map .str))
  | tup {ts : List Str} : (∀ t ∈ ts, Tx t) → ts.length ≤ 100 → Tg (.tuple (ts.map .str))
structure Ob (K : PySem.W.Frag) (H : Hp) (x : V) (d : PyData) : Prop where
  dp : Dp K H x d
  tg : Tg d
theorem dp_strs {K : PySem.W.Frag} {H H' : Hp} : ∀ {xs : List V} {ts : List Str}, DpAll K H xs (ts.map PyData.str) → xs = ts.map V.str ∧ DpAll K H' (ts.map V.str) (ts.map PyData.str)
  | _, [], h => by cases h; exact ⟨rfl, .nil⟩
  | _, t :: ts, h => by
    cases h with
    | cons a b =>
      cases a
      obtain ⟨e, g⟩ := dp_strs (H' := H') (ts := ts) b
      subst e
      exact ⟨rfl, .cons (.str t) g⟩
theorem dp_strs' {K : PySem.W.Frag} {H : Hp} : ∀ ts : List Str, DpAll K H (ts.map V.str) (ts.map PyData.str)
  | [] => .nil
  | t :: ts => .cons (.str t) (dp_strs' ts)
theorem Ob.move {K : PySem.W.Frag} {H H' : Hp} {x : V} {d : PyData} (h : Ob K H x d) (f : ∀ p o, x = .ref p → H p = some o → (∀ ts : List Str, o = .lst (ts.map V.str) → H' p = some o) ∧ (∀ ts : List Str, o = .tup (ts.map V.str) → H' p = some o) ∧ (∀ ob u, o = .frz ob u → H' p = some o)) : Ob K H' x d := by
  obtain ⟨h, t⟩ := h
  cases t with
  | int q => cases h; exact ⟨.int _, .int q⟩
  | bl b => cases h; exact ⟨.bl _, .bl b⟩
  | non => cases h; exact ⟨.non, .non⟩
  | str q => cases h; exact ⟨.str _, .str q⟩
  | lst q l =>
    cases h with
    | lst s a =>
      obtain ⟨e, g⟩ := dp_strs (H' := H') a
      subst e
      refine ⟨.lst ?_ g, .lst q l⟩
      rcases s with (s | ⟨o, s⟩) | s
      · exact .inl (.inl ((f _ _ rfl s).1 _ rfl))
      · exact .inl (.inr ⟨o, (f _ _ rfl s).2.2 _ _ rfl⟩)
      · exact .inr s
  | tup q l =>
    cases h with
    | tup s a =>
      obtain ⟨e, g⟩ := dp_strs (H' := H') a
      subst e
      refine ⟨.tup ?_ g, .tup q l⟩
      rcases s with (s | ⟨o, s⟩) | s
      · exact .inl (.inl ((f _ _ rfl s).2.1 _ rfl))
      · exact .inl (.inr ⟨o, (f _ _ rfl s).2.2 _ _ rfl⟩)
      · exact .inr s
theorem Ob.keep {K : PySem.W.Frag} {H H' : Hp} {x : V} {d : PyData} (e : Same H H') (h : Ob K H x d) : Ob K H' x d :=
  h.move fun p o _ q => ⟨fun _ _ => e _ _ q, fun _ _ => e _ _ q, fun _ _ _ => e _ _ q⟩
theorem Ob.but {K : PySem.W.Frag} {H H' : Hp} {x : V} {d : PyData} {b : Addr} {n : Nat} (bag : Bag H b n) (e : But b H H') (h : Ob K H x d) : Ob K H' x d := by
  obtain ⟨c, i, k, m, z, ns, hb, _⟩ := bag
  refine h.move fun p o _ q => ?_
  by_cases pb : p = b
  · subst pb
    rw [hb] at q
    have q := Option.some.inj q
    subst q
    refine ⟨fun ts f => ?_, fun ts f => (by cases f), fun ob u f => (by cases f)⟩
    cases ts with
    | nil => simp at f
    | cons t ts => simp at f
  · exact ⟨fun _ _ => e _ _ pb q, fun _ _ => e _ _ pb q, fun _ _ _ => e _ _ pb q⟩
theorem tx_lay {t : Str} (h : Tx t) : PyData.leavesShort 13 (.str t) = true ∧ PyData.weight (.str t) ≤ 100 := by
  refine ⟨?_, h.len⟩
  show (t.cps.toList.all fun c => decide (c < 16 ^ 8)) = true
  rw [List.all_eq_true]
  intro c m
  have := h.asc c m
  exact decide_eq_true (by omega)
theorem strs_lay : ∀ {ts : List Str}, (∀ t ∈ ts, Tx t) → PyData.leavesShortAll 13 (ts.map .str) = true ∧ PyData.weightAll (ts.map .str) ≤ 101 * ts.length ∧ PyData.showableAll (ts.map .str) = true ∧ PyData.hasDictAll (ts.map .str) = false ∧ PyData.depthAll (ts.map .str) = 0 ∧ PyData.plainAll (ts.map .str) = true
  | [], _ => by simp [PyData.leavesShortAll, PyData.weightAll, PyData.showableAll, PyData.hasDictAll, PyData.depthAll, PyData.plainAll]
  | t :: ts, h => by
    have h1 := tx_lay (h t (by simp))
    have h2 := strs_lay (ts := ts) fun y m => h y (List.mem_cons_of_mem _ m)
    obtain ⟨a1, a2⟩ := h1
    obtain ⟨b1, b2, b3, b4, b5, b6⟩ := h2
    simp only [List.map_cons, PyData.leavesShortAll, PyData.weightAll, PyData.showableAll, PyData.hasDictAll, PyData.depthAll, PyData.plainAll, a1, b1, b3, b4, b5, b6, PyData.showable, PyData.hasDict, PyData.depth, PyData.plain, Bool.and_self, Bool.or_self, true_and, List.length_cons, and_true, Nat.max_self]
    omega
structure Shows (d : PyData) : Prop where
  sh : d.showable = true
  nd : d.hasDict = false
  dep : d.depth ≤ 60
  fit : d.shown.length ≤ sizeLine
theorem tg_shows {d : PyData} (t : Tg d) : Shows d := by
  cases t with
  | @int i h =>
    have hl : i.natAbs.log2 < 20 ∨ i = 0 := by
      by_cases z : i = 0
      · exact .inr z
      · exact .inl ((Nat.log2_lt (by omega)).mpr (by omega))
    refine ⟨decide_eq_true ?_, rfl, Nat.zero_le _, Nat.le_trans (PyData.shown_int_le (by omega)) (by decide)⟩
    rcases hl with z | z
    · omega
    · subst z; decide
  | bl b => exact ⟨rfl, rfl, Nat.zero_le _, by cases b <;> decide +kernel⟩
  | non => exact ⟨rfl, rfl, Nat.zero_le _, by decide +kernel⟩
  | str h =>
    have q := tx_lay h
    exact ⟨rfl, rfl, Nat.zero_le _, PyData.shown_fits (B := 13) (by decide) (by decide) q.1 (Nat.le_trans q.2 (by decide))⟩
  | lst h l =>
    obtain ⟨b1, b2, b3, b4, b5, b6⟩ := strs_lay h
    exact ⟨b3, b4, by simp only [PyData.depth, b5]; decide, PyData.shown_fits (B := 13) (by decide) (by decide) b1 (Nat.le_trans b2 (by omega))⟩
  | tup h l =>
    obtain ⟨b1, b2, b3, b4, b5, b6⟩ := strs_lay h
    exact ⟨b3, b4, by simp only [PyData.depth, b5]; decide, PyData.shown_fits (B := 13) (by decide) (by decide) b1 (Nat.le_trans b2 (by omega))⟩
/-- a number's text -/
def IsN (x : V) : Prop := ∃ ds, Num ds ∧ x = .str (numS ds)
/-- what isinstance asks of a thing: a text, or no text -/
theorem tys_of {K : PySem.W.Frag} {H : Hp} {x : V} {d : PyData} (h : Ob K H x d) : ∃ (n : String) (b : Bool), TyX K H x (.type n) ∧ PySem.W.kitOne K (.type n) (.type "str") = some b ∧ (b = true → ∃ t, x = .str t ∧ d = .str t ∧ Tx t) ∧ (b = false → ¬ IsN x) := by
  obtain ⟨h, t⟩ := h
  cases t with
  | int _ => cases h; exact ⟨"int", false, .base (.int _), kit_ty (by decide +kernel), (fun z => by cases z), fun _ ⟨ds, _, e⟩ => by cases e⟩
  | bl b => cases h; exact ⟨"bool", false, .base (.bl _), kit_ty (by decide +kernel), (fun z => by cases z), fun _ ⟨ds, _, e⟩ => by cases e⟩
  | non => cases h; exact ⟨"NoneType", false, .base .non, kit_ty (by decide +kernel), (fun z => by cases z), fun _ ⟨ds, _, e⟩ => by cases e⟩
  | str q => cases h; exact ⟨"str", true, .base (.str _), kit_ty (by decide +kernel), fun _ => ⟨_, rfl, rfl, q⟩, fun z => by cases z⟩
  | lst _ _ =>
    cases h with
    | lst q a =>
      rcases q with (q | ⟨o, q⟩) | q
      · exact ⟨"list", false, .base (.lst q), kit_ty (by decide +kernel), (fun z => by cases z), fun _ ⟨ds, _, e⟩ => by cases e⟩
      · exact ⟨"list", false, .base (.frz q), kit_ty (by decide +kernel), (fun z => by cases z), fun _ ⟨ds, _, e⟩ => by cases e⟩
      · obtain ⟨o, xs, n, e, c, _⟩ := q
        exact ⟨"list", false, .kList e c, kit_ty (by decide +kernel), (fun z => by cases z), fun _ ⟨ds, _, e⟩ => by cases e⟩
  | tup _ _ =>
    cases h with
    | tup q a =>
      rcases q with (q | ⟨o, q⟩) | q
      · exact ⟨"tuple", false, .base (.tup q), kit_ty (by decide +kernel), (fun z => by cases z), fun _ ⟨ds, _, e⟩ => by cases e⟩
      · exact ⟨"tuple", false, .fTuple q, kit_ty (by decide +kernel), (fun z => by cases z), fun _ ⟨ds, _, e⟩ => by cases e⟩
      · obtain ⟨o, xs, n, e, c, _⟩ := q
        exact ⟨"tuple", false, .kTuple e c, kit_ty (by decide +kernel), (fun z => by cases z), fun _ ⟨ds, _, e⟩ => by cases e⟩
theorem ob_num {K : PySem.W.Frag} {H : Hp} {ds : List Nat} (N : Num ds) : Ob K H (.str (numS ds)) (.str (numS ds)) :=
  ⟨.str _, .str ⟨by rw [numS_len]; have := N.len; omega, fun c m => by
    have m : c ∈ codes ds := m
    obtain ⟨d, md, rfl⟩ := List.mem_map.mp m
    have := (N.dig d md).2
    omega⟩⟩
theorem isN_str {t : Str} : IsN (.str t) ↔ IsNum t := ⟨fun ⟨ds, N, e⟩ => ⟨ds, N, V.str.inj e⟩, fun ⟨ds, N, e⟩ => ⟨ds, N, by rw [e]⟩⟩
theorem fresh_but {b p : Addr} {H H' : Hp} {n : Nat} (bag : Bag H b n) (e : But b H H') (f : H' p = none) : H p = none := by
  cases q : H p with
  | none => rfl
  | some o =>
    by_cases pb : p = b
    · obtain ⟨c, x, k, m, z, ns, h, _⟩ := bag
      obtain ⟨x', k', m', z', g⟩ := e.cel c ⟨x, k, m, z, h⟩
      rw [pb, g] at f
      cases f
    · rw [e.keep p o pb q] at f
      cases f
end Wm

/-! enumerate of a tuple, as a thing that a for walks. -/
namespace Es
open PySem PySem.Spec PyProof.Rows L2
theorem meets_ent (t : Addr) (its : Array Value) (m : Nat) (dd : Option Addr) (slo : Array (Option Value)) :
    Meets (Builtin.«enumerate.__new__» ⟨[.type "enumerate", .ref t], []⟩) (fun _ R s => s.heap.get? t = some { cls := .type "tuple", dict := dd, data := .seq its m, slots := slo } ∧
      R (.ok (.ret (.ref (s.heap.push { cls := .type "tuple_iterator", data := .fields #[.ref t, .int 0 0] }).objs.size))) { s with heap := (s.heap.push { cls := .type "tuple_iterator", data := .fields #[.ref t, .int 0 0] }).push { cls := .type "enumerate", data := .fields #[.none, .bool false, .ref s.heap.objs.size, rawInt 0, .none, .none] } }) :=
  .of_wp fun prog w A R s h => by
    obtain ⟨hp, gn, dr, tk, os⟩ := s
    obtain ⟨ht, h⟩ := h
    have hsub := sub_enumerate
    have hT : Heap.IsTuple (Shared.heap ⟨hp, gn, dr, tk, os⟩) t its := ⟨_, ht, rfl, m, rfl⟩
    wp_walk using AutoSeq1.wpAny_loadPart' ht
    refine wpAny_stack_any fun st => wpAny_pure ?_
    split
    · rename_i c _ _ _ _ _
      cases (c == Value.type "enumerate")
      · wp_walk using AutoSeq1.wpAny_loadPart' ht, wpAny_pyIter_tuple hT
        exact ⟨_, rfl, h⟩
      · wp_walk using AutoSeq1.wpAny_loadPart' ht, wpAny_pyIter_tuple hT
        exact ⟨_, rfl, h⟩
    · wp_walk using AutoSeq1.wpAny_loadPart' ht, wpAny_pyIter_tuple hT
      exact ⟨_, rfl, h⟩
section
variable {prog : Program} {w : World} {A : Around} {E : Value → Shared → Prop} {s : Shared}
theorem call_ent {t : Addr} {its : Array Value} {Q : Value → Shared → Prop} (ht : s.heap.IsTuple t its)
    (q : ∀ g, IsEnum g (s.heap.objs.size + 1) s.heap.objs.size 0 .none → g.IsTupleIter s.heap.objs.size t 0 → (∀ b o, s.heap.get? b = some o → g.get? b = some o) → Q (.ref (s.heap.objs.size + 1)) { s with heap := g }) :
    wpAny (model prog w) A (call (.type "enumerate") [.ref t]) Q E s := by
  obtain ⟨⟨tc, td, tdat, tsl⟩, h0, h1, m, h2⟩ := ht
  simp only at h1 h2
  subst h1 h2
  refine callType_new F.called_enumerate (by decide) (F.typeCall_enumerate_1 _) (F.newCall_enumerate_1 _) (fun ob => F.args_object_init_2 ob _) F.entry_enumerate_new (meets_ent t its m td tsl) ⟨h0, ?_⟩
  have hz : (s.heap.push { cls := .type "tuple_iterator", data := .fields #[.ref t, .int 0 0] }).objs.size = s.heap.objs.size + 1 := Heap.size_push ..
  have er : IsEnum ((s.heap.push { cls := .type "tuple_iterator", data := .fields #[.ref t, .int 0 0] }).push { cls := .type "enumerate", data := .fields #[.none, .bool false, .ref s.heap.objs.size, rawInt 0, .none, .none] }) (s.heap.objs.size + 1) s.heap.objs.size 0 .none := by
    rw [← hz]
    exact Heap.get?_push_size _ rfl
  show _ ∧ _
  rw [hz]
  exact ⟨⟨_, er, rfl⟩, q _ er ⟨_, Heap.get?_push_of_some _ (Heap.get?_push_size _ rfl), rfl, rfl⟩ fun b o x => Heap.get?_push_of_some _ (Heap.get?_push_of_some _ x)⟩
theorem tup_end {e it t : Addr} {i : Nat} {its : Array Value} {old : Value} {k : Int} {Q : Option Value → Shared → Prop} (hh : A.handled = none) (er : IsEnum s.heap e it k old) (ti : s.heap.IsTupleIter it t i) (ht : s.heap.IsTuple t its) (hx : its[i]? = none)
    (q : ∀ g, Heap.ExtBut it s.heap g → Q none { s with heap := g }) : wpAny (model prog w) A (pyNext (.ref e)) Q E s := by
  have te : s.TypeIs (.ref e) "enumerate" := ⟨_, er, rfl⟩
  unfold pyNext
  refine wpAny_bind (wpAny_attempt (wpAny_callSpecial?_slot (name := Str.ofString "__next__") te F.slot_enumerate_next (wpAny_call_entry F.slot_enumerate_next te F.entry_enumerate_next ?_ (F.args_enumerate_next_1 _))))
  show wpAny _ _ (field (.ref e) 2 >>= _) _ _ _
  refine wpAny_bind (wpAny_field er rfl (x := .ref it) rfl ?_)
  refine wpAny_bind (wpAny_nextOf_tuple_end (show A.in1.handled = none from hh) ti ht hx fun g x k1 ⟨o, k2, k3⟩ => ?_)
  refine wpAny_bind (wpAny_isInstance (T := "StopIteration") (b := true) ⟨o, k2, k3⟩ isSubtype_stop ?_)
  exact wpAny_pure (q _ k1)
end
def Iten (K : PySem.W.Frag) (a : Addr) : It :=
  ⟨fun i H => ∃ (xs : List V) (x : V), SqT K H a xs ∧ xs[i]? = some x, fun i H v H' => ∃ T x, v = .ref T ∧ H T = none ∧ H' = upd H T (.tup [.int (i : Nat), x]) ∧ ∀ xs, SqT K H a xs → xs[i]? = some x, fun i H => ∃ xs : List V, SqT K H a xs ∧ xs.length ≤ i⟩
theorem turn_ent {P : Program} {w : World} {K : PySem.W.Frag} {elts : List Expr} {kk : Nat} {tpos : Pos} (a e it : Addr) (nei : e ≠ it) (nea : e ≠ a) (nai : a ≠ it) :
    Turn P w K (.Tuple elts kk tpos) (Iten K a) [e, it] e (fun i h => (∃ old, IsEnum h e it ((i : Nat) : Int) old) ∧ h.IsTupleIter it a i) where
  mem := by simp
  obj := fun i h st b hb => by
    obtain ⟨⟨old, er⟩, o, ho, _, hd⟩ := st
    have hb' : b = e ∨ b = it := by simpa using hb
    rcases hb' with z | z
    · rw [z]
      exact ⟨_, er, fun v q => nomatch q⟩
    · rw [z]
      exact ⟨o, ho, fun v q => by rw [hd] at q; cases q⟩
  keep := fun i h g st k => by
    obtain ⟨⟨old, er⟩, ti⟩ := st
    exact ⟨⟨old, k e (by simp) _ er⟩, ti.at fun o q => k it (by simp) o q⟩
  item := by
    intro X hP hw hK hc i pins s σ H E I hf st hg
    subst hP hw hK
    obtain ⟨⟨old, er⟩, ti⟩ := st
    obtain ⟨xs, x, hq, hx⟩ := hg
    obtain ⟨its, rv, p, _⟩ := I.tuple hq
    obtain ⟨u, hu, ru⟩ := rv.get hx
    have el : e < s.heap.objs.size := Heap.lt_size er
    have il : it < s.heap.objs.size := by
      obtain ⟨_, q, _⟩ := id ti
      exact Heap.lt_size q
    have hlt : i < its.toArray.size := by
      have q := (List.getElem?_eq_some_iff.mp hu).1
      simpa using q
    have hd : X.A.in1.handled = none := I.ok.hd hc
    refine wpAny_pyNext_enum_itemD (Draws.tuple hd it a nai its.toArray) er ⟨ti, p⟩ hlt nei (by simp [nei, nea]) fun y g tk hy eo st2 hT hsz hk => ?_
    have ey : y = u := by
      rw [show its.toArray[i]? = some u by simpa using hu] at hy
      exact (Option.some.inj hy).symm
    subst ey
    refine ⟨_, rfl, wpAny_letOwnedTupleGo_enum (s := { s with heap := g, toks := tk + 1 }) eo fun g2 er2 sb => ?_⟩
    have hT2 : g2.get? s.heap.objs.size = some { cls := .type "tuple", data := .seq #[.int i tk, y] } := (sb.2 _ (Nat.ne_of_gt el)).trans hT
    have new : ObjOk X.prog X.w (upd H s.heap.objs.size (.tup [.int (i : Nat), x])) g2 s.heap.objs.size (.tup [.int (i : Nat), x]) := ⟨by show 2 ≤ sizeLine; decide, [.int i tk, y], .cons ⟨_, rfl⟩ (.cons ru .nil), ⟨_, hT2, rfl, _, rfl⟩⟩
    have I1 : Inv X pins σ (upd H s.heap.objs.size (.tup [.int (i : Nat), x])) { s with heap := g2, toks := tk + 1 } := I.turnedNew (ch := [e, it]) (fun b ob hb q => (sb.2 b (fun z => hb (by simp [z]))).trans (hk b ob (fun z => hb (by simp [z])) (fun z => hb (by simp [z])) q)) hf (Nat.le_refl _) new
    refine ⟨.ref s.heap.objs.size, _, I1, rfl, ⟨_, x, rfl, I.hok.fresh (Nat.le_refl _), rfl, fun ys hy => by rw [I.tuple_inj hy hq]; exact hx⟩, ⟨⟨y, ?_⟩, st2.1.at fun o q => (sb.2 it nei.symm).trans q⟩, fun b hb => ?_⟩
    · rw [show ((i + 1 : Nat) : Int) = (i : Int) + 1 by omega]
      exact er2
    · have lb : b < s.heap.objs.size := by
        have hb' : b = e ∨ b = it := by simpa using hb
        rcases hb' with z | z
        · rw [z]; exact el
        · rw [z]; exact il
      rw [upd_ne (Nat.ne_of_lt lb)]
      exact (hf b hb).1
  done := by
    intro X hP hw hK hc i pins s σ H E I hf st hg
    subst hP hw hK
    obtain ⟨⟨old, er⟩, ti⟩ := st
    obtain ⟨xs, hq, hx⟩ := hg
    obtain ⟨its, rv, p, _⟩ := I.tuple hq
    have hl := rv.length
    exact tup_end (I.ok.hd hc) er ti p (by simp; omega) fun g kg => ⟨rfl, I.turnedL (t' := s.toks) (ch := [e, it]) (fun b o hb q => kg b o (fun z => hb (by simp [z])) q) hf⟩
  self := fun A i s Q E st h => let ⟨⟨_, er⟩, _⟩ := st; wpAny_pyIter_enum er h
def iEnt (K : PySem.W.Frag) (ta : TA) : TI := fun σ H R => ta σ H fun vs H1 => ∃ a xs, vs = [.ref a] ∧ SqT K H1 a xs ∧ R (Iten K a) H1
theorem pi_ent {X : Cx} {e : Expr} {ta : TA} {p pos tpos : Pos} {elts : List Expr} {kk : Nat} (hg : Gl X "enumerate") (hm : X.mg "enumerate" = none) (ha : PA X [e] ta) (hs : starEach [e] X.env = [(false, eval e X.env)] := by rfl) :
    PI X (.Tuple elts kk tpos) (.Call (.Name "enumerate" p) [e] [] pos) (iEnt X.K ta) := by
  refine ⟨fun pins s σ H R I h => ?_⟩
  refine Call_ (ld_blt I hg hm boot_enumerate (PyProof.Rows.callWith_type1 (thn (ha.run pos pins s σ H _ I h) fun us s1 ⟨vs, H1, I1, r1, q1⟩ => ?_) hs rfl))
  obtain ⟨a, xs, ev, hq, q⟩ := q1
  subst ev
  cases r1 with
  | cons r rr =>
    cases rr
    cases r
    obtain ⟨its, rv, pt, _⟩ := I1.tuple hq
    obtain ⟨ot, hot, _⟩ := id pt
    have al : a < s1.heap.objs.size := Heap.lt_size hot
    refine call_ent (show s1.heap.IsTuple a its.toArray from pt) fun g er ti kg => wpAny_pyIter_enum er ?_
    have I2 : Inv X pins σ H1 { s1 with heap := g } := I1.kept (t' := s1.toks) kg
    refine ⟨s1.heap.objs.size + 1, [s1.heap.objs.size + 1, s1.heap.objs.size], _, _, H1, rfl, I2, turn_ent a (s1.heap.objs.size + 1) s1.heap.objs.size (Nat.succ_ne_self _) (Nat.ne_of_gt (Nat.lt_succ_of_lt al)) (Nat.ne_of_lt al), ⟨⟨.none, er⟩, ti⟩, fun b hb => ?_, q⟩
    have hb' : b = s1.heap.objs.size + 1 ∨ b = s1.heap.objs.size := by simpa using hb
    have le : s1.heap.objs.size ≤ b := by
      rcases hb' with z | z
      · rw [z]; exact Nat.le_add_right _ _
      · rw [z]; exact Nat.le_refl _
    exact I1.fpOk le (I1.hok.fresh le)
theorem walk_ent {K : PySem.W.Frag} {a : Addr} {xs : List V} : Walk (Iten K a) xs.length (fun H => SqT K H a xs) (YPair (fun i => some (.int (i : Nat))) (fun i => xs[i]?)) := by
  refine ⟨fun i _ hi q => ⟨xs, xs[i], q, by simp [hi]⟩, fun _ q => ⟨xs, q, Nat.le_refl _⟩, fun i H v H' _ q y => ?_⟩
  obtain ⟨T, x, y1, y2, y3, y4⟩ := y
  exact ⟨T, .int (i : Nat), x, y1, y2, y3, rfl, y4 xs q⟩
end Es

/-! len(set(xs)) of a list of texts: how many different ones. -/
namespace Sl
open PySem PySem.Spec PyProof.Rows
section
variable {prog : Program} {w : World} {A : Around} {E : Value → Shared → Prop} {s : Shared}
/-- c different ones among the first i: c = i just if they differ -/
def Cnt (xs : List Str) (i c : Nat) : Prop := c ≤ i ∧ (c = i ↔ (xs.take i).Nodup)
theorem cnt_zero (xs : List Str) : Cnt xs 0 0 := ⟨Nat.le_refl _, by simp⟩
theorem cnt_succ {xs : List Str} {i c : Nat} {x : Str} (h : Cnt xs i c) (hx : xs[i]? = some x) : Cnt xs (i + 1) (if decide (x ∈ xs.take i) = true then c else c + 1) := by
  obtain ⟨h1, h2⟩ := h
  have e : xs.take (i + 1) = xs.take i ++ [x] := by rw [List.take_add_one, hx]; rfl
  by_cases m : x ∈ xs.take i
  · rw [decide_eq_true m, if_pos rfl]
    refine ⟨by omega, ⟨fun z => absurd z (by omega), fun z => ?_⟩⟩
    rw [e, List.nodup_append] at z
    exact absurd rfl (z.2.2 x m x (by simp))
  · rw [decide_eq_false m, if_neg (by decide)]
    refine ⟨by omega, ?_⟩
    rw [e, List.nodup_append]
    constructor
    · intro z
      refine ⟨h2.mp (by omega), by simp, fun a ha b hb q => m ?_⟩
      rw [List.mem_singleton] at hb
      rw [← hb, ← q]
      exact ha
    · intro z
      have := h2.mpr z.1
      omega
abbrev so (led : Bool) : Obj := { cls := .type "set", dict := none, data := .set #[] 0 (.fresh 0 0 led) }
theorem at_keep {h h' : Heap} {S : Addr} {f : Str → Bool} {n : Nat} (R : h.SetOf (PySem.strKind prog w) S f n) (k : ∀ o, h.get? S = some o → h'.get? S = some o) : h'.SetOf (PySem.strKind prog w) S f n := by
  obtain ⟨o, es, ep, t, ho, r⟩ := R
  exact ⟨o, es, ep, t, k _ ho, r⟩
theorem fill {R : Result → Shared → Prop} {I : Addr} {fp wr : List Addr} {G : Array GenState → Array GenState → Prop} {n : Nat} {P : Nat → Value → Prop} {St : Nat → Shared → Prop}
    (W : WalksS prog w A.in1 I fp wr G n P St) (S : Addr) (hSf : S ∉ fp) (xs : List Str) (hsz : xs.length = n) (hb : n + 1 < scanBound) (hval : ∀ i v, P i v → ∃ x t, xs[i]? = some x ∧ v = .str x t) :
    ∀ (k i : Nat) (s : Shared), n - i = k → i ≤ n → St i s → (∃ c, Cnt xs i c ∧ s.heap.SetOf (PySem.strKind prog w) S (fun y => decide (y ∈ xs.take i)) c) →
      (∀ s' c, Moved (S :: wr) G s s' → Cnt xs n c → s'.heap.SetOf (PySem.strKind prog w) S (fun y => decide (y ∈ xs.take n)) c → R (.ok (.ret .none)) s') →
      codeAny (model prog w) A (.builtin "set.update.loop" ⟨[.ref S, .ref I], []⟩) R s := by
  have nw : S ∉ wr := fun h => hSf (W.sub _ h)
  have more : ∀ b ∈ wr, b ∈ S :: wr := fun b hb => List.mem_cons_of_mem _ hb
  intro k
  induction k with
  | zero =>
    intro i s hk hi st ⟨c, hc, hS⟩ hR
    have e : i = n := by omega
    subst e
    refine codeAny_builtin PyProof.Rows.F.entry_set_update_loop ?_
    rw [Around.under_plainId PyProof.Rows.F.plain_set_update_loop _]
    show wpAny _ A.in1 (pyNext (.ref I) >>= _) _ _ s
    refine wpAny_bind (W.done s _ _ st fun s' hm => ?_)
    show wpAny _ A.in1 (ret Value.none) _ _ s'
    exact wpAny_pure (hR s' c (hm.mono more) hc (at_keep hS fun o e => hm.heap S o nw e))
  | succ k ih =>
    intro i s hk hi st ⟨c, hc, hS⟩ hR
    have lt : i < n := by omega
    refine codeAny_builtin PyProof.Rows.F.entry_set_update_loop ?_
    rw [Around.under_plainId PyProof.Rows.F.plain_set_update_loop _]
    show wpAny _ A.in1 (pyNext (.ref I) >>= _) _ _ s
    refine wpAny_bind (W.item i s _ _ lt st fun v s' hP st' hm => ?_)
    obtain ⟨x, t, hx, rfl⟩ := hval i v hP
    have hS1 := at_keep (h' := s'.heap) hS fun o e => hm.heap S o nw e
    show wpAny _ A.in1 (holding [Value.str x t] (setAdd S (.str x t)) >>= _) _ _ s'
    refine wpAny_bind (wpAny_holding ?_)
    unfold setAdd
    refine wpAny_holding ?_
    refine wpAny_bind ((PySem.strKind prog w).pyHash (k := x) (strKind_is _ _ _ _) ?_)
    refine wpAny_setAddHashed_of (knd := PySem.strKind prog w) (s := { s' with toks := s'.toks + 1 }) (strKind_is _ _ _ _) rfl hS1 (by have := hc.1; omega) fun g same hS2 => ?_
    have hS3 := SetOf_congr (S' := fun y => decide (y ∈ xs.take (i + 1))) hS2 (fun y => by
      rw [List.take_add_one, hx]
      simp [List.mem_append]) rfl
    refine wpAny_pure ⟨plainId_quiet PyProof.Rows.F.plain_set_update_loop _, ih (i + 1) _ (by omega) lt (W.frame _ s' _ _ st' (Nat.le_succ _) fun b hb o e => ?_) ⟨_, cnt_succ hc hx, hS3⟩ fun s2 c2 m2 hc2 hS4 => ?_⟩
    · rw [same.2 b (fun h : b = S => hSf (by rw [← h]; exact hb))]
      exact e
    · refine hR s2 c2 (Moved.trans W.gtrans ((hm.mono more).then_heap (Nat.le_succ _) fun b o hb e => ?_) m2) hc2 hS4
      rw [same.2 b (fun h : b = S => hb (by rw [h]; exact List.mem_cons_self))]
      exact e
set_option maxHeartbeats 3200000 in
theorem set_strs {l : Addr} {its : Array Value} {xs : List Str} {Q : Value → Shared → Prop} (hh : A.handled = none) (hl : s.heap.IsList l its) (hi : PyProof.Rows.StrsAre its.toList xs) (hb : xs.length + 1 < scanBound)
    (q : ∀ (g : Heap) (tk c : Nat), Cnt xs xs.length c → g.SetOf (PySem.strKind prog w) s.heap.objs.size (fun y => decide (y ∈ xs.take xs.length)) c → (∀ b o, b < s.heap.objs.size → s.heap.get? b = some o → g.get? b = some o) → Q (.ref s.heap.objs.size) { s with heap := g, toks := tk }) :
    wpAny (model prog w) A (call (.type "set") [.ref l]) Q E s := by
  obtain ⟨c0, tl0, m0⟩ := PySem.F.called_set.mro
  have a1 := PySem.F.called_set.made
  have a2 := PySem.F.called_set.sub
  refine wpAny_call (codeAny_of_tree ?_)
  show wpAny _ _ (callAny (.type "set") _) _ _ _
  refine wpAny_pure ⟨Code.quiet_builtin _ (by decide +kernel), codeAny_builtin PySem.F.entry_type_call ?_⟩
  rw [Around.under_plain (weight_type_call_type "set" [.ref l] []) rfl]
  have a3 := PySem.F.called_set.notType
  have a4 := PySem.F.called_set.canCreate
  have a5 := PySem.F.typeCall_set_1 (.ref l)
  repeat (any_goals (first | assumption | wp_step))
  refine codeAny_mono (code_set_new_1 (.ref l) (E := E) (Q₁ := fun ob s₁ => ∃ led : Bool, ob = .ref s.heap.objs.size ∧ s₁ = { s with heap := s.heap.push { cls := .type "set", dict := none, data := .set #[] 0 (.fresh 0 0 led) } }) fun led => ⟨led, rfl, rfl⟩) fun r s₁ hr => ?_
  cases r with
  | error e => exact hr
  | ok fl =>
    cases fl with
    | ret ob =>
      obtain ⟨led, rfl, rfl⟩ := hr
      generalize hso : ({ cls := .type "set", dict := none, data := .set #[] 0 (.fresh 0 0 led) } : Obj) = so
      have hfr : so.isFreed = false := by rw [← hso]; rfl
      have b1 : (s.heap.push so).get? s.heap.objs.size = some so := Heap.get?_push_size _ hfr
      have b2 : Shared.TypeIs { s with heap := s.heap.push so } (.ref s.heap.objs.size) "set" := ⟨_, b1, by rw [← hso]⟩
      have b3 := PySem.F.called_set.init.lookup
      have b4 := PySem.F.called_set.init.bind (.ref s.heap.objs.size)
      repeat (any_goals (first | assumption | wp_step))
      refine codeAny_mono (codeAny_call_builtin (R := wants (fun r s₂ => r = .none ∧ ∃ g tk c, s₂ = { s with heap := g, toks := tk } ∧ Cnt xs xs.length c ∧ g.SetOf (PySem.strKind prog w) s.heap.objs.size (fun y => decide (y ∈ xs.take xs.length)) c ∧
          (∀ b o, b < s.heap.objs.size → s.heap.get? b = some o → g.get? b = some o)) E) PySem.F.called_set.init.plain PySem.F.entry_set_init (check_set_init_1 b2 ?_)) fun r₂ s₂ hr₂ => ?_
      · obtain ⟨ol, hol, hcl, nl, hdl⟩ := hl
        obtain ⟨ocls, odict, odata, oslots⟩ := ol
        simp only at hcl hdl
        subst hcl hdl
        have hol' : (s.heap.push so).get? l = some { cls := .type "list", dict := odict, data := .seq its nl, slots := oslots } := Heap.get?_push_of_some _ hol
        have c1 := PySem.F.sub_list_set
        have c2 := PySem.F.sub_list_frozenset
        have c3 : (Value.type "list" == Value.type "dict") = false := by decide
        have hl1 : (s.heap.push so).IsList l its := ⟨_, hol', rfl, nl, rfl⟩
        unfold Builtin.«set.__init__» noKeywords Builtin.Frozenset.updateFrom
        generalize hPI : pyIter = PI
        have ll : l < s.heap.objs.size := Heap.lt_size hol
        have nI : ∀ ob : Obj, l ≠ (s.heap.push ob).objs.size := fun ob => by
          rw [Heap.size_push]
          exact Nat.ne_of_lt (Nat.lt_succ_of_lt ll)
        have nS : ∀ ob : Obj, s.heap.objs.size ∉ [(s.heap.push ob).objs.size, l] := fun ob => by
          rw [Heap.size_push]
          simp only [List.mem_cons, List.mem_singleton, List.not_mem_nil, or_false, not_or]
          exact ⟨Nat.ne_of_lt (Nat.lt_succ_self _), Nat.ne_of_gt ll⟩
        have nB : ∀ (ob : Obj) (b : Addr), b < s.heap.objs.size → b ≠ (s.heap.push ob).objs.size := fun ob b lb => by
          rw [Heap.size_push]
          exact Nat.ne_of_lt (Nat.lt_succ_of_lt lb)
        subst hso
        wp_walk
        subst hPI
        refine wpAny_pyIter_list hl1 ?_
        refine wpAny_bind (wpAny_runValue ?_)
        have hh3 : A.in1.in1.in1.handled = none := by simp [hh]
        have sz : xs.length = its.size := by rw [← StrsAre.len_eq hi, Array.length_toList]
        have hval : ∀ (i : Nat) (v : Value), its[i]? = some v → ∃ x t, xs[i]? = some x ∧ v = .str x t := fun i v hv => by
          have li : i < xs.length := by
            rw [sz]
            exact (Array.getElem?_eq_some_iff.mp hv).1
          obtain ⟨t, e⟩ := SS.strs_at hi i v (by rw [Array.getElem?_toList]; exact hv)
          refine ⟨xs[i], t, List.getElem?_eq_getElem li, ?_⟩
          rw [e, List.getD_eq_getElem?_getD, List.getElem?_eq_getElem li]
          rfl
        refine fill ((Walks.list hh3 _ l (nI (so led)) its).toS) s.heap.objs.size (nS (so led)) xs sz (by rw [← sz]; exact hb) hval (its.size - 0) 0 _ (by omega) (Nat.zero_le _)
          ⟨⟨_, Heap.get?_push_size _ rfl, rfl, rfl⟩, (hl1.push _)⟩ ?hS0 ?hR
        case hS0 =>
          exact ⟨0, cnt_zero xs, PyProof.Rows.SetOf_congr ((PyProof.Rows.setObjOf_fresh (knd := PySem.strKind prog w) led).setOf (Heap.get?_push_of_some _ b1) (by unfold scanBound; omega)) (fun _ => by simp) rfl⟩
        case hR =>
          intro s' c' hm hc' hS'
          obtain ⟨g, g', d', tk', os'⟩ := s'
          have eg : g' = s.gens := hm.gens
          have ed : d' = s.drawn := hm.drawn
          have eo : os' = s.os := hm.os
          subst eg ed eo
          show wpAny _ _ _ _ _ _
          refine wpAny_pure ?_
          show wpAny _ _ (ret Value.none) _ _ _
          rw [← sz] at hc' hS'
          refine wpAny_pure ⟨rfl, g, tk', c', rfl, hc', hS', fun b o lb e => ?_⟩
          have n1 : b ≠ s.heap.objs.size := Nat.ne_of_lt lb
          have n2 := nB (so led) b lb
          exact hm.heap b o (by simp only [List.mem_cons, List.mem_singleton, List.not_mem_nil, or_false, not_or]; exact ⟨n1, n2⟩) (Heap.get?_push_of_some _ (Heap.get?_push_of_some _ e))
      · cases r₂ with
        | error e => exact hr₂
        | ok fl₂ =>
          cases fl₂ with
          | ret r =>
            obtain ⟨rfl, g, tk, c', rfl, hc', hS', hk'⟩ := hr₂
            repeat (any_goals (first | assumption | wp_step))
            exact q _ _ _ hc' hS' hk'
          | _ => exact hr₂.elim
    | _ => exact hr.elim
end
end Sl
namespace Sl
open PySem PySem.Spec PyProof.Rows L2
section
variable {X : Cx}
def tLen (K : PySem.W.Frag) (ta : TE) : TE := fun σ H Q => ta σ H fun x H1 => ∃ l, ∃ xs : List Str, x = .ref l ∧ SqL K H1 l (xs.map V.str) ∧ xs.length ≤ 4000 ∧ ∀ c, Cnt xs xs.length c → Q (.int (c : Nat)) H1
theorem pe_len {a : Expr} {ta : TE} {p p2 q pos : Pos} (hc : X.calm = true) (hg : Gl X "len") (hm : X.mg "len" = none) (hg2 : Gl X "set") (hm2 : X.mg "set" = none) (ha : PE X a ta)
    (na : starEach [a] X.env = (false, eval a X.env) :: starEach [] X.env := by rfl) : PE X (.Call (.Name "len" p) [.Call (.Name "set" p2) [a] [] q] [] pos) (tLen X.K ta) := by
  refine ⟨fun pins s σ H Q I h => ?_⟩
  refine Call_ (ld_blt I hg hm boot_len ?_)
  refine PyProof.Rows.callWith_builtin1 (PyProof.Rows.args_cons ?_ rfl) rfl rfl
  refine Call_ (ld_blt I hg2 hm2 boot_set ?_)
  refine PyProof.Rows.callWith_type1 (PyProof.Rows.args_cons (thn (ha.run pins s σ H _ I h) fun v s1 ⟨x, H1, I1, r1, q1⟩ => PyProof.Rows.args_nil ?_) na) na rfl
  obtain ⟨l, xs, ev, hq, hl, k⟩ := q1
  subst ev
  cases r1
  obtain ⟨its, r, pl, hz⟩ := I1.list hq
  refine set_strs (I1.ok.hd hc) pl.isList (by simpa using strsAre_of r) (by unfold scanBound; omega) fun g tk c hcn hS hk => ?_
  refine PyProof.Rows.args_nil ?_
  obtain ⟨o, es, ep, t, ho, hex, hd, _, _, _, hf, hn⟩ := hS
  have I2 : Inv X pins σ H1 { s1 with heap := g, toks := tk } := I1.kept fun b o e => hk b o (Heap.lt_size e) e
  have := hcn.1
  refine call_len_set ho hex hd hf (by rw [hn] <;> omega) ⟨.int (c : Nat), H1, I2.tok _, ⟨_, by rw [hn]⟩, k c hcn⟩
end
/-- xs[i], for xs[i] op= e -/
theorem get_list {X : Cx} : PGet X (rIxL X.K) := by
  intro pins s σ H o i ov iv Q I ro ri h
  obtain ⟨p, xs, k, z, rfl, rfl, hq, he, q⟩ := h
  cases ro
  obtain ⟨t, rfl⟩ := ri
  obtain ⟨its, r, pl, hz⟩ := I.list hq
  obtain ⟨j, h1, h2, h3, h4, h5⟩ := atI_get he
  obtain ⟨u, eu, ru⟩ := r.get h2
  have hl := r.length
  have hn := line63
  have fin : EP X pins σ Q u s := ⟨z, H, I, ru, q⟩
  by_cases h0 : 0 ≤ k
  · have hj : k.toNat = j := by
      rw [seqIndex_of h0 h5] at h1
      exact Option.some.inj h1
    exact wpAny_getItem_list pl.isList h0 (by omega) (by rw [hj]; simpa using eu) fin
  · have hj : (k + (its.toArray.size : Int)).toNat = j := by
      rw [seqIndex_neg (by omega) h4] at h1
      rw [List.size_toArray, ← hl]
      exact Option.some.inj h1
    exact wpAny_getItem_list_neg pl.isList (by omega) (by rw [List.size_toArray] <;> omega) (by omega) (by rw [hj]; simpa using eu) fin
end Sl

/-! xs.extend(t), t a tuple; comprehensions of two clauses by walks. -/
namespace Et
open PySem PySem.Spec PyProof.Rows L2
theorem ext_meets (l : Addr) (us : Array Value) (n : Nat) (b : Addr) (vs : Array Value) (m : Nat) (dd : Option Addr) (sl : Array (Option Value)) (h0 : ¬(!us.isEmpty && Builtin.List.listTooLong (us.size + vs.size)) = true) (h1 : us.size ≤ sizeLine) (h2 : us.size + vs.size ≤ sizeLine + 1) :
    Meets (Builtin.«list.extend» ⟨[.ref l, .ref b], []⟩) (fun _ R s => s.heap.get? l = some { cls := .type "list", dict := none, data := .seq us n, slots := #[] } ∧ s.heap.get? b = some { cls := .type "tuple", dict := dd, data := .seq vs m, slots := sl } ∧ R (.ok (.ret Value.none)) { s with heap := s.heap.update l (Obj.mapSeq fun x => x ++ vs), toks := s.toks }) :=
  .of_wp fun prog w A R s h => by
    obtain ⟨hp, g, d, tk, os⟩ := s
    obtain ⟨hl, hb, h⟩ := h
    have f1 := AutoSeq1.idx_int
    have f2 := AutoSeq1.sub_tuple_tuple
    have f3 := AutoSeq1.sub_list_list
    have f4 := AutoSeq1.sub_tuple_list
    have f5 := AutoSeq1.sub_list_tuple
    have hz' : (us ++ vs).size ≤ sizeLine + 1 := by
      rw [Array.size_append]
      exact h2
    wp_walk using (wpAny_updateSeq hl rfl (hz := h1) (_hz' := hz')), AutoSeq1.wpAny_loadPart' hl, AutoSeq1.wpAny_loadPart' hb
    exact ⟨_, rfl, h⟩
section
variable {X : Cx}
def rExtT (K : PySem.W.Frag) : V → List V → Hp → VK → Prop := fun x vs H Q => ∃ l b xs zs, x = .ref l ∧ vs = [.ref b] ∧ H l = some (.lst xs) ∧ SqT K H b zs ∧ xs.length + zs.length ≤ sizeLine ∧ Q .non (upd H l (.lst (xs ++ zs)))
theorem mt_extT : MtM X "list.extend" (rExtT X.K) := by
  intro pins s σ H x vs v us Q I rx rv h
  obtain ⟨l, b, xs, zs, rfl, rfl, hH, hB, hz, q⟩ := h
  cases rx
  obtain ⟨u, rfl, ru⟩ := rv.one
  cases ru
  obtain ⟨z, its, n, r, hl, e⟩ := I.lstM hH
  obtain ⟨its2, r2, p2, _⟩ := I.tuple hB
  obtain ⟨⟨c2, d2, a2, s2⟩, e2, k1, m, k2⟩ := p2
  simp only at k1 k2
  subst k1 k2
  have hl2 := r2.length
  have hsz : its.toArray.size + its2.toArray.size ≤ sizeLine := by
    rw [List.size_toArray, List.size_toArray]
    omega
  have hlong : ¬ (!its.toArray.isEmpty && Builtin.List.listTooLong (its.toArray.size + its2.toArray.size)) = true := by
    rw [notLongL hsz, Bool.and_false]
    exact Bool.false_ne_true
  refine call_meets F.slot_list_extend ⟨_, e, rfl⟩ F.entry_list_extend (F.args_list_extend_2 _ _) (ext_meets l its.toArray n b its2.toArray m d2 s2 hlong (by rw [List.size_toArray]; omega) (by omega)) ⟨e, e2, ?_⟩
  refine ⟨.non, _, I.lset (its' := its ++ its2) hH e (by simp) (r.append r2) ?_, rfl, q⟩
  rw [List.length_append]
  omega
end
/-- the outer clause of a comprehension of two -/
theorem out_it {J : It} {n : Nat} {G : Hp → Prop} {Y : Nat → Hp → V → Hp → Prop} (w : Walk J n G Y) {g : TG} {tt : TT} {B : (Hp → Prop) → L2.St → Hp → Prop} {vs : List Nat} {σ : L2.St} {H1 : Hp} {D : Addr} {Qd : Hp → Prop} (Pv : Nat → Hp → Prop) (h0 : Pv 0 (upd H1 D (.lst []))) (hG : ∀ i H, i ≤ n → Pv i H → G H)
    (hs : ∀ i x H H', i < n → Pv i H → Y i H x H' → g x (wipe σ vs) H' fun σ2 H2 => wipe σ2 vs = wipe σ vs ∧ tt σ2 H2 fun b H3 => if b = true then B (Pv (i + 1)) σ2 H3 else Pv (i + 1) H3) (hd : ∀ H, Pv n H → Qd H) :
    ∃ W : Nat → Nat → Hp → Prop, (∃ m, W 0 m (upd H1 D (.lst []))) ∧ ∀ i m H, W i m H →
      (J.stop i H ∧ Qd H) ∨ (J.go i H ∧ ∃ Nx : Hp → Prop, (∀ H', Nx H' → ∃ m', m' < m ∧ W (i + 1) m' H') ∧ ∀ x H', J.yld i H x H' → g x (wipe σ vs) H' fun σ2 H2 => wipe σ2 vs = wipe σ vs ∧ tt σ2 H2 fun b H3 => if b = true then B Nx σ2 H3 else Nx H3) := by
  refine ⟨fun i m H => m = n - i ∧ i ≤ n ∧ Pv i H, ⟨n, by simp, Nat.zero_le _, h0⟩, ?_⟩
  rintro i m H ⟨rfl, hi, p⟩
  have q := hG i H hi p
  by_cases lt : i < n
  · exact .inr ⟨w.goes i H lt q, Pv (i + 1), fun H' p' => ⟨n - (i + 1), by omega, rfl, lt, p'⟩, fun x H' y => hs i x H H' lt p (w.yields i H x H' lt q y)⟩
  · have e : i = n := by omega
    subst e
    exact .inl ⟨w.stops H q, hd H p⟩
/-- the inner clause -/
theorem in_it {J : It} {n : Nat} {G : Hp → Prop} {Y : Nat → Hp → V → Hp → Prop} (w : Walk J n G Y) {g : TG} {tt : TT} {te : TE} {vs : List Nat} {σ : L2.St} {H1 : Hp} {D : Addr} {Qd : Hp → Prop} (Pv : Nat → Hp → Prop) (h0 : Pv 0 H1) (hG : ∀ i H, i ≤ n → Pv i H → G H)
    (hs : ∀ i x H H', i < n → Pv i H → Y i H x H' → g x (wipe σ vs) H' fun σ2 H2 => wipe σ2 vs = wipe σ vs ∧ tt σ2 H2 fun b H3 =>
      if b = true then te σ2 H3 fun y H4 => ∃ acc, H4 D = some (.lst acc) ∧ acc.length < sizeLine ∧ Pv (i + 1) (upd H4 D (.lst (acc ++ [y]))) else Pv (i + 1) H3) (hd : ∀ H, Pv n H → Qd H) :
    ∃ W : Nat → Nat → Hp → Prop, (∃ m, W 0 m H1) ∧ ∀ i m H, W i m H →
      (J.stop i H ∧ Qd H) ∨ (J.go i H ∧ ∃ Nx : Hp → Prop, (∀ H', Nx H' → ∃ m', m' < m ∧ W (i + 1) m' H') ∧ ∀ x H', J.yld i H x H' → g x (wipe σ vs) H' fun σ2 H2 => wipe σ2 vs = wipe σ vs ∧ tt σ2 H2 fun b H3 =>
        if b = true then te σ2 H3 fun y H4 => ∃ acc, H4 D = some (.lst acc) ∧ acc.length < sizeLine ∧ Nx (upd H4 D (.lst (acc ++ [y]))) else Nx H3) := by
  refine ⟨fun i m H => m = n - i ∧ i ≤ n ∧ Pv i H, ⟨n, by simp, Nat.zero_le _, h0⟩, ?_⟩
  rintro i m H ⟨rfl, hi, p⟩
  have q := hG i H hi p
  by_cases lt : i < n
  · refine .inr ⟨w.goes i H lt q, Pv (i + 1), fun H' p' => ⟨n - (i + 1), by omega, rfl, lt, p'⟩, fun x H' y => hs i x H H' lt p (w.yields i H x H' lt q y)⟩
  · have e : i = n := by omega
    subst e
    exact .inl ⟨w.stops H q, hd H p⟩
end Et

/-! Data of ints, texts and tuples of such; what keeps them. -/
namespace Dv
open PySem L2 Wm
mutual
inductive Dt (K : PySem.W.Frag) (H : Hp) : V → PyData → Prop
  | int (i : Int) : Dt K H (.int i) (.int i)
  | str (x : Str) : Dt K H (.str x) (.str x)
  | tup {a : Addr} {xs : List V} {ds : List PyData} : SqT K H a xs → Dts K H xs ds → Dt K H (.ref a) (.tuple ds)
inductive Dts (K : PySem.W.Frag) (H : Hp) : List V → List PyData → Prop
  | nil : Dts K H [] []
  | cons {v : V} {vs : List V} {d : PyData} {ds : List PyData} : Dt K H v d → Dts K H vs ds → Dts K H (v :: vs) (d :: ds)
end
/-- tuples stand -/
def Kt (K : PySem.W.Frag) (H H' : Hp) : Prop := ∀ a xs, SqT K H a xs → SqT K H' a xs
section
variable {K : PySem.W.Frag} {H H' H2 : Hp}
theorem Kt.refl : Kt K H H := fun _ _ h => h
theorem Kt.trans (a : Kt K H H') (b : Kt K H' H2) : Kt K H H2 := fun p xs h => b p xs (a p xs h)
theorem Kt.same (s : Same H H') : Kt K H H' := fun _ _ h => sameT s h
/-- a store at what is no tuple -/
theorem Kt.set {p : Addr} {o u : HO} (h : H p = some u) (n1 : ∀ xs, u ≠ .tup xs) (n2 : ∀ ob xs, u ≠ .frz ob (.tup xs)) : Kt K H (upd H p o) := fun a xs q => by
  rcases q with (q | ⟨ob, q⟩) | q
  · exact .inl (.inl (by rw [upd_ne (fun e => by subst e; rw [h] at q; exact n1 _ (Option.some.inj q))]; exact q))
  · exact .inl (.inr ⟨ob, by rw [upd_ne (fun e => by subst e; rw [h] at q; exact n2 _ _ (Option.some.inj q))]; exact q⟩)
  · exact .inr q
theorem Kt.lst {p : Addr} {o : HO} {xs : List V} (h : H p = some (.lst xs)) : Kt K H (upd H p o) := Kt.set h (fun _ q => by cases q) (fun _ _ q => by cases q)
theorem Kt.new {p : Addr} {o : HO} (h : H p = none) : Kt K H (upd H p o) := Kt.same (same_new h)
mutual
theorem Dt.keep (k : Kt K H H') : ∀ (d : PyData) (v : V), Dt K H v d → Dt K H' v d
  | .int _, _, h => by cases h; exact .int _
  | .str _, _, h => by cases h; exact .str _
  | .tuple ds, _, h => by
    cases h with
    | tup a b => exact .tup (k _ _ a) (Dts.keep k ds _ b)
  | .none, _, h => by cases h
  | .bool _, _, h => by cases h
  | .list _, _, h => by cases h
  | .dict _, _, h => by cases h
theorem Dts.keep (k : Kt K H H') : ∀ (ds : List PyData) (vs : List V), Dts K H vs ds → Dts K H' vs ds
  | [], _, h => by cases h; exact .nil
  | d :: ds, _, h => by
    cases h with
    | cons a b => exact .cons (Dt.keep k d _ a) (Dts.keep k ds _ b)
end
mutual
theorem Dt.dp : ∀ (d : PyData) (v : V), Dt K H v d → Dp K H v d
  | .int _, _, h => by cases h; exact .int _
  | .str _, _, h => by cases h; exact .str _
  | .tuple ds, _, h => by
    cases h with
    | tup a b => exact .tup a (Dts.dp ds _ b)
  | .none, _, h => by cases h
  | .bool _, _, h => by cases h
  | .list _, _, h => by cases h
  | .dict _, _, h => by cases h
theorem Dts.dp : ∀ (ds : List PyData) (vs : List V), Dts K H vs ds → DpAll K H vs ds
  | [], _, h => by cases h; exact .nil
  | d :: ds, _, h => by
    cases h with
    | cons a b => exact .cons (Dt.dp d _ a) (Dts.dp ds _ b)
end
theorem Dt.k {d : PyData} {v : V} (h : Dt K H v d) (k : Kt K H H') : Dt K H' v d := Dt.keep k _ _ h
theorem Dts.k {ds : List PyData} {vs : List V} (h : Dts K H vs ds) (k : Kt K H H') : Dts K H' vs ds := Dts.keep k _ _ h
theorem Dt.toDp {d : PyData} {v : V} (h : Dt K H v d) : Dp K H v d := Dt.dp _ _ h
theorem Dts.toDp {ds : List PyData} {vs : List V} (h : Dts K H vs ds) : DpAll K H vs ds := Dts.dp _ _ h
theorem Dt.inv {ds : List PyData} {v : V} (h : Dt K H v (.tuple ds)) : ∃ p xs, v = .ref p ∧ SqT K H p xs ∧ Dts K H xs ds := by
  cases h with
  | tup a b => exact ⟨_, _, rfl, a, b⟩
theorem Dt.str_inv {x : Str} {v : V} (h : Dt K H v (.str x)) : v = .str x := by cases h; rfl
theorem Dt.int_inv {i : Int} {v : V} (h : Dt K H v (.int i)) : v = .int i := by cases h; rfl
theorem Dts.len {ds : List PyData} {vs : List V} (h : Dts K H vs ds) : vs.length = ds.length := by
  induction ds generalizing vs with
  | nil => cases h; rfl
  | cons d ds ih =>
    cases h with
    | cons a b => rw [List.length_cons, List.length_cons, ih b]
theorem Dts.at {i : Nat} {ds : List PyData} {vs : List V} {v : V} (h : Dts K H vs ds) (g : vs[i]? = some v) : ∃ d, ds[i]? = some d ∧ Dt K H v d := by
  induction ds generalizing vs i with
  | nil =>
    cases h
    simp at g
  | cons d ds ih =>
    cases h with
    | cons a b =>
      cases i with
      | zero =>
        simp at g
        subst g
        exact ⟨d, rfl, a⟩
      | succ i => exact ih b (by simpa using g)
theorem Dts.get {i : Nat} {ds : List PyData} {vs : List V} {d : PyData} (h : Dts K H vs ds) (g : ds[i]? = some d) : ∃ v, vs[i]? = some v ∧ Dt K H v d := by
  have li := (List.getElem?_eq_some_iff.mp g).1
  obtain ⟨v, e⟩ : ∃ v, vs[i]? = some v := ⟨_, List.getElem?_eq_getElem (by rw [h.len]; exact li)⟩
  obtain ⟨d2, e2, a⟩ := h.at e
  rw [g] at e2
  cases e2
  exact ⟨v, e, a⟩
theorem Dts.app {ds es : List PyData} {vs ws : List V} (h : Dts K H vs ds) (g : Dts K H ws es) : Dts K H (vs ++ ws) (ds ++ es) := by
  induction ds generalizing vs with
  | nil => cases h; exact g
  | cons d ds ih =>
    cases h with
    | cons a b => exact .cons a (ih b)
theorem Dts.snoc {ds : List PyData} {d : PyData} {vs : List V} {v : V} (h : Dts K H vs ds) (g : Dt K H v d) : Dts K H (vs ++ [v]) (ds ++ [d]) := h.app (.cons g .nil)
theorem Dts.take {ds : List PyData} {vs : List V} (h : Dts K H vs ds) : ∀ n, Dts K H (vs.take n) (ds.take n) := by
  induction ds generalizing vs with
  | nil => cases h; intro n; simp; exact .nil
  | cons d ds ih =>
    cases h with
    | cons a b =>
      intro n
      cases n with
      | zero => exact .nil
      | succ n => exact .cons a (ih b n)
theorem Dts.drop {ds : List PyData} {vs : List V} (h : Dts K H vs ds) : ∀ n, Dts K H (vs.drop n) (ds.drop n) := by
  induction ds generalizing vs with
  | nil => cases h; intro n; simp; exact .nil
  | cons d ds ih =>
    cases h with
    | cons a b =>
      intro n
      cases n with
      | zero => exact .cons a b
      | succ n => exact ih b n
theorem dts_str : ∀ ss : List Str, Dts K H (ss.map V.str) (ss.map PyData.str)
  | [] => .nil
  | s :: ss => .cons (.str s) (dts_str ss)
theorem dts_str_inv {ss : List Str} {vs : List V} (h : Dts K H vs (ss.map PyData.str)) : vs = ss.map V.str := by
  induction ss generalizing vs with
  | nil => cases h; rfl
  | cons s ss ih =>
    cases h with
    | cons a b => rw [a.str_inv, ih b]; rfl
theorem dts_int : ∀ ns : List Int, Dts K H (ns.map V.int) (ns.map PyData.int)
  | [] => .nil
  | s :: ss => .cons (.int s) (dts_int ss)
theorem dts_int_inv {ns : List Int} {vs : List V} (h : Dts K H vs (ns.map PyData.int)) : vs = ns.map V.int := by
  induction ns generalizing vs with
  | nil => cases h; rfl
  | cons s ss ih =>
    cases h with
    | cons a b => rw [a.int_inv, ih b]; rfl
theorem dt_tup {p : Addr} {xs : List V} {ds : List PyData} (h : H p = some (.tup xs)) (g : Dts K H xs ds) : Dt K H (.ref p) (.tuple ds) := .tup (SqT.of h) g
end
/-- data that == may be asked of: texts in the line, not deep -/
def Fine (n : Nat) (d : PyData) : Prop := d.canLay0 = true ∧ d.depth ≤ n
theorem fine_int {n : Nat} (i : Int) : Fine n (.int i) := ⟨by simp [PyData.canLay0], by simp [PyData.depth]⟩
theorem fine_tup {n : Nat} {ds : List PyData} (h : ∀ d ∈ ds, Fine n d) : Fine (n + 1) (.tuple ds) := by
  have q : PyData.canLayAll0 ds = true ∧ PyData.depthAll ds ≤ n := by
    induction ds with
    | nil => simp [PyData.canLayAll0, PyData.depthAll]
    | cons d ds ih =>
      have h1 := h d (by simp)
      have h2 := ih fun y m => h y (List.mem_cons_of_mem _ m)
      simp only [PyData.canLayAll0, PyData.depthAll, h1.1, h2.1, Bool.and_self, true_and]
      have := h1.2
      have := h2.2
      omega
  exact ⟨by simp only [PyData.canLay0]; exact q.1, by simp only [PyData.depth]; have := q.2; omega⟩
theorem fine_str {n : Nat} {x : Str} (h : x.cps.all (· < 0x110000) = true) : Fine n (.str x) := ⟨by simp only [PyData.canLay0]; exact h, by simp [PyData.depth]⟩
theorem fine_num {n : Nat} {ds : List Nat} (h : ∀ d ∈ ds, d ≤ 9) : Fine n (.str (numS ds)) := by
  refine fine_str ?_
  rw [← Array.all_toList, List.all_eq_true]
  intro c m
  obtain ⟨d, md, rfl⟩ := List.mem_map.mp (show c ∈ codes ds from m)
  have := h d md
  exact decide_eq_true (by omega)
theorem Fine.shaped {n : Nat} {d : PyData} (h : Fine n d) (l : n ≤ 64) : SeqAt.shaped d = true := by
  have e : decide (d.depth ≤ 64) = true := decide_eq_true (Nat.le_trans h.2 l)
  show (d.canLay0 && _) = true
  rw [e, Bool.and_true]
  exact h.1
theorem Fine.refl {n : Nat} {d : PyData} (h : Fine n d) : PyData.eqv d d = true := SeqAt.eqv_refl d h.1
theorem Fine.mono {n m : Nat} {d : PyData} (h : Fine n d) (l : n ≤ m) : Fine m d := ⟨h.1, Nat.le_trans h.2 l⟩
end Dv

/-! A list or a tuple, told by a letter; loops over it that may write elsewhere. -/
namespace Kd
open PySem PySem.Spec PyProof.Rows L2
/-- the list or (t) the tuple at a -/
def Is (K : PySem.W.Frag) (t : Bool) (H : Hp) (a : Addr) (xs : List V) : Prop := if t = true then SqT K H a xs else SqL K H a xs
theorem Is.keep {K : PySem.W.Frag} {t : Bool} {H H' : Hp} {a : Addr} {xs : List V} (s : Same H H') (h : Is K t H a xs) : Is K t H' a xs := by
  cases t
  · exact Hf.keepL s h
  · exact Hf.keepT s h
theorem Is.sq {K : PySem.W.Frag} {t : Bool} {H : Hp} {a : Addr} {xs : List V} (h : Is K t H a xs) : SqL K H a xs ∨ SqT K H a xs := by
  cases t
  · exact .inl h
  · exact .inr h
theorem Is.tup {K : PySem.W.Frag} {H : Hp} {a : Addr} {xs : List V} (h : SqT K H a xs) : Is K true H a xs := h
theorem Is.lst {K : PySem.W.Frag} {H : Hp} {a : Addr} {xs : List V} (h : SqL K H a xs) : Is K false H a xs := h
section
variable {X : Cx}
def iSeq (K : PySem.W.Frag) (tl : TE) : TI := fun σ H R => tl σ H fun x H1 => ∃ a xs t, x = .ref a ∧ Is K t H1 a xs ∧
  ∀ J G, Walk J xs.length G (YAt xs) → (∀ H', Is K t H' a xs → G H') → R J H1
theorem pi_seq {tg l : Expr} {tl : TE} (hl : PE X l tl) : PI X tg l (iSeq X.K tl) := by
  refine ⟨fun pins s σ H R I h => ?_⟩
  refine thn (hl.run pins s σ H _ I h) fun v s1 ⟨x, H1, I1, r1, q1⟩ => ?_
  obtain ⟨a, xs, t, e, hq, q⟩ := q1
  subst e
  cases r1
  cases t with
  | false =>
    have hq : SqL X.K H1 a xs := hq
    have q := q _ _ walk_list fun H' s => s
    obtain ⟨its, rv, p, hz⟩ := I1.list hq
    refine wpAny_pyIter_list p.isList ?_
    refine ⟨s1.heap.objs.size, [s1.heap.objs.size], _, _, H1, rfl, I1.kept (t' := s1.toks) fun b o e => Heap.get?_push_of_some _ e, turn_list a _, ⟨_, Heap.get?_push_size _ rfl, rfl, rfl⟩, fun b hb => ?_, q⟩
    have e : b = s1.heap.objs.size := by simpa using hb
    subst e
    exact I1.fpOk (Nat.le_refl _) (I1.hok.fresh (Nat.le_refl _))
  | true =>
    have hq : SqT X.K H1 a xs := hq
    have q := q _ _ walk_tup fun H' s => s
    obtain ⟨its, rv, p, hz⟩ := I1.tuple hq
    refine wpAny_pyIter_tuple (show s1.heap.IsTuple a its.toArray from p) ?_
    refine ⟨s1.heap.objs.size, [s1.heap.objs.size], _, _, H1, rfl, I1.kept (t' := s1.toks) fun b o e => Heap.get?_push_of_some _ e, turn_tuple a _, ⟨_, Heap.get?_push_size _ rfl, rfl, rfl⟩, fun b hb => ?_, q⟩
    have e : b = s1.heap.objs.size := by simpa using hb
    subst e
    exact I1.fpOk (Nat.le_refl _) (I1.hok.fresh (Nat.le_refl _))
end
end Kd

/-! Comprehensions whose items are told one by one. -/
namespace Lm
open PySem L2 Wm Dv
theorem list_is {α : Type} {ys zs : List α} (l : ys.length = zs.length) (h : ∀ (i : Nat) y, ys[i]? = some y → zs[i]? = some y) : ys = zs := by
  refine List.ext_getElem? fun i => ?_
  by_cases q : i < ys.length
  · rw [h i _ (List.getElem?_eq_getElem q), List.getElem?_eq_getElem q]
  · rw [List.getElem?_eq_none (by omega), List.getElem?_eq_none (by omega)]
theorem lc_map {K : PySem.W.Frag} {J : It} {n : Nat} {G : Hp → Prop} {xs : List V} (w : Walk J n G (YAt xs)) {g : TG} {te : TE} {vs : List Nat} {σ : L2.St} {H1 : Hp} {D : Addr} {Qd : Hp → Prop} (R : Nat → V → Hp → Prop)
    (mono : ∀ i y H H', R i y H → Kt K H H' → R i y H') (hD : H1 D = none) (hn : n ≤ 1000) (hG : ∀ H', Same H1 H' → G H')
    (hs : ∀ i x H', i < n → xs[i]? = some x → Same H1 H' → ∀ (Q : V → Hp → Prop) (Z : Hp → Prop), (∀ y H4, Same H' H4 → R i y H4 → Q y H4) → g x (wipe σ vs) H' fun σ2 H2 => wipe σ2 vs = wipe σ vs ∧ tYes σ2 H2 fun b H3 => if b = true then te σ2 H3 Q else Z H3)
    (hd : ∀ H ys, Same H1 H → H D = some (.lst ys) → ys.length = n → (∀ (i : Nat) y, ys[i]? = some y → R i y H) → Qd H) :
    ∃ W : Nat → Nat → Hp → Prop, (∃ m, W 0 m (upd H1 D (.lst []))) ∧ ∀ i m H, W i m H →
      (J.stop i H ∧ Qd H) ∨ (J.go i H ∧ ∃ Nx : Hp → Prop, (∀ H', Nx H' → ∃ m', m' < m ∧ W (i + 1) m' H') ∧ ∀ x H', J.yld i H x H' → g x (wipe σ vs) H' fun σ2 H2 => wipe σ2 vs = wipe σ vs ∧ tYes σ2 H2 fun b H3 =>
        if b = true then te σ2 H3 fun y H4 => ∃ acc, H4 D = some (.lst acc) ∧ acc.length < sizeLine ∧ Nx (upd H4 D (.lst (acc ++ [y]))) else Nx H3) := by
  refine lc_it (tt := tYes) w (fun i H => Same H1 H ∧ ∃ ys : List V, ys.length = i ∧ H D = some (.lst ys) ∧ ∀ j y, ys[j]? = some y → R j y H) ⟨same_new hD, [], rfl, upd_same, fun (j : Nat) (y : V) e => by simp at e⟩ (fun i H _ h => hG H h.1) (fun i x H H' hi hP hY => ?_) (fun H hP => ?_)
  · obtain ⟨sm, ys, el, hy, hR⟩ := hP
    obtain ⟨rfl, hx⟩ := hY
    refine hs i x H' hi hx sm _ _ (fun y H4 s4 r4 => ?_)
    · refine ⟨ys, s4 _ _ hy, by rw [el]; exact small1000 (by omega), same_mut (sm.trans s4) hD, ys ++ [y], by rw [List.length_append, el]; rfl, upd_same, fun j z hz => ?_⟩
      have k5 : Kt K H4 (upd H4 D (.lst (ys ++ [y]))) := Kt.lst (s4 _ _ hy)
      by_cases lj : j < ys.length
      · rw [List.getElem?_append_left lj] at hz
        exact mono _ _ _ _ (hR j z hz) ((Kt.same s4).trans k5)
      · rw [List.getElem?_append_right (by omega)] at hz
        have e0 : j - ys.length = 0 := by
          by_cases q : j - ys.length = 0
          · exact q
          · rw [List.getElem?_eq_none (by rw [List.length_singleton]; omega)] at hz
            cases hz
        rw [e0] at hz
        have ez : y = z := by simpa using hz
        have ej : j = i := by omega
        subst ez ej
        exact mono _ _ _ _ r4 k5
  · obtain ⟨sm, ys, el, hy, hR⟩ := hP
    exact hd H ys sm hy el hR
end Lm
namespace Kx
open PySem L2
def rLen (K : PySem.W.Frag) : List V → Hp → VK → Prop := fun xs H Q => ∃ p ys, xs = [.ref p] ∧ (SqL K H p ys ∨ SqT K H p ys) ∧ Q (.int (ys.length : Nat)) H
def rTup (K : PySem.W.Frag) : List V → Hp → VK → Prop := fun xs H Q => ∃ a ys, xs = [.ref a] ∧ SqT K H a ys ∧ Q (.ref a) H
def rTupOf (K : PySem.W.Frag) : List V → Hp → VK → Prop := fun xs H Q => ∃ p ys, xs = [.ref p] ∧ ((SqL K H p ys ∧ ∀ l, H l = none → Q (.ref l) (upd H l (.tup ys))) ∨ (SqT K H p ys ∧ Q (.ref p) H))
end Kx

/-! An own error with one field, BadTown, as the guide's skeleton on own errors gives it. -/
namespace PySem
namespace LowT
open PySem.W PySem.Calls PyProof.Rows PySem.HandSPX
/-! ### the text of __init__ -/
def iA (p1 p2 : Pos) : Arguments := { posonlyargs := [], args := [{ arg := "self", annotation := none, pos := p1 }, { arg := "what", annotation := none, pos := p2 }], vararg := none, kwonlyargs := [], kw_defaults := [], kwarg := none, defaults := [] }
def iB (q1 q2 q3 q4 : Pos) : List Stmt := [.Assign [.Attribute (.Name "self" q1) "what" q2] (.Name "what" q3) q4]
def iS : Scope := { kind := .function, names := [(PySem.Str.ofString "self", .local), (PySem.Str.ofString "what", .local)], isGenerator := false, isCoroutine := false, more := [] }
/-- what the written part says of Low, at C, and of its __init__, at fI -/
structure LowTxt (K : Frag) (mg : Str → Option Value) (C fI : Addr) : Prop where
  gC : mg "BadTown" = some (.ref C)
  cls : ∃ nm q N bs bm sn sub ab col dd k0 k1 k2 k3 k5, K.lookup C = some (excClassObj nm q C N bs bm true sn sub ab col dd k0 k1 k2 k3 k5 "ValueError.__new__") ∧ refsVE bm = true
  sa : findIn K (.ref C) "__setattr__" = some (some (.builtin "object.__setattr__"))
  ga : findIn K (.ref C) "__getattribute__" = some (some (.builtin "BaseException.__getattribute__"))
  gg : findIn K (.ref C) "__getattr__" = some none
  noN : findIn K (.ref C) "what" = some none
  iC : findIn K (.ref C) "__init__" = some (some (.ref fI))
  tC : typeIn K (.ref fI) = some (.type "function")
  kC : keepIn K (.ref C) = true
  exC : subIn K (.ref C) (.type "BaseException") = some true
  tyC : typeIn K (.ref C) = some (.type "type")
  hdC : hasDictIn K C = true
  te : exmOne K (.ref C) (.ref C) = some true
  fn : ∃ (oc : Value) (od : Option Addr) (doc pm : Value) (an : Option Addr) (cdv ct : Value) (osl : Array (Option Value)) (p1 p2 q1 q2 q3 q4 : Pos),
    K.lookup fI = some ⟨oc, od, .func (fnOf "__init__" "BadTown.__init__" (iA p1 p2) (iB q1 q2 q3 q4) iS .none .none doc pm an cdv ct), osl⟩ ∧ codeIn K cdv "BadTown.__init__" = true
theorem one_size (v : Value) : [v].length ≤ sizeLine := by
  rw [sizeLine_eq]
  exact (by decide : 1 ≤ 16777216)
theorem kept_but {K : Frag} {h h' : Heap} {x : Addr} (X : K.In h) (hx : K.lookup x = none) (k : ∀ b o, b ≠ x → h.get? b = some o → h'.get? b = some o) : K.In h' := fun a o e =>
  k a o (fun z => by rw [z, hx] at e; cases e) (X a o e)
theorem ldC {M : Model} {s : Shared} {name : Str} {scope : Scope} {L a : Addr} {cd : Value} {m : Str → Option Value} {x : Str} {pos : Pos} {v : Value} {Q : Value → Shared → Prop} {A : Around} {E : Value → Shared → Prop} (hn : s.heap.Ns L m) (hv : m x = some v) (h : Q v s)
    (hk : scope.kind = .function := by rfl) (hl : (envOfC name scope L a cd).kindOf x = some .local := by rfl) (hd : (x == ("__debug__" : Str)) = false := by decide) :
    wpAny M A (eval (.Name x pos) (envOfC name scope L a cd)) Q E s := wpAny_Name (wpAny_loadName_local hk hl hn hv h) hd
/-- what __init__ leaves of a fresh exception at x -/
structure InitEnd (h h' : Heap) (x C dx t1 : Addr) (v : Value) : Prop where
  keep : ∀ b o, b ≠ x → h.get? b = some o → h'.get? b = some o
  obj : h'.get? x = some { cls := .ref C, dict := some dx, data := .fields #[.ref t1, .none, .none, .none, .bool false, .none] }
  dbig : h.objs.size ≤ dx
  dne : dx ≠ x
  ns : h'.Ns1 dx (fun y => if y = "what" then some v else none)
/-- a made Low -/
structure OwnMade (h h' : Heap) (e C d : Addr) (v : Value) : Prop where
  keep : ∀ b o, h.get? b = some o → h'.get? b = some o
  new : h.objs.size ≤ e
  obj : ∃ oe vs, h'.get? e = some oe ∧ oe.cls = .ref C ∧ oe.dict = some d ∧ oe.data = .fields vs ∧ vs[1]? = some .none
  dbig : h.objs.size ≤ d
  dne : d ≠ e
  ns : h'.Ns1 d (fun y => if y = "what" then some v else none)
section
variable {prog : Program} {w : World} {A : Around} {E : Value → Shared → Prop} {R : Result → Shared → Prop} {s : Shared} {K : Frag} {mg : Str → Option Value} {C fI : Addr}
theorem low_init (T : LowTxt K mg C fI) {x t0 : Addr} {v : Value} (X : K.In s.heap) (hlim : s.heap.NoLimit) (hx : s.heap.get? x = some (excO C t0)) (hnx : K.lookup x = none) (hroom : A.depth < recursionLimit)
    (hq : ∀ h' tk dx, InitEnd s.heap h' x C dx t0 v → R (.ok (.ret .none)) { s with heap := h', toks := tk }) :
    codeAny (model prog w) A (.call (.ref fI) ⟨[.ref x, v], []⟩) R s := by
  obtain ⟨oc, od, doc, pm, an, cdv, ct, osl, p1, p2, q1, q2, q3, q4, ho, hcd⟩ := T.fn
  obtain ⟨nm, q, N, bs, bm, sn, sub, ab, col, dd, k0, k1, k2, k3, k5, hC, hbm⟩ := T.cls
  have hcl : clsIn K C = some { name := nm, bases := bs, mro := .ref C :: bm, ns := N, qualname := q, hasDict := true, slotNames := sn, subclasses := sub, abstract := ab, collection := col, hasDel := false } := by unfold clsIn; rw [hC] <;> rfl
  refine Att.call_fn (binds := [("self", .ref x), ("what", v)]) X hlim ho hcd hroom (BindsTo.of_eq (by first | rfl | with_unfolding_all rfl)) (by first | rfl | decide | with_unfolding_all rfl) (fun s₁ IC => ?_) rfl rfl rfl
  obtain ⟨h₁, tk₁, rfl⟩ := IC.toInCall.same
  have k : ∀ b o, s.heap.get? b = some o → h₁.get? b = some o := IC.toInCall.keep
  have hn := IC.toInCall.ns
  have hxL : s.heap.objs.size ≠ x := Nat.ne_of_gt (Heap.lt_size hx)
  have X₁ : K.In h₁ := X.keeps k
  have hx₁ := k _ _ hx
  -- self.by = by
  show wpAny _ _ (execs _ _) _ _ _
  refine wpAny_execs_cons (plainObj_wpAny_Assign_Attribute ?_)
  refine ldC (v := v) hn (by first | rfl | with_unfolding_all rfl | kernel_rfl) (ldC (v := .ref x) hn (by first | rfl | with_unfolding_all rfl | kernel_rfl) ?_)
  refine set_plain X₁ (ox := excO C t0) (od := none) ⟨hx₁, rfl, rfl, trivial⟩ T.sa ?_
  refine exc_osa X₁ hx₁ hcl (show refsVE (.ref C :: bm) = true from hbm) rfl T.noN (fun h₃ tk₃ dx k₃ dn dne hx₃ hn₃ => ?_)
  show wpAny _ _ (execs _ _) _ _ _
  have z : s.heap.objs.size < h₁.objs.size := hn.lt
  exact wpAny_execs_nil (hq h₃ tk₃ dx ⟨fun b o hb e => k₃ b o hb (k b o e), hx₃, Nat.le_of_lt (Nat.lt_of_lt_of_le z dn), dne, hn₃⟩)
theorem low_made (T : LowTxt K mg C fI) {v : Value} (X : K.In s.heap) (hlim : s.heap.NoLimit) (hroom : A.depth + 1 < recursionLimit)
    (hq : ∀ h' tk e d, OwnMade s.heap h' e C d v → R (.ok (.ret (.ref e))) { s with heap := h', toks := tk }) :
    codeAny (model prog w) A (.call (.ref C) ⟨[v], []⟩) R s := by
  obtain ⟨nm, q, N, bs, bm, sn, sub, ab, col, dd, k0, k1, k2, k3, k5, hC, hbm⟩ := T.cls
  obtain ⟨hp, g, dr, tk, os⟩ := s
  have k : ∀ b o, hp.get? b = some o → ((hp.push (kdv_tup [v])).push (excO C hp.objs.size)).get? b = some o := fun b o e => Heap.get?_push_of_some _ (Heap.get?_push_of_some _ e)
  have hget : ((hp.push (kdv_tup [v])).push (excO C hp.objs.size)).get? (hp.objs.size + 1) = some (excO C hp.objs.size) := by heap_get
  have hnx : K.lookup (hp.objs.size + 1) = none := by
    cases e : K.lookup (hp.objs.size + 1) with
    | none => rfl
    | some o =>
      have z : hp.get? (hp.objs.size + 1) = some o := X _ _ e
      exact absurd (Nat.lt_of_succ_lt (Heap.lt_size z)) (Nat.lt_irrefl _)
  refine call_own F.excBase_ValueError (fun X => refsVE_contains X bm hbm) (X _ _ hC) (looks_findIn X T.iC) (fun self => bind_fn X self T.tC) (one_size v) ?_
  refine low_init (s := ⟨(hp.push (kdv_tup [v])).push (excO C hp.objs.size), g, dr, tk, os⟩) T (X.keeps k) (hlim.keeps k) hget hnx ?_ fun h' tk' dx ⟨k', hx, dn, dne, hns⟩ => ?_
  · show A.depth + 1 < recursionLimit
    exact hroom
  · have old : ∀ b o, hp.get? b = some o → h'.get? b = some o := fun b o e => k' b o (Nat.ne_of_lt (Nat.lt_succ_of_lt (Heap.lt_size e))) (k b o e)
    have z : hp.objs.size + 1 + 1 ≤ dx := by
      first
        | (simpa only [Heap.size_push] using dn)
        | exact dn
        | (have q := dn; rw [Heap.size_push, Heap.size_push] at q; exact q)
    exact ⟨rfl, hq h' tk' (hp.objs.size + 1) dx ⟨old, Nat.le_succ _, ⟨_, _, hx, rfl, rfl, rfl, rfl⟩, Nat.le_trans (Nat.le_trans (Nat.le_succ _) (Nat.le_succ _)) z, dne, hns⟩⟩
end
end LowT
end PySem
namespace L2
open PySem PySem.Spec PyProof.Rows
theorem relO_lowT {v : V} {v' : Value} (r : RelV v v') (f : Str) : RelO (List.lookup f [(("what" : Str), v)]) (if f = "what" then some v' else none) := by
  by_cases hw : f = "what"
  · subst hw
    rw [if_pos rfl]
    have q : List.lookup ("what" : Str) [(("what" : Str), v)] = some v := by simp [List.lookup]
    rw [q]
    exact r
  · rw [if_neg hw]
    have qw : (f == ("what" : Str)) = false := by simpa using hw
    have q2 : List.lookup f [(("what" : Str), v)] = none := by simp [List.lookup, qw]
    rw [q2]
    trivial
section
variable {X : Cx} {C fI : Addr}
/-- Low(e) -/
def tMkLowT (C : Addr) (ta : TA) : St → Hp → XK → Prop := fun σ H Q => ta σ H fun vs H1 => ∃ v, vs = [v] ∧ ∀ d, H1 d = none → Q (.ref C) (some d) (upd H1 d (.xd [(("what" : Str), v)]))
theorem pmk_lowT {a : Expr} {ta : TA} {p pos : Pos} {k : Nat} (T : PySem.LowT.LowTxt X.K X.mg C fI) (hr : Room k X.A) (ha : PA X [a] ta) (hg : Gl X "BadTown" := by rfl)
    (he : starEach (a :: []) X.env = (false, eval a X.env) :: starEach [] X.env := by rfl) (hpl : (backTo pos (starEach [] X.env)).any (·.1) = false := by rfl) :
    PMk X (.Call (.Name "BadTown" p) [a] [] pos) (tMkLowT C ta) := by
  intro pins s σ H Q I h
  refine wpAny_Call_Name_kw (ld_glob I hg T.gC ?_)
  refine PySem.W.callWith_K (h₀ := X.base) I.ok.mod.kin T.kC (thn (ha.run pos pins s σ H _ I h) fun us s1 hh => ?_) he hpl
  obtain ⟨vs, H1, I1, r1, v, ev, q1⟩ := hh
  subst ev
  refine ⟨I1.kIn, ?_⟩
  cases r1 with
  | cons rv rn =>
    rename_i v' us'
    cases rn
    show wpAny _ _ (call (.ref C) [v']) _ _ _
    have hlim := I1.nolimit
    obtain ⟨hp, g, dr, tk, os⟩ := s1
    refine wpAny_call (PySem.LowT.low_made T I1.kIn hlim (by have := hr.dp; omega) fun h' tk' e d M => ?_)
    show MkP X pins σ Q (.ref e) ⟨h', g, dr, tk', os⟩
    obtain ⟨oe, fv, hoe, hc, hd, hdat, h1⟩ := M.obj
    have hns := M.ns
    obtain ⟨G', g1, g2⟩ := restrict h' fun b => decide (b ≠ e)
    have gk : ∀ b, b ≠ e → G'.get? b = h'.get? b := fun b hb => g1 b (decide_eq_true hb)
    have ge : G'.get? e = none := g2 e (by simp)
    have old : ∀ b o, hp.get? b = some o → G'.get? b = some o := fun b o q => (gk b (Nat.ne_of_lt (Nat.lt_of_lt_of_le (Heap.lt_size q) M.new))).trans (M.keep b o q)
    have ob : ObjOk X.prog X.w (upd H1 d (.xd [(("what" : Str), v)])) G' d (.xd [(("what" : Str), v)]) :=
      ⟨_, hns.at (fun o q => (gk d M.dne).trans q), fun f => relO_lowT rv f⟩
    have J : Inv X pins σ (upd H1 d (.xd [(("what" : Str), v)])) ⟨G', g, dr, tk', os⟩ := I1.laid (t' := tk') old M.dbig ob
    refine ⟨e, oe, fv, ⟨G', g, dr, tk', os⟩, _, .ref C, some d, rfl, J, fun b o q => ?_, ge, hoe, ⟨hc, hd⟩, hdat, h1, ?_, rfl, I1.bare, raises_own T.exC T.tyC, q1 d (I1.hok.fresh M.dbig)⟩
    · by_cases hb : b = e
      · have q' : G'.get? b = some o := q
        rw [hb, ge] at q'; cases q'
      · exact (gk b hb).symm.trans q
    · rw [upd_ne (Ne.symm M.dne)]
      exact I1.hok.fresh M.new
/-- raise Low(e) -/
def tRaiseLowT (C : Addr) (W : WX) (ta : TA) : TS := fun _ σ H => tMkLowT C ta σ H fun cls d H' => W cls d σ H'
theorem ps_raiseLowT {a : Expr} {ta : TA} {W : WX} {p pos pos2 : Pos} {k : Nat} (hc : X.calm = true) (T : PySem.LowT.LowTxt X.K X.mg C fI) (hr : Room k X.A) (tk : Takes X W) (ha : PA X [a] ta) (hg : Gl X "BadTown" := by rfl)
    (he : starEach (a :: []) X.env = (false, eval a X.env) :: starEach [] X.env := by rfl) (hpl : (backTo pos (starEach [] X.env)).any (·.1) = false := by rfl) :
    PS X (.Raise (some (.Call (.Name "BadTown" p) [a] [] pos)) none pos2) (tRaiseLowT C W ta) := ps_raise hc tk (pmk_lowT T hr ha hg he hpl)
/-- low.by, low the exception that the suite holds (at a; its class cls, its dict d) -/
def tByLowT (C : Addr) (a : Addr) (cls : Value) (d : Option Addr) (te : TE) : TE := fun σ H Q => te σ H fun x H1 => x = .ref a ∧ cls = .ref C ∧ ∃ (dd : Addr) (v : V), d = some dd ∧ H1 dd = some (.xd [(("what" : Str), v)]) ∧ Q v H1
theorem pe_byLowT {a : Addr} {oe : Obj} {cls : Value} {d : Option Addr} {pn : List (Addr × Obj)} {e : Expr} {te : TE} {pos : Pos} (T : PySem.LowT.LowTxt X.K X.mg C fI) (hz : Zc cls d oe) (hf : ∃ vs, oe.data = .fields vs) (he : PE (X.suite a ((a, oe) :: pn)) e te)
    (hb : attributeBase e "what" X.env (eval e X.env) = eval e X.env := by rfl) :
    PE (X.suite a ((a, oe) :: pn)) (.Attribute e "what" pos) (tByLowT C a cls d te) := by
  refine ⟨fun pins s σ H Q I h => ?_⟩
  refine attr_of hb (thn (he.run pins s σ H _ I h) fun u s1 hh => ?_)
  obtain ⟨x, H1, I1, rx, ex, ec, dd, v, ed, ea, q⟩ := hh
  subst ex
  obtain rfl : u = Value.ref a := rx
  subst ec
  subst ed
  obtain ⟨ha, _⟩ := I1.pin (a, oe) (List.mem_append_left _ List.mem_cons_self)
  obtain ⟨vs, hd⟩ := hf
  have hx : ObjOk X.prog X.w H1 s1.heap dd (.xd [(("what" : Str), v)]) := I1.hok dd _ ea
  obtain ⟨mA, hns, hr⟩ := hx
  obtain ⟨od, ho, hl⟩ := lookIn_ns hns
  have l : List.lookup ("what" : Str) [(("what" : Str), v)] = some v := by simp [List.lookup]
  obtain ⟨u, hu, ru⟩ := RelO.some_of (v := v) (o := mA "what") (by rw [← l]; exact hr "what")
  have J : PySem.W.InstAt s1.heap a oe C (some od) := ⟨ha, hz.1, by unfold PySem.W.notCls; rw [hd] <;> rfl, by rw [hz.2]; exact ho⟩
  exact HandSPX.exc_get I1.kIn J T.ga T.gg T.exC (PySem.W.findObj_own T.hdC T.noN rfl (by rw [hl, hu])) (handed_of ru) ⟨v, H1, I1.tok _, ru, q⟩
end
end L2


/-! Operators of own classes, by values: ==, <, .. by __eq__, __lt__, ..; |, &, - by __or__, ..; in by __contains__; len by __len__. -/
namespace Ow
open PySem PySem.Spec PyProof.Rows L2
section
variable {X : Cx} {CX : CXT} {C g : Addr} {n : Nat} {sp : Sp} {E : XK}
theorem ins_at {pins : List (Addr × Obj)} {σ : L2.St} {H : Hp} {s : Shared} {a C dx : Addr} {fs : List (Str × V)} (I : Inv X pins σ H s) (e : H a = some (.ins C dx fs)) : ∃ ox od, PySem.W.InstAt s.heap a ox C od := by
  obtain ⟨mA, O, _⟩ := ins_get I.hok e
  obtain ⟨od, J, _⟩ := O.look
  exact ⟨_, _, J⟩
/-- x op y by the own def of x's class at C; y's class not below C -/
def rCmp (K : PySem.W.Frag) (C : Addr) (sp : Sp) (E : XK) : R2 := fun x y H Q => ∃ a dx fs t, x = .ref a ∧ H a = some (.ins C dx fs) ∧ TyX K H y t ∧ PySem.W.notFirst K C t = true ∧ sp [x, y] H Q E
theorem op_cmp {op : CmpOp} (hop : ∀ a b, compareOp op a b = richCompare op a b) (hs : PySem.W.findIn X.K (.ref C) (cmpInfo op).2.1 = some (some (.ref g))) (hf : PySem.W.isFn X.K (.ref g) = true) (F : FnR X.prog X.w X.K X.mg X.base CX n g sp)
    (hr : Room n X.A) (hx : Passes CX X E) : OpR X (compareOp op) (rCmp X.K C sp E) := by
  intro pins s σ H x y v u Q I rx ry h
  obtain ⟨a, dx, fs, t, rfl, ha, ty, hn, q⟩ := h
  cases (show v = Value.ref a from rx)
  obtain ⟨ox, od, J⟩ := ins_at I ha
  obtain ⟨P, k, hp, _⟩ := kit_of I ry ty
  obtain ⟨m, hF⟩ := I.fr
  rw [hop]
  refine PySem.W.cmp_K (op := op) (tb := t) hr.units0 hF I.ok.mod.kin J (k.ty _ _ I.kIn hp) hn hs hf ?_
  refine wpAny_mono (wpAny_call (run_fnR (us := [.ref a, u]) (vs := [.ref a, y]) F hr hx I (.cons rfl (.cons ry .nil)) q)) (fun w s' z => ?_) fun _ _ x => x
  obtain ⟨z', H', I', rz, qz⟩ := z
  exact SlX.cmpback rz ⟨z', H', I', rz, qz⟩
/-- x op y, both of the class at C -/
def rBin (C : Addr) (sp : Sp) (E : XK) : R2 := fun x y H Q => ∃ a dx fs b dy gs, x = .ref a ∧ y = .ref b ∧ H a = some (.ins C dx fs) ∧ H b = some (.ins C dy gs) ∧ sp [x, y] H Q E
theorem op_bin {op : Operator} (hc : PySem.W.selfFirst X.K C = true) (hs : PySem.W.findIn X.K (.ref C) (PySem.dunder op.info.2) = some (some (.ref g))) (hf : PySem.W.isFn X.K (.ref g) = true) (F : FnR X.prog X.w X.K X.mg X.base CX n g sp)
    (hr : Room n X.A) (hx : Passes CX X E) : OpR X (binaryOp op) (rBin C sp E) := by
  intro pins s σ H x y v u Q I rx ry h
  obtain ⟨a, dx, fs, b, dy, gs, rfl, rfl, ha, hb, q⟩ := h
  cases (show v = Value.ref a from rx)
  cases (show u = Value.ref b from ry)
  obtain ⟨ox, od, J⟩ := ins_at I ha
  obtain ⟨oy, oe, J'⟩ := ins_at I hb
  obtain ⟨m, hF⟩ := I.fr
  refine PySem.W.binop_K (op := op) hF I.ok.mod.kin J J'.type hc hs hf ?_
  refine wpAny_mono (wpAny_call (run_fnR (us := [.ref a, .ref b]) (vs := [.ref a, .ref b]) F hr hx I (.cons rfl (.cons rfl .nil)) q)) (fun w s' z => ?_) fun _ _ x => x
  obtain ⟨z', H', I', rz, qz⟩ := z
  exact SlX.cmpback rz ⟨z', H', I', rz, qz⟩
/-- y in x, by __contains__ (its answer a bool) -/
def rIn (C : Addr) (sp : Sp) (E : XK) (neg : Bool) : R2 := fun y x H Q => ∃ a dx fs, x = .ref a ∧ H a = some (.ins C dx fs) ∧ sp [x, y] H (fun z H' => ∃ c, z = .bl c ∧ Q (.bl (if neg then !c else c)) H') E
theorem op_in (hs : PySem.W.findIn X.K (.ref C) "__contains__" = some (some (.ref g))) (hf : PySem.W.isFn X.K (.ref g) = true) (F : FnR X.prog X.w X.K X.mg X.base CX n g sp)
    (hr : Room n X.A) (hx : Passes CX X E) : OpR X (compareOp .In) (rIn C sp E false) := by
  intro pins s σ H y x u v Q I ry rx h
  obtain ⟨a, dx, fs, rfl, ha, q⟩ := h
  cases (show v = Value.ref a from rx)
  obtain ⟨ox, od, J⟩ := ins_at I ha
  obtain ⟨m, hF⟩ := I.fr
  refine PySem.W.in_K hF I.ok.mod.kin J hs hf ?_
  refine wpAny_mono (wpAny_call (run_fnR (us := [.ref a, u]) (vs := [.ref a, y]) F hr hx I (.cons rfl (.cons ry .nil)) q)) (fun w s' z => ?_) fun _ _ x => x
  obtain ⟨z', H', I', rz, c, rfl, qz⟩ := z
  cases (show w = Value.bool c from rz)
  exact wpAny_truthy_bool ⟨.bl c, H', I', rfl, qz⟩
theorem op_notIn (hs : PySem.W.findIn X.K (.ref C) "__contains__" = some (some (.ref g))) (hf : PySem.W.isFn X.K (.ref g) = true) (F : FnR X.prog X.w X.K X.mg X.base CX n g sp)
    (hr : Room n X.A) (hx : Passes CX X E) : OpR X (compareOp .NotIn) (rIn C sp E true) := by
  intro pins s σ H y x u v Q I ry rx h
  obtain ⟨a, dx, fs, rfl, ha, q⟩ := h
  cases (show v = Value.ref a from rx)
  obtain ⟨ox, od, J⟩ := ins_at I ha
  obtain ⟨m, hF⟩ := I.fr
  refine PySem.W.notIn_K hF I.ok.mod.kin J hs hf ?_
  refine wpAny_mono (wpAny_call (run_fnR (us := [.ref a, u]) (vs := [.ref a, y]) F hr hx I (.cons rfl (.cons ry .nil)) q)) (fun w s' z => ?_) fun _ _ x => x
  obtain ⟨z', H', I', rz, c, rfl, qz⟩ := z
  cases (show w = Value.bool c from rz)
  exact wpAny_truthy_bool ⟨.bl (!c), H', I', rfl, qz⟩
/-- len(x), by __len__ -/
def rLen (C : Addr) (sp : Sp) (E : XK) : List V → Hp → VK → Prop := fun xs H Q => ∃ a dx fs, xs = [V.ref a] ∧ H a = some (.ins C dx fs) ∧ sp [.ref a] H (fun z H' => ∃ i : Int, z = .int i ∧ 0 ≤ i ∧ i < 2 ^ 63 ∧ Q (.int i) H') E
theorem call_len (hs : PySem.W.findIn X.K (.ref C) "__len__" = some (some (.ref g))) (hf : PySem.W.isFn X.K (.ref g) = true) (F : FnR X.prog X.w X.K X.mg X.base CX n g sp)
    (hr : Room (n + 1) X.A) (hx : Passes CX X E) : CallR X (.builtin "len") (rLen C sp E) := by
  intro pins s σ H xs us Q I r h
  obtain ⟨a, dx, fs, rfl, ha, q⟩ := h
  obtain ⟨u, rfl, ru⟩ := r.one
  cases (show u = Value.ref a from ru)
  obtain ⟨ox, od, J⟩ := ins_at I ha
  obtain ⟨m, hF⟩ := I.fr
  refine PySem.W.len_K hF I.ok.mod.kin J hs hf (wpAny_mono (wpAny_call (SlX.run_at (us := [.ref a]) (ws := [.ref a]) F hr.in1 I.env0.in1 hx I (.cons rfl .nil) q)) (fun w s' z => ?_) fun _ _ x => x)
  obtain ⟨z', H', I', rz, i, rfl, h0, h1, qz⟩ := z
  obtain ⟨t, e⟩ := (show ∃ t, w = Value.int i t from rz)
  cases e
  exact ⟨⟨h0, h1⟩, .int i, H', I'.tok _, ⟨_, rfl⟩, qz⟩
end
end Ow

/-! x op y by the own def of x's class, y of a built-in type; a call that may raise in a try whose suite asks only its own name. -/
namespace Po
open PySem PySem.Spec PyProof.Rows L2
theorem passL {X : Cx} {W : WX} (n : Nat) (hn : X.N.length = n) (tk : Takes X W) : Passes (L2.CX X.prog X.w) X (fun cls d H => ∀ σ : L2.St, σ.length = n → W cls d σ H) :=
  fun _ σ _ _ e s' I c => tk e s' (XE.of_call I (fun _ _ _ h => h σ (I.len.trans hn)) c)
/-- what is asked of the type T on the right -/
structure RT (K : PySem.W.Frag) (op : Operator) (C : Addr) (T : String) : Prop where
  ex : ∃ fo ro : Option Value, PySem.W.findIn K (.type T) (PySem.dunder op.info.2) = some fo ∧ PySem.W.findIn K (.type T) (dunderR op.info.2) = some ro
  sub : PySem.W.subIn K (.type T) (.ref C) = some false
/-- and of the class on the left -/
structure LT (K : PySem.W.Frag) (op : Operator) (C : Addr) : Prop where
  rc : ∃ rc : Option Value, PySem.W.findIn K (.ref C) (dunderR op.info.2) = some rc ∧ (rc = none ∨ ∃ g : Addr, rc = some (.ref g))
  sf : PySem.W.selfFirst K C = true
section
open PySem.W
variable {prog : Program} {w : World} {A : Around} {E : Value → Shared → Prop} {s : Shared} {K : Frag} {x C L f : Addr} {h₀ : Heap} {m : Str → Option Value} {ox : Obj} {od : Option Obj} {T : String}
theorem bin_at {op : Operator} {b : Value} {Q : Value → Shared → Prop} (F : Fr h₀ L s.heap m) (kin : K.In h₀) (I : InstAt s.heap x ox C od) (hb : Looks (model prog w) s.heap (typeOf b) (.type T)) (lt : LT K op C)
    (own : findIn K (.ref C) (PySem.dunder op.info.2) = some (some (.ref f))) (fn : isFn K (.ref f) = true) (rt : RT K op C T)
    (go : wpAny (model prog w) A (call (.ref f) [.ref x, b]) (PySem.W.CmpBack Q) E s) : wpAny (model prog w) A (binaryOp op (.ref x) b) Q E s := by
  have kn := kin.keeps F.keep
  obtain ⟨⟨fo, ro, t1, t2⟩, apart⟩ := rt
  obtain ⟨⟨rc, back, bk⟩, first⟩ := lt
  obtain ⟨cd, rest, ecd, emro⟩ := ksp_first first
  rcases hop : op.info with ⟨sg, nm⟩
  rw [hop] at own back t1 t2
  dsimp only at own back t1 t2
  have tried := ksp_try kn I own fn go
  obtain ⟨hp, gn, dr, tks, oss⟩ := s
  have k1 : Looks (model prog w) hp (typeOf (Value.ref x)) (Value.ref C) := I.type
  have k2 : Looks (model prog w) hp (typeOf b) (Value.type T) := hb
  have k3 : Looks (model prog w) hp (fillsNumberSlot (Value.ref C) nm) true := fills_K kn ecd emro own
  have k4 := ksp_fillsT (M := model prog w) kn t1 t2
  have k5 : Looks (model prog w) hp (isSubtype (Value.type T) (Value.ref C)) false := looks_subIn kn apart
  have k6 : Looks (model prog w) hp (numberSlotInPython (Value.ref C) nm) true := ksp_inPy kn own back bk
  have k7 : Looks (model prog w) hp (numberSlotInPython (Value.type T) nm) false := Looks.of_pure rfl
  have k8 : Looks (model prog w) hp (typeLookup (Value.type T) (dunderR nm)) ro := looks_findIn kn t2
  revert k4
  generalize ((fo.isSome && !isSeqSlot fo) || (ro.isSome && !isSeqSlot ro)) = rgt
  intro k4
  have apart2 : (Value.ref C == Value.type T) = false := by
    cases q : (Value.ref C == Value.type T) with
    | false => rfl
    | true => cases beq_iff_eq.mp q
  simp only [binaryOp, hop]
  apply wpAny_holding
  apply wpAny_bind
  unfold binaryOp1
  refine wpAny_bind (k1.at ?_)
  refine wpAny_bind (k2.at ?_)
  refine wpAny_bind (k3.at ?_)
  simp only [apart2, Bool.false_eq_true, if_false]
  cases rgt <;>
    (ksp_lk
     refine wpAny_mono tried (fun r s' z => ?_) fun _ _ e => e
     obtain ⟨v, rfl, hq⟩ := z
     ksp_lk
     exact hq)
end
section
variable {X : Cx} {CX : CXT} {C g : Addr} {n : Nat} {sp : Sp} {E : XK}
/-- x op y by the own def of x's class at C; y of a built-in type -/
def rBinT (K : PySem.W.Frag) (op : Operator) (C : Addr) (sp : Sp) (E : XK) : R2 := fun x y H Q => ∃ a dx fs T, x = .ref a ∧ H a = some (.ins C dx fs) ∧ TyX K H y (.type T) ∧ RT K op C T ∧ sp [x, y] H Q E
theorem op_binI {op : Operator} (lt : LT X.K op C) (hs : PySem.W.findIn X.K (.ref C) (PySem.dunder op.info.2) = some (some (.ref g))) (hf : PySem.W.isFn X.K (.ref g) = true) (F : FnR X.prog X.w X.K X.mg X.base CX n g sp)
    (hr : Room n X.A) (hx : Passes CX X E) : OpR X (binaryOp op) (rBinT X.K op C sp E) := by
  intro pins s σ H x y v u Q I rx ry h
  obtain ⟨a, dx, fs, T, rfl, ha, ty, rt, q⟩ := h
  cases (show v = Value.ref a from rx)
  obtain ⟨ox, od, J⟩ := Ow.ins_at I ha
  obtain ⟨P, k, hp, _⟩ := kit_of I ry ty
  obtain ⟨m, hF⟩ := I.fr
  refine bin_at hF I.ok.mod.kin J (k.ty _ _ I.kIn hp) lt hs hf rt ?_
  refine wpAny_mono (wpAny_call (run_fnR (us := [.ref a, u]) (vs := [.ref a, y]) F hr hx I (.cons rfl (.cons ry .nil)) q)) (fun w s' z => ?_) fun _ _ x => x
  obtain ⟨z', H', I', rz, qz⟩ := z
  exact SlX.cmpback rz ⟨z', H', I', rz, qz⟩
end
end Po

/-! Comprehensions whose items draw from the bag, told one by one. -/
namespace Lm
open PySem L2 Wm Dv
theorem kt_but {K : PySem.W.Frag} {H H' : Hp} {b : Addr} {n : Nat} (bag : Bag H b n) (e : But b H H') : Kt K H H' := fun a xs q => by
  obtain ⟨c, x, k, m, z, ns, hb, _⟩ := bag
  have ne : ∀ {u : HO}, H a = some u → (∀ y, u ≠ .lst y) → H' a = some u := fun {u} h n => e.keep _ _ (fun z => by subst z; rw [hb] at h; exact n _ (Option.some.inj h).symm) h
  rcases q with (q | ⟨ob, q⟩) | q
  · exact .inl (.inl (ne q fun y z => by cases z))
  · exact .inl (.inr ⟨ob, ne q fun y z => by cases z⟩)
  · exact .inr q
theorem bag_off {H : Hp} {b p : Addr} {n : Nat} (bag : Bag H b n) (h : H p = none) : p ≠ b := fun e => by
  obtain ⟨_, _, _, _, _, _, hb, _⟩ := bag
  rw [e, hb] at h
  cases h
theorem lc_bag {K : PySem.W.Frag} {J : It} {n : Nat} {G : Hp → Prop} {xs : List V} (w : Walk J n G (YAt xs)) {g : TG} {te : TE} {vs : List Nat} {σ : L2.St} {H1 : Hp} {D : Addr} {Qd : Hp → Prop} {b : Addr} {m c : Nat} (R : Nat → V → Hp → Prop)
    (mono : ∀ i y H H', R i y H → Kt K H H' → R i y H') (hD : H1 D = none) (bag : Bag H1 b m) (hn : n ≤ 1000) (hG : ∀ H', But b H1 H' → G H')
    (hs : ∀ i x H', i < n → xs[i]? = some x → But b H1 H' → Bag H' b (m + c * i) → ∀ (Q : V → Hp → Prop) (Z : Hp → Prop), (∀ y H4, But b H' H4 → Bag H4 b (m + c * (i + 1)) → R i y H4 → Q y H4) → g x (wipe σ vs) H' fun σ2 H2 => wipe σ2 vs = wipe σ vs ∧ tYes σ2 H2 fun b H3 => if b = true then te σ2 H3 Q else Z H3)
    (hd : ∀ H ys, But b H1 H → Bag H b (m + c * n) → H D = some (.lst ys) → ys.length = n → (∀ (i : Nat) y, ys[i]? = some y → R i y H) → Qd H) :
    ∃ W : Nat → Nat → Hp → Prop, (∃ m, W 0 m (upd H1 D (.lst []))) ∧ ∀ i m H, W i m H →
      (J.stop i H ∧ Qd H) ∨ (J.go i H ∧ ∃ Nx : Hp → Prop, (∀ H', Nx H' → ∃ m', m' < m ∧ W (i + 1) m' H') ∧ ∀ x H', J.yld i H x H' → g x (wipe σ vs) H' fun σ2 H2 => wipe σ2 vs = wipe σ vs ∧ tYes σ2 H2 fun b H3 =>
        if b = true then te σ2 H3 fun y H4 => ∃ acc, H4 D = some (.lst acc) ∧ acc.length < sizeLine ∧ Nx (upd H4 D (.lst (acc ++ [y]))) else Nx H3) := by
  have db := bag_off bag hD
  refine lc_it (tt := tYes) w (fun i H => But b H1 H ∧ Bag H b (m + c * i) ∧ ∃ ys : List V, ys.length = i ∧ H D = some (.lst ys) ∧ ∀ j y, ys[j]? = some y → R j y H)
    ⟨But.of (same_new hD), (bag.keep (same_new hD)).mono (by omega), [], rfl, upd_same, fun (j : Nat) (y : V) e => by simp at e⟩ (fun i H _ h => hG H h.1) (fun i x H H' hi hP hY => ?_) (fun H hP => ?_)
  · obtain ⟨bt, bg, ys, el, hy, hR⟩ := hP
    obtain ⟨rfl, hx⟩ := hY
    refine hs i x H' hi hx bt bg _ _ (fun y H4 b4 g4 r4 => ?_)
    have hy4 := b4.keep _ _ db hy
    have k5 : Kt K H4 (upd H4 D (.lst (ys ++ [y]))) := Kt.lst hy4
    refine ⟨ys, hy4, by rw [el]; exact small1000 (by omega), (bt.trans b4).put hD, Bag.put bag hD (bt.trans b4) g4, ys ++ [y], by rw [List.length_append, el]; rfl, upd_same, fun j z hz => ?_⟩
    by_cases lj : j < ys.length
    · rw [List.getElem?_append_left lj] at hz
      exact mono _ _ _ _ (hR j z hz) ((kt_but bg b4).trans k5)
    · rw [List.getElem?_append_right (by omega)] at hz
      have e0 : j - ys.length = 0 := by
        by_cases q : j - ys.length = 0
        · exact q
        · rw [List.getElem?_eq_none (by rw [List.length_singleton]; omega)] at hz
          cases hz
      rw [e0] at hz
      have ez : y = z := by simpa using hz
      have ej : j = i := by omega
      subst ez ej
      exact mono _ _ _ _ r4 k5
  · obtain ⟨bt, bg, ys, el, hy, hR⟩ := hP
    exact hd H ys bt bg hy el hR
end Lm

/-! try: .. except A as n: .. except B as m: .. (any number of clauses, each with its name). -/
namespace Ta
open PySem PySem.Spec PyProof.Rows L2
/-- one clause: the class that it names, the slot of its name, what its suite does -/
structure Hd where
  c : Value
  i : Nat
  ts : Addr → Value → Option Addr → TS
/-- behind a suite its name is gone -/
def Off (D : Ends) (i : Nat) : Ends where
  nx σ H := D.nx (σ.set i none) H
  rt := D.rt
  bk σ H := D.bk (σ.set i none) H
  ct σ H := D.ct (σ.set i none) H
/-- what the clauses ask of an exception that comes out of the body -/
def wish (K : PySem.W.Frag) (W : WX) (D : Ends) : List Hd → WX
  | [] => W
  | h :: r => fun cls d σ H => ∃ y, PySem.W.exmOne K cls h.c = some y ∧
      (y = true → ∀ a, H a = none → h.ts a cls d (Off D h.i) (σ.set h.i (some (.ref a))) H) ∧ (y = false → wish K W D r cls d σ H)
inductive Hds (X : Cx) : List ExceptHandler → List Hd → Prop
  | nil : Hds X [] []
  | cons {h : Hd} {x n : Str} {b₀ : Stmt} {rows : List Stmt} {p q : Pos} {hs : List ExceptHandler} {l : List Hd}
      (hi : X.N[h.i]? = some n) (hl : X.env.kindOf n = some .local) (hc : Names X x h.c)
      (hr : ∀ (a : Addr) (oe : Obj) (cls : Value) (d : Option Addr) (pn : List (Addr × Obj)), Zc cls d oe → (∃ vs, oe.data = .fields vs) →
        PSs (X.suite a ((a, oe) :: pn)) (b₀ :: rows) (h.ts a cls d))
      (t : Hds X hs l) : Hds X (.ExceptHandler (some (.Name x p)) (some n) (b₀ :: rows) q :: hs) (h :: l)
section
variable {X : Cx} {body : List Stmt} {hs : List ExceptHandler} {l : List Hd} {pos : Pos} {tb : WX → TS} {W : WX}
/-- how the body's own end is the whole one's -/
theorem calm_end {pins : List (Addr × Obj)} {D : Ends} {xe : Value → Shared → Prop} (ok : X.Ok) {f : Flow} {s : Shared} (h : SP (X.tr (X.pn ++ pins) xe) [] D f s) : SP X pins D f s := by
  cases f with
  | ret u =>
    obtain ⟨v, σ, H, J, r, q⟩ := h
    exact ⟨v, σ, H, J.ofTry ok, r, q⟩
  | next => obtain ⟨σ, H, J, q⟩ := h; exact ⟨σ, H, J.ofTry ok, q⟩
  | brk => obtain ⟨σ, H, J, q⟩ := h; exact ⟨σ, H, J.ofTry ok, q⟩
  | cont => obtain ⟨σ, H, J, q⟩ := h; exact ⟨σ, H, J.ofTry ok, q⟩
/-- an exception has landed at a: the clauses are asked one behind the other -/
theorem asked {pins : List (Addr × Obj)} {D : Ends} {a : Addr} {B h3 : Heap} {sI s' : Shared} {σ : L2.St} {H : Hp} {cls : Value} {d : Option Addr} (stk : X.stack = X.env :: X.outer) (fr : X.env.frame = some X.env.locals) (nd : X.N.Nodup) (tk : Takes X W)
    (J : Inv X pins σ H sI) (nb : ∀ b o, sI.heap.get? b = some o → b ∉ frs X.stack → B.get? b = some o) (up : sI.heap.UpToSlots s'.heap) (up3 : s'.heap.UpToSlots h3) (na : H a = none) (os : s'.os = sI.os) (ag : AllBare s'.gens)
    (fl : HandSPX.FlyingZ B (X.env :: X.outer) a (Zc cls d) h3) : ∀ {hs : List ExceptHandler} {l : List Hd}, Hds X hs l → wish X.K W D l cls d σ H →
    wpAny (model X.prog X.w) X.A (handleBy (.ref a) X.env hs) (SP X pins D) X.xe { s' with heap := h3 } := by
  have free : ∀ {g : Heap} {o : Obj} {vs : Array Value}, HandSPX.FlyingZ B (X.env :: X.outer) a (Zc cls d) g → g.get? a = some o → o.data = .fields vs → a ≠ X.env.locals ∧ a ∉ X.fs := by
    intro g o vs fg eo ed
    have out : a ∉ frs (X.env :: X.outer) := by
      intro m
      obtain ⟨_, o2, e2, no⟩ := fg.2.2.1.mem m
      cases eo.symm.trans e2
      exact no _ ed
    constructor
    · intro z
      exact out (List.mem_filterMap.mpr ⟨X.env, by simp, by rw [fr, z]⟩)
    · intro m
      obtain ⟨e, me, q⟩ := List.mem_filterMap.mp m
      exact out (List.mem_filterMap.mpr ⟨e, by simp [me], q⟩)
  intro hs l hk
  induction hk with
  | nil =>
    intro hW
    obtain ⟨_, _, _, oe, vs, _, _, _, eo, _, ed, e1, _⟩ := id fl
    refine wpAny_handleBy_nil ?_
    have out : wpAny (model X.prog X.w) X.A (setFlight (.ref a) X.env.frame) (fun _ t => wpAny (model X.prog X.w) X.A (throw (.ref a) : Sem Flow) (SP X pins D) X.xe t) X.xe { s' with heap := h3 } := by
      rw [fr]
      refine HandSPX.setFlight_upZ fl fun g hg ug => ?_
      have sky : Sky B X.stack a (Zc cls d) X.env.locals g := by
        rw [stk]
        exact .inr (.inr hg)
      exact wpAny_throw (tk _ _ ⟨a, B, sI, pins, σ, H, cls, d, rfl, J, nb, (up.trans up3).trans ug, sky, na, os, ag, hW⟩)
    unfold PySem.passOn
    refine wpAny_bind (wpAny_field eo ed e1 ?_)
    rw [if_neg (by simp)]
    first
      | exact wpAny_bind out
      | exact wpAny_bind (wpAny_pure (wpAny_bind out))
  | @cons h x n b₀ rows p q hs l hi hl hc hr t ih =>
    rintro ⟨y, ey, yes, no⟩
    obtain ⟨oe, vs, eo, ez, ed⟩ := fl.there
    obtain ⟨n1, n2⟩ := free fl eo ed
    have J3 := J.landed nb fl.1 (s' := { s' with heap := h3 }) (up.trans up3) os ag
    have S3 := J3.suite eo ed na n1 n2
    have kind : PySem.W.Looks (model X.prog X.w) h3 (typeOf (.ref a)) cls := by
      intro A Q E z k q
      refine wpAny_typeOf_ref (k _ _ eo) ?_
      rw [ez.1]
      exact q
    have one := PySem.W.exm_one (M := model X.prog X.w) J3.kIn kind ey
    refine wpAny_handleBy_cons (codeAny_handlers_test ?_) (by intro z; cases z)
    have name : ∀ {Q E : Value → Shared → Prop}, Q h.c { s' with heap := h3 } → wpAny (model X.prog X.w) (X.A.mark (some (.ref a))) (eval (.Name x p) X.env) Q E { s' with heap := h3 } := by
      intro Q E qq
      rcases hc with ⟨g1, g2, g3 | ⟨g3, g4, g5⟩⟩
      · exact ld_glob (X := X.suite a ((a, oe) :: (X.pn ++ pins))) S3 g1 g3 qq g2
      · exact ld_blt (X := X.suite a ((a, oe) :: (X.pn ++ pins))) S3 g1 g3 g4 qq g5 g2
    refine name (one.here ?_)
    cases y with
    | false => exact ih (no rfl)
    | true =>
      refine codeAny_handlers_suite_as ?_
      refine HandSPX.lands_againZ fl fun g fg ug => ?_
      obtain ⟨oe2, vs2, eo2, ez2, ed2⟩ := fg.there
      obtain ⟨m1, m2⟩ := free fg eo2 ed2
      have J4 := J.landed nb fg.1 (s' := { s' with heap := g }) ((up.trans up3).trans ug) os ag
      refine store_ok (X := X.suite a ((a, oe2) :: (X.pn ++ pins))) (v := .ref a) (J4.suite eo2 ed2 na m1 m2) nd hi (.inl hl) rfl (fun s5 S5 => ?_) (.inr hl)
      have body := (hr a oe2 cls d (X.pn ++ pins) ez2 ⟨_, ed2⟩).run [] s5 _ H _ S5 (yes rfl a na)
      refine wpAny_mono body (fun f s6 end6 => ?_) fun _ _ z => z.elim
      have ok := J.ok
      cases f with
      | ret u =>
        obtain ⟨v6, σ6, H6, S6, r6, q6⟩ := end6
        exact gone_ok (S6.unsuite ok) nd hi hl fun s7 J7 => ⟨_, _, _, J7, r6, q6⟩
      | next =>
        obtain ⟨σ6, H6, S6, q6⟩ := end6
        exact gone_ok (S6.unsuite ok) nd hi hl fun s7 J7 => ⟨_, _, J7, q6⟩
      | brk =>
        obtain ⟨σ6, H6, S6, q6⟩ := end6
        exact gone_ok (S6.unsuite ok) nd hi hl fun s7 J7 => ⟨_, _, J7, q6⟩
      | cont =>
        obtain ⟨σ6, H6, S6, q6⟩ := end6
        exact gone_ok (S6.unsuite ok) nd hi hl fun s7 J7 => ⟨_, _, J7, q6⟩
theorem ps_try_ass {h₀ : ExceptHandler} {h1 : Hd} (stk : X.stack = X.env :: X.outer) (fr : X.env.frame = some X.env.locals) (nd : X.N.Nodup) (tk : Takes X W)
    (hb : ∀ (U : WX) (pn : List (Addr × Obj)) (xe : Value → Shared → Prop), Takes (X.tr pn xe) U → PassesOwn (model X.prog X.w) X.A X.env xe → PSs (X.tr pn xe) body (tb U))
    (hh : Hds X (h₀ :: hs) (h1 :: l)) : PS X (.Try body (h₀ :: hs) [] [] pos) (fun D σ H => tb (wish X.K W D (h1 :: l)) D σ H) := by
  constructor
  intro pins s σ H D I go
  have ok := I.ok
  refine wpAny_Try_except ?_
  have run := (hb (wish X.K W D (h1 :: l)) (X.pn ++ pins) (fun e t1 => wpAny (model X.prog X.w) X.A (noteFrame e X.env) (fun _ t2 =>
    wpAny (model X.prog X.w) X.A (setFlight e none) (fun _ t3 => wpAny (model X.prog X.w) X.A (handleBy e X.env (h₀ :: hs)) (SP X pins D) X.xe t3) X.xe t2) X.xe t1) ?_ PassesOwn.looking).run [] s σ H D (I.toTry _) go
  · refine wpAny_mono run (fun f s1 e1 => ?_) fun _ _ z => z
    have e2 := calm_end ok e1
    cases f with
    | next => exact wpAny_execs_nil e2
    | ret u => exact e2
    | brk => exact e2
    | cont => exact e2
  · intro u s' xx
    obtain ⟨a, B, sI, pins2, σ', H', cls, d, rfl, J', nb, up, sky, na, os, ag, hw⟩ := xx
    have sky2 : Sky B (X.env :: X.outer) a (Zc cls d) X.env.locals s'.heap := by
      rw [← stk]
      exact sky
    show wpAny (model X.prog X.w) X.A (noteFrame (.ref a) X.env) _ _ _
    exact Sky.land Zc.steady (by rw [ok.frames, stk]) fr sky2 fun h3 fl up3 => asked stk fr nd tk (J'.ofTry ok) nb up up3 na os ag fl hh hw
end
end Ta

/-! isinstance of a caught error with a dict of its own; == over data without dicts; text * int. -/
namespace Xe
open PySem PySem.Spec PyProof.Rows L2
/-- isinstance(e, c), e the error of the class at C that the suite holds, with its own dict -/
def rIsD (K : PySem.W.Frag) (C a : Addr) (cls : Value) (d : Option Addr) : List V → Hp → VK → Prop := fun xs H Q => ∃ (c : V) (cv : Value) (b : Bool) (dd : Addr) (fs : List (Str × V)), xs = [.ref a, c] ∧ cls = .ref C ∧ d = some dd ∧ H dd = some (.xd fs) ∧ (∀ u, RelV c u → u = cv) ∧
  PySem.W.kitOne K (.ref C) cv = some b ∧ Q (.bl b) H
theorem call_isD {X : Cx} {a C : Addr} {oe : Obj} {cls : Value} {d : Option Addr} {pn : List (Addr × Obj)} (EC : ExcC X.K C) (hcl : (PySem.W.clsIn X.K C).isSome = true) (hz : Zc cls d oe) (hf : ∃ vs, oe.data = .fields vs) : CallR (X.suite a ((a, oe) :: pn)) (.builtin "isinstance") (rIsD X.K C a cls d) := by
  intro pins s σ H xs us Q I r h
  obtain ⟨c, cv, b, dd, fs, rfl, ec, ed, hH, hcv, e, q⟩ := h
  subst ec ed
  cases r with
  | cons rx rr =>
    cases rr with
    | cons rt rr =>
      cases rr
      cases rx
      have ec := hcv _ rt
      subst ec
      obtain ⟨hget, _⟩ := I.pin (a, oe) (List.mem_append.mpr (.inl List.mem_cons_self))
      obtain ⟨vs, hd⟩ := hf
      have hx : ObjOk X.prog X.w H s.heap dd (.xd fs) := I.hok dd _ hH
      obtain ⟨mA, hns, hr⟩ := hx
      obtain ⟨od, ho, hl⟩ := lookIn_ns hns
      have J : PySem.W.InstAt s.heap a oe C (some od) := ⟨hget, hz.1, by unfold PySem.W.notCls; rw [hd] <;> rfl, by rw [hz.2]; exact ho⟩
      exact PySem.W.kia_one (PySem.W.kitx_exc hcl EC.hg EC.hk EC.hs EC.ha EC.hn EC.ht EC.hm) I.kIn J e (fun z => nomatch z) fun tk => ⟨.bl b, H, I.kept (t' := tk) fun _ _ z => z, rfl, q⟩
section
variable {X : Cx}
/-- None != None, (True, t) != (True, t): both answers the same -/
def rNe2 (K : PySem.W.Frag) : R2 := fun x y H Q => (x = .non ∧ y = .non ∧ Q (.bl false) H) ∨ ∃ p q t, x = .ref p ∧ y = .ref q ∧ SqT K H p [.bl true, .str t] ∧ SqT K H q [.bl true, .str t] ∧ Q (.bl false) H
theorem op_ne2 (hu : X.A.units + 64 < cLine) : OpR X (compareOp .NotEq) (rNe2 X.K) := by
  intro pins s σ H x y v u Q I rx ry h
  rcases h with ⟨rfl, rfl, q⟩ | ⟨p, q, t, rfl, rfl, hp, hq, h⟩
  · cases rx
    cases ry
    exact (PySem.SeqAt.RcNeAt.none_none (A := X.A) (s := s)) X.prog X.w X.xe _ ⟨.bl false, H, I, rfl, q⟩
  · cases rx
    cases ry
    obtain ⟨its, r1, p1, _⟩ := I.tuple hp
    obtain ⟨its2, r2, p2, _⟩ := I.tuple hq
    cases r1 with
    | cons a1 b1 =>
    cases b1 with
    | cons a2 b2 =>
    cases b2
    cases r2 with
    | cons c1 d1 =>
    cases d1 with
    | cons c2 d2 =>
    cases d2
    cases a1
    cases c1
    obtain ⟨k1, rfl⟩ := a2
    obtain ⟨k2, rfl⟩ := c2
    have e := PySem.SeqAt.RcNeAt.tuples (A := X.A) (s := s) (e := fun _ => true) p1 p2 (by omega) (fun j h1 h2 => by
      have hj : j = 0 ∨ j = 1 := by
        have : j < 2 := h1
        omega
      rcases hj with rfl | rfl
      · have := PySem.SeqAt.EqAt.bool_bool (A := X.A.in1) (s := s) true true
        simpa using this
      · have := PySem.SeqAt.EqAt.str_str (A := X.A.in1) (s := s) t k1 t k2
        simpa using this)
    exact e X.prog X.w X.xe _ ⟨.bl false, H, I, rfl, h⟩
/-- == of data without dicts -/
def rEqP (K : PySem.W.Frag) : R2 := fun x y H Q => ∃ d e, Dp K H x d ∧ Dp K H y e ∧ d.plain = true ∧ e.plain = true ∧ d.depth ≤ 60 ∧ Q (.bl (PyData.eqv d e)) H
theorem op_eqP (hu : X.A.units + 64 < cLine) : OpR X (compareOp .Eq) (rEqP X.K) := by
  intro pins s σ H x y v u Q I rx ry h
  obtain ⟨d, e, hd, he, sd, se, hz, q⟩ := h
  obtain ⟨as, r1⟩ := Dp.reads I d x v hd rx
  obtain ⟨bs, r2⟩ := Dp.reads I e y u he ry
  exact PySem.SeqAt.rcAt_plain r1 r2 sd se (by have : min d.depth e.depth ≤ d.depth := Nat.min_le_left _ _; omega) X.prog X.w X.xe _ ⟨.bl _, H, I, rfl, q⟩
/-- a sign times a number -/
def rMul1 : R2 := fun x y H Q => ∃ (c n : Nat), x = .str ⟨#[c]⟩ ∧ y = .int (n : Nat) ∧ 1 ≤ n ∧ n ≤ 1000 ∧ Q (.str ⟨(List.replicate n c).toArray⟩) H
theorem rep_fold (c : Nat) : ∀ (n : Nat) (acc : Array Nat), ((List.replicate n #[c]).foldl (· ++ ·) acc).toList = acc.toList ++ List.replicate n c
  | 0, acc => by simp
  | n + 1, acc => by
    rw [List.replicate_succ, List.foldl_cons, rep_fold c n, Array.toList_append, List.replicate_succ, List.append_assoc]
    rfl
theorem mul_one (c n : Nat) (h : 1 ≤ n) : Txt.mul ⟨#[c]⟩ ((n : Nat) : Int) = ⟨(List.replicate n c).toArray⟩ := by
  unfold Txt.mul
  rw [if_neg (by omega)]
  refine TL.ext_tl ?_
  show ((if _ then (⟨#[c]⟩ : Str) else _) : Str).cps.toList = List.replicate n c
  by_cases z : n = 1
  · subst z
    rfl
  · rw [if_neg (by
      intro q
      rcases Bool.or_eq_true_iff.mp q with q | q
      · have := eq_of_beq q
        omega
      · cases q)]
    rw [Int.toNat_natCast]
    show ((List.replicate n #[c]).foldl (· ++ ·) #[]).toList = _
    rw [rep_fold]
    rfl
theorem op_mul1 : OpR X (binaryOp .Mult) rMul1 := by
  intro pins s σ H x y v u Q I rx ry h
  obtain ⟨c, n, rfl, rfl, h1, h2, q⟩ := h
  obtain ⟨t, rfl⟩ := rx
  obtain ⟨t', rfl⟩ := ry
  refine PySem.SB.mul (x := ⟨#[c]⟩) (n := ((n : Nat) : Int)) ⟨?_, fun _ _ => ?_, fun _ _ => ?_⟩ fun t2 k => ?_
  · rw [decide_eq_false (by omega), decide_eq_false (by omega)]
    rfl
  · show ¬ ((1 : Nat) : Int) > (2 ^ 63 - 1) / ((n : Nat) : Int)
    have : (1 : Int) ≤ (2 ^ 63 - 1) / ((n : Nat) : Int) := Int.le_ediv_of_mul_le (by omega) (by omega)
    omega
  · show PySem.Builtin.Str.tooLong (1 * ((n : Nat) : Int).toNat) = false
    rw [Int.toNat_natCast, Nat.one_mul]
    have h3 : (1000 : Nat) ≤ sizeLine := by decide
    exact decide_eq_false (by omega)
  · rw [mul_one c n h1]
    exact ⟨.str _, H, I.tok _, ⟨_, rfl⟩, q⟩
end
end Xe

/-! repr of data, and defs that are called where no repr is under way. -/
namespace Rp
open PySem PySem.Spec PyProof.Rows L2
section
variable {X : Cx}
def rRepr (K : PySem.W.Frag) : List V → Hp → VK → Prop := fun xs H Q => ∃ x d, xs = [x] ∧ Dp K H x d ∧ d.showable = true ∧ d.hasDict = false ∧ d.depth ≤ 60 ∧ d.shown.length ≤ sizeLine ∧ Q (.str d.shown) H
theorem call_reprD (hg : X.A.guards = some []) (hu : X.A.units + 64 < cLine) : CallR X (.builtin "repr") (rRepr X.K) := by
  intro pins s σ H xs us Q I r h
  obtain ⟨x, d, rfl, hd, hs, hn, hz, hl, q⟩ := h
  cases r with
  | cons rx rn =>
    cases rn
    obtain ⟨as, rd⟩ := Dp.reads I d x _ hd rx
    cases rd with
    | none => exact PySem.P.repr_of_none ⟨.str _, H, I.tok _, ⟨_, rfl⟩, q⟩
    | bool b => exact PySem.P.repr_of_bool ⟨.str _, H, I.tok _, ⟨_, rfl⟩, q⟩
    | int i t => exact PySem.P.repr_of_int (of_decide_eq_true hs) ⟨.str _, H, I.tok _, ⟨_, rfl⟩, q⟩
    | str z t => exact PySem.P.repr_of_str (hsz := hl) ⟨.str _, H, I.tok _, ⟨_, rfl⟩, q⟩
    | list h1 h2 h3 h4 =>
      exact PySem.repr_of_reads' (.list h1 h2 h3 h4) hs (fun e => by rw [hn] at e; cases e) hg (by omega) (fun _ _ e => e) (fun g u tk k => ⟨.str _, H, I.kept (t' := tk) k, ⟨_, rfl⟩, q⟩) hl
    | tuple h1 h2 h3 h4 =>
      exact PySem.repr_of_reads' (.tuple h1 h2 h3 h4) hs (fun e => by rw [hn] at e; cases e) hg (by omega) (fun _ _ e => e) (fun g u tk k => ⟨.str _, H, I.kept (t' := tk) k, ⟨_, rfl⟩, q⟩) hl
    | dict => cases hd
end
/-- as FnOk, where no repr is under way -/
structure GOk (P : Program) (w : World) (K : PySem.W.Frag) (mg : Str → Option Value) (base : Heap) (CX : CXT) (k : Nat) (f : Addr) (fd : FuncData) (ps : List Str) (sp : Sp) : Prop where
  len : ∀ vs H Q E, sp vs H Q E → vs.length = ps.length
  run : ∀ (A : Around) (outer : List Env) (s : Shared) (H : Hp) (args : Args) (us : List Value) (vs : List V) (Q : VK) (E : XK), Room k A → A.guards = some [] → Env0 P w K mg base A outer s H → BindsTo s fd args (ps.zip us) → Vals vs us → sp vs H Q E →
    codeAny (model P w) A (.call (.ref f) args) (CR CX outer P w H s Q E) s
section
variable {CX : CXT} {P : Program} {w : World} {K : PySem.W.Frag} {mg : Str → Option Value} {base : Heap} {k : Nat} {f : Addr} {fd : FuncData} {ps : List Str} {sp : Sp}
theorem GOk.of (F : FnOk P w K mg base CX k f fd ps sp) : GOk P w K mg base CX k f fd ps sp := ⟨F.len, fun A outer s H args us vs Q E hr _ => F.run A outer s H args us vs Q E hr⟩
theorem GOk.mono {j : Nat} (F : GOk P w K mg base CX j f fd ps sp) (h : j ≤ k) : GOk P w K mg base CX k f fd ps sp := ⟨F.len, fun A outer s H args us vs Q E hr => F.run A outer s H args us vs Q E (hr.mono h)⟩
theorem gfn_of {name qual : Str} {params : Arguments} {body : List Stmt} {scope : Scope} {dV kV doc pm cdv ct oc : Value} {an od : Option Addr} {osl : Array (Option Value)} {N : List Str}
    (lk : K.lookup f = some ⟨oc, od, .func (PySem.W.fnOf name qual params body scope dV kV doc pm an cdv ct), osl⟩) (hcd : PySem.W.codeIn K cdv qual = true) (S : FnScope N ps scope)
    (len : ∀ vs H Q E, sp vs H Q E → vs.length = ps.length)
    (hbody : ∀ (A : Around) (outer : List Env) (s : Shared) (H : Hp) (vs : List V) (Q : VK) (E : XK), A.guards = some [] → Room k (A.deeper (envOfC qual scope s.heap.objs.size f cdv)) → sp vs H Q E →
      ∃ t, PSs (cxOf CX P w K mg base N qual scope f cdv A outer s H E) body t ∧ t { nx := fun _ H' => Q .non H', rt := Q } (start N vs) H) :
    GOk P w K mg base CX (k + 1) f (PySem.W.fnOf name qual params body scope dV kV doc pm an cdv ct) ps sp := by
  refine ⟨len, fun A outer s H args us vs Q E hr hg e0 hb r hsp => ?_⟩
  have nl := len _ _ _ _ hsp
  have old : ∀ b o, base.get? b = some o → s.heap.get? b = some o := fun b o e => (e0.bs b o e).1
  have KX : K.In s.heap := e0.mod.kin.keeps old
  have lim : s.heap.NoLimit := e0.mod.nolimit.keeps old
  have kinds : ∀ y ∈ ps.zip us, scope.names.lookup y.1 = some .local ∨ (scope.names.lookup y.1 = some .cell ∧ ((cellsFrom (s.heap.objs.size + 1) scope.names []).lookup y.1).isSome = true) := fun ⟨n, v⟩ hy =>
    (S.par n (List.of_mem_zip hy).1).imp id fun q => ⟨q, PySem.W.cellsFrom_some _ _ _ (.inl q)⟩
  refine codeAny_call_function hr.depth (KX _ _ lk) rfl S.co S.gen rfl (PySem.W.codeRec_of KX hcd) (hb _ _ _ _ ?_)
  refine wpAny_newFunctionEnv_cells S.kind kinds fun env ee s1 x => ?_
  subst ee
  refine ⟨lim.keeps x.toInCall.keep, codeAny_func ?_⟩
  obtain ⟨t, ht, hq⟩ := hbody A outer s H vs Q E hg (hr.deeper _) hsp
  have I0 : Inv (cxOf CX P w K mg base N qual scope f cdv A outer s H E) [] (start N vs) H s1 := inv_start S hr.hd e0 nl r x
  refine wpAny_mono (ht.run [] s1 (start N vs) H _ I0 hq) (fun fl s' hs => ?_) fun e s' hs => hs
  cases fl with
  | ret u =>
    obtain ⟨v, σ', H', J, rv, q⟩ := hs
    exact ⟨v, H', J.os, J.bare, J.base, J.hok, rv, q⟩
  | next =>
    obtain ⟨σ', H', J, q⟩ := hs
    exact ⟨V.non, H', J.os, J.bare, J.base, J.hok, rfl, q⟩
  | brk =>
    obtain ⟨_, _, _, q⟩ := hs
    exact q.elim
  | cont =>
    obtain ⟨_, _, _, q⟩ := hs
    exact q.elim
theorem gok {x qual : Str} {st : Stmt} {N : List Str} (F : Fun K x qual st f fd) (S : FnScope N ps (defScope st)) (len : ∀ vs H Q E, sp vs H Q E → vs.length = ps.length)
    (hbody : ∀ (cdv : Value) (A : Around) (outer : List Env) (s : Shared) (H : Hp) (vs : List V) (Q : VK) (E : XK), A.guards = some [] → Room k (A.deeper (envOfC qual (defScope st) s.heap.objs.size f cdv)) → sp vs H Q E →
      ∃ t, PSs (cxOf CX0 P w K mg base N qual (defScope st) f cdv A outer s H E).nox (defBody st) t ∧ t { nx := fun _ H' => Q .non H', rt := Q } (start N vs) H) : GOk P w K mg base CX0 (k + 1) f fd ps sp := by
  obtain ⟨oc, od, kV, doc, pm, an, cdv, ct, osl, rfl, lk, hcd⟩ := F.ex
  refine gfn_of lk hcd S len fun A outer s H vs Q E hg hr hsp => ?_
  obtain ⟨t, h, q⟩ := hbody cdv A outer s H vs Q E hg hr hsp
  exact ⟨t, h.nox, q⟩
end
section
variable {X : Cx} {CX : CXT} {k : Nat} {f : Addr} {fd : FuncData} {ps : List Str} {sp : Sp} {E : XK} {ds : List Value} {dvs : List V} {x : Str} {e : Expr} {es : List Expr} {t : TA} {p pos : Pos}
theorem pe_gcall (F : GOk X.prog X.w X.K X.mg X.base CX k f fd ps sp) (gd : X.A.guards = some []) (hr : Room k X.A) (hg : Gl X x) (hm : X.mg x = some (.ref f)) (hk : PySem.W.keepIn X.K (.ref f) = true) (hb : Binds X.K fd ps ds) (hd : Vals dvs ds) (hx : Passes CX X E)
    (ha : PA X (e :: es) t) (hdb : (x == ("__debug__" : Str)) = false := by decide) (he : starEach (e :: es) X.env = (false, eval e X.env) :: starEach es X.env := by rfl) (hpl : (backTo pos (starEach es X.env)).any (·.1) = false := by rfl) :
    PE X (.Call (.Name x p) (e :: es) [] pos) (tCall sp dvs E t) := by
  refine ⟨fun pins s σ H Q I h => ?_⟩
  refine wpAny_Call_Name_kw (ld_glob I hg hm ?_ hdb)
  refine PySem.W.callWith_K (h₀ := X.base) I.ok.mod.kin hk (thn (ha.run pos pins s σ H _ I h) fun us s1 ⟨vs, H1, I1, r, q⟩ => ⟨I1.kIn, ?_⟩) he hpl
  have r2 : Vals (vs ++ dvs) (us ++ ds) := r.append hd
  have nl : (us ++ ds).length = ps.length := r2.length.symm.trans (F.len _ _ _ _ q)
  refine wpAny_call (codeAny_mono (F.run X.A X.stack s1 H1 ⟨us, []⟩ (us ++ ds) (vs ++ dvs) Q E hr gd I1.env0 (hb s1 us I1.kIn nl) r2 q) fun res s' hq => ?_)
  cases res with
  | error z => exact hx pins σ H1 s1 z s' I1 hq
  | ok fl =>
    cases fl with
    | ret u => exact I1.after hq
    | next => exact hq.elim
    | brk => exact hq.elim
    | cont => exact hq.elim
end
end Rp

/-! The law's own call, of a def that is called where no repr is under way. -/
namespace Rp
open PySem PySem.Spec PyProof.Rows L2
theorem law_gcall {P : Program} {w : World} {K : PySem.W.Frag} {mg mb : Str → Option Value} {CX : CXT} {k : Nat} {fa a : Addr} {fd : FuncData} {x : Str} {sp : Sp} {s1 : Shared} {vs : List Value} {ns : List Int}
    (KX : K.In s1.heap) (hns : s1.heap.Ns mainGlobals mg) (hb : s1.heap.Ns builtinsNs mb) (hbb : ∀ y : Str, y ≠ "__name__" → mb y = bootBuiltins y) (lim : s1.heap.NoLimit) (gens : s1.gens = #[])
    (ha : s1.heap.get? a = some { cls := .type "list", data := .seq vs.toArray }) (hi : IntsAre vs ns) (hl : ns.length ≤ sizeLine) (hr : Room k callerA)
    (F : ∀ base : Heap, K.In base → base.Ns mainGlobals mg → GOk P w K mg base CX k fa fd [x] sp) (hbind : ∀ (s : Shared) (u : Value), BindsTo s fd ⟨[u], []⟩ [(x, u)])
    (hsp : ∀ H : Hp, Only H → SqL K H a (ns.map V.int) → sp [.ref a] H (fun v _ => v = .bl true) fun _ _ _ => False)
    (hCX : ∀ H e t, CX [] H s1 (fun _ _ _ => False) e t → False) :
    codeAny (model P w) callerA (.call (.ref fa) ⟨[.ref a], []⟩) (fun r t => r = .ok (.ret (.bool true)) ∧ OldK s1.heap t.heap ∧ t.os = s1.os ∧ AllBare t.gens) s1 := by
  have rv := vals_ints hi
  have nv := hi.length
  have go : ∀ H : Hp, Only H → SqL K H a (ns.map V.int) → HOk P w H s1.heap → (∀ b, H b ≠ none → b = a) → (H a ≠ none → K.lookup a = none) →
      codeAny (model P w) callerA (.call (.ref fa) ⟨[.ref a], []⟩) (fun r t => r = .ok (.ret (.bool true)) ∧ OldK s1.heap t.heap ∧ t.os = s1.os ∧ AllBare t.gens) s1 := by
    intro H hO hS hok only_a noK
    have hid : ∀ {b : Addr} {o : Obj}, s1.heap.get? b = some o → H b = none → (hidT s1.heap H).get? b = some o := fun e n => hidT_get e n
    have dictFree : ∀ {b : Addr} {o : Obj} {es : Array DictEntry} {ep : Nat}, s1.heap.get? b = some o → o.data = .dict es ep → H b = none := fun {b o es ep} e d => by
      cases q : H b with
      | none => rfl
      | some u =>
        have eb : b = a := only_a b (by rw [q]; simp)
        subst eb
        rw [ha] at e
        cases e
        have d2 : Data.seq vs.toArray _ = Data.dict es ep := d
        cases d2
    have nsOf : ∀ {b : Addr} {m : Str → Option Value}, s1.heap.Ns b m → (hidT s1.heap H).Ns b m := fun {b m} ⟨o, es, ep, e, d, r⟩ => ⟨o, es, ep, hid e (dictFree e d), d, r⟩
    have inB : K.In (hidT s1.heap H) := fun b o e => hid (KX b o e) (by
      cases q : H b with
      | none => rfl
      | some u =>
        have eb : b = a := only_a b (by rw [q]; simp)
        subst eb
        rw [noK (by rw [q]; simp)] at e
        cases e)
    have md : Mod K mg (hidT s1.heap H) := ⟨inB, nsOf hns, ⟨mb, nsOf hb, hbb⟩, let ⟨mc, c1, c2⟩ := lim; ⟨mc, nsOf c1, c2⟩⟩
    have e0 : Env0 P w K mg (hidT s1.heap H) callerA [] s1 H := ⟨rfl, md, fun b o e => of_hidT e, Nat.le_of_eq (hidT_size _ _), trivial, fun b hb => absurd (show b ∈ ([] : List Addr) from hb) (by simp), hok, .of_eq gens⟩
    refine codeAny_mono ((F _ inB (nsOf hns)).run callerA [] s1 H ⟨[.ref a], []⟩ [.ref a] [.ref a] _ _ hr rfl e0 (hbind s1 (.ref a)) (.cons rfl .nil) (hsp H hO hS)) fun r t h => ?_
    cases r with
    | error e => exact (hCX H e t h).elim
    | ok fl =>
      cases fl with
      | next => exact h.elim
      | brk => exact h.elim
      | cont => exact h.elim
      | ret u =>
        obtain ⟨v, H', os, bare, un, hok', r', q⟩ := h
        have q' : v = .bl true := q
        subst q'
        obtain rfl : u = Value.bool true := r'
        refine ⟨rfl, OldK.of_keep fun b o e => ?_, os, bare⟩
        cases q : H b with
        | none => exact un.keep b o e q (by intro z; exact absurd (show b ∈ ([] : List Addr) from z) (by simp)) (by simp)
        | some u =>
          rcases hO b with z | ⟨ob, xs, z⟩
          · rw [q] at z
            cases z
          · have z2 := un.frzs b ob _ z
            obtain ⟨e1, _⟩ := hok b _ z
            obtain ⟨e2, _⟩ := hok' b _ z2
            rw [e] at e1
            cases e1
            exact e2
  cases hk : K.lookup a with
  | some o =>
    have e := KX a o hk
    rw [ha] at e
    cases e
    refine go (fun _ => none) (fun _ => .inl rfl) (.inr ⟨_, vs.toArray, _, hk, rfl, rfl, rfl, by rw [List.size_toArray, nv]; exact hl, by simpa using rv⟩) (fun b u z => by have z' : (none : Option HO) = some u := z; cases z') (fun b z => absurd rfl z) fun z => absurd rfl z
  | none =>
    refine go (fun b => if b = a then some (.frz { cls := .type "list", data := .seq vs.toArray } (.lst (ns.map V.int))) else none) (fun b => ?_) (.inl (.inr ⟨{ cls := .type "list", data := .seq vs.toArray }, if_pos rfl⟩)) (fun b u z => ?_) (fun b z => ?_) fun _ => hk
    · by_cases c : b = a
      · exact .inr ⟨_, _, if_pos c⟩
      · exact .inl (if_neg c)
    · by_cases c : b = a
      · have z' := (if_pos c).symm.trans z
        cases z'
        subst c
        exact ⟨ha, by rw [List.length_map]; exact hl, vs, _, rv, ha⟩
      · have z' := (if_neg c).symm.trans z
        cases z'
    · by_cases c : b = a
      · exact c
      · exact absurd (if_neg c) z
theorem walk_gof {l : PySem.W.OpenLaw} {n k : Nat} {q : Program} {loose : List Str} {XP : (Str → Option Value) → Heap → Prop} {YP : World → Heap → Prop} {d : DefRec} {K : Params → PySem.W.Frag} {CX : World → CXT} {sp : World → Sp} {x : Str}
    (hn : l.most = some n) (hn2 : n ≤ sizeLine) (hdf : d.params.defaults = []) (hr : Room k callerA)
    (hY : ∀ (w : World) (h : Heap), YP w h → (K w.params).In h)
    (F : ∀ (w : World) (mg : Str → Option Value) (fa : Addr) (h : Heap), (K w.params).In h → h.Ns mainGlobals mg → mg d.name = some (.ref fa) →
      ∃ fd : FuncData, (∀ (s : Shared) (u : Value), BindsTo s fd ⟨[u], []⟩ [(x, u)]) ∧
        ∀ base : Heap, (K w.params).In base → base.Ns mainGlobals mg → GOk l.prog w (K w.params) mg base (CX w) k fa fd [x] (sp w))
    (hsp : ∀ (w : World) (H : Hp) (a : Addr) (ns : List Int), ns.length ≤ n → Only H → SqL (K w.params) H a (ns.map V.int) → sp w [.ref a] H (fun v _ => v = .bl true) fun _ _ _ => False)
    (hCX : ∀ (w : World) (H : Hp) (s : Shared) (e : Value) (t : Shared), CX w [] H s (fun _ _ _ => False) e t → False) :
    PySem.W.WalkO q loose XP YP l.row.toRowW d [] (fun f vs => PySem.call f vs) := by
  refine Att.attach_call hn hdf fun w s0 s1 mg mb fa o pm cd doc a vs ns G Y ho hd hcd hmg hobj hints hlen hg => ?_
  have KX := hY w _ Y
  obtain ⟨fd, hb, hF⟩ := F w mg fa _ KX G.T.g hmg
  exact law_gcall KX G.T.g G.T.b G.T.builtins G.T.nolimit hg hobj hints (Nat.le_trans hlen hn2) hr hF hb (fun H hO hS => hsp w H a ns hlen hO hS) fun H e t => hCX w H s1 e t
end Rp

/-! A method with keywords alone; a def that may raise, where it does not. -/
namespace Mk1
open PySem PySem.Spec PyProof.Rows L2
theorem passF {X : Cx} : Passes (L2.CX X.prog X.w) X (fun _ _ _ => False) := by
  intro pins σ H s e s' I h
  obtain ⟨_, _, _, _, _, _, _, _, _, _, _, _, z⟩ := h
  exact z.elim
section
variable {X : Cx} {CX : CXT} {k : Nat} {f C : Addr} {fd : FuncData} {ps ks : List Str} {sp : Sp} {E : XK} {m : Str} {pos apos : Pos} {o : Expr} {kws : List Keyword} {ta : TE} {tk : TA} {g : List Value → List Value → List Value} {gV : List V → List V → List V} {pl : Sem Bool}
def tMethN (C : Addr) (m : Str) (n : Nat) (sp : Sp) (gV : List V → List V → List V) (E : XK) (ta : TE) (tk : TA) : TE := fun σ H Q => ta σ H fun x H1 => ∃ a dx fs, x = .ref a ∧ H1 a = some (.ins C dx fs) ∧ fs.lookup m = none ∧
  tk σ H1 fun zs H2 => zs.length = n ∧ sp (gV [x] zs) H2 Q E
theorem pe_methN (ho : PE X o ta) (c : Cls X.K C) (hm : Meth X.K C m f) (F : FnOk X.prog X.w X.K X.mg X.base CX k f fd ps sp) (hr : Room k X.A) (hb : KBn X.K fd ps 1 ks g gV) (hx : Passes CX X E) (hk : PK X kws tk)
    (h1 : (backToKw pos (keywordEach kws X.env)).all (·.1.isSome) = true := by rfl) (h2 : (backToKw pos (keywordEach kws X.env)).filterMap (·.1) = ks := by rfl)
    (h3 : ((backTo pos (starEach [] X.env)).any (·.1) || (backToKw pos (keywordEach kws X.env)).any (·.1.isNone)) = false := by rfl)
    (h4 : eval (.Call (.Attribute o m apos) [] kws pos) X.env = (do
      let v ← eval o X.env
      standAt apos.atName
      let (a, b) ← holding [v] (getMethod v m pl)
      callWith pos a b (backTo pos (starEach [] X.env)) (backToKw pos (keywordEach kws X.env))) := by rfl) :
    PE X (.Call (.Attribute o m apos) [] kws pos) (tMethN C m ks.length sp gV E ta tk) := by
  constructor
  intro pins s σ H Q I h
  refine PySem.W.methodCall_KW (pl := pl) (thn (ho.run pins s σ H _ I h) fun u s1 w => ?_) h4
  obtain ⟨x, H1, I1, rx, a, dx, fs, ex, ea, l, q⟩ := w
  subst ex
  cases (show u = Value.ref a from rx)
  refine getmeth_ok I1 ea c hm l ?_
  refine PySem.W.callWith_KW0 (first := [.ref a]) (h₀ := X.base) I.ok.mod.kin hm.kp h1 (thn (hk.run pos pins s1 σ H1 _ I1 q) fun ws s2 w2 => ?_) h3
  obtain ⟨zs, H2, I2, rz, l2, q2⟩ := w2
  refine ⟨I2.kIn, ?_⟩
  rw [h2]
  exact run_fnN (us := [.ref a]) (vs := [.ref a]) F hr hb hx I2 (.cons rfl .nil) rz rfl l2 q2
end
end Mk1

/-! x in a list or a tuple of data of any depth. -/
namespace Ind
open PySem PySem.Spec PyProof.Rows L2
def seqD (t : Bool) (ds : List PyData) : PyData := if t = true then .tuple ds else .list ds
def rInS (K : PySem.W.Frag) : R2 := fun x y H Q => ∃ (d : PyData) (ds : List PyData) (t : Bool), Dp K H x d ∧ Dp K H y (seqD t ds) ∧ d.canLay0 = true ∧ d.depth ≤ 60 ∧ PyData.canLayAll0 ds = true ∧ Q (.bl (ds.any fun z => PyData.eqv z d)) H
theorem op_inS {X : Cx} (hu : X.A.units + 65 < cLine) : OpR X (compareOp .In) (rInS X.K) := by
  intro pins s σ H x y v u Q I rx ry h
  obtain ⟨d, ds, t, hd, he, sd, dd, se, q⟩ := h
  obtain ⟨as, r1⟩ := Dp.reads I d x v hd rx
  have room : X.A.units + 1 + min (PyData.depthAll ds) d.depth < cLine := by
    have := Nat.min_le_right (PyData.depthAll ds) d.depth
    omega
  cases t with
  | true =>
    obtain ⟨bs, r2⟩ := Dp.reads I (.tuple ds) y u he ry
    exact SeqAt.in_tuple_reads r2 r1 se sd room ⟨.bl _, H, I, rfl, q⟩
  | false =>
    obtain ⟨bs, r2⟩ := Dp.reads I (.list ds) y u he ry
    exact SeqAt.in_list_reads r2 r1 se sd room ⟨.bl _, H, I, rfl, q⟩
theorem isD {K : PySem.W.Frag} {t : Bool} {H : Hp} {p : Addr} {xs : List V} {ds : List PyData} (h : Kd.Is K t H p xs) (g : DpAll K H xs ds) : Dp K H (.ref p) (seqD t ds) := by
  cases t with
  | true => exact .tup h g
  | false => exact .lst h g
theorem room65 {k : Nat} {A : Around} (r : Room k A) : A.units + 65 < cLine := by have := r.un; omega
end Ind
namespace Ind
open PySem PySem.Spec PyProof.Rows L2
def rNinS (K : PySem.W.Frag) : R2 := fun x y H Q => ∃ (d : PyData) (ds : List PyData) (t : Bool), Dp K H x d ∧ Dp K H y (seqD t ds) ∧ d.canLay0 = true ∧ d.depth ≤ 60 ∧ PyData.canLayAll0 ds = true ∧ Q (.bl (!ds.any fun z => PyData.eqv z d)) H
theorem op_ninS {X : Cx} (hu : X.A.units + 65 < cLine) : OpR X (compareOp .NotIn) (rNinS X.K) := by
  intro pins s σ H x y v u Q I rx ry h
  obtain ⟨d, ds, t, hd, he, sd, dd, se, q⟩ := h
  obtain ⟨as, r1⟩ := Dp.reads I d x v hd rx
  have room : X.A.units + 1 + min (PyData.depthAll ds) d.depth < cLine := by
    have := Nat.min_le_right (PyData.depthAll ds) d.depth
    omega
  cases t with
  | true =>
    obtain ⟨bs, r2⟩ := Dp.reads I (.tuple ds) y u he ry
    exact SeqAt.notIn_tuple_reads r2 r1 se sd room ⟨.bl _, H, I, rfl, q⟩
  | false =>
    obtain ⟨bs, r2⟩ := Dp.reads I (.list ds) y u he ry
    exact SeqAt.notIn_list_reads r2 r1 se sd room ⟨.bl _, H, I, rfl, q⟩
end Ind

/-! Data with lists and the dict {'a': 1}, whose lists and dicts keep off some addresses; lists laid off sys.modules; repr of a list of such. -/
namespace Dz
open PySem PySem.Spec PyProof.Rows L2 Dv Wm
section
variable {X : Cx} {es : List Expr} {pos : Pos} {t : TA}
def tLstZ (t : TA) : TE := fun σ H Q => t σ H fun xs H1 => xs.length ≤ sizeLine ∧ ∀ p, p ≠ sysModules → H1 p = none → Q (.ref p) (upd H1 p (.lst xs))
theorem pe_lstZ (h : PA X es t) : PE X (.List es pos) (tLstZ t) := by
  constructor
  intro pins s σ H Q I hq
  apply wpAny_List_spliced
  refine thn (h.run pos pins s σ H _ I hq) ?_
  intro us s1 hh
  obtain ⟨xs, H1, I1, r, z, q⟩ := hh
  refine ⟨by rw [← r.length]; exact z, ?_⟩
  have big := I1.big
  refine ⟨.ref s1.heap.objs.size, upd H1 _ (.lst xs), I1.laid (t' := s1.toks) (fun b u e => Heap.get?_push_of_some _ e) (Nat.le_refl _) ⟨z, us, 0, r, Heap.get?_push_size _ rfl⟩, rfl, q _ ?_ (I1.hok.fresh (Nat.le_refl _))⟩
  exact Nat.ne_of_gt big
def rListZ (K : PySem.W.Frag) : List V → Hp → VK → Prop := fun xs H Q => ∃ p ys, xs = [.ref p] ∧ (SqL K H p ys ∨ SqT K H p ys) ∧ ∀ l, l ≠ sysModules → H l = none → Q (.ref l) (upd H l (.lst ys))
theorem call_listZ : CallR X (.type "list") (rListZ X.K) := by
  intro pins s σ H vs us Q I r h
  obtain ⟨p, ys, rfl, hp, q⟩ := h
  obtain ⟨u, rfl, ru⟩ := r.one
  cases (show u = Value.ref p from ru)
  have big := I.big
  have new : ∀ (its : List Value), Vals ys its → ys.length ≤ sizeLine → ∀ (g : Heap) (c : Nat), (∀ b o, s.heap.get? b = some o → g.get? b = some o) → g.get? s.heap.objs.size = some { cls := .type "list", dict := none, data := .seq its.toArray c, slots := #[] } → EP X pins σ Q (.ref s.heap.objs.size) { s with heap := g } := by
    intro its rv hz g c kp e
    exact ⟨.ref s.heap.objs.size, upd H _ (.lst ys), I.laid (t' := s.toks) kp (Nat.le_refl _) (show ObjOk X.prog X.w _ g _ (.lst ys) from ⟨hz, its, c, rv, e⟩), rfl, q _ (Nat.ne_of_gt big) (I.hok.fresh (Nat.le_refl _))⟩
  cases hp with
  | inl hp =>
    obtain ⟨its, rv, pl, hz⟩ := I.list hp
    have ln := rv.length
    obtain ⟨o, ho, hc, n, hd⟩ := pl.isList
    exact call_list_seq p (.inl rfl) ho hc hd (fun g c kp e => new its rv hz g c kp e) (by simp only [List.size_toArray]; omega)
  | inr hp =>
    obtain ⟨its, rv, ⟨o, ho, hc, n, hd⟩, hz⟩ := I.tuple hp
    have ln := rv.length
    exact call_list_seq p (.inr rfl) ho hc hd (fun g c kp e => new its rv hz g c kp e) (by simp only [List.size_toArray]; omega)
end
mutual
inductive Dn (K : PySem.W.Frag) (N : Addr → Prop) (H : Hp) : V → PyData → Prop
  | non : Dn K N H .non .none
  | bl (b : Bool) : Dn K N H (.bl b) (.bool b)
  | int (i : Int) : Dn K N H (.int i) (.int i)
  | str (x : Str) : Dn K N H (.str x) (.str x)
  | tup {a : Addr} {xs : List V} {ds : List PyData} : SqT K H a xs → Dns K N H xs ds → Dn K N H (.ref a) (.tuple ds)
  | lst {a : Addr} {xs : List V} {ds : List PyData} : N a → H a = some (.lst xs) → Dns K N H xs ds → Dn K N H (.ref a) (.list ds)
inductive Dns (K : PySem.W.Frag) (N : Addr → Prop) (H : Hp) : List V → List PyData → Prop
  | nil : Dns K N H [] []
  | cons {v : V} {vs : List V} {d : PyData} {ds : List PyData} : Dn K N H v d → Dns K N H vs ds → Dns K N H (v :: vs) (d :: ds)
end
section
variable {K : PySem.W.Frag} {N M : Addr → Prop} {H H' : Hp}
mutual
theorem Dn.toDp : ∀ (d : PyData) (v : V), Dn K N H v d → Dp K H v d
  | .none, _, h => by cases h; exact .non
  | .bool _, _, h => by cases h; exact .bl _
  | .int _, _, h => by cases h; exact .int _
  | .str _, _, h => by cases h; exact .str _
  | .tuple ds, _, h => by
    cases h with
    | tup a b => exact .tup a (Dns.toDp ds _ b)
  | .list ds, _, h => by
    cases h with
    | lst n a b => exact .lst (SqL.of a) (Dns.toDp ds _ b)
  | .dict _, _, h => by cases h
theorem Dns.toDp : ∀ (ds : List PyData) (vs : List V), Dns K N H vs ds → DpAll K H vs ds
  | [], _, h => by cases h; exact .nil
  | d :: ds, _, h => by
    cases h with
    | cons a b => exact .cons (Dn.toDp d _ a) (Dns.toDp ds _ b)
end
mutual
theorem Dn.kk (k : Kt K H H') (f : ∀ a xs, N a → H a = some (.lst xs) → M a ∧ H' a = some (.lst xs)) : ∀ (d : PyData) (v : V), Dn K N H v d → Dn K M H' v d
  | .none, _, h => by cases h; exact .non
  | .bool _, _, h => by cases h; exact .bl _
  | .int _, _, h => by cases h; exact .int _
  | .str _, _, h => by cases h; exact .str _
  | .tuple ds, _, h => by
    cases h with
    | tup a b => exact .tup (k _ _ a) (Dns.kk k f ds _ b)
  | .list ds, _, h => by
    cases h with
    | lst n a b => exact .lst (f _ _ n a).1 (f _ _ n a).2 (Dns.kk k f ds _ b)
  | .dict _, _, h => by cases h
theorem Dns.kk (k : Kt K H H') (f : ∀ a xs, N a → H a = some (.lst xs) → M a ∧ H' a = some (.lst xs)) : ∀ (ds : List PyData) (vs : List V), Dns K N H vs ds → Dns K M H' vs ds
  | [], _, h => by cases h; exact .nil
  | d :: ds, _, h => by
    cases h with
    | cons a b => exact .cons (Dn.kk k f d _ a) (Dns.kk k f ds _ b)
end
mutual
theorem Dn.ofDt : ∀ (d : PyData) (v : V), Dt K H v d → Dn K N H v d
  | .int _, _, h => by cases h; exact .int _
  | .str _, _, h => by cases h; exact .str _
  | .tuple ds, _, h => by
    cases h with
    | tup a b => exact .tup a (Dns.ofDts ds _ b)
  | .none, _, h => by cases h
  | .bool _, _, h => by cases h
  | .list _, _, h => by cases h
  | .dict _, _, h => by cases h
theorem Dns.ofDts : ∀ (ds : List PyData) (vs : List V), Dts K H vs ds → Dns K N H vs ds
  | [], _, h => by cases h; exact .nil
  | d :: ds, _, h => by
    cases h with
    | cons a b => exact .cons (Dn.ofDt d _ a) (Dns.ofDts ds _ b)
end
theorem Dn.ks {d : PyData} {v : V} (h : Dn K N H v d) (s : Same H H') : Dn K N H' v d := Dn.kk (Kt.same s) (fun _ _ n e => ⟨n, s _ _ e⟩) d v h
theorem Dns.ks {ds : List PyData} {vs : List V} (h : Dns K N H vs ds) (s : Same H H') : Dns K N H' vs ds := Dns.kk (Kt.same s) (fun _ _ n e => ⟨n, s _ _ e⟩) ds vs h
theorem Dns.len : ∀ {vs : List V} {ds : List PyData}, Dns K N H vs ds → vs.length = ds.length
  | _, [], h => by cases h; rfl
  | _, d :: ds, h => by
    cases h with
    | cons a b => rw [List.length_cons, List.length_cons, Dns.len b]
theorem Dns.at : ∀ {vs : List V} {ds : List PyData} {i : Nat} {v : V}, Dns K N H vs ds → vs[i]? = some v → ∃ d, ds[i]? = some d ∧ Dn K N H v d
  | _, [], _, _, h, e => by cases h; simp at e
  | _, d :: ds, i, v, h, e => by
    cases h with
    | cons a b =>
      cases i with
      | zero => cases e; exact ⟨d, rfl, a⟩
      | succ i => exact Dns.at (i := i) b (by simpa using e)
def adD : PyData := .dict [(.str "a", .int 1)]
/-- an item: such data, or the dict {'a': 1} -/
def Dz (K : PySem.W.Frag) (N : Addr → Prop) (H : Hp) (v : V) (d : PyData) : Prop := Dn K N H v d ∨ ∃ a, v = .ref a ∧ N a ∧ H a = some (.dK [(Sum.inr "a", V.int 1)]) ∧ d = adD
theorem Dz.kk {v : V} {d : PyData} (h : Dz K N H v d) (k : Kt K H H') (f : ∀ a o, N a → H a = some o → M a ∧ H' a = some o) : Dz K M H' v d := by
  rcases h with h | ⟨a, e, n, e2, e3⟩
  · exact .inl (Dn.kk k (fun a xs n e => f a _ n e) d v h)
  · exact .inr ⟨a, e, (f _ _ n e2).1, (f _ _ n e2).2, e3⟩
theorem Dz.ks {v : V} {d : PyData} (h : Dz K N H v d) (s : Same H H') : Dz K N H' v d := h.kk (Kt.same s) fun _ _ n e => ⟨n, s _ _ e⟩
inductive Dzs (K : PySem.W.Frag) (N : Addr → Prop) (H : Hp) : List V → List PyData → Prop
  | nil : Dzs K N H [] []
  | cons {v : V} {vs : List V} {d : PyData} {ds : List PyData} : Dz K N H v d → Dzs K N H vs ds → Dzs K N H (v :: vs) (d :: ds)
theorem Dzs.kk (k : Kt K H H') (f : ∀ a o, N a → H a = some o → M a ∧ H' a = some o) : ∀ {vs : List V} {ds : List PyData}, Dzs K N H vs ds → Dzs K M H' vs ds
  | _, _, .nil => .nil
  | _, _, .cons a b => .cons (a.kk k f) (Dzs.kk k f b)
theorem Dzs.ks {ds : List PyData} {vs : List V} (h : Dzs K N H vs ds) (s : Same H H') : Dzs K N H' vs ds := h.kk (Kt.same s) fun _ _ n e => ⟨n, s _ _ e⟩
theorem Dzs.len : ∀ {vs : List V} {ds : List PyData}, Dzs K N H vs ds → vs.length = ds.length
  | _, _, .nil => rfl
  | _, _, .cons a b => by rw [List.length_cons, List.length_cons, Dzs.len b]
theorem Dzs.at : ∀ {vs : List V} {ds : List PyData} {i : Nat} {v : V}, Dzs K N H vs ds → vs[i]? = some v → ∃ d, ds[i]? = some d ∧ Dz K N H v d
  | _, _, i, v, .nil, e => by simp at e
  | _, _, i, v, .cons (d := d) a b, e => by
    cases i with
    | zero => cases e; exact ⟨d, rfl, a⟩
    | succ i => exact Dzs.at (i := i) b (by simpa using e)
theorem Dzs.app : ∀ {vs us : List V} {ds es : List PyData}, Dzs K N H vs ds → Dzs K N H us es → Dzs K N H (vs ++ us) (ds ++ es)
  | _, _, _, _, .nil, h => h
  | _, _, _, _, .cons a b, h => .cons a (Dzs.app b h)
theorem Dzs.take : ∀ {vs : List V} {ds : List PyData} (n : Nat), Dzs K N H vs ds → Dzs K N H (vs.take n) (ds.take n)
  | _, _, n, .nil => by rw [List.take_nil, List.take_nil]; exact .nil
  | _, _, 0, .cons a b => .nil
  | _, _, n + 1, .cons a b => .cons a (Dzs.take n b)
theorem Dzs.drop : ∀ {vs : List V} {ds : List PyData} (n : Nat), Dzs K N H vs ds → Dzs K N H (vs.drop n) (ds.drop n)
  | _, _, n, .nil => by rw [List.drop_nil, List.drop_nil]; exact .nil
  | _, _, 0, .cons a b => .cons a b
  | _, _, n + 1, .cons a b => Dzs.drop n b
theorem Dzs.ofDts : ∀ {vs : List V} {ds : List PyData}, Dts K H vs ds → Dzs K N H vs ds
  | _, [], h => by cases h; exact .nil
  | _, d :: ds, h => by
    cases h with
    | cons a b => exact .cons (.inl (Dn.ofDt d _ a)) (Dzs.ofDts b)
end
section
variable {X : Cx} {pins : List (Addr × Obj)} {σ : L2.St} {H : Hp} {s : Shared} {N : Addr → Prop}
mutual
theorem Dn.reads (I : Inv X pins σ H s) (hN : ∀ a, N a → a ≠ sysModules) : ∀ (d : PyData) (v : V) (u : Value), Dn X.K N H v d → RelV v u → ∃ as, Reads s.heap u d as ∧ sysModules ∉ as
  | .none, _, _, h, r => by cases h; cases r; exact ⟨_, .none, List.not_mem_nil⟩
  | .bool b, _, _, h, r => by cases h; cases r; exact ⟨_, .bool b, List.not_mem_nil⟩
  | .int i, _, _, h, r => by cases h; obtain ⟨t, rfl⟩ := r; exact ⟨_, .int i t, List.not_mem_nil⟩
  | .str x, _, _, h, r => by cases h; obtain ⟨t, rfl⟩ := r; exact ⟨_, .str x t, List.not_mem_nil⟩
  | .tuple ds, _, _, h, r => by
    cases h with
    | tup a b =>
      cases r
      obtain ⟨its, rv, ⟨o, ho, hc, n, hd⟩, _⟩ := I.tuple a
      obtain ⟨as, hr, hn⟩ := Dns.reads I hN ds _ its b rv
      exact ⟨as, .tuple ho hc hd hr, hn⟩
  | .list ds, _, _, h, r => by
    cases h with
    | @lst a _ _ na e b =>
      cases r
      obtain ⟨its, rv, ⟨o, n, ho, hc, _, hd⟩, _⟩ := I.list (SqL.of e)
      obtain ⟨as, hr, hn⟩ := Dns.reads I hN ds _ its b rv
      refine ⟨a :: as, .list ho hc hd hr, fun m => ?_⟩
      rcases List.mem_cons.mp m with z | z
      · exact hN a na z.symm
      · exact hn z
  | .dict _, _, _, h, _ => by cases h
theorem Dns.reads (I : Inv X pins σ H s) (hN : ∀ a, N a → a ≠ sysModules) : ∀ (ds : List PyData) (vs : List V) (us : List Value), Dns X.K N H vs ds → Vals vs us → ∃ as, ReadsAll s.heap us ds as ∧ sysModules ∉ as
  | [], _, _, h, r => by cases h; cases r; exact ⟨_, .nil, List.not_mem_nil⟩
  | d :: ds, _, _, h, r => by
    cases h with
    | cons a b =>
      cases r with
      | cons ra rb =>
        obtain ⟨as, h1, n1⟩ := Dn.reads I hN d _ _ a ra
        obtain ⟨bs, h2, n2⟩ := Dns.reads I hN ds _ _ b rb
        exact ⟨as ++ bs, .cons h1 h2, fun m => (List.mem_append.mp m).elim n1 n2⟩
end
theorem Dz.reads (I : Inv X pins σ H s) (hN : ∀ a, N a → a ≠ sysModules) {d : PyData} {v : V} {u : Value} (h : Dz X.K N H v d) (r : RelV v u) : ∃ as, Reads s.heap u d as ∧ sysModules ∉ as := by
  rcases h with h | ⟨a, rfl, na, e, rfl⟩
  · exact Dn.reads I hN d v u h r
  · cases r
    obtain ⟨_, _, vs, rel, o, es, ep, h1, h2, h3, _, pr, _⟩ := dk_of I.hok e
    cases rel with
    | @cons p0 kv ps qs hd tl =>
      cases tl
      generalize hes : es.toList = L at pr
      cases pr with
      | @cons en _ es' kvs' k1 v1 t =>
        cases t
        have k1 : keyIs kv.1 en.key = true := k1
        obtain ⟨r1, r2⟩ := hd
        rw [← show (Sum.inr "a" : Key) = kv.1 from r1] at k1
        rcases keyIs_shape k1 with ⟨i, t, z, _⟩ | ⟨x, t, z, ek⟩
        · cases z
        · cases z
          obtain ⟨t2, ev⟩ := (show RelV (V.int 1) kv.2 from r2)
          refine ⟨_, .dict (as := []) (bs := []) h1 h2.1 h3 ?_ ?_, ?_⟩
          · rw [hes]
            show ReadsAll s.heap [en.key] [PyData.str "a"] []
            rw [ek]
            exact .cons (.str _ t) .nil
          · rw [hes]
            show ReadsAll s.heap [en.val] [PyData.int 1] []
            rw [v1, ev]
            exact .cons (.int _ t2) .nil
          · intro m
            rcases List.mem_cons.mp m with z | z
            · exact hN a na z.symm
            · simp at z
theorem Dzs.reads (I : Inv X pins σ H s) (hN : ∀ a, N a → a ≠ sysModules) : ∀ {ds : List PyData} {vs : List V} {us : List Value}, Dzs X.K N H vs ds → Vals vs us → ∃ as, ReadsAll s.heap us ds as ∧ sysModules ∉ as
  | _, _, _, .nil, r => by cases r; exact ⟨_, .nil, List.not_mem_nil⟩
  | _, _, _, .cons a b, r => by
    cases r with
    | cons ra rb =>
      obtain ⟨as, h1, n1⟩ := a.reads I hN ra
      obtain ⟨bs, h2, n2⟩ := Dzs.reads I hN b rb
      exact ⟨as ++ bs, .cons h1 h2, fun m => (List.mem_append.mp m).elim n1 n2⟩
end
/-! repr of a list of such -/
def rReprZ (K : PySem.W.Frag) : List V → Hp → VK → Prop := fun xs H Q => ∃ (a : Addr) (vs : List V) (ds : List PyData) (N : Addr → Prop), xs = [.ref a] ∧ a ≠ sysModules ∧ (∀ b, N b → b ≠ sysModules) ∧ H a = some (.lst vs) ∧ Dzs K N H vs ds ∧ (PyData.list ds).showable = true ∧ (PyData.list ds).depth ≤ 60 ∧ (PyData.list ds).shown.length ≤ sizeLine ∧ Q (.str (PyData.list ds).shown) H
theorem call_reprZ {X : Cx} (hg : X.A.guards = some []) (hu : X.A.units + 64 < cLine) : CallR X (.builtin "repr") (rReprZ X.K) := by
  intro pins s σ H xs us Q I r h
  obtain ⟨a, vs, ds, N, rfl, na, hN, ha, hd, hs, hz, hl, q⟩ := h
  obtain ⟨u, rfl, ru⟩ := r.one
  cases ru
  obtain ⟨its, rv, ⟨o, n, ho, hc, _, hd2⟩, _⟩ := I.list (SqL.of ha)
  obtain ⟨as, hr, hn⟩ := hd.reads I hN rv
  refine PySem.repr_of_reads' (.list ho hc hd2 hr) hs (fun _ m => ?_) hg (by omega) (fun _ _ e => e) (fun g u tk k => ⟨.str _, H, I.kept (t' := tk) k, ⟨_, rfl⟩, q⟩) hl
  rcases List.mem_cons.mp m with z | z
  · exact na z.symm
  · exact hn z
end Dz

/-! Data with lists and empty dicts that keep off some addresses; repr of such, == of a text and a dict, x in a tuple of texts, a list != []. -/
namespace De
open PySem PySem.Spec PyProof.Rows L2 Dv Wm PySem.SeqAt
mutual
inductive En (K : PySem.W.Frag) (N : Addr → Prop) (H : Hp) : V → PyData → Prop
  | non : En K N H .non .none
  | bl (b : Bool) : En K N H (.bl b) (.bool b)
  | int (i : Int) : En K N H (.int i) (.int i)
  | str (x : Str) : En K N H (.str x) (.str x)
  | tup {a : Addr} {xs : List V} {ds : List PyData} : SqT K H a xs → Ens K N H xs ds → En K N H (.ref a) (.tuple ds)
  | lst {a : Addr} {xs : List V} {ds : List PyData} : N a → H a = some (.lst xs) → Ens K N H xs ds → En K N H (.ref a) (.list ds)
  | emp {a : Addr} : N a → H a = some (.dK []) → En K N H (.ref a) (.dict [])
inductive Ens (K : PySem.W.Frag) (N : Addr → Prop) (H : Hp) : List V → List PyData → Prop
  | nil : Ens K N H [] []
  | cons {v : V} {vs : List V} {d : PyData} {ds : List PyData} : En K N H v d → Ens K N H vs ds → Ens K N H (v :: vs) (d :: ds)
end
section
variable {K : PySem.W.Frag} {N M : Addr → Prop} {H H' : Hp}
mutual
theorem En.kk (k : Kt K H H') (f : ∀ a o, N a → H a = some o → M a ∧ H' a = some o) : ∀ (d : PyData) (v : V), En K N H v d → En K M H' v d
  | .none, _, h => by cases h; exact .non
  | .bool _, _, h => by cases h; exact .bl _
  | .int _, _, h => by cases h; exact .int _
  | .str _, _, h => by cases h; exact .str _
  | .tuple ds, _, h => by
    cases h with
    | tup a b => exact .tup (k _ _ a) (Ens.kk k f ds _ b)
  | .list ds, _, h => by
    cases h with
    | lst n a b => exact .lst (f _ _ n a).1 (f _ _ n a).2 (Ens.kk k f ds _ b)
  | .dict _, _, h => by
    cases h with
    | emp n e => exact .emp (f _ _ n e).1 (f _ _ n e).2
theorem Ens.kk (k : Kt K H H') (f : ∀ a o, N a → H a = some o → M a ∧ H' a = some o) : ∀ (ds : List PyData) (vs : List V), Ens K N H vs ds → Ens K M H' vs ds
  | [], _, h => by cases h; exact .nil
  | d :: ds, _, h => by
    cases h with
    | cons a b => exact .cons (En.kk k f d _ a) (Ens.kk k f ds _ b)
end
mutual
theorem En.ofDt : ∀ (d : PyData) (v : V), Dt K H v d → En K N H v d
  | .int _, _, h => by cases h; exact .int _
  | .str _, _, h => by cases h; exact .str _
  | .tuple ds, _, h => by
    cases h with
    | tup a b => exact .tup a (Ens.ofDts ds _ b)
  | .none, _, h => by cases h
  | .bool _, _, h => by cases h
  | .list _, _, h => by cases h
  | .dict _, _, h => by cases h
theorem Ens.ofDts : ∀ (ds : List PyData) (vs : List V), Dts K H vs ds → Ens K N H vs ds
  | [], _, h => by cases h; exact .nil
  | d :: ds, _, h => by
    cases h with
    | cons a b => exact .cons (En.ofDt d _ a) (Ens.ofDts ds _ b)
end
theorem En.ks {d : PyData} {v : V} (h : En K N H v d) (s : Same H H') : En K N H' v d := En.kk (Kt.same s) (fun _ _ n e => ⟨n, s _ _ e⟩) d v h
theorem Ens.ks {ds : List PyData} {vs : List V} (h : Ens K N H vs ds) (s : Same H H') : Ens K N H' vs ds := Ens.kk (Kt.same s) (fun _ _ n e => ⟨n, s _ _ e⟩) ds vs h
theorem Ens.len : ∀ {vs : List V} {ds : List PyData}, Ens K N H vs ds → vs.length = ds.length
  | _, [], h => by cases h; rfl
  | _, d :: ds, h => by
    cases h with
    | cons a b => rw [List.length_cons, List.length_cons, Ens.len b]
theorem Ens.at : ∀ {vs : List V} {ds : List PyData} {i : Nat} {v : V}, Ens K N H vs ds → vs[i]? = some v → ∃ d, ds[i]? = some d ∧ En K N H v d
  | _, [], _, _, h, e => by cases h; simp at e
  | _, d :: ds, i, v, h, e => by
    cases h with
    | cons a b =>
      cases i with
      | zero => cases e; exact ⟨d, rfl, a⟩
      | succ i => exact Ens.at (i := i) b (by simpa using e)
theorem Ens.take : ∀ {vs : List V} {ds : List PyData} (n : Nat), Ens K N H vs ds → Ens K N H (vs.take n) (ds.take n)
  | _, _, n, .nil => by rw [List.take_nil, List.take_nil]; exact .nil
  | _, _, 0, .cons a b => .nil
  | _, _, n + 1, .cons a b => .cons a (Ens.take n b)
theorem Ens.drop : ∀ {vs : List V} {ds : List PyData} (n : Nat), Ens K N H vs ds → Ens K N H (vs.drop n) (ds.drop n)
  | _, _, n, .nil => by rw [List.drop_nil, List.drop_nil]; exact .nil
  | _, _, 0, .cons a b => .cons a b
  | _, _, n + 1, .cons a b => Ens.drop n b
theorem Ens.app : ∀ {vs us : List V} {ds es : List PyData}, Ens K N H vs ds → Ens K N H us es → Ens K N H (vs ++ us) (ds ++ es)
  | _, _, _, _, .nil, h => h
  | _, _, _, _, .cons a b, h => .cons a (Ens.app b h)
theorem Ens.set {v : V} {d : PyData} (h : En K N H v d) : ∀ {vs : List V} {ds : List PyData} (k : Nat), Ens K N H vs ds → Ens K N H (vs.set k v) (ds.set k d)
  | _, _, _, .nil => .nil
  | _, _, 0, .cons a b => .cons h b
  | _, _, k + 1, .cons a b => .cons a (Ens.set h k b)
theorem Ens.snoc {vs : List V} {ds : List PyData} {v : V} {d : PyData} (h : Ens K N H vs ds) (g : En K N H v d) : Ens K N H (vs ++ [v]) (ds ++ [d]) := h.app (.cons g .nil)
theorem Ens.get : ∀ {vs : List V} {ds : List PyData} {i : Nat} {d : PyData}, Ens K N H vs ds → ds[i]? = some d → ∃ v, vs[i]? = some v ∧ En K N H v d
  | _, _, _, _, .nil, e => by simp at e
  | _, _, i, d, .cons (v := v) a b, e => by
    cases i with
    | zero => cases e; exact ⟨v, rfl, a⟩
    | succ i => exact Ens.get (i := i) b (by simpa using e)
theorem Ens.rep : ∀ (k : Nat) {vs : List V} {ds : List PyData}, Ens K N H vs ds → Ens K N H (List.replicate k vs).flatten (List.replicate k ds).flatten
  | 0, _, _, _ => .nil
  | k + 1, vs, ds, h => by
    rw [List.replicate_succ, List.replicate_succ, List.flatten_cons, List.flatten_cons]
    exact h.app (Ens.rep k h)
end
section
variable {X : Cx} {pins : List (Addr × Obj)} {σ : L2.St} {H : Hp} {s : Shared} {N : Addr → Prop}
mutual
theorem En.reads (I : Inv X pins σ H s) (hN : ∀ a, N a → a ≠ sysModules) : ∀ (d : PyData) (v : V) (u : Value), En X.K N H v d → RelV v u → ∃ as, Reads s.heap u d as ∧ sysModules ∉ as
  | .none, _, _, h, r => by cases h; cases r; exact ⟨_, .none, List.not_mem_nil⟩
  | .bool b, _, _, h, r => by cases h; cases r; exact ⟨_, .bool b, List.not_mem_nil⟩
  | .int i, _, _, h, r => by cases h; obtain ⟨t, rfl⟩ := r; exact ⟨_, .int i t, List.not_mem_nil⟩
  | .str x, _, _, h, r => by cases h; obtain ⟨t, rfl⟩ := r; exact ⟨_, .str x t, List.not_mem_nil⟩
  | .tuple ds, _, _, h, r => by
    cases h with
    | tup a b =>
      cases r
      obtain ⟨its, rv, ⟨o, ho, hc, n, hd⟩, _⟩ := I.tuple a
      obtain ⟨as, hr, hn⟩ := Ens.reads I hN ds _ its b rv
      exact ⟨as, .tuple ho hc hd hr, hn⟩
  | .list ds, _, _, h, r => by
    cases h with
    | @lst a _ _ na e b =>
      cases r
      obtain ⟨its, rv, ⟨o, n, ho, hc, _, hd⟩, _⟩ := I.list (SqL.of e)
      obtain ⟨as, hr, hn⟩ := Ens.reads I hN ds _ its b rv
      refine ⟨a :: as, .list ho hc hd hr, fun m => ?_⟩
      rcases List.mem_cons.mp m with z | z
      · exact hN a na z.symm
      · exact hn z
  | .dict _, _, _, h, r => by
    cases h with
    | @emp a na e =>
      cases r
      obtain ⟨_, _, vs, rel, o, es, ep, h1, h2, h3, _, pr, _⟩ := dk_of I.hok e
      cases rel
      generalize hes : es.toList = L at pr
      cases pr
      refine ⟨_, .dict (as := []) (bs := []) h1 h2.1 h3 (by rw [hes]; exact .nil) (by rw [hes]; exact .nil), fun m => ?_⟩
      rcases List.mem_cons.mp m with z | z
      · exact hN a na z.symm
      · simp at z
theorem Ens.reads (I : Inv X pins σ H s) (hN : ∀ a, N a → a ≠ sysModules) : ∀ (ds : List PyData) (vs : List V) (us : List Value), Ens X.K N H vs ds → Vals vs us → ∃ as, ReadsAll s.heap us ds as ∧ sysModules ∉ as
  | [], _, _, h, r => by cases h; cases r; exact ⟨_, .nil, List.not_mem_nil⟩
  | d :: ds, _, _, h, r => by
    cases h with
    | cons a b =>
      cases r with
      | cons ra rb =>
        obtain ⟨as, h1, n1⟩ := En.reads I hN d _ _ a ra
        obtain ⟨bs, h2, n2⟩ := Ens.reads I hN ds _ _ b rb
        exact ⟨as ++ bs, .cons h1 h2, fun m => (List.mem_append.mp m).elim n1 n2⟩
end
end
/-- repr of such -/
def rReprE (K : PySem.W.Frag) : List V → Hp → VK → Prop := fun xs H Q => ∃ (v : V) (d : PyData) (N : Addr → Prop), xs = [v] ∧ (∀ b, N b → b ≠ sysModules) ∧ En K N H v d ∧ d.showable = true ∧ d.depth ≤ 60 ∧ d.shown.length ≤ sizeLine ∧ Q (.str d.shown) H
theorem call_reprE {X : Cx} (hg : X.A.guards = some []) (hu : X.A.units + 64 < cLine) : CallR X (.builtin "repr") (rReprE X.K) := by
  intro pins s σ H xs us Q I r h
  obtain ⟨v, d, N, rfl, hN, hd, hs, hz, hl, q⟩ := h
  obtain ⟨u, rfl, ru⟩ := r.one
  obtain ⟨as, rd, hn⟩ := En.reads I hN d v u hd ru
  cases rd with
  | none => exact PySem.P.repr_of_none ⟨.str _, H, I.tok _, ⟨_, rfl⟩, q⟩
  | bool b => exact PySem.P.repr_of_bool ⟨.str _, H, I.tok _, ⟨_, rfl⟩, q⟩
  | int i t => exact PySem.P.repr_of_int (of_decide_eq_true hs) ⟨.str _, H, I.tok _, ⟨_, rfl⟩, q⟩
  | str z t => exact PySem.P.repr_of_str (hsz := hl) ⟨.str _, H, I.tok _, ⟨_, rfl⟩, q⟩
  | list h1 h2 h3 h4 => exact PySem.repr_of_reads' (.list h1 h2 h3 h4) hs (fun _ m => hn m) hg (by omega) (fun _ _ e => e) (fun g u tk k => ⟨.str _, H, I.kept (t' := tk) k, ⟨_, rfl⟩, q⟩) hl
  | tuple h1 h2 h3 h4 => exact PySem.repr_of_reads' (.tuple h1 h2 h3 h4) hs (fun _ m => hn m) hg (by omega) (fun _ _ e => e) (fun g u tk k => ⟨.str _, H, I.kept (t' := tk) k, ⟨_, rfl⟩, q⟩) hl
  | dict h1 h2 h3 h4 h5 => exact PySem.repr_of_reads' (.dict h1 h2 h3 h4 h5) hs (fun _ m => hn m) hg (by omega) (fun _ _ e => e) (fun g u tk k => ⟨.str _, H, I.kept (t' := tk) k, ⟨_, rfl⟩, q⟩) hl
end De
namespace De
open PySem PySem.SeqAt MeetsSeq
section
variable {A : Around} {s : Shared}
theorem str_declines (b : Str) (u : Tok) (l : Addr) (es : Array DictEntry) (nn : Nat) (dd : Option Addr) (sl : Array (Option Value)) :
    Meets (Builtin.«str.__eq__» ⟨[.str b u, .ref l], []⟩) (fun _ R s => s.heap.get? l = some { cls := .type "dict", dict := dd, data := .dict es nn, slots := sl } ∧ R (.ok (.ret .notImplemented)) s) :=
  .of_wp fun prog w A R s h => by obtain ⟨hp, g, d, tk, os⟩ := s; obtain ⟨hl, h⟩ := h; wp_walk using wpAny_loadPart' hl, wpAny_load hl; exact ⟨_, rfl, h⟩
theorem dict_declines (b : Str) (u : Tok) (l : Addr) (es : Array DictEntry) (nn : Nat) (dd : Option Addr) (sl : Array (Option Value)) :
    Meets (Builtin.«dict.__eq__» ⟨[.ref l, .str b u], []⟩) (fun _ R s => s.heap.get? l = some { cls := .type "dict", dict := dd, data := .dict es nn, slots := sl } ∧ R (.ok (.ret .notImplemented)) s) :=
  .of_wp fun prog w A R s h => by obtain ⟨hp, g, d, tk, os⟩ := s; obtain ⟨hl, h⟩ := h; have f1 := F.sub_str_dict; wp_walk using wpAny_loadPart' hl; exact ⟨_, rfl, h⟩
theorem rc_str_dict {l : Addr} {o : Obj} {es : Array DictEntry} {nn : Nat} (b : Str) (u : Tok) (ho : s.heap.get? l = some o) (hc : o.cls = .type "dict") (hd : o.data = .dict es nn) (hu : A.units < cLine) : RcAt A s (.str b u) (.ref l) false := fun prog w E Q h => by
  obtain ⟨cls, dd, data, sl⟩ := o
  simp only at hc hd
  subst hc hd
  exact rc_eq_decline_or (k := false) (typeIs_str s b u) ⟨_, ho, rfl⟩ (by decide) F.sub_dict_str F.slot_str_eq F.slot_dict_eq_refl
    (fun _ hq => call_meets F.slot_str_eq (typeIs_str s b u) F.entry_str_eq (F.args_str_eq_2 _ _) (str_declines b u l es nn dd sl) ⟨ho, hq⟩)
    (fun _ hq => call_meets F.slot_dict_eq_refl ⟨_, ho, rfl⟩ F.entry_dict_eq (F.args_dict_eq_2 _ _) (dict_declines b u l es nn dd sl) ⟨ho, hq⟩)
    (fun _ hq => wpAny_of_eq (rfl : isSame (.str b u) (.ref l) = pure false) hq) (.inr hu) h
theorem eq_str_dict {l : Addr} {o : Obj} {es : Array DictEntry} {nn : Nat} (b : Str) (u : Tok) (ho : s.heap.get? l = some o) (hc : o.cls = .type "dict") (hd : o.data = .dict es nn) (hu : A.units < cLine) : EqAt A s (.str b u) (.ref l) false := fun prog w E Q h => by
  unfold eqBool
  refine wpAny_holding ?_
  refine wpAny_ite_split (fun hab => absurd (eq_of_beq hab) nofun) (fun _ => ?_)
  exact wpAny_bind (rc_str_dict b u ho hc hd hu prog w E _ (wpAny_truthy_bool h))
end
end De
namespace De
open PySem PySem.Spec PyProof.Rows L2 Dv Wm PySem.SeqAt
/-- a text against any such datum -/
theorem eq_str_any {X : Cx} {pins : List (Addr × Obj)} {σ : L2.St} {H : Hp} {s : Shared} {N : Addr → Prop} {A : Around} (I : Inv X pins σ H s) (hN : ∀ a, N a → a ≠ sysModules) {d : PyData} {v : V} {u : Value} (h : En X.K N H v d) (r : RelV v u) (t : Str) (k : Tok) (hu : A.units < cLine) :
    EqAt A s (.str t k) u (PyData.eqv (.str t) d) := by
  obtain ⟨as, rd, _⟩ := En.reads I hN d v u h r
  cases rd with
  | none => exact EqAt.str_none t k
  | bool y => exact EqAt.str_bool t k y
  | int y u => exact EqAt.str_int t k y u
  | str y u => exact EqAt.str_str t k y u
  | list k1 k2 k3 k4 => exact EqAt.str_list t k ⟨_, k1, k2, _, k3⟩ hu
  | tuple k1 k2 k3 k4 => exact EqAt.str_tuple t k ⟨_, k1, k2, _, k3⟩ hu
  | dict k1 k2 k3 k4 k5 => exact eq_str_dict t k k1 k2 k3 hu
/-- x in (texts), x any such datum -/
def rInTx (K : PySem.W.Frag) : R2 := fun x y H Q => ∃ (d : PyData) (N : Addr → Prop) (q : Addr) (ts : List Str), (∀ a, N a → a ≠ sysModules) ∧ En K N H x d ∧ y = .ref q ∧ SqT K H q (ts.map V.str) ∧ Q (.bl (ts.any fun t => PyData.eqv (.str t) d)) H
theorem vals_str : ∀ {ts : List Str} {us : List Value}, Vals (ts.map V.str) us → ∀ y ∈ us, ∃ t k, y = Value.str t k
  | [], _, h, _, m => by cases h; cases m
  | t :: ts, _, h, y, m => by
    cases h with
    | cons a b =>
      rcases List.mem_cons.mp m with rfl | m
      · obtain ⟨k, e⟩ := a
        exact ⟨t, k, e⟩
      · exact vals_str b y m
def strB (d : PyData) : Value → Bool
  | .str t _ => PyData.eqv (.str t) d
  | _ => false
theorem any_str (d : PyData) : ∀ {ts : List Str} {us : List Value}, Vals (ts.map V.str) us → us.any (strB d) = ts.any fun t => PyData.eqv (.str t) d
  | [], _, h => by cases h; rfl
  | t :: ts, _, h => by
    cases h with
    | cons a b =>
      obtain ⟨k, e⟩ := a
      rw [List.any_cons, List.any_cons, any_str d b, e]
      rfl
theorem op_inTx {X : Cx} (hu : X.A.units + 65 < cLine) : OpR X (compareOp .In) (rInTx X.K) := by
  intro pins s σ H x y v u Q I rx ry h
  obtain ⟨d, N, q, ts, hN, hd, rfl, hq, k⟩ := h
  cases ry
  obtain ⟨its, rv, hl, _⟩ := I.tuple hq
  refine SeqAt.in_tupleAt (strB d) hl (fun y hy => ?_) ?_
  · obtain ⟨t, k, rfl⟩ := vals_str rv y (by simpa using hy)
    exact eq_str_any I hN hd rx t k (show X.A.units + 1 < cLine by omega)
  · have e : its.toArray.any (strB d) = ts.any fun t => PyData.eqv (.str t) d := by
      rw [← Array.any_toList]
      exact any_str d (by simpa using rv)
    rw [e]
    exact ⟨.bl _, H, I, rfl, k⟩
/-- xs != [] -/
def rNeNil (K : PySem.W.Frag) : R2 := fun x y H Q => ∃ (a b : Addr) (xs : List V), x = .ref a ∧ y = .ref b ∧ SqL K H a xs ∧ SqL K H b [] ∧ Q (.bl (!xs.isEmpty)) H
theorem op_neNil {X : Cx} (hu : X.A.units + 65 < cLine) : OpR X (compareOp .NotEq) (rNeNil X.K) := by
  intro pins s σ H x y v u Q I rx ry h
  obtain ⟨a, b, xs, rfl, rfl, ha, hb, k⟩ := h
  cases rx
  cases ry
  obtain ⟨its, rv, pl, _⟩ := I.list ha
  obtain ⟨jts, rw2, pl2, _⟩ := I.list hb
  cases rw2
  have hu2 : X.A.units < cLine := by omega
  show wpAny _ _ (richCompare .NotEq _ _) _ _ s
  cases rv with
  | nil => exact RcNeAt.lists (e := fun _ => true) pl.isList pl2.isList rfl hu2 (fun j h1 => absurd h1 (by simp)) _ _ _ _ ⟨.bl _, H, I, rfl, k⟩
  | cons r1 r2 => exact RcNeAt.lists_lengths pl.isList pl2.isList (by simp) hu2 _ _ _ _ ⟨.bl _, H, I, rfl, k⟩
end De

/-! A list comprehension whose new list is told to be off sys.modules. -/
namespace Dz
open PySem PySem.Spec PyProof.Rows L2 Dv
section
variable {X : Cx}
def tLcZ (wi : TI) (g : TG) (tt : TT) (te : TE) (vs : List Nat) : TE := fun σ H Q => wi σ H fun J H1 => ∀ D, D ≠ sysModules → H1 D = none → ∃ W : Nat → Nat → Hp → Prop, (∃ m, W 0 m (upd H1 D (.lst []))) ∧ ∀ i m H, W i m H →
  (J.stop i H ∧ Q (.ref D) H) ∨ (J.go i H ∧ ∃ Nx : Hp → Prop, (∀ H', Nx H' → ∃ m', m' < m ∧ W (i + 1) m' H') ∧ ∀ x H', J.yld i H x H' → g x (wipe σ vs) H' fun σ2 H2 => wipe σ2 vs = wipe σ vs ∧ tt σ2 H2 fun b H3 =>
    if b = true then te σ2 H3 fun z H5 => ∃ acc, H5 D = some (.lst acc) ∧ acc.length < sizeLine ∧ Nx (upd H5 D (.lst (acc ++ [z]))) else Nx H3)
theorem lcZ_core {pins : List (Addr × Obj)} {t0 : Shared} {σ : L2.St} {G : Hp} {Q : VK} {pos2 : Pos} {use : Option (Value → Sem Unit)} {Qf : Value → Shared → Prop} {elt tg iter : Expr} {ifs : List Expr} {scope : Scope} {own : List (Str × Nat)} {pos : Pos} {wi : TI} {g : TG} {tt : TT} {te : TE} (calm : X.calm = true) (nodup : X.N.Nodup) (hi : PI X tg iter wi) (ok : BlkOk X.N X.env.scope scope own)
    (pg0 : ∀ (s : Shared) (H : Hp) (C : Addr) (cl : List (Str × Addr)) (fp : List Addr), PG (X.blk s H scope (compEnvC scope cl C X.env) fp) tg g) (pt0 : ∀ (s : Shared) (H : Hp) (C : Addr) (cl : List (Str × Addr)) (fp : List Addr), PTs (X.blk s H scope (compEnvC scope cl C X.env) fp) ifs tt)
    (pv0 : ∀ (s : Shared) (H : Hp) (C : Addr) (cl : List (Str × Addr)) (fp : List Addr), PE (X.blk s H scope (compEnvC scope cl C X.env) fp) elt te)
    (folded : ∀ x, foldedSetIterable iter X.env x = pure x) (I0 : Inv X pins σ G t0) (h : tLcZ wi g tt te (own.map (·.2)) σ G Q)
    (out : ∀ D C t9 m G9, Inv X pins σ G9 t9 → Q (.ref D) G9 → t9.heap.Ns C m → FpOk X pins G9 C → compPost (model X.prog X.w) X.A X.xe use Qf (.ref D) C (.ok .next) t9) :
    wpAny (model X.prog X.w) X.A (comprehension (.ListComp elt [⟨tg, iter, ifs, 0⟩] scope pos) scope X.env pos2 (newList []) false (eval iter X.env) use) Qf X.xe t0 := by
  have free : ∀ y ∈ scope.names, y.2 = .free → ∃ c, X.env.cells.lookup y.1 = some c := fun y hy e => by
    cases ok.free y hy e with
    | inl k => exact I0.ok.has _ (.inl k)
    | inr k => exact I0.ok.has _ (.inr k)
  refine wpAny_comprehension_free (use := use) rfl folded (closure_ok free) ok.kind (fun y hy e => by rw [ok.uniq y hy, e]) (thn (hi.run pins t0 σ G _ I0 h) fun xv t1 hx => thn hx fun itv t2 h2 => ?_)
  obtain ⟨it, fp, tn, J, G2, eit, I2, T, st2, f2, q⟩ := h2
  subst eit
  refine wpAny_newObj_type (newEnv_comp ?_) (by show 0 ≤ sizeLine; decide)
  generalize eD : t2.heap.objs.size = D
  have hDn : G2 D = none := I2.hok.fresh (Nat.le_of_eq eD)
  obtain ⟨W, ⟨m0, w0⟩, turn⟩ := q D (by rw [← eD]; exact Nat.ne_of_gt I2.big) hDn
  generalize e3 : ({ t2 with heap := t2.heap.push { cls := .type "list", data := .seq ([] : List Value).toArray } } : Shared) = t3
  have I3 : Inv X pins σ (upd G2 D (.lst [])) t3 := by
    subst e3
    refine I2.laid (t' := t2.toks) (fun b o e => Heap.get?_push_of_some _ e) (Nat.le_of_eq eD) ?_
    subst eD
    exact ⟨Nat.zero_le _, [], 0, .nil, Heap.get?_push_size _ rfl⟩
  have hp3 : t3.heap = t2.heap.push { cls := .type "list", data := .seq ([] : List Value).toArray } := by subst e3; rfl
  have below : ∀ b ∈ fp, b < t2.heap.objs.size := fun b hb => let ⟨o, e, _⟩ := T.obj _ _ st2 b hb; Heap.lt_size e
  have f3 : ∀ b ∈ fp, FpOk X pins (upd G2 D (.lst [])) b ∧ b < t3.heap.objs.size := fun b hb => by
    have lt := below b hb
    refine ⟨⟨?_, (f2 b hb).2⟩, by rw [hp3, Heap.size_push]; exact Nat.lt_succ_of_lt lt⟩
    rw [upd_ne (Nat.ne_of_lt (by rw [← eD]; exact lt))]
    exact (f2 b hb).1
  have st3 : tn 0 t3.heap := T.keep _ _ _ st2 fun b _ o e => by rw [hp3]; exact Heap.get?_push_of_some _ e
  have I4 := block_start I3 ok nodup f3
  have pg := pg0 t3 (upd G2 D (.lst [])) t3.heap.objs.size (cellsFrom (t3.heap.objs.size + 1) scope.names (cloFrom X.env.cells scope.names [])) fp
  have pt := pt0 t3 (upd G2 D (.lst [])) t3.heap.objs.size (cellsFrom (t3.heap.objs.size + 1) scope.names (cloFrom X.env.cells scope.names [])) fp
  have pe := pv0 t3 (upd G2 D (.lst [])) t3.heap.objs.size (cellsFrom (t3.heap.objs.size + 1) scope.names (cloFrom X.env.cells scope.names [])) fp
  have none3 : ∀ b ∈ fp, (upd G2 D (.lst [])) b = none := fun b hb => (f3 b hb).1.1
  show codeAny _ _ (.compStart (.ListComp elt [⟨tg, iter, ifs, 0⟩] scope pos) 0 (.ref it) (.ref D) (compEnvC scope (cellsFrom (t3.heap.objs.size + 1) scope.names (cloFrom X.env.cells scope.names [])) t3.heap.objs.size X.env)) (compPost (model X.prog X.w) X.A X.xe use Qf (.ref D) t3.heap.objs.size) _
  generalize ece : compEnvC scope (cellsFrom (t3.heap.objs.size + 1) scope.names (cloFrom X.env.cells scope.names [])) t3.heap.objs.size X.env = ce at I4 pg pt pe ⊢
  have locs : ce.locals = t3.heap.objs.size := by subst ece; rfl
  generalize eG3 : upd G2 D (.lst []) = G3 at I3 I4 pg pt pe w0 none3 f3
  generalize e4 : ({ t3 with heap := pushCells (t3.heap.push { cls := .type "dict", data := .dict #[] }) scope.names } : Shared) = t4 at I4 ⊢
  have st4 : tn 0 t4.heap := T.keep _ _ _ st3 fun b _ o e => by subst e4; exact pushCells_keeps _ _ _ _ (Heap.get?_push_of_some _ e)
  have apart : ∀ {σ' : L2.St} {G' : Hp} {t' : Shared}, Inv (X.blk t3 G3 scope ce fp) [] σ' G' t' → (∀ b ∈ fp, G' b = none) → ∀ b ∈ fp, FpOk (X.blk t3 G3 scope ce fp) [] G' b := fun {σ' G' t'} I' hn b hb =>
    ⟨hn b hb, (I'.ok.exf b hb).1, I'.ok.exfs b hb, .inl hb, fun x c e => (I'.ok.exf b hb).2 x c e, fun p hp => absurd (show p ∈ ([] : List (Addr × Obj)) ++ [] from hp) (by simp)⟩
  refine codeAny_compStart_list ?_ (T.self X.A 0 _ _ _ st4 ?_)
  all_goals
    refine compLoop_any (fun n t' => ∃ i G', Inv (X.blk t3 G3 scope ce fp) [] (wipe σ (own.map (·.2))) G' t' ∧ tn i t'.heap ∧ (∀ b ∈ fp, G' b = none) ∧ W i n G') ?_ m0 ⟨0, G3, I4, st4, none3, w0⟩
    rintro n t5 ⟨i, G5, I5, st5, n5, w5⟩
    rcases turn i n G5 w5 with ⟨stop, qq⟩ | ⟨go, Nx, hNx, step⟩
    · refine thnF (T.done (X.blk t3 G3 scope ce fp) rfl rfl rfl calm i [] t5 _ G5 (fun _ _ => False) I5 (apart I5 n5) st5 stop) fun r t6 ⟨hr, I6⟩ => ?_
      subst hr
      have I7 : Inv X pins σ G5 t6 := I3.call' (ch := fp) I6.os I6.base I6.hok I6.bare fun b hb => ⟨(f3 b hb).1.2.2.2.1, (f3 b hb).1.2.1, (f3 b hb).1.2.2.2.2.1, (f3 b hb).1.2.2.2.2.2⟩
      have nC : G5 t3.heap.objs.size = none := by
        have z : G5 ce.locals = none := I6.free
        rwa [locs] at z
      obtain ⟨m, hn, _⟩ := I6.loc
      have hn : t6.heap.Ns ce.locals m := hn
      rw [locs] at hn
      exact out D _ _ m G5 I7 qq hn (I3.fpOk (Nat.le_refl _) nC)
    · refine thnF (T.item (X.blk t3 G3 scope ce fp) rfl rfl rfl calm i [] t5 _ G5 (fun _ _ => False) I5 (apart I5 n5) st5 go) fun r t6 ⟨u, hr, h6⟩ => ?_
      subst hr
      refine thnF h6 fun _ t7 ⟨x, G7, I7, r7, y7, st7, n7⟩ => ?_
      have I7' := I7.pinned (apart I7 n7) (T.obj _ _ st7)
      refine thnF (pg.run _ t7 _ G7 x u _ I7' r7 (step x G7 y7)) fun _ t8 ⟨σ8, G8, I8, hw8, q8⟩ => ?_
      refine thnF (pt.run _ t8 σ8 G8 _ I8 q8) fun b t9 ⟨G9, I9, q9⟩ => ?_
      have fin : ∀ {t' : Shared} {G' : Hp}, Inv (X.blk t3 G3 scope ce fp) ([] ++ pinsAt fp t7.heap) σ8 G' t' → Nx G' → ∃ m, m < n ∧ ∃ i G', Inv (X.blk t3 G3 scope ce fp) [] (wipe σ (own.map (·.2))) G' t' ∧ tn i t'.heap ∧ (∀ b ∈ fp, G' b = none) ∧ W i m G' := by
        intro t' G' I' nx
        obtain ⟨m', hm, w'⟩ := hNx G' nx
        have pin' : ∀ b ∈ fp, ∀ o, t7.heap.get? b = some o → t'.heap.get? b = some o ∧ G' b = none := fun b hb o e => let z := I'.pin (b, o) (List.mem_append_right _ (List.mem_append_right _ (mem_pinsAt hb e))); ⟨z.1, z.2.1⟩
        have wl : (wipe σ (own.map (·.2))).length = σ8.length := by rw [← hw8, wipe_length]
        refine ⟨m', hm, i + 1, G', (I'.unpinned (pins := [])).weak wl (fun j v e => ?_), T.keep _ _ _ st7 fun b hb o e => (pin' b hb o e).1, fun b hb => ?_, w'⟩
        · rw [← hw8] at e
          exact (wipe_some e).1
        · obtain ⟨o, e, _⟩ := T.obj _ _ st7 b hb
          exact (pin' b hb o e).2
      cases b with
      | false => exact fin I9 q9
      | true =>
        refine thnF (pe.run _ t9 σ8 G9 _ I9 q9) fun z2 t11 ⟨yv, G11, I11, r11, acc, hDacc, l11, nx⟩ => ?_
        exact app_ok (X := X.blk t3 G3 scope ce fp) I11 hDacc l11 r11 fun t12 I12 => fin I12 nx
theorem pe_lcZ {elt tg iter : Expr} {ifs : List Expr} {scope : Scope} {own : List (Str × Nat)} {pos : Pos} {wi : TI} {g : TG} {tt : TT} {te : TE} (calm : X.calm = true) (nodup : X.N.Nodup) (hi : PI X tg iter wi) (ok : BlkOk X.N X.env.scope scope own)
    (pg0 : ∀ (s : Shared) (H : Hp) (C : Addr) (cl : List (Str × Addr)) (fp : List Addr), PG (X.blk s H scope (compEnvC scope cl C X.env) fp) tg g) (pt0 : ∀ (s : Shared) (H : Hp) (C : Addr) (cl : List (Str × Addr)) (fp : List Addr), PTs (X.blk s H scope (compEnvC scope cl C X.env) fp) ifs tt)
    (pv0 : ∀ (s : Shared) (H : Hp) (C : Addr) (cl : List (Str × Addr)) (fp : List Addr), PE (X.blk s H scope (compEnvC scope cl C X.env) fp) elt te)
    (folded : ∀ x, foldedSetIterable iter X.env x = pure x := by intro _; rfl) : PE X (.ListComp elt [⟨tg, iter, ifs, 0⟩] scope pos) (tLcZ wi g tt te (own.map (·.2))) := by
  constructor
  intro pins t0 σ G Q I0 h
  rw [eval_ListComp]
  refine lcZ_core calm nodup hi ok pg0 pt0 pv0 folded I0 h fun D C t9 m G9 I9 q hn f => ⟨m, hn, fun h2 sb => ?_⟩
  obtain ⟨g0, g1, g2, g3, g4, g5⟩ := f
  exact ⟨.ref D, G9, I9.turned (t' := t9.toks) (fun b o hb e => (sb.2 b hb).trans e) g0 g1 g3 g4 g5, rfl, q⟩
/-- y = {k: v for x in xs}, y a plain local name on one line with it -/
theorem ps_setLcZ {i : Nat} {y : Str} {py spos : Pos} {elt tg iter : Expr} {ifs : List Expr} {scope : Scope} {own : List (Str × Nat)} {pos : Pos} {wi : TI} {g : TG} {tt : TT} {te : TE} (hy : X.N[i]? = some y) (hyl : X.env.scope.names.lookup y = some .local) (sw : swapsWith (.ListComp elt [⟨tg, iter, ifs, 0⟩] scope pos) (some (.Name y py)) spos.line X.env = pure true) (calm : X.calm = true) (nodup : X.N.Nodup) (hi : PI X tg iter wi) (ok : BlkOk X.N X.env.scope scope own)
    (pg0 : ∀ (s : Shared) (H : Hp) (C : Addr) (cl : List (Str × Addr)) (fp : List Addr), PG (X.blk s H scope (compEnvC scope cl C X.env) fp) tg g) (pt0 : ∀ (s : Shared) (H : Hp) (C : Addr) (cl : List (Str × Addr)) (fp : List Addr), PTs (X.blk s H scope (compEnvC scope cl C X.env) fp) ifs tt)
    (pv0 : ∀ (s : Shared) (H : Hp) (C : Addr) (cl : List (Str × Addr)) (fp : List Addr), PE (X.blk s H scope (compEnvC scope cl C X.env) fp) elt te)
    (folded : ∀ x, foldedSetIterable iter X.env x = pure x := by intro _; rfl) : PS X (.Assign [.Name y py] (.ListComp elt [⟨tg, iter, ifs, 0⟩] scope pos) spos) (tAsg (tLcZ wi g tt te (own.map (·.2))) (gName i)) := by
  constructor
  intro pins t0 σ G D0 I0 h
  rw [exec_Assign_Name_used _ _ _ _ sw]
  refine wpAny_bind (wpAny_standAt (wpAny_bind ?_))
  show wpAny _ X.A (do let _ ← comprehension (.ListComp elt [⟨tg, iter, ifs, 0⟩] scope pos) scope X.env (firstIterPos [⟨tg, iter, ifs, 0⟩] pos) (newList []) false (eval iter X.env) (some (assign (.Name y py) X.env))) _ _ t0
  have h : tLcZ wi g tt te (own.map (·.2)) σ G (fun x G1 => gName i x σ G1 D0.nx) := h
  refine wpAny_bind (thn (lcZ_core (Qf := fun _ t9 => SP X pins D0 .next t9) calm nodup hi ok pg0 pt0 pv0 folded I0 h fun D C t9 m G9 I9 q hn f => ?_) fun _ t9 hq => wpAny_pure (wpAny_pure hq))
  show wpAny _ _ (assign (.Name y py) X.env (.ref D)) _ _ _
  refine wpAny_assign_Name (store_ok2 (v := V.ref D) I9 nodup hy (.inl hyl) rfl (fun t2 I2 ⟨a, sb, ha⟩ => ?_) (.inr hyl))
  obtain ⟨g0, g1, g2, g3, g4, g5⟩ := f
  have ca : C ≠ a := by
    cases ha with
    | inl z => rw [z]; exact g1
    | inr z => exact fun e => g4 y a z e.symm
  refine ⟨m, hn.sameBut sb ca, fun h3 sb3 => ?_⟩
  exact ⟨_, G9, I2.turned (t' := t2.toks) (fun b o hb e => (sb3.2 b hb).trans e) g0 g1 g3 g4 g5, q⟩
/-- {} off sys.modules -/
def tDnewZ : TE := fun _ H Q => ∀ p, p ≠ sysModules → H p = none → Q (.ref p) (upd H p (.dK []))
theorem pe_dnewZ {pos : Pos} : PE X (.Dict [] [] pos) tDnewZ := by
  constructor
  intro pins t σ G Q I h
  refine wpAny_Dict_empty ?_
  exact ⟨.ref t.heap.objs.size, _, I.laid (a := t.heap.objs.size) (t' := t.toks) (fun _ _ e => Heap.get?_push_of_some _ e) (Nat.le_refl _) (dk_empty t.heap I.big), rfl, h _ (Nat.ne_of_gt I.big) (I.hok.fresh (Nat.le_refl _))⟩
/-- xs[i], one of two readings -/
def rIxLT (K : PySem.W.Frag) : R2 := fun x y H Q => rIxL K x y H Q ∨ rIxT K x y H Q
theorem ix_lt : IxR X (rIxLT X.K) := by
  intro value slice pins s σ H x y v u Q I rx ry h e
  rcases h with h | h
  · exact ix_list value slice pins s σ H x y v u Q I rx ry h e
  · exact ix_tup value slice pins s σ H x y v u Q I rx ry h e
/-- a target, one of two readings -/
theorem pg_or {t : Expr} {g1 g2 : TG} (a : PG X t g1) (b : PG X t g2) : PG X t (fun v σ H k => g1 v σ H k ∨ g2 v σ H k) := by
  constructor
  intro pins s σ H v u Q I r h
  rcases h with h | h
  · exact a.run pins s σ H v u Q I r h
  · exact b.run pins s σ H v u Q I r h
/-- a tuple of targets, for a tuple or a list -/
def gTL (K : PySem.W.Frag) (n : Nat) (t : TGs) : TG := fun v σ H k => gTup K n t v σ H k ∨ gLst K n t v σ H k
theorem pg_tl {es : List Expr} {c : Nat} {pos : Pos} {t : TGs} {n : Nat} (hc : X.calm = true) (h : PGs X es t) (hn : (assignEach es X.env).length = n := by rfl) (hst : (assignEach es X.env).findIdx? (·.1) = none := by rfl) : PG X (.Tuple es c pos) (gTL X.K n t) := pg_or (pg_tup hc h hn hst) (pg_lst hc h hn hst)
end
end Dz

/-! Two statements, their reading told by an equation. -/
namespace St2
open PySem PySem.Spec PyProof.Rows L2
theorem pss_two {X : Cx} {a b : Stmt} {t u v : TS} (h : PS X a t) (g : PS X b u) (e : v = tSeq t u) : PSs X [a, b] v := by
  subst e
  exact pss_cons h (pss_one g)
end St2

namespace K06
open PySem L2
def top (i : Nat) : Stmt := PySem.Challenge.pw_wheelchorus_k06_towns_refused.main.body.getD i (.Pass ⟨0, 0, 0, 0⟩)
abbrev s_is_whole : Stmt := top 6
abbrev s_is_whole_within : Stmt := top 7
abbrev s_is_sequence : Stmt := top 8
abbrev s_is_number : Stmt := top 13
abbrev s_is_sort : Stmt := top 19
abbrev s_has_double : Stmt := top 20
abbrev s_are_loops : Stmt := top 22
abbrev s_check_boxes : Stmt := top 23
abbrev s_check_town : Stmt := top 21
abbrev s_init : Stmt := inClass (top 18) 2
abbrev s_bag : Stmt := top 25
abbrev s_draw : Stmt := top 26
abbrev s_number : Stmt := top 27
abbrev s_numbers : Stmt := top 28
abbrev s_loops : Stmt := top 29
abbrev s_spot : Stmt := top 30
abbrev s_boxes_spoilt : Stmt := top 31
abbrev s_loops_spoilt : Stmt := top 32
abbrev s_formed : Stmt := top 33
abbrev s_rules : Stmt := top 34
abbrev s_row : Stmt := top 35
abbrev s_wis_number : Stmt := top 36
abbrev s_word : Stmt := top 37
abbrev s_whole : Stmt := top 38
abbrev s_made : Stmt := top 39
abbrev s_told : Stmt := top 40
abbrev s_law : Stmt := top 41
abbrev nm_is_whole : List Str := ["thing"]
theorem sc_is_whole : FnScope nm_is_whole ["thing"] (defScope s_is_whole) :=
  ⟨rfl, rfl, rfl, by decide +kernel, rfl, by decide +kernel, by decide +kernel⟩
abbrev nm_is_whole_within : List Str := ["thing", "low", "high"]
theorem sc_is_whole_within : FnScope nm_is_whole_within ["thing", "low", "high"] (defScope s_is_whole_within) :=
  ⟨rfl, rfl, rfl, by decide +kernel, rfl, by decide +kernel, by decide +kernel⟩
abbrev nm_is_sequence : List Str := ["thing"]
theorem sc_is_sequence : FnScope nm_is_sequence ["thing"] (defScope s_is_sequence) :=
  ⟨rfl, rfl, rfl, by decide +kernel, rfl, by decide +kernel, by decide +kernel⟩
abbrev nm_is_number : List Str := ["thing", "letter"]
theorem sc_is_number : FnScope nm_is_number ["thing"] (defScope s_is_number) :=
  ⟨rfl, rfl, rfl, by decide +kernel, rfl, by decide +kernel, by decide +kernel⟩
abbrev nm_is_sort : List Str := ["thing"]
theorem sc_is_sort : FnScope nm_is_sort ["thing"] (defScope s_is_sort) :=
  ⟨rfl, rfl, rfl, by decide +kernel, rfl, by decide +kernel, by decide +kernel⟩
abbrev nm_has_double : List Str := ["boxes", "number", "_"]
theorem sc_has_double : FnScope nm_has_double ["boxes"] (defScope s_has_double) :=
  ⟨rfl, rfl, rfl, by decide +kernel, rfl, by decide +kernel, by decide +kernel⟩
abbrev nm_are_loops : List Str := ["thing", "loop"]
theorem sc_are_loops : FnScope nm_are_loops ["thing"] (defScope s_are_loops) :=
  ⟨rfl, rfl, rfl, by decide +kernel, rfl, by decide +kernel, by decide +kernel⟩
abbrev nm_check_boxes : List Str := ["boxes", "box", "number", "_", "sort"]
theorem sc_check_boxes : FnScope nm_check_boxes ["boxes"] (defScope s_check_boxes) :=
  ⟨rfl, rfl, rfl, by decide +kernel, rfl, by decide +kernel, by decide +kernel⟩
abbrev nm_check_town : List Str := ["loops", "rounds", "hear", "loop", "box"]
theorem sc_check_town : FnScope nm_check_town ["loops", "rounds", "hear"] (defScope s_check_town) :=
  ⟨rfl, rfl, rfl, by decide +kernel, rfl, by decide +kernel, by decide +kernel⟩
abbrev nm_init : List Str := ["self", "loops", "rounds", "hear", "loop", "box", "number", "_"]
theorem sc_init : FnScope nm_init ["self", "loops", "rounds", "hear"] (defScope s_init) :=
  ⟨rfl, rfl, rfl, by decide +kernel, rfl, by decide +kernel, by decide +kernel⟩
abbrev nm_bag : List Str := ["_law_script", "_law_cells", "_law_cell"]
theorem sc_bag : FnScope nm_bag ["_law_script"] (defScope s_bag) :=
  ⟨rfl, rfl, rfl, by decide +kernel, rfl, by decide +kernel, by decide +kernel⟩
abbrev nm_draw : List Str := ["_law_bag_here", "_law_limit", "_law_digit"]
theorem sc_draw : FnScope nm_draw ["_law_bag_here", "_law_limit"] (defScope s_draw) :=
  ⟨rfl, rfl, rfl, by decide +kernel, rfl, by decide +kernel, by decide +kernel⟩
abbrev nm_number : List Str := ["_law_bag_here", "_law_many", "_law_way", "_law_top", "_law_word_here", "_law_left", "_law_k", "_law_digit"]
theorem sc_number : FnScope nm_number ["_law_bag_here"] (defScope s_number) :=
  ⟨rfl, rfl, rfl, by decide +kernel, rfl, by decide +kernel, by decide +kernel⟩
abbrev nm_numbers : List Str := ["_law_bag_here", "_law_many", "_law_found", "_law_spare", "_law_k", "_law_number_here", "_law_free", "_law_one"]
theorem sc_numbers : FnScope nm_numbers ["_law_bag_here", "_law_many"] (defScope s_numbers) :=
  ⟨rfl, rfl, rfl, by decide +kernel, rfl, by decide +kernel, by decide +kernel⟩
abbrev nm_loops : List Str := ["_law_bag_here", "_law_sizes", "_law_k", "_law_numbers_here", "_law_loops_here", "_law_size"]
theorem sc_loops : FnScope nm_loops ["_law_bag_here"] (defScope s_loops) :=
  ⟨rfl, rfl, rfl, by decide +kernel, rfl, by decide +kernel, by decide +kernel⟩
abbrev nm_spot : List Str := ["_law_bag_here", "_law_loops_here", "_law_at"]
theorem sc_spot : FnScope nm_spot ["_law_bag_here", "_law_loops_here"] (defScope s_spot) :=
  ⟨rfl, rfl, rfl, by decide +kernel, rfl, by decide +kernel, by decide +kernel⟩
abbrev nm_boxes_spoilt : List Str := ["_law_bag_here", "_law_loops_here", "_law_ways", "_law_k", "_law_spots", "_law_draws", "_law_row_here", "_law_first", "_law_box"]
theorem sc_boxes_spoilt : FnScope nm_boxes_spoilt ["_law_bag_here", "_law_loops_here"] (defScope s_boxes_spoilt) :=
  ⟨rfl, rfl, rfl, by decide +kernel, rfl, by decide +kernel, by decide +kernel⟩
abbrev nm_loops_spoilt : List Str := ["_law_bag_here", "_law_loops_here", "_law_way", "_law_at"]
theorem sc_loops_spoilt : FnScope nm_loops_spoilt ["_law_bag_here", "_law_loops_here"] (defScope s_loops_spoilt) :=
  ⟨rfl, rfl, rfl, by decide +kernel, rfl, by decide +kernel, by decide +kernel⟩
abbrev nm_formed : List Str := ["_law_bag_here", "_law_loops_here", "_law_form", "_law_rows", "_law_loop", "_law_row_here", "_law_box"]
theorem sc_formed : FnScope nm_formed ["_law_bag_here", "_law_loops_here"] (defScope s_formed) :=
  ⟨rfl, rfl, rfl, by decide +kernel, rfl, by decide +kernel, by decide +kernel⟩
abbrev nm_rules : List Str := ["_law_bag_here", "_law_rules_here"]
theorem sc_rules : FnScope nm_rules ["_law_bag_here"] (defScope s_rules) :=
  ⟨rfl, rfl, rfl, by decide +kernel, rfl, by decide +kernel, by decide +kernel⟩
abbrev nm_row : List Str := ["_law_thing", "_law_least", "_law_most"]
theorem sc_row : FnScope nm_row ["_law_thing", "_law_least", "_law_most"] (defScope s_row) :=
  ⟨rfl, rfl, rfl, by decide +kernel, rfl, by decide +kernel, by decide +kernel⟩
abbrev nm_wis_number : List Str := ["_law_thing", "_law_sign"]
theorem sc_wis_number : FnScope nm_wis_number ["_law_thing"] (defScope s_wis_number) :=
  ⟨rfl, rfl, rfl, by decide +kernel, rfl, by decide +kernel, by decide +kernel⟩
abbrev nm_word : List Str := ["_law_loops_here", "_law_rules_here", "_law_loop", "_law_boxes", "_law_box", "_law_names", "_law_k"]
theorem sc_word : FnScope nm_word ["_law_loops_here", "_law_rules_here"] (defScope s_word) :=
  ⟨rfl, rfl, rfl, by decide +kernel, rfl, by decide +kernel, by decide +kernel⟩
abbrev nm_whole : List Str := ["_law_thing"]
theorem sc_whole : FnScope nm_whole ["_law_thing"] (defScope s_whole) :=
  ⟨rfl, rfl, rfl, by decide +kernel, rfl, by decide +kernel, by decide +kernel⟩
abbrev nm_made : List Str := ["_law_loops_here", "_law_rules_here", "_law_town", "e"]
theorem sc_made : FnScope nm_made ["_law_loops_here", "_law_rules_here"] (defScope s_made) :=
  ⟨rfl, rfl, rfl, by decide +kernel, rfl, by decide +kernel, by decide +kernel⟩
abbrev nm_told : List Str := ["_law_loops_here", "_law_loop", "_law_box"]
theorem sc_told : FnScope nm_told ["_law_loops_here"] (defScope s_told) :=
  ⟨rfl, rfl, rfl, by decide +kernel, rfl, by decide +kernel, by decide +kernel⟩
abbrev nm_law : List Str := ["_law_script", "_law_bag_here", "_law_loops_here", "_law_rules_here", "_law_kept", "_law_word_here", "_law_told_here", "_law_due", "_law_names", "_law_loop", "_law_box", "_law_town", "_law_row_here"]
theorem sc_law : FnScope nm_law ["_law_script"] (defScope s_law) :=
  ⟨rfl, rfl, rfl, by decide +kernel, rfl, by decide +kernel, by decide +kernel⟩
set_option genInjectivity false in
set_option genSizeOf false in
set_option genSizeOfSpec false in
structure Txt (K : PySem.W.Frag) (mg : Str → Option Value) where
  C : Addr
  isi : SlX.SIsi K C
  kS : PySem.W.kitOne K (.ref C) (.ref C) = some true
  CT : Addr
  fT : Addr
  lowT : PySem.LowT.LowTxt K mg CT fT
  Wc : Addr
  Rc : Addr
  gWc : mg "WheelError" = some (.ref Wc)
  gRc : mg "BadRow" = some (.ref Rc)
  kTW : PySem.W.kitOne K (.ref CT) (.ref Wc) = some true
  kTR : PySem.W.kitOne K (.ref CT) (.ref Rc) = some false
  xcT : ExcC K CT
  cliT : (PySem.W.clsIn K CT).isSome = true
  sfC : PySem.W.notFirst K C (.ref C) = true
  gC : mg "Town" = some (.ref C)
  clC : Cls K C
  mc : Value
  rd : ClX.CRead K C mc
  uP : Value
  uS : Value
  vP : ClX.CVal K C mc "PLAIN" (.str "plain") uP
  vS : ClX.CVal K C mc "SHY" (.str "shy") uS
  nL : NoAttr K C "loops"
  nR : NoAttr K C "rounds"
  nH : NoAttr K C "hear"
  nN : NoAttr K C "numbers"
  a_is_whole : Addr
  d_is_whole : FuncData
  F_is_whole : Fun K "is_whole" "is_whole" s_is_whole a_is_whole d_is_whole
  b_is_whole : Binds K d_is_whole ["thing"] []
  g_is_whole : mg "is_whole" = some (.ref a_is_whole)
  a_is_whole_within : Addr
  d_is_whole_within : FuncData
  F_is_whole_within : Fun K "is_whole_within" "is_whole_within" s_is_whole_within a_is_whole_within d_is_whole_within
  b_is_whole_within : Binds K d_is_whole_within ["thing", "low", "high"] []
  g_is_whole_within : mg "is_whole_within" = some (.ref a_is_whole_within)
  a_is_sequence : Addr
  d_is_sequence : FuncData
  F_is_sequence : Fun K "is_sequence" "is_sequence" s_is_sequence a_is_sequence d_is_sequence
  b_is_sequence : Binds K d_is_sequence ["thing"] []
  g_is_sequence : mg "is_sequence" = some (.ref a_is_sequence)
  a_is_number : Addr
  d_is_number : FuncData
  F_is_number : Fun K "is_number" "is_number" s_is_number a_is_number d_is_number
  b_is_number : Binds K d_is_number ["thing"] []
  g_is_number : mg "is_number" = some (.ref a_is_number)
  a_is_sort : Addr
  d_is_sort : FuncData
  F_is_sort : Fun K "is_sort" "is_sort" s_is_sort a_is_sort d_is_sort
  b_is_sort : Binds K d_is_sort ["thing"] []
  g_is_sort : mg "is_sort" = some (.ref a_is_sort)
  a_has_double : Addr
  d_has_double : FuncData
  F_has_double : Fun K "has_double" "has_double" s_has_double a_has_double d_has_double
  b_has_double : Binds K d_has_double ["boxes"] []
  g_has_double : mg "has_double" = some (.ref a_has_double)
  a_are_loops : Addr
  d_are_loops : FuncData
  F_are_loops : Fun K "are_loops" "are_loops" s_are_loops a_are_loops d_are_loops
  b_are_loops : Binds K d_are_loops ["thing"] []
  g_are_loops : mg "are_loops" = some (.ref a_are_loops)
  a_check_boxes : Addr
  d_check_boxes : FuncData
  F_check_boxes : Fun K "check_boxes" "check_boxes" s_check_boxes a_check_boxes d_check_boxes
  b_check_boxes : Binds K d_check_boxes ["boxes"] []
  g_check_boxes : mg "check_boxes" = some (.ref a_check_boxes)
  a_check_town : Addr
  d_check_town : FuncData
  F_check_town : Fun K "check_town" "check_town" s_check_town a_check_town d_check_town
  b_check_town : Binds K d_check_town ["loops", "rounds", "hear"] []
  g_check_town : mg "check_town" = some (.ref a_check_town)
  a_init : Addr
  d_init : FuncData
  F_init : FunD K "__init__" "Town.__init__" (defArgs s_init) (defBody s_init) (defScope s_init) [] [("hear", V.int 1)] a_init d_init
  mk_init : Mk K C a_init
  a_bag : Addr
  d_bag : FuncData
  F_bag : Fun K "_law_bag" "_law_bag" s_bag a_bag d_bag
  b_bag : Binds K d_bag ["_law_script"] []
  g_bag : mg "_law_bag" = some (.ref a_bag)
  a_draw : Addr
  d_draw : FuncData
  F_draw : Fun K "_law_draw" "_law_draw" s_draw a_draw d_draw
  b_draw : Binds K d_draw ["_law_bag_here", "_law_limit"] []
  g_draw : mg "_law_draw" = some (.ref a_draw)
  a_number : Addr
  d_number : FuncData
  F_number : Fun K "_law_number" "_law_number" s_number a_number d_number
  b_number : Binds K d_number ["_law_bag_here"] []
  g_number : mg "_law_number" = some (.ref a_number)
  a_numbers : Addr
  d_numbers : FuncData
  F_numbers : Fun K "_law_numbers" "_law_numbers" s_numbers a_numbers d_numbers
  b_numbers : Binds K d_numbers ["_law_bag_here", "_law_many"] []
  g_numbers : mg "_law_numbers" = some (.ref a_numbers)
  a_loops : Addr
  d_loops : FuncData
  F_loops : Fun K "_law_loops" "_law_loops" s_loops a_loops d_loops
  b_loops : Binds K d_loops ["_law_bag_here"] []
  g_loops : mg "_law_loops" = some (.ref a_loops)
  a_spot : Addr
  d_spot : FuncData
  F_spot : Fun K "_law_spot" "_law_spot" s_spot a_spot d_spot
  b_spot : Binds K d_spot ["_law_bag_here", "_law_loops_here"] []
  g_spot : mg "_law_spot" = some (.ref a_spot)
  a_boxes_spoilt : Addr
  d_boxes_spoilt : FuncData
  F_boxes_spoilt : Fun K "_law_boxes_spoilt" "_law_boxes_spoilt" s_boxes_spoilt a_boxes_spoilt d_boxes_spoilt
  b_boxes_spoilt : Binds K d_boxes_spoilt ["_law_bag_here", "_law_loops_here"] []
  g_boxes_spoilt : mg "_law_boxes_spoilt" = some (.ref a_boxes_spoilt)
  a_loops_spoilt : Addr
  d_loops_spoilt : FuncData
  F_loops_spoilt : Fun K "_law_loops_spoilt" "_law_loops_spoilt" s_loops_spoilt a_loops_spoilt d_loops_spoilt
  b_loops_spoilt : Binds K d_loops_spoilt ["_law_bag_here", "_law_loops_here"] []
  g_loops_spoilt : mg "_law_loops_spoilt" = some (.ref a_loops_spoilt)
  a_formed : Addr
  d_formed : FuncData
  F_formed : Fun K "_law_formed" "_law_formed" s_formed a_formed d_formed
  b_formed : Binds K d_formed ["_law_bag_here", "_law_loops_here"] []
  g_formed : mg "_law_formed" = some (.ref a_formed)
  a_rules : Addr
  d_rules : FuncData
  F_rules : Fun K "_law_rules" "_law_rules" s_rules a_rules d_rules
  b_rules : Binds K d_rules ["_law_bag_here"] []
  g_rules : mg "_law_rules" = some (.ref a_rules)
  a_row : Addr
  d_row : FuncData
  F_row : Fun K "_law_row" "_law_row" s_row a_row d_row
  b_row : Binds K d_row ["_law_thing", "_law_least", "_law_most"] []
  g_row : mg "_law_row" = some (.ref a_row)
  a_wis_number : Addr
  d_wis_number : FuncData
  F_wis_number : Fun K "_law_is_number" "_law_is_number" s_wis_number a_wis_number d_wis_number
  b_wis_number : Binds K d_wis_number ["_law_thing"] []
  g_wis_number : mg "_law_is_number" = some (.ref a_wis_number)
  a_word : Addr
  d_word : FuncData
  F_word : Fun K "_law_word" "_law_word" s_word a_word d_word
  b_word : Binds K d_word ["_law_loops_here", "_law_rules_here"] []
  g_word : mg "_law_word" = some (.ref a_word)
  a_whole : Addr
  d_whole : FuncData
  F_whole : Fun K "_law_whole" "_law_whole" s_whole a_whole d_whole
  b_whole : Binds K d_whole ["_law_thing"] []
  g_whole : mg "_law_whole" = some (.ref a_whole)
  a_made : Addr
  d_made : FuncData
  F_made : Fun K "_law_made" "_law_made" s_made a_made d_made
  b_made : Binds K d_made ["_law_loops_here", "_law_rules_here"] []
  g_made : mg "_law_made" = some (.ref a_made)
  a_told : Addr
  d_told : FuncData
  F_told : Fun K "_law_told" "_law_told" s_told a_told d_told
  b_told : Binds K d_told ["_law_loops_here"] []
  g_told : mg "_law_told" = some (.ref a_told)
  a_law : Addr
  d_law : FuncData
  F_law : Fun K "law" "law" s_law a_law d_law
  b_law : Binds K d_law ["_law_script"] []
  g_law : mg "law" = some (.ref a_law)
  t_DIGITS : Tok
  c_DIGITS : mg "DIGITS" = some (.str "123456789" t_DIGITS)
  t_MOST_DIGITS : Tok
  c_MOST_DIGITS : mg "MOST_DIGITS" = some (.int 4 t_MOST_DIGITS)
  t_GREATEST_SUM : Tok
  c_GREATEST_SUM : mg "GREATEST_SUM" = some (.int 24 t_GREATEST_SUM)
  t_MOST_LOOPS : Tok
  c_MOST_LOOPS : mg "MOST_LOOPS" = some (.int 3 t_MOST_LOOPS)
  t_MOST_BOXES : Tok
  c_MOST_BOXES : mg "MOST_BOXES" = some (.int 10 t_MOST_BOXES)
  t_MOST_ROUNDS : Tok
  c_MOST_ROUNDS : mg "MOST_ROUNDS" = some (.int 8 t_MOST_ROUNDS)
  z_all : mg "all" = none
  z_bool : mg "bool" = none
  z_int : mg "int" = none
  z_isinstance : mg "isinstance" = none
  z_len : mg "len" = none
  z_list : mg "list" = none
  z_min : mg "min" = none
  z_range : mg "range" = none
  z_repr : mg "repr" = none
  z_set : mg "set" = none
  z_str : mg "str" = none
  z_sum : mg "sum" = none
  z_tuple : mg "tuple" = none
  kb2 : KBn K d_init ["self", "loops", "rounds", "hear"] 2 ["rounds", "hear"] (fun us ws => us ++ ws) (fun vs zs => vs ++ zs)
  mv : List Value
  kb : KBn K d_init ["self", "loops", "rounds", "hear"] 2 ["rounds"] (fun us ws => us ++ ws ++ mv) (fun vs zs => vs ++ zs ++ [V.int 1])
end K06

/-! The promises. -/
namespace K06
open PySem L2 Wm Dv De
/-! ### what a datum is -/
def seqO : PyData → Option (List PyData)
  | .list xs => some xs
  | .tuple xs => some xs
  | _ => none
def itm (d : PyData) : List PyData := (seqO d).getD []
def rowB (d : PyData) (lo hi : Nat) : Bool := match seqO d with
  | some xs => decide (lo ≤ xs.length) && decide (xs.length ≤ hi)
  | none => false
def whB : PyData → Bool
  | .int _ => true
  | _ => false
def wbD : PyData → Int → Int → Bool
  | .int i, l, h => decide (l ≤ i) && decide (i ≤ h)
  | _, _, _ => false
def seqB (d : PyData) : Bool := (seqO d).isSome
def loopsB (d : PyData) : Bool := rowB d 1 3 && (itm d).all fun l => rowB l 1 10
def bxs (d : PyData) : List PyData := (itm d).flatMap itm
open Classical in
noncomputable def numB (d : PyData) : Bool := decide (∃ ds, Num ds ∧ d = .str (numS ds))
def sortB (d : PyData) : Bool := PyData.eqv (.str "plain") d || PyData.eqv (.str "shy") d
def fstD (d : PyData) : PyData := (itm d).getD 0 .none
def sndD (d : PyData) : PyData := (itm d).getD 1 .none
open Classical in
noncomputable def dblB (bs : List PyData) : Bool := decide (¬ (bs.map fstD).Nodup)
noncomputable def boxW (bs : List PyData) : Option Str :=
  if (bs.all fun b => rowB b 2 2) = true then
    if (bs.all fun b => numB (fstD b)) = true then
      if (bs.all fun b => sortB (sndD b)) = true then if dblB bs = true then some "double" else none
      else some "sort"
    else some "number"
  else some "box"
def ltD : PyData → PyData → Bool
  | .int i, .int j => decide (i < j)
  | _, _ => false
def rulW (r h : PyData) : Option Str := if wbD r 1 8 = true then if wbD h 1 2 = true then if ltD r h = true then some "hear" else none else some "hear" else some "rounds"
noncomputable def wordF (d r h : PyData) : Option Str := if loopsB d = true then match boxW (bxs d) with
    | some w => some w
    | none => rulW r h
  else some "loops"
def pairD (b : PyData) : PyData := .tuple [fstD b, sndD b]
def townD (d : PyData) : PyData := .tuple ((itm d).map fun l => .tuple ((itm l).map pairD))
def namesD (d : PyData) : List PyData := (bxs d).map fstD
def intD : PyData → Int
  | .int i => i
  | _ => 0
/-- a law's datum: small, shallow, short -/
structure Sm (n : Nat) (d : PyData) : Prop where
  sh : d.showable = true
  dp : d.depth ≤ n
  ls : d.leavesShort 13 = true
def Er (C : Addr) (f : Str) (E : XK) (H : Hp) (x : V) : Prop := ∀ H' d, Same H H' → H' d = some (.xd [(f, x)]) → E (.ref C) (some d) H'
theorem Er.after {C : Addr} {f : Str} {E : XK} {H H1 : Hp} {x : V} (h : Er C f E H x) (s : Same H H1) : Er C f E H1 x := fun H' d s' e => h H' d (s.trans s') e
/-- texts are not too long -/
def TxOk (d : PyData) : Prop := ∀ t, d = .str t → t.length ≤ 100000
def sp_is_whole (K : PySem.W.Frag) : Sp := fun vs H Q _ => ∃ v d N, vs = [v] ∧ En K N H v d ∧ Q (.bl (whB d)) H
def sp_is_whole_within (K : PySem.W.Frag) : Sp := fun vs H Q _ => ∃ v d N, ∃ lo hi : Int, vs = [v, .int lo, .int hi] ∧ En K N H v d ∧ Q (.bl (wbD d lo hi)) H
def sp_is_sequence (K : PySem.W.Frag) : Sp := fun vs H Q _ => ∃ v d N, vs = [v] ∧ En K N H v d ∧ ∀ H', Same H H' → Q (.bl (seqB d)) H'
def sp_is_number (K : PySem.W.Frag) : Sp := fun vs H Q _ => ∃ v d N, vs = [v] ∧ En K N H v d ∧ TxOk d ∧ ∀ H', Same H H' → Q (.bl (numB d)) H'
def sp_is_sort (K : PySem.W.Frag) : Sp := fun vs H Q _ => ∃ v d N, vs = [v] ∧ (∀ a, N a → a ≠ sysModules) ∧ En K N H v d ∧ ∀ H', Same H H' → Q (.bl (sortB d)) H'
def sp_has_double (K : PySem.W.Frag) : Sp := fun vs H Q _ => ∃ (p : Addr) (xs : List V) (ds : List PyData) (N : Addr → Prop), vs = [.ref p] ∧ SqL K H p xs ∧ Ens K N H xs ds ∧ ds.length ≤ 30 ∧ (∀ d ∈ ds, rowB d 2 2 = true ∧ numB (fstD d) = true) ∧ ∀ H', Same H H' → Q (.bl (dblB ds)) H'
def sp_are_loops (K : PySem.W.Frag) : Sp := fun vs H Q _ => ∃ v d N, vs = [v] ∧ En K N H v d ∧ ∀ H', Same H H' → Q (.bl (loopsB d)) H'
/-- a table's items: texts short, dicts off sys.modules -/
structure ItOk (N : Addr → Prop) (ds : List PyData) : Prop where
  off : ∀ a, N a → a ≠ sysModules
  tx : ∀ d ∈ ds, ∀ x ∈ itm d, TxOk x
def sp_check_boxes (K : PySem.W.Frag) (CT : Addr) : Sp := fun vs H Q E => ∃ (p : Addr) (xs : List V) (ds : List PyData) (N : Addr → Prop), vs = [.ref p] ∧ SqL K H p xs ∧ Ens K N H xs ds ∧ ItOk N ds ∧ ds.length ≤ 30 ∧
  (boxW ds = none → ∀ H', Same H H' → Q .non H') ∧ ∀ w, boxW ds = some w → Er CT "what" E H (.str w)
def sp_check_town (K : PySem.W.Frag) (CT : Addr) : Sp := fun vs H Q E => ∃ (x y z : V) (d r h : PyData) (N : Addr → Prop), vs = [x, y, z] ∧ En K N H x d ∧ En K N H y r ∧ En K N H z h ∧ ItOk N (bxs d) ∧
  (wordF d r h = none → ∀ H', Same H H' → Q .non H') ∧ ∀ w, wordF d r h = some w → Er CT "what" E H (.str w)
def TownAt (K : PySem.W.Frag) (C : Addr) (H : Hp) (p : Addr) (dl dn : PyData) (r h : Int) : Prop :=
  ∃ dx fs y y2, H p = some (.ins C dx fs) ∧ fs.lookup ("loops" : Str) = some y ∧ fs.lookup ("rounds" : Str) = some (.int r) ∧ fs.lookup ("hear" : Str) = some (.int h) ∧ fs.lookup ("numbers" : Str) = some y2 ∧
    (∀ m : Str, m ≠ "loops" → m ≠ "rounds" → m ≠ "hear" → m ≠ "numbers" → fs.lookup m = none) ∧ Dt K H y dl ∧ Dt K H y2 dn
def sp_init (K : PySem.W.Frag) (C CT : Addr) : Sp := fun vs H Q E => ∃ (p dx : Addr) (x y z : V) (d r h : PyData) (N : Addr → Prop), vs = [.ref p, x, y, z] ∧ H p = some (.ins C dx []) ∧ En K N H x d ∧ En K N H y r ∧ En K N H z h ∧ ItOk N (bxs d) ∧
  (wordF d r h = none → ∀ H', (∀ q o, q ≠ p → H q = some o → H' q = some o) → TownAt K C H' p (townD d) (.tuple (namesD d)) (intD r) (intD h) → Q .non H') ∧ ∀ w, wordF d r h = some w → Er CT "what" E H (.str w)
/-! ### the law's own -/
def sp_bag (K : PySem.W.Frag) : Sp := fun vs H Q _ => ∃ (a : Addr) (ns : List Int), vs = [.ref a] ∧ SqL K H a (ns.map V.int) ∧ ns.length ≤ 63 ∧ ∀ H' b, Same H H' → Bag H' b 0 → Q (.ref b) H'
def sp_draw (K : PySem.W.Frag) : Sp := fun vs H Q _ => ∃ (b : Addr) (n : Nat) (lim : Int), vs = [.ref b, .int lim] ∧ 0 < lim ∧ lim < 2 ^ 100 ∧ Bag H b n ∧ n ≤ 1000000 ∧
  ∀ H' d, 0 ≤ d → d < lim → Bag H' b (n + 1) → But b H H' → Q (.int d) H'
def sp_number (K : PySem.W.Frag) : Sp := fun vs H Q _ => ∃ (b : Addr) (n : Nat), vs = [.ref b] ∧ Bag H b n ∧ n ≤ 900000 ∧ ∀ H' (ds : List Nat), Num ds → Bag H' b (n + 6) → But b H H' → Q (.str (numS ds)) H'
def sp_numbers (K : PySem.W.Frag) : Sp := fun vs H Q _ => ∃ (b : Addr) (n many : Nat), vs = [.ref b, .int (many : Nat)] ∧ many ≤ 40 ∧ Bag H b n ∧ n ≤ 800000 ∧
  ∀ H' p (dss : List (List Nat)), dss.length = many → (∀ ds ∈ dss, Num ds) → (dss.map numS).Nodup → H p = none → H' p = some (.lst ((dss.map numS).map V.str)) → Bag H' b (n + 6 * many) → But b H H' → Q (.ref p) H'
/-- small data -/
structure Mg (n w : Nat) (d : PyData) : Prop where
  sh : d.showable = true
  ls : d.leavesShort 13 = true
  dp : d.depth ≤ n
  bk : d.bulk ≤ w
def Nz (b : Addr) : Addr → Prop := fun a => a ≠ sysModules ∧ a ≠ b
/-- what stands in a box -/
def VL (K : PySem.W.Frag) (κ : Addr → Nat) (H : Hp) (x : V) : Prop := ∃ d, En K (fun a => κ a = 1) H x d ∧ Mg 1 20 d
/-- the lists' kinds: 1 a leaf's, 2 a box's, 3 a row's, 4 the outer one's -/
structure Gr (K : PySem.W.Frag) (κ : Addr → Nat) (H : Hp) : Prop where
  leaf : ∀ a, κ a = 1 → H a ≠ none
  box : ∀ a, κ a = 2 → ∃ x y, H a = some (.lst [x, y]) ∧ VL K κ H x ∧ VL K κ H y
  row : ∀ a, κ a = 3 → ∃ zs, H a = some (.lst zs) ∧ 1 ≤ zs.length ∧ zs.length ≤ 10 ∧ ∀ z ∈ zs, ∃ q, z = .ref q ∧ κ q = 2
  out : ∀ a, κ a = 4 → ∃ xs, H a = some (.lst xs) ∧ 1 ≤ xs.length ∧ xs.length ≤ 3 ∧ ∀ x ∈ xs, ∃ p, x = .ref p ∧ κ p = 3
  le : ∀ a, κ a ≤ 4
def Fr (κ : Addr → Nat) (H : Hp) : Prop := ∀ a, κ a ≠ 0 → H a = none ∧ (κ a ≤ 2 → a ≠ sysModules)
def Spot (κ : Addr → Nat) (H : Hp) (L : Addr) (i j : Nat) : Prop := ∃ xs pr zs q, H L = some (.lst xs) ∧ xs[i]? = some (.ref pr) ∧ κ pr = 3 ∧ H pr = some (.lst zs) ∧ zs[j]? = some (.ref q) ∧ κ q = 2
def BoxV (K : PySem.W.Frag) (b : Addr) (H : Hp) (z : V) : Prop := ∃ d, En K (Nz b) H z d ∧ Mg 2 70 d
def RowL (K : PySem.W.Frag) (b : Addr) (H : Hp) (m : Nat) (x : V) : Prop := ∃ p zs, x = .ref p ∧ p ≠ b ∧ H p = some (.lst zs) ∧ zs.length ≤ m ∧ ∀ z ∈ zs, BoxV K b H z
def RowV (K : PySem.W.Frag) (b : Addr) (H : Hp) (x : V) : Prop := RowL K b H 11 x ∨ x = .non ∨ x = .str "24"
def Grid1 (K : PySem.W.Frag) (b : Addr) (H : Hp) (L : Addr) : Prop := ∃ xs, L ≠ b ∧ H L = some (.lst xs) ∧ 1 ≤ xs.length ∧ xs.length ≤ 3 ∧ ∀ x ∈ xs, RowL K b H 10 x
def GridV (K : PySem.W.Frag) (b : Addr) (H : Hp) (v : V) : Prop := (∃ L xs, v = .ref L ∧ L ≠ b ∧ H L = some (.lst xs) ∧ xs.length ≤ 8 ∧ ∀ x ∈ xs, RowV K b H x) ∨ v = .non ∨ v = .int 3 ∨ v = .str "24 plain"
def sp_loops (K : PySem.W.Frag) : Sp := fun vs H Q _ => ∃ (b : Addr) (n : Nat), vs = [.ref b] ∧ Bag H b n ∧ n ≤ 700000 ∧
  ∀ H' L κ, Fr κ H → Gr K κ H' → κ L = 4 → Bag H' b (n + 400) → But b H H' → Q (.ref L) H'
def sp_spot (K : PySem.W.Frag) : Sp := fun vs H Q _ => ∃ (b : Addr) (n : Nat) (L : Addr) (κ : Addr → Nat), vs = [.ref b, .ref L] ∧ Bag H b n ∧ n ≤ 800000 ∧ Gr K κ H ∧ κ L = 4 ∧ κ b = 0 ∧
  ∀ H' p i j, Spot κ H L i j → H p = none → H' p = some (.lst [.int (i : Nat), .int (j : Nat)]) → Bag H' b (n + 2) → But b H H' → Q (.ref p) H'
def sp_boxes_spoilt (K : PySem.W.Frag) : Sp := fun vs H Q _ => ∃ (b : Addr) (n : Nat) (L : Addr) (κ : Addr → Nat) (H0 : Hp) (m : Nat), vs = [.ref b, .ref L] ∧ Bag H b n ∧ n ≤ 750000 ∧ Bag H0 b m ∧ But b H0 H ∧ Fr κ H0 ∧ Gr K κ H ∧ κ L = 4 ∧
  ∀ H', Grid1 K b H' L → Bag H' b (n + 40) → Q (.ref L) H'
def sp_loops_spoilt (K : PySem.W.Frag) : Sp := fun vs H Q _ => ∃ (b : Addr) (n : Nat) (L : Addr), vs = [.ref b, .ref L] ∧ Bag H b n ∧ n ≤ 760000 ∧ Grid1 K b H L ∧ ∀ H' v, GridV K b H' v → Bag H' b (n + 5) → Q v H'
def sp_formed (K : PySem.W.Frag) : Sp := fun vs H Q _ => ∃ (b : Addr) (n : Nat) (v : V), vs = [.ref b, v] ∧ Bag H b n ∧ n ≤ 770000 ∧ GridV K b H v ∧ ∀ H' v' d, En K (Nz b) H' v' d → Mg 4 7000 d → Bag H' b (n + 2) → Q v' H'
def sp_rules (K : PySem.W.Frag) : Sp := fun vs H Q _ => ∃ (b : Addr) (n : Nat), vs = [.ref b] ∧ Bag H b n ∧ n ≤ 780000 ∧
  ∀ H' p x y r h, p ≠ b → H' p = some (.lst [x, y]) → En K (Nz b) H' x r → En K (Nz b) H' y h → Bag H' b (n + 10) → But b H H' → Q (.ref p) H'
def sp_row (K : PySem.W.Frag) : Sp := fun vs H Q _ => ∃ v d N, ∃ lo hi : Nat, vs = [v, .int (lo : Nat), .int (hi : Nat)] ∧ En K N H v d ∧ ∀ H', Same H H' → Q (.bl (rowB d lo hi)) H'
def sp_wis_number (K : PySem.W.Frag) : Sp := fun vs H Q _ => ∃ v d N, vs = [v] ∧ En K N H v d ∧ TxOk d ∧ ∀ H', Same H H' → Q (.bl (numB d)) H'
def sp_whole (K : PySem.W.Frag) : Sp := fun vs H Q _ => ∃ v d N, vs = [v] ∧ En K N H v d ∧ Q (.bl (whB d)) H
def wordV : Option Str → V
  | some w => .str w
  | none => .non
/-- what the law hands over -/
structure Hand (K : PySem.W.Frag) (N : Addr → Prop) (H : Hp) (v : V) (p : Addr) (x y : V) (d r h : PyData) : Prop where
  v : En K N H v d
  p : H p = some (.lst [x, y])
  x : En K N H x r
  y : En K N H y h
  off : ∀ a, N a → a ≠ sysModules
  mg : Mg 4 7000 d
def sp_word (K : PySem.W.Frag) : Sp := fun vs H Q _ => ∃ v p x y d r h N, vs = [v, .ref p] ∧ Hand K N H v p x y d r h ∧ ∀ H', Same H H' → Q (wordV (wordF d r h)) H'
def ToldW (K : PySem.W.Frag) (H' : Hp) (u : Addr) (d r h : PyData) : Prop :=
  (∀ w, wordF d r h = some w → H' u = some (.tup [.str "bad", .str w])) ∧
  (wordF d r h = none → ∃ l y y2, H' u = some (.tup [.str "town", .ref l]) ∧ H' l = some (.lst [y, .int (intD r), .int (intD h), y2]) ∧ Dt K H' y (townD d) ∧ Dt K H' y2 (.tuple (namesD d)))
def sp_made (K : PySem.W.Frag) (_ : Addr) : Sp := fun vs H Q _ => ∃ v p x y d r h N, vs = [v, .ref p] ∧ Hand K N H v p x y d r h ∧ ∀ H' u, ToldW K H' u d r h → Same H H' → Q (.ref u) H'
def sp_told (K : PySem.W.Frag) : Sp := fun vs H Q _ => ∃ v d N, vs = [v] ∧ En K N H v d ∧ loopsB d = true ∧ boxW (bxs d) = none ∧ ∀ H' u, Dt K H' (.ref u) (townD d) → Same H H' → Q (.ref u) H'
def sp_law (K : PySem.W.Frag) : Sp := fun vs H Q _ => ∃ (a : Addr) (ns : List Int), vs = [.ref a] ∧ SqL K H a (ns.map V.int) ∧ ns.length ≤ 63 ∧ ∀ H', Q (.bl true) H'
end K06

namespace K06
open PySem L2 Wm TL Dv De
section
variable {P : Program} {w : World} {K : PySem.W.Frag} {mg : Str → Option Value} {base : Heap}
theorem iteN {c : Bool} {A B : Prop} (e : c = false) (h : B) : if c = true then A else B := by
  rw [e]
  exact iteF h
theorem iteY {c : Bool} {A B : Prop} (e : c = true) (h : A) : if c = true then A else B := by
  rw [e]
  exact iteT h
theorem small_len {n : Nat} (h : n ≤ 100000) : n ≤ sizeLine := by
  have : (100000 : Nat) ≤ sizeLine := by decide
  omega
theorem tyT {H : Hp} {p : Addr} {xs : List V} (h : SqT K H p xs) : TyX K H (.ref p) (.type "tuple") := by
  rcases h with (h | ⟨o, h⟩) | ⟨o, its, n, e, c, _⟩
  · exact .base (.tup h)
  · exact .fTuple h
  · exact .kTuple e c
def tupB : PyData → Bool
  | .tuple _ => true
  | _ => false
def lstB : PyData → Bool
  | .list _ => true
  | _ => false
def intB : PyData → Bool
  | .int _ => true
  | .bool _ => true
  | _ => false
def boB : PyData → Bool
  | .bool _ => true
  | _ => false
def stB : PyData → Bool
  | .str _ => true
  | _ => false
structure Isi (K : PySem.W.Frag) (t : Value) (d : PyData) : Prop where
  tup : PySem.W.kitOne K t (.type "tuple") = some (tupB d)
  lst : PySem.W.kitOne K t (.type "list") = some (lstB d)
  int : PySem.W.kitOne K t (.type "int") = some (intB d)
  bool : PySem.W.kitOne K t (.type "bool") = some (boB d)
  str : PySem.W.kitOne K t (.type "str") = some (stB d)
variable {N : Addr → Prop}
theorem isi_en {H : Hp} {v : V} {d : PyData} (h : En K N H v d) : ∃ t, TyX K H v t ∧ Isi K t d := by
  cases h with
  | non => exact ⟨.type "NoneType", .base .non, kit_ty (show _ = some false by decide +kernel), kit_ty (show _ = some false by decide +kernel), kit_ty (show _ = some false by decide +kernel), kit_ty (show _ = some false by decide +kernel), kit_ty (show _ = some false by decide +kernel)⟩
  | bl b => exact ⟨.type "bool", .base (.bl _), kit_ty (show _ = some false by decide +kernel), kit_ty (show _ = some false by decide +kernel), kit_ty (show _ = some true by decide +kernel), kit_ty (show _ = some true by decide +kernel), kit_ty (show _ = some false by decide +kernel)⟩
  | int i => exact ⟨.type "int", .base (.int _), kit_ty (show _ = some false by decide +kernel), kit_ty (show _ = some false by decide +kernel), kit_ty (show _ = some true by decide +kernel), kit_ty (show _ = some false by decide +kernel), kit_ty (show _ = some false by decide +kernel)⟩
  | str x => exact ⟨.type "str", .base (.str _), kit_ty (show _ = some false by decide +kernel), kit_ty (show _ = some false by decide +kernel), kit_ty (show _ = some false by decide +kernel), kit_ty (show _ = some false by decide +kernel), kit_ty (show _ = some true by decide +kernel)⟩
  | tup s _ => exact ⟨.type "tuple", tyT s, kit_ty (show _ = some true by decide +kernel), kit_ty (show _ = some false by decide +kernel), kit_ty (show _ = some false by decide +kernel), kit_ty (show _ = some false by decide +kernel), kit_ty (show _ = some false by decide +kernel)⟩
  | lst _ e _ => exact ⟨.type "list", .base (.lst e), kit_ty (show _ = some false by decide +kernel), kit_ty (show _ = some true by decide +kernel), kit_ty (show _ = some false by decide +kernel), kit_ty (show _ = some false by decide +kernel), kit_ty (show _ = some false by decide +kernel)⟩
  | emp _ e => exact ⟨.type "dict", .base (.dK e), kit_ty (show _ = some false by decide +kernel), kit_ty (show _ = some false by decide +kernel), kit_ty (show _ = some false by decide +kernel), kit_ty (show _ = some false by decide +kernel), kit_ty (show _ = some false by decide +kernel)⟩
theorem seq_or (d : PyData) : seqB d = (lstB d || tupB d) := by cases d <;> rfl
theorem seq_or2 (d : PyData) : seqB d = (tupB d || lstB d) := by cases d <;> rfl
/-- a sequence's items -/
theorem seq_en {H : Hp} {v : V} {d : PyData} (h : En K N H v d) (e : seqB d = true) : ∃ p xs t, v = .ref p ∧ Kd.Is K t H p xs ∧ Ens K N H xs (itm d) ∧ seqO d = some (itm d) := by
  cases h with
  | tup s r => exact ⟨_, _, true, rfl, s, r, rfl⟩
  | lst n e0 r => exact ⟨_, _, false, rfl, SqL.of e0, r, rfl⟩
  | _ => cases e
theorem row_en {d : PyData} (e : seqB d = true) (lo hi : Nat) : rowB d lo hi = (decide (lo ≤ (itm d).length) && decide ((itm d).length ≤ hi)) := by
  cases d with
  | list xs => rfl
  | tuple xs => rfl
  | _ => cases e
theorem row_no {d : PyData} (e : seqB d = false) (lo hi : Nat) : rowB d lo hi = false := by cases d <;> first | rfl | cases e
theorem row_seq {d : PyData} {lo hi : Nat} (e : rowB d lo hi = true) : seqB d = true ∧ lo ≤ (itm d).length ∧ (itm d).length ≤ hi := by
  cases c : seqB d with
  | false => rw [row_no c] at e; cases e
  | true =>
    rw [row_en c] at e
    obtain ⟨a, b⟩ := Bool.and_eq_true_iff.mp e
    exact ⟨rfl, of_decide_eq_true a, of_decide_eq_true b⟩
theorem lenK {H : Hp} {p : Addr} {xs : List V} {t : Bool} (h : Kd.Is K t H p xs) : SqL K H p xs ∨ SqT K H p xs := by
  cases t with
  | true => exact .inr h
  | false => exact .inl h
theorem dec_nat (a b : Nat) : decide (((a : Nat) : Int) ≤ ((b : Nat) : Int)) = decide (a ≤ b) := by
  by_cases c : a ≤ b
  · rw [decide_eq_true c, decide_eq_true (by omega)]
  · rw [decide_eq_false c, decide_eq_false (by omega)]
theorem ok_is_whole (T : Txt K mg) : FnOk P w K mg base CX0 1 T.a_is_whole T.d_is_whole ["thing"] (sp_is_whole K) := by
  refine T.F_is_whole.ok sc_is_whole (fun vs H Q E h => ?_) (fun cdv A outer s H vs Q E hr h => ?_)
  · obtain ⟨v, d, N, rfl, _⟩ := h
    rfl
  · obtain ⟨v, d, N, rfl, hd, k⟩ := h
    obtain ⟨t, ty, I⟩ := isi_en hd
    refine ⟨_, (pss_one (ps_ret (pe_and (pe_callB call_isi (by rfl) T.z_isinstance (by decide +kernel) (pa_cons (pv 0) (pa_cons (pe_bltn (v := V.ty "int") (by rfl) T.z_int (by decide +kernel) rfl) pa_nil))) (pe_one (pe_not (pe_callB call_isi (by rfl) T.z_isinstance (by decide +kernel) (pa_cons (pv 0) (pa_cons (pe_bltn (v := V.ty "bool") (by rfl) T.z_bool (by decide +kernel) rfl) pa_nil)))))))), ?_⟩
    refine ⟨_, rfl, _, _, _, _, intB d, rfl, .ty "int", ty, I.int, intB d, rfl, ?_⟩
    cases e : intB d with
    | false =>
      have e2 : whB d = false := by cases d <;> first | rfl | cases e
      rw [e2] at k
      exact iteF k
    | true =>
      have e2 : (!boB d) = whB d := by cases d <;> first | rfl | cases e
      rw [← e2] at k
      exact iteT ⟨_, rfl, _, _, _, _, _, rfl, .ty "bool", ty, I.bool, _, rfl, k⟩
theorem ok_is_whole_within (T : Txt K mg) : FnOk P w K mg base CX0 2 T.a_is_whole_within T.d_is_whole_within ["thing", "low", "high"] (sp_is_whole_within K) := by
  refine T.F_is_whole_within.ok sc_is_whole_within (fun vs H Q E h => ?_) (fun cdv A outer s H vs Q E hr h => ?_)
  · obtain ⟨v, d, N, lo, hi, rfl, _⟩ := h
    rfl
  · obtain ⟨v, d, N, lo, hi, rfl, hd, k⟩ := h
    refine ⟨_, (pss_one (ps_ret (pe_and (pe_call (ok_is_whole T) (hr.mono (by decide)) (by rfl) T.g_is_whole T.F_is_whole.kp T.b_is_whole .nil pass0 (pa_cons (pv 0) pa_nil)) (pe_one (pe_chain op_le op_le (pv 1) (pv 0) (pv 2)))))), ?_⟩
    refine ⟨_, rfl, v, d, N, rfl, hd, whB d, rfl, ?_⟩
    cases e : whB d with
    | false =>
      have e2 : wbD d lo hi = false := by cases d <;> first | rfl | cases e
      rw [e2] at k
      exact iteF k
    | true =>
      cases hd with
      | int i =>
        have k : Q (.bl (decide (lo ≤ i) && decide (i ≤ hi))) H := k
        refine iteT ⟨_, rfl, _, rfl, _, _, rfl, rfl, _, rfl, ?_⟩
        cases e : decide (lo ≤ i) with
        | true =>
          rw [e] at k
          exact iteT ⟨_, rfl, _, _, rfl, rfl, k⟩
        | false =>
          rw [e] at k
          exact iteF k
      | _ => cases e
theorem ok_is_sequence (T : Txt K mg) : FnOk P w K mg base CX0 1 T.a_is_sequence T.d_is_sequence ["thing"] (sp_is_sequence K) := by
  refine T.F_is_sequence.ok sc_is_sequence (fun vs H Q E h => ?_) (fun cdv A outer s H vs Q E hr h => ?_)
  · obtain ⟨v, d, N, rfl, _⟩ := h
    rfl
  · obtain ⟨v, d, N, rfl, hd, k⟩ := h
    refine ⟨_, (pss_one (ps_ret (pe_callB call_isiT (by rfl) T.z_isinstance (by decide +kernel) (pa_cons (pv 0) (pa_cons (pe_tup (pa_cons (pe_bltn (v := V.ty "list") (by rfl) T.z_list (by decide +kernel) rfl) (pa_cons (pe_bltn (v := V.ty "tuple") (by rfl) T.z_tuple (by decide +kernel) rfl) pa_nil))) pa_nil))))), ?_⟩
    refine ⟨_, rfl, by show 2 ≤ sizeLine; decide, fun t2 ht => ?_⟩
    have s1 : Same H (upd H t2 (.tup [.ty "list", .ty "tuple"])) := same_new ht
    obtain ⟨t, ty, I⟩ := isi_en (hd.ks s1)
    refine ⟨_, t2, _, _, _, seqB d, rfl, upd_same, .cons (.ty "list") (.cons (.ty "tuple") .nil), ty, kitAny_cons (b := lstB d) I.lst (fun e => kitAny_cons (b := tupB d) I.tup (fun e2 => ?_) (fun e2 => ?_)) (fun e => ?_), ?_⟩
    · rw [seq_or, e, e2]
      rfl
    · rw [seq_or, e, e2]
      rfl
    · rw [seq_or, e]
      rfl
    · exact k _ s1
theorem ok_is_sort (T : Txt K mg) : FnOk P w K mg base CX0 1 T.a_is_sort T.d_is_sort ["thing"] (sp_is_sort K) := by
  refine T.F_is_sort.ok sc_is_sort (fun vs H Q E h => ?_) (fun cdv A outer s H vs Q E hr h => ?_)
  · obtain ⟨v, d, N, rfl, _⟩ := h
    rfl
  · obtain ⟨v, d, N, rfl, hN, hd, k⟩ := h
    refine ⟨_, (pss_one (ps_ret (pe_cmpR (show OpR _ _ (De.rInTx K) from De.op_inTx (Ind.room65 hr)) (pv 0) (pe_tup (pa_cons (ClX.pe_cval (pe_glob (v := V.ref T.C) rfl T.gC rfl)) (pa_cons (ClX.pe_cval (pe_glob (v := V.ref T.C) rfl T.gC rfl)) pa_nil))) rfl))), ?_⟩
    refine ⟨_, rfl, T.C, T.mc, _, _, rfl, T.rd, T.vP, T.C, T.mc, _, _, rfl, T.rd, T.vS, by show 2 ≤ sizeLine; decide, fun t ht => ?_⟩
    have s1 := same_new (o := .tup [.str "plain", .str "shy"]) ht
    refine ⟨d, N, t, ["plain", "shy"], hN, hd.ks s1, rfl, SqT.of upd_same, ?_⟩
    have e : (["plain", "shy"] : List Str).any (fun t => PyData.eqv (.str t) d) = sortB d := by
      show (PyData.eqv (.str "plain") d || (PyData.eqv (.str "shy") d || false)) = _
      rw [Bool.or_false]
      rfl
    rw [e]
    exact k _ s1
theorem bools {g : PyData → Bool} : ∀ {ys : List V} {ds : List PyData}, ys.length = ds.length → (∀ (i : Nat) y, ys[i]? = some y → ∃ d, ds[i]? = some d ∧ y = .bl (g d)) → ys = (ds.map g).map V.bl
  | [], [], _, _ => rfl
  | y :: ys, d :: ds, l, h => by
    obtain ⟨d2, e, e2⟩ := h 0 y rfl
    cases e
    rw [List.map_cons, List.map_cons, ← bools (g := g) (by simpa using l) fun i z hz => h (i + 1) z hz, e2]
theorem all_id {g : PyData → Bool} (ds : List PyData) : (ds.map g).all id = ds.all g := by
  rw [List.all_map]
  rfl
theorem ok_are_loops (T : Txt K mg) : FnOk P w K mg base CX0 2 T.a_are_loops T.d_are_loops ["thing"] (sp_are_loops K) := by
  refine T.F_are_loops.ok sc_are_loops (fun vs H Q E h => ?_) (fun cdv A outer s H vs Q E hr h => ?_)
  · obtain ⟨v, d, N, rfl, _⟩ := h
    rfl
  · obtain ⟨v, d, N, rfl, hd, k⟩ := h
    refine ⟨_, (pss_cons (ps_if (PW.pt (pw_or (pt_not (pt_val (pe_call (ok_is_sequence T) (hr.mono (by decide)) (by rfl) T.g_is_sequence T.F_is_sequence.kp T.b_is_sequence .nil pass0 (pa_cons (pv 0) pa_nil)))) (pw_or1 (pt_not (pt_chain op_le op_le pe_int (pe_callB call_len_seq (by rfl) T.z_len PySem.boot_len (pa_cons (pv 0) pa_nil)) (pe_glob (v := V.int 3) rfl T.c_MOST_LOOPS ⟨_, rfl⟩))))))
        (pss_one (ps_ret pe_bl))
        pss_nil)
      (pss_one (ps_ret (pe_callB (cr_all rfl) (by rfl) T.z_all (by decide +kernel) (pa_cons (pe_lc (own := [("loop", 1)]) (g := gName 1) (tt := tYes) rfl sc_are_loops.nd (Kd.pi_seq (pv 0)) (blkOk_by (own := [("loop", 1)]) (N := nm_are_loops) (sc := (defScope s_are_loops)) (by decide +kernel)) (fun _ _ _ _ _ => pg_name (i := 1) sc_are_loops.nd rfl (Or.inl rfl)) (fun _ _ _ _ _ => pts_nil) (fun _ _ _ _ _ => (pe_and (pe_call (ok_is_sequence T) (hr.mono (by decide)) (by rfl) T.g_is_sequence T.F_is_sequence.kp T.b_is_sequence .nil pass0 (pa_cons (pv 1) pa_nil)) (pe_one (pe_chain op_le op_le pe_int (pe_callB (show CallR _ _ (Kx.rLen K) from call_len_seq) (by rfl) T.z_len PySem.boot_len (pa_cons (pv 1) pa_nil)) (pe_glob (v := V.int 10) rfl T.c_MOST_BOXES ⟨_, rfl⟩)))))) pa_nil))))), ?_⟩
    refine ⟨_, rfl, v, d, N, rfl, hd, fun H1 s1 => ⟨seqB d, rfl, ?_⟩⟩
    cases e : seqB d with
    | false =>
      have e2 : loopsB d = false := by
        unfold loopsB
        rw [row_no e]
        rfl
      rw [e2] at k
      exact iteT (iteT (k _ s1))
    | true =>
      obtain ⟨p, xs, t, rfl, hS, hds, _⟩ := seq_en (hd.ks s1) e
      have lx := hds.len
      refine iteF ⟨_, rfl, p, _, rfl, hS.sq, _, _, rfl, rfl, _, rfl, ?_⟩
      have ek : loopsB d = ((decide (1 ≤ xs.length) && decide (xs.length ≤ 3)) && (itm d).all fun l => rowB l 1 10) := by
        unfold loopsB
        rw [row_en e, lx]
      rw [show (1 : Int) = ((1 : Nat) : Int) from rfl, dec_nat]
      cases c1 : decide (1 ≤ xs.length) with
      | false =>
        rw [ek, c1] at k
        exact iteF ⟨false, rfl, iteT (k _ s1)⟩
      | true =>
        refine iteT ⟨_, _, rfl, rfl, _, rfl, ?_⟩
        rw [show (3 : Int) = ((3 : Nat) : Int) from rfl, dec_nat]
        cases c2 : decide (xs.length ≤ 3) with
        | false =>
          rw [ek, c1, c2] at k
          exact iteT (k _ s1)
        | true =>
          rw [ek, c1, c2] at k
          have c3 := of_decide_eq_true c2
          refine iteF ?_
          refine ⟨_, rfl, p, xs, t, rfl, hS, fun J GG w hG D hD => ?_⟩
          refine Lm.lc_map (K := K) w (fun i y _ => ∃ z, (itm d)[i]? = some z ∧ y = .bl (rowB z 1 10)) (fun _ _ _ _ h _ => h) hD (by omega) (fun H' s => hG _ (hS.keep s)) (fun i x H' hi hx sm Q2 Z q => ?_) (fun H2 ys s2 hy ly hR => ?_)
          · obtain ⟨z, hz, dz⟩ := hds.at hx
            have dz := dz.ks sm
            refine ⟨rfl, yesT ?_⟩
            refine ⟨_, rfl, x, z, N, rfl, dz, fun H5 s5 => ⟨seqB z, rfl, ?_⟩⟩
            cases e3 : seqB z with
            | false => exact iteF (q _ _ s5 ⟨z, hz, by rw [row_no e3]⟩)
            | true =>
              obtain ⟨p2, zs, t2, rfl, hS2, hzs, _⟩ := seq_en (dz.ks s5) e3
              have lz := hzs.len
              refine iteT ⟨_, rfl, p2, _, rfl, hS2.sq, _, _, rfl, rfl, _, rfl, ?_⟩
              rw [dec_nat]
              cases c4 : decide (1 ≤ zs.length) with
              | false => exact iteF (q _ _ s5 ⟨z, hz, by rw [row_en e3, ← lz, c4]; rfl⟩)
              | true =>
                refine iteT ⟨_, _, rfl, rfl, q _ _ s5 ⟨z, hz, ?_⟩⟩
                rw [row_en e3, ← lz, c4, show (10 : Int) = ((10 : Nat) : Int) from rfl]
                show V.bl (decide (((zs.length : Nat) : Int) ≤ ((10 : Nat) : Int))) = _
                rw [dec_nat]
                rfl
          · rw [bools (g := fun z => rowB z 1 10) (by omega) hR] at hy
            refine ⟨D, _, rfl, SqL.of hy, ?_⟩
            rw [all_id]
            exact k _ (s1.trans s2)
end
end K06

namespace K06
open PySem L2 Wm TL Dv De
section
variable {P : Program} {w : World} {K : PySem.W.Frag} {mg : Str → Option Value} {base : Heap}
theorem sum_cast : ∀ ds : List Nat, (ds.map fun (d : Nat) => (d : Int)).sum = ((ds.sum : Nat) : Int)
  | [] => rfl
  | d :: ds => by
    rw [List.map_cons, List.sum_cons, List.sum_cons, sum_cast ds]
    omega
def letters (t : Str) : List Bool := (tl t).map fun c => decide (c ∈ ("123456789" : Str).cps.toList)
theorem letters_all {t : Str} : (letters t).all id = true ↔ ∀ c ∈ tl t, c ∈ ("123456789" : Str).cps.toList := by
  unfold letters
  rw [List.all_map, List.all_eq_true]
  constructor
  · intro h c m
    exact of_decide_eq_true (h c m)
  · intro h c m
    exact decide_eq_true (h c m)
theorem cps_at {t : Str} {i c : Nat} (h : t.cps[i]? = some c) : (tl t)[i]? = some c := by
  rw [← h]
  exact Array.getElem?_toList ..
open Classical in
theorem num_str {t : Str} : numB (.str t) = true ↔ IsNum t := by
  unfold numB
  rw [decide_eq_true_iff]
  exact ⟨fun ⟨ds, N, e⟩ => ⟨ds, N, PyData.str.inj e⟩, fun ⟨ds, N, e⟩ => ⟨ds, N, by rw [e]⟩⟩
open Classical in
theorem num_no {d : PyData} (h : stB d = false) : numB d = false := by
  unfold numB
  refine decide_eq_false ?_
  rintro ⟨ds, _, e⟩
  rw [e] at h
  cases h
theorem ok_is_number (T : Txt K mg) : FnOk P w K mg base CX0 1 T.a_is_number T.d_is_number ["thing"] (sp_is_number K) := by
  refine T.F_is_number.ok sc_is_number (fun vs H Q E h => ?_) (fun cdv A outer s H vs Q E hr h => ?_)
  · obtain ⟨v, d, N, rfl, _⟩ := h
    rfl
  · obtain ⟨v, d, N, rfl, hd, tx, kx⟩ := h
    obtain ⟨ty0, ty, I⟩ := isi_en hd
    refine ⟨_, (pss_cons (ps_if (PW.pt (pw_or (pt_not (pt_val (pe_callB call_isi (by rfl) T.z_isinstance (by decide +kernel) (pa_cons (pv 0) (pa_cons (pe_bltn (v := V.ty "str") (by rfl) T.z_str (by decide +kernel) rfl) pa_nil))))) (pw_or1 (pt_not (pt_chain op_le op_le pe_int (pe_callB call_len_str (by rfl) T.z_len PySem.boot_len (pa_cons (pv 0) pa_nil)) (pe_glob (v := V.int 4) rfl T.c_MOST_DIGITS ⟨_, rfl⟩))))))
        (pss_one (ps_ret pe_bl))
        pss_nil)
      (pss_cons (ps_if (pt_not (pt_val (pe_callB (cr_all rfl) (by rfl) T.z_all (by decide +kernel) (pa_cons (pe_lc (own := [("letter", 1)]) (g := gName 1) (tt := tYes) rfl sc_is_number.nd (pi_str (pv 0)) (blkOk_by (own := [("letter", 1)]) (N := nm_is_number) (sc := (defScope s_is_number)) (by decide +kernel)) (fun _ _ _ _ _ => pg_name (i := 1) sc_is_number.nd rfl (Or.inl rfl)) (fun _ _ _ _ _ => pts_nil) (fun _ _ _ _ _ => (pe_cmpR op_in_sign (pv 1) (pe_glob (v := V.str "123456789") rfl T.c_DIGITS ⟨_, rfl⟩) rfl))) pa_nil))))
        (pss_one (ps_ret pe_bl))
        pss_nil)
      (pss_one (ps_ret (pe_cmpR op_le (pe_callB (cr_sum rfl) (by rfl) T.z_sum (by decide +kernel) (pa_cons (pe_lc (own := [("letter", 1)]) (g := gName 1) (tt := tYes) rfl sc_is_number.nd (pi_str (pv 0)) (blkOk_by (own := [("letter", 1)]) (N := nm_is_number) (sc := (defScope s_is_number)) (by decide +kernel)) (fun _ _ _ _ _ => pg_name (i := 1) sc_is_number.nd rfl (Or.inl rfl)) (fun _ _ _ _ _ => pts_nil) (fun _ _ _ _ _ => (pe_callTy call_int_str (by rfl) T.z_int (by decide +kernel) (pa_cons (pv 1) pa_nil)))) pa_nil)) (pe_glob (v := V.int 24) rfl T.c_GREATEST_SUM ⟨_, rfl⟩) (nomark _)))))), ?_⟩
    refine ⟨_, rfl, _, _, _, _, stB d, rfl, .ty "str", ty, I.str, stB d, rfl, ?_⟩
    cases e0 : stB d with
    | false =>
      rw [num_no e0] at kx
      refine iteT ?_
      refine iteT ?_
      exact kx _ (Same.refl _)
    | true =>
    refine iteF ?_
    obtain ⟨t, rfl, rfl⟩ : ∃ t, v = .str t ∧ d = .str t := by
      cases hd with
      | str x => exact ⟨x, rfl, rfl⟩
      | _ => cases e0
    have hz : t.length ≤ 100000 := tx t rfl
    have k : ∀ H' b, Same H H' → (b = true ↔ IsNum t) → Q (.bl b) H' := fun H' b s e => by
      have e2 : b = numB (.str t) := Bool.eq_iff_iff.mpr (e.trans num_str.symm)
      rw [e2]
      exact kx _ s
    have hl : t.length = (tl t).length := len_tl t
    have numlen : IsNum t → 1 ≤ t.length ∧ t.length ≤ 4 := fun ⟨ds, N, e⟩ => by
      rw [e, numS_len]
      exact ⟨N.pos, N.len⟩
    refine ⟨_, rfl, _, rfl, small_len hz, _, _, rfl, rfl, _, rfl, ?_⟩
    refine ite2 (fun c1 => ?_) (fun c1 => ?_)
    case refine_2 =>
      have c1' : ¬ (1 : Int) ≤ (t.length : Nat) := fun z => c1 (decide_eq_true z)
      refine ⟨false, rfl, iteT ?_⟩
      exact k _ _ (Same.refl _) ⟨fun z => (by cases z), fun z => absurd (numlen z).1 (by omega)⟩
    have c1' : (1 : Int) ≤ (t.length : Nat) := of_decide_eq_true c1
    refine ⟨_, _, rfl, rfl, _, rfl, ?_⟩
    by_cases c2 : ((t.length : Nat) : Int) ≤ 4
    case neg =>
      rw [decide_eq_false c2]
      refine iteT ?_
      exact k _ _ (Same.refl _) ⟨fun z => (by cases z), fun z => absurd (numlen z).2 (by omega)⟩
    rw [decide_eq_true c2]
    refine iteF ?_
    refine ⟨_, rfl, _, rfl, fun D hD => ?_⟩
    have hsz : t.cps.size = (tl t).length := hl
    refine lc_it walk_str (fun i H' => Same H H' ∧ H' D = some (.lst (((letters t).take i).map V.bl))) ⟨same_new hD, upd_same⟩ (fun _ _ _ _ => trivial) (fun i x H1 H' hi hP hY => ?_) (fun H1 hP => ?_)
    · obtain ⟨sm, hL⟩ := hP
      obtain ⟨rfl, c, hc, rfl⟩ := hY
      have hc2 : (letters t)[i]? = some (decide (c ∈ ("123456789" : Str).cps.toList)) := by
        unfold letters
        rw [List.getElem?_map, cps_at hc]
        rfl
      refine ⟨rfl, yesT ?_⟩
      refine ⟨_, rfl, _, _, rfl, rfl, _, hL, by rw [List.length_map, List.length_take]; exact small1000 (by omega), ?_⟩
      refine ⟨same_mut sm hD, ?_⟩
      rw [upd_same, take_succ_map _ hc2]
    · obtain ⟨sm, hL⟩ := hP
      have ell : (letters t).length = t.cps.size := by unfold letters; rw [List.length_map, hsz]
      rw [← ell, List.take_length] at hL
      refine ⟨D, letters t, rfl, SqL.of hL, _, rfl, ?_⟩
      by_cases c3 : (letters t).all id = true
      case neg =>
        rw [Bool.not_eq_true] at c3
        rw [c3]
        refine iteT ?_
        refine k _ _ sm ⟨fun z => (by cases z), fun ⟨ds, N, e⟩ => ?_⟩
        have q := letters_all.mpr (by rw [e]; exact num_codes N.dig : ∀ c ∈ tl t, c ∈ ("123456789" : Str).cps.toList)
        rw [c3] at q
        cases q
      rw [c3]
      refine iteF ?_
      obtain ⟨ds, dig, et⟩ := dig_text t (letters_all.mp c3)
      subst et
      rw [numS_len] at c1' c2
      refine ⟨_, rfl, _, rfl, fun D2 hD2 => ?_⟩
      refine lc_it walk_str (fun i H' => Same H H' ∧ H' D2 = some (.lst ((ds.take i).map fun (d : Nat) => V.int (d : Int)))) ⟨sm.trans (same_new hD2), upd_same⟩ (fun _ _ _ _ => trivial) (fun i x H2 H' hi hP hY => ?_) (fun H2 hP => ?_)
      · obtain ⟨sm2, hl2⟩ := hP
        obtain ⟨rfl, c, hc, rfl⟩ := hY
        rw [numS_size] at hi
        rw [numS_at ds i hi] at hc
        have hc' := (Option.some.inj hc).symm
        subst hc'
        refine ⟨rfl, yesT ?_⟩
        refine ⟨_, rfl, _, _, rfl, dig_int (dig _ (List.getElem_mem hi)), (by show 1 ≤ 640; decide), _, hl2, by rw [List.length_map, List.length_take]; exact small1000 (by omega), ?_⟩
        refine ⟨same_mut sm2 (sm.free hD2), ?_⟩
        rw [upd_same, take_succ_map _ (List.getElem?_eq_getElem hi)]
      · obtain ⟨sm2, hl2⟩ := hP
        rw [numS_size, List.take_length] at hl2
        refine ⟨D2, ds.map fun (d : Nat) => (d : Int), rfl, SqL.of (by rw [hl2, List.map_map]; rfl), _, _, rfl, rfl, ?_⟩
        rw [sum_cast]
        refine k _ _ sm2 ?_
        rw [isnum_dig]
        constructor
        · intro z
          have z' : ((ds.sum : Nat) : Int) ≤ 24 := of_decide_eq_true z
          exact ⟨by omega, by omega, dig, by omega⟩
        · intro N
          exact decide_eq_true (show ((ds.sum : Nat) : Int) ≤ 24 by have := N.sum; omega)
end
end K06

namespace K06
open PySem L2 Wm TL Dv De
section
variable {P : Program} {w : World} {K : PySem.W.Frag} {mg : Str → Option Value} {base : Heap}
variable {N : Addr → Prop}
theorem un2 {H : Hp} {t : Bool} {p : Addr} {v w : V} {g : TGs} {σ : L2.St} {k : L2.St → Hp → Prop} (h : Kd.Is K t H p [v, w]) (r : g [v, w] σ H k) : Dz.gTL K 2 g (.ref p) σ H k := by
  cases t with
  | true => exact .inl ⟨_, _, rfl, h, rfl, r⟩
  | false => exact .inr ⟨_, _, rfl, h, rfl, r⟩
/-- a box's parts -/
theorem box_en {H : Hp} {v : V} {d : PyData} (h : En K N H v d) (e : rowB d 2 2 = true) : ∃ p t x y, v = .ref p ∧ Kd.Is K t H p [x, y] ∧ En K N H x (fstD d) ∧ En K N H y (sndD d) ∧ itm d = [fstD d, sndD d] := by
  obtain ⟨e1, l1, l2⟩ := row_seq e
  obtain ⟨p, xs, t, rfl, hS, hds, _⟩ := seq_en h e1
  obtain ⟨a, b, eab⟩ : ∃ a b, itm d = [a, b] := by
    match h : itm d, l1, l2 with
    | [a, b], _, _ => exact ⟨a, b, rfl⟩
    | [], l1, _ => simp at l1
    | [_], l1, _ => simp at l1
    | _ :: _ :: _ :: _, _, l2 => simp at l2
  have f1 : fstD d = a := by unfold fstD; rw [eab]; rfl
  have f2 : sndD d = b := by unfold sndD; rw [eab]; rfl
  rw [eab] at hds
  cases hds with
  | cons h1 hds =>
    cases hds with
    | cons h2 hds =>
      cases hds
      exact ⟨p, t, _, _, rfl, hS, by rw [f1]; exact h1, by rw [f2]; exact h2, by rw [eab, f1, f2]⟩
open Classical in
theorem num_get {d : PyData} (h : numB d = true) : ∃ ds, Num ds ∧ d = .str (numS ds) := by
  unfold numB at h
  exact of_decide_eq_true h
theorem strs_of : ∀ {ds : List PyData}, (∀ d ∈ ds, numB (fstD d) = true) → ∃ ts : List Str, ds.map fstD = ts.map PyData.str
  | [], _ => ⟨[], rfl⟩
  | d :: ds, h => by
    obtain ⟨ts, e⟩ := strs_of fun c m => h c (List.mem_cons_of_mem _ m)
    obtain ⟨n, _, e2⟩ := num_get (h d List.mem_cons_self)
    exact ⟨numS n :: ts, by rw [List.map_cons, List.map_cons, e, e2]⟩
theorem nodup_str {ts : List Str} : (ts.map PyData.str).Nodup ↔ ts.Nodup := by
  unfold List.Nodup
  rw [List.pairwise_map]
  exact ⟨fun h => h.imp fun h e => h (by rw [e]), fun h => h.imp fun h e => h (PyData.str.inj e)⟩
open Classical in
theorem ok_has_double (T : Txt K mg) : FnOk P w K mg base CX0 1 T.a_has_double T.d_has_double ["boxes"] (sp_has_double K) := by
  refine T.F_has_double.ok sc_has_double (fun vs H Q E h => ?_) (fun cdv A outer s H vs Q E hr h => ?_)
  · obtain ⟨p, xs, ds, N, rfl, _⟩ := h
    rfl
  · obtain ⟨p, xs, ds, N, rfl, hS, hds, hl, hb, k⟩ := h
    have lx := hds.len
    refine ⟨_, (pss_one (ps_ret (pe_cmpR op_lt (Sl.pe_len rfl (by rfl) T.z_len (by rfl) T.z_set (pe_lc (own := [("number", 1), ("_", 2)]) (g := Dz.gTL K 2 (gCons (gName 1) (gCons (gName 2) (gNil)))) (tt := tYes) rfl sc_has_double.nd (pi_list (pv 0)) (blkOk_by (own := [("number", 1), ("_", 2)]) (N := nm_has_double) (sc := (defScope s_has_double)) (by decide +kernel)) (fun _ _ _ _ _ => (Dz.pg_tl rfl (pgs_cons (pg_name (i := 1) sc_has_double.nd rfl (Or.inl rfl)) (pgs_cons (pg_name (i := 2) sc_has_double.nd rfl (Or.inl rfl)) pgs_nil)))) (fun _ _ _ _ _ => pts_nil) (fun _ _ _ _ _ => (pv 1)))) (pe_callB call_len_seq (by rfl) T.z_len PySem.boot_len (pa_cons (pv 0) pa_nil)) (nomark _)))), ?_⟩
    refine ⟨_, rfl, p, rfl, ⟨_, hS⟩, fun D hD => ?_⟩
    refine Lm.lc_map (K := K) walk_list (fun i y _ => ∃ d, ds[i]? = some d ∧ ∃ t, fstD d = .str t ∧ y = .str t) (fun _ _ _ _ h _ => h) hD (by omega) (fun H' s => Hf.keepL s hS) (fun i x H' hi hx sm Q2 Z q => ?_) (fun H2 ys s2 hy ly hR => ?_)
    · obtain ⟨d, hd, dx⟩ := hds.at hx
      obtain ⟨c1, c2⟩ := hb d (List.mem_of_getElem? hd)
      obtain ⟨q1, t, u, v, rfl, hq, f1, f2, _⟩ := box_en (dx.ks sm) c1
      obtain ⟨n, _, en⟩ := num_get c2
      rw [en] at f1
      cases f1
      refine un2 hq ⟨_, _, rfl, _, _, rfl, rfl, rfl, yesT ?_⟩
      exact ⟨_, rfl, q _ _ (Same.refl _) ⟨d, hd, _, en, rfl⟩⟩
    · obtain ⟨ts, ets⟩ := strs_of fun d m => (hb d m).2
      have lt : ts.length = ds.length := by
        have := congrArg List.length ets
        rw [List.length_map, List.length_map] at this
        exact this.symm
      have ey : ys = ts.map V.str := Lm.list_is (by rw [List.length_map]; omega) fun i y e => by
        obtain ⟨d, hd, t, et, rfl⟩ := hR i y e
        have : (ds.map fstD)[i]? = some (.str t) := by rw [List.getElem?_map, hd]; exact congrArg some et
        rw [ets, List.getElem?_map] at this
        obtain ⟨t2, e2, e3⟩ := Option.map_eq_some_iff.mp this
        rw [List.getElem?_map, e2, PyData.str.inj e3]
        rfl
      rw [ey] at hy
      refine ⟨D, _, rfl, SqL.of hy, by omega, fun c hc => ?_⟩
      refine ⟨_, rfl, p, _, rfl, .inl (Hf.keepL s2 hS), _, _, rfl, rfl, ?_⟩
      have h1 := hc.1
      have h2 := hc.2
      rw [List.take_length] at h2
      have e : decide (((c : Nat) : Int) < ((xs.length : Nat) : Int)) = dblB ds := by
        unfold dblB
        rw [ets]
        refine Bool.eq_iff_iff.mpr ?_
        rw [decide_eq_true_iff, decide_eq_true_iff, nodup_str, ← h2]
        omega
      show Q (V.bl (decide (((c : Nat) : Int) < ((xs.length : Nat) : Int)))) _
      rw [e]
      exact k _ s2
end
end K06

namespace K06
open PySem L2 Wm TL Dv De
section
variable {P : Program} {w : World} {K : PySem.W.Frag} {mg : Str → Option Value} {base : Heap}
variable {N : Addr → Prop}
theorem boxW_box {ds : List PyData} (h : (ds.all fun b => rowB b 2 2) = false) : boxW ds = some ("box" : Str) := by
  unfold boxW
  rw [if_neg (by rw [h]; exact Bool.false_ne_true)]
theorem boxW_number {ds : List PyData} (h : (ds.all fun b => rowB b 2 2) = true) (h2 : (ds.all fun b => numB (fstD b)) = false) : boxW ds = some ("number" : Str) := by
  unfold boxW
  rw [if_pos h, if_neg (by rw [h2]; exact Bool.false_ne_true)]
theorem boxW_sort {ds : List PyData} (h : (ds.all fun b => rowB b 2 2) = true) (h2 : (ds.all fun b => numB (fstD b)) = true) (h3 : (ds.all fun b => sortB (sndD b)) = false) : boxW ds = some ("sort" : Str) := by
  unfold boxW
  rw [if_pos h, if_pos h2, if_neg (by rw [h3]; exact Bool.false_ne_true)]
theorem boxW_dbl {ds : List PyData} (h : (ds.all fun b => rowB b 2 2) = true) (h2 : (ds.all fun b => numB (fstD b)) = true) (h3 : (ds.all fun b => sortB (sndD b)) = true) : boxW ds = if dblB ds = true then some ("double" : Str) else none := by
  unfold boxW
  rw [if_pos h, if_pos h2, if_pos h3]
theorem tx_fst {ds : List PyData} (h : ∀ d ∈ ds, ∀ x ∈ itm d, TxOk x) {d : PyData} (m : d ∈ ds) (e : itm d = [fstD d, sndD d]) : TxOk (fstD d) := h d m _ (by rw [e]; simp)
theorem ok_check_boxes (T : Txt K mg) : FnOk P w K mg base (L2.CX P w) 3 T.a_check_boxes T.d_check_boxes ["boxes"] (sp_check_boxes K T.CT) := by
  refine T.F_check_boxes.okX sc_check_boxes (fun vs H Q E h => ?_) (fun cdv A outer s H vs Q E hr h => ?_)
  · obtain ⟨p, xs, ds, N, rfl, _⟩ := h
    rfl
  · obtain ⟨p, xs, ds, N, rfl, hS, hds, io, hl, k, er⟩ := h
    have lx := hds.len
    refine ⟨_, (pss_cons (ps_if (pt_not (pt_val (pe_callB (cr_all rfl) (by rfl) T.z_all (by decide +kernel) (pa_cons (pe_lc (own := [("box", 1)]) (g := gName 1) (tt := tYes) rfl sc_check_boxes.nd (pi_list (pv 0)) (blkOk_by (own := [("box", 1)]) (N := nm_check_boxes) (sc := (defScope s_check_boxes)) (by decide +kernel)) (fun _ _ _ _ _ => pg_name (i := 1) sc_check_boxes.nd rfl (Or.inl rfl)) (fun _ _ _ _ _ => pts_nil) (fun _ _ _ _ _ => (pe_and (pe_call (ok_is_sequence T) (hr.mono (by decide)) (by rfl) T.g_is_sequence T.F_is_sequence.kp T.b_is_sequence .nil pass0 (pa_cons (pv 1) pa_nil)) (pe_one (pe_cmpR op_eq (pe_callB (show CallR _ _ (Kx.rLen K) from call_len_seq) (by rfl) T.z_len PySem.boot_len (pa_cons (pv 1) pa_nil)) pe_int (nomark _)))))) pa_nil))))
        (pss_one (ps_raiseLowT rfl T.lowT hr (takes_of rfl rfl rfl rfl) (by exact (pa_cons pe_str pa_nil))))
        pss_nil)
      (pss_cons (ps_if (pt_not (pt_val (pe_callB (cr_all rfl) (by rfl) T.z_all (by decide +kernel) (pa_cons (pe_lc (own := [("number", 2), ("_", 3)]) (g := Dz.gTL K 2 (gCons (gName 2) (gCons (gName 3) (gNil)))) (tt := tYes) rfl sc_check_boxes.nd (pi_list (pv 0)) (blkOk_by (own := [("number", 2), ("_", 3)]) (N := nm_check_boxes) (sc := (defScope s_check_boxes)) (by decide +kernel)) (fun _ _ _ _ _ => (Dz.pg_tl rfl (pgs_cons (pg_name (i := 2) sc_check_boxes.nd rfl (Or.inl rfl)) (pgs_cons (pg_name (i := 3) sc_check_boxes.nd rfl (Or.inl rfl)) pgs_nil)))) (fun _ _ _ _ _ => pts_nil) (fun _ _ _ _ _ => (pe_call (ok_is_number T) (hr.mono (by decide)) (by rfl) T.g_is_number T.F_is_number.kp T.b_is_number .nil pass0 (pa_cons (pv 2) pa_nil)))) pa_nil))))
        (pss_one (ps_raiseLowT rfl T.lowT hr (takes_of rfl rfl rfl rfl) (by exact (pa_cons pe_str pa_nil))))
        pss_nil)
      (pss_cons (ps_if (pt_not (pt_val (pe_callB (cr_all rfl) (by rfl) T.z_all (by decide +kernel) (pa_cons (pe_lc (own := [("_", 3), ("sort", 4)]) (g := Dz.gTL K 2 (gCons (gName 3) (gCons (gName 4) (gNil)))) (tt := tYes) rfl sc_check_boxes.nd (pi_list (pv 0)) (blkOk_by (own := [("_", 3), ("sort", 4)]) (N := nm_check_boxes) (sc := (defScope s_check_boxes)) (by decide +kernel)) (fun _ _ _ _ _ => (Dz.pg_tl rfl (pgs_cons (pg_name (i := 3) sc_check_boxes.nd rfl (Or.inl rfl)) (pgs_cons (pg_name (i := 4) sc_check_boxes.nd rfl (Or.inl rfl)) pgs_nil)))) (fun _ _ _ _ _ => pts_nil) (fun _ _ _ _ _ => (pe_call (ok_is_sort T) (hr.mono (by decide)) (by rfl) T.g_is_sort T.F_is_sort.kp T.b_is_sort .nil pass0 (pa_cons (pv 4) pa_nil)))) pa_nil))))
        (pss_one (ps_raiseLowT rfl T.lowT hr (takes_of rfl rfl rfl rfl) (by exact (pa_cons pe_str pa_nil))))
        pss_nil)
      (pss_one (ps_if (pt_val (pe_call (ok_has_double T) (hr.mono (by decide)) (by rfl) T.g_has_double T.F_has_double.kp T.b_has_double .nil pass0 (pa_cons (pv 0) pa_nil)))
        (pss_one (ps_raiseLowT rfl T.lowT hr (takes_of rfl rfl rfl rfl) (by exact (pa_cons pe_str pa_nil))))
        pss_nil))))), ?_⟩
    refine ⟨_, rfl, p, rfl, ⟨_, hS⟩, fun D hD => ?_⟩
    refine Lm.lc_map (K := K) walk_list (fun i y _ => ∃ d, ds[i]? = some d ∧ y = .bl (rowB d 2 2)) (fun _ _ _ _ h _ => h) hD (by omega) (fun H' s => Hf.keepL s hS) (fun i x H' hi hx sm Q2 Z q => ?_) (fun H2 ys s2 hy ly hR => ?_)
    · obtain ⟨d, hd, dx⟩ := hds.at hx
      have dx := dx.ks sm
      refine ⟨rfl, yesT ?_⟩
      refine ⟨_, rfl, x, d, N, rfl, dx, fun H5 s5 => ⟨seqB d, rfl, ?_⟩⟩
      cases e3 : seqB d with
      | false => exact iteF (q _ _ s5 ⟨d, hd, by rw [row_no e3]⟩)
      | true =>
        obtain ⟨p2, zs, t2, rfl, hS2, hzs, _⟩ := seq_en (dx.ks s5) e3
        have lz := hzs.len
        refine iteT ⟨_, rfl, p2, _, rfl, hS2.sq, rfl, q _ _ s5 ⟨d, hd, ?_⟩⟩
        rw [row_en e3, ← lz]
        refine congrArg V.bl ?_
        refine Bool.eq_iff_iff.mpr ?_
        rw [decide_eq_true_iff, Bool.and_eq_true_iff, decide_eq_true_iff, decide_eq_true_iff]
        exact ⟨fun e => by have := V.int.inj e; omega, fun ⟨a, b⟩ => by rw [show zs.length = 2 by omega]; rfl⟩
    rw [bools (g := fun z => rowB z 2 2) (by omega) hR] at hy
    refine ⟨D, _, rfl, SqL.of hy, _, rfl, ?_⟩
    rw [all_id]
    cases c1 : ds.all fun z => rowB z 2 2 with
    | false => exact iteT ⟨_, rfl, fun dd hdd => er _ (boxW_box c1) _ dd ((s2).trans (same_new hdd)) upd_same⟩
    | true =>
    refine iteF ?_
    have hbx : ∀ d ∈ ds, rowB d 2 2 = true := List.all_eq_true.mp c1
    refine ⟨_, rfl, p, rfl, ⟨_, Hf.keepL s2 hS⟩, fun D3 hD3 => ?_⟩
    refine Lm.lc_map (K := K) walk_list (fun i y _ => ∃ d, ds[i]? = some d ∧ y = .bl (numB (fstD d))) (fun _ _ _ _ h _ => h) hD3 (by omega) (fun H' s => Hf.keepL (s2.trans s) hS) (fun i x H' hi hx sm Q2 Z q => ?_) (fun H3 ys3 s3 hy3 ly3 hR3 => ?_)
    · obtain ⟨d, hd, dx⟩ := hds.at hx
      have md := List.mem_of_getElem? hd
      obtain ⟨q1, t, u, v, rfl, hq, f1, f2, f3⟩ := box_en (dx.ks (s2.trans sm)) (hbx d md)
      refine un2 hq ⟨_, _, rfl, _, _, rfl, rfl, rfl, yesT ?_⟩
      exact ⟨_, rfl, _, _, N, rfl, f1, tx_fst io.tx md f3, fun H5 s5 => q _ _ s5 ⟨d, hd, rfl⟩⟩
    rw [bools (g := fun z => numB (fstD z)) (by omega) hR3] at hy3
    have s23 := s2.trans s3
    refine ⟨D3, _, rfl, SqL.of hy3, _, rfl, ?_⟩
    rw [all_id]
    cases c2 : ds.all fun z => numB (fstD z) with
    | false => exact iteT ⟨_, rfl, fun dd hdd => er _ (boxW_number c1 c2) _ dd ((s23).trans (same_new hdd)) upd_same⟩
    | true =>
    refine iteF ?_
    refine ⟨_, rfl, p, rfl, ⟨_, Hf.keepL s23 hS⟩, fun D4 hD4 => ?_⟩
    refine Lm.lc_map (K := K) walk_list (fun i y _ => ∃ d, ds[i]? = some d ∧ y = .bl (sortB (sndD d))) (fun _ _ _ _ h _ => h) hD4 (by omega) (fun H' s => Hf.keepL (s23.trans s) hS) (fun i x H' hi hx sm Q2 Z q => ?_) (fun H4 ys4 s4 hy4 ly4 hR4 => ?_)
    · obtain ⟨d, hd, dx⟩ := hds.at hx
      have md := List.mem_of_getElem? hd
      obtain ⟨q1, t, u, v, rfl, hq, f1, f2, f3⟩ := box_en (dx.ks (s23.trans sm)) (hbx d md)
      refine un2 hq ⟨_, _, rfl, _, _, rfl, rfl, rfl, yesT ?_⟩
      exact ⟨_, rfl, _, _, N, rfl, io.off, f2, fun H5 s5 => q _ _ s5 ⟨d, hd, rfl⟩⟩
    rw [bools (g := fun z => sortB (sndD z)) (by omega) hR4] at hy4
    have s24 := s23.trans s4
    refine ⟨D4, _, rfl, SqL.of hy4, _, rfl, ?_⟩
    rw [all_id]
    cases c3 : ds.all fun z => sortB (sndD z) with
    | false => exact iteT ⟨_, rfl, fun dd hdd => er _ (boxW_sort c1 c2 c3) _ dd ((s24).trans (same_new hdd)) upd_same⟩
    | true =>
    refine iteF ?_
    have bw := boxW_dbl c1 c2 c3
    refine ⟨_, rfl, p, xs, ds, N, rfl, Hf.keepL s24 hS, hds.ks s24, hl, fun d m => ⟨hbx d m, List.all_eq_true.mp c2 d m⟩, fun H5 s5 => ⟨dblB ds, rfl, ?_⟩⟩
    cases c4 : dblB ds with
    | true =>
      rw [c4] at bw
      exact iteT ⟨_, rfl, fun dd hdd => er _ bw _ dd (((s24.trans s5)).trans (same_new hdd)) upd_same⟩
    | false =>
      rw [c4] at bw
      exact iteF (k bw _ (s24.trans s5))
end
end K06

namespace K06
open PySem L2 Wm TL Dv De
section
variable {P : Program} {w : World} {K : PySem.W.Frag} {mg : Str → Option Value} {base : Heap}
variable {N : Addr → Prop}
theorem loops_seq {d : PyData} (h : loopsB d = true) : seqB d = true ∧ 1 ≤ (itm d).length ∧ (itm d).length ≤ 3 ∧ ∀ l ∈ itm d, rowB l 1 10 = true := by
  unfold loopsB at h
  obtain ⟨a, b⟩ := Bool.and_eq_true_iff.mp h
  obtain ⟨c, l1, l2⟩ := row_seq a
  exact ⟨c, l1, l2, List.all_eq_true.mp b⟩
theorem flat_len : ∀ {ls : List PyData}, (∀ l ∈ ls, rowB l 1 10 = true) → (ls.flatMap itm).length ≤ 10 * ls.length
  | [], _ => Nat.zero_le _
  | l :: ls, h => by
    have h1 := flat_len fun z m => h z (List.mem_cons_of_mem _ m)
    obtain ⟨_, _, h2⟩ := row_seq (h l List.mem_cons_self)
    rw [List.flatMap_cons, List.length_append, List.length_cons]
    omega
theorem fm_succ {ls : List PyData} {i : Nat} {l : PyData} (h : ls[i]? = some l) : (ls.take (i + 1)).flatMap itm = (ls.take i).flatMap itm ++ itm l := by
  rw [List.take_add_one, h, List.flatMap_append]
  show _ ++ [l].flatMap itm = _
  rw [List.flatMap_cons, List.flatMap_nil, List.append_nil]
theorem fm_le {ls : List PyData} (h : ∀ l ∈ ls, rowB l 1 10 = true) (l3 : ls.length ≤ 3) (i : Nat) : ((ls.take i).flatMap itm).length ≤ 30 := by
  have := flat_len (ls := ls.take i) fun z m => h z (List.mem_of_mem_take m)
  have l4 : (ls.take i).length ≤ 3 := by rw [List.length_take]; omega
  omega
theorem wordF_loops {d r h : PyData} (c : loopsB d = false) : wordF d r h = some ("loops" : Str) := by
  unfold wordF
  rw [if_neg (by rw [c]; exact Bool.false_ne_true)]
theorem wordF_box {d r h : PyData} (c : loopsB d = true) {x : Str} (e : boxW (bxs d) = some x) : wordF d r h = some x := by
  unfold wordF
  rw [if_pos c, e]
theorem wordF_rule {d r h : PyData} (c : loopsB d = true) (e : boxW (bxs d) = none) : wordF d r h = rulW r h := by
  unfold wordF
  rw [if_pos c, e]
theorem rulW_rounds {r h : PyData} (c : wbD r 1 8 = false) : rulW r h = some ("rounds" : Str) := by
  unfold rulW
  rw [if_neg (by rw [c]; exact Bool.false_ne_true)]
theorem rulW_hear {r h : PyData} (c : wbD r 1 8 = true) (c2 : wbD h 1 2 = false) : rulW r h = some ("hear" : Str) := by
  unfold rulW
  rw [if_pos c, if_neg (by rw [c2]; exact Bool.false_ne_true)]
theorem rulW_lt {r h : PyData} (c : wbD r 1 8 = true) (c2 : wbD h 1 2 = true) : rulW r h = if ltD r h = true then some ("hear" : Str) else none := by
  unfold rulW
  rw [if_pos c, if_pos c2]
theorem wb_int {H : Hp} {v : V} {d : PyData} {l h : Int} (e : En K N H v d) (c : wbD d l h = true) : ∃ i : Int, d = .int i ∧ v = .int i := by
  cases e with
  | int i => exact ⟨i, rfl, rfl⟩
  | _ => cases c
theorem ok_check_town (T : Txt K mg) : FnOk P w K mg base (L2.CX P w) 4 T.a_check_town T.d_check_town ["loops", "rounds", "hear"] (sp_check_town K T.CT) := by
  refine T.F_check_town.okX sc_check_town (fun vs H Q E h => ?_) (fun cdv A outer s H vs Q E hr h => ?_)
  · obtain ⟨x, y, z, d, r, h, N, rfl, _⟩ := h
    rfl
  · obtain ⟨x, y, z, d, r, h, N, rfl, hd, hr', hh, io, k, er⟩ := h
    refine ⟨_, (pss_cons (ps_if (pt_not (pt_val (pe_call (ok_are_loops T) (hr.mono (by decide)) (by rfl) T.g_are_loops T.F_are_loops.kp T.b_are_loops .nil pass0 (pa_cons (pv 0) pa_nil))))
        (pss_one (ps_raiseLowT rfl T.lowT hr (takes_of rfl rfl rfl rfl) (by exact (pa_cons pe_str pa_nil))))
        pss_nil)
      (pss_cons (ps_expr (pe_callS (ok_check_boxes T) (hr.mono (by decide)) rfl T.g_check_boxes T.F_check_boxes.kp T.b_check_boxes (fun σ => passAt (takes_of rfl rfl rfl rfl) σ) (by exact (pa_cons (pe_lc2 (own := [("loop", 3), ("box", 4)]) (g := gName 3) (tt := tYes) (g1 := gName 4) (tt1 := tYes) (vs1 := [4]) rfl sc_check_town.nd (Kd.pi_seq (pv 0)) (blkOk_by (own := [("loop", 3), ("box", 4)]) (N := nm_check_town) (sc := (defScope s_check_town)) (by decide +kernel)) (by decide) (fun _ _ _ _ _ => pg_name (i := 3) sc_check_town.nd rfl (Or.inl rfl)) (fun _ _ _ _ _ => pts_nil) (fun _ _ _ _ _ => (show PI _ _ _ (Kd.iSeq K (tVar 3)) from (Kd.pi_seq (pv 3)))) (fun _ _ _ _ _ => pg_name (i := 4) sc_check_town.nd rfl (Or.inl rfl)) (fun _ _ _ _ _ => pts_nil) (fun _ _ _ _ _ => (pv 4))) pa_nil))))
      (pss_cons (ps_if (pt_not (pt_val (pe_call (ok_is_whole_within T) (hr.mono (by decide)) (by rfl) T.g_is_whole_within T.F_is_whole_within.kp T.b_is_whole_within .nil pass0 (pa_cons (pv 1) (pa_cons pe_int (pa_cons (pe_glob (v := V.int 8) rfl T.c_MOST_ROUNDS ⟨_, rfl⟩) pa_nil))))))
        (pss_one (ps_raiseLowT rfl T.lowT hr (takes_of rfl rfl rfl rfl) (by exact (pa_cons pe_str pa_nil))))
        pss_nil)
      (pss_one (ps_if (PW.pt (pw_or (pt_not (pt_val (pe_call (ok_is_whole_within T) (hr.mono (by decide)) (by rfl) T.g_is_whole_within T.F_is_whole_within.kp T.b_is_whole_within .nil pass0 (pa_cons (pv 2) (pa_cons pe_int (pa_cons pe_int pa_nil)))))) (pw_or1 (pt_cmpR op_gt (pv 2) (pv 1) (nomark _)))))
        (pss_one (ps_raiseLowT rfl T.lowT hr (takes_of rfl rfl rfl rfl) (by exact (pa_cons pe_str pa_nil))))
        pss_nil))))), ?_⟩
    refine ⟨_, rfl, x, d, N, rfl, hd, fun H1 s1 => ⟨loopsB d, rfl, ?_⟩⟩
    cases c0 : loopsB d with
    | false => exact iteT ⟨_, rfl, fun dd hdd => er _ (wordF_loops c0) _ dd (s1.trans (same_new hdd)) upd_same⟩
    | true =>
    refine iteF ?_
    obtain ⟨e1, _, l3, hrow⟩ := loops_seq c0
    obtain ⟨p, xs, t, rfl, hS, hds, _⟩ := seq_en (hd.ks s1) e1
    have lx := hds.len
    refine ⟨_, rfl, p, xs, t, rfl, hS, fun J GG w hG D hD => ?_⟩
    refine Et.out_it w (fun i H' => Same H1 H' ∧ ∃ ys, H' D = some (.lst ys) ∧ Ens K N H1 ys (((itm d).take i).flatMap itm)) ⟨same_new hD, [], upd_same, .nil⟩ (fun i H' _ h => hG _ (hS.keep h.1)) (fun i x H2 H' hi hP hY => ?_) (fun H2 hP => ?_)
    · obtain ⟨sm, ys, hy, hys⟩ := hP
      obtain ⟨rfl, hx2⟩ := hY
      obtain ⟨l, hl, tl⟩ := hds.at hx2
      have ml := List.mem_of_getElem? hl
      obtain ⟨f1, f2, f3⟩ := row_seq (hrow l ml)
      obtain ⟨q1, zs, t1, rfl, hq, hz, _⟩ := seq_en tl f1
      have lz := hz.len
      have l30 := fm_le hrow l3 i
      refine ⟨rfl, yesT ?_⟩
      refine ⟨_, rfl, q1, zs, t1, rfl, hq.keep sm, fun J1 GG1 w1 hG1 => ?_⟩
      refine Et.in_it w1 (fun j H3 => Same H1 H3 ∧ ∃ ys, H3 D = some (.lst ys) ∧ Ens K N H1 ys (((itm d).take i).flatMap itm ++ (itm l).take j)) ⟨sm, ys, hy, by simpa using hys⟩ (fun j H3 _ h => hG1 _ (hq.keep h.1)) (fun j x H3 H4 hj hP hY => ?_) (fun H3 hP => ?_)
      · obtain ⟨sm3, ys3, hy3, hys3⟩ := hP
        obtain ⟨rfl, hx3⟩ := hY
        obtain ⟨b, hb, a3⟩ := hz.at hx3
        have l3' := hys3.len
        rw [List.length_append, List.length_take] at l3'
        refine ⟨rfl, yesT ?_⟩
        refine ⟨_, rfl, ys3, hy3, small1000 (by omega), same_mut sm3 hD, ys3 ++ [x], upd_same, ?_⟩
        rw [List.take_add_one, hb, ← List.append_assoc]
        exact hys3.snoc a3
      · obtain ⟨sm3, ys3, hy3, hys3⟩ := hP
        refine ⟨sm3, ys3, hy3, ?_⟩
        rw [lz, List.take_length] at hys3
        rw [fm_succ hl]
        exact hys3
    obtain ⟨sm, ys, hy, hys⟩ := hP
    rw [lx, List.take_length] at hys
    have hys : Ens K N H1 ys (bxs d) := hys
    have l30 : (bxs d).length ≤ 30 := by
      have := fm_le hrow l3 (itm d).length
      rw [List.take_length] at this
      exact this
    have s2 := s1.trans sm
    refine ⟨D, ys, bxs d, N, rfl, SqL.of hy, hys.ks sm, io, l30, fun ew H3 s3 => ?_, fun x ew => (er _ (wordF_box c0 ew)).after s2⟩
    have s03 := s2.trans s3
    have wr := wordF_rule (r := r) (h := h) c0 ew
    refine ⟨_, rfl, y, r, N, _, _, rfl, hr'.ks s03, wbD r 1 8, rfl, ?_⟩
    cases c1 : wbD r 1 8 with
    | false => exact iteT ⟨_, rfl, fun dd hdd => er _ (wr.trans (rulW_rounds c1)) _ dd (s03.trans (same_new hdd)) upd_same⟩
    | true =>
    refine iteF ?_
    refine ⟨_, rfl, z, h, N, _, _, rfl, hh.ks s03, wbD h 1 2, rfl, ?_⟩
    cases c2 : wbD h 1 2 with
    | false => exact iteT ⟨_, rfl, fun dd hdd => er _ (wr.trans (rulW_hear c1 c2)) _ dd (s03.trans (same_new hdd)) upd_same⟩
    | true =>
    refine iteF ?_
    have w4 := rulW_lt c1 c2
    obtain ⟨i, rfl, rfl⟩ := wb_int hr' c1
    obtain ⟨j, rfl, rfl⟩ := wb_int hh c2
    refine ⟨_, rfl, _, rfl, _, _, rfl, rfl, decide (i < j), rfl, ?_⟩
    cases c3 : decide (i < j) with
    | true =>
      have c4 : ltD (.int i) (.int j) = true := c3
      rw [if_pos c4] at w4
      exact iteT ⟨_, rfl, fun dd hdd => er _ (wr.trans w4) _ dd (s03.trans (same_new hdd)) upd_same⟩
    | false =>
      have c4 : ltD (.int i) (.int j) = false := c3
      rw [if_neg (by rw [c4]; exact Bool.false_ne_true)] at w4
      exact iteF (k (wr.trans w4) _ s03)
end
end K06

namespace K06
open PySem L2 Wm TL Dv De
section
variable {P : Program} {w : World} {K : PySem.W.Frag} {mg : Str → Option Value} {base : Heap}
variable {N : Addr → Prop}
theorem dts_of {H : Hp} {ys : List V} {ds : List PyData} (l : ys.length = ds.length) (h : ∀ (i : Nat) y, ys[i]? = some y → ∃ d, ds[i]? = some d ∧ Dt K H y d) : Dts K H ys ds := by
  induction ds generalizing ys with
  | nil =>
    rw [List.eq_nil_of_length_eq_zero l]
    exact .nil
  | cons d ds ih =>
    cases ys with
    | nil => cases l
    | cons y ys =>
      refine .cons ?_ (ih (by simpa using l) fun i z hz => ?_)
      · obtain ⟨e, he, a⟩ := h 0 y rfl
        cases he
        exact a
      · obtain ⟨e, he, a⟩ := h (i + 1) z (by simpa using hz)
        exact ⟨e, by simpa using he, a⟩
theorem putF_len (f : Str) (v : V) : ∀ fs : List (Str × V), (putF f v fs).length ≤ fs.length + 1
  | [] => by simp [putF]
  | (g, x) :: r => by
    have ih := putF_len f v r
    unfold putF
    split
    · simp
    · simp only [List.length_cons]
      omega
/-- what stands at another place than p -/
def Off (p : Addr) (H H' : Hp) : Prop := ∀ q o, q ≠ p → H q = some o → H' q = some o
theorem Off.trans {p : Addr} {H H1 H2 : Hp} (a : Off p H H1) (b : Off p H1 H2) : Off p H H2 := fun q o n h => b q o n (a q o n h)
theorem Off.of {p : Addr} {H H' : Hp} (s : Same H H') : Off p H H' := fun q o _ h => s q o h
theorem Off.set {p : Addr} {H : Hp} {o : HO} : Off p H (upd H p o) := fun q u n h => by
  rw [upd_ne n]
  exact h
theorem kt_ins {H : Hp} {p C dx : Addr} {fs : List (Str × V)} {o : HO} (h : H p = some (.ins C dx fs)) : Kt K H (upd H p o) := Kt.set h (fun _ q => by cases q) (fun _ _ q => by cases q)
theorem wordF_none {d r h : PyData} (e : wordF d r h = none) : loopsB d = true ∧ boxW (bxs d) = none ∧ rulW r h = none := by
  cases c0 : loopsB d with
  | false => rw [wordF_loops c0] at e; cases e
  | true =>
    cases c1 : boxW (bxs d) with
    | some x => rw [wordF_box c0 c1] at e; cases e
    | none => rw [wordF_rule c0 c1] at e; exact ⟨rfl, rfl, e⟩
theorem rulW_none {r h : PyData} (e : rulW r h = none) : wbD r 1 8 = true ∧ wbD h 1 2 = true ∧ ltD r h = false := by
  cases c1 : wbD r 1 8 with
  | false => rw [rulW_rounds c1] at e; cases e
  | true =>
    cases c2 : wbD h 1 2 with
    | false => rw [rulW_hear c1 c2] at e; cases e
    | true =>
      rw [rulW_lt c1 c2] at e
      cases c3 : ltD r h with
      | true => rw [c3] at e; cases e
      | false => exact ⟨rfl, rfl, rfl⟩
theorem boxW_none {ds : List PyData} (e : boxW ds = none) : (∀ b ∈ ds, rowB b 2 2 = true ∧ numB (fstD b) = true ∧ sortB (sndD b) = true) ∧ dblB ds = false := by
  cases c1 : ds.all fun b => rowB b 2 2 with
  | false => rw [boxW_box c1] at e; cases e
  | true =>
    cases c2 : ds.all fun b => numB (fstD b) with
    | false => rw [boxW_number c1 c2] at e; cases e
    | true =>
      cases c3 : ds.all fun b => sortB (sndD b) with
      | false => rw [boxW_sort c1 c2 c3] at e; cases e
      | true =>
        rw [boxW_dbl c1 c2 c3] at e
        refine ⟨fun b m => ⟨List.all_eq_true.mp c1 b m, List.all_eq_true.mp c2 b m, List.all_eq_true.mp c3 b m⟩, ?_⟩
        cases c4 : dblB ds with
        | true => rw [c4] at e; cases e
        | false => rfl
theorem eqv_str {t : Str} {d : PyData} (h : PyData.eqv (.str t) d = true) : d = .str t := by
  cases d with
  | str u =>
    have h : (t == u) = true := by simpa only [PyData.eqv] using h
    rw [eq_of_beq h]
  | _ => simp only [PyData.eqv] at h; cases h
theorem sort_str {d : PyData} (h : sortB d = true) : d = .str "plain" ∨ d = .str "shy" := by
  rcases Bool.or_eq_true_iff.mp h with h | h
  · exact .inl (eqv_str h)
  · exact .inr (eqv_str h)
theorem en_str {H H' : Hp} {v : V} {t : Str} (h : En K N H v (.str t)) : Dt K H' v (.str t) := by
  cases h
  exact .str _
/-- a right box's parts -/
theorem pair_dt {H : Hp} {v : V} {b : PyData} (h : En K N H v b) (c : rowB b 2 2 = true ∧ numB (fstD b) = true ∧ sortB (sndD b) = true) : ∃ q t x y, v = .ref q ∧ Kd.Is K t H q [x, y] ∧ ∀ H', Dts K H' [x, y] [fstD b, sndD b] := by
  obtain ⟨q, t, x, y, rfl, hq, f1, f2, _⟩ := box_en h c.1
  refine ⟨q, t, x, y, rfl, hq, fun H' => ?_⟩
  obtain ⟨n, _, en⟩ := num_get c.2.1
  rw [en] at f1 ⊢
  rcases sort_str c.2.2 with e | e
  · rw [e] at f2 ⊢
    exact .cons (en_str f1) (.cons (en_str f2) .nil)
  · rw [e] at f2 ⊢
    exact .cons (en_str f1) (.cons (en_str f2) .nil)
theorem pair_inv {H : Hp} {v : V} {b : PyData} (h : Dt K H v (pairD b)) : ∃ q x y, v = .ref q ∧ SqT K H q [x, y] ∧ Dt K H x (fstD b) := by
  obtain ⟨q, xs, e, hq, hd⟩ := h.inv
  cases hd with
  | cons a hd =>
    cases hd with
    | cons b hd =>
      cases hd
      exact ⟨q, _, _, e, hq, a⟩
theorem ok_init (T : Txt K mg) : FnOk P w K mg base (L2.CX P w) 5 T.a_init T.d_init ["self", "loops", "rounds", "hear"] (sp_init K T.C T.CT) := by
  refine T.F_init.ok sc_init (fun vs H Q E h => ?_) (fun cdv A outer s H vs Q E hr h => ?_)
  · obtain ⟨p, dx, x, y, z, d, r, h, N, rfl, _⟩ := h
    rfl
  · obtain ⟨p, dx, x, y, z, d, r, h, N, rfl, hp, hd, hr', hh, io, k, er⟩ := h
    refine ⟨_, (pss_cons (ps_expr (pe_callS (ok_check_town T) (hr.mono (by decide)) rfl T.g_check_town T.F_check_town.kp T.b_check_town (fun σ => passAt (takes_of rfl rfl rfl rfl) σ) (by exact (pa_cons (pv 1) (pa_cons (pv 2) (pa_cons (pv 3) pa_nil))))))
      (pss_cons (ps_fld (pv 0) (pe_callTy call_tuple_of (by rfl) T.z_tuple (by decide +kernel) (pa_cons (pe_lc (own := [("loop", 4)]) (g := gName 4) (tt := tYes) rfl sc_init.nd (Kd.pi_seq (pv 1)) (blkOk_by (own := [("loop", 4)]) (N := nm_init) (sc := (defScope s_init)) (by decide +kernel)) (fun _ _ _ _ _ => pg_name (i := 4) sc_init.nd rfl (Or.inl rfl)) (fun _ _ _ _ _ => pts_nil) (fun _ _ _ _ _ => (pe_callTy (show CallR _ _ (Kx.rTupOf K) from call_tuple_of) (by rfl) T.z_tuple (by decide +kernel) (pa_cons (pe_lc (own := [("box", 5)]) (g := gName 5) (tt := tYes) rfl sc_init.nd (show PI _ _ _ (Kd.iSeq K (tVar 4)) from (Kd.pi_seq (pv 4))) (blkOk_by (own := [("box", 5)]) (N := nm_init) (sc := ({ kind := .function, names := [(".0", .local), ("loop", .local), ("tuple", .globalImplicit)], isGenerator := false, isCoroutine := false } : Scope)) (by decide +kernel)) (fun _ _ _ _ _ => pg_name (i := 5) sc_init.nd rfl (Or.inl rfl)) (fun _ _ _ _ _ => pts_nil) (fun _ _ _ _ _ => (pe_callTy (show CallR _ _ (Kx.rTupOf K) from call_tuple_of) (by rfl) T.z_tuple (by decide +kernel) (pa_cons (pv 5) pa_nil)))) pa_nil)))) pa_nil)) rfl)
      (pss_cons (ps_fld (pv 0) (pv 2) rfl)
      (pss_cons (ps_fld (pv 0) (pv 3) rfl)
      (pss_one (ps_fld (pv 0) (pe_callTy call_tuple_of (by rfl) T.z_tuple (by decide +kernel) (pa_cons (pe_lc2 (own := [("loop", 4), ("number", 6), ("_", 7)]) (g := gName 4) (tt := tYes) (g1 := gTup K 2 (gCons (gName 6) (gCons (gName 7) (gNil)))) (tt1 := tYes) (vs1 := [6, 7]) rfl sc_init.nd (pi_tup (pe_fld (pv 0) rfl)) (blkOk_by (own := [("loop", 4), ("number", 6), ("_", 7)]) (N := nm_init) (sc := (defScope s_init)) (by decide +kernel)) (by decide) (fun _ _ _ _ _ => pg_name (i := 4) sc_init.nd rfl (Or.inl rfl)) (fun _ _ _ _ _ => pts_nil) (fun _ _ _ _ _ => (show PI _ _ _ (Kd.iSeq K (tVar 4)) from (Kd.pi_seq (pv 4)))) (fun _ _ _ _ _ => (pg_tup rfl (pgs_cons (pg_name (i := 6) sc_init.nd rfl (Or.inl rfl)) (pgs_cons (pg_name (i := 7) sc_init.nd rfl (Or.inl rfl)) pgs_nil)))) (fun _ _ _ _ _ => pts_nil) (fun _ _ _ _ _ => (pv 6))) pa_nil)) rfl)))))), ?_⟩
    refine ⟨_, rfl, _, rfl, _, rfl, x, y, z, d, r, h, N, rfl, hd, hr', hh, io, fun ew H1 s1 => ?_, er⟩
    have k := k ew
    obtain ⟨c0, ew2, ew3⟩ := wordF_none ew
    obtain ⟨hbx, _⟩ := boxW_none ew2
    obtain ⟨ew4, ew5, _⟩ := rulW_none ew3
    obtain ⟨ri, rfl, rfl⟩ := wb_int hr' ew4
    obtain ⟨hi, rfl, rfl⟩ := wb_int hh ew5
    obtain ⟨e1, _, l3, hrow⟩ := loops_seq c0
    obtain ⟨a, xs, t, rfl, hS, hds, _⟩ := seq_en (hd.ks s1) e1
    have lx := hds.len
    have bm : ∀ l ∈ itm d, ∀ b ∈ itm l, b ∈ bxs d := fun l m b m2 => List.mem_flatMap.mpr ⟨l, m, m2⟩
    refine ⟨_, rfl, a, xs, t, rfl, hS, fun J GG w hG D hD => ?_⟩
    refine Lm.lc_map (K := K) w (fun i y H' => ∃ e, ((itm d).map fun l => PyData.tuple ((itm l).map pairD))[i]? = some e ∧ Dt K H' y e) (fun _ _ _ _ ⟨d, e, t⟩ kt => ⟨d, e, t.k kt⟩) hD (by omega) (fun H' s => hG _ (hS.keep s)) (fun i x H' hi hx2 sm Q2 Z q => ?_) (fun H2 ys s2 hy ly hR => ?_)
    · obtain ⟨l, hl, t⟩ := hds.at hx2
      have ml := List.mem_of_getElem? hl
      have hd2 : ((itm d).map fun l => PyData.tuple ((itm l).map pairD))[i]? = some (.tuple ((itm l).map pairD)) := by rw [List.getElem?_map, hl]; rfl
      obtain ⟨f1, f2, f3⟩ := row_seq (hrow l ml)
      obtain ⟨q1, zs, t1, rfl, hq, hz, _⟩ := seq_en (t.ks sm) f1
      have lz := hz.len
      refine ⟨rfl, yesT ?_⟩
      refine ⟨_, rfl, q1, zs, t1, rfl, hq, fun J1 GG1 w1 hG1 D2 hD2 => ?_⟩
      refine Lm.lc_map (K := K) w1 (fun i y H' => ∃ e, ((itm l).map pairD)[i]? = some e ∧ Dt K H' y e) (fun _ _ _ _ ⟨d, e, t⟩ kt => ⟨d, e, t.k kt⟩) hD2 (by omega) (fun H' s => hG1 _ (hq.keep s)) (fun j x H3 hj hx3 sm3 Q3 Z3 q3 => ?_) (fun H3 zs3 s3 hy3 ly3 hR3 => ?_)
      · obtain ⟨b, hb, t3⟩ := hz.at hx3
        have mb := List.mem_of_getElem? hb
        obtain ⟨q2, t2, u, v, rfl, hq2, hp2⟩ := pair_dt (t3.ks sm3) (hbx b (bm l ml b mb))
        have eb : ((itm l).map pairD)[j]? = some (pairD b) := by rw [List.getElem?_map, hb]; rfl
        refine ⟨rfl, yesT ?_⟩
        refine ⟨_, rfl, q2, [u, v], rfl, ?_⟩
        cases t2 with
        | true => exact .inr ⟨hq2, q3 _ _ (Same.refl _) ⟨_, eb, .tup hq2 (hp2 _)⟩⟩
        | false => exact .inl ⟨hq2, fun l9 hl9 => q3 _ _ (same_new hl9) ⟨_, eb, dt_tup upd_same (hp2 _)⟩⟩
      · refine ⟨D2, zs3, rfl, .inl ⟨SqL.of hy3, fun l2 hl2 => ?_⟩⟩
        have kt := Kt.new (K := K) (o := .tup zs3) hl2
        refine q _ _ (s3.trans (same_new hl2)) ⟨_, hd2, dt_tup upd_same ?_⟩
        exact (dts_of (by rw [ly3, lz, List.length_map]) hR3).k kt
    have hds := dts_of (by rw [ly, lx, List.length_map]) hR
    refine ⟨D, ys, rfl, .inl ⟨SqL.of hy, fun lp hlp => ?_⟩⟩
    have s3 : Same H (upd H2 lp (.tup ys)) := (s1.trans s2).trans (same_new hlp)
    have hloops : Dt K (upd H2 lp (.tup ys)) (.ref lp) (townD d) := dt_tup upd_same (hds.k (Kt.new hlp))
    generalize upd H2 lp (.tup ys) = H3 at *
    have hp3 := s3 _ _ hp
    refine ⟨_, rfl, p, T.C, dx, _, rfl, hp3, T.clC, T.nL, by show 0 < 1000; decide, ?_⟩
    have hp4 : upd H3 p (.ins T.C dx (putF "loops" (.ref lp) [])) p = some (.ins T.C dx (putF "loops" (.ref lp) [])) := upd_same
    have lf1 := putF_len "loops" (.ref lp) []
    refine ⟨_, rfl, _, rfl, p, T.C, dx, _, rfl, hp4, T.clC, T.nR, by simp only [List.length_nil] at lf1; omega, ?_⟩
    have lf2 := putF_len "rounds" (.int ri) (putF "loops" (.ref lp) [])
    refine ⟨_, rfl, _, rfl, p, T.C, dx, _, rfl, upd_same, T.clC, T.nH, by simp only [List.length_nil] at lf1; omega, ?_⟩
    have lf3 := putF_len "hear" (.int hi) (putF "rounds" (.int ri) (putF "loops" (.ref lp) []))
    have k4 : Kt K H3 (upd H3 p (.ins T.C dx (putF "loops" (.ref lp) []))) := kt_ins hp3
    have k5 := k4.trans (kt_ins (o := .ins T.C dx (putF "rounds" (.int ri) (putF "loops" (.ref lp) []))) hp4)
    have k6 := k5.trans (kt_ins (o := .ins T.C dx (putF "hear" (.int hi) (putF "rounds" (.int ri) (putF "loops" (.ref lp) [])))) upd_same)
    have o6 : Off p H (upd (upd (upd H3 p (.ins T.C dx (putF "loops" (.ref lp) []))) p (.ins T.C dx (putF "rounds" (.int ri) (putF "loops" (.ref lp) [])))) p (.ins T.C dx (putF "hear" (.int hi) (putF "rounds" (.int ri) (putF "loops" (.ref lp) []))))) := (((Off.of s3).trans Off.set).trans Off.set).trans Off.set
    have hp6 : upd (upd (upd H3 p (.ins T.C dx (putF "loops" (.ref lp) []))) p (.ins T.C dx (putF "rounds" (.int ri) (putF "loops" (.ref lp) [])))) p (.ins T.C dx (putF "hear" (.int hi) (putF "rounds" (.int ri) (putF "loops" (.ref lp) [])))) p = some (.ins T.C dx (putF "hear" (.int hi) (putF "rounds" (.int ri) (putF "loops" (.ref lp) [])))) := upd_same
    have hl6 := hloops.k k6
    have e1 : ¬ ("loops" : Str) = "rounds" := by decide +kernel
    have e2 : ¬ ("loops" : Str) = "hear" := by decide +kernel
    have e3 : ¬ ("loops" : Str) = "numbers" := by decide +kernel
    have e4 : ¬ ("rounds" : Str) = "hear" := by decide +kernel
    have e5 : ¬ ("rounds" : Str) = "numbers" := by decide +kernel
    have e6 : ¬ ("hear" : Str) = "numbers" := by decide +kernel
    have lk : (putF "hear" (.int hi) (putF "rounds" (.int ri) (putF "loops" (.ref lp) []))).lookup ("loops" : Str) = some (.ref lp) := by
      rw [lookup_putF, if_neg e2, lookup_putF, if_neg e1, lookup_putF, if_pos rfl]
    have lr : (putF "hear" (.int hi) (putF "rounds" (.int ri) (putF "loops" (.ref lp) []))).lookup ("rounds" : Str) = some (.int ri) := by
      rw [lookup_putF, if_neg e4, lookup_putF, if_pos rfl]
    have lh : (putF "hear" (.int hi) (putF "rounds" (.int ri) (putF "loops" (.ref lp) []))).lookup ("hear" : Str) = some (.int hi) := by
      rw [lookup_putF, if_pos rfl]
    have lw : ∀ m : Str, m ≠ "loops" → m ≠ "rounds" → m ≠ "hear" → (putF "hear" (.int hi) (putF "rounds" (.int ri) (putF "loops" (.ref lp) []))).lookup m = none := fun m w0 w1 w2 => by
      rw [lookup_putF, if_neg w2, lookup_putF, if_neg w1, lookup_putF, if_neg w0]
      rfl
    have lf : (putF "hear" (.int hi) (putF "rounds" (.int ri) (putF "loops" (.ref lp) []))).length ≤ 3 := by simp only [List.length_nil] at lf1; omega
    generalize (putF "hear" (.int hi) (putF "rounds" (.int ri) (putF "loops" (.ref lp) []))) = fs at *
    generalize upd (upd (upd H3 p (.ins T.C dx (putF "loops" (.ref lp) []))) p (.ins T.C dx (putF "rounds" (.int ri) (putF "loops" (.ref lp) [])))) p (.ins T.C dx fs) = H6 at *
    obtain ⟨a6, xs6, e6, hS6, hd6⟩ := hl6.inv
    cases e6
    have el6 : xs6.length = (itm d).length := by rw [hd6.len, List.length_map]
    refine ⟨_, rfl, p, T.C, dx, _, _, rfl, hp6, T.clC, T.nL, lk, lp, rfl, ⟨_, hS6⟩, fun D7 hD7 => ?_⟩
    refine Et.out_it walk_tup (fun i H' => Same H6 H' ∧ ∃ ys, H' D7 = some (.lst ys) ∧ Dts K H6 ys ((((itm d).take i).flatMap itm).map fstD)) ⟨same_new hD7, [], upd_same, .nil⟩ (fun i H' _ h => sameT h.1 hS6) (fun i x H7 H' hi hP hY => ?_) (fun H7 hP => ?_)
    · obtain ⟨sm, ys, hy, hys⟩ := hP
      obtain ⟨rfl, hx2⟩ := hY
      obtain ⟨e, he, t⟩ := hd6.at hx2
      rw [List.getElem?_map] at he
      obtain ⟨l, hl, rfl⟩ := Option.map_eq_some_iff.mp he
      have ml := List.mem_of_getElem? hl
      obtain ⟨_, _, f3⟩ := row_seq (hrow l ml)
      obtain ⟨q1, zs, rfl, hq, hz⟩ := t.inv
      have lz := hz.len
      rw [List.length_map] at lz
      have l30 := fm_le hrow l3 i
      refine ⟨rfl, yesT ?_⟩
      refine ⟨_, rfl, q1, zs, true, rfl, sameT sm hq, fun J1 GG1 w1 hG1 => ?_⟩
      refine Et.in_it w1 (fun j H3 => Same H6 H3 ∧ ∃ ys, H3 D7 = some (.lst ys) ∧ Dts K H6 ys ((((itm d).take i).flatMap itm ++ (itm l).take j).map fstD)) ⟨sm, ys, hy, by simpa using hys⟩ (fun j H3 _ h => hG1 _ (sameT h.1 hq)) (fun j x H3 H4 hj hP hY => ?_) (fun H3 hP => ?_)
      · obtain ⟨sm3, ys3, hy3, hys3⟩ := hP
        obtain ⟨rfl, hx3⟩ := hY
        obtain ⟨e, he, a3⟩ := hz.at hx3
        rw [List.getElem?_map] at he
        obtain ⟨b, hb, rfl⟩ := Option.map_eq_some_iff.mp he
        obtain ⟨q2, u, v, rfl, hq2, du⟩ := pair_inv a3
        have l3' := hys3.len
        rw [List.length_map, List.length_append, List.length_take] at l3'
        refine ⟨q2, _, rfl, sameT sm3 hq2, rfl, _, _, rfl, _, _, rfl, rfl, rfl, yesT ?_⟩
        refine ⟨_, rfl, ys3, hy3, small1000 (by omega), same_mut sm3 hD7, ys3 ++ [u], upd_same, ?_⟩
        rw [List.take_add_one, hb, ← List.append_assoc, List.map_append]
        exact hys3.snoc du
      · obtain ⟨sm3, ys3, hy3, hys3⟩ := hP
        refine ⟨sm3, ys3, hy3, ?_⟩
        rw [lz, List.take_length] at hys3
        rw [fm_succ hl]
        exact hys3
    obtain ⟨sm7, ys7, hy7, hys7⟩ := hP
    rw [el6, List.take_length] at hys7
    refine ⟨D7, ys7, rfl, .inl ⟨SqL.of hy7, fun l8 hl8 => ?_⟩⟩
    have s8 : Same H6 (upd H7 l8 (.tup ys7)) := sm7.trans (same_new hl8)
    have t8 : Dt K (upd H7 l8 (.tup ys7)) (.ref l8) (.tuple (namesD d)) := dt_tup upd_same (Dts.k hys7 (Kt.same s8))
    refine ⟨_, rfl, p, T.C, dx, _, rfl, s8 _ _ hp6, T.clC, T.nN, by omega, ?_⟩
    have k9 := kt_ins (K := K) (o := .ins T.C dx (putF "numbers" (.ref l8) fs)) (s8 _ _ hp6)
    refine k _ ((o6.trans (Off.of s8)).trans Off.set) ⟨dx, _, .ref lp, .ref l8, upd_same, ?_, ?_, ?_, ?_, fun m m0 m1 m2 m3 => ?_, (hl6.k (Kt.same s8)).k k9, t8.k k9⟩
    · rw [lookup_putF, if_neg e3]
      exact lk
    · rw [lookup_putF, if_neg e5]
      exact lr
    · rw [lookup_putF, if_neg e6]
      exact lh
    · rw [lookup_putF, if_pos rfl]
    · rw [lookup_putF, if_neg m3]
      exact lw m m0 m1 m2
end
end K06

namespace K06
open PySem L2 Wm TL Dv De
section
variable {P : Program} {w : World} {K : PySem.W.Frag} {mg : Str → Option Value} {base : Heap}
theorem cut_some (ns : List Int) (hi : Option Int) : ∃ m, cutV (ns.map V.int) none hi = (ns.take m).map V.int := by
  refine ⟨HT.sIx (ns.map V.int).length (ns.map V.int).length hi - HT.sIx (ns.map V.int).length 0 none, ?_⟩
  unfold cutV
  rw [HT.sIx_none, List.drop_zero, List.map_take]
theorem ok_bag (T : Txt K mg) : FnOk P w K mg base CX0 1 T.a_bag T.d_bag ["_law_script"] (sp_bag K) := by
  refine T.F_bag.ok sc_bag (fun vs H Q E h => ?_) (fun cdv A outer s H vs Q E hr h => ?_)
  · obtain ⟨a, ns, rfl, _⟩ := h
    rfl
  · obtain ⟨a, ns, rfl, hS, hlen, k⟩ := h
    refine ⟨_, (pss_cons (ps_setLc (i := 1) (own := [("_law_cell", 2)]) (g := gName 2) (tt := tYes) rfl sc_bag.nd rfl rfl (sw_true rfl rfl rfl (by decide +kernel)) (pi_list (pe_slice sl_list (pv 0) po_none (po_some pe_int))) (blkOk_by (own := [("_law_cell", 2)]) (N := nm_bag) (sc := (defScope s_bag)) (by decide +kernel)) (fun _ _ _ _ _ => pg_name (i := 2) sc_bag.nd rfl (Or.inl rfl)) (fun _ _ _ _ _ => pts_nil) (fun _ _ _ _ _ => (pe_ifExp (pt_cmpR op_ge (pv 2) pe_int (nomark _)) (pv 2) (pe_op op_sub pe_int (pv 2)))))
      (pss_one (ps_ret (pe_lst (pa_cons pe_int (pa_cons (pv 1) (pa_cons pe_int (pa_cons pe_int (pa_cons pe_int pa_nil))))))))), ?_⟩
    refine ⟨.ref a, rfl, 63, rfl, a, _, rfl, hS, fun p hp => ?_⟩
    obtain ⟨m, em⟩ := cut_some ns (some 63)
    rw [em]
    have hml : (ns.take m).length ≤ 63 := by rw [List.length_take]; omega
    generalize ns.take m = ms at hml
    refine ⟨p, rfl, ⟨_, SqL.of upd_same⟩, fun D hD => ?_⟩
    refine lc_list (xs := ms.map V.int) (fun i H' => Same (upd H p (.lst (ms.map V.int))) H' ∧ ∃ qs : List Int, qs.length = i ∧ H' D = some (.lst (qs.map V.int))) ⟨same_new hD, [], rfl, upd_same⟩ (fun i H2 _ hP => SqL.of (hP.1 _ _ upd_same)) (fun i x H2 hx hP => ?_) (fun H2 hP => ?_)
    · obtain ⟨sm, qs, eq, hq⟩ := hP
      have hi : i < ms.length := by
        have := (List.getElem?_eq_some_iff.mp hx).1
        rw [List.length_map] at this
        exact this
      have ex : x = .int ms[i] := by
        rw [List.getElem?_map, List.getElem?_eq_getElem hi] at hx
        exact (Option.some.inj hx).symm
      subst ex
      have small : (qs.map V.int).length < sizeLine := by rw [List.length_map]; exact small1000 (by omega)
      refine ⟨rfl, yesT ?_⟩
      refine ⟨_, rfl, _, _, rfl, rfl, _, rfl, ite2 (fun _ => ?_) (fun _ => ?_)⟩
      · exact ⟨_, rfl, _, hq, small, same_mut sm hD, qs ++ [ms[i]], by rw [List.length_append, eq]; rfl, by rw [upd_same, List.map_append]; rfl⟩
      · exact ⟨_, rfl, _, _, rfl, rfl, _, hq, small, same_mut sm hD, qs ++ [1 - ms[i]], by rw [List.length_append, eq]; rfl, by rw [upd_same, List.map_append]; rfl⟩
    · obtain ⟨sm, qs, eq, hq⟩ := hP
      refine ⟨_, rfl, by show 5 ≤ sizeLine; decide, fun b hb => ?_⟩
      refine k _ b (((same_new hp).trans sm).trans (same_new hb)) ⟨D, 0, 0, 0, 20261, qs, upd_same, at_old hq hb, by decide, by decide, by decide⟩
end
end K06

namespace K06
open PySem L2 Wm TL Dv De
section
variable {P : Program} {w : World} {K : PySem.W.Frag} {mg : Str → Option Value} {base : Heap}
theorem fmod_in {x l : Int} (h : 0 < l) : 0 ≤ x.fmod l ∧ x.fmod l < l := by
  rw [Int.fmod_eq_emod_of_nonneg x (Int.le_of_lt h)]
  exact ⟨Int.emod_nonneg x (by omega), Int.emod_lt_of_pos x h⟩
theorem ok_draw (T : Txt K mg) : FnOk P w K mg base CX0 1 T.a_draw T.d_draw ["_law_bag_here", "_law_limit"] (sp_draw K) := by
  refine T.F_draw.ok sc_draw (fun vs H Q E h => ?_) (fun cdv A outer s H vs Q E hr h => ?_)
  · obtain ⟨b, n, lim, rfl, _⟩ := h
    rfl
  · obtain ⟨b, n, lim, rfl, l0, l1, ⟨c, x, k, m, z, ns, hb, hc, k0, m0, mn⟩, hn, kk⟩ := h
    have hcb := bag_ne hb hc
    refine ⟨_, (C8.pss_cut (ps_if (PW.pt (pw_and (pt_cmpR op_lt (pe_ix ix_list (pv 0) pe_int (fun _ _ => rfl)) (pe_op op_pow pe_int pe_int) (nomark _)) (pw_and1 (pt_cmpR op_lt (pe_ix ix_list (pv 0) pe_int (fun _ _ => rfl)) (pe_callB call_len_seq (by rfl) T.z_len PySem.boot_len (pa_cons (pe_ix ix_list (pv 0) pe_int (fun _ _ => rfl)) pa_nil)) (nomark _)))))
        (pss_cons (ps_asg (pe_ix ix_list (pe_ix ix_list (pv 0) pe_int (fun _ _ => rfl)) (pe_ix ix_list (pv 0) pe_int (fun _ _ => rfl)) (fun _ _ => rfl)) (pg_sub (pv 0) pe_int set_list))
        (pss_one (ps_asg (pe_op op_add (pe_ix ix_list (pv 0) pe_int (fun _ _ => rfl)) pe_int) (pg_sub (pv 0) pe_int set_list))))
        pss_nil)
      (pss_cons (ps_if (pt_cmpR op_ge (pe_ix ix_list (pv 0) pe_int (fun _ _ => rfl)) (pe_op op_pow pe_int pe_int) (nomark _))
        (pss_cons (ps_set (i := 2) sc_draw.nd rfl (Or.inl rfl) (pe_op op_modN (pe_callTy call_int1 (by rfl) T.z_int (by decide +kernel) (pa_cons (pe_ix ix_list (pv 0) pe_int (fun _ _ => rfl)) pa_nil)) (pv 1)))
        (pss_cons (ps_asg (pe_op op_fdivW (pe_callTy call_int1 (by rfl) T.z_int (by decide +kernel) (pa_cons (pe_ix ix_list (pv 0) pe_int (fun _ _ => rfl)) pa_nil)) (pv 1)) (pg_sub (pv 0) pe_int set_list))
        (pss_one (ps_ret (pv 2)))))
        pss_nil)
      (pss_cons (ps_asg (pe_op op_add (pe_ix ix_list (pv 0) pe_int (fun _ _ => rfl)) pe_int) (pg_sub (pv 0) pe_int set_list))
      (pss_cons (ps_asg (pe_op op_modN (pe_callTy call_int1 (by rfl) T.z_int (by decide +kernel) (pa_cons (pe_op op_add (pe_op op_add (pe_op op_mul (pe_ix ix_list (pv 0) pe_int (fun _ _ => rfl)) pe_int) (pe_op op_mul (pe_op op_modN (pe_callTy call_int1 (by rfl) T.z_int (by decide +kernel) (pa_cons (pe_ix ix_list (pv 0) pe_int (fun _ _ => rfl)) pa_nil)) pe_int) pe_int)) (pe_op op_mul (pe_ix ix_list (pv 0) pe_int (fun _ _ => rfl)) pe_int)) pa_nil)) pe_int) (pg_sub (pv 0) pe_int set_list))
      (pss_one (ps_ret (pe_op op_modN (pe_op op_fdivN (pe_op op_modN (pe_callTy call_int1 (by rfl) T.z_int (by decide +kernel) (pa_cons (pe_op op_add (pe_op op_mul (pe_ix ix_list (pv 0) pe_int (fun _ _ => rfl)) pe_int) (pe_op op_mul (pe_ix ix_list (pv 0) pe_int (fun _ _ => rfl)) (pe_ix ix_list (pv 0) pe_int (fun _ _ => rfl)))) pa_nil)) pe_int) pe_int) (pv 1)))))))), ?_⟩
    refine ⟨fun σ H1 => ∃ x k : Int, σ = [some (.ref b), some (.int lim), none] ∧ 0 ≤ k ∧ But b H H1 ∧ H1 b = some (.lst [.int x, .ref c, .int k, .int m, .int z]), ?_, ?_⟩
    · refine ⟨_, rfl, b, _, 0, _, rfl, rfl, SqL.of hb, atI_nat (j := 0) rfl, _, _, rfl, rfl, ⟨by decide, by decide, by decide⟩, _, _, rfl, rfl, _, rfl, ite2 (fun h1 => ?_) (fun h1 => ?_)⟩
      · refine ⟨_, rfl, b, _, 2, _, rfl, rfl, SqL.of hb, atI_nat (j := 2) rfl, _, rfl, b, _, 1, _, rfl, rfl, SqL.of hb, atI_nat (j := 1) rfl, c, _, rfl, .inl (SqL.of hc), _, _, rfl, rfl, _, rfl, ite2 (fun h2 => ?_) (fun h2 => ?_)⟩
        · have h3 := of_decide_eq_true h2
          rw [List.length_map] at h3
          have h4 : k.toNat < ns.length := by omega
          have g : (ns.map V.int)[k.toNat]? = some (.int ns[k.toNat]) := by rw [List.getElem?_map, List.getElem?_eq_getElem h4]; rfl
          refine ⟨_, rfl, b, _, 1, _, rfl, rfl, SqL.of hb, atI_nat (j := 1) rfl, _, rfl, b, _, 2, _, rfl, rfl, SqL.of hb, atI_nat (j := 2) rfl, c, _, k, _, rfl, rfl, SqL.of hc, at_of (by omega) g, ?_⟩
          refine ⟨_, rfl, b, _, 0, 0, rfl, rfl, hb, rfl, ?_⟩
          refine ⟨_, rfl, b, _, 2, _, rfl, rfl, SqL.of upd_same, atI_nat (j := 2) rfl, _, _, rfl, rfl, ?_⟩
          refine ⟨_, rfl, b, _, 2, 2, rfl, rfl, upd_same, rfl, ?_⟩
          exact ⟨_, _, rfl, by omega, But.trans (But.set hb) (But.set upd_same), upd_same⟩
        · exact ⟨x, k, rfl, k0, But.refl _ _, hb⟩
      · exact ⟨x, k, rfl, k0, But.refl _ _, hb⟩
    · rintro σ H1 ⟨x, k, rfl, k0, but, hb⟩
      have hc1 : H1 c = some (.lst (ns.map V.int)) := but _ _ hcb hc
      refine ⟨_, rfl, b, _, 0, _, rfl, rfl, SqL.of hb, atI_nat (j := 0) rfl, _, _, rfl, rfl, ⟨by decide, by decide, by decide⟩, _, _, rfl, rfl, _, rfl, ite2 (fun h1 => ?_) (fun h1 => ?_)⟩
      · refine ⟨_, rfl, b, _, 0, _, rfl, rfl, SqL.of hb, atI_nat (j := 0) rfl, .inl ⟨_, rfl, _, rfl, _, _, rfl, rfl, by omega, ?_⟩⟩
        refine ⟨_, rfl, b, _, 0, _, rfl, rfl, SqL.of hb, atI_nat (j := 0) rfl, .inl ⟨_, rfl, _, rfl, _, _, rfl, rfl, wide_div l0 (b := 100) (by omega) (by decide) (by decide), ?_⟩⟩
        refine ⟨_, rfl, b, _, 0, 0, rfl, rfl, hb, rfl, ?_⟩
        refine ⟨_, rfl, kk _ _ (fmod_in l0).1 (fmod_in l0).2 ⟨c, _, k, m, z, ns, upd_same, ?_, k0, m0, by omega⟩ (but.trans (But.set hb))⟩
        rw [upd_ne hcb]
        exact hc1
      · refine ⟨_, rfl, b, _, 3, _, rfl, rfl, SqL.of hb, atI_nat (j := 3) rfl, _, _, rfl, rfl, ?_⟩
        refine ⟨_, rfl, b, _, 3, 3, rfl, rfl, hb, rfl, ?_⟩
        -- the two reckonings
        refine ⟨_, rfl, b, _, 4, _, rfl, rfl, SqL.of upd_same, atI_nat (j := 4) rfl, _, _, rfl, rfl, .inr ⟨by decide, by decide⟩, ?_⟩
        refine ⟨_, rfl, b, _, 0, _, rfl, rfl, SqL.of upd_same, atI_nat (j := 0) rfl, .inl ⟨_, rfl, _, _, rfl, rfl, by omega, _, _, rfl, rfl, .inr ⟨by decide, by decide⟩, _, _, rfl, rfl, ?_⟩⟩
        refine ⟨_, rfl, b, _, 3, _, rfl, rfl, SqL.of upd_same, atI_nat (j := 3) rfl, _, _, rfl, rfl, .inr ⟨by decide, by decide⟩, _, _, rfl, rfl, .inl ⟨_, rfl, _, _, rfl, rfl, by omega, ?_⟩⟩
        refine ⟨_, rfl, b, _, 4, 4, rfl, rfl, upd_same, rfl, ?_⟩
        refine ⟨_, rfl, b, _, 4, _, rfl, rfl, SqL.of upd_same, atI_nat (j := 4) rfl, _, _, rfl, rfl, .inr ⟨by decide, by decide⟩, ?_⟩
        refine ⟨_, rfl, b, _, 3, _, rfl, rfl, SqL.of upd_same, atI_nat (j := 3) rfl, _, rfl, b, _, 3, _, rfl, rfl, SqL.of upd_same, atI_nat (j := 3) rfl, _, _, rfl, rfl, .inl ⟨by omega, by omega⟩, _, _, rfl, rfl, .inl ⟨_, rfl, _, _, rfl, rfl, by omega, _, _, rfl, rfl, ⟨by decide, by decide⟩, _, rfl, _, _, rfl, rfl, by omega, ?_⟩⟩
        refine kk _ _ (fmod_in l0).1 (fmod_in l0).2 ⟨c, x, k, m + 1, _, ns, upd_same, ?_, k0, by omega, by omega⟩ ((but.trans (But.set hb)).trans (But.set upd_same))
        rw [upd_ne hcb, upd_ne hcb]
        exact hc1
end
end K06

namespace K06
open PySem L2 Wm TL Dv De
section
variable {P : Program} {w : World} {K : PySem.W.Frag} {mg : Str → Option Value} {base : Heap}
theorem dig_log {d : Nat} (h : 1 ≤ d ∧ d ≤ 9) : ((d : Int)).natAbs.log2 < 1920 := by
  rcases dig_cases h with e | e | e | e | e | e | e | e | e <;> subst e <;> decide +kernel
theorem top_at {way : Int} (h0 : 0 ≤ way) (h1 : way < 6) : ∃ top : Int, atI [V.int 3, V.int 3, V.int 3, V.int 3, V.int 9, V.int 9] way = some (.int top) ∧ 3 ≤ top ∧ top ≤ 9 := by
  have c : way = 0 ∨ way = 1 ∨ way = 2 ∨ way = 3 ∨ way = 4 ∨ way = 5 := by omega
  rcases c with e | e | e | e | e | e <;> subst e
  · exact ⟨3, rfl, by decide, by decide⟩
  · exact ⟨3, rfl, by decide, by decide⟩
  · exact ⟨3, rfl, by decide, by decide⟩
  · exact ⟨3, rfl, by decide, by decide⟩
  · exact ⟨9, rfl, by decide, by decide⟩
  · exact ⟨9, rfl, by decide, by decide⟩
theorem sum_snoc (ds : List Nat) (d : Nat) : (ds ++ [d]).sum = ds.sum + d := by
  rw [List.sum_append]
  simp
theorem len_snoc (ds : List Nat) (d : Nat) : (ds ++ [d]).length = ds.length + 1 := by simp
theorem dig_snoc {ds : List Nat} {d : Nat} (h : ∀ y ∈ ds, 1 ≤ y ∧ y ≤ 9) (g : 1 ≤ d ∧ d ≤ 9) : ∀ y ∈ ds ++ [d], 1 ≤ y ∧ y ≤ 9 := fun y m => by
  rcases List.mem_append.mp m with m | m
  · exact h y m
  · rw [List.mem_singleton.mp m]
    exact g
theorem ok_number (T : Txt K mg) : FnOk P w K mg base CX0 2 T.a_number T.d_number ["_law_bag_here"] (sp_number K) := by
  refine T.F_number.ok sc_number (fun vs H Q E h => ?_) (fun cdv A outer s H vs Q E hr h => ?_)
  · obtain ⟨b, n, rfl, _⟩ := h
    rfl
  · obtain ⟨b, n, rfl, hbag, hn, kk⟩ := h
    refine ⟨_, (pss_cons (ps_set (i := 1) sc_number.nd rfl (Or.inl rfl) (pe_op op_add pe_int (pe_call (ok_draw T) (hr.mono (by decide)) (by rfl) T.g_draw T.F_draw.kp T.b_draw .nil pass0 (pa_cons (pv 0) (pa_cons pe_int pa_nil)))))
      (pss_cons (ps_set (i := 2) sc_number.nd rfl (Or.inl rfl) (pe_call (ok_draw T) (hr.mono (by decide)) (by rfl) T.g_draw T.F_draw.kp T.b_draw .nil pass0 (pa_cons (pv 0) (pa_cons pe_int pa_nil))))
      (pss_cons (ps_set (i := 3) sc_number.nd rfl (Or.inl rfl) (pe_ix ix_list (pe_lst (pa_cons pe_int (pa_cons pe_int (pa_cons pe_int (pa_cons pe_int (pa_cons pe_int (pa_cons pe_int pa_nil))))))) (pv 2) (fun _ _ => rfl)))
      (pss_cons (ps_set (i := 4) sc_number.nd rfl (Or.inl rfl) pe_str)
      (pss_cons (ps_set (i := 5) sc_number.nd rfl (Or.inl rfl) pe_int)
      (pss_cons (ps_for PassesOwn.never rfl (pi_range1 (by rfl) T.z_range (pa_cons (pv 1) pa_nil)) (pg_name (i := 6) sc_number.nd rfl (Or.inl rfl))
        (pss_cons (ps_set (i := 7) sc_number.nd rfl (Or.inl rfl) (pe_op op_add pe_int (pe_call (ok_draw T) (hr.mono (by decide)) (by rfl) T.g_draw T.F_draw.kp T.b_draw .nil pass0 (pa_cons (pv 0) (pa_cons (pe_callB (call_min2 rfl) (by rfl) T.z_min (by decide +kernel) (pa_cons (pv 3) (pa_cons (pe_op op_sub (pv 5) (pe_op op_sub (pe_op op_sub (pv 1) pe_int) (pv 6))) pa_nil))) pa_nil)))))
        (C8.pss_cut (ps_if (PW.pt (pw_and (pt_cmpR op_eq (pv 2) pe_int (nomark _)) (pw_and1 (pt_cmpR op_eq (pv 6) (pe_op op_sub (pv 1) pe_int) (nomark _)))))
          (pss_one (ps_set (i := 7) sc_number.nd rfl (Or.inl rfl) (pe_callB (call_min2 rfl) (by rfl) T.z_min (by decide +kernel) (pa_cons pe_int (pa_cons (pv 5) pa_nil)))))
          pss_nil)
        (pss_cons (ps_set (i := 4) sc_number.nd rfl (Or.inl rfl) (pe_op op_add_str (pv 4) (pe_callTy call_str_int (by rfl) T.z_str (by decide +kernel) (pa_cons (pv 7) pa_nil))))
        (pss_one (ps_set (i := 5) sc_number.nd rfl (Or.inl rfl) (pe_op op_sub (pv 5) (pv 7))))))))
      (pss_one (ps_ret (pv 4))))))))), ?_⟩
    refine ⟨_, rfl, b, n, 4, rfl, by decide, by decide, hbag, by omega, fun H1 d1 g0 g1 bag1 but1 => ?_⟩
    refine ⟨_, _, rfl, rfl, ?_⟩
    refine ⟨_, rfl, b, n + 1, 6, rfl, by decide, by decide, bag1, by omega, fun H2 way w0 w1 bag2 but2 => ?_⟩
    obtain ⟨top, et, t3, t9⟩ := top_at w0 w1
    refine ⟨by show 6 ≤ sizeLine; decide, fun t ht => ?_⟩
    refine ⟨_, rfl, t, _, _, _, rfl, rfl, SqL.of upd_same, et, ?_⟩
    have bag3 := bag2.keep (same_new (o := .lst [V.int 3, V.int 3, V.int 3, V.int 3, V.int 9, V.int 9]) ht)
    have but3 : But b H (upd H2 t (.lst [V.int 3, V.int 3, V.int 3, V.int 3, V.int 9, V.int 9])) := (but1.trans but2).trans (But.of (same_new ht))
    obtain ⟨many, em⟩ : ∃ many : Nat, (1 : Int) + d1 = (many : Nat) := ⟨(1 + d1).toNat, by omega⟩
    try dsimp only
    rw [em]
    have m1 : 1 ≤ many := by omega
    have m4 : many ≤ 4 := by omega
    refine ⟨_, rfl, _, rfl, by omega, by omega, ?_⟩
    rw [Int.toNat_natCast]
    refine for_range (fun i σ H' => ∃ (ds : List Nat) (vk vd : Option V), σ = [some (.ref b), some (.int (many : Nat)), some (.int way), some (.int top), some (.str (numS ds)), some (.int (24 - (ds.sum : Nat))), vk, vd] ∧
      ds.length = i ∧ (∀ d ∈ ds, 1 ≤ d ∧ d ≤ 9) ∧ ds.sum + (many - i) ≤ 24 ∧ Bag H' b (n + 2 + i) ∧ But b H H')
      ⟨[], none, none, by rw [numS_nil]; rfl, rfl, fun _ m => absurd m (List.not_mem_nil), by show 0 + (many - 0) ≤ 24; omega, bag3, but3⟩ (fun i σ H' hi hP => ?_) (fun σ H' hP => ?_)
    · obtain ⟨ds, vk, vd, rfl, el, hd, hs, bag, but⟩ := hP
      have eL : ((24 : Int) - (ds.sum : Nat)) - ((many : Nat) - 1 - (0 + (i : Nat))) = ((24 - ds.sum - (many - 1 - i) : Nat) : Int) := by omega
      -- the digit's draw
      refine ⟨_, rfl, _, rfl, _, rfl, _, rfl, _, _, rfl, rfl, _, rfl, _, _, rfl, rfl, _, _, rfl, rfl, _, _, rfl, ?_⟩
      (try dsimp only; rw [eL])
      generalize hlim : (if ((24 - ds.sum - (many - 1 - i) : Nat) : Int) < top then ((24 - ds.sum - (many - 1 - i) : Nat) : Int) else top) = lim
      have lim1 : 1 ≤ lim ∧ lim ≤ 9 ∧ lim ≤ ((24 - ds.sum - (many - 1 - i) : Nat) : Int) := by
        rw [← hlim]
        split <;> omega
      refine ⟨b, n + 2 + i, lim, rfl, by omega, by omega, bag, by omega, fun H3 g q0 q1 bag4 but4 => ?_⟩
      refine ⟨_, _, rfl, rfl, ?_⟩
      refine ⟨fun σ H4 => ∃ d : Nat, σ = [some (.ref b), some (.int (many : Nat)), some (.int way), some (.int top), some (.str (numS ds)), some (.int (24 - (ds.sum : Nat))), some (.int (0 + (i : Nat))), some (.int (d : Nat))] ∧
        (1 ≤ d ∧ d ≤ 9) ∧ ds.sum + d + (many - 1 - i) ≤ 24 ∧ H4 = H3, ?_, ?_⟩
      · have mid : ∃ d : Nat, (1 : Int) + g = (d : Nat) ∧ (1 ≤ d ∧ d ≤ 9) ∧ ds.sum + d + (many - 1 - i) ≤ 24 := ⟨(1 + g).toNat, by omega, by omega, by omega⟩
        obtain ⟨d, ed, hd9, hsum⟩ := mid
        (try dsimp only; rw [ed])
        refine ⟨_, rfl, rfl, _, rfl, ite2 (fun c1 => ?_) (fun c1 => ?_)⟩
        · refine ⟨_, rfl, _, rfl, _, _, rfl, rfl, rfl, _, rfl, ite2 (fun c2 => ?_) (fun c2 => ?_)⟩
          · refine ⟨_, rfl, _, _, rfl, ?_⟩
            have e2 : (0 : Int) + (i : Nat) = (many : Nat) - 1 := V.int.inj (of_decide_eq_true c2)
            have q : ∃ e : Nat, (if ((24 : Int) - (ds.sum : Nat)) < 9 then ((24 : Int) - (ds.sum : Nat)) else 9) = (e : Nat) ∧ (1 ≤ e ∧ e ≤ 9) ∧ ds.sum + e + (many - 1 - i) ≤ 24 := by
              split
              · exact ⟨24 - ds.sum, by omega, by omega, by omega⟩
              · exact ⟨9, rfl, by omega, by omega⟩
            obtain ⟨e, ee, he9, hes⟩ := q
            (try dsimp only; rw [ee])
            exact ⟨e, rfl, he9, hes, rfl⟩
          · exact ⟨d, rfl, hd9, hsum, rfl⟩
        · exact ⟨d, rfl, hd9, hsum, rfl⟩
      · rintro σ H4 ⟨d, rfl, hd9, hsum, rfl⟩
        refine ⟨_, rfl, _, rfl, _, rfl, dig_log hd9, _, _, rfl, rfl, ?_, ?_⟩
        · rw [dig_str hd9, numS_len, numS_len]
          exact Nat.le_of_lt (small1000 (by show ds.length + 1 ≤ 1000; omega))
        rw [dig_str hd9, numS_app]
        refine ⟨_, rfl, _, rfl, _, _, rfl, rfl, ?_⟩
        have e3 : (24 : Int) - (ds.sum : Nat) - (d : Nat) = 24 - ((ds ++ [d]).sum : Nat) := by rw [sum_snoc]; omega
        (try dsimp only; rw [e3])
        exact ⟨ds ++ [d], _, _, rfl, by rw [len_snoc, el], dig_snoc hd hd9, by rw [sum_snoc]; omega, bag4, but.trans but4⟩
    · obtain ⟨ds, vk, vd, rfl, el, hd, hs, bag, but⟩ := hP
      refine ⟨_, rfl, kk _ ds ⟨by omega, by omega, hd, by omega⟩ (bag.mono (by omega)) but⟩
end
end K06

namespace K06
open PySem L2 Wm TL Dv De
section
variable {P : Program} {w : World} {K : PySem.W.Frag} {mg : Str → Option Value} {base : Heap}
theorem walk_rngL {lo : Int} {n : Nat} : Walk (Itr lo n) n (fun _ => True) (YAt ((List.range n).map fun (i : Nat) => V.int (lo + (i : Int)))) :=
  walk_range.mono (fun _ h => h) fun i H x H' hi _ y => ⟨y.1, by rw [List.getElem?_map, List.getElem?_range hi, y.2]; rfl⟩
theorem nodup_le {α : Type} [DecidableEq α] : ∀ (l D : List α), l.Nodup → (∀ x ∈ l, x ∈ D) → l.length ≤ D.length
  | [], _, _, _ => Nat.zero_le _
  | x :: l, D, hn, hs => by
    obtain ⟨h1, h2⟩ := List.nodup_cons.mp hn
    have hx : x ∈ D := hs x List.mem_cons_self
    have ih := nodup_le l (D.erase x) h2 fun y hy => by
      have hne : y ≠ x := fun e => h1 (e ▸ hy)
      exact (List.mem_erase_of_ne hne).2 (hs y (List.mem_cons_of_mem _ hy))
    have e := List.length_erase_of_mem hx
    have hp : 0 < D.length := List.length_pos_of_mem hx
    rw [List.length_cons]
    omega
def poolN (k : Nat) : List Nat := [k / 9 + 1, k % 9 + 1]
def pool : List Str := (List.range 81).map fun k => numS (poolN k)
theorem pool_str : ∀ k : Nat, k < 81 → Str.ofString (toString ((11 : Int) + (k : Int) + ((k : Int).fdiv 9))) = numS (poolN k) := by decide +kernel
theorem pool_small : ∀ k : Nat, k < 81 → ((11 : Int) + (k : Int) + ((k : Int).fdiv 9)).natAbs.log2 < 1920 := by decide +kernel
theorem pool_nd : pool.Nodup := by decide +kernel
theorem pool_len : pool.length = 81 := by unfold pool; rw [List.length_map, List.length_range]
theorem pool_num {k : Nat} (h : k < 81) : Num (poolN k) := ⟨by show 1 ≤ 2; omega, by show 2 ≤ 4; omega, fun d m => by
  rcases List.mem_cons.mp m with e | m
  · omega
  · rw [List.mem_singleton.mp m]; omega, by show k / 9 + 1 + (k % 9 + 1 + 0) ≤ 24; omega⟩
theorem pool_mem {x : Str} (h : x ∈ pool) : ∃ ds, Num ds ∧ x = numS ds := by
  obtain ⟨k, m, e⟩ := List.mem_map.mp h
  exact ⟨poolN k, pool_num (List.mem_range.mp m), e.symm⟩
theorem pool_ne {ts : List Str} (h : ts.length ≤ 40) : ∃ x r, (pool.filter fun x => !decide (x ∈ ts)) = x :: r ∧ x ∈ pool ∧ x ∉ ts := by
  cases e : pool.filter fun x => !decide (x ∈ ts) with
  | nil =>
    have q := nodup_le pool ts pool_nd fun x m => by
      have z := List.filter_eq_nil_iff.mp e x m
      simpa using z
    rw [pool_len] at q
    omega
  | cons x r =>
    have m : x ∈ pool.filter fun x => !decide (x ∈ ts) := by rw [e]; exact List.mem_cons_self
    obtain ⟨m1, m2⟩ := List.mem_filter.mp m
    exact ⟨x, r, rfl, m1, by simpa using m2⟩
theorem flat_strs (ts : List Str) : (ts.map V.str).all flatV = true := by
  rw [List.all_map]
  exact List.all_eq_true.mpr fun _ _ => rfl
theorem in_strs (x : Str) : ∀ ts : List Str, inV (.str x) (ts.map V.str) = decide (x ∈ ts)
  | [] => rfl
  | t :: ts => by
    have ih := in_strs x ts
    unfold inV at ih ⊢
    rw [List.map_cons, List.any_cons, ih]
    show ((t == x) || decide (x ∈ ts)) = _
    by_cases q : t = x
    · subst q
      simp
    · have q2 : ¬ x = t := fun e => q e.symm
      simp [q, q2]
theorem filt_yes {ts : List Str} {x : Str} (c : (if true = true then !decide (x ∈ ts) else decide (x ∈ ts)) = true) : ([x].filter fun x => !decide (x ∈ ts)) = [x] := List.filter_cons_of_pos (by simpa using c)
theorem filt_no {ts : List Str} {x : Str} (c : ¬ (if true = true then !decide (x ∈ ts) else decide (x ∈ ts)) = true) : ([x].filter fun x => !decide (x ∈ ts)) = [] := by
  rw [List.filter_cons_of_neg (by simpa using c)]
  rfl
theorem take_snoc {α : Type} {xs : List α} {i : Nat} {x : α} (h : xs[i]? = some x) : xs.take (i + 1) = xs.take i ++ [x] := by
  rw [List.take_add_one, h]
  rfl
theorem nums_mem {dss : List (List Nat)} {x : Str} (hN : ∀ ds ∈ dss, Num ds) (m : x ∈ dss.map numS) : ∃ ds, Num ds ∧ x = numS ds := by
  obtain ⟨ds, md, rfl⟩ := List.mem_map.mp m
  exact ⟨ds, hN ds md, rfl⟩
theorem ok_numbers (T : Txt K mg) : FnOk P w K mg base CX0 3 T.a_numbers T.d_numbers ["_law_bag_here", "_law_many"] (sp_numbers K) := by
  refine T.F_numbers.ok sc_numbers (fun vs H Q E h => ?_) (fun cdv A outer s H vs Q E hr h => ?_)
  · obtain ⟨b, n, many, rfl, _⟩ := h
    rfl
  · obtain ⟨b, n, many, rfl, m40, hbag, hn, kk⟩ := h
    refine ⟨_, (pss_cons (ps_set (i := 2) sc_numbers.nd rfl (Or.inr rfl) (pe_lst pa_nil))
      (pss_cons (ps_setLc (i := 3) (own := [("_law_k", 4)]) (g := gName 4) (tt := tYes) rfl sc_numbers.nd rfl rfl (sw_true rfl rfl rfl (by decide +kernel)) (pi_range1 (by rfl) T.z_range (pa_cons pe_int pa_nil)) (blkOk_by (own := [("_law_k", 4)]) (N := nm_numbers) (sc := (defScope s_numbers)) (by decide +kernel)) (fun _ _ _ _ _ => pg_name (i := 4) sc_numbers.nd rfl (Or.inl rfl)) (fun _ _ _ _ _ => pts_nil) (fun _ _ _ _ _ => (pe_callTy call_str_int (by rfl) T.z_str (by decide +kernel) (pa_cons (pe_op op_add (pe_op op_add pe_int (pv 4)) (pe_op op_fdivN (pv 4) pe_int)) pa_nil))))
      (pss_cons (ps_for PassesOwn.never rfl (pi_range1 (by rfl) T.z_range (pa_cons (pv 1) pa_nil)) (pg_name (i := 4) sc_numbers.nd rfl (Or.inl rfl))
        (pss_cons (ps_set (i := 5) sc_numbers.nd rfl (Or.inl rfl) (pe_call (ok_number T) (hr.mono (by decide)) (by rfl) T.g_number T.F_number.kp T.b_number .nil pass0 (pa_cons (pv 0) pa_nil)))
        (C8.pss_cut (ps_if (pt_cmpR op_in_seq (pv 5) (pv 2) rfl)
          (pss_cons (ps_setLc (i := 6) (own := [("_law_one", 7)]) (g := gName 7) rfl sc_numbers.nd rfl rfl (sw_true rfl rfl rfl (by decide +kernel)) (pi_list (pv 3)) (blkOk_by (own := [("_law_one", 7)]) (N := nm_numbers) (sc := (defScope s_numbers)) (by decide +kernel)) (fun _ _ _ _ _ => pg_name (i := 7) sc_numbers.nd rfl (Or.inl rfl)) (fun _ _ _ _ _ => (pts_one (pt_cmpR (show OpR _ _ (rIn K true) from op_notIn_seq) (pv 7) (pv 2) rfl))) (fun _ _ _ _ _ => (pv 7)))
          (pss_one (ps_set (i := 5) sc_numbers.nd rfl (Or.inl rfl) (pe_ix ix_list (pv 6) pe_int (fun _ _ => rfl)))))
          pss_nil)
        (pss_one (ps_expr (pe_bm PySem.F.plainAttrs_list PySem.F.slot_list_append PySem.F.type_list_append mt_append (pv 2) (pa_cons (pv 5) pa_nil)))))))
      (pss_one (ps_ret (pv 2)))))), ?_⟩
    refine ⟨Nat.zero_le _, fun f hf => ?_⟩
    have fb : f ≠ b := fun e => by
      obtain ⟨_, _, _, _, _, _, hb, _⟩ := hbag
      rw [e, hb] at hf
      cases hf
    have hf1 : upd H f (.lst []) f = some (.lst []) := upd_same
    have s1 : Same H (upd H f (.lst [])) := same_new hf
    generalize upd H f (.lst []) = H1 at *
    refine ⟨_, rfl, by decide, by decide, fun D hD => ?_⟩
    refine Lm.lc_map (K := K) (walk_rngL (lo := 0) (n := 81)) (fun i y _ => (pool.map V.str)[i]? = some y) (fun _ _ _ _ h _ => h) hD (by decide) (fun _ _ => trivial) (fun i x H' hi hx sm Q2 Z q => ?_) (fun H2 ys s2 hy ly hR => ?_)
    · rw [List.getElem?_map, List.getElem?_range hi] at hx
      cases Option.some.inj hx
      refine ⟨rfl, yesT ?_⟩
      refine ⟨_, rfl, _, _, rfl, rfl, _, rfl, _, _, rfl, rfl, ⟨by decide, by decide⟩, _, _, rfl, rfl, ?_⟩
      rw [Int.zero_add]
      refine ⟨_, rfl, pool_small i hi, ?_⟩
      rw [pool_str i hi]
      refine q _ _ (Same.refl _) ?_
      unfold pool
      rw [List.getElem?_map, List.getElem?_map, List.getElem?_range hi]
      rfl
    have ey : ys = pool.map V.str := Lm.list_is (by rw [ly, List.length_map, pool_len]) hR
    subst ey
    have s02 := s1.trans s2
    have hf2 := s2 _ _ hf1
    have hD0 : H D = none := s1.free hD
    have bag2 := hbag.keep s02
    have db : D ≠ b := fun e => by
      obtain ⟨_, _, _, _, _, _, hb, _⟩ := hbag
      rw [e, hb] at hD0
      cases hD0
    have df : D ≠ f := fun e => by
      rw [e, hf1] at hD
      cases hD
    refine ⟨_, rfl, _, rfl, by omega, by omega, ?_⟩
    rw [Int.toNat_natCast]
    refine for_range (fun i σ H' => ∃ (dss : List (List Nat)) (v4 v5 v6 : Option V), σ = [some (.ref b), some (.int (many : Nat)), some (.ref f), some (.ref D), v4, v5, v6, none] ∧ dss.length = i ∧ (∀ ds ∈ dss, Num ds) ∧ (dss.map numS).Nodup ∧
      H' f = some (.lst ((dss.map numS).map V.str)) ∧ H' D = some (.lst (pool.map V.str)) ∧ Bag H' b (n + 6 * i) ∧ But b H H')
      ⟨[], none, none, none, rfl, rfl, by simp, by simp, hf2, hy, bag2, But.of s02⟩ (fun i σ H3 hi hP => ?_) (fun σ H3 hP => ?_)
    · obtain ⟨dss, v4, v5, v6, rfl, el, hN, nd, hF, hS, bag, but⟩ := hP
      refine ⟨_, rfl, b, n + 6 * i, rfl, bag, by omega, fun H4 ds nm bag4 but4 => ?_⟩
      have hF4 := but4.keep _ _ fb hF
      have hS4 := but4.keep _ _ db hS
      have but5 := but.trans but4
      refine ⟨fun σ H5 => ∃ (ds : List Nat) (v6 : Option V), Num ds ∧ numS ds ∉ dss.map numS ∧ σ = [some (.ref b), some (.int (many : Nat)), some (.ref f), some (.ref D), some (.int (0 + (i : Nat))), some (.str (numS ds)), v6, none] ∧
        H5 f = some (.lst ((dss.map numS).map V.str)) ∧ H5 D = some (.lst (pool.map V.str)) ∧ Bag H5 b (n + 6 * i + 6) ∧ But b H H5, ?_, ?_⟩
      · refine ⟨_, rfl, _, rfl, f, _, rfl, .inl (SqL.of hF4), rfl, flat_strs _, _, rfl, ite2 (fun c => ?_) (fun c => ?_)⟩
        · refine ⟨_, rfl, D, rfl, ⟨_, SqL.of hS4⟩, fun A1 hA1 => ?_⟩
          refine lc_list (xs := pool.map V.str) (fun i H' => Same H4 H' ∧ H' A1 = some (.lst (((pool.take i).filter fun x => !decide (x ∈ dss.map numS)).map V.str))) ⟨same_new hA1, upd_same⟩ (fun i H3 _ hP => SqL.of (hP.1 _ _ hS4)) (fun i x H3 hx hP => ?_) (fun H3 hP => ?_)
          · obtain ⟨sm, hq⟩ := hP
            rw [List.getElem?_map] at hx
            obtain ⟨x, hx1, rfl⟩ := Option.map_eq_some_iff.mp hx
            have hi : i < 81 := by rw [← pool_len]; exact (List.getElem?_eq_some_iff.mp hx1).1
            have lq : ((pool.take i).filter fun x => !decide (x ∈ dss.map numS)).length ≤ 81 := Nat.le_trans (List.length_filter_le _ _) (by rw [List.length_take]; omega)
            have sn := take_snoc hx1
            refine ⟨rfl, ?_⟩
            refine ⟨_, rfl, _, rfl, f, _, rfl, .inl (SqL.of (sm _ _ hF4)), rfl, flat_strs _, _, rfl, ite2 (fun c => ?_) (fun c => ?_)⟩
            · rw [in_strs] at c
              refine ⟨_, rfl, _, hq, by rw [List.length_map]; exact small1000 (by omega), same_mut sm hA1, ?_⟩
              rw [upd_same, sn, List.filter_append, List.map_append, filt_yes c]
              rfl
            · rw [in_strs] at c
              refine ⟨sm, ?_⟩
              rw [hq, sn, List.filter_append, filt_no c, List.append_nil]
          obtain ⟨s3, h3⟩ := hP
          rw [List.length_map, List.take_length] at h3
          obtain ⟨x, r, e, mp, nin⟩ := pool_ne (ts := dss.map numS) (by rw [List.length_map]; omega)
          rw [e] at h3
          obtain ⟨es, ne, rfl⟩ := pool_mem mp
          refine ⟨_, rfl, A1, _, 0, _, rfl, rfl, SqL.of h3, atI_nat (j := 0) rfl, ?_⟩
          exact ⟨es, _, ne, nin, rfl, s3 _ _ hF4, s3 _ _ hS4, bag4.keep s3, but5.trans (But.of s3)⟩
        · rw [in_strs] at c
          exact ⟨ds, _, nm, by simpa using c, rfl, hF4, hS4, bag4, but5⟩
      · rintro σ H5 ⟨ds, v6, nm, nin, rfl, hF5, hS5, bag5, but5⟩
        refine ⟨_, rfl, .inl ⟨rfl, _, SqL.of hF5⟩, _, rfl, f, _, _, rfl, rfl, hF5, small1000 (by rw [List.length_map, List.length_map]; omega), ?_⟩
        refine ⟨dss ++ [ds], _, _, _, rfl, by rw [List.length_append, el]; rfl, fun x m => ?_, ?_, ?_, ?_, Bag.put hbag hf but5 (bag5.mono (by omega)), but5.put hf⟩
        · rcases List.mem_append.mp m with m | m
          · exact hN x m
          · rw [List.mem_singleton.mp m]
            exact nm
        · rw [List.map_append]
          refine List.nodup_append.mpr ⟨nd, by simp, fun x m y my => ?_⟩
          have ey : y = numS ds := by simpa using my
          intro e
          exact nin (by rw [← ey, ← e]; exact m)
        · rw [upd_same, List.map_append, List.map_append (f := V.str)]
          rfl
        · rw [upd_ne df]
          exact hS5
    · obtain ⟨dss, v4, v5, v6, rfl, el, hN, nd, hF, hS, bag, but⟩ := hP
      exact ⟨_, rfl, kk _ f dss el hN nd hf hF bag but⟩
end
end K06

namespace K06
open PySem L2 Wm TL Dv De
section
variable {P : Program} {w : World} {K : PySem.W.Frag} {mg : Str → Option Value} {base : Heap}
theorem Mg.mono {n m w v : Nat} {d : PyData} (h : Mg n w d) (a : n ≤ m) (b : w ≤ v) : Mg m v d := ⟨h.sh, h.ls, Nat.le_trans h.dp a, Nat.le_trans h.bk b⟩
theorem mg_non {n w : Nat} : Mg n w .none := ⟨by simp only [PyData.showable], by simp only [PyData.leavesShort], by simp only [PyData.depth]; omega, by simp only [PyData.bulk]; omega⟩
theorem mg_bl {n w : Nat} (b : Bool) : Mg n w (.bool b) := ⟨by simp only [PyData.showable], by simp only [PyData.leavesShort], by simp only [PyData.depth]; omega, by simp only [PyData.bulk]; omega⟩
theorem mg_emp {n w : Nat} : Mg (n + 1) w (.dict []) := ⟨by simp only [PyData.showable, PyData.showableKv], by simp only [PyData.leavesShort, PyData.leavesShortKv], by simp only [PyData.depth, PyData.depthKv]; omega, by simp only [PyData.bulk, PyData.bulkKv]; omega⟩
theorem mg_int {n w : Nat} {i : Int} (h : i.natAbs < 1000000) : Mg n w (.int i) :=
  let t := tk_show (Tk.int h)
  ⟨t.1, t.2.2.1, by simp only [PyData.depth]; omega, by simp only [PyData.bulk]; omega⟩
theorem mg_str {n w : Nat} {t : Str} (h : t.cps.toList.all (fun c => decide (c < 16 ^ 8)) = true) (l : t.cps.size ≤ w) : Mg n w (.str t) :=
  ⟨by simp only [PyData.showable], by simp only [PyData.leavesShort]; exact h, by simp only [PyData.depth]; omega, by simp only [PyData.bulk]; exact l⟩
theorem mg_num {n w : Nat} {ds : List Nat} (N : Num ds) (l : 4 ≤ w) : Mg n w (.str (numS ds)) := mg_str (by
  refine List.all_eq_true.mpr fun c m => ?_
  have q := num_codes N.dig c m
  refine decide_eq_true ?_
  have e : ∀ c ∈ ("123456789" : Str).cps.toList, c < 16 ^ 8 := by decide +kernel
  exact e c q) (by rw [numS_size]; have := N.len; omega)
theorem mg_all {n w k : Nat} : ∀ {ds : List PyData}, (∀ d ∈ ds, Mg n w d) → ds.length ≤ k → PyData.showableAll ds = true ∧ PyData.leavesShortAll 13 ds = true ∧ PyData.depthAll ds ≤ n ∧ PyData.bulkAll ds ≤ k * (w + 1)
  | [], _, _ => by simp only [PyData.showableAll, PyData.leavesShortAll, PyData.depthAll, PyData.bulkAll]; exact ⟨trivial, trivial, Nat.zero_le _, Nat.zero_le _⟩
  | d :: ds, h, l => by
    cases k with
    | zero => simp at l
    | succ k =>
      have i := h d List.mem_cons_self
      obtain ⟨a, b, c, e⟩ := mg_all (k := k) (fun x m => h x (List.mem_cons_of_mem _ m)) (by simpa using l)
      simp only [PyData.showableAll, PyData.leavesShortAll, PyData.depthAll, PyData.bulkAll, Bool.and_eq_true]
      have h1 := i.dp
      have h2 := i.bk
      refine ⟨⟨i.sh, a⟩, ⟨i.ls, b⟩, by omega, ?_⟩
      rw [Nat.succ_mul]
      omega
theorem mg_lst {n w k : Nat} {ds : List PyData} (h : ∀ d ∈ ds, Mg n w d) (l : ds.length ≤ k) : Mg (n + 1) (k * (w + 1)) (.list ds) := by
  obtain ⟨a, b, c, e⟩ := mg_all h l
  exact ⟨by simp only [PyData.showable]; exact a, by simp only [PyData.leavesShort]; exact b, by simp only [PyData.depth]; omega, by simp only [PyData.bulk]; exact e⟩
theorem mg_tup {n w k : Nat} {ds : List PyData} (h : ∀ d ∈ ds, Mg n w d) (l : ds.length ≤ k) : Mg (n + 1) (k * (w + 1)) (.tuple ds) := by
  obtain ⟨a, b, c, e⟩ := mg_all h l
  exact ⟨by simp only [PyData.showable]; exact a, by simp only [PyData.leavesShort]; exact b, by simp only [PyData.depth]; omega, by simp only [PyData.bulk]; exact e⟩
theorem bulk_mem : ∀ {ds : List PyData} {x : PyData}, x ∈ ds → x.bulk ≤ PyData.bulkAll ds
  | d :: ds, x, m => by
    simp only [PyData.bulkAll]
    rcases List.mem_cons.mp m with rfl | m
    · omega
    · have := bulk_mem m
      omega
theorem bulk_itm {d x : PyData} (m : x ∈ itm d) : x.bulk ≤ d.bulk := by
  cases d with
  | list ds => have := bulk_mem (show x ∈ ds from m); simp only [PyData.bulk]; exact this
  | tuple ds => have := bulk_mem (show x ∈ ds from m); simp only [PyData.bulk]; exact this
  | _ => cases m
theorem tx_bulk {d : PyData} (h : d.bulk ≤ 100000) : TxOk d := fun t e => by
  subst e
  simp only [PyData.bulk] at h
  exact h
theorem mg_item {N : Addr → Prop} {d : PyData} (h : d.bulk ≤ 100000) (off : ∀ a, N a → a ≠ sysModules) : ItOk N (bxs d) := ⟨off, fun b mb x mx => by
  obtain ⟨l, ml, mb⟩ := List.mem_flatMap.mp mb
  exact tx_bulk (Nat.le_trans (bulk_itm mx) (Nat.le_trans (bulk_itm mb) (Nat.le_trans (bulk_itm ml) h)))⟩
/-! ### the lists' kinds -/
variable {κ κ' : Addr → Nat} {H H' : Hp} {b : Addr} {n : Nat}
theorem VL.mv {x : V} (h : VL K κ H x) (kt : Kt K H H') (f : ∀ a o, κ a = 1 → H a = some o → κ' a = 1 ∧ H' a = some o) : VL K κ' H' x := let ⟨d, e, m⟩ := h; ⟨d, En.kk kt f d x e, m⟩
theorem Gr.some (g : Gr K κ H) {a : Addr} (h : κ a ≠ 0) : H a ≠ none := by
  have := g.le a
  have c : κ a = 1 ∨ κ a = 2 ∨ κ a = 3 ∨ κ a = 4 := by omega
  rcases c with c | c | c | c
  · exact g.leaf a c
  · obtain ⟨_, _, e, _⟩ := g.box a c
    rw [e]; simp
  · obtain ⟨_, e, _⟩ := g.row a c
    rw [e]; simp
  · obtain ⟨_, e, _⟩ := g.out a c
    rw [e]; simp
theorem Gr.new (g : Gr K κ H) {a : Addr} (h : H a = none) : κ a = 0 := by
  by_cases c : κ a = 0
  · exact c
  · exact absurd h (g.some c)
/-- what writes outside the kinds -/
theorem Gr.mv (g : Gr K κ H) (kt : Kt K H H') (f : ∀ a o, κ a ≠ 0 → H a = .some o → H' a = .some o) : Gr K κ H' := by
  have f1 : ∀ a o, κ a = 1 → H a = .some o → κ a = 1 ∧ H' a = .some o := fun a o e h => ⟨e, f a o (by omega) h⟩
  refine ⟨fun a e => ?_, fun a e => ?_, fun a e => ?_, fun a e => ?_, g.le⟩
  · cases q : H a with
    | none => exact absurd q (g.leaf a e)
    | some o => rw [f a o (by omega) q]; simp
  · obtain ⟨x, y, h, hx, hy⟩ := g.box a e
    exact ⟨x, y, f a _ (by omega) h, hx.mv kt f1, hy.mv kt f1⟩
  · obtain ⟨zs, h, r⟩ := g.row a e
    exact ⟨zs, f a _ (by omega) h, r⟩
  · obtain ⟨xs, h, r⟩ := g.out a e
    exact ⟨xs, f a _ (by omega) h, r⟩
theorem Gr.same (g : Gr K κ H) (s : Same H H') : Gr K κ H' := g.mv (Kt.same s) fun a o _ h => s a o h
theorem Gr.but (g : Gr K κ H) (bag : Bag H b n) (e : But b H H') (hb : κ b = 0) : Gr K κ H' := g.mv (Lm.kt_but bag e) fun a o k h => e.keep a o (fun q => k (by rw [q]; exact hb)) h
theorem Gr.put (g : Gr K κ H) {q : Addr} {x y : V} (hq : κ q = 2) (hx : VL K κ H x) (hy : VL K κ H y) : Gr K κ (upd H q (.lst [x, y])) := by
  obtain ⟨x0, y0, h0, _, _⟩ := g.box q hq
  have kt : Kt K H (upd H q (.lst [x, y])) := Kt.lst h0
  have f1 : ∀ a o, κ a = 1 → H a = .some o → κ a = 1 ∧ upd H q (.lst [x, y]) a = .some o := fun a o e h => ⟨e, by rw [upd_ne (fun z => by rw [z, hq] at e; cases e)]; exact h⟩
  refine ⟨fun a e => ?_, fun a e => ?_, fun a e => ?_, fun a e => ?_, g.le⟩
  · rw [upd_ne (fun z => by rw [z, hq] at e; cases e)]
    exact g.leaf a e
  · by_cases c : a = q
    · rw [c, upd_same]
      exact ⟨x, y, rfl, hx.mv kt f1, hy.mv kt f1⟩
    · obtain ⟨u, v, h, hu, hv⟩ := g.box a e
      rw [upd_ne c]
      exact ⟨u, v, h, hu.mv kt f1, hv.mv kt f1⟩
  · rw [upd_ne (fun z => by rw [z, hq] at e; cases e)]
    exact g.row a e
  · rw [upd_ne (fun z => by rw [z, hq] at e; cases e)]
    exact g.out a e
theorem Spot.mv {L : Addr} {i j : Nat} (h : Spot κ H L i j) (hL : κ L = 4) (k : ∀ a, κ a ≠ 0 → κ' a = κ a) (f : ∀ a, 3 ≤ κ a → H' a = H a) : Spot κ' H' L i j := by
  obtain ⟨xs, pr, zs, q, e1, e2, e3, e4, e5, e6⟩ := h
  exact ⟨xs, pr, zs, q, by rw [f L (by omega)]; exact e1, e2, by rw [k pr (by omega)]; exact e3, by rw [f pr (by omega)]; exact e4, e5, by rw [k q (by omega)]; exact e6⟩
theorem ens_of {N : Addr → Prop} {P : PyData → Prop} : ∀ {zs : List V}, (∀ z ∈ zs, ∃ d, En K N H z d ∧ P d) → ∃ ds, Ens K N H zs ds ∧ ds.length = zs.length ∧ ∀ d ∈ ds, P d
  | [], _ => ⟨[], .nil, rfl, fun _ m => absurd m List.not_mem_nil⟩
  | z :: zs, h => by
    obtain ⟨d, a, p⟩ := h z List.mem_cons_self
    obtain ⟨ds, as, l, ps⟩ := ens_of (zs := zs) fun y m => h y (List.mem_cons_of_mem _ m)
    refine ⟨d :: ds, .cons a as, by rw [List.length_cons, List.length_cons, l], fun x m => ?_⟩
    rcases List.mem_cons.mp m with rfl | m
    · exact p
    · exact ps x m
/-- a box as data -/
theorem Gr.boxEn {N : Addr → Prop} (g : Gr K κ H) (hN : ∀ a, κ a = 1 ∨ κ a = 2 → N a) {q : Addr} (hq : κ q = 2) : ∃ d, En K N H (.ref q) d ∧ Mg 2 70 d := by
  obtain ⟨x, y, h, ⟨dx, ex, mx⟩, ⟨dy, ey, my⟩⟩ := g.box q hq
  have ex : En K N H x dx := En.kk Kt.refl (fun a o e h => ⟨hN a (.inl e), h⟩) _ _ ex
  have ey : En K N H y dy := En.kk Kt.refl (fun a o e h => ⟨hN a (.inl e), h⟩) _ _ ey
  refine ⟨.list [dx, dy], .lst (hN q (.inr hq)) h (.cons ex (.cons ey .nil)), (mg_lst (n := 1) (w := 20) (k := 2) (fun d m => ?_) (Nat.le_refl _)).mono (Nat.le_refl _) (by omega)⟩
  rcases List.mem_cons.mp m with rfl | m
  · exact mx
  · rw [List.mem_singleton.mp m]
    exact my
theorem En.nz {N M : Addr → Prop} {v : V} {d : PyData} (h : En K N H v d) (f : ∀ a, N a → M a) : En K M H v d := En.kk Kt.refl (fun a _ n e => ⟨f a n, e⟩) d v h
theorem BoxV.mv {z : V} (h : BoxV K b H z) (kt : Kt K H H') (f : ∀ a o, a ≠ b → H a = some o → H' a = some o) : BoxV K b H' z := let ⟨d, e, m⟩ := h; ⟨d, En.kk kt (fun a o q h => ⟨q, f a o q.2 h⟩) d z e, m⟩
theorem RowL.mv {m : Nat} {x : V} (h : RowL K b H m x) (kt : Kt K H H') (f : ∀ a o, a ≠ b → H a = some o → H' a = some o) : RowL K b H' m x := let ⟨p, zs, e, pb, hp, l, q⟩ := h; ⟨p, zs, e, pb, f p _ pb hp, l, fun z m => (q z m).mv kt f⟩
theorem RowV.mv {x : V} (h : RowV K b H x) (kt : Kt K H H') (f : ∀ a o, a ≠ b → H a = some o → H' a = some o) : RowV K b H' x := h.imp (fun h => h.mv kt f) id
end
end K06

namespace K06
open PySem L2 Wm TL Dv De
section
variable {P : Program} {w : World} {K : PySem.W.Frag} {mg : Str → Option Value} {base : Heap}
theorem But.free {H H' : Hp} {b p : Addr} {n m : Nat} (bag' : Bag H' b n) (e : But b H H') (bag : Bag H b m) (h : H' p = none) : H p = none := by
  cases q : H p with
  | none => rfl
  | some o =>
    by_cases c : p = b
    · obtain ⟨_, _, _, _, _, _, hb, _⟩ := bag'
      rw [c, hb] at h
      cases h
    · rw [e.keep p o c q] at h
      cases h
def nV (z : Nat) : V := V.int (z : Int)
theorem lim_at (k : Bool) : ∃ lim : Int, atI [V.int 4, V.int 10] (if k = true then 1 else 0) = some (.int lim) ∧ 4 ≤ lim ∧ lim ≤ 10 := by
  cases k
  · exact ⟨4, rfl, by decide, by decide⟩
  · exact ⟨10, rfl, by decide, by decide⟩
theorem nV_int (sz : List Nat) : sz.map nV = (sz.map fun (z : Nat) => (z : Int)).map V.int := by rw [List.map_map]; rfl
theorem sum_nat : ∀ sz : List Nat, (sz.map fun (z : Nat) => (z : Int)).sum = ((sz.sum : Nat) : Int)
  | [] => rfl
  | z :: sz => by
    rw [List.map_cons, List.sum_cons, List.sum_cons, sum_nat sz]
    omega
theorem sum_le : ∀ sz : List Nat, (∀ z ∈ sz, 1 ≤ z ∧ z ≤ 10) → sz.sum ≤ 10 * sz.length
  | [], _ => Nat.le_refl _
  | z :: sz, h => by
    have h1 := h z (by simp)
    have h2 := sum_le sz fun y m => h y (List.mem_cons_of_mem _ m)
    rw [List.sum_cons, List.length_cons]
    omega
theorem sort_at (k : Int) (h0 : 0 ≤ k) (h1 : k < 2) : ∃ s : Str, atI [V.str "plain", V.str "shy"] k = some (.str s) ∧ ∀ n, Mg n 20 (.str s) := by
  have c : k = 0 ∨ k = 1 := by omega
  rcases c with e | e <;> subst e
  · exact ⟨"plain", rfl, fun _ => mg_str (by decide +kernel) (by decide +kernel)⟩
  · exact ⟨"shy", rfl, fun _ => mg_str (by decide +kernel) (by decide +kernel)⟩
theorem lc_bag2 {K : PySem.W.Frag} {J : It} {n : Nat} {G : Hp → Prop} {xs : List V} (w : Walk J n G (YAt xs)) {g : TG} {te : TE} {vs : List Nat} {σ : L2.St} {H1 : Hp} {D : Addr} {Qd : Hp → Prop} {b : Addr} {m c : Nat} (R : Nat → V → Hp → Prop)
    (mono : ∀ i y H H', R i y H → Kt K H H' → (∀ p o, p ≠ b → p ≠ D → H p = some o → H' p = some o) → R i y H') (hD : H1 D = none) (bag : Bag H1 b m) (hn : n ≤ 1000) (hG : ∀ H', But b H1 H' → G H')
    (hs : ∀ i x H', i < n → xs[i]? = some x → But b H1 H' → Bag H' b (m + c * i) → H' D ≠ none → ∀ (Q : V → Hp → Prop) (Z : Hp → Prop), (∀ y H4, But b H' H4 → Bag H4 b (m + c * (i + 1)) → R i y H4 → Q y H4) → g x (wipe σ vs) H' fun σ2 H2 => wipe σ2 vs = wipe σ vs ∧ tYes σ2 H2 fun b H3 => if b = true then te σ2 H3 Q else Z H3)
    (hd : ∀ H ys, But b H1 H → Bag H b (m + c * n) → H D = some (.lst ys) → ys.length = n → (∀ (i : Nat) y, ys[i]? = some y → R i y H) → Qd H) :
    ∃ W : Nat → Nat → Hp → Prop, (∃ m, W 0 m (upd H1 D (.lst []))) ∧ ∀ i m H, W i m H →
      (J.stop i H ∧ Qd H) ∨ (J.go i H ∧ ∃ Nx : Hp → Prop, (∀ H', Nx H' → ∃ m', m' < m ∧ W (i + 1) m' H') ∧ ∀ x H', J.yld i H x H' → g x (wipe σ vs) H' fun σ2 H2 => wipe σ2 vs = wipe σ vs ∧ tYes σ2 H2 fun b H3 =>
        if b = true then te σ2 H3 fun y H4 => ∃ acc, H4 D = some (.lst acc) ∧ acc.length < sizeLine ∧ Nx (upd H4 D (.lst (acc ++ [y]))) else Nx H3) := by
  have db := Lm.bag_off bag hD
  refine lc_it (tt := tYes) w (fun i H => But b H1 H ∧ Bag H b (m + c * i) ∧ ∃ ys : List V, ys.length = i ∧ H D = some (.lst ys) ∧ ∀ j y, ys[j]? = some y → R j y H)
    ⟨But.of (same_new hD), (bag.keep (same_new hD)).mono (by omega), [], rfl, upd_same, fun (j : Nat) (y : V) e => by simp at e⟩ (fun i H _ h => hG H h.1) (fun i x H H' hi hP hY => ?_) (fun H hP => ?_)
  · obtain ⟨bt, bg, ys, el, hy, hR⟩ := hP
    obtain ⟨rfl, hx⟩ := hY
    refine hs i x H' hi hx bt bg (by rw [hy]; simp) _ _ (fun y H4 b4 g4 r4 => ?_)
    have hy4 := b4.keep _ _ db hy
    have k5 : Kt K H4 (upd H4 D (.lst (ys ++ [y]))) := Kt.lst hy4
    have f5 : ∀ p o, p ≠ b → p ≠ D → H4 p = some o → upd H4 D (.lst (ys ++ [y])) p = some o := fun p o _ pd h => by rw [upd_ne pd]; exact h
    refine ⟨ys, hy4, by rw [el]; exact small1000 (by omega), (bt.trans b4).put hD, Bag.put bag hD (bt.trans b4) g4, ys ++ [y], by rw [List.length_append, el]; rfl, upd_same, fun j z hz => ?_⟩
    by_cases lj : j < ys.length
    · rw [List.getElem?_append_left lj] at hz
      exact mono _ _ _ _ (hR j z hz) ((Lm.kt_but bg b4).trans k5) (fun p o pb pd h => f5 p o pb pd (b4.keep p o pb h))
    · rw [List.getElem?_append_right (by omega)] at hz
      have e0 : j - ys.length = 0 := by
        by_cases q : j - ys.length = 0
        · exact q
        · rw [List.getElem?_eq_none (by rw [List.length_singleton]; omega)] at hz
          cases hz
      rw [e0] at hz
      have ez : y = z := by simpa using hz
      have ej : j = i := by omega
      subst ez ej
      exact mono _ _ _ _ r4 k5 f5
  · obtain ⟨bt, bg, ys, el, hy, hR⟩ := hP
    exact hd H ys bt bg hy el hR
theorem cut_to (xs : List V) (m : Nat) (h : m ≤ xs.length) : cutV xs none (some (m : Int)) = xs.take m := by
  unfold cutV
  rw [HT.sIx_nat, HT.sIx_none, Nat.min_eq_left h, List.drop_zero, Nat.sub_zero]
open Classical in
/-- a row's kinds put in -/
noncomputable def addRow (κ : Addr → Nat) (D : Addr) (ys : List V) : Addr → Nat := fun a => if a = D then 3 else if V.ref a ∈ ys then 2 else κ a
/-- a box just made -/
def NB (κ : Addr → Nat) (H0 H : Hp) (D t : Addr) (y : V) : Prop := ∃ q nd s, y = .ref q ∧ q ≠ D ∧ q ≠ t ∧ H0 q = none ∧ κ q = 0 ∧ q ≠ sysModules ∧ Num nd ∧ (∀ n, Mg n 20 (.str s)) ∧ H q = some (.lst [.str (numS nd), .str s])
theorem addRow_gr {K : PySem.W.Frag} {κ : Addr → Nat} {H0 H : Hp} {D t : Addr} {ys : List V} (g : Gr K κ H) (hD : H D = some (.lst ys)) (kD : κ D = 0) (l1 : 1 ≤ ys.length) (l10 : ys.length ≤ 10) (h : ∀ y ∈ ys, NB κ H0 H D t y) : Gr K (addRow κ D ys) H := by
  have e2 : ∀ a, V.ref a ∈ ys → a ≠ D := fun a m e => by
    obtain ⟨q, _, _, e1, n, _⟩ := h _ m
    exact n ((V.ref.inj e1).symm.trans e)
  have eD : addRow κ D ys D = 3 := by unfold addRow; rw [if_pos rfl]
  have ey : ∀ a, V.ref a ∈ ys → addRow κ D ys a = 2 := fun a m => by unfold addRow; rw [if_neg (e2 a m), if_pos m]
  have eo : ∀ a, a ≠ D → ¬ V.ref a ∈ ys → addRow κ D ys a = κ a := fun a n m => by unfold addRow; rw [if_neg n, if_neg m]
  have k1 : ∀ a, κ a ≠ 0 → addRow κ D ys a = κ a := fun a k => eo a (fun e => k (by rw [e]; exact kD)) fun m => by
    obtain ⟨q, _, _, e1, _, _, _, k0, _⟩ := h _ m
    exact k (by rw [V.ref.inj e1]; exact k0)
  have vl : ∀ x, VL K κ H x → VL K (addRow κ D ys) H x := fun x v => v.mv Kt.refl fun a o e h => ⟨by rw [k1 a (by omega)]; exact e, h⟩
  refine ⟨fun a e => ?_, fun a e => ?_, fun a e => ?_, fun a e => ?_, fun a => ?_⟩
  · by_cases c : a = D
    · rw [c, eD] at e; cases e
    · by_cases m : V.ref a ∈ ys
      · rw [ey a m] at e; cases e
      · rw [eo a c m] at e
        exact g.leaf a e
  · by_cases c : a = D
    · rw [c, eD] at e; cases e
    · by_cases m : V.ref a ∈ ys
      · obtain ⟨q, nd, s, e1, _, _, _, _, _, N, ms, hq⟩ := h _ m
        cases e1
        exact ⟨_, _, hq, ⟨_, .str _, mg_num N (by omega)⟩, ⟨_, .str _, ms _⟩⟩
      · rw [eo a c m] at e
        obtain ⟨x, y, h1, h2, h3⟩ := g.box a e
        exact ⟨x, y, h1, vl _ h2, vl _ h3⟩
  · by_cases c : a = D
    · subst c
      refine ⟨ys, hD, l1, l10, fun z m => ?_⟩
      obtain ⟨q, _, _, e1, _⟩ := h _ m
      exact ⟨q, e1, ey q (e1 ▸ m)⟩
    · by_cases m : V.ref a ∈ ys
      · rw [ey a m] at e; cases e
      · rw [eo a c m] at e
        obtain ⟨zs, h1, h2, h3, h4⟩ := g.row a e
        refine ⟨zs, h1, h2, h3, fun z m => ?_⟩
        obtain ⟨q, e1, e5⟩ := h4 z m
        exact ⟨q, e1, by rw [k1 q (by omega)]; exact e5⟩
  · by_cases c : a = D
    · rw [c, eD] at e; cases e
    · by_cases m : V.ref a ∈ ys
      · rw [ey a m] at e; cases e
      · rw [eo a c m] at e
        obtain ⟨zs, h1, h2, h3, h4⟩ := g.out a e
        refine ⟨zs, h1, h2, h3, fun z m => ?_⟩
        obtain ⟨q, e1, e5⟩ := h4 z m
        exact ⟨q, e1, by rw [k1 q (by omega)]; exact e5⟩
  · by_cases c : a = D
    · rw [c, eD]; omega
    · by_cases m : V.ref a ∈ ys
      · rw [ey a m]; omega
      · rw [eo a c m]; exact g.le a
theorem addRow_old {κ : Addr → Nat} {D t a : Addr} {ys : List V} {H0 H : Hp} (h : ∀ y ∈ ys, NB κ H0 H D t y) (kD : κ D = 0) (k : κ a ≠ 0) : addRow κ D ys a = κ a := by
  unfold addRow
  rw [if_neg (fun e => k (by rw [e]; exact kD)), if_neg (fun m => by
    obtain ⟨q, _, _, e1, _, _, _, k0, _⟩ := h _ m
    exact k (by rw [V.ref.inj e1]; exact k0))]
theorem addRow_fr {κ : Addr → Nat} {D t : Addr} {ys : List V} {H0 H : Hp} (f : Fr κ H0) (hD : H0 D = none) (h : ∀ y ∈ ys, NB κ H0 H D t y) : Fr (addRow κ D ys) H0 := fun a k => by
  unfold addRow at k ⊢
  by_cases c : a = D
  · rw [if_pos c]
    exact ⟨by rw [c]; exact hD, fun h => by omega⟩
  · rw [if_neg c] at k ⊢
    by_cases m : V.ref a ∈ ys
    · obtain ⟨q, _, _, e1, _, _, h0, _, ns, _⟩ := h _ m
      cases e1
      exact ⟨h0, fun _ => ns⟩
    · rw [if_neg m] at k ⊢
      exact f a k
theorem addRow_le {κ : Addr → Nat} {D : Addr} {ys : List V} (h : ∀ a, κ a ≤ 3) : ∀ a, addRow κ D ys a ≤ 3 := fun a => by
  unfold addRow
  by_cases c : a = D
  · rw [if_pos c]
    omega
  · rw [if_neg c]
    by_cases m : V.ref a ∈ ys
    · rw [if_pos m]
      omega
    · rw [if_neg m]
      exact h a
/-- the outer list's kind put in -/
def addOut (κ : Addr → Nat) (L : Addr) : Addr → Nat := fun a => if a = L then 4 else κ a
theorem addOut_gr {K : PySem.W.Frag} {κ : Addr → Nat} {H : Hp} {L : Addr} {xs : List V} (g : Gr K κ H) (h3 : ∀ a, κ a ≤ 3) (hL : H L = some (.lst xs)) (kL : κ L = 0) (l1 : 1 ≤ xs.length) (l3 : xs.length ≤ 3) (h : ∀ x ∈ xs, ∃ p, x = .ref p ∧ κ p = 3) : Gr K (addOut κ L) H := by
  have eL : addOut κ L L = 4 := by unfold addOut; rw [if_pos rfl]
  have eo : ∀ a, a ≠ L → addOut κ L a = κ a := fun a n => by unfold addOut; rw [if_neg n]
  have k1 : ∀ a, κ a ≠ 0 → addOut κ L a = κ a := fun a k => eo a fun e => k (by rw [e]; exact kL)
  have vl : ∀ x, VL K κ H x → VL K (addOut κ L) H x := fun x v => v.mv Kt.refl fun a o e h => ⟨by rw [k1 a (by omega)]; exact e, h⟩
  refine ⟨fun a e => ?_, fun a e => ?_, fun a e => ?_, fun a e => ?_, fun a => ?_⟩
  · by_cases c : a = L
    · rw [c, eL] at e; cases e
    · rw [eo a c] at e
      exact g.leaf a e
  · by_cases c : a = L
    · rw [c, eL] at e; cases e
    · rw [eo a c] at e
      obtain ⟨x, y, h1, h2, h3⟩ := g.box a e
      exact ⟨x, y, h1, vl _ h2, vl _ h3⟩
  · by_cases c : a = L
    · rw [c, eL] at e; cases e
    · rw [eo a c] at e
      obtain ⟨zs, h1, h2, h3, h4⟩ := g.row a e
      refine ⟨zs, h1, h2, h3, fun z m => ?_⟩
      obtain ⟨q, e1, e5⟩ := h4 z m
      exact ⟨q, e1, by rw [k1 q (by omega)]; exact e5⟩
  · by_cases c : a = L
    · subst c
      refine ⟨xs, hL, l1, l3, fun x m => ?_⟩
      obtain ⟨p, e1, e3⟩ := h x m
      exact ⟨p, e1, by rw [k1 p (by omega)]; exact e3⟩
    · rw [eo a c] at e
      have := h3 a
      omega
  · by_cases c : a = L
    · rw [c, eL]; omega
    · rw [eo a c]; exact g.le a
end
end K06

namespace K06
open PySem L2 Wm TL Dv De
section
variable {P : Program} {w : World} {K : PySem.W.Frag} {mg : Str → Option Value} {base : Heap}
theorem gr_zero {K : PySem.W.Frag} {H : Hp} : Gr K (fun _ => 0) H := ⟨fun a e => absurd e (by simp), fun a e => absurd e (by simp), fun a e => absurd e (by simp), fun a e => absurd e (by simp), fun _ => Nat.zero_le _⟩
theorem ok_loops (T : Txt K mg) : FnOk P w K mg base CX0 4 T.a_loops T.d_loops ["_law_bag_here"] (sp_loops K) := by
  refine T.F_loops.ok sc_loops (fun vs H Q E h => ?_) (fun cdv A outer s H vs Q E hr h => ?_)
  · obtain ⟨b, n, rfl, _⟩ := h
    rfl
  · obtain ⟨b, n, rfl, hbag, hn, kk⟩ := h
    refine ⟨_, (pss_cons (ps_set (i := 1) sc_loops.nd rfl (Or.inl rfl) (Dz.pe_lstZ pa_nil))
      (pss_cons (ps_for PassesOwn.never rfl (pi_range1 (by rfl) T.z_range (pa_cons (pe_op op_add pe_int (pe_call (ok_draw T) (hr.mono (by decide)) (by rfl) T.g_draw T.F_draw.kp T.b_draw .nil pass0 (pa_cons (pv 0) (pa_cons pe_int pa_nil)))) pa_nil)) (pg_name (i := 2) sc_loops.nd rfl (Or.inl rfl))
        (pss_one (ps_expr (pe_bm PySem.F.plainAttrs_list PySem.F.slot_list_append PySem.F.type_list_append mt_append (pv 1) (pa_cons (pe_op op_add pe_int (pe_call (ok_draw T) (hr.mono (by decide)) (by rfl) T.g_draw T.F_draw.kp T.b_draw .nil pass0 (pa_cons (pv 0) (pa_cons (pe_ix ix_list (Dz.pe_lstZ (pa_cons pe_int (pa_cons pe_int pa_nil))) (pe_callTy call_int1 (by rfl) T.z_int (by decide +kernel) (pa_cons (pe_cmpR op_eq (pe_call (ok_draw T) (hr.mono (by decide)) (by rfl) T.g_draw T.F_draw.kp T.b_draw .nil pass0 (pa_cons (pv 0) (pa_cons pe_int pa_nil))) pe_int (nomark _)) pa_nil)) (fun _ _ => rfl)) pa_nil)))) pa_nil)))))
      (pss_cons (ps_set (i := 3) sc_loops.nd rfl (Or.inr rfl) (pe_call (ok_numbers T) (hr.mono (by decide)) (by rfl) T.g_numbers T.F_numbers.kp T.b_numbers .nil pass0 (pa_cons (pv 0) (pa_cons (pe_callB (cr_sum rfl) (by rfl) T.z_sum (by decide +kernel) (pa_cons (pv 1) pa_nil)) pa_nil))))
      (pss_cons (ps_set (i := 4) sc_loops.nd rfl (Or.inl rfl) (Dz.pe_lstZ pa_nil))
      (pss_cons (ps_for PassesOwn.never rfl (pi_list (pv 1)) (pg_name (i := 5) sc_loops.nd rfl (Or.inl rfl))
        (pss_cons (ps_expr (pe_bm PySem.F.plainAttrs_list PySem.F.slot_list_append PySem.F.type_list_append mt_append (pv 4) (pa_cons (pe_lc (own := [("_law_k", 2)]) (g := gName 2) (tt := tYes) rfl sc_loops.nd (pi_range1 (by rfl) T.z_range (pa_cons (pv 5) pa_nil)) (blkOk_by (own := [("_law_k", 2)]) (N := nm_loops) (sc := (defScope s_loops)) (by decide +kernel)) (fun _ _ _ _ _ => pg_name (i := 2) sc_loops.nd rfl (Or.inl rfl)) (fun _ _ _ _ _ => pts_nil) (fun _ _ _ _ _ => (Dz.pe_lstZ (pa_cons (pe_ix (show IxR _ (rIxL K) from ix_list) (pv 3) (pe_op op_sub (pe_op op_sub (pe_callB (show CallR _ _ (Kx.rLen K) from call_len_seq) (by rfl) T.z_len PySem.boot_len (pa_cons (pv 3) pa_nil)) pe_int) (pv 2)) (fun _ _ => rfl)) (pa_cons (pe_ix (show IxR _ (rIxL K) from ix_list) (Dz.pe_lstZ (pa_cons pe_str (pa_cons pe_str pa_nil))) (pe_call (ok_draw T) (hr.mono (by decide)) (by rfl) T.g_draw T.F_draw.kp T.b_draw .nil pass0 (pa_cons (pv 0) (pa_cons pe_int pa_nil))) (fun _ _ => rfl)) pa_nil))))) pa_nil)))
        (pss_one (ps_set (i := 3) sc_loops.nd rfl (Or.inr rfl) (pe_slice sl_list (pv 3) po_none (po_some (pe_op op_sub (pe_callB call_len_seq (by rfl) T.z_len PySem.boot_len (pa_cons (pv 3) pa_nil)) (pv 5))))))))
      (pss_one (ps_ret (pv 4)))))))), ?_⟩
    refine ⟨Nat.zero_le _, fun s1 _ hs1 => ?_⟩
    have hS1 : upd H s1 (.lst []) s1 = some (.lst []) := upd_same
    have sb := Lm.bag_off hbag hs1
    have sm1 : Same H (upd H s1 (.lst [])) := same_new hs1
    generalize upd H s1 (.lst []) = H1 at *
    refine ⟨_, rfl, b, n, 3, rfl, by decide, by decide, hbag.keep sm1, by omega, fun H2 d1 g0 g1 bag2 but2 => ?_⟩
    obtain ⟨many, em⟩ : ∃ many : Nat, (1 : Int) + d1 = (many : Nat) := ⟨(1 + d1).toNat, by omega⟩
    refine ⟨_, _, rfl, rfl, _, rfl, by omega, by omega, ?_⟩
    rw [em, Int.toNat_natCast]
    have hS2 := but2.keep _ _ sb hS1
    have butA := (But.of sm1).trans but2
    refine for_range (fun i σ H' => ∃ (sz : List Nat) (v2 : Option V), σ = [some (.ref b), some (.ref s1), v2, none, none, none] ∧ sz.length = i ∧ (∀ z ∈ sz, 1 ≤ z ∧ z ≤ 10) ∧ H' s1 = some (.lst (sz.map nV)) ∧ Bag H' b (n + 1 + 2 * i) ∧ But b H H')
      ⟨[], none, rfl, rfl, by simp, hS2, bag2, butA⟩ (fun i σ H3 hi hP => ?_) (fun σ H3 hP => ?_)
    · obtain ⟨sz, v2, rfl, el, hz, hS, bag, but⟩ := hP
      refine ⟨_, rfl, .inl ⟨rfl, _, SqL.of hS⟩, ?_⟩
      refine ⟨_, rfl, by show 2 ≤ sizeLine; decide, fun q _ hq => ?_⟩
      have qb := Lm.bag_off bag hq
      have hS4 := at_old (u := .lst [.int 4, .int 10]) hS hq
      have hq4 : upd H3 q (.lst [.int 4, .int 10]) q = some (.lst [.int 4, .int 10]) := upd_same
      have bag4 := bag.keep (same_new (o := .lst [.int 4, .int 10]) hq)
      have but4 := but.trans (But.of (same_new (o := .lst [.int 4, .int 10]) hq))
      generalize upd H3 q (.lst [.int 4, .int 10]) = H4 at *
      refine ⟨_, rfl, b, _, 6, rfl, by decide, by decide, bag4, by omega, fun H5 d5 e0 e1 bag5 but5 => ?_⟩
      obtain ⟨lim, al, l4, l10⟩ := lim_at (decide (V.int d5 = V.int 0))
      refine ⟨rfl, .inr ⟨_, rfl, q, _, _, _, rfl, rfl, SqL.of (but5.keep _ _ qb hq4), al, ?_⟩⟩
      refine ⟨b, _, lim, rfl, by omega, by omega, bag5, by omega, fun H6 d6 f0 f1 bag6 but6 => ?_⟩
      have hS6 := but6.keep _ _ sb (but5.keep _ _ sb hS4)
      obtain ⟨z, ez⟩ : ∃ z : Nat, (1 : Int) + d6 = (z : Nat) := ⟨(1 + d6).toNat, by omega⟩
      refine ⟨_, _, rfl, rfl, s1, _, _, rfl, rfl, hS6, small1000 (by rw [List.length_map]; omega), ?_⟩
      refine ⟨sz ++ [z], _, rfl, by rw [List.length_append, el]; rfl, fun y m => ?_, ?_, Bag.put hbag hs1 ((but4.trans but5).trans but6) (bag6.mono (by omega)), ((but4.trans but5).trans but6).put hs1⟩
      · rcases List.mem_append.mp m with m | m
        · exact hz y m
        · rw [List.mem_singleton.mp m]
          omega
      · rw [upd_same, List.map_append]
        show some (HO.lst (sz.map nV ++ [.int (1 + d6)])) = _
        rw [ez]
        rfl
    obtain ⟨sz, v2, rfl, el, hz, hS, bag, but⟩ := hP
    have sl := sum_le sz hz
    refine ⟨_, rfl, _, rfl, s1, _, rfl, SqL.of (by rw [hS, nV_int]), ?_⟩
    rw [sum_nat]
    refine ⟨b, n + 1 + 2 * many, sz.sum, rfl, by omega, bag, by omega, fun H4 u dss ed hN nd hu0 hu bag4 but4 => ?_⟩
    have hS4 := but4.keep _ _ sb hS
    have hu0' : H u = none := But.free bag but hbag hu0
    have us : u ≠ s1 := fun e => by
      rw [e, hS] at hu0
      cases hu0
    have but5 := but.trans but4
    refine ⟨Nat.zero_le _, fun t _ ht => ?_⟩
    have ht0 : H t = none := But.free bag4 but5 hbag ht
    have tu : t ≠ u := fun e => by
      rw [e, hu] at ht
      cases ht
    have ts : t ≠ s1 := fun e => by
      rw [e, hS4] at ht
      cases ht
    refine ⟨_, rfl, s1, rfl, ⟨_, SqL.of (at_old hS4 ht)⟩, ?_⟩
    refine for_list (xs := sz.map nV) (fun i σ H' => ∃ (xs : List V) (κ : Addr → Nat) (rest : List (List Nat)) (w : Addr) (v2 v5 : Option V), σ = [some (.ref b), some (.ref s1), v2, some (.ref w), some (.ref t), v5] ∧ xs.length = i ∧ H' t = some (.lst xs) ∧
      Gr K κ H' ∧ Fr κ H ∧ (∀ a, κ a ≤ 3) ∧ κ t = 0 ∧ (∀ x ∈ xs, ∃ p, x = .ref p ∧ κ p = 3) ∧ rest.length = (sz.drop i).sum ∧ (∀ ds ∈ rest, Num ds) ∧ w ≠ t ∧ w ≠ b ∧ H' w = some (.lst ((rest.map numS).map V.str)) ∧ H' s1 = some (.lst (sz.map nV)) ∧
      Bag H' b (n + 1 + 2 * many + 6 * sz.sum + 20 * i) ∧ But b H H')
      ⟨[], fun _ => 0, dss, u, v2, none, rfl, rfl, upd_same, gr_zero, fun a e => absurd rfl e, fun _ => Nat.zero_le _, rfl, fun _ m => absurd m List.not_mem_nil, by rw [List.drop_zero]; exact ed, hN, tu.symm, Lm.bag_off hbag hu0', by rw [upd_ne tu.symm]; exact hu, by rw [upd_ne ts.symm]; exact hS4, (bag4.keep (same_new ht)).mono (by omega), but5.trans (But.of (same_new ht))⟩
      (fun i σ H5 _ hP => ?_) (fun i x σ H5 hx hP => ?_) (fun σ H5 hP => ?_)
    · obtain ⟨xs, κ, rest, w, v2, v5, rfl, e2, hT, g, fr, k3, kt, hk, e3, e4, wt, wb, hw, hS5, bag5, but5⟩ := hP
      exact SqL.of hS5
    · obtain ⟨xs, κ, rest, w, v2, v5, rfl, e2, hT, g, fr, k3, kt, hk, e3, e4, wt, wb, hw, hS5, bag5, but5⟩ := hP
      rw [List.getElem?_map] at hx
      obtain ⟨z, hz1, rfl⟩ := Option.map_eq_some_iff.mp hx
      have hi : i < sz.length := (List.getElem?_eq_some_iff.mp hz1).1
      have z10 := hz z (List.mem_of_getElem? hz1)
      have dz : sz.drop i = z :: sz.drop (i + 1) := by
        rw [List.drop_eq_getElem_cons hi]
        congr 1
        have := List.getElem?_eq_getElem hi
        rw [hz1] at this
        exact (Option.some.inj this).symm
      rw [dz, List.sum_cons] at e3
      have s30 : (sz.drop (i + 1)).sum ≤ 10 * (sz.drop (i + 1)).length := sum_le _ fun y m => hz y (List.mem_of_mem_drop m)
      have rl30 : rest.length ≤ 40 := by
        rw [List.length_drop] at s30
        omega
      refine ⟨_, rfl, .inl ⟨rfl, _, SqL.of hT⟩, ?_⟩
      refine ⟨_, rfl, _, rfl, by omega, by omega, fun D hD => ?_⟩
      have Dt' : D ≠ t := fun e => by
        rw [e, hT] at hD
        cases hD
      have D0 : H D = none := But.free bag5 but5 hbag hD
      have kD := g.new hD
      have hn : ((z : Nat) : Int).toNat = z := Int.toNat_natCast z
      rw [hn]
      refine lc_bag2 (K := K) (c := 1) (walk_rngL (lo := 0) (n := z)) (fun k y H' => NB κ H H' D t y) (fun k y A B ⟨q, nd, s, h1, h2, h2', h3, h4, h5, h6, h7, h8⟩ kt f => ⟨q, nd, s, h1, h2, h2', h3, h4, h5, h6, h7, f q _ (Lm.bag_off hbag h3) h2 h8⟩) hD bag5 (by omega) (fun _ _ => trivial)
        (fun k y A hk hy bA gA nD Q2 Z q2 => ?_) (fun A ys bA gA hy ly hR => ?_)
      · rw [List.getElem?_map, List.getElem?_range hk] at hy
        cases Option.some.inj hy
        have hw2 := bA.keep _ _ wb hw
        refine ⟨rfl, yesT ?_⟩
        have lw : ((rest.map numS).map V.str).length = rest.length := by rw [List.length_map, List.length_map]
        have kl : rest.length - 1 - k < rest.length := by omega
        refine ⟨_, rfl, _, rfl, w, _, rfl, .inl (SqL.of hw2), _, _, rfl, rfl, _, rfl, _, _, rfl, rfl, w, _, _, _, rfl, rfl, SqL.of hw2, at_of (j := rest.length - 1 - k) (v := .str (numS (rest[rest.length - 1 - k]'kl))) ?_ ?_, ?_⟩
        · rw [lw]
          omega
        · show ((rest.map numS).map V.str)[rest.length - 1 - k]? = some (.str (numS rest[rest.length - 1 - k]))
          rw [List.getElem?_map, List.getElem?_map, List.getElem?_eq_getElem kl]
          rfl
        refine ⟨by show 2 ≤ sizeLine; decide, fun q _ hq => ?_⟩
        have qb := Lm.bag_off gA hq
        have gA2 := gA.keep (same_new (o := .lst [V.str "plain", V.str "shy"]) hq)
        have bA2 : But b A (upd A q (.lst [V.str "plain", V.str "shy"])) := But.of (same_new hq)
        have hq2 : upd A q (.lst [V.str "plain", V.str "shy"]) q = some (.lst [V.str "plain", V.str "shy"]) := upd_same
        have nD2 : upd A q (.lst [V.str "plain", V.str "shy"]) D ≠ none := by
          rw [upd_ne (fun e => nD (by rw [e]; exact hq))]
          exact nD
        refine ⟨_, rfl, b, _, 2, rfl, by decide, by decide, gA2, by omega, fun A3 dd d0 d1 gA3 bA3 => ?_⟩
        obtain ⟨sb, hsb, ms⟩ := sort_at dd d0 d1
        refine ⟨q, _, _, _, rfl, rfl, SqL.of (bA3.keep _ _ qb hq2), hsb, ?_⟩
        refine ⟨by show 2 ≤ sizeLine; decide, fun p9 n9 hp9 => ?_⟩
        have bA4 := bA2.trans bA3
        have f9 : H p9 = none := But.free gA3 ((but5.trans bA).trans bA4) hbag hp9
        have f5 : H5 p9 = none := But.free gA3 (bA.trans bA4) bag5 hp9
        have D9 : p9 ≠ D := fun e => by
          have nD3 : A3 D ≠ none := by
            cases q5 : upd A q (.lst [V.str "plain", V.str "shy"]) D with
            | none => exact absurd q5 nD2
            | some o => rw [bA3.keep D o (Lm.bag_off bag5 hD) q5]; simp
          exact nD3 (by rw [← e]; exact hp9)
        exact q2 _ _ (bA4.trans (But.of (same_new hp9))) ((gA3.keep (same_new hp9)).mono (by omega)) ⟨p9, _, _, rfl, D9, (fun e => by rw [e, hT] at f5; cases f5), f9, g.new f5, n9, e4 _ (List.getElem_mem kl), ms, upd_same⟩
      · have tb := Lm.bag_off hbag ht0
        have tA := bA.keep _ _ tb hT
        refine ⟨t, _, _, rfl, rfl, tA, small1000 (by omega), ?_⟩
        have hys : ∀ y ∈ ys, NB κ H A D t y := fun y m => by
          obtain ⟨j, hj⟩ := List.mem_iff_getElem?.mp m
          exact hR j y hj
        have kb : κ b = 0 := by
          by_cases c : κ b = 0
          · exact c
          · obtain ⟨_, _, _, _, _, _, hb, _⟩ := hbag
            rw [(fr b c).1] at hb
            cases hb
        have g2 := addRow_gr (g.but bag5 bA kb) hy kD (by omega) (by omega) hys
        have kt2 : addRow κ D ys t = 0 := by
          unfold addRow
          rw [if_neg (fun e => Dt' e.symm), if_neg (fun m => by
            obtain ⟨q, _, _, e1, _, qt, _⟩ := hys _ m
            exact qt (V.ref.inj e1).symm)]
          exact kt
        have kn : But b H A := but5.trans bA
        have fr2 := addRow_fr fr D0 hys
        have k32 := addRow_le (D := D) (ys := ys) k3
        have kb2 : addRow κ D ys b = 0 := by
          by_cases c : addRow κ D ys b = 0
          · exact c
          · obtain ⟨_, _, _, _, _, _, hb, _⟩ := hbag
            rw [(fr2 b c).1] at hb
            cases hb
        have old2 : ∀ a, κ a ≠ 0 → addRow κ D ys a = κ a := fun a k => addRow_old hys kD k
        have hkD : addRow κ D ys D = 3 := by unfold addRow; rw [if_pos rfl]
        generalize addRow κ D ys = κ2 at *
        have hwA : upd A t (.lst (xs ++ [.ref D])) w = some (.lst ((rest.map numS).map V.str)) := by rw [upd_ne wt]; exact bA.keep _ _ wb hw
        have lw : ((rest.map numS).map V.str).length = rest.length := by rw [List.length_map, List.length_map]
        refine ⟨_, rfl, _, rfl, w, _, rfl, .inl (SqL.of hwA), _, rfl, _, ((z : Nat) : Int), rfl, rfl, _, rfl, w, _, rfl, SqL.of hwA, fun p hp => ?_⟩
        have pt : p ≠ t := fun e => by
          rw [e, upd_same] at hp
          cases hp
        have hpA : A p = none := by
          rw [upd_ne pt] at hp
          exact hp
        have bput := Bag.put hbag ht0 kn gA (o := .lst (xs ++ [V.ref D]))
        have gput : Gr K κ2 (upd A t (.lst (xs ++ [V.ref D]))) := g2.mv (Kt.lst tA) fun a o k h => by
          rw [upd_ne (fun e => k (by rw [e]; exact kt2))]
          exact h
        rw [show ((((rest.map numS).map V.str).length : Nat) : Int) - ((z : Nat) : Int) = ((rest.length - z : Nat) : Int) by rw [lw]; omega, cut_to _ _ (by rw [lw]; omega)]
        refine ⟨xs ++ [.ref D], κ2, rest.take (rest.length - z), p, v2, _, rfl, by rw [List.length_append, e2]; rfl, by rw [upd_ne pt.symm]; exact upd_same, gput.same (same_new hp), fr2, k32, kt2, fun x m => ?_, by rw [List.length_take]; omega, fun ds m => e4 ds (List.mem_of_mem_take m), pt, Lm.bag_off bput hp, ?_, ?_,
          (bput.keep (same_new hp)).mono (by omega), (kn.put ht0).trans (But.of (same_new hp))⟩
        · rcases List.mem_append.mp m with m | m
          · obtain ⟨p, e, e3⟩ := hk x m
            exact ⟨p, e, by rw [old2 p (by omega)]; exact e3⟩
          · exact ⟨D, List.mem_singleton.mp m, hkD⟩
        · rw [upd_same, ← List.map_take, ← List.map_take]
        · rw [upd_ne (ne_of_none (by rw [upd_ne ts.symm]; exact bA.keep _ _ sb hS5) hp), upd_ne ts.symm]
          exact bA.keep _ _ sb hS5
    · obtain ⟨xs, κ, rest, w, v2, v5, rfl, e2, hT, g, fr, k3, kt, hk, e3, e4, wt, wb, hw, hS5, bag5, but5⟩ := hP
      rw [List.length_map] at e2 bag5
      refine ⟨_, rfl, kk _ t (addOut κ t) (fun a k => ?_) (addOut_gr g k3 hT kt (by omega) (by omega) hk) (by unfold addOut; rw [if_pos rfl]) (bag5.mono (by omega)) but5⟩
      unfold addOut at k ⊢
      by_cases c : a = t
      · rw [if_pos c]
        exact ⟨by rw [c]; exact ht0, fun h => by omega⟩
      · rw [if_neg c] at k ⊢
        exact fr a k
end
end K06

namespace K06
open PySem L2 Wm TL Dv De
section
variable {P : Program} {w : World} {K : PySem.W.Frag} {mg : Str → Option Value} {base : Heap}
theorem ok_spot (T : Txt K mg) : FnOk P w K mg base CX0 2 T.a_spot T.d_spot ["_law_bag_here", "_law_loops_here"] (sp_spot K) := by
  refine T.F_spot.ok sc_spot (fun vs H Q E h => ?_) (fun cdv A outer s H vs Q E hr h => ?_)
  · obtain ⟨b, n, L, κ, rfl, _⟩ := h
    rfl
  · obtain ⟨b, n, L, κ, rfl, bag, hn, g, kL, kb, kk⟩ := h
    obtain ⟨xs, hL, l1, l3, hx⟩ := g.out L kL
    have Lb : L ≠ b := fun e => by rw [e, kb] at kL; cases kL
    refine ⟨_, (pss_cons (ps_set (i := 2) sc_spot.nd rfl (Or.inl rfl) (pe_call (ok_draw T) (hr.mono (by decide)) (by rfl) T.g_draw T.F_draw.kp T.b_draw .nil pass0 (pa_cons (pv 0) (pa_cons (pe_callB call_len_seq (by rfl) T.z_len PySem.boot_len (pa_cons (pv 1) pa_nil)) pa_nil))))
      (pss_one (ps_ret (pe_lst (pa_cons (pv 2) (pa_cons (pe_call (ok_draw T) (hr.mono (by decide)) (by rfl) T.g_draw T.F_draw.kp T.b_draw .nil pass0 (pa_cons (pv 0) (pa_cons (pe_callB call_len_seq (by rfl) T.z_len PySem.boot_len (pa_cons (pe_ix ix_list (pv 1) (pv 2) (fun _ _ => rfl)) pa_nil)) pa_nil))) pa_nil)))))), ?_⟩
    refine ⟨_, rfl, _, rfl, L, _, rfl, .inl (SqL.of hL), b, n, _, rfl, by omega, by omega, bag, by omega, fun H1 d d0 d1 bag1 but1 => ?_⟩
    obtain ⟨i, rfl⟩ : ∃ i : Nat, d = (i : Nat) := ⟨d.toNat, by omega⟩
    have hi : i < xs.length := by omega
    obtain ⟨pr, epr, kpr⟩ := hx _ (List.getElem_mem hi)
    have exi : xs[i]? = some (.ref pr) := by rw [List.getElem?_eq_getElem hi, epr]
    obtain ⟨zs, hz, z1, z10, hq⟩ := g.row pr kpr
    have hL1 := but1.keep _ _ Lb hL
    have pb : pr ≠ b := fun e => by rw [e, kb] at kpr; cases kpr
    have hz1 := but1.keep _ _ pb hz
    refine ⟨_, rfl, _, rfl, _, rfl, _, rfl, L, _, _, _, rfl, rfl, SqL.of hL1, atI_nat exi, pr, _, rfl, .inl (SqL.of hz1), b, _, _, rfl, by omega, by omega, bag1, by omega, fun H2 d' e0 e1 bag2 but2 => ?_⟩
    obtain ⟨j, rfl⟩ : ∃ j : Nat, d' = (j : Nat) := ⟨d'.toNat, by omega⟩
    have hj : j < zs.length := by omega
    obtain ⟨q, eq, kq⟩ := hq _ (List.getElem_mem hj)
    have ezj : zs[j]? = some (.ref q) := by rw [List.getElem?_eq_getElem hj, eq]
    refine ⟨by show 2 ≤ sizeLine; decide, fun p hp => ?_⟩
    exact kk _ p i j ⟨xs, pr, zs, q, hL, exi, kpr, hz, ezj, kq⟩ (But.free bag2 (but1.trans but2) bag hp) upd_same (bag2.keep (same_new hp)) ((but1.trans but2).trans (But.of (same_new hp)))
end
end K06

namespace K06
open PySem L2 Wm TL Dv De
section
variable {P : Program} {w : World} {K : PySem.W.Frag} {mg : Str → Option Value} {base : Heap}
/-- what the four ways keep -/
structure Rk (K : PySem.W.Frag) (κ : Addr → Nat) (Hs : Hp) (κ' : Addr → Nat) (H : Hp) : Prop where
  old : ∀ a o, κ a = 0 → Hs a = some o → H a = some o
  top : ∀ a, 3 ≤ κ a → H a = Hs a
  gr : Gr K κ' H
  keep : ∀ a, κ a ≠ 0 → κ' a = κ a
  new : ∀ a, κ' a ≠ κ a → Hs a = none ∧ κ' a = 1 ∧ a ≠ sysModules
def addLeaf (κ : Addr → Nat) (e : Addr) : Addr → Nat := fun a => if a = e then 1 else κ a
section
variable {κ κ' : Addr → Nat} {Hs H H2 : Hp} {b : Addr}
theorem Rk.self (g : Gr K κ Hs) : Rk K κ Hs κ Hs := ⟨fun _ _ _ h => h, fun _ _ => rfl, g, fun _ _ => rfl, fun _ h => absurd rfl h⟩
theorem Rk.same (r : Rk K κ Hs κ' H) (s : Same H H2) : Rk K κ Hs κ' H2 := by
  refine ⟨fun a o k h => s a o (r.old a o k h), fun a k => ?_, r.gr.same s, r.keep, r.new⟩
  cases q : H a with
  | none => exact absurd q (r.gr.some (by rw [r.keep a (by omega)]; omega))
  | some o => rw [s a o q, ← r.top a k, q]
theorem Rk.free (r : Rk K κ Hs κ' H) {e : Addr} (h : H e = none) : Hs e = none ∧ κ e = 0 := by
  have k' := r.gr.new h
  have k : κ e = 0 := by
    by_cases c : κ e = 0
    · exact c
    · rw [r.keep e c] at k'
      exact absurd k' c
  cases q : Hs e with
  | none => exact ⟨rfl, k⟩
  | some o => rw [r.old e o k q] at h; cases h
theorem Rk.leaf (r : Rk K κ Hs κ' H) {e : Addr} {o : HO} (h : H e = none) (ns : e ≠ sysModules) : Rk K κ Hs (addLeaf κ' e) (upd H e o) := by
  obtain ⟨h0, k0⟩ := r.free h
  have k' := r.gr.new h
  have r2 := r.same (same_new (o := o) h)
  have ee : addLeaf κ' e e = 1 := by unfold addLeaf; rw [if_pos rfl]
  have eo : ∀ a, a ≠ e → addLeaf κ' e a = κ' a := fun a n => by unfold addLeaf; rw [if_neg n]
  have k1 : ∀ a, κ' a ≠ 0 → addLeaf κ' e a = κ' a := fun a k => eo a fun q => k (by rw [q]; exact k')
  have vl : ∀ x, VL K κ' (upd H e o) x → VL K (addLeaf κ' e) (upd H e o) x := fun x v => v.mv Kt.refl fun a o c h => ⟨by rw [k1 a (by omega)]; exact c, h⟩
  refine ⟨r2.old, r2.top, ⟨fun a c => ?_, fun a c => ?_, fun a c => ?_, fun a c => ?_, fun a => ?_⟩, fun a k => ?_, fun a k => ?_⟩
  · by_cases q : a = e
    · rw [q, upd_same]; simp
    · rw [eo a q] at c
      exact r2.gr.leaf a c
  · by_cases q : a = e
    · rw [q, ee] at c; cases c
    · rw [eo a q] at c
      obtain ⟨x, y, h1, h2, h3⟩ := r2.gr.box a c
      exact ⟨x, y, h1, vl _ h2, vl _ h3⟩
  · by_cases q : a = e
    · rw [q, ee] at c; cases c
    · rw [eo a q] at c
      obtain ⟨zs, h1, h2, h3, h4⟩ := r2.gr.row a c
      refine ⟨zs, h1, h2, h3, fun z m => ?_⟩
      obtain ⟨q, e1, e5⟩ := h4 z m
      exact ⟨q, e1, by rw [k1 q (by omega)]; exact e5⟩
  · by_cases q : a = e
    · rw [q, ee] at c; cases c
    · rw [eo a q] at c
      obtain ⟨zs, h1, h2, h3, h4⟩ := r2.gr.out a c
      refine ⟨zs, h1, h2, h3, fun z m => ?_⟩
      obtain ⟨q, e1, e5⟩ := h4 z m
      exact ⟨q, e1, by rw [k1 q (by omega)]; exact e5⟩
  · by_cases q : a = e
    · rw [q, ee]; omega
    · rw [eo a q]; exact r2.gr.le a
  · rw [k1 a (by rw [r.keep a k]; exact k)]
    exact r.keep a k
  · by_cases q : a = e
    · rw [q, ee]
      exact ⟨h0, rfl, ns⟩
    · rw [eo a q] at k ⊢
      exact r.new a k
theorem addLeaf_eq (κ : Addr → Nat) (e : Addr) : addLeaf κ e e = 1 := by unfold addLeaf; rw [if_pos rfl]
theorem Rk.put (r : Rk K κ Hs κ' H) {q : Addr} {x y : V} (kq : κ q = 2) (hx : VL K κ' H x) (hy : VL K κ' H y) : Rk K κ Hs κ' (upd H q (.lst [x, y])) := by
  have kq' : κ' q = 2 := by rw [r.keep q (by omega)]; exact kq
  refine ⟨fun a o k h => ?_, fun a k => ?_, r.gr.put kq' hx hy, r.keep, r.new⟩
  · rw [upd_ne (fun e => by rw [e, kq] at k; cases k)]
    exact r.old a o k h
  · rw [upd_ne (fun e => by rw [e, kq] at k; omega)]
    exact r.top a k
theorem Rk.box (r : Rk K κ Hs κ' H) {q : Addr} (kq : κ q = 2) : ∃ x y, H q = some (.lst [x, y]) ∧ VL K κ' H x ∧ VL K κ' H y := r.gr.box q (by rw [r.keep q (by omega)]; exact kq)
theorem Rk.bag {n : Nat} (r : Rk K κ Hs κ' H) (kb : κ b = 0) (kc : ∀ c x k m z, Hs b = some (.lst [.int x, .ref c, .int k, .int m, .int z]) → κ c = 0) (bag : Bag Hs b n) : Bag H b n := by
  obtain ⟨c, x, k, m, z, ns, hb, hc, r1⟩ := bag
  exact ⟨c, x, k, m, z, ns, r.old _ _ kb hb, r.old _ _ (kc _ _ _ _ _ hb) hc, r1⟩
theorem VL.same {x : V} (h : VL K κ H x) (s : Same H H2) : VL K κ H2 x := h.mv (Kt.same s) fun a o k e => ⟨k, s a o e⟩
theorem VL.flat {x : V} {d : PyData} (h : ∀ N, En K N H x d) (m : Mg 1 20 d) : VL K κ H x := ⟨d, h _, m⟩
theorem cel_k {H0 : Hp} {m : Nat} (bag0 : Bag H0 b m) (but : But b H0 Hs) (fr : Fr κ H0) : ∀ c x k m z, Hs b = some (.lst [.int x, .ref c, .int k, .int m, .int z]) → κ c = 0 := fun c x k m z h => by
  obtain ⟨c0, x0, k0, m0, z0, ns, hb, hc, _⟩ := bag0
  obtain ⟨x1, k1, m1, z1, h1⟩ := but.cel c0 ⟨_, _, _, _, hb⟩
  rw [h1] at h
  have e := HO.lst.inj (Option.some.inj h)
  have ec : c0 = c := by
    have := (List.cons.inj (List.cons.inj e).2).1
    exact V.ref.inj this
  subst ec
  by_cases q : κ c0 = 0
  · exact q
  · rw [(fr c0 q).1] at hc
    cases hc
/-- the rows as told, no box spoilt in a row -/
theorem Rk.grid {L : Addr} (r : Rk K κ Hs κ' H) (kL : κ L = 4) (nb : ∀ a, κ' a ≠ 0 → a ≠ b ∧ (κ' a ≤ 2 → a ≠ sysModules)) : Grid1 K b H L := by
  have kL' : κ' L = 4 := by rw [r.keep L (by omega)]; exact kL
  obtain ⟨xs, hL, l1, l3, hx⟩ := r.gr.out L kL'
  refine ⟨xs, (nb L (by omega)).1, hL, l1, l3, fun x m => ?_⟩
  obtain ⟨p, rfl, kp⟩ := hx x m
  obtain ⟨zs, hz, z1, z10, hq⟩ := r.gr.row p kp
  refine ⟨p, zs, rfl, (nb p (by omega)).1, hz, z10, fun z mz => ?_⟩
  obtain ⟨q, rfl, kq⟩ := hq z mz
  exact r.gr.boxEn (fun a k => ⟨(nb a (by omega)).2 (by omega), (nb a (by omega)).1⟩) kq
/-- a box of a row spoilt -/
theorem Rk.gridPut {L pr : Addr} {zs : List V} {j : Nat} {Z : V} (r : Rk K κ Hs κ' H) (kL : κ L = 4) (kp : κ pr = 3) (nb : ∀ a, κ' a ≠ 0 → a ≠ b ∧ (κ' a ≤ 2 → a ≠ sysModules)) (hz : H pr = some (.lst zs))
    (hZ : ∃ d, En K (fun a => Nz b a ∧ a ≠ pr) H Z d ∧ Mg 2 70 d) : Grid1 K b (upd H pr (.lst (zs.set j Z))) L := by
  have kL' : κ' L = 4 := by rw [r.keep L (by omega)]; exact kL
  have kp' : κ' pr = 3 := by rw [r.keep pr (by omega)]; exact kp
  obtain ⟨xs, hL, l1, l3, hx⟩ := r.gr.out L kL'
  have kt : Kt K H (upd H pr (.lst (zs.set j Z))) := Kt.lst hz
  have bv : ∀ z, (∃ d, En K (fun a => Nz b a ∧ a ≠ pr) H z d ∧ Mg 2 70 d) → BoxV K b (upd H pr (.lst (zs.set j Z))) z := fun z ⟨d, e, m⟩ =>
    ⟨d, En.kk kt (fun a o q h => ⟨q.1, by rw [upd_ne q.2]; exact h⟩) d z e, m⟩
  have bx : ∀ q, κ' q = 2 → ∃ d, En K (fun a => Nz b a ∧ a ≠ pr) H (.ref q) d ∧ Mg 2 70 d := fun q kq =>
    r.gr.boxEn (fun a k => ⟨⟨(nb a (by omega)).2 (by omega), (nb a (by omega)).1⟩, fun e => by rw [e, kp'] at k; omega⟩) kq
  refine ⟨xs, (nb L (by omega)).1, by rw [upd_ne (fun e => by rw [e, kp'] at kL'; cases kL')]; exact hL, l1, l3, fun x m => ?_⟩
  obtain ⟨p, rfl, kp2⟩ := hx x m
  obtain ⟨ys, hy, y1, y10, hq⟩ := r.gr.row p kp2
  by_cases c : p = pr
  · subst c
    rw [hy] at hz
    cases HO.lst.inj (Option.some.inj hz)
    refine ⟨p, _, rfl, (nb p (by omega)).1, upd_same, by rw [List.length_set]; exact y10, fun z mz => ?_⟩
    rcases List.mem_or_eq_of_mem_set mz with mz | rfl
    · obtain ⟨q, rfl, kq⟩ := hq z mz
      exact bv _ (bx q kq)
    · exact bv _ hZ
  · refine ⟨p, ys, rfl, (nb p (by omega)).1, by rw [upd_ne c]; exact hy, y10, fun z mz => ?_⟩
    obtain ⟨q, rfl, kq⟩ := hq z mz
    exact bv _ (bx q kq)
theorem Rk.nb {H0 : Hp} {m : Nat} (r : Rk K κ Hs κ' H) (bag0 : Bag H0 b m) (fr : Fr κ H0) (hb : Hs b ≠ none) : ∀ a, κ' a ≠ 0 → a ≠ b ∧ (κ' a ≤ 2 → a ≠ sysModules) := fun a k => by
  by_cases c : κ' a = κ a
  · rw [c] at k ⊢
    exact ⟨Lm.bag_off bag0 (fr a k).1, (fr a k).2⟩
  · obtain ⟨h0, _, ns⟩ := r.new a c
    exact ⟨fun e => hb (by rw [← e]; exact h0), fun _ => ns⟩
end
end
end K06

namespace K06
open PySem L2 Wm TL Dv De
section
variable {P : Program} {w : World} {K : PySem.W.Frag} {mg : Str → Option Value} {base : Heap}
theorem len4 {ys : List V} (h : ys.length = 4) : ∃ a b c d, ys = [a, b, c, d] := match ys, h with | [a, b, c, d], _ => ⟨a, b, c, d, rfl⟩
theorem len5 {ys : List V} (h : ys.length = 5) : ∃ a b c d e, ys = [a, b, c, d, e] := match ys, h with | [a, b, c, d, e], _ => ⟨a, b, c, d, e, rfl⟩
theorem vl_str {κ : Addr → Nat} {H : Hp} {t : Str} (h : t.cps.toList.all (fun c => decide (c < 16 ^ 8)) = true) (l : t.cps.size ≤ 20) : VL K κ H (.str t) := .flat (fun _ => .str _) (mg_str h l)
theorem vl_int {κ : Addr → Nat} {H : Hp} {i : Int} (h : i.natAbs < 1000000) : VL K κ H (.int i) := .flat (fun _ => .int _) (mg_int h)
theorem vl_non {κ : Addr → Nat} {H : Hp} : VL K κ H .non := .flat (fun _ => .non) mg_non
theorem vl_bl {κ : Addr → Nat} {H : Hp} {b : Bool} : VL K κ H (.bl b) := .flat (fun _ => .bl _) (mg_bl b)
theorem mg_one {t : Str} (h : t.cps.toList.all (fun c => decide (c < 16 ^ 8)) = true) (l : t.cps.size ≤ 19) : Mg 1 20 (.list [.str t]) ∧ Mg 1 20 (.tuple [.str t]) := by
  have q : ∀ d ∈ [PyData.str t], Mg 0 19 d := fun d m => by rw [List.mem_singleton.mp m]; exact mg_str h l
  exact ⟨mg_lst (k := 1) q (Nat.le_refl _), mg_tup (k := 1) q (Nat.le_refl _)⟩
theorem all_cons {P : V → Prop} {x : V} {xs : List V} (h : P x) (hs : ∀ y ∈ xs, P y) : ∀ y ∈ x :: xs, P y := fun y m => by
  rcases List.mem_cons.mp m with rfl | m
  · exact h
  · exact hs y m
theorem all_nil {P : V → Prop} : ∀ y ∈ ([] : List V), P y := fun _ m => absurd m List.not_mem_nil
theorem pick {P : V → Prop} {xs : List V} {i : Nat} (h : ∀ y ∈ xs, P y) (l : i < xs.length) : ∃ z, atI xs ((i : Nat) : Int) = some z ∧ P z := ⟨xs[i], atI_nat (List.getElem?_eq_getElem l), h _ (List.getElem_mem l)⟩
theorem ok_boxes_spoilt (T : Txt K mg) : FnOk P w K mg base CX0 3 T.a_boxes_spoilt T.d_boxes_spoilt ["_law_bag_here", "_law_loops_here"] (sp_boxes_spoilt K) := by
  refine T.F_boxes_spoilt.ok sc_boxes_spoilt (fun vs H Q E h => ?_) (fun cdv A outer s H vs Q E hr h => ?_)
  · obtain ⟨b, n, L, κ, H0, m, rfl, _⟩ := h
    rfl
  · obtain ⟨b, n, L, κ, H0, m, rfl, bag, hn, bag0, but0, fr, g, kL, kk⟩ := h
    have kb : κ b = 0 := by
      by_cases c : κ b = 0
      · exact c
      · obtain ⟨_, _, _, _, _, _, hb, _⟩ := bag0
        rw [(fr b c).1] at hb
        cases hb
    refine ⟨_, (pss_cons (ps_setLc (i := 2) (own := [("_law_k", 3)]) (g := gName 3) (tt := tYes) rfl sc_boxes_spoilt.nd rfl rfl (sw_true rfl rfl rfl (by decide +kernel)) (pi_range1 (by rfl) T.z_range (pa_cons pe_int pa_nil)) (blkOk_by (own := [("_law_k", 3)]) (N := nm_boxes_spoilt) (sc := (defScope s_boxes_spoilt)) (by decide +kernel)) (fun _ _ _ _ _ => pg_name (i := 3) sc_boxes_spoilt.nd rfl (Or.inl rfl)) (fun _ _ _ _ _ => pts_nil) (fun _ _ _ _ _ => (pe_cmpR op_eq (pe_call (ok_draw T) (hr.mono (by decide)) (by rfl) T.g_draw T.F_draw.kp T.b_draw .nil pass0 (pa_cons (pv 0) (pa_cons pe_int pa_nil))) pe_int (nomark _))))
      (pss_cons (ps_setLc (i := 4) (own := [("_law_k", 3)]) (g := gName 3) (tt := tYes) rfl sc_boxes_spoilt.nd rfl rfl (sw_true rfl rfl rfl (by decide +kernel)) (pi_range1 (by rfl) T.z_range (pa_cons pe_int pa_nil)) (blkOk_by (own := [("_law_k", 3)]) (N := nm_boxes_spoilt) (sc := (defScope s_boxes_spoilt)) (by decide +kernel)) (fun _ _ _ _ _ => pg_name (i := 3) sc_boxes_spoilt.nd rfl (Or.inl rfl)) (fun _ _ _ _ _ => pts_nil) (fun _ _ _ _ _ => (pe_call (ok_spot T) (hr.mono (by decide)) (by rfl) T.g_spot T.F_spot.kp T.b_spot .nil pass0 (pa_cons (pv 0) (pa_cons (pv 1) pa_nil)))))
      (pss_cons (ps_setLc (i := 5) (own := [("_law_k", 3)]) (g := gName 3) (tt := tYes) rfl sc_boxes_spoilt.nd rfl rfl (sw_true rfl rfl rfl (by decide +kernel)) (pi_range1 (by rfl) T.z_range (pa_cons pe_int pa_nil)) (blkOk_by (own := [("_law_k", 3)]) (N := nm_boxes_spoilt) (sc := (defScope s_boxes_spoilt)) (by decide +kernel)) (fun _ _ _ _ _ => pg_name (i := 3) sc_boxes_spoilt.nd rfl (Or.inl rfl)) (fun _ _ _ _ _ => pts_nil) (fun _ _ _ _ _ => (pe_call (ok_draw T) (hr.mono (by decide)) (by rfl) T.g_draw T.F_draw.kp T.b_draw .nil pass0 (pa_cons (pv 0) (pa_cons pe_int pa_nil)))))
      (C8.pss_cut (ps_if (pt_val (pe_ix ix_list (pv 2) pe_int (fun _ _ => rfl)))
        (pss_cons (ps_set (i := 6) sc_boxes_spoilt.nd rfl (Or.inl rfl) (pe_ix ix_list (pv 1) (pe_ix ix_list (pe_ix ix_list (pv 4) pe_int (fun _ _ => rfl)) pe_int (fun _ _ => rfl)) (fun _ _ => rfl)))
        (pss_cons (ps_set (i := 7) sc_boxes_spoilt.nd rfl (Or.inl rfl) (pe_ix ix_list (pv 1) (pe_ix ix_list (pe_ix ix_list (pv 4) pe_int (fun _ _ => rfl)) pe_int (fun _ _ => rfl)) (fun _ _ => rfl)))
        (pss_one (ps_asg (pe_ix ix_list (pe_ix ix_list (pv 7) (pe_ix ix_list (pe_ix ix_list (pv 4) pe_int (fun _ _ => rfl)) pe_int (fun _ _ => rfl)) (fun _ _ => rfl)) pe_int (fun _ _ => rfl)) (pg_sub (pe_ix ix_list (pv 6) (pe_ix ix_list (pe_ix ix_list (pv 4) pe_int (fun _ _ => rfl)) pe_int (fun _ _ => rfl)) (fun _ _ => rfl)) pe_int set_list)))))
        pss_nil)
      (C8.pss_cut (ps_if (pt_val (pe_ix ix_list (pv 2) pe_int (fun _ _ => rfl)))
        (pss_cons (ps_set (i := 6) sc_boxes_spoilt.nd rfl (Or.inl rfl) (pe_ix ix_list (pv 1) (pe_ix ix_list (pe_ix ix_list (pv 4) pe_int (fun _ _ => rfl)) pe_int (fun _ _ => rfl)) (fun _ _ => rfl)))
        (pss_one (ps_asg (pe_ix ix_list (Dz.pe_lstZ (pa_cons pe_str (pa_cons pe_str (pa_cons pe_int (pa_cons pe_non (pa_cons pe_str (pa_cons pe_str (pa_cons pe_str (pa_cons (Dz.pe_lstZ (pa_cons pe_str pa_nil)) pa_nil))))))))) (pe_ix ix_list (pv 5) pe_int (fun _ _ => rfl)) (fun _ _ => rfl)) (pg_sub (pe_ix ix_list (pv 6) (pe_ix ix_list (pe_ix ix_list (pv 4) pe_int (fun _ _ => rfl)) pe_int (fun _ _ => rfl)) (fun _ _ => rfl)) pe_int set_list))))
        pss_nil)
      (C8.pss_cut (ps_if (pt_val (pe_ix ix_list (pv 2) pe_int (fun _ _ => rfl)))
        (pss_cons (ps_set (i := 6) sc_boxes_spoilt.nd rfl (Or.inl rfl) (pe_ix ix_list (pv 1) (pe_ix ix_list (pe_ix ix_list (pv 4) pe_int (fun _ _ => rfl)) pe_int (fun _ _ => rfl)) (fun _ _ => rfl)))
        (pss_one (ps_asg (pe_ix ix_list (Dz.pe_lstZ (pa_cons pe_str (pa_cons pe_str (pa_cons pe_non (pa_cons Dz.pe_dnewZ (pa_cons pe_bl (pa_cons pe_str (pa_cons (Dz.pe_lstZ (pa_cons pe_str pa_nil)) (pa_cons (pe_tup (pa_cons pe_str pa_nil)) pa_nil))))))))) (pe_ix ix_list (pv 5) pe_int (fun _ _ => rfl)) (fun _ _ => rfl)) (pg_sub (pe_ix ix_list (pv 6) (pe_ix ix_list (pe_ix ix_list (pv 4) pe_int (fun _ _ => rfl)) pe_int (fun _ _ => rfl)) (fun _ _ => rfl)) pe_int set_list))))
        pss_nil)
      (C8.pss_cut (ps_if (pt_val (pe_ix ix_list (pv 2) pe_int (fun _ _ => rfl)))
        (pss_cons (ps_set (i := 6) sc_boxes_spoilt.nd rfl (Or.inl rfl) (pe_ix ix_list (pv 1) (pe_ix ix_list (pe_ix ix_list (pv 4) pe_int (fun _ _ => rfl)) pe_int (fun _ _ => rfl)) (fun _ _ => rfl)))
        (pss_cons (ps_set (i := 8) sc_boxes_spoilt.nd rfl (Or.inl rfl) (pe_ix ix_list (pv 6) (pe_ix ix_list (pe_ix ix_list (pv 4) pe_int (fun _ _ => rfl)) pe_int (fun _ _ => rfl)) (fun _ _ => rfl)))
        (pss_one (ps_asg (pe_ix ix_list (Dz.pe_lstZ (pa_cons pe_non (pa_cons pe_str (pa_cons (Dz.pe_lstZ pa_nil) (pa_cons (Dz.pe_lstZ (pa_cons (pe_ix ix_list (pv 8) pe_int (fun _ _ => rfl)) pa_nil)) (pa_cons (Dz.pe_lstZ (pa_cons (pe_ix ix_list (pv 8) pe_int (fun _ _ => rfl)) (pa_cons (pe_ix ix_list (pv 8) pe_int (fun _ _ => rfl)) (pa_cons pe_int pa_nil)))) (pa_cons pe_int (pa_cons pe_bl (pa_cons (pe_ix ix_list (pv 8) pe_int (fun _ _ => rfl)) pa_nil))))))))) (pe_ix ix_list (pv 5) pe_int (fun _ _ => rfl)) (fun _ _ => rfl)) (pg_sub (pv 6) (pe_ix ix_list (pe_ix ix_list (pv 4) pe_int (fun _ _ => rfl)) pe_int (fun _ _ => rfl)) set_list)))))
        pss_nil)
      (pss_one (ps_ret (pv 1)))))))))), ?_⟩
    refine ⟨_, rfl, by decide, by decide, fun W hW => ?_⟩
    have kW := g.new hW
    refine lc_bag2 (K := K) (c := 1) (walk_rngL (lo := 0) (n := 4)) (fun k y _ => ∃ c, y = .bl c) (fun _ _ _ _ h _ _ => h) hW bag (by decide) (fun _ _ => trivial) (fun i x A hi hx bA gA _ Q2 Z q => ?_) (fun H1 ws but1 bag1 hw lw hR => ?_)
    · refine ⟨rfl, yesT ?_⟩
      refine ⟨_, rfl, b, _, 6, rfl, by decide, by decide, gA, by omega, fun A2 d d0 d1 gA2 bA2 => ?_⟩
      refine ⟨rfl, q _ _ bA2 (gA2.mono (by omega)) ⟨_, rfl⟩⟩
    have Wb := Lm.bag_off bag hW
    have g1 := g.but bag but1 kb
    refine ⟨_, rfl, by decide, by decide, fun S hS => ?_⟩
    have kS := g1.new hS
    refine lc_bag2 (K := K) (c := 2) (walk_rngL (lo := 0) (n := 5)) (fun k y A => ∃ p i j, y = .ref p ∧ κ p = 0 ∧ p ≠ b ∧ p ≠ S ∧ A p = some (.lst [.int (i : Nat), .int (j : Nat)]) ∧ Spot κ H1 L i j) (fun _ _ A B ⟨p, i, j, h1, h2, h3, h4, h5, h6⟩ _ f => ⟨p, i, j, h1, h2, h3, h4, f p _ h3 h4 h5, h6⟩) hS bag1 (by decide) (fun _ _ => trivial) (fun i x A hi hx bA gA nS Q2 Z q => ?_) (fun H2 ss but2 bag2 hs ls hR2 => ?_)
    · refine ⟨rfl, yesT ?_⟩
      refine ⟨_, rfl, _, rfl, b, _, L, κ, rfl, gA, by omega, g1.but bag1 bA kb, kL, kb, fun A2 p i j sp hp0 hp gA2 bA2 => ?_⟩
      refine q _ _ bA2 (gA2.mono (by omega)) ⟨p, i, j, rfl, (g1.but bag1 bA kb).new hp0, Lm.bag_off gA hp0, fun e => nS (by rw [← e]; exact hp0), hp, sp.mv kL (fun _ _ => rfl) fun a ka => ?_⟩
      cases c : H1 a with
      | none => exact absurd c (g1.some (by omega))
      | some o => exact (bA.keep a o (fun e => by rw [e, kb] at ka; omega) c).symm
    have g2 := g1.but bag1 but2 kb
    have Sb := Lm.bag_off bag1 hS
    refine ⟨_, rfl, by decide, by decide, fun D hD => ?_⟩
    have kD := g2.new hD
    refine lc_bag2 (K := K) (c := 1) (walk_rngL (lo := 0) (n := 4)) (fun k y _ => ∃ d : Nat, y = .int (d : Nat) ∧ d < 8) (fun _ _ _ _ h _ _ => h) hD bag2 (by decide) (fun _ _ => trivial) (fun i x A hi hx bA gA _ Q2 Z q => ?_) (fun Hs ds but3 bag3 hd ld hR3 => ?_)
    · refine ⟨rfl, yesT ?_⟩
      refine ⟨_, rfl, b, _, 8, rfl, by decide, by decide, gA, by omega, fun A2 d d0 d1 gA2 bA2 => ?_⟩
      exact q _ _ bA2 (gA2.mono (by omega)) ⟨d.toNat, by rw [Int.toNat_of_nonneg d0], by omega⟩
    have gs := g2.but bag2 but3 kb
    have buts := ((but0.trans but1).trans but2).trans but3
    have kc := cel_k bag0 buts fr
    have hbs : Hs b ≠ none := by
      obtain ⟨_, _, _, _, _, _, hb, _⟩ := bag3
      rw [hb]; simp
    obtain ⟨w0, w1, w2, w3, rfl⟩ := len4 lw
    obtain ⟨s0, s1, s2, s3, s4, rfl⟩ := len5 ls
    obtain ⟨d0, d1, d2, d3, rfl⟩ := len4 ld
    have hWs : Hs W = some (.lst [w0, w1, w2, w3]) := but3.keep _ _ Wb (but2.keep _ _ Wb hw)
    have hSs : Hs S = some (.lst [s0, s1, s2, s3, s4]) := but3.keep _ _ Sb hs
    have spv : ∀ y, (∃ p i j, y = V.ref p ∧ κ p = 0 ∧ p ≠ b ∧ p ≠ S ∧ H2 p = some (.lst [.int (i : Nat), .int (j : Nat)]) ∧ Spot κ H1 L i j) → ∃ p i j, y = V.ref p ∧ (κ p = 0 ∧ Hs p = some (.lst [.int (i : Nat), .int (j : Nat)])) ∧ Spot κ Hs L i j := fun y ⟨p, i, j, h1, h2, h3, h4, h5, h6⟩ => ⟨p, i, j, h1, ⟨h2, but3.keep _ _ h3 h5⟩, h6.mv kL (fun _ _ => rfl) fun a ka => by
      cases c : H1 a with
      | none => exact absurd c (g1.some (by omega))
      | some o => exact (but2.trans but3).keep a o (fun e => by rw [e, kb] at ka; omega) c⟩
    obtain ⟨c0, rfl⟩ := hR 0 w0 rfl
    obtain ⟨c1, rfl⟩ := hR 1 w1 rfl
    obtain ⟨c2, rfl⟩ := hR 2 w2 rfl
    obtain ⟨c3, rfl⟩ := hR 3 w3 rfl
    obtain ⟨p0, i0, j0, rfl, hp0, sp0⟩ := spv _ (hR2 0 _ rfl)
    obtain ⟨p1, i1, j1, rfl, hp1, sp1⟩ := spv _ (hR2 1 _ rfl)
    obtain ⟨p2, i2, j2, rfl, hp2, sp2⟩ := spv _ (hR2 2 _ rfl)
    obtain ⟨p3, i3, j3, rfl, hp3, sp3⟩ := spv _ (hR2 3 _ rfl)
    obtain ⟨p4, i4, j4, rfl, hp4, sp4⟩ := spv _ (hR2 4 _ rfl)
    obtain ⟨x1, rfl, lx1⟩ := hR3 1 d1 rfl
    obtain ⟨x2, rfl, lx2⟩ := hR3 2 d2 rfl
    obtain ⟨x3, rfl, lx3⟩ := hR3 3 d3 rfl
    clear hR hR2 hR3 spv
    have bagE : Bag Hs b (n + 40) := bag3.mono (by omega)
    clear bag3
    refine ⟨fun σ H' => (∃ v6 v7 v8, σ = [some (.ref b), some (.ref L), some (.ref W), none, some (.ref S), some (.ref D), v6, v7, v8]) ∧ ∃ κ', Rk K κ Hs κ' H', ?_, ?_⟩
    · have r := Rk.self gs
      refine ⟨_, rfl, W, _, 0, _, rfl, rfl, SqL.of hWs, atI_nat (j := 0) rfl, c0, rfl, ite2 (fun _ => ?_) (fun _ => ⟨⟨_, _, _, rfl⟩, _, r⟩)⟩
      obtain ⟨xs, pr0, zs0, q0, hL, ex0, kp0, hz0, ez0, kq0⟩ := sp0
      obtain ⟨xs4, pr4, zs4, q4, hL4, ex4, kp4, hz4, ez4, kq4⟩ := sp4
      obtain ⟨u4, v4, hq4, hu4, _⟩ := r.box kq4
      obtain ⟨u0, v0, hq0, _, hv0⟩ := r.box kq0
      refine ⟨_, rfl, _, rfl, S, _, 0, _, rfl, rfl, SqL.of hSs, atI_nat (j := 0) rfl, p0, _, 0, _, rfl, rfl, SqL.of hp0.2, atI_nat (j := 0) rfl, L, _, _, _, rfl, rfl, SqL.of hL, atI_nat ex0, ?_⟩
      refine ⟨_, rfl, _, rfl, S, _, 4, _, rfl, rfl, SqL.of hSs, atI_nat (j := 4) rfl, p4, _, 0, _, rfl, rfl, SqL.of hp4.2, atI_nat (j := 0) rfl, L, _, _, _, rfl, rfl, SqL.of hL4, atI_nat ex4, ?_⟩
      refine ⟨_, rfl, _, rfl, S, _, 4, _, rfl, rfl, SqL.of hSs, atI_nat (j := 4) rfl, p4, _, 1, _, rfl, rfl, SqL.of hp4.2, atI_nat (j := 1) rfl, pr4, _, _, _, rfl, rfl, SqL.of hz4, atI_nat ez4, q4, _, 0, _, rfl, rfl, SqL.of hq4, atI_nat (j := 0) rfl, ?_⟩
      refine ⟨_, rfl, _, rfl, S, _, 0, _, rfl, rfl, SqL.of hSs, atI_nat (j := 0) rfl, p0, _, 1, _, rfl, rfl, SqL.of hp0.2, atI_nat (j := 1) rfl, pr0, _, _, _, rfl, rfl, SqL.of hz0, atI_nat ez0, q0, _, 0, 0, rfl, rfl, hq0, rfl, ?_⟩
      exact ⟨⟨_, _, _, rfl⟩, _, r.put kq0 hu4 hv0⟩
    rintro σ H1' ⟨⟨v6, v7, v8, rfl⟩, κ', r⟩
    refine ⟨fun σ H' => (∃ v6 v7 v8, σ = [some (.ref b), some (.ref L), some (.ref W), none, some (.ref S), some (.ref D), v6, v7, v8]) ∧ ∃ κ', Rk K κ Hs κ' H', ?_, ?_⟩
    · have hW' := r.old _ _ kW hWs
      refine ⟨_, rfl, W, _, 1, _, rfl, rfl, SqL.of hW', atI_nat (j := 1) rfl, c1, rfl, ite2 (fun _ => ?_) (fun _ => ⟨⟨_, _, _, rfl⟩, _, r⟩)⟩
      have hS' := r.old _ _ kS hSs
      have hp' := r.old _ _ hp1.1 hp1.2
      obtain ⟨xs, pr, zs, q, hL, ex, kp, hz, ez, kq⟩ := sp1.mv kL (fun _ _ => rfl) r.top
      refine ⟨_, rfl, _, rfl, S, _, 1, _, rfl, rfl, SqL.of hS', atI_nat (j := 1) rfl, p1, _, 0, _, rfl, rfl, SqL.of hp', atI_nat (j := 0) rfl, L, _, _, _, rfl, rfl, SqL.of hL, atI_nat ex, ?_⟩
      refine ⟨by show 1 ≤ sizeLine; decide, fun e ne he => ?_⟩
      have r2 := r.leaf (o := .lst [.str "24"]) he ne
      have ke := addLeaf_eq κ' e
      have hee : upd H1' e (.lst [.str "24"]) e = some (.lst [.str "24"]) := upd_same
      generalize addLeaf κ' e = κ2 at *
      have hz := (r2.top pr (by omega)).trans ((r.top pr (by omega)).symm.trans hz)
      have hDs' := r2.old _ _ kD hd
      have hS' := r2.old _ _ kS hSs
      have hp' := r2.old _ _ hp1.1 hp1.2
      generalize upd H1' e (.lst [.str "24"]) = H2' at *
      refine ⟨by show 8 ≤ sizeLine; decide, fun t nt ht => ?_⟩
      have st := same_new (o := .lst [V.str "0", V.str "", V.int 24, V.non, V.str "99999", V.str "9999", V.str "2 4", V.ref e]) ht
      have r3 := r2.same st
      have vall : ∀ z ∈ [V.str "0", V.str "", V.int 24, V.non, V.str "99999", V.str "9999", V.str "2 4", V.ref e], VL K κ2 H2' z :=
        all_cons (vl_str (by decide +kernel) (by decide +kernel)) (all_cons (vl_str (by decide +kernel) (by decide +kernel)) (all_cons (vl_int (by decide)) (all_cons vl_non (all_cons (vl_str (by decide +kernel) (by decide +kernel)) (all_cons (vl_str (by decide +kernel) (by decide +kernel)) (all_cons (vl_str (by decide +kernel) (by decide +kernel)) (all_cons ⟨_, .lst ke hee (.cons (.str _) .nil), (mg_one (by decide +kernel) (by decide +kernel)).1⟩ all_nil)))))))
      obtain ⟨z, ez1, vz⟩ := pick vall (i := x1) lx1
      have vz := vz.same st
      have htt : upd H2' t (.lst [V.str "0", V.str "", V.int 24, V.non, V.str "99999", V.str "9999", V.str "2 4", V.ref e]) t = some (.lst [V.str "0", V.str "", V.int 24, V.non, V.str "99999", V.str "9999", V.str "2 4", V.ref e]) := upd_same
      have hz := st _ _ hz
      have hDs' := st _ _ hDs'
      have hS' := st _ _ hS'
      have hp' := st _ _ hp'
      generalize upd H2' t (.lst [V.str "0", V.str "", V.int 24, V.non, V.str "99999", V.str "9999", V.str "2 4", V.ref e]) = H3' at *
      obtain ⟨u, v, hq, hu, hv⟩ := r3.box kq
      refine ⟨_, rfl, D, _, 1, _, rfl, rfl, SqL.of hDs', atI_nat (j := 1) rfl, t, _, _, _, rfl, rfl, SqL.of htt, ez1, ?_⟩
      refine ⟨_, rfl, _, rfl, S, _, 1, _, rfl, rfl, SqL.of hS', atI_nat (j := 1) rfl, p1, _, 1, _, rfl, rfl, SqL.of hp', atI_nat (j := 1) rfl, pr, _, _, _, rfl, rfl, SqL.of hz, atI_nat ez, q, _, 0, 0, rfl, rfl, hq, rfl, ?_⟩
      exact ⟨⟨_, _, _, rfl⟩, _, r3.put kq vz hv⟩
    clear r κ' v6 v7 v8 H1'
    rintro σ H1' ⟨⟨v6, v7, v8, rfl⟩, κ', r⟩
    refine ⟨fun σ H' => (∃ v6 v7 v8, σ = [some (.ref b), some (.ref L), some (.ref W), none, some (.ref S), some (.ref D), v6, v7, v8]) ∧ ∃ κ', Rk K κ Hs κ' H', ?_, ?_⟩
    · have hW' := r.old _ _ kW hWs
      refine ⟨_, rfl, W, _, 2, _, rfl, rfl, SqL.of hW', atI_nat (j := 2) rfl, c2, rfl, ite2 (fun _ => ?_) (fun _ => ⟨⟨_, _, _, rfl⟩, _, r⟩)⟩
      have hS' := r.old _ _ kS hSs
      have hp' := r.old _ _ hp2.1 hp2.2
      obtain ⟨xs, pr, zs, q, hL, ex, kp, hz, ez, kq⟩ := sp2.mv kL (fun _ _ => rfl) r.top
      refine ⟨_, rfl, _, rfl, S, _, 2, _, rfl, rfl, SqL.of hS', atI_nat (j := 2) rfl, p2, _, 0, _, rfl, rfl, SqL.of hp', atI_nat (j := 0) rfl, L, _, _, _, rfl, rfl, SqL.of hL, atI_nat ex, ?_⟩
      intro e ne he
      have r2 := r.leaf (o := .dK []) he ne
      have ke := addLeaf_eq κ' e
      have hee : upd H1' e (.dK []) e = some (.dK []) := upd_same
      generalize addLeaf κ' e = κ2 at *
      generalize upd H1' e (.dK []) = H2' at *
      refine ⟨by show 1 ≤ sizeLine; decide, fun e2 ne2 he2 => ?_⟩
      have s2 := same_new (o := .lst [.str "shy"]) he2
      have r3 := r2.leaf (o := .lst [.str "shy"]) he2 ne2
      have ke2 := addLeaf_eq κ2 e2
      have ke' : addLeaf κ2 e2 e = 1 := by unfold addLeaf; rw [ke]; exact ite_self 1
      have hee := s2 _ _ hee
      have hee2 : upd H2' e2 (.lst [.str "shy"]) e2 = some (.lst [.str "shy"]) := upd_same
      generalize addLeaf κ2 e2 = κ3 at *
      generalize upd H2' e2 (.lst [.str "shy"]) = H3' at *
      refine ⟨by show 1 ≤ sizeLine; decide, fun t3 ht3 => ?_⟩
      have s3 := same_new (o := .tup [.str "shy"]) ht3
      have r4 := r3.same s3
      have hee := s3 _ _ hee
      have hee2 := s3 _ _ hee2
      have ht3' : SqT K (upd H3' t3 (.tup [.str "shy"])) t3 [.str "shy"] := SqT.of upd_same
      generalize upd H3' t3 (.tup [.str "shy"]) = H4' at *
      have vall : ∀ z ∈ [V.str "", V.str "Plain", V.non, V.ref e, V.bl true, V.str "shy ", V.ref e2, V.ref t3], VL K κ3 H4' z :=
        all_cons (vl_str (by decide +kernel) (by decide +kernel)) (all_cons (vl_str (by decide +kernel) (by decide +kernel)) (all_cons vl_non (all_cons ⟨_, .emp ke' hee, mg_emp⟩ (all_cons vl_bl (all_cons (vl_str (by decide +kernel) (by decide +kernel)) (all_cons ⟨_, .lst ke2 hee2 (.cons (.str _) .nil), (mg_one (by decide +kernel) (by decide +kernel)).1⟩ (all_cons ⟨_, .tup ht3' (.cons (.str _) .nil), (mg_one (by decide +kernel) (by decide +kernel)).2⟩ all_nil)))))))
      obtain ⟨z, ez1, vz⟩ := pick vall (i := x2) lx2
      refine ⟨by show 8 ≤ sizeLine; decide, fun t nt ht => ?_⟩
      have st := same_new (o := .lst [V.str "", V.str "Plain", V.non, V.ref e, V.bl true, V.str "shy ", V.ref e2, V.ref t3]) ht
      have r5 := r4.same st
      have vz := vz.same st
      have htt : upd H4' t (.lst [V.str "", V.str "Plain", V.non, V.ref e, V.bl true, V.str "shy ", V.ref e2, V.ref t3]) t = some (.lst [V.str "", V.str "Plain", V.non, V.ref e, V.bl true, V.str "shy ", V.ref e2, V.ref t3]) := upd_same
      generalize upd H4' t (.lst [V.str "", V.str "Plain", V.non, V.ref e, V.bl true, V.str "shy ", V.ref e2, V.ref t3]) = H5' at *
      have hz := (r5.top pr (by omega)).trans ((r.top pr (by omega)).symm.trans hz)
      have hDs' := r5.old _ _ kD hd
      have hS' := r5.old _ _ kS hSs
      have hp' := r5.old _ _ hp2.1 hp2.2
      obtain ⟨u, v, hq, hu, hv⟩ := r5.box kq
      refine ⟨_, rfl, D, _, 2, _, rfl, rfl, SqL.of hDs', atI_nat (j := 2) rfl, t, _, _, _, rfl, rfl, SqL.of htt, ez1, ?_⟩
      refine ⟨_, rfl, _, rfl, S, _, 2, _, rfl, rfl, SqL.of hS', atI_nat (j := 2) rfl, p2, _, 1, _, rfl, rfl, SqL.of hp', atI_nat (j := 1) rfl, pr, _, _, _, rfl, rfl, SqL.of hz, atI_nat ez, q, _, 1, 1, rfl, rfl, hq, rfl, ?_⟩
      exact ⟨⟨_, _, _, rfl⟩, _, r5.put kq hu vz⟩
    clear r κ' v6 v7 v8 H1'
    rintro σ H1' ⟨⟨v6, v7, v8, rfl⟩, κ', r⟩
    refine ⟨fun σ H' => (∃ v6 v7 v8, σ = [some (.ref b), some (.ref L), some (.ref W), none, some (.ref S), some (.ref D), v6, v7, v8]) ∧ Grid1 K b H' L ∧ Bag H' b (n + 40), ?_, ?_⟩
    · have hW' := r.old _ _ kW hWs
      refine ⟨_, rfl, W, _, 3, _, rfl, rfl, SqL.of hW', atI_nat (j := 3) rfl, c3, rfl, ite2 (fun _ => ?_) (fun _ => ⟨⟨_, _, _, rfl⟩, r.grid kL (r.nb bag0 fr hbs), r.bag kb kc bagE⟩)⟩
      have hS' := r.old _ _ kS hSs
      have hp' := r.old _ _ hp3.1 hp3.2
      obtain ⟨xs, pr, zs, q, hL, ex, kp, hz, ez, kq⟩ := sp3.mv kL (fun _ _ => rfl) r.top
      obtain ⟨u, v, hq, hu, hv⟩ := r.box kq
      refine ⟨_, rfl, _, rfl, S, _, 3, _, rfl, rfl, SqL.of hS', atI_nat (j := 3) rfl, p3, _, 0, _, rfl, rfl, SqL.of hp', atI_nat (j := 0) rfl, L, _, _, _, rfl, rfl, SqL.of hL, atI_nat ex, ?_⟩
      refine ⟨_, rfl, _, rfl, S, _, 3, _, rfl, rfl, SqL.of hS', atI_nat (j := 3) rfl, p3, _, 1, _, rfl, rfl, SqL.of hp', atI_nat (j := 1) rfl, pr, _, _, _, rfl, rfl, SqL.of hz, atI_nat ez, ?_⟩
      have nb := r.nb bag0 fr hbs
      have kp' : κ' pr = 3 := by rw [r.keep pr (by omega)]; exact kp
      have vn : ∀ {x : V} {A : Hp}, Same H1' A → VL K κ' H1' x → ∃ d, En K (fun a => Nz b a ∧ a ≠ pr) A x d ∧ Mg 1 20 d := fun {x A} s ⟨d, e, m⟩ => ⟨d, (En.nz e fun a k => ⟨⟨(nb a (by omega)).2 (by omega), (nb a (by omega)).1⟩, fun e => by rw [e, kp'] at k; cases k⟩).ks s, m⟩
      have bH : H1' b ≠ none := by
        obtain ⟨_, _, _, _, _, _, hb, _⟩ := r.bag kb kc bagE
        rw [hb]; simp
      have fre : ∀ {A : Hp} {e : Addr}, Same H1' A → A e = none → e ≠ sysModules → Nz b e ∧ e ≠ pr := fun {A e} s h n => by
        have h0 := s.free h
        refine ⟨⟨n, fun c => bH (by rw [← c]; exact h0)⟩, fun c => ?_⟩
        rw [c, hz] at h0
        cases h0
      refine ⟨Nat.zero_le _, fun e1 n1 he1 => ?_⟩
      have a1 := same_new (o := .lst []) he1
      have N1 := fre (Same.refl _) he1 n1
      have h1 : upd H1' e1 (.lst []) e1 = some (.lst []) := upd_same
      generalize upd H1' e1 (.lst []) = A1 at *
      refine ⟨_, rfl, q, _, 0, _, rfl, rfl, SqL.of (a1 _ _ hq), atI_nat (j := 0) rfl, by show 1 ≤ sizeLine; decide, fun e2 n2 he2 => ?_⟩
      have N2 := fre a1 he2 n2
      have a2 := same_new (o := .lst [u]) he2
      have h2 : upd A1 e2 (.lst [u]) e2 = some (.lst [u]) := upd_same
      have h1 := a2 _ _ h1
      generalize upd A1 e2 (.lst [u]) = A2 at *
      have a12 := a1.trans a2
      refine ⟨_, rfl, q, _, 0, _, rfl, rfl, SqL.of (a12 _ _ hq), atI_nat (j := 0) rfl, ?_⟩
      refine ⟨_, rfl, q, _, 1, _, rfl, rfl, SqL.of (a12 _ _ hq), atI_nat (j := 1) rfl, by show 3 ≤ sizeLine; decide, fun e3 n3 he3 => ?_⟩
      have N3 := fre a12 he3 n3
      have a3 := same_new (o := .lst [u, v, .int 1]) he3
      have h3 : upd A2 e3 (.lst [u, v, .int 1]) e3 = some (.lst [u, v, .int 1]) := upd_same
      have h1 := a3 _ _ h1
      have h2 := a3 _ _ h2
      generalize upd A2 e3 (.lst [u, v, .int 1]) = A3 at *
      have a13 := a12.trans a3
      refine ⟨_, rfl, q, _, 0, _, rfl, rfl, SqL.of (a13 _ _ hq), atI_nat (j := 0) rfl, ?_⟩
      obtain ⟨du, eu, mu⟩ := vn a13 hu
      obtain ⟨dv, ev, mv⟩ := vn a13 hv
      have vall : ∀ z ∈ [V.non, V.str "12", V.ref e1, V.ref e2, V.ref e3, V.int 24, V.bl true, u], ∃ d, En K (fun a => Nz b a ∧ a ≠ pr) A3 z d ∧ Mg 2 70 d :=
        all_cons ⟨_, .non, mg_non⟩ (all_cons ⟨_, .str _, mg_str (by decide +kernel) (by decide +kernel)⟩ (all_cons ⟨_, .lst N1 h1 .nil, (mg_lst (n := 1) (w := 20) (k := 0) (fun _ m => absurd m List.not_mem_nil) (Nat.le_refl _)).mono (by omega) (by omega)⟩
          (all_cons ⟨_, .lst N2 h2 (.cons eu .nil), (mg_lst (n := 1) (w := 20) (k := 1) (fun d m => by rw [List.mem_singleton.mp m]; exact mu) (Nat.le_refl _)).mono (by omega) (by omega)⟩
          (all_cons ⟨_, .lst N3 h3 (.cons eu (.cons ev (.cons (.int 1) .nil))), (mg_lst (n := 1) (w := 20) (k := 3) (fun d m => by
            rcases List.mem_cons.mp m with rfl | m
            · exact mu
            · rcases List.mem_cons.mp m with rfl | m
              · exact mv
              · rw [List.mem_singleton.mp m]
                exact mg_int (by decide)) (Nat.le_refl _)).mono (by omega) (by omega)⟩
          (all_cons ⟨_, .int _, mg_int (by decide)⟩ (all_cons ⟨_, .bl _, mg_bl _⟩ (all_cons ⟨_, eu, mu.mono (by omega) (by omega)⟩ all_nil)))))))
      obtain ⟨z, ez1, dz, vz, mz⟩ := pick vall (i := x3) lx3
      refine ⟨by show 8 ≤ sizeLine; decide, fun t nt ht => ?_⟩
      have st := same_new (o := .lst [V.non, V.str "12", V.ref e1, V.ref e2, V.ref e3, V.int 24, V.bl true, u]) ht
      have htt : upd A3 t (.lst [V.non, V.str "12", V.ref e1, V.ref e2, V.ref e3, V.int 24, V.bl true, u]) t = some (.lst [V.non, V.str "12", V.ref e1, V.ref e2, V.ref e3, V.int 24, V.bl true, u]) := upd_same
      have vz := vz.ks st
      generalize upd A3 t (.lst [V.non, V.str "12", V.ref e1, V.ref e2, V.ref e3, V.int 24, V.bl true, u]) = A4 at *
      have a14 := a13.trans st
      have r5 := r.same a14
      have hDs' := r5.old _ _ kD hd
      have hS' := r5.old _ _ kS hSs
      have hp' := r5.old _ _ hp3.1 hp3.2
      refine ⟨_, rfl, D, _, 3, _, rfl, rfl, SqL.of hDs', atI_nat (j := 3) rfl, t, _, _, _, rfl, rfl, SqL.of htt, ez1, ?_⟩
      have hj : ixN zs.length ((j3 : Nat) : Int) = some j3 := by
        have := (List.getElem?_eq_some_iff.mp ez).1
        unfold ixN
        rw [if_pos (by omega), if_pos (by omega), Int.toNat_natCast]
      refine ⟨_, rfl, _, rfl, S, _, 3, _, rfl, rfl, SqL.of hS', atI_nat (j := 3) rfl, p3, _, 1, _, rfl, rfl, SqL.of hp', atI_nat (j := 1) rfl, pr, _, _, _, rfl, rfl, a14 _ _ hz, hj, ?_⟩
      refine ⟨⟨_, _, _, rfl⟩, r5.gridPut kL kp nb (a14 _ _ hz) ⟨dz, vz, mz⟩, ?_⟩
      obtain ⟨c, x, k, m, z, ns, hb, hc, rr⟩ := bagE
      have kc0 := kc _ _ _ _ _ hb
      exact ⟨c, x, k, m, z, ns, by rw [upd_ne (fun e => by rw [e, kp] at kb; cases kb)]; exact r5.old _ _ kb hb, by rw [upd_ne (fun e => by rw [e, kp] at kc0; cases kc0)]; exact r5.old _ _ kc0 hc, rr⟩
    · rintro σ H1' ⟨⟨v6, v7, v8, rfl⟩, gd, bg⟩
      exact ⟨_, rfl, kk _ gd bg⟩
end
end K06

namespace K06
open PySem L2 Wm TL Dv De
section
variable {P : Program} {w : World} {K : PySem.W.Frag} {mg : Str → Option Value} {base : Heap}
theorem Grid1.mv {H H' : Hp} {b L : Addr} (h : Grid1 K b H L) (kt : Kt K H H') (f : ∀ a o, a ≠ b → H a = some o → H' a = some o) : Grid1 K b H' L := let ⟨xs, e, h1, h2, h3, h4⟩ := h; ⟨xs, e, f L _ e h1, h2, h3, fun x m => (h4 x m).mv kt f⟩
theorem Grid1.but {H H' : Hp} {b L : Addr} {n : Nat} (bag : Bag H b n) (e : But b H H') (h : Grid1 K b H L) : Grid1 K b H' L := h.mv (Lm.kt_but bag e) fun a o q h => e.keep a o q h
theorem RowL.but {H H' : Hp} {b : Addr} {n m : Nat} {x : V} (bag : Bag H b n) (e : But b H H') (h : RowL K b H m x) : RowL K b H' m x := h.mv (Lm.kt_but bag e) fun a o q h => e.keep a o q h
theorem RowL.same {H H' : Hp} {b : Addr} {m : Nat} {x : V} (s : Same H H') (h : RowL K b H m x) : RowL K b H' m x := h.mv (Kt.same s) fun a o _ h => s a o h
theorem RowL.le {H : Hp} {b : Addr} {m k : Nat} {x : V} (h : RowL K b H m x) (l : m ≤ k) : RowL K b H k x := let ⟨p, zs, e, pb, hp, le, q⟩ := h; ⟨p, zs, e, pb, hp, Nat.le_trans le l, q⟩
theorem cut_mem {xs : List V} {lo hi : Option Int} {x : V} (h : x ∈ cutV xs lo hi) : x ∈ xs := by
  unfold cutV at h
  exact List.mem_of_mem_drop (List.mem_of_mem_take h)
theorem cut_le (xs : List V) (lo hi : Option Int) : (cutV xs lo hi).length ≤ xs.length := by
  unfold cutV
  rw [List.length_take, List.length_drop]
  omega
theorem cut_len (xs : List V) (m : Nat) : (cutV xs none (some (m : Int))).length ≤ m := by
  unfold cutV
  rw [HT.sIx_nat, HT.sIx_none, List.length_take]
  omega
theorem ok_loops_spoilt (T : Txt K mg) : FnOk P w K mg base CX0 2 T.a_loops_spoilt T.d_loops_spoilt ["_law_bag_here", "_law_loops_here"] (sp_loops_spoilt K) := by
  refine T.F_loops_spoilt.ok sc_loops_spoilt (fun vs H Q E h => ?_) (fun cdv A outer s H vs Q E hr h => ?_)
  · obtain ⟨b, n, L, rfl, _⟩ := h
    rfl
  · obtain ⟨b, n, L, rfl, bag, hn, gd, kk⟩ := h
    refine ⟨_, (pss_cons (ps_if (pt_cmpR op_ne (pe_call (ok_draw T) (hr.mono (by decide)) (by rfl) T.g_draw T.F_draw.kp T.b_draw .nil pass0 (pa_cons (pv 0) (pa_cons pe_int pa_nil))) pe_int (nomark _))
        (pss_one (ps_ret (pv 1)))
        pss_nil)
      (pss_cons (ps_set (i := 2) sc_loops_spoilt.nd rfl (Or.inl rfl) (pe_call (ok_draw T) (hr.mono (by decide)) (by rfl) T.g_draw T.F_draw.kp T.b_draw .nil pass0 (pa_cons (pv 0) (pa_cons pe_int pa_nil))))
      (pss_cons (ps_set (i := 3) sc_loops_spoilt.nd rfl (Or.inl rfl) (pe_call (ok_draw T) (hr.mono (by decide)) (by rfl) T.g_draw T.F_draw.kp T.b_draw .nil pass0 (pa_cons (pv 0) (pa_cons (pe_callB call_len_seq (by rfl) T.z_len PySem.boot_len (pa_cons (pv 1) pa_nil)) pa_nil))))
      (pss_cons (ps_if (pt_cmpR op_eq (pv 2) pe_int (nomark _))
        (pss_one (ps_ret (Dz.pe_lstZ pa_nil)))
        pss_nil)
      (pss_cons (ps_if (pt_cmpR op_eq (pv 2) pe_int (nomark _))
        (pss_one (ps_ret (pe_slice sl_list (pe_op op_rep (pv 1) pe_int) po_none (po_some (pe_op op_add pe_int (pe_call (ok_draw T) (hr.mono (by decide)) (by rfl) T.g_draw T.F_draw.kp T.b_draw .nil pass0 (pa_cons (pv 0) (pa_cons pe_int pa_nil))))))))
        pss_nil)
      (pss_cons (ps_if (pt_cmpR op_eq (pv 2) pe_int (nomark _))
        (pss_one (ps_ret (pe_op op_cat (pe_op op_cat (pe_slice sl_list (pv 1) po_none (po_some (pv 3))) (Dz.pe_lstZ (pa_cons (Dz.pe_lstZ pa_nil) pa_nil))) (pe_slice sl_list (pv 1) (po_some (pe_op op_add (pv 3) pe_int)) po_none))))
        pss_nil)
      (pss_cons (ps_if (pt_cmpR op_eq (pv 2) pe_int (nomark _))
        (pss_one (ps_ret (pe_op op_cat (pe_op op_cat (pe_slice sl_list (pv 1) po_none (po_some (pv 3))) (Dz.pe_lstZ (pa_cons (pe_slice sl_list (pe_op op_rep (pe_ix ix_list (pv 1) (pv 3) (fun _ _ => rfl)) pe_int) po_none (po_some pe_int)) pa_nil))) (pe_slice sl_list (pv 1) (po_some (pe_op op_add (pv 3) pe_int)) po_none))))
        pss_nil)
      (pss_cons (ps_if (pt_cmpR op_eq (pv 2) pe_int (nomark _))
        (pss_one (ps_ret (pe_op op_cat (pe_op op_cat (pe_slice sl_list (pv 1) po_none (po_some (pv 3))) (pe_slice sl_list (Dz.pe_lstZ (pa_cons pe_non (pa_cons pe_str pa_nil))) po_none (po_some (pe_op op_add pe_int (pe_call (ok_draw T) (hr.mono (by decide)) (by rfl) T.g_draw T.F_draw.kp T.b_draw .nil pass0 (pa_cons (pv 0) (pa_cons pe_int pa_nil))))))) (pe_slice sl_list (pv 1) (po_some (pe_op op_add (pv 3) pe_int)) po_none))))
        pss_nil)
      (pss_one (ps_ret (pe_ix ix_list (Dz.pe_lstZ (pa_cons pe_non (pa_cons pe_str (pa_cons pe_int pa_nil)))) (pe_op op_sub (pv 2) pe_int) (fun _ _ => rfl)))))))))))), ?_⟩
    refine ⟨_, rfl, b, _, 6, rfl, by decide, by decide, bag, by omega, fun H1 d1 g0 g1 bag1 but1 => ?_⟩
    have gd1 := gd.but bag but1
    refine ⟨rfl, _, rfl, ite2 (fun _ => ?_) (fun _ => ?_)⟩
    · obtain ⟨xs, Lb, hL, l1, l3, hx⟩ := gd1
      exact ⟨_, rfl, kk _ _ (.inl ⟨L, xs, rfl, Lb, hL, by omega, fun x m => .inl ((hx x m).le (by omega))⟩) (bag1.mono (by omega))⟩
    refine ⟨_, rfl, b, _, 8, rfl, by decide, by decide, bag1, by omega, fun H2 way w0 w1 bag2 but2 => ?_⟩
    obtain ⟨xs, Lb, hL, l1, l3, hx⟩ := gd1.but bag1 but2
    refine ⟨_, rfl, _, rfl, L, _, rfl, .inl (SqL.of hL), b, _, _, rfl, by omega, by omega, bag2, by omega, fun H3 at_ a0 a1 bag3 but3 => ?_⟩
    have hL := but3.keep _ _ Lb hL
    have hx : ∀ x ∈ xs, RowL K b H3 10 x := fun x m => (hx x m).but bag2 but3
    obtain ⟨at_, rfl⟩ : ∃ i : Nat, at_ = (i : Nat) := ⟨at_.toNat, by omega⟩
    have ha : at_ < xs.length := by omega
    have bag3 : Bag H3 b (n + 3) := bag3
    refine ⟨_, rfl, rfl, _, rfl, ite2 (fun _ => ?_) (fun n0 => ?_)⟩
    · refine ⟨Nat.zero_le _, fun p np hp => ?_⟩
      exact kk _ _ (.inl ⟨p, [], rfl, Lm.bag_off bag3 hp, upd_same, by simp, fun x m => absurd m List.not_mem_nil⟩) ((bag3.keep (same_new hp)).mono (by omega))
    refine ⟨_, rfl, rfl, _, rfl, ite2 (fun _ => ?_) (fun n1 => ?_)⟩
    · refine ⟨_, rfl, L, _, _, rfl, rfl, hL, by decide, by decide, small_len (by show _ * 5 ≤ 100000; omega), fun p hp => ?_⟩
      have s1 := same_new (o := .lst (List.replicate (5 : Int).toNat xs).flatten) hp
      have h1 : upd H3 p (.lst (List.replicate (5 : Int).toNat xs).flatten) p = some (.lst (List.replicate (5 : Int).toNat xs).flatten) := upd_same
      have pb := Lm.bag_off bag3 hp
      generalize upd H3 p (.lst (List.replicate (5 : Int).toNat xs).flatten) = H4 at *
      refine ⟨_, rfl, b, _, 2, rfl, by decide, by decide, bag3.keep s1, by omega, fun H5 dd e0 e1 bag5 but5 => ?_⟩
      obtain ⟨dd, rfl⟩ : ∃ i : Nat, dd = (i : Nat) := ⟨dd.toNat, by omega⟩
      refine ⟨_, _, rfl, rfl, _, rfl, p, _, rfl, SqL.of (but5.keep _ _ pb h1), fun q hq => ?_⟩
      have s2 := same_new (o := .lst (cutV (List.replicate (5 : Int).toNat xs).flatten none (some (4 + (dd : Int))))) hq
      refine kk _ _ (.inl ⟨q, _, rfl, Lm.bag_off bag5 hq, upd_same, ?_, fun x m => .inl ?_⟩) ((bag5.keep s2).mono (by omega))
      · have := cut_len (List.replicate (5 : Int).toNat xs).flatten (4 + dd)
        rw [show ((4 + dd : Nat) : Int) = 4 + (dd : Int) by omega] at this
        omega
      · have m := cut_mem m
        obtain ⟨ys, my, mx⟩ := List.mem_flatten.mp m
        rw [(List.mem_replicate.mp my).2] at mx
        exact ((((hx x mx).same s1).but (bag3.keep s1) but5).same s2).le (by omega)
    refine ⟨_, rfl, rfl, _, rfl, ite2 (fun _ => ?_) (fun n2 => ?_)⟩
    · refine ⟨_, rfl, _, rfl, _, rfl, L, _, rfl, SqL.of hL, fun p1 hp1 => ?_⟩
      have s1 := same_new (o := .lst (cutV xs none (some ((at_ : Nat) : Int)))) hp1
      have h1 : upd H3 p1 (.lst (cutV xs none (some ((at_ : Nat) : Int)))) p1 = some (.lst (cutV xs none (some ((at_ : Nat) : Int)))) := upd_same
      generalize upd H3 p1 (.lst (cutV xs none (some ((at_ : Nat) : Int)))) = A1 at *
      refine ⟨Nat.zero_le _, fun e ne he => ?_⟩
      have s2 := same_new (o := .lst []) he
      have h2 : upd A1 e (.lst []) e = some (.lst []) := upd_same
      have eb := Lm.bag_off (bag3.keep s1) he
      have h1 := s2 _ _ h1
      generalize upd A1 e (.lst []) = A2 at *
      refine ⟨by show 1 ≤ sizeLine; decide, fun e2 ne2 he2 => ?_⟩
      have s3 := same_new (o := .lst [V.ref e]) he2
      have h3 : upd A2 e2 (.lst [V.ref e]) e2 = some (.lst [V.ref e]) := upd_same
      have h1 := s3 _ _ h1
      have h2 := s3 _ _ h2
      generalize upd A2 e2 (.lst [V.ref e]) = A3 at *
      have l1' := cut_le xs none (some ((at_ : Nat) : Int))
      have l2' := cut_le xs (some (((at_ : Nat) : Int) + 1)) none
      refine ⟨p1, e2, _, _, rfl, rfl, h1, h3, small_len (by rw [List.length_singleton]; omega), fun p3 hp3 => ?_⟩
      have s4 := same_new (o := .lst (cutV xs none (some ((at_ : Nat) : Int)) ++ [V.ref e])) hp3
      have h4 : upd A3 p3 (.lst (cutV xs none (some ((at_ : Nat) : Int)) ++ [V.ref e])) p3 = some (.lst (cutV xs none (some ((at_ : Nat) : Int)) ++ [V.ref e])) := upd_same
      have h2 := s4 _ _ h2
      generalize upd A3 p3 (.lst (cutV xs none (some ((at_ : Nat) : Int)) ++ [V.ref e])) = A4 at *
      have s14 := ((s1.trans s2).trans s3).trans s4
      refine ⟨_, rfl, _, rfl, _, _, rfl, rfl, _, rfl, L, _, rfl, SqL.of (s14 _ _ hL), fun p5 hp5 => ?_⟩
      have s5 := same_new (o := .lst (cutV xs (some (((at_ : Nat) : Int) + 1)) none)) hp5
      have h5 : upd A4 p5 (.lst (cutV xs (some (((at_ : Nat) : Int) + 1)) none)) p5 = some (.lst (cutV xs (some (((at_ : Nat) : Int) + 1)) none)) := upd_same
      have h4 := s5 _ _ h4
      have h2 := s5 _ _ h2
      generalize upd A4 p5 (.lst (cutV xs (some (((at_ : Nat) : Int) + 1)) none)) = A5 at *
      refine ⟨p3, p5, _, _, rfl, rfl, h4, h5, small_len (by rw [List.length_append, List.length_singleton]; omega), fun p6 hp6 => ?_⟩
      have s6 := same_new (o := .lst (cutV xs none (some ((at_ : Nat) : Int)) ++ [V.ref e] ++ cutV xs (some (((at_ : Nat) : Int) + 1)) none)) hp6
      have s15 := s14.trans s5
      refine kk _ _ (.inl ⟨p6, _, rfl, Lm.bag_off (bag3.keep s15) hp6, upd_same, by rw [List.length_append, List.length_append, List.length_singleton]; omega, fun x m => .inl ?_⟩) ((bag3.keep (s15.trans s6)).mono (by omega))
      rcases List.mem_append.mp m with m | m
      · rcases List.mem_append.mp m with m | m
        · exact ((hx x (cut_mem m)).same (s15.trans s6)).le (by omega)
        · rw [List.mem_singleton.mp m]
          exact ⟨e, [], rfl, eb, s6 _ _ h2, by simp, fun z m => absurd m List.not_mem_nil⟩
      · exact ((hx x (cut_mem m)).same (s15.trans s6)).le (by omega)
    refine ⟨_, rfl, rfl, _, rfl, ite2 (fun _ => ?_) (fun n3 => ?_)⟩
    · obtain ⟨pr, zs, epr, prb, hz, lz, hzs⟩ := hx _ (List.getElem_mem ha)
      have exi : xs[at_]? = some (.ref pr) := by rw [List.getElem?_eq_getElem ha, epr]
      refine ⟨_, rfl, _, rfl, _, rfl, L, _, rfl, SqL.of hL, fun p1 hp1 => ?_⟩
      have s1 := same_new (o := .lst (cutV xs none (some ((at_ : Nat) : Int)))) hp1
      have h1 : upd H3 p1 (.lst (cutV xs none (some ((at_ : Nat) : Int)))) p1 = some (.lst (cutV xs none (some ((at_ : Nat) : Int)))) := upd_same
      generalize upd H3 p1 (.lst (cutV xs none (some ((at_ : Nat) : Int)))) = A1 at *
      refine ⟨_, rfl, _, rfl, L, _, _, _, rfl, rfl, SqL.of (s1 _ _ hL), atI_nat exi, pr, _, _, rfl, rfl, s1 _ _ hz, by decide, by decide, small_len (by show _ * 11 ≤ 100000; omega), fun p2 hp2 => ?_⟩
      have s2 := same_new (o := .lst (List.replicate (11 : Int).toNat zs).flatten) hp2
      have h2 : upd A1 p2 (.lst (List.replicate (11 : Int).toNat zs).flatten) p2 = some (.lst (List.replicate (11 : Int).toNat zs).flatten) := upd_same
      have h1 := s2 _ _ h1
      generalize upd A1 p2 (.lst (List.replicate (11 : Int).toNat zs).flatten) = A2 at *
      have s12 := s1.trans s2
      refine ⟨_, rfl, p2, _, rfl, SqL.of h2, fun e he => ?_⟩
      have s2b := same_new (o := .lst (cutV (List.replicate (11 : Int).toNat zs).flatten none (some 11))) he
      have h2 : upd A2 e (.lst (cutV (List.replicate (11 : Int).toNat zs).flatten none (some 11))) e = some (.lst (cutV (List.replicate (11 : Int).toNat zs).flatten none (some 11))) := upd_same
      have eb := Lm.bag_off (bag3.keep s12) he
      have h1 := s2b _ _ h1
      generalize upd A2 e (.lst (cutV (List.replicate (11 : Int).toNat zs).flatten none (some 11))) = A2b at *
      have s12 := s12.trans s2b
      refine ⟨by show 1 ≤ sizeLine; decide, fun e2 ne2 he2 => ?_⟩
      have s3 := same_new (o := .lst [V.ref e]) he2
      have h3 : upd A2b e2 (.lst [V.ref e]) e2 = some (.lst [V.ref e]) := upd_same
      have h1 := s3 _ _ h1
      have h2 := s3 _ _ h2
      generalize upd A2b e2 (.lst [V.ref e]) = A3 at *
      have l1' := cut_le xs none (some ((at_ : Nat) : Int))
      have l2' := cut_le xs (some (((at_ : Nat) : Int) + 1)) none
      refine ⟨p1, e2, _, _, rfl, rfl, h1, h3, small_len (by rw [List.length_singleton]; omega), fun p3 hp3 => ?_⟩
      have s4 := same_new (o := .lst (cutV xs none (some ((at_ : Nat) : Int)) ++ [V.ref e])) hp3
      have h4 : upd A3 p3 (.lst (cutV xs none (some ((at_ : Nat) : Int)) ++ [V.ref e])) p3 = some (.lst (cutV xs none (some ((at_ : Nat) : Int)) ++ [V.ref e])) := upd_same
      have h2 := s4 _ _ h2
      generalize upd A3 p3 (.lst (cutV xs none (some ((at_ : Nat) : Int)) ++ [V.ref e])) = A4 at *
      have s14 := (s12.trans s3).trans s4
      refine ⟨_, rfl, _, rfl, _, _, rfl, rfl, _, rfl, L, _, rfl, SqL.of (s14 _ _ hL), fun p5 hp5 => ?_⟩
      have s5 := same_new (o := .lst (cutV xs (some (((at_ : Nat) : Int) + 1)) none)) hp5
      have h5 : upd A4 p5 (.lst (cutV xs (some (((at_ : Nat) : Int) + 1)) none)) p5 = some (.lst (cutV xs (some (((at_ : Nat) : Int) + 1)) none)) := upd_same
      have h4 := s5 _ _ h4
      have h2 := s5 _ _ h2
      generalize upd A4 p5 (.lst (cutV xs (some (((at_ : Nat) : Int) + 1)) none)) = A5 at *
      refine ⟨p3, p5, _, _, rfl, rfl, h4, h5, small_len (by rw [List.length_append, List.length_singleton]; omega), fun p6 hp6 => ?_⟩
      have s6 := same_new (o := .lst (cutV xs none (some ((at_ : Nat) : Int)) ++ [V.ref e] ++ cutV xs (some (((at_ : Nat) : Int) + 1)) none)) hp6
      have s15 := s14.trans s5
      have s16 := s15.trans s6
      refine kk _ _ (.inl ⟨p6, _, rfl, Lm.bag_off (bag3.keep s15) hp6, upd_same, by rw [List.length_append, List.length_append, List.length_singleton]; omega, fun x m => .inl ?_⟩) ((bag3.keep s16).mono (by omega))
      rcases List.mem_append.mp m with m | m
      · rcases List.mem_append.mp m with m | m
        · exact ((hx x (cut_mem m)).same s16).le (by omega)
        · rw [List.mem_singleton.mp m]
          refine ⟨e, _, rfl, eb, s6 _ _ h2, cut_len _ 11, fun z m => ?_⟩
          have m := cut_mem m
          obtain ⟨ys, my, mx⟩ := List.mem_flatten.mp m
          rw [(List.mem_replicate.mp my).2] at mx
          exact (hzs z mx).mv (Kt.same s16) fun a o _ h => s16 a o h
      · exact ((hx x (cut_mem m)).same s16).le (by omega)
    refine ⟨_, rfl, rfl, _, rfl, ite2 (fun _ => ?_) (fun n4 => ?_)⟩
    · refine ⟨_, rfl, _, rfl, _, rfl, L, _, rfl, SqL.of hL, fun p1 hp1 => ?_⟩
      have s1 := same_new (o := .lst (cutV xs none (some ((at_ : Nat) : Int)))) hp1
      have h1 : upd H3 p1 (.lst (cutV xs none (some ((at_ : Nat) : Int)))) p1 = some (.lst (cutV xs none (some ((at_ : Nat) : Int)))) := upd_same
      have pb1 := Lm.bag_off bag3 hp1
      generalize upd H3 p1 (.lst (cutV xs none (some ((at_ : Nat) : Int)))) = A1 at *
      refine ⟨by show 2 ≤ sizeLine; decide, fun e ne he => ?_⟩
      have s2 := same_new (o := .lst [V.non, V.str "24"]) he
      have h2 : upd A1 e (.lst [V.non, V.str "24"]) e = some (.lst [V.non, V.str "24"]) := upd_same
      have eb := Lm.bag_off (bag3.keep s1) he
      have h1 := s2 _ _ h1
      generalize upd A1 e (.lst [V.non, V.str "24"]) = A2 at *
      have s12 := s1.trans s2
      refine ⟨_, rfl, b, _, 2, rfl, by decide, by decide, bag3.keep s12, by omega, fun H5 dd e0 e1 bag5 but5 => ?_⟩
      obtain ⟨dd, rfl⟩ : ∃ i : Nat, dd = (i : Nat) := ⟨dd.toNat, by omega⟩
      have h1 := but5.keep _ _ pb1 h1
      have h2 := but5.keep _ _ eb h2
      have hL := but5.keep _ _ Lb (s12 _ _ hL)
      have hx : ∀ x ∈ xs, RowL K b H5 10 x := fun x m => ((hx x m).same s12).but (bag3.keep s12) but5
      refine ⟨_, _, rfl, rfl, _, rfl, e, _, rfl, SqL.of h2, fun e2 he2 => ?_⟩
      have s3 := same_new (o := .lst (cutV [V.non, V.str "24"] none (some (1 + (dd : Int))))) he2
      have h3 : upd H5 e2 (.lst (cutV [V.non, V.str "24"] none (some (1 + (dd : Int))))) e2 = some (.lst (cutV [V.non, V.str "24"] none (some (1 + (dd : Int))))) := upd_same
      have h1 := s3 _ _ h1
      have l1' := cut_le xs none (some ((at_ : Nat) : Int))
      have l2' := cut_le xs (some (((at_ : Nat) : Int) + 1)) none
      have l3' := cut_le [V.non, V.str "24"] none (some (1 + (dd : Int)))
      have l3' : (cutV [V.non, V.str "24"] none (some (1 + (dd : Int)))).length ≤ 2 := l3'
      have c3 : ∀ x ∈ cutV [V.non, V.str "24"] none (some (1 + (dd : Int))), x = .non ∨ x = .str "24" := fun x m => by
        have m := cut_mem m
        rcases List.mem_cons.mp m with rfl | m
        · exact .inl rfl
        · exact .inr (List.mem_singleton.mp m)
      generalize cutV [V.non, V.str "24"] none (some (1 + (dd : Int))) = ms at *
      generalize upd H5 e2 (.lst ms) = A3 at *
      refine ⟨p1, e2, _, _, rfl, rfl, h1, h3, small_len (by omega), fun p3 hp3 => ?_⟩
      have s4 := same_new (o := .lst (cutV xs none (some ((at_ : Nat) : Int)) ++ ms)) hp3
      have h4 : upd A3 p3 (.lst (cutV xs none (some ((at_ : Nat) : Int)) ++ ms)) p3 = some (.lst (cutV xs none (some ((at_ : Nat) : Int)) ++ ms)) := upd_same
      generalize upd A3 p3 (.lst (cutV xs none (some ((at_ : Nat) : Int)) ++ ms)) = A4 at *
      have s14 := s3.trans s4
      refine ⟨_, rfl, _, rfl, _, _, rfl, rfl, _, rfl, L, _, rfl, SqL.of (s14 _ _ hL), fun p5 hp5 => ?_⟩
      have s5 := same_new (o := .lst (cutV xs (some (((at_ : Nat) : Int) + 1)) none)) hp5
      have h5 : upd A4 p5 (.lst (cutV xs (some (((at_ : Nat) : Int) + 1)) none)) p5 = some (.lst (cutV xs (some (((at_ : Nat) : Int) + 1)) none)) := upd_same
      have h4 := s5 _ _ h4
      generalize upd A4 p5 (.lst (cutV xs (some (((at_ : Nat) : Int) + 1)) none)) = A5 at *
      refine ⟨p3, p5, _, _, rfl, rfl, h4, h5, small_len (by rw [List.length_append]; omega), fun p6 hp6 => ?_⟩
      have s6 := same_new (o := .lst (cutV xs none (some ((at_ : Nat) : Int)) ++ ms ++ cutV xs (some (((at_ : Nat) : Int) + 1)) none)) hp6
      have s15 := s14.trans s5
      have s16 := s15.trans s6
      refine kk _ _ (.inl ⟨p6, _, rfl, Lm.bag_off (bag5.keep s15) hp6, upd_same, by rw [List.length_append, List.length_append]; omega, fun x m => ?_⟩) ((bag5.keep s16).mono (by omega))
      rcases List.mem_append.mp m with m | m
      · rcases List.mem_append.mp m with m | m
        · exact .inl (((hx x (cut_mem m)).same s16).le (by omega))
        · exact .inr (c3 x m)
      · exact .inl (((hx x (cut_mem m)).same s16).le (by omega))
    refine ⟨by show 3 ≤ sizeLine; decide, fun e ne he => ?_⟩
    have s2 := same_new (o := .lst [V.non, V.str "24 plain", V.int 3]) he
    have h2 : upd H3 e (.lst [V.non, V.str "24 plain", V.int 3]) e = some (.lst [V.non, V.str "24 plain", V.int 3]) := upd_same
    generalize upd H3 e (.lst [V.non, V.str "24 plain", V.int 3]) = A2 at *
    have q : ∀ {k : Int}, ¬ decide (V.int way = V.int k) = true → way ≠ k := fun h z => h (decide_eq_true (congrArg V.int z))
    have q0 := q n0
    have q1 := q n1
    have q2 := q n2
    have q3 := q n3
    have q4 := q n4
    obtain ⟨j, ej, lj⟩ : ∃ j : Nat, way - 5 = (j : Nat) ∧ j < 3 := ⟨(way - 5).toNat, by omega, by omega⟩
    have vall : ∀ z ∈ [V.non, V.str "24 plain", V.int 3], GridV K b A2 z := all_cons (.inr (.inl rfl)) (all_cons (.inr (.inr (.inr rfl))) (all_cons (.inr (.inr (.inl rfl))) all_nil))
    obtain ⟨z, ez, vz⟩ := pick vall (i := j) lj
    refine ⟨_, rfl, _, _, rfl, rfl, e, _, _, _, rfl, rfl, SqL.of h2, (by rw [ej]; exact ez), ?_⟩
    exact kk _ _ vz ((bag3.keep s2).mono (by omega))
end
end K06

namespace K06
open PySem L2 Wm TL Dv De
section
variable {P : Program} {w : World} {K : PySem.W.Frag} {mg : Str → Option Value} {base : Heap}
theorem Ens.nz {N M : Addr → Prop} {vs : List V} {ds : List PyData} {H : Hp} (h : Ens K N H vs ds) (f : ∀ a, N a → M a) : Ens K M H vs ds := Ens.kk Kt.refl (fun a _ n e => ⟨f a n, e⟩) ds vs h
/-- a row formed, not the list at R -/
def RowE (K : PySem.W.Frag) (b R : Addr) (H : Hp) (r : V) : Prop := ∃ d, En K (fun a => Nz b a ∧ a ≠ R) H r d ∧ Mg 3 781 d
theorem RowE.mv {H H' : Hp} {b R : Addr} {r : V} (h : RowE K b R H r) (kt : Kt K H H') (f : ∀ a o, a ≠ b → a ≠ R → H a = some o → H' a = some o) : RowE K b R H' r := let ⟨d, e, m⟩ := h; ⟨d, En.kk kt (fun a o n h => ⟨n, f a o n.1.2 n.2 h⟩) d r e, m⟩
/-- a box formed -/
def BoxF (K : PySem.W.Frag) (N : Addr → Prop) (H1 H : Hp) (y : V) (d : PyData) : Prop := En K N H1 y d ∨ ∃ p zs ds, y = .ref p ∧ SqT K H p zs ∧ Ens K N H1 zs ds ∧ d = .tuple ds
theorem BoxF.k {N : Addr → Prop} {H1 H H' : Hp} {y : V} {d : PyData} (h : BoxF K N H1 H y d) (kt : Kt K H H') : BoxF K N H1 H' y d := h.imp id fun ⟨p, zs, ds, e, t, r⟩ => ⟨p, zs, ds, e, kt _ _ t, r⟩
theorem BoxF.en {N : Addr → Prop} {H1 H : Hp} {y : V} {d : PyData} (h : BoxF K N H1 H y d) (s : Same H1 H) : En K N H y d := by
  rcases h with h | ⟨p, zs, ds, rfl, t, e, rfl⟩
  · exact h.ks s
  · exact .tup t (e.ks s)
theorem mg_lt {n w : Nat} {ds : List PyData} (h : Mg n w (.list ds)) : Mg n w (.tuple ds) := ⟨by have := h.sh; simp only [PyData.showable] at this ⊢; exact this, by have := h.ls; simp only [PyData.leavesShort] at this ⊢; exact this, by have := h.dp; simp only [PyData.depth] at this ⊢; exact this, by have := h.bk; simp only [PyData.bulk] at this ⊢; exact this⟩
theorem ens_at {N : Addr → Prop} {H : Hp} {P : PyData → Prop} {ys : List V} (h : ∀ (i : Nat) y, ys[i]? = some y → ∃ d, En K N H y d ∧ P d) : ∃ ds, Ens K N H ys ds ∧ ds.length = ys.length ∧ ∀ d ∈ ds, P d := ens_of fun y m => by
  obtain ⟨j, hj⟩ := List.mem_iff_getElem?.mp m
  exact h j y hj
theorem ok_formed (T : Txt K mg) : FnOk P w K mg base CX0 2 T.a_formed T.d_formed ["_law_bag_here", "_law_loops_here"] (sp_formed K) := by
  refine T.F_formed.ok sc_formed (fun vs H Q E h => ?_) (fun cdv A outer s H vs Q E hr h => ?_)
  · obtain ⟨b, n, v, rfl, _⟩ := h
    rfl
  · obtain ⟨b, n, v, rfl, bag, hn, gv, kk⟩ := h
    refine ⟨_, (pss_cons (ps_if (pt_not (pt_val (pe_callB call_isi (by rfl) T.z_isinstance (by decide +kernel) (pa_cons (pv 1) (pa_cons (pe_bltn (v := V.ty "list") (by rfl) T.z_list (by decide +kernel) rfl) pa_nil)))))
        (pss_one (ps_ret (pv 1)))
        pss_nil)
      (pss_cons (ps_set (i := 2) sc_formed.nd rfl (Or.inr rfl) (pe_call (ok_draw T) (hr.mono (by decide)) (by rfl) T.g_draw T.F_draw.kp T.b_draw .nil pass0 (pa_cons (pv 0) (pa_cons pe_int pa_nil))))
      (pss_cons (ps_set (i := 3) sc_formed.nd rfl (Or.inl rfl) (Dz.pe_lstZ pa_nil))
      (pss_cons (ps_for PassesOwn.never rfl (pi_list (pv 1)) (pg_name (i := 4) sc_formed.nd rfl (Or.inl rfl))
        (pss_cons (ps_set (i := 5) sc_formed.nd rfl (Or.inl rfl) (pv 4))
        (C8.pss_cut (ps_if (pt_val (pe_callB call_isi (by rfl) T.z_isinstance (by decide +kernel) (pa_cons (pv 4) (pa_cons (pe_bltn (v := V.ty "list") (by rfl) T.z_list (by decide +kernel) rfl) pa_nil))))
          (pss_cons (Dz.ps_setLcZ (i := 5) (own := [("_law_box", 6)]) (g := gName 6) (tt := tYes) rfl rfl (sw_true rfl rfl rfl (by decide +kernel)) rfl sc_formed.nd (pi_list (pv 4)) (blkOk_by (own := [("_law_box", 6)]) (N := nm_formed) (sc := (defScope s_formed)) (by decide +kernel)) (fun _ _ _ _ _ => pg_name (i := 6) sc_formed.nd rfl (Or.inl rfl)) (fun _ _ _ _ _ => pts_nil) (fun _ _ _ _ _ => (pe_ifExp (PW.pt (pw_and (pt_cmpR op_eq (pv 2) pe_int (nomark _)) (pw_and1 (pt_val (pe_callB (show CallR _ _ (rIsi K) from call_isi) (by rfl) T.z_isinstance (by decide +kernel) (pa_cons (pv 6) (pa_cons (pe_bltn (v := V.ty "list") (by rfl) T.z_list (by decide +kernel) rfl) pa_nil))))))) (pe_callTy (show CallR _ _ (Kx.rTupOf K) from call_tuple_of) (by rfl) T.z_tuple (by decide +kernel) (pa_cons (pv 6) pa_nil)) (pv 6))))
          (pss_one (ps_if (pt_cmpR op_eq (pv 2) pe_int (nomark _))
            (pss_one (ps_set (i := 5) sc_formed.nd rfl (Or.inl rfl) (pe_callTy call_tuple_of (by rfl) T.z_tuple (by decide +kernel) (pa_cons (pv 5) pa_nil))))
            pss_nil)))
          pss_nil)
        (pss_one (ps_expr (pe_bm PySem.F.plainAttrs_list PySem.F.slot_list_append PySem.F.type_list_append mt_append (pv 3) (pa_cons (pv 5) pa_nil)))))))
      (pss_cons (ps_if (pt_cmpR op_eq (pe_call (ok_draw T) (hr.mono (by decide)) (by rfl) T.g_draw T.F_draw.kp T.b_draw .nil pass0 (pa_cons (pv 0) (pa_cons pe_int pa_nil))) pe_int (nomark _))
        (pss_one (ps_ret (pe_callTy call_tuple_of (by rfl) T.z_tuple (by decide +kernel) (pa_cons (pv 3) pa_nil))))
        pss_nil)
      (pss_one (ps_ret (pv 3)))))))), ?_⟩
    rcases gv with ⟨L, xs, rfl, Lb, hL, l8, hx⟩ | h | h | h
    case inr.inl =>
      subst h
      exact ⟨_, rfl, _, _, _, _, false, rfl, .ty "list", .base .non, kit_ty (show _ = some false by decide +kernel), _, rfl, iteT ⟨_, rfl, kk _ _ _ .non mg_non (bag.mono (by omega))⟩⟩
    case inr.inr.inl =>
      subst h
      exact ⟨_, rfl, _, _, _, _, false, rfl, .ty "list", .base (.int _), kit_ty (show _ = some false by decide +kernel), _, rfl, iteT ⟨_, rfl, kk _ _ _ (.int _) (mg_int (by decide)) (bag.mono (by omega))⟩⟩
    case inr.inr.inr =>
      subst h
      exact ⟨_, rfl, _, _, _, _, false, rfl, .ty "list", .base (.str _), kit_ty (show _ = some false by decide +kernel), _, rfl, iteT ⟨_, rfl, kk _ _ _ (.str _) (mg_str (by decide +kernel) (by decide +kernel)) (bag.mono (by omega))⟩⟩
    refine ⟨_, rfl, _, _, _, _, true, rfl, .ty "list", .base (.lst hL), kit_ty (show _ = some true by decide +kernel), _, rfl, iteF ?_⟩
    refine ⟨_, rfl, b, _, 2, rfl, by decide, by decide, bag, by omega, fun H1 form f0 f1 bag1 but1 => ?_⟩
    have hL := but1.keep _ _ Lb hL
    have hx : ∀ x ∈ xs, RowV K b H1 x := fun x m => (hx x m).mv (Lm.kt_but bag but1) fun a o q h => but1.keep a o q h
    refine ⟨Nat.zero_le _, fun R nR hR => ?_⟩
    have Rb := Lm.bag_off bag1 hR
    refine ⟨_, rfl, L, rfl, ⟨_, SqL.of (at_old hL hR)⟩, ?_⟩
    refine for_list (xs := xs) (fun i σ H' => ∃ (rs : List V) (v4 v5 : Option V), σ = [some (.ref b), some (.ref L), some (.int form), some (.ref R), v4, v5, none] ∧ rs.length = i ∧ H' R = some (.lst rs) ∧ (∀ r ∈ rs, RowE K b R H' r) ∧ Same H1 H')
      ⟨[], none, none, rfl, rfl, upd_same, fun _ m => absurd m List.not_mem_nil, same_new hR⟩ (fun i σ H5 _ hP => ?_) (fun i x σ H5 hx2 hP => ?_) (fun σ H5 hP => ?_)
    · obtain ⟨rs, v4, v5, rfl, e1, hRr, hr', s5⟩ := hP
      exact SqL.of (s5 _ _ hL)
    · obtain ⟨rs, v4, v5, rfl, e1, hRr, hr', s5⟩ := hP
      have hi : i < xs.length := (List.getElem?_eq_some_iff.mp hx2).1
      have hxx := hx x (List.mem_of_getElem? hx2)
      refine ⟨_, rfl, ?_⟩
      refine ⟨fun σ H' => ∃ r, σ = [some (.ref b), some (.ref L), some (.int form), some (.ref R), some x, some r, none] ∧ H' R = some (.lst rs) ∧ RowE K b R H' r ∧ (∀ r ∈ rs, RowE K b R H' r) ∧ Same H1 H', ?_, ?_⟩
      · rcases hxx with ⟨pr, zs, rfl, prb, hz, lz, hzs⟩ | rfl | rfl
        case inr.inl => exact ⟨_, rfl, _, _, _, _, false, rfl, .ty "list", .base .non, kit_ty (show _ = some false by decide +kernel), _, rfl, iteF ⟨_, rfl, hRr, ⟨_, .non, mg_non⟩, hr', s5⟩⟩
        case inr.inr => exact ⟨_, rfl, _, _, _, _, false, rfl, .ty "list", .base (.str _), kit_ty (show _ = some false by decide +kernel), _, rfl, iteF ⟨_, rfl, hRr, ⟨_, .str _, mg_str (by decide +kernel) (by decide +kernel)⟩, hr', s5⟩⟩
        refine ⟨_, rfl, _, _, _, _, true, rfl, .ty "list", .base (.lst (s5 _ _ hz)), kit_ty (show _ = some true by decide +kernel), _, rfl, iteT ?_⟩
        refine ⟨_, rfl, pr, rfl, ⟨_, SqL.of (s5 _ _ hz)⟩, fun D nD hD => ?_⟩
        refine Lm.lc_map (K := K) walk_list (fun i y A => ∃ d, BoxF K (fun a => Nz b a ∧ a ≠ R) H5 A y d ∧ Mg 2 70 d) (fun _ _ _ _ ⟨d, h, m⟩ kt => ⟨d, h.k kt, m⟩) hD (by omega) (fun H' s => SqL.of (s _ _ (s5 _ _ hz))) (fun j y A hj hy sm Q2 Z q => ?_) (fun A ys s2 hy ly hRR => ?_)
        · obtain ⟨d, e, m⟩ := hzs y (List.mem_of_getElem? hy)
          have e5 : En K (fun a => Nz b a ∧ a ≠ R) H5 y d := En.kk (Kt.same s5) (fun a o n h => ⟨⟨n, fun c => by rw [c, hR] at h; cases h⟩, s5 a o h⟩) d y e
          refine ⟨rfl, yesT ?_⟩
          have eA : En K (fun a => Nz b a ∧ a ≠ R) A y d := e5.ks sm
          obtain ⟨t, ty, I⟩ := isi_en eA
          refine ⟨_, rfl, rfl, _, rfl, ite2 (fun _ => ?_) (fun _ => ?_)⟩
          · refine ⟨_, rfl, _, _, _, _, lstB d, rfl, .ty "list", ty, I.lst, _, rfl, ?_⟩
            cases el : lstB d with
            | false =>
              refine iteF ?_
              exact ⟨_, rfl, q _ _ (Same.refl _) ⟨d, .inl e5, m⟩⟩
            | true =>
              refine iteT ?_
              cases e5 with
              | lst n0 e0 r0 =>
                refine ⟨_, rfl, _, _, rfl, .inl ⟨SqL.of (sm _ _ e0), fun l hl => ?_⟩⟩
                exact q _ _ (same_new hl) ⟨_, .inr ⟨l, _, _, rfl, SqT.of upd_same, r0, rfl⟩, mg_lt m⟩
              | _ => cases el
          · exact ⟨_, rfl, q _ _ (Same.refl _) ⟨d, .inl e5, m⟩⟩
        · have s5A := s5.trans s2
          obtain ⟨ds, hds, lds, mds⟩ := ens_at (N := fun a => Nz b a ∧ a ≠ R) (H := A) (P := fun d => Mg 2 70 d) fun j y hj => by
            obtain ⟨d, h, m⟩ := hRR j y hj
            exact ⟨d, h.en s2, m⟩
          have mr : Mg 3 781 (.list ds) := mg_lst (n := 2) (w := 70) (k := 11) mds (by omega)
          have hRA := s2 _ _ hRr
          have ND : Nz b D ∧ D ≠ R := ⟨⟨nD, Lm.bag_off (bag1.keep s5) hD⟩, fun c => by rw [c, hRr] at hD; cases hD⟩
          have hrA : ∀ r ∈ rs, RowE K b R A r := fun r m => (hr' r m).mv (Kt.same s2) fun a o _ _ h => s2 a o h
          refine ⟨_, rfl, rfl, _, rfl, ite2 (fun _ => ?_) (fun _ => ?_)⟩
          · refine ⟨_, rfl, D, ys, rfl, .inl ⟨SqL.of hy, fun l hl => ?_⟩⟩
            have sl := same_new (o := .tup ys) hl
            exact ⟨_, rfl, sl _ _ hRA, ⟨_, .tup (SqT.of upd_same) (hds.ks sl), mg_lt mr⟩, fun r m => (hrA r m).mv (Kt.same sl) fun a o _ _ h => sl a o h, s5A.trans sl⟩
          · exact ⟨_, rfl, hRA, ⟨_, .lst ND hy hds, mr⟩, hrA, s5A⟩
      · rintro σ H6 ⟨r, rfl, hRr, hre, hr', s6⟩
        have kt : Kt K H6 (upd H6 R (.lst (rs ++ [r]))) := Kt.lst hRr
        have f6 : ∀ a o, a ≠ b → a ≠ R → H6 a = some o → upd H6 R (.lst (rs ++ [r])) a = some o := fun a o _ n h => by rw [upd_ne n]; exact h
        refine ⟨_, rfl, .inl ⟨rfl, _, SqL.of hRr⟩, _, rfl, R, _, _, rfl, rfl, hRr, small1000 (by omega), ?_⟩
        refine ⟨rs ++ [r], _, _, rfl, by rw [List.length_append, e1]; rfl, upd_same, fun z m => ?_, same_mut s6 hR⟩
        rcases List.mem_append.mp m with m | m
        · exact (hr' z m).mv kt f6
        · rw [List.mem_singleton.mp m]
          exact hre.mv kt f6
    · obtain ⟨rs, v4, v5, rfl, e1, hRr, hr', s5⟩ := hP
      refine ⟨_, rfl, b, _, 2, rfl, by decide, by decide, bag1.keep s5, by omega, fun H6 dd e0 e1' bag6 but6 => ?_⟩
      have hRr := but6.keep _ _ Rb hRr
      have hr' : ∀ r ∈ rs, RowE K b R H6 r := fun r m => (hr' r m).mv (Lm.kt_but (bag1.keep s5) but6) fun a o q _ h => but6.keep a o q h
      obtain ⟨ds, hds, lds, mds⟩ := ens_of (N := fun a => Nz b a ∧ a ≠ R) (H := H6) (P := fun d => Mg 3 781 d) hr'
      have mo : Mg 4 7000 (.list ds) := (mg_lst (n := 3) (w := 781) (k := 8) mds (by omega)).mono (Nat.le_refl _) (by omega)
      have hds : Ens K (Nz b) H6 rs ds := Ens.nz hds fun a n => n.1
      refine ⟨rfl, _, rfl, ite2 (fun _ => ?_) (fun _ => ?_)⟩
      · refine ⟨_, rfl, R, rs, rfl, .inl ⟨SqL.of hRr, fun l hl => ?_⟩⟩
        have sl := same_new (o := .tup rs) hl
        exact kk _ _ _ (.tup (SqT.of upd_same) (hds.ks sl)) (mg_lt mo) ((bag6.keep sl).mono (by omega))
      · exact ⟨_, rfl, kk _ _ _ (.lst ⟨nR, Rb⟩ hRr hds) mo (bag6.mono (by omega))⟩
end
end K06

namespace K06
open PySem L2 Wm TL Dv De
section
variable {P : Program} {w : World} {K : PySem.W.Frag} {mg : Str → Option Value} {base : Heap}
def RulV (K : PySem.W.Frag) (b p : Addr) (H : Hp) (x : V) : Prop := ∃ d, En K (fun a => Nz b a ∧ a ≠ p) H x d
theorem RulV.mv {H H' : Hp} {b p : Addr} {x : V} (h : RulV K b p H x) (kt : Kt K H H') (f : ∀ a o, a ≠ b → a ≠ p → H a = some o → H' a = some o) : RulV K b p H' x := let ⟨d, e⟩ := h; ⟨d, En.kk kt (fun a o n h => ⟨n, f a o n.1.2 n.2 h⟩) d x e⟩
theorem RulV.but {H H' : Hp} {b p : Addr} {n : Nat} {x : V} (bag : Bag H b n) (e : But b H H') (h : RulV K b p H x) : RulV K b p H' x := h.mv (Lm.kt_but bag e) fun a o q _ h => e.keep a o q h
theorem RulV.same {H H' : Hp} {b p : Addr} {x : V} (s : Same H H') (h : RulV K b p H x) : RulV K b p H' x := h.mv (Kt.same s) fun a o _ _ h => s a o h
theorem RulV.put {H : Hp} {b p : Addr} {x : V} {xs ys : List V} (hp : H p = some (.lst xs)) (h : RulV K b p H x) : RulV K b p (upd H p (.lst ys)) x := h.mv (Kt.lst hp) fun a o _ n h => by rw [upd_ne n]; exact h
def RulS (K : PySem.W.Frag) (b : Addr) (H0 : Hp) (n : Nat) (σ : L2.St) (H : Hp) : Prop := ∃ p x y, σ = [some (.ref b), some (.ref p)] ∧ p ≠ b ∧ H p = some (.lst [x, y]) ∧ RulV K b p H x ∧ RulV K b p H y ∧ Bag H b n ∧ But b H0 H ∧ H0 p = none
theorem ok_rules (T : Txt K mg) : FnOk P w K mg base CX0 2 T.a_rules T.d_rules ["_law_bag_here"] (sp_rules K) := by
  refine T.F_rules.ok sc_rules (fun vs H Q E h => ?_) (fun cdv A outer s H vs Q E hr h => ?_)
  · obtain ⟨b, n, rfl, _⟩ := h
    rfl
  · obtain ⟨b, n, rfl, hbag, hn, kk⟩ := h
    refine ⟨_, (pss_cons (ps_set (i := 1) sc_rules.nd rfl (Or.inl rfl) (Dz.pe_lstZ (pa_cons (pe_op op_add pe_int (pe_call (ok_draw T) (hr.mono (by decide)) (by rfl) T.g_draw T.F_draw.kp T.b_draw .nil pass0 (pa_cons (pv 0) (pa_cons pe_int pa_nil)))) (pa_cons (pe_op op_add pe_int (pe_call (ok_draw T) (hr.mono (by decide)) (by rfl) T.g_draw T.F_draw.kp T.b_draw .nil pass0 (pa_cons (pv 0) (pa_cons pe_int pa_nil)))) pa_nil))))
      (C8.pss_cut (ps_if (pt_cmpR op_eq (pe_call (ok_draw T) (hr.mono (by decide)) (by rfl) T.g_draw T.F_draw.kp T.b_draw .nil pass0 (pa_cons (pv 0) (pa_cons pe_int pa_nil))) pe_int (nomark _))
        (pss_one (ps_asg (pe_ix ix_list (Dz.pe_lstZ (pa_cons pe_int (pa_cons pe_int (pa_cons (pe_un un_neg pe_int) (pa_cons pe_bl (pa_cons pe_non (pa_cons pe_str (pa_cons (pe_op op_pow pe_int pe_int) (pa_cons (pe_tup (pa_cons pe_int pa_nil)) (pa_cons (Dz.pe_lstZ (pa_cons pe_int pa_nil)) pa_nil)))))))))) (pe_call (ok_draw T) (hr.mono (by decide)) (by rfl) T.g_draw T.F_draw.kp T.b_draw .nil pass0 (pa_cons (pv 0) (pa_cons pe_int pa_nil))) (fun _ _ => rfl)) (pg_sub (pv 1) pe_int set_list)))
        pss_nil)
      (C8.pss_cut (ps_if (pt_cmpR op_eq (pe_call (ok_draw T) (hr.mono (by decide)) (by rfl) T.g_draw T.F_draw.kp T.b_draw .nil pass0 (pa_cons (pv 0) (pa_cons pe_int pa_nil))) pe_int (nomark _))
        (pss_one (ps_asg (pe_ix ix_list (Dz.pe_lstZ (pa_cons pe_int (pa_cons pe_int (pa_cons pe_bl (pa_cons pe_non (pa_cons pe_str (pa_cons (pe_un un_neg pe_int) (pa_cons (Dz.pe_lstZ (pa_cons pe_int pa_nil)) (pa_cons Dz.pe_dnewZ pa_nil))))))))) (pe_call (ok_draw T) (hr.mono (by decide)) (by rfl) T.g_draw T.F_draw.kp T.b_draw .nil pass0 (pa_cons (pv 0) (pa_cons pe_int pa_nil))) (fun _ _ => rfl)) (pg_sub (pv 1) pe_int set_list)))
        pss_nil)
      (C8.pss_cut (ps_if (pt_cmpR op_eq (pe_call (ok_draw T) (hr.mono (by decide)) (by rfl) T.g_draw T.F_draw.kp T.b_draw .nil pass0 (pa_cons (pv 0) (pa_cons pe_int pa_nil))) pe_int (nomark _))
        (pss_one (ps_set (i := 1) sc_rules.nd rfl (Or.inl rfl) (Dz.pe_lstZ (pa_cons pe_int (pa_cons pe_int pa_nil)))))
        pss_nil)
      (pss_one (ps_ret (pv 1))))))), ?_⟩
    refine ⟨_, rfl, b, n, 8, rfl, by decide, by decide, hbag, by omega, fun H1 d1 g0 g1 bag1 but1 => ?_⟩
    refine ⟨_, _, rfl, rfl, ?_⟩
    refine ⟨_, rfl, b, _, 2, rfl, by decide, by decide, bag1, by omega, fun H2 d2 g2 g3 bag2 but2 => ?_⟩
    refine ⟨_, _, rfl, rfl, by show 2 ≤ sizeLine; decide, fun p np hp => ?_⟩
    have st : RulS K b H (n + 2) [some (.ref b), some (.ref p)] (upd H2 p (.lst [.int (1 + d1), .int (1 + d2)])) := ⟨p, _, _, rfl, Lm.bag_off bag2 hp, upd_same, ⟨_, .int _⟩, ⟨_, .int _⟩, bag2.keep (same_new hp), (but1.trans but2).trans (But.of (same_new hp)), But.free bag2 (but1.trans but2) hbag hp⟩
    generalize upd H2 p (.lst [.int (1 + d1), .int (1 + d2)]) = H3 at *
    refine ⟨RulS K b H (n + 4), ?_, ?_⟩
    · obtain ⟨p, x, y, e, pb, hp, hx, hy, bag3, but3, p0⟩ := st
      cases e
      refine ⟨_, rfl, b, _, 6, rfl, by decide, by decide, bag3, by omega, fun H4 d4 _ _ bag4 but4 => ?_⟩
      have hp := but4.keep _ _ pb hp
      have hx := hx.but bag3 but4
      have hy := hy.but bag3 but4
      have but4 := but3.trans but4
      refine ⟨rfl, _, rfl, ite2 (fun _ => ?_) (fun _ => ⟨p, x, y, rfl, pb, hp, hx, hy, bag4.mono (by omega), but4, p0⟩)⟩
      refine ⟨_, rfl, _, _, rfl, rfl, ⟨by decide, by decide, by decide⟩, ?_⟩
      refine ⟨by show 1 ≤ sizeLine; decide, fun t ht => ?_⟩
      have bb := bag4.keep (same_new (o := .tup [V.int 1]) ht)
      have s1 := same_new (o := .tup [V.int 1]) ht
      have h1 : SqT K (upd H4 t (.tup [V.int 1])) t [V.int 1] := SqT.of upd_same
      generalize upd H4 t (.tup [V.int 1]) = A1 at *
      refine ⟨by show 1 ≤ sizeLine; decide, fun e ne he => ?_⟩
      have s2 := same_new (o := .lst [V.int 3]) he
      have eb := Lm.bag_off bb he
      have ep : e ≠ p := fun c => by rw [c, s1 _ _ hp] at he; cases he
      have h2 : upd A1 e (.lst [V.int 3]) e = some (.lst [V.int 3]) := upd_same
      have h1 := sameT s2 h1
      generalize upd A1 e (.lst [V.int 3]) = A2 at *
      refine ⟨by show 9 ≤ sizeLine; decide, fun q nq hq => ?_⟩
      have vall : ∀ z ∈ [V.int 0, V.int 9, V.int (-1), V.bl true, V.non, V.str "3", V.int ((10 : Int) ^ (20 : Int).toNat), V.ref t, V.ref e], RulV K b p A2 z := all_cons ⟨_, .int _⟩ (all_cons ⟨_, .int _⟩ (all_cons ⟨_, .int _⟩ (all_cons ⟨_, .bl _⟩ (all_cons ⟨_, .non⟩ (all_cons ⟨_, .str _⟩ (all_cons ⟨_, .int _⟩ (all_cons ⟨_, .tup h1 (.cons (.int _) .nil)⟩ (all_cons ⟨_, .lst ⟨⟨ne, eb⟩, ep⟩ h2 (.cons (.int _) .nil)⟩ all_nil))))))))
      have s3 := same_new (o := .lst [V.int 0, V.int 9, V.int (-1), V.bl true, V.non, V.str "3", V.int ((10 : Int) ^ (20 : Int).toNat), V.ref t, V.ref e]) hq
      have s13 := (s1.trans s2).trans s3
      have qb := Lm.bag_off (bb.keep s2) hq
      have hq' : upd A2 q (.lst [V.int 0, V.int 9, V.int (-1), V.bl true, V.non, V.str "3", V.int ((10 : Int) ^ (20 : Int).toNat), V.ref t, V.ref e]) q = some (.lst [V.int 0, V.int 9, V.int (-1), V.bl true, V.non, V.str "3", V.int ((10 : Int) ^ (20 : Int).toNat), V.ref t, V.ref e]) := upd_same
      generalize upd A2 q (.lst [V.int 0, V.int 9, V.int (-1), V.bl true, V.non, V.str "3", V.int ((10 : Int) ^ (20 : Int).toNat), V.ref t, V.ref e]) = A3 at *
      refine ⟨_, rfl, b, _, 9, rfl, by decide, by decide, bag4.keep s13, by omega, fun H5 d5 w0 w1 bag5 but5 => ?_⟩
      obtain ⟨d5, rfl⟩ : ∃ i : Nat, d5 = (i : Nat) := ⟨d5.toNat, by omega⟩
      obtain ⟨z, ez, vz⟩ := pick vall (i := d5) (by show d5 < 9; omega)
      have vz := (vz.same s3).but (bag4.keep s13) but5
      have hp := but5.keep _ _ pb (s13 _ _ hp)
      have hy := (hy.same s13).but (bag4.keep s13) but5
      refine ⟨q, _, _, _, rfl, rfl, SqL.of (but5.keep _ _ qb hq'), ez, ?_⟩
      refine ⟨_, rfl, p, _, 0, 0, rfl, rfl, hp, rfl, ?_⟩
      exact ⟨p, z, y, rfl, pb, upd_same, vz.put hp, hy.put hp, Bag.put hbag p0 ((but4.trans (But.of s13)).trans but5) (bag5.mono (by omega)), ((but4.trans (But.of s13)).trans but5).put p0, p0⟩
    rintro σ H3' st
    refine ⟨RulS K b H (n + 6), ?_, ?_⟩
    · obtain ⟨p, x, y, e, pb, hp, hx, hy, bag3, but3, p0⟩ := st
      cases e
      refine ⟨_, rfl, b, _, 6, rfl, by decide, by decide, bag3, by omega, fun H4 d4 _ _ bag4 but4 => ?_⟩
      have hp := but4.keep _ _ pb hp
      have hx := hx.but bag3 but4
      have hy := hy.but bag3 but4
      have but4 := but3.trans but4
      refine ⟨rfl, _, rfl, ite2 (fun _ => ?_) (fun _ => ⟨p, x, y, rfl, pb, hp, hx, hy, bag4.mono (by omega), but4, p0⟩)⟩
      refine ⟨_, rfl, ?_⟩
      refine ⟨by show 1 ≤ sizeLine; decide, fun e ne he => ?_⟩
      have bb := bag4.keep (same_new (o := .lst [V.int 1]) he)
      have s1 := same_new (o := .lst [V.int 1]) he
      have eb := Lm.bag_off bag4 he
      have ep : e ≠ p := fun c => by rw [c, hp] at he; cases he
      have h1 : upd H4 e (.lst [V.int 1]) e = some (.lst [V.int 1]) := upd_same
      generalize upd H4 e (.lst [V.int 1]) = A1 at *
      intro e2 ne2 he2
      have s2 := same_new (o := .dK []) he2
      have eb2 := Lm.bag_off bb he2
      have ep2 : e2 ≠ p := fun c => by rw [c, s1 _ _ hp] at he2; cases he2
      have h2 : upd A1 e2 (.dK []) e2 = some (.dK []) := upd_same
      have h1 := s2 _ _ h1
      generalize upd A1 e2 (.dK []) = A2 at *
      refine ⟨by show 8 ≤ sizeLine; decide, fun q nq hq => ?_⟩
      have vall : ∀ z ∈ [V.int 0, V.int 3, V.bl true, V.non, V.str "1", V.int (-2), V.ref e, V.ref e2], RulV K b p A2 z := all_cons ⟨_, .int _⟩ (all_cons ⟨_, .int _⟩ (all_cons ⟨_, .bl _⟩ (all_cons ⟨_, .non⟩ (all_cons ⟨_, .str _⟩ (all_cons ⟨_, .int _⟩ (all_cons ⟨_, .lst ⟨⟨ne, eb⟩, ep⟩ h1 (.cons (.int _) .nil)⟩ (all_cons ⟨_, .emp ⟨⟨ne2, eb2⟩, ep2⟩ h2⟩ all_nil)))))))
      have s3 := same_new (o := .lst [V.int 0, V.int 3, V.bl true, V.non, V.str "1", V.int (-2), V.ref e, V.ref e2]) hq
      have s13 := (s1.trans s2).trans s3
      have qb := Lm.bag_off (bb.keep s2) hq
      have hq' : upd A2 q (.lst [V.int 0, V.int 3, V.bl true, V.non, V.str "1", V.int (-2), V.ref e, V.ref e2]) q = some (.lst [V.int 0, V.int 3, V.bl true, V.non, V.str "1", V.int (-2), V.ref e, V.ref e2]) := upd_same
      generalize upd A2 q (.lst [V.int 0, V.int 3, V.bl true, V.non, V.str "1", V.int (-2), V.ref e, V.ref e2]) = A3 at *
      refine ⟨_, rfl, b, _, 8, rfl, by decide, by decide, bag4.keep s13, by omega, fun H5 d5 w0 w1 bag5 but5 => ?_⟩
      obtain ⟨d5, rfl⟩ : ∃ i : Nat, d5 = (i : Nat) := ⟨d5.toNat, by omega⟩
      obtain ⟨z, ez, vz⟩ := pick vall (i := d5) (by show d5 < 8; omega)
      have vz := (vz.same s3).but (bag4.keep s13) but5
      have hp := but5.keep _ _ pb (s13 _ _ hp)
      have hx := (hx.same s13).but (bag4.keep s13) but5
      refine ⟨q, _, _, _, rfl, rfl, SqL.of (but5.keep _ _ qb hq'), ez, ?_⟩
      refine ⟨_, rfl, p, _, 1, 1, rfl, rfl, hp, rfl, ?_⟩
      exact ⟨p, x, z, rfl, pb, upd_same, hx.put hp, vz.put hp, Bag.put hbag p0 ((but4.trans (But.of s13)).trans but5) (bag5.mono (by omega)), ((but4.trans (But.of s13)).trans but5).put p0, p0⟩
    clear st σ H3'
    rintro σ H3' st
    refine ⟨RulS K b H (n + 7), ?_, ?_⟩
    · obtain ⟨p, x, y, e, pb, hp, hx, hy, bag3, but3, p0⟩ := st
      cases e
      refine ⟨_, rfl, b, _, 8, rfl, by decide, by decide, bag3, by omega, fun H4 d4 _ _ bag4 but4 => ?_⟩
      have hp := but4.keep _ _ pb hp
      have hx := hx.but bag3 but4
      have hy := hy.but bag3 but4
      have but4 := but3.trans but4
      refine ⟨rfl, _, rfl, ite2 (fun _ => ?_) (fun _ => ⟨p, x, y, rfl, pb, hp, hx, hy, bag4.mono (by omega), but4, p0⟩)⟩
      refine ⟨by show 2 ≤ sizeLine; decide, fun q nq hq => ?_⟩
      exact ⟨q, _, _, rfl, Lm.bag_off bag4 hq, upd_same, ⟨_, .int _⟩, ⟨_, .int _⟩, bag4.keep (same_new hq), but4.trans (But.of (same_new hq)), But.free bag4 but4 hbag hq⟩
    clear st σ H3'
    rintro σ H3' ⟨p, x, y, rfl, pb, hp, ⟨dx, ex⟩, ⟨dy, ey⟩, bag3, but3, p0⟩
    exact ⟨_, rfl, kk _ p x y _ _ pb hp (En.nz ex fun a n => n.1) (En.nz ey fun a n => n.1) (bag3.mono (by omega)) but3⟩
end
end K06

namespace K06
open PySem L2 Wm TL Dv De
section
variable {P : Program} {w : World} {K : PySem.W.Frag} {mg : Str → Option Value} {base : Heap}
variable {N : Addr → Prop}
theorem En.sqK {H : Hp} {p : Addr} {xs : List V} {t : Bool} (h : Kd.Is K t H p xs) : SqL K H p xs ∨ SqT K H p xs := h.sq
theorem dec_ge (a b : Nat) : decide (((b : Nat) : Int) ≤ ((a : Nat) : Int)) = decide (b ≤ a) := dec_nat b a
theorem ok_row (T : Txt K mg) : FnOk P w K mg base CX0 1 T.a_row T.d_row ["_law_thing", "_law_least", "_law_most"] (sp_row K) := by
  refine T.F_row.ok sc_row (fun vs H Q E h => ?_) (fun cdv A outer s H vs Q E hr h => ?_)
  · obtain ⟨v, d, N, lo, hi, rfl, _⟩ := h
    rfl
  · obtain ⟨v, d, N, lo, hi, rfl, hd, k⟩ := h
    refine ⟨_, (pss_one (ps_ret (pe_and (pe_callB call_isiT (by rfl) T.z_isinstance (by decide +kernel) (pa_cons (pv 0) (pa_cons (pe_tup (pa_cons (pe_bltn (v := V.ty "tuple") (by rfl) T.z_tuple (by decide +kernel) rfl) (pa_cons (pe_bltn (v := V.ty "list") (by rfl) T.z_list (by decide +kernel) rfl) pa_nil))) pa_nil))) (pe_and (pe_cmpR op_ge (pe_callB call_len_seq (by rfl) T.z_len PySem.boot_len (pa_cons (pv 0) pa_nil)) (pv 1) (nomark _)) (pe_one (pe_cmpR op_le (pe_callB call_len_seq (by rfl) T.z_len PySem.boot_len (pa_cons (pv 0) pa_nil)) (pv 2) (nomark _))))))), ?_⟩
    refine ⟨_, rfl, by show 2 ≤ sizeLine; decide, fun t2 ht => ?_⟩
    have s1 : Same H (upd H t2 (.tup [.ty "tuple", .ty "list"])) := same_new ht
    obtain ⟨t, ty, I⟩ := isi_en (hd.ks s1)
    have e2 : upd H t2 (.tup [.ty "tuple", .ty "list"]) t2 = some (.tup [.ty "tuple", .ty "list"]) := upd_same
    generalize upd H t2 (.tup [.ty "tuple", .ty "list"]) = H1 at *
    refine ⟨_, t2, _, _, _, seqB d, rfl, e2, .cons (.ty "tuple") (.cons (.ty "list") .nil), ty, kitAny_cons (b := tupB d) I.tup (fun e => kitAny_cons (b := lstB d) I.lst (fun e2 => ?_) (fun e2 => ?_)) (fun e => ?_), ?_⟩
    · rw [seq_or2, e, e2]
      rfl
    · rw [seq_or2, e, e2]
      rfl
    · rw [seq_or2, e]
      rfl
    refine ⟨_, rfl, ?_⟩
    cases e : seqB d with
    | false =>
      have k := k _ s1
      rw [row_no e] at k
      exact iteF k
    | true =>
      obtain ⟨p, xs, t, rfl, hS, hds, _⟩ := seq_en (hd.ks s1) e
      have lx := hds.len
      have k := k _ s1
      rw [row_en e, ← lx] at k
      refine iteT ⟨_, rfl, p, _, rfl, hS.sq, _, rfl, _, _, rfl, rfl, _, rfl, ?_⟩
      rw [dec_nat]
      cases c1 : decide (lo ≤ xs.length) with
      | false =>
        rw [c1] at k
        exact iteF k
      | true =>
        rw [c1] at k
        refine iteT ⟨_, rfl, p, _, rfl, hS.sq, _, rfl, _, _, rfl, rfl, ?_⟩
        have e3 : decide (((xs.length : Nat) : Int) ≤ ((hi : Nat) : Int)) = decide (xs.length ≤ hi) := dec_nat _ _
        show Q (V.bl (decide (((xs.length : Nat) : Int) ≤ ((hi : Nat) : Int)))) _
        rw [e3]
        exact k
theorem ok_whole (T : Txt K mg) : FnOk P w K mg base CX0 1 T.a_whole T.d_whole ["_law_thing"] (sp_whole K) := by
  refine T.F_whole.ok sc_whole (fun vs H Q E h => ?_) (fun cdv A outer s H vs Q E hr h => ?_)
  · obtain ⟨v, d, N, rfl, _⟩ := h
    rfl
  · obtain ⟨v, d, N, rfl, hd, k⟩ := h
    obtain ⟨t, ty, I⟩ := isi_en hd
    refine ⟨_, (pss_one (ps_ret (pe_and (pe_callB call_isi (by rfl) T.z_isinstance (by decide +kernel) (pa_cons (pv 0) (pa_cons (pe_bltn (v := V.ty "int") (by rfl) T.z_int (by decide +kernel) rfl) pa_nil))) (pe_one (pe_not (pe_callB call_isi (by rfl) T.z_isinstance (by decide +kernel) (pa_cons (pv 0) (pa_cons (pe_bltn (v := V.ty "bool") (by rfl) T.z_bool (by decide +kernel) rfl) pa_nil)))))))), ?_⟩
    refine ⟨_, rfl, _, _, _, _, intB d, rfl, .ty "int", ty, I.int, intB d, rfl, ?_⟩
    cases e : intB d with
    | false =>
      have e2 : whB d = false := by cases d <;> first | rfl | cases e
      rw [e2] at k
      exact iteF k
    | true =>
      have e2 : (!boB d) = whB d := by cases d <;> first | rfl | cases e
      rw [← e2] at k
      exact iteT ⟨_, rfl, _, _, _, _, _, rfl, .ty "bool", ty, I.bool, _, rfl, k⟩
end
end K06

namespace K06
open PySem L2 Wm TL Dv De
section
variable {P : Program} {w : World} {K : PySem.W.Frag} {mg : Str → Option Value} {base : Heap}
theorem odd_signs {t : Str} (l : List Nat) : ∀ i, (l.take i).filter (fun c => !decide (c ∈ t.cps.toList)) = [] ↔ ∀ c ∈ l.take i, c ∈ t.cps.toList := fun i => by
  rw [List.filter_eq_nil_iff]
  simp
theorem take1 {l : List Nat} {i c : Nat} (h : l[i]? = some c) : l.take (i + 1) = l.take i ++ [c] := by
  rw [List.take_add_one, h]
  rfl
theorem ok_wis_number (T : Txt K mg) : FnOk P w K mg base CX0 1 T.a_wis_number T.d_wis_number ["_law_thing"] (sp_wis_number K) := by
  refine T.F_wis_number.ok sc_wis_number (fun vs H Q E h => ?_) (fun cdv A outer s H vs Q E hr h => ?_)
  · obtain ⟨v, d, N, rfl, _⟩ := h
    rfl
  · obtain ⟨v, d, N, rfl, hd, tx, kx⟩ := h
    obtain ⟨ty0, ty, I⟩ := isi_en hd
    refine ⟨_, (pss_cons (ps_if (PW.pt (pw_or (pt_not (pt_val (pe_callB call_isi (by rfl) T.z_isinstance (by decide +kernel) (pa_cons (pv 0) (pa_cons (pe_bltn (v := V.ty "str") (by rfl) T.z_str (by decide +kernel) rfl) pa_nil))))) (pw_or (pt_cmpR op_lt (pe_callB call_len_str (by rfl) T.z_len PySem.boot_len (pa_cons (pv 0) pa_nil)) pe_int (nomark _)) (pw_or1 (pt_cmpR op_gt (pe_callB call_len_str (by rfl) T.z_len PySem.boot_len (pa_cons (pv 0) pa_nil)) pe_int (nomark _))))))
        (pss_one (ps_ret pe_bl))
        pss_nil)
      (pss_cons (ps_if (pt_cmpR (show OpR _ _ (De.rNeNil K) from De.op_neNil (Ind.room65 hr)) (pe_lc (own := [("_law_sign", 1)]) (g := gName 1) rfl sc_wis_number.nd (pi_str (pv 0)) (blkOk_by (own := [("_law_sign", 1)]) (N := nm_wis_number) (sc := (defScope s_wis_number)) (by decide +kernel)) (fun _ _ _ _ _ => pg_name (i := 1) sc_wis_number.nd rfl (Or.inl rfl)) (fun _ _ _ _ _ => (pts_one (pt_cmpR op_notIn_sign (pv 1) pe_str rfl))) (fun _ _ _ _ _ => (pv 1))) (pe_lst pa_nil) (nomark _))
        (pss_one (ps_ret pe_bl))
        pss_nil)
      (pss_one (ps_ret (pe_cmpR op_le (pe_callB (cr_sum rfl) (by rfl) T.z_sum (by decide +kernel) (pa_cons (pe_lc (own := [("_law_sign", 1)]) (g := gName 1) (tt := tYes) rfl sc_wis_number.nd (pi_str (pv 0)) (blkOk_by (own := [("_law_sign", 1)]) (N := nm_wis_number) (sc := (defScope s_wis_number)) (by decide +kernel)) (fun _ _ _ _ _ => pg_name (i := 1) sc_wis_number.nd rfl (Or.inl rfl)) (fun _ _ _ _ _ => pts_nil) (fun _ _ _ _ _ => (pe_callTy call_int_str (by rfl) T.z_int (by decide +kernel) (pa_cons (pv 1) pa_nil)))) pa_nil)) pe_int (nomark _)))))), ?_⟩
    refine ⟨_, rfl, _, _, _, _, stB d, rfl, .ty "str", ty, I.str, stB d, rfl, ?_⟩
    cases e0 : stB d with
    | false =>
      rw [num_no e0] at kx
      refine iteT ?_
      refine iteT ?_
      exact kx _ (Same.refl _)
    | true =>
    refine iteF ?_
    obtain ⟨t, rfl, rfl⟩ : ∃ t, v = .str t ∧ d = .str t := by
      cases hd with
      | str x => exact ⟨x, rfl, rfl⟩
      | _ => cases e0
    have hz : t.length ≤ 100000 := tx t rfl
    have k : ∀ H' b, Same H H' → (b = true ↔ IsNum t) → Q (.bl b) H' := fun H' b s e => by
      have e2 : b = numB (.str t) := Bool.eq_iff_iff.mpr (e.trans num_str.symm)
      rw [e2]
      exact kx _ s
    have hl : t.length = (tl t).length := len_tl t
    have numlen : IsNum t → 1 ≤ t.length ∧ t.length ≤ 4 := fun ⟨ds, N, e⟩ => by
      rw [e, numS_len]
      exact ⟨N.pos, N.len⟩
    refine ⟨_, rfl, _, rfl, small_len hz, _, _, rfl, rfl, _, rfl, ?_⟩
    refine ite2 (fun c1 => ?_) (fun c1 => ?_)
    · have c1' : ((t.length : Nat) : Int) < 1 := of_decide_eq_true c1
      refine iteT ?_
      exact k _ _ (Same.refl _) ⟨fun z => (by cases z), fun z => absurd (numlen z).1 (by omega)⟩
    have c1' : ¬ ((t.length : Nat) : Int) < 1 := fun z => c1 (decide_eq_true z)
    refine ⟨_, rfl, _, rfl, small_len hz, _, _, rfl, rfl, _, rfl, ?_⟩
    refine ite2 (fun c2 => ?_) (fun c2 => ?_)
    · have c2' : ((t.length : Nat) : Int) > 4 := of_decide_eq_true c2
      exact k _ _ (Same.refl _) ⟨fun z => (by cases z), fun z => absurd (numlen z).2 (by omega)⟩
    have c2' : ¬ ((t.length : Nat) : Int) > 4 := fun z => c2 (decide_eq_true z)
    refine ⟨_, rfl, _, rfl, fun D hD => ?_⟩
    have hsz : t.cps.size = (tl t).length := hl
    refine lc_it walk_str (fun i H' => Same H H' ∧ H' D = some (.lst ((((tl t).take i).filter (fun c => !decide (c ∈ ("123456789" : Str).cps.toList))).map fun c => V.str ⟨#[c]⟩))) ⟨same_new hD, upd_same⟩ (fun _ _ _ _ => trivial) (fun i x H1 H' hi hP hY => ?_) (fun H1 hP => ?_)
    · obtain ⟨sm, hL⟩ := hP
      obtain ⟨rfl, c, hc, rfl⟩ := hY
      have e1 := take1 (cps_at hc)
      have lq : (((tl t).take i).filter (fun c => !decide (c ∈ ("123456789" : Str).cps.toList))).length ≤ 100 := Nat.le_trans (List.length_filter_le _ _) (by rw [List.length_take]; omega)
      refine ⟨rfl, ?_⟩
      refine ⟨_, rfl, _, _, rfl, rfl, _, rfl, ite2 (fun c => ?_) (fun c => ?_)⟩
      · refine ⟨_, rfl, _, hL, by rw [List.length_map]; exact small1000 (by omega), same_mut sm hD, ?_⟩
        rw [upd_same, e1, List.filter_append, List.map_append, List.filter_cons_of_pos (by simpa using c)]
        rfl
      · refine ⟨sm, ?_⟩
        rw [hL, e1, List.filter_append, List.filter_cons_of_neg (by simpa using c), List.filter_nil, List.append_nil]
    · obtain ⟨sm, hL⟩ := hP
      rw [hsz, List.take_length] at hL
      refine ⟨by show 0 ≤ sizeLine; decide, fun u hu => ?_⟩
      have su := same_new (o := .lst []) hu
      have hLu := su _ _ hL
      refine ⟨_, _, _, rfl, rfl, SqL.of hLu, SqL.of upd_same, _, rfl, ?_⟩
      have s2 := sm.trans su
      generalize upd H1 u (.lst []) = H2 at *
      by_cases c3 : ∀ c ∈ tl t, c ∈ ("123456789" : Str).cps.toList
      case neg =>
        have ne : (tl t).filter (fun c => !decide (c ∈ ("123456789" : Str).cps.toList)) ≠ [] := fun e => c3 (by
          have q := (odd_signs (t := "123456789") (tl t) (tl t).length).mp (by rw [List.take_length]; exact e)
          rw [List.take_length] at q
          exact q)
        cases e : (tl t).filter (fun c => !decide (c ∈ ("123456789" : Str).cps.toList)) with
        | nil => exact absurd e ne
        | cons c r =>
          refine iteT ?_
          refine k _ _ s2 ⟨fun z => (by cases z), fun ⟨ds, N, e⟩ => absurd (by rw [e]; exact num_codes N.dig) c3⟩
      have e : (tl t).filter (fun c => !decide (c ∈ ("123456789" : Str).cps.toList)) = [] := by
        have q := (odd_signs (t := "123456789") (tl t) (tl t).length).mpr (by rw [List.take_length]; exact c3)
        rw [List.take_length] at q
        exact q
      rw [e]
      refine iteF ?_
      obtain ⟨ds, dig, et⟩ := dig_text t c3
      subst et
      rw [numS_len] at c1' c2'
      refine ⟨_, rfl, _, rfl, fun D2 hD2 => ?_⟩
      refine lc_it walk_str (fun i H' => Same H H' ∧ H' D2 = some (.lst ((ds.take i).map fun (d : Nat) => V.int (d : Int)))) ⟨s2.trans (same_new hD2), upd_same⟩ (fun _ _ _ _ => trivial) (fun i x H2 H' hi hP hY => ?_) (fun H2 hP => ?_)
      · obtain ⟨sm2, hl2⟩ := hP
        obtain ⟨rfl, c, hc, rfl⟩ := hY
        rw [numS_size] at hi
        rw [numS_at ds i hi] at hc
        have hc' := (Option.some.inj hc).symm
        subst hc'
        refine ⟨rfl, yesT ?_⟩
        refine ⟨_, rfl, _, _, rfl, dig_int (dig _ (List.getElem_mem hi)), (by show 1 ≤ 640; decide), _, hl2, by rw [List.length_map, List.length_take]; exact small1000 (by omega), ?_⟩
        refine ⟨same_mut sm2 (s2.free hD2), ?_⟩
        rw [upd_same, take_succ_map _ (List.getElem?_eq_getElem hi)]
      · obtain ⟨sm2, hl2⟩ := hP
        rw [numS_size, List.take_length] at hl2
        refine ⟨D2, ds.map fun (d : Nat) => (d : Int), rfl, SqL.of (by rw [hl2, List.map_map]; rfl), _, _, rfl, rfl, ?_⟩
        rw [sum_cast]
        refine k _ _ sm2 ?_
        rw [isnum_dig]
        constructor
        · intro z
          have z' : ((ds.sum : Nat) : Int) ≤ 24 := of_decide_eq_true z
          exact ⟨by omega, by omega, dig, by omega⟩
        · intro N
          exact decide_eq_true (show ((ds.sum : Nat) : Int) ≤ 24 by have := N.sum; omega)
end
end K06

namespace K06
open PySem L2 Wm TL Dv De
section
variable {P : Program} {w : World} {K : PySem.W.Frag} {mg : Str → Option Value} {base : Heap}
/-- a comprehension that keeps some -/
theorem lc_filt {K : PySem.W.Frag} {J : It} {n : Nat} {G : Hp → Prop} {xs : List V} (w : Walk J n G (YAt xs)) {g : TG} {tt : TT} {te : TE} {vs : List Nat} {σ : L2.St} {H1 : Hp} {D : Addr} {Qd : Hp → Prop} (keep : Nat → Bool)
    (hD : H1 D = none) (hn : n ≤ 1000) (hG : ∀ H', Same H1 H' → G H')
    (hs : ∀ (i : Nat) x H', i < n → xs[i]? = some x → Same H1 H' → ∀ (Q : V → Hp → Prop) (Z : Hp → Prop), (keep i = true → ∀ y H3, Same H' H3 → Q y H3) → (keep i = false → ∀ H3, Same H' H3 → Z H3) → g x (wipe σ vs) H' fun σ2 H2 => wipe σ2 vs = wipe σ vs ∧ tt σ2 H2 fun b H3 => if b = true then te σ2 H3 Q else Z H3)
    (hd : ∀ H ys, Same H1 H → H D = some (.lst ys) → (ys.isEmpty = true ↔ ∀ i, i < n → keep i = false) → Qd H) :
    ∃ W : Nat → Nat → Hp → Prop, (∃ m, W 0 m (upd H1 D (.lst []))) ∧ ∀ i m H, W i m H →
      (J.stop i H ∧ Qd H) ∨ (J.go i H ∧ ∃ Nx : Hp → Prop, (∀ H', Nx H' → ∃ m', m' < m ∧ W (i + 1) m' H') ∧ ∀ x H', J.yld i H x H' → g x (wipe σ vs) H' fun σ2 H2 => wipe σ2 vs = wipe σ vs ∧ tt σ2 H2 fun b H3 =>
        if b = true then te σ2 H3 fun y H4 => ∃ acc, H4 D = some (.lst acc) ∧ acc.length < sizeLine ∧ Nx (upd H4 D (.lst (acc ++ [y]))) else Nx H3) := by
  refine lc_it (tt := tt) w (fun i H => Same H1 H ∧ ∃ ys : List V, ys.length ≤ i ∧ H D = some (.lst ys) ∧ (ys.isEmpty = true ↔ ∀ j, j < i → keep j = false)) ⟨same_new hD, [], Nat.le_refl _, upd_same, ⟨fun _ j h => absurd h (by omega), fun _ => rfl⟩⟩ (fun i H _ h => hG H h.1) (fun i x H H' hi hP hY => ?_) (fun H hP => ?_)
  · obtain ⟨sm, ys, el, hy, he⟩ := hP
    obtain ⟨rfl, hx⟩ := hY
    refine hs i x H' hi hx sm _ _ (fun k y H4 s4 => ?_) (fun k H4 s4 => ?_)
    · refine ⟨ys, s4 _ _ hy, small1000 (by omega), same_mut (sm.trans s4) hD, ys ++ [y], by rw [List.length_append, List.length_singleton]; omega, upd_same, ⟨fun z => ?_, fun z => ?_⟩⟩
      · cases ys <;> cases z
      · have := z i (by omega)
        rw [k] at this
        cases this
    · refine ⟨sm.trans s4, ys, by omega, s4 _ _ hy, ⟨fun z j l => ?_, fun z => he.mpr fun j l => z j (by omega)⟩⟩
      by_cases c : j < i
      · exact he.mp z j c
      · rw [show j = i by omega]
        exact k
  · obtain ⟨sm, ys, el, hy, he⟩ := hP
    exact hd H ys sm hy he
theorem lc_all {K : PySem.W.Frag} {J : It} {n : Nat} {G : Hp → Prop} {xs : List V} {ds : List PyData} (w : Walk J n G (YAt xs)) {g : TG} {tt : TT} {te : TE} {vs : List Nat} {σ : L2.St} {H1 : Hp} {D : Addr} {Qd : Hp → Prop} (P : PyData → Bool)
    (ld : ds.length = n) (hD : H1 D = none) (hn : n ≤ 1000) (hG : ∀ H', Same H1 H' → G H')
    (hs : ∀ (i : Nat) x d H', xs[i]? = some x → ds[i]? = some d → Same H1 H' → ∀ (Q : V → Hp → Prop) (Z : Hp → Prop), (P d = false → ∀ y H3, Same H' H3 → Q y H3) → (P d = true → ∀ H3, Same H' H3 → Z H3) → g x (wipe σ vs) H' fun σ2 H2 => wipe σ2 vs = wipe σ vs ∧ tt σ2 H2 fun b H3 => if b = true then te σ2 H3 Q else Z H3)
    (hd : ∀ H ys, Same H1 H → H D = some (.lst ys) → ys.isEmpty = ds.all P → Qd H) :
    ∃ W : Nat → Nat → Hp → Prop, (∃ m, W 0 m (upd H1 D (.lst []))) ∧ ∀ i m H, W i m H →
      (J.stop i H ∧ Qd H) ∨ (J.go i H ∧ ∃ Nx : Hp → Prop, (∀ H', Nx H' → ∃ m', m' < m ∧ W (i + 1) m' H') ∧ ∀ x H', J.yld i H x H' → g x (wipe σ vs) H' fun σ2 H2 => wipe σ2 vs = wipe σ vs ∧ tt σ2 H2 fun b H3 =>
        if b = true then te σ2 H3 fun y H4 => ∃ acc, H4 D = some (.lst acc) ∧ acc.length < sizeLine ∧ Nx (upd H4 D (.lst (acc ++ [y]))) else Nx H3) := by
  refine lc_filt (K := K) w (fun i => match ds[i]? with | some d => !P d | none => false) hD hn hG (fun i x H' hi hx sm Q Z q z => ?_) (fun H ys s hy he => hd H ys s hy (Bool.eq_iff_iff.mpr (he.trans ?_)))
  · have e : ds[i]? = some (ds[i]'(by omega)) := List.getElem?_eq_getElem (by omega)
    refine hs i x _ H' hx e sm Q Z (fun c y H3 s3 => q (by simp only [e, c]; rfl) y H3 s3) (fun c H3 s3 => z (by simp only [e, c]; rfl) H3 s3)
  · rw [List.all_eq_true]
    constructor
    · intro h d m
      obtain ⟨i, hi⟩ := List.mem_iff_getElem?.mp m
      have l := (List.getElem?_eq_some_iff.mp hi).1
      have := h i (by omega)
      simp only [hi] at this
      cases c : P d with
      | true => rfl
      | false => rw [c] at this; cases this
    · intro h i l
      have e : ds[i]? = some (ds[i]'(by omega)) := List.getElem?_eq_getElem (by omega)
      simp only [e, h _ (List.getElem_mem _)]
      rfl
theorem nodup_pre {α : Type} : ∀ (xs : List α), xs.Nodup ↔ ∀ (i : Nat) x, xs[i]? = some x → x ∉ xs.take i := fun xs => by
  constructor
  · intro nd i x hx m
    obtain ⟨j, hj⟩ := List.mem_iff_getElem?.mp m
    have lj : j < i := by
      have := (List.getElem?_eq_some_iff.mp hj).1
      rw [List.length_take] at this
      omega
    rw [List.getElem?_take_of_lt lj] at hj
    have := nd_ix nd hj hx
    omega
  · intro h
    unfold List.Nodup
    rw [List.pairwise_iff_getElem]
    intro i j hi hj lt e
    refine h j xs[j] (List.getElem?_eq_getElem hj) ?_
    rw [← e]
    exact List.mem_iff_getElem?.mpr ⟨i, by rw [List.getElem?_take_of_lt lt]; exact List.getElem?_eq_getElem hi⟩
end
end K06

namespace K06
open PySem L2 Wm TL Dv De
section
variable {P : Program} {w : World} {K : PySem.W.Frag} {mg : Str → Option Value} {base : Heap}
open Classical in
theorem dblB_iff {ds : List PyData} {ts : List Str} (e : ds.map fstD = ts.map PyData.str) : dblB ds = true ↔ ¬ ts.Nodup := by
  unfold dblB
  rw [decide_eq_true_iff, e, nodup_str]
theorem ix_lt0 {H : Hp} {t : Bool} {p : Addr} {x y : V} {Q : VK} (h : Kd.Is K t H p [x, y]) (k : Q x H) : Dz.rIxLT K (.ref p) (.int 0) H Q := by
  cases t with
  | true => exact .inr ⟨p, _, 0, _, rfl, rfl, h, atI_nat (j := 0) rfl, k⟩
  | false => exact .inl ⟨p, _, 0, _, rfl, rfl, h, atI_nat (j := 0) rfl, k⟩
theorem ix_lt1 {H : Hp} {t : Bool} {p : Addr} {x y : V} {Q : VK} (h : Kd.Is K t H p [x, y]) (k : Q y H) : Dz.rIxLT K (.ref p) (.int 1) H Q := by
  cases t with
  | true => exact .inr ⟨p, _, 1, _, rfl, rfl, h, atI_nat (j := 1) rfl, k⟩
  | false => exact .inl ⟨p, _, 1, _, rfl, rfl, h, atI_nat (j := 1) rfl, k⟩
theorem ok_word (T : Txt K mg) : FnOk P w K mg base CX0 2 T.a_word T.d_word ["_law_loops_here", "_law_rules_here"] (sp_word K) := by
  refine T.F_word.ok sc_word (fun vs H Q E h => ?_) (fun cdv A outer s H vs Q E hr h => ?_)
  · obtain ⟨v, p, x, y, d, r, h, N, rfl, _⟩ := h
    rfl
  · obtain ⟨v, p, x, y, d, r, h, N, rfl, hh, k⟩ := h
    refine ⟨_, (pss_cons (ps_if (PW.pt (pw_or (pt_not (pt_val (pe_call (ok_row T) (hr.mono (by decide)) (by rfl) T.g_row T.F_row.kp T.b_row .nil pass0 (pa_cons (pv 0) (pa_cons pe_int (pa_cons pe_int pa_nil)))))) (pw_or1 (pt_cmpR (show OpR _ _ (De.rNeNil K) from De.op_neNil (Ind.room65 hr)) (pe_lc (own := [("_law_loop", 2)]) (g := gName 2) rfl sc_word.nd (Kd.pi_seq (pv 0)) (blkOk_by (own := [("_law_loop", 2)]) (N := nm_word) (sc := (defScope s_word)) (by decide +kernel)) (fun _ _ _ _ _ => pg_name (i := 2) sc_word.nd rfl (Or.inl rfl)) (fun _ _ _ _ _ => (pts_one (pt_not (pt_val (pe_call (ok_row T) (hr.mono (by decide)) (by rfl) T.g_row T.F_row.kp T.b_row .nil pass0 (pa_cons (pv 2) (pa_cons pe_int (pa_cons pe_int pa_nil)))))))) (fun _ _ _ _ _ => (pv 2))) (pe_lst pa_nil) (nomark _)))))
        (pss_one (ps_ret pe_str))
        pss_nil)
      (pss_cons (ps_set (i := 3) sc_word.nd rfl (Or.inl rfl) (pe_lst pa_nil))
      (pss_cons (ps_for PassesOwn.never rfl (Kd.pi_seq (pv 0)) (pg_name (i := 2) sc_word.nd rfl (Or.inl rfl))
        (pss_one (ps_set (i := 3) sc_word.nd rfl (Or.inl rfl) (pe_op op_cat (pv 3) (pe_callTy call_list_of (by rfl) T.z_list (by decide +kernel) (pa_cons (pv 2) pa_nil))))))
      (pss_cons (ps_if (pt_cmpR (show OpR _ _ (De.rNeNil K) from De.op_neNil (Ind.room65 hr)) (pe_lc (own := [("_law_box", 4)]) (g := gName 4) rfl sc_word.nd (pi_list (pv 3)) (blkOk_by (own := [("_law_box", 4)]) (N := nm_word) (sc := (defScope s_word)) (by decide +kernel)) (fun _ _ _ _ _ => pg_name (i := 4) sc_word.nd rfl (Or.inl rfl)) (fun _ _ _ _ _ => (pts_one (pt_not (pt_val (pe_call (ok_row T) (hr.mono (by decide)) (by rfl) T.g_row T.F_row.kp T.b_row .nil pass0 (pa_cons (pv 4) (pa_cons pe_int (pa_cons pe_int pa_nil)))))))) (fun _ _ _ _ _ => (pv 4))) (pe_lst pa_nil) (nomark _))
        (pss_one (ps_ret pe_str))
        pss_nil)
      (pss_cons (ps_if (pt_cmpR (show OpR _ _ (De.rNeNil K) from De.op_neNil (Ind.room65 hr)) (pe_lc (own := [("_law_box", 4)]) (g := gName 4) rfl sc_word.nd (pi_list (pv 3)) (blkOk_by (own := [("_law_box", 4)]) (N := nm_word) (sc := (defScope s_word)) (by decide +kernel)) (fun _ _ _ _ _ => pg_name (i := 4) sc_word.nd rfl (Or.inl rfl)) (fun _ _ _ _ _ => (pts_one (pt_not (pt_val (pe_call (ok_wis_number T) (hr.mono (by decide)) (by rfl) T.g_wis_number T.F_wis_number.kp T.b_wis_number .nil pass0 (pa_cons (pe_ix (show IxR _ (Dz.rIxLT K) from Dz.ix_lt) (pv 4) pe_int (fun _ _ => rfl)) pa_nil)))))) (fun _ _ _ _ _ => (pv 4))) (pe_lst pa_nil) (nomark _))
        (pss_one (ps_ret pe_str))
        pss_nil)
      (pss_cons (ps_if (pt_cmpR (show OpR _ _ (De.rNeNil K) from De.op_neNil (Ind.room65 hr)) (pe_lc (own := [("_law_box", 4)]) (g := gName 4) rfl sc_word.nd (pi_list (pv 3)) (blkOk_by (own := [("_law_box", 4)]) (N := nm_word) (sc := (defScope s_word)) (by decide +kernel)) (fun _ _ _ _ _ => pg_name (i := 4) sc_word.nd rfl (Or.inl rfl)) (fun _ _ _ _ _ => (pts_one (pt_not (PW.pt (pw_and (pt_val (pe_callB (show CallR _ _ (rIsi K) from call_isi) (by rfl) T.z_isinstance (by decide +kernel) (pa_cons (pe_ix (show IxR _ (Dz.rIxLT K) from Dz.ix_lt) (pv 4) pe_int (fun _ _ => rfl)) (pa_cons (pe_bltn (v := V.ty "str") (by rfl) T.z_str (by decide +kernel) rfl) pa_nil)))) (pw_and1 (pt_cmpR (show OpR _ _ (De.rInTx K) from De.op_inTx (Ind.room65 hr)) (pe_ix (show IxR _ (Dz.rIxLT K) from Dz.ix_lt) (pv 4) pe_int (fun _ _ => rfl)) (pe_tup (pa_cons pe_str (pa_cons pe_str pa_nil))) rfl))))))) (fun _ _ _ _ _ => (pv 4))) (pe_lst pa_nil) (nomark _))
        (pss_one (ps_ret pe_str))
        pss_nil)
      (pss_cons (ps_set (i := 5) sc_word.nd rfl (Or.inr rfl) (pe_lc (own := [("_law_box", 4)]) (g := gName 4) (tt := tYes) rfl sc_word.nd (pi_list (pv 3)) (blkOk_by (own := [("_law_box", 4)]) (N := nm_word) (sc := (defScope s_word)) (by decide +kernel)) (fun _ _ _ _ _ => pg_name (i := 4) sc_word.nd rfl (Or.inl rfl)) (fun _ _ _ _ _ => pts_nil) (fun _ _ _ _ _ => (pe_ix (show IxR _ (Dz.rIxLT K) from Dz.ix_lt) (pv 4) pe_int (fun _ _ => rfl)))))
      (pss_cons (ps_if (pt_cmpR (show OpR _ _ (De.rNeNil K) from De.op_neNil (Ind.room65 hr)) (pe_lc (own := [("_law_k", 6)]) (g := gName 6) rfl sc_word.nd (pi_range1 (by rfl) T.z_range (pa_cons (pe_callB call_len_seq (by rfl) T.z_len PySem.boot_len (pa_cons (pv 5) pa_nil)) pa_nil)) (blkOk_by (own := [("_law_k", 6)]) (N := nm_word) (sc := (defScope s_word)) (by decide +kernel)) (fun _ _ _ _ _ => pg_name (i := 6) sc_word.nd rfl (Or.inl rfl)) (fun _ _ _ _ _ => (pts_one (pt_cmpR (show OpR _ _ (rIn K false) from op_in_seq) (pe_ix (show IxR _ (rIxL K) from ix_list) (pv 5) (pv 6) (fun _ _ => rfl)) (pe_slice (show SlR _ (rSlL K) from sl_list) (pv 5) po_none (po_some (pv 6))) rfl))) (fun _ _ _ _ _ => (pv 6))) (pe_lst pa_nil) (nomark _))
        (pss_one (ps_ret pe_str))
        pss_nil)
      (pss_cons (ps_if (PW.pt (pw_or (pt_not (pt_val (pe_call (ok_whole T) (hr.mono (by decide)) (by rfl) T.g_whole T.F_whole.kp T.b_whole .nil pass0 (pa_cons (pe_ix ix_list (pv 1) pe_int (fun _ _ => rfl)) pa_nil)))) (pw_or (pt_cmpR op_lt (pe_ix ix_list (pv 1) pe_int (fun _ _ => rfl)) pe_int (nomark _)) (pw_or1 (pt_cmpR op_gt (pe_ix ix_list (pv 1) pe_int (fun _ _ => rfl)) pe_int (nomark _))))))
        (pss_one (ps_ret pe_str))
        pss_nil)
      (pss_cons (ps_if (PW.pt (pw_or (pt_not (pt_val (pe_call (ok_whole T) (hr.mono (by decide)) (by rfl) T.g_whole T.F_whole.kp T.b_whole .nil pass0 (pa_cons (pe_ix ix_list (pv 1) pe_int (fun _ _ => rfl)) pa_nil)))) (pw_or (pt_cmpR op_notIn_seq (pe_ix ix_list (pv 1) pe_int (fun _ _ => rfl)) (pe_tup (pa_cons pe_int (pa_cons pe_int pa_nil))) rfl) (pw_or1 (pt_cmpR op_gt (pe_ix ix_list (pv 1) pe_int (fun _ _ => rfl)) (pe_ix ix_list (pv 1) pe_int (fun _ _ => rfl)) (nomark _))))))
        (pss_one (ps_ret pe_str))
        pss_nil)
      (pss_one (ps_ret pe_non)))))))))))), ?_⟩
    refine ⟨_, rfl, v, d, N, 1, 3, rfl, hh.v, fun H1 s1 => ⟨rowB d 1 3, rfl, ?_⟩⟩
    cases c0 : rowB d 1 3 with
    | false =>
      have e : loopsB d = false := by unfold loopsB; rw [c0]; rfl
      have k := k _ s1
      rw [wordF_loops e] at k
      exact iteT (iteT k)
    | true =>
    refine iteF ?_
    obtain ⟨e1, l1, l3⟩ := row_seq c0
    obtain ⟨q0, xs, t, rfl, hS, hds, _⟩ := seq_en (hh.v.ks s1) e1
    have lx := hds.len
    refine ⟨_, rfl, q0, xs, t, rfl, hS, fun J GG w hG D hD => ?_⟩
    refine lc_all (K := K) w (fun l => rowB l 1 10) (ds := itm d) lx.symm hD (by omega) (fun H' s => hG _ (hS.keep s)) (fun i z l H' hx hl sm Q2 Z q z0 => ?_) (fun H2 ys s2 hy he => ?_)
    · obtain ⟨l', hl', el⟩ := hds.at hx
      rw [hl] at hl'
      cases hl'
      refine ⟨rfl, ?_⟩
      refine ⟨_, rfl, z, l, N, 1, 10, rfl, el.ks sm, fun H5 s5 => ⟨rowB l 1 10, rfl, ?_⟩⟩
      cases c : rowB l 1 10 with
      | false => exact ⟨_, rfl, q c _ _ s5⟩
      | true => exact z0 c _ s5
    have hl : loopsB d = ys.isEmpty := by unfold loopsB; rw [c0, he]; rfl
    have s2 := s1.trans s2
    refine ⟨Nat.zero_le _, fun u hu => ?_⟩
    have su := same_new (o := .lst []) hu
    refine ⟨D, u, ys, rfl, rfl, SqL.of (su _ _ hy), SqL.of upd_same, !ys.isEmpty, rfl, ?_⟩
    have s3 := s2.trans su
    rw [← hl]
    generalize upd H2 u (.lst []) = H3 at *
    cases c1 : loopsB d with
    | false =>
      have k := k _ s3
      rw [wordF_loops c1] at k
      exact iteT k
    | true =>
    refine iteF ?_
    obtain ⟨_, _, _, hrow⟩ := loops_seq c1
    refine ⟨Nat.zero_le _, fun B hB => ?_⟩
    have hB0 := s3.free hB
    have s4 := s3.trans (same_new (o := .lst []) hB)
    have hB1 : upd H3 B (.lst []) B = some (.lst []) := upd_same
    generalize upd H3 B (.lst []) = H4 at *
    obtain ⟨q0', xs', t', e', hS', hds, _⟩ := seq_en (hh.v.ks s4) e1
    cases e'
    have lx := hds.len
    refine ⟨_, rfl, q0, xs', t', rfl, hS', fun J GG w hG => ?_⟩
    refine for_it w (fun i σ H' => ∃ (B : Addr) (bs : List V) (v2 : Option V), σ = [some (.ref q0), some (.ref p), v2, some (.ref B), none, none, none] ∧ Same H4 H' ∧ H' B = some (.lst bs) ∧ Ens K N H4 bs (((itm d).take i).flatMap itm)) ⟨B, [], _, rfl, Same.refl _, hB1, .nil⟩ (fun i σ H' _ h => let ⟨_, _, _, _, s, _⟩ := h; hG _ (hS'.keep s)) (fun i z σ H5 H' hi hP hY => ?_) (fun σ H5 hP => ?_)
    · obtain ⟨B, bs, v2, rfl, s5, hBs, hbs⟩ := hP
      obtain ⟨rfl, hx⟩ := hY
      obtain ⟨l, hl, el⟩ := hds.at hx
      have ml := List.mem_of_getElem? hl
      obtain ⟨f1, f2, f3⟩ := row_seq (hrow l ml)
      obtain ⟨q1, zs, t1, rfl, hq, hz, _⟩ := seq_en el f1
      have lz := hz.len
      have lb := hbs.len
      have l30 := fm_le hrow l3 i
      refine ⟨_, rfl, _, rfl, q1, zs, rfl, (hq.keep s5).sq, fun a ha => ?_⟩
      have sa := same_new (o := .lst zs) ha
      refine ⟨B, a, bs, zs, rfl, rfl, sa _ _ hBs, upd_same, small_len (by omega), fun c hc => ?_⟩
      have s6 := (s5.trans sa).trans (same_new (o := .lst (bs ++ zs)) hc)
      refine ⟨c, bs ++ zs, _, rfl, s6, upd_same, ?_⟩
      rw [fm_succ hl]
      exact hbs.app hz
    obtain ⟨B, bs, v2, rfl, s5, hBs, hbs⟩ := hP
    rw [lx, List.take_length] at hbs
    have hbs : Ens K N H4 bs (bxs d) := hbs
    have hbs := hbs.ks s5
    have s05 := s4.trans s5
    have l30 : (bxs d).length ≤ 30 := by
      have := fm_le hrow l3 (itm d).length
      rw [List.take_length] at this
      exact this
    have lb := hbs.len
    -- box
    refine ⟨_, rfl, B, rfl, ⟨_, SqL.of hBs⟩, fun D2 hD2 => ?_⟩
    refine lc_all (K := K) walk_list (fun b => rowB b 2 2) (ds := bxs d) lb.symm hD2 (by omega) (fun H' s => SqL.of (s _ _ hBs)) (fun i z l H' hx hl sm Q2 Z q z0 => ?_) (fun H6 ys2 s6 hy2 he2 => ?_)
    · obtain ⟨l', hl', el⟩ := hbs.at hx
      rw [hl] at hl'
      cases hl'
      refine ⟨rfl, ?_⟩
      refine ⟨_, rfl, z, l, N, 2, 2, rfl, el.ks sm, fun H5 s5 => ⟨rowB l 2 2, rfl, ?_⟩⟩
      cases c : rowB l 2 2 with
      | false => exact ⟨_, rfl, q c _ _ s5⟩
      | true => exact z0 c _ s5
    refine ⟨Nat.zero_le _, fun u hu => ?_⟩
    have su := same_new (o := .lst []) hu
    refine ⟨D2, u, ys2, rfl, rfl, SqL.of (su _ _ hy2), SqL.of upd_same, !ys2.isEmpty, rfl, ?_⟩
    have s6 := s6.trans su
    have hBs := s6 _ _ hBs
    have hbs := hbs.ks s6
    have s06 := s05.trans s6
    rw [he2]
    generalize upd H6 u (.lst []) = H6 at *
    cases b1 : (bxs d).all fun b => rowB b 2 2 with
    | false =>
      have k := k _ s06
      rw [wordF_box c1 (boxW_box b1)] at k
      exact iteT k
    | true =>
    refine iteF ?_
    have hbx : ∀ b ∈ bxs d, rowB b 2 2 = true := List.all_eq_true.mp b1
    have io := mg_item (Nat.le_trans hh.mg.bk (by decide)) hh.off
    -- number
    refine ⟨_, rfl, B, rfl, ⟨_, SqL.of hBs⟩, fun D3 hD3 => ?_⟩
    refine lc_all (K := K) walk_list (fun b => numB (fstD b)) (ds := bxs d) lb.symm hD3 (by omega) (fun H' s => SqL.of (s _ _ hBs)) (fun i z l H' hx hl sm Q2 Z q z0 => ?_) (fun H7 ys3 s7 hy3 he3 => ?_)
    · obtain ⟨l', hl', el⟩ := hbs.at hx
      rw [hl] at hl'
      cases hl'
      have ml := List.mem_of_getElem? hl
      obtain ⟨q1, t, f, g, rfl, hq, e1, e2, e3⟩ := box_en (el.ks sm) (hbx l ml)
      refine ⟨rfl, ?_⟩
      refine ⟨_, rfl, ix_lt0 hq ?_⟩
      refine ⟨f, fstD l, N, rfl, e1, tx_fst io.tx ml e3, fun H5 s5 => ⟨numB (fstD l), rfl, ?_⟩⟩
      cases c : numB (fstD l) with
      | false => exact ⟨_, rfl, q c _ _ s5⟩
      | true => exact z0 c _ s5
    refine ⟨Nat.zero_le _, fun u hu => ?_⟩
    have su := same_new (o := .lst []) hu
    refine ⟨D3, u, ys3, rfl, rfl, SqL.of (su _ _ hy3), SqL.of upd_same, !ys3.isEmpty, rfl, ?_⟩
    have s7 := s7.trans su
    have hBs := s7 _ _ hBs
    have hbs := hbs.ks s7
    have s07 := s06.trans s7
    rw [he3]
    generalize upd H7 u (.lst []) = H7 at *
    cases b2 : (bxs d).all fun b => numB (fstD b) with
    | false =>
      have k := k _ s07
      rw [wordF_box c1 (boxW_number b1 b2)] at k
      exact iteT k
    | true =>
    refine iteF ?_
    have hnb : ∀ b ∈ bxs d, numB (fstD b) = true := List.all_eq_true.mp b2
    -- sort
    refine ⟨_, rfl, B, rfl, ⟨_, SqL.of hBs⟩, fun D4 hD4 => ?_⟩
    refine lc_all (K := K) walk_list (fun b => sortB (sndD b)) (ds := bxs d) lb.symm hD4 (by omega) (fun H' s => SqL.of (s _ _ hBs)) (fun i z l H' hx hl sm Q2 Z q z0 => ?_) (fun H8 ys4 s8 hy4 he4 => ?_)
    · obtain ⟨l', hl', el⟩ := hbs.at hx
      rw [hl] at hl'
      cases hl'
      have ml := List.mem_of_getElem? hl
      obtain ⟨q1, t, f, g, rfl, hq, e1, e2, e3⟩ := box_en (el.ks sm) (hbx l ml)
      obtain ⟨ty0, ty, I⟩ := isi_en e2
      refine ⟨rfl, ?_⟩
      refine ⟨_, rfl, ix_lt1 hq ?_⟩
      refine ⟨_, _, _, _, stB (sndD l), rfl, .ty "str", ty, I.str, stB (sndD l), rfl, ?_⟩
      cases c : stB (sndD l) with
      | false =>
        have e : sortB (sndD l) = false := by
          cases c2 : sortB (sndD l) with
          | false => rfl
          | true =>
            rcases sort_str c2 with e | e <;> rw [e] at c <;> cases c
        exact iteF ⟨_, rfl, q e _ _ (Same.refl _)⟩
      | true =>
        refine iteT ⟨_, rfl, ix_lt1 hq ⟨by show 2 ≤ sizeLine; decide, fun t ht => ?_⟩⟩
        have st := same_new (o := .tup [.str "plain", .str "shy"]) ht
        refine ⟨sndD l, N, t, ["plain", "shy"], hh.off, e2.ks st, rfl, SqT.of upd_same, ?_⟩
        have e : (["plain", "shy"] : List Str).any (fun t => PyData.eqv (.str t) (sndD l)) = sortB (sndD l) := by
          show (PyData.eqv (.str "plain") (sndD l) || (PyData.eqv (.str "shy") (sndD l) || false)) = _
          rw [Bool.or_false]
          rfl
        rw [e]
        refine ⟨_, rfl, ?_⟩
        cases c : sortB (sndD l) with
        | false => exact ⟨_, rfl, q c _ _ st⟩
        | true => exact z0 c _ st
    refine ⟨Nat.zero_le _, fun u hu => ?_⟩
    have su := same_new (o := .lst []) hu
    refine ⟨D4, u, ys4, rfl, rfl, SqL.of (su _ _ hy4), SqL.of upd_same, !ys4.isEmpty, rfl, ?_⟩
    have s8 := s8.trans su
    have hBs := s8 _ _ hBs
    have hbs := hbs.ks s8
    have s08 := s07.trans s8
    rw [he4]
    generalize upd H8 u (.lst []) = H8 at *
    cases b3 : (bxs d).all fun b => sortB (sndD b) with
    | false =>
      have k := k _ s08
      rw [wordF_box c1 (boxW_sort b1 b2 b3)] at k
      exact iteT k
    | true =>
    refine iteF ?_
    have bw := boxW_dbl b1 b2 b3
    obtain ⟨ts, ets⟩ := strs_of hnb
    have lt : ts.length = (bxs d).length := by
      have := congrArg List.length ets
      rw [List.length_map, List.length_map] at this
      exact this.symm
    -- double
    refine ⟨_, rfl, B, rfl, ⟨_, SqL.of hBs⟩, fun D5 hD5 => ?_⟩
    refine Lm.lc_map (K := K) walk_list (fun i y _ => ∃ t, ts[i]? = some t ∧ y = .str t) (fun _ _ _ _ h _ => h) hD5 (by omega) (fun H' s => SqL.of (s _ _ hBs)) (fun i z H' hi hx sm Q2 Z q => ?_) (fun H9 ys5 s9 hy5 ly5 hR5 => ?_)
    · obtain ⟨l, hl, el⟩ := hbs.at hx
      have ml := List.mem_of_getElem? hl
      obtain ⟨q1, t, f, g, rfl, hq, e1, e2, e3⟩ := box_en (el.ks sm) (hbx l ml)
      have et : (ts.map PyData.str)[i]? = some (fstD l) := by rw [← ets, List.getElem?_map, hl]; rfl
      rw [List.getElem?_map] at et
      obtain ⟨t2, et2, et3⟩ := Option.map_eq_some_iff.mp et
      rw [← et3] at e1
      cases e1
      refine ⟨rfl, yesT ?_⟩
      exact ⟨_, rfl, ix_lt0 hq (q _ _ (Same.refl _) ⟨t2, et2, rfl⟩)⟩
    have ey : ys5 = ts.map V.str := Lm.list_is (by rw [List.length_map]; omega) fun i y e => by
      obtain ⟨t, h1, rfl⟩ := hR5 i y e
      rw [List.getElem?_map, h1]
      rfl
    rw [ey] at hy5
    have s09 := s08.trans s9
    clear hR5 ey ly5 ys5
    have lm : ((ts.map V.str).length : Int).toNat = ts.length := by rw [Int.toNat_natCast, List.length_map]
    refine ⟨_, rfl, D5, _, rfl, .inl (SqL.of hy5), _, rfl, by rw [List.length_map]; omega, by rw [List.length_map]; omega, fun D6 hD6 => ?_⟩
    rw [lm]
    refine lc_filt (K := K) (walk_rngL (lo := 0) (n := ts.length)) (fun i => match ts[i]? with | some t => decide (t ∈ ts.take i) | none => false) hD6 (by omega) (fun _ _ => trivial) (fun i z H' hi hx sm Q2 Z q z0 => ?_) (fun H10 ys6 s10 hy6 he6 => ?_)
    · rw [List.getElem?_map, List.getElem?_range hi] at hx
      cases Option.some.inj hx
      have ei : ts[i]? = some ts[i] := List.getElem?_eq_getElem hi
      have ei2 : (ts.map V.str)[i]? = some (.str ts[i]) := by rw [List.getElem?_map, ei]; rfl
      have h5 := sm _ _ hy5
      refine ⟨rfl, ?_⟩
      refine ⟨_, rfl, _, rfl, D5, _, ((i : Nat) : Int), _, rfl, by show V.int (0 + (i : Int)) = _; rw [Int.zero_add], SqL.of h5, atI_nat ei2, ?_⟩
      refine ⟨_, rfl, _, rfl, _, rfl, D5, _, rfl, SqL.of h5, fun c hc => ?_⟩
      rw [show (0 : Int) + ((i : Nat) : Int) = ((i : Nat) : Int) by omega, cut_to _ _ (by rw [List.length_map]; omega), ← List.map_take]
      have sc := same_new (o := .lst ((ts.take i).map V.str)) hc
      refine ⟨c, _, rfl, .inl (SqL.of upd_same), rfl, flat_strs _, ?_⟩
      have ein : inV (.str ts[i]) ((ts.take i).map V.str) = decide (ts[i] ∈ ts.take i) := in_strs _ _
      refine ⟨_, rfl, ?_⟩
      show if inV (.str ts[i]) ((ts.take i).map V.str) = true then _ else _
      rw [ein]
      cases cc : decide (ts[i] ∈ ts.take i) with
      | true => exact ⟨_, rfl, q (by simp only [ei, cc]) _ _ sc⟩
      | false => exact z0 (by simp only [ei, cc]) _ sc
    refine ⟨Nat.zero_le _, fun u hu => ?_⟩
    have su := same_new (o := .lst []) hu
    refine ⟨D6, u, ys6, rfl, rfl, SqL.of (su _ _ hy6), SqL.of upd_same, !ys6.isEmpty, rfl, ?_⟩
    have s11 := (s09.trans s10).trans su
    generalize upd H10 u (.lst []) = H11 at *
    have ed : (!ys6.isEmpty) = dblB (bxs d) := by
      have nd : ys6.isEmpty = true ↔ ts.Nodup := he6.trans ⟨fun h => (nodup_pre ts).mpr fun i x hx m => by
          have l := (List.getElem?_eq_some_iff.mp hx).1
          have := h i l
          simp only [hx] at this
          exact of_decide_eq_false this m, fun h i l => by
          have e : ts[i]? = some ts[i] := List.getElem?_eq_getElem l
          simp only [e]
          exact decide_eq_false ((nodup_pre ts).mp h i _ e)⟩
      have dd := dblB_iff ets
      cases c : ys6.isEmpty with
      | true =>
        cases c2 : dblB (bxs d) with
        | false => rfl
        | true => exact absurd (nd.mp c) (dd.mp c2)
      | false =>
        refine (dd.mpr fun h => ?_).symm
        rw [nd.mpr h] at c
        cases c
    rw [ed]
    cases b4 : dblB (bxs d) with
    | true =>
      rw [b4] at bw
      have k := k _ s11
      rw [wordF_box c1 bw] at k
      exact iteT k
    | false =>
    refine iteF ?_
    rw [b4] at bw
    have wr := wordF_rule (r := r) (h := h) c1 bw
    rw [wr] at k
    -- rounds
    have hp := s11 _ _ hh.p
    have hx := hh.x.ks s11
    have hy := hh.y.ks s11
    refine ⟨_, rfl, p, _, 0, _, rfl, rfl, SqL.of hp, atI_nat (j := 0) rfl, ?_⟩
    refine ⟨x, r, N, rfl, hx, whB r, rfl, ?_⟩
    have rr : ∀ l u, whB r = false → wbD r l u = false := fun l u c => by cases r <;> first | rfl | cases c
    cases w1 : whB r with
    | false =>
      have k := k _ s11
      rw [rulW_rounds (rr _ _ w1)] at k
      exact iteT (iteT k)
    | true =>
    refine iteF ?_
    obtain ⟨i, rfl, rfl⟩ : ∃ i : Int, r = .int i ∧ x = .int i := by
      cases hx with
      | int i => exact ⟨i, rfl, rfl⟩
      | _ => cases w1
    refine ⟨_, rfl, p, _, 0, _, rfl, rfl, SqL.of hp, atI_nat (j := 0) rfl, ?_⟩
    refine ⟨_, _, rfl, rfl, _, rfl, ?_⟩
    by_cases w2 : i < 1
    · rw [decide_eq_true w2]
      have k := k _ s11
      rw [rulW_rounds (show wbD (.int i) 1 8 = false by show (decide (1 ≤ i) && decide (i ≤ 8)) = false; rw [decide_eq_false (by omega)]; rfl)] at k
      exact iteT (iteT k)
    rw [decide_eq_false w2]
    refine iteF ?_
    refine ⟨_, rfl, p, _, 0, _, rfl, rfl, SqL.of hp, atI_nat (j := 0) rfl, ?_⟩
    refine ⟨_, _, rfl, rfl, _, rfl, ?_⟩
    by_cases w3 : 8 < i
    · rw [decide_eq_true w3]
      have k := k _ s11
      rw [rulW_rounds (show wbD (.int i) 1 8 = false by show (decide (1 ≤ i) && decide (i ≤ 8)) = false; rw [decide_eq_false (p := i ≤ 8) (by omega), Bool.and_false])] at k
      exact iteT k
    rw [decide_eq_false w3]
    refine iteF ?_
    have wr1 : wbD (.int i) 1 8 = true := by show (decide (1 ≤ i) && decide (i ≤ 8)) = true; rw [decide_eq_true (show 1 ≤ i by omega), decide_eq_true (show i ≤ 8 by omega)]; rfl
    -- hear
    refine ⟨_, rfl, p, _, 1, _, rfl, rfl, SqL.of hp, atI_nat (j := 1) rfl, ?_⟩
    refine ⟨y, h, N, rfl, hy, whB h, rfl, ?_⟩
    have rh : ∀ l u, whB h = false → wbD h l u = false := fun l u c => by cases h <;> first | rfl | cases c
    cases w4 : whB h with
    | false =>
      have k := k _ s11
      rw [rulW_hear wr1 (rh _ _ w4)] at k
      exact iteT (iteT k)
    | true =>
    refine iteF ?_
    obtain ⟨j, rfl, rfl⟩ : ∃ i : Int, h = .int i ∧ y = .int i := by
      cases hy with
      | int i => exact ⟨i, rfl, rfl⟩
      | _ => cases w4
    refine ⟨_, rfl, p, _, 1, _, rfl, rfl, SqL.of hp, atI_nat (j := 1) rfl, ?_⟩
    refine ⟨by show 2 ≤ sizeLine; decide, fun t ht => ?_⟩
    have st := same_new (o := .tup [.int 1, .int 2]) ht
    have s12 := s11.trans st
    refine ⟨t, _, rfl, .inr (SqT.of upd_same), rfl, rfl, _, rfl, ?_⟩
    have hp := st _ _ hp
    generalize upd H11 t (.tup [.int 1, .int 2]) = H12 at *
    have ej : inV (.int j) [.int 1, .int 2] = wbD (.int j) 1 2 := by
      show ((1 : Int) == j || ((2 : Int) == j || false)) = (decide (1 ≤ j) && decide (j ≤ 2))
      by_cases j1 : j = 1
      · subst j1; rfl
      · by_cases j2 : j = 2
        · subst j2; rfl
        · rw [Bool.or_false, beq_false_of_ne (fun e => j1 e.symm), beq_false_of_ne (fun e => j2 e.symm)]
          symm
          by_cases q : 1 ≤ j
          · rw [decide_eq_false (p := j ≤ 2) (by omega), Bool.and_false]; rfl
          · rw [decide_eq_false q]; rfl
    show if (!inV (.int j) [.int 1, .int 2]) = true then _ else _
    rw [ej]
    cases w5 : wbD (.int j) 1 2 with
    | false =>
      have k := k _ s12
      rw [rulW_hear wr1 w5] at k
      exact iteT (iteT k)
    | true =>
    refine iteF ?_
    refine ⟨_, rfl, p, _, 1, _, rfl, rfl, SqL.of hp, atI_nat (j := 1) rfl, ?_⟩
    refine ⟨_, rfl, p, _, 0, _, rfl, rfl, SqL.of hp, atI_nat (j := 0) rfl, ?_⟩
    refine ⟨_, _, rfl, rfl, _, rfl, ?_⟩
    have k := k _ s12
    rw [rulW_lt wr1 w5] at k
    have el : ltD (.int i) (.int j) = decide (i < j) := rfl
    rw [el] at k
    cases w6 : decide (i < j) with
    | true =>
      rw [w6] at k
      exact iteT k
    | false =>
      rw [w6] at k
      exact iteF k
end
end K06

namespace K06
open PySem L2 Wm TL Dv De
section
variable {P : Program} {w : World} {K : PySem.W.Frag} {mg : Str → Option Value} {base : Heap}
variable {N : Addr → Prop}
theorem ok_told (T : Txt K mg) : FnOk P w K mg base CX0 1 T.a_told T.d_told ["_law_loops_here"] (sp_told K) := by
  refine T.F_told.ok sc_told (fun vs H Q E h => ?_) (fun cdv A outer s H vs Q E hr h => ?_)
  · obtain ⟨v, d, N, rfl, _⟩ := h
    rfl
  · obtain ⟨v, d, N, rfl, hd, c0, ew2, k⟩ := h
    obtain ⟨hbx, _⟩ := boxW_none ew2
    obtain ⟨e1, _, l3, hrow⟩ := loops_seq c0
    obtain ⟨a, xs, t, rfl, hS, hds, _⟩ := seq_en hd e1
    have lx := hds.len
    have bm : ∀ l ∈ itm d, ∀ b ∈ itm l, b ∈ bxs d := fun l m b m2 => List.mem_flatMap.mpr ⟨l, m, m2⟩
    refine ⟨_, (pss_one (ps_ret (pe_callTy call_tuple_of (by rfl) T.z_tuple (by decide +kernel) (pa_cons (pe_lc (own := [("_law_loop", 1)]) (g := gName 1) (tt := tYes) rfl sc_told.nd (Kd.pi_seq (pv 0)) (blkOk_by (own := [("_law_loop", 1)]) (N := nm_told) (sc := (defScope s_told)) (by decide +kernel)) (fun _ _ _ _ _ => pg_name (i := 1) sc_told.nd rfl (Or.inl rfl)) (fun _ _ _ _ _ => pts_nil) (fun _ _ _ _ _ => (pe_callTy (show CallR _ _ (Kx.rTupOf K) from call_tuple_of) (by rfl) T.z_tuple (by decide +kernel) (pa_cons (pe_lc (own := [("_law_box", 2)]) (g := gName 2) (tt := tYes) rfl sc_told.nd (show PI _ _ _ (Kd.iSeq K (tVar 1)) from (Kd.pi_seq (pv 1))) (blkOk_by (own := [("_law_box", 2)]) (N := nm_told) (sc := ({ kind := .function, names := [(".0", .local), ("_law_loop", .local), ("tuple", .globalImplicit)], isGenerator := false, isCoroutine := false } : Scope)) (by decide +kernel)) (fun _ _ _ _ _ => pg_name (i := 2) sc_told.nd rfl (Or.inl rfl)) (fun _ _ _ _ _ => pts_nil) (fun _ _ _ _ _ => (pe_tup (pa_cons (pe_ix (show IxR _ (Dz.rIxLT K) from Dz.ix_lt) (pv 2) pe_int (fun _ _ => rfl)) (pa_cons (pe_ix (show IxR _ (Dz.rIxLT K) from Dz.ix_lt) (pv 2) pe_int (fun _ _ => rfl)) pa_nil))))) pa_nil)))) pa_nil)))), ?_⟩
    refine ⟨_, rfl, a, xs, t, rfl, hS, fun J GG w hG D hD => ?_⟩
    refine Lm.lc_map (K := K) w (fun i y H' => ∃ e, ((itm d).map fun l => PyData.tuple ((itm l).map pairD))[i]? = some e ∧ Dt K H' y e) (fun _ _ _ _ ⟨d, e, t⟩ kt => ⟨d, e, t.k kt⟩) hD (by omega) (fun H' s => hG _ (hS.keep s)) (fun i x H' hi hx2 sm Q2 Z q => ?_) (fun H2 ys s2 hy ly hR => ?_)
    · obtain ⟨l, hl, t⟩ := hds.at hx2
      have ml := List.mem_of_getElem? hl
      have hd2 : ((itm d).map fun l => PyData.tuple ((itm l).map pairD))[i]? = some (.tuple ((itm l).map pairD)) := by rw [List.getElem?_map, hl]; rfl
      obtain ⟨f1, f2, f3⟩ := row_seq (hrow l ml)
      obtain ⟨q1, zs, t1, rfl, hq, hz, _⟩ := seq_en (t.ks sm) f1
      have lz := hz.len
      refine ⟨rfl, yesT ?_⟩
      refine ⟨_, rfl, q1, zs, t1, rfl, hq, fun J1 GG1 w1 hG1 D2 hD2 => ?_⟩
      refine Lm.lc_map (K := K) w1 (fun i y H' => ∃ e, ((itm l).map pairD)[i]? = some e ∧ Dt K H' y e) (fun _ _ _ _ ⟨d, e, t⟩ kt => ⟨d, e, t.k kt⟩) hD2 (by omega) (fun H' s => hG1 _ (hq.keep s)) (fun j x H3 hj hx3 sm3 Q3 Z3 q3 => ?_) (fun H3 zs3 s3 hy3 ly3 hR3 => ?_)
      · obtain ⟨b, hb, t3⟩ := hz.at hx3
        have mb := List.mem_of_getElem? hb
        obtain ⟨q2, t2, u, v, rfl, hq2, hp2⟩ := pair_dt (t3.ks sm3) (hbx b (bm l ml b mb))
        have eb : ((itm l).map pairD)[j]? = some (pairD b) := by rw [List.getElem?_map, hb]; rfl
        refine ⟨rfl, yesT ?_⟩
        refine ⟨_, rfl, ix_lt0 hq2 ⟨_, rfl, ix_lt1 hq2 ⟨by show 2 ≤ sizeLine; decide, fun l9 hl9 => ?_⟩⟩⟩
        exact q3 _ _ (same_new hl9) ⟨_, eb, dt_tup upd_same (hp2 _)⟩
      · refine ⟨D2, zs3, rfl, .inl ⟨SqL.of hy3, fun l2 hl2 => ?_⟩⟩
        have kt := Kt.new (K := K) (o := .tup zs3) hl2
        refine q _ _ (s3.trans (same_new hl2)) ⟨_, hd2, dt_tup upd_same ?_⟩
        exact (dts_of (by rw [ly3, lz, List.length_map]) hR3).k kt
    have hds := dts_of (by rw [ly, lx, List.length_map]) hR
    refine ⟨D, ys, rfl, .inl ⟨SqL.of hy, fun lp hlp => ?_⟩⟩
    exact k _ _ (dt_tup upd_same (hds.k (Kt.new hlp))) (s2.trans (same_new hlp))
end
end K06

namespace K06
open PySem L2 Wm TL Dv De
section
variable {P : Program} {w : World} {K : PySem.W.Frag} {mg : Str → Option Value} {base : Heap}
variable {N : Addr → Prop}
theorem len4s {σ : L2.St} (h : σ.length = 4) : ∃ a b c d, σ = [a, b, c, d] := by
  match σ, h with
  | [a, b, c, d], _ => exact ⟨a, b, c, d, rfl⟩
theorem ok_made (T : Txt K mg) : FnOk P w K mg base CX0 8 T.a_made T.d_made ["_law_loops_here", "_law_rules_here"] (sp_made K T.C) := by
  refine T.F_made.ok sc_made (fun vs H Q E h => ?_) (fun cdv A outer s H vs Q E hr h => ?_)
  · obtain ⟨v, p, x, y, d, r, h, N, rfl, _⟩ := h
    rfl
  · obtain ⟨v, p, x, y, d, r, h, N, rfl, hh, k⟩ := h
    refine ⟨_, (pss_cons (Ta.ps_try_ass (W := fun _ _ _ _ => False) rfl rfl sc_made.nd takes0 (fun U pn xe tk _ => (pss_one (ps_set (i := 2) sc_made.nd rfl (Or.inl rfl) (pe_makeK T.mk_init (ok_init T) (hr.mono (by decide)) (by rfl) T.gC T.kb2 (Po.passL 4 rfl tk) (pa_cons (pv 0) pa_nil) (pk_cons (pe_ix (show IxR _ (rIxL K) from ix_list) (pv 1) pe_int (fun _ _ => rfl)) (pk_cons (pe_ix (show IxR _ (rIxL K) from ix_list) (pv 1) pe_int (fun _ _ => rfl)) pk_nil)))))) (Ta.Hds.cons (h := ⟨Value.ref T.CT, 3, _⟩) rfl rfl ⟨rfl, by decide, Or.inl T.lowT.gC⟩ (fun a oe cls d pn hz hf => (St2.pss_two (ps_if (PW.pt (pw_or (pt_not (pt_val (pe_callB (Xe.call_isD T.xcT T.cliT hz hf) (by rfl) T.z_isinstance (by decide +kernel) (pa_cons (pv 3) (pa_cons (pe_glob (v := V.ref T.Wc) (by rfl) T.gWc rfl) pa_nil))))) (pw_or1 (pt_val (pe_callB (Xe.call_isD T.xcT T.cliT hz hf) (by rfl) T.z_isinstance (by decide +kernel) (pa_cons (pv 3) (pa_cons (pe_glob (v := V.ref T.Rc) (by rfl) T.gRc rfl) pa_nil))))))) (pss_one (ps_ret (pe_tup (pa_cons pe_str (pa_cons pe_str pa_nil))))) pss_nil) (ps_ret (pe_tup (pa_cons pe_str (pa_cons (pe_byLowT T.lowT hz hf (pv 3)) pa_nil)))) rfl)) Ta.Hds.nil))
      (pss_one (ps_ret (pe_tup (pa_cons pe_str (pa_cons (pe_lst (pa_cons (pe_fld (pv 2) rfl) (pa_cons (pe_fld (pv 2) rfl) (pa_cons (pe_fld (pv 2) rfl) (pa_cons (pe_fld (pv 2) rfl) pa_nil))))) pa_nil)))))), ?_⟩
    refine ⟨_, rfl, _, rfl, p, _, 0, _, rfl, rfl, SqL.of hh.p, atI_nat (j := 0) rfl, _, rfl, p, _, 1, _, rfl, rfl, SqL.of hh.p, atI_nat (j := 1) rfl, ?_⟩
    refine ⟨rfl, rfl, fun a dx ha hdx ne => ?_⟩
    have s2 : Same H (upd (upd H dx (.own a)) a (.ins T.C dx [])) := (same_new hdx).trans (same_new (by rw [upd_ne ne.symm]; exact ha))
    have io := mg_item (Nat.le_trans hh.mg.bk (by decide)) hh.off
    refine ⟨a, dx, v, x, y, d, r, h, N, rfl, upd_same, hh.v.ks s2, hh.x.ks s2, hh.y.ks s2, io, fun ew H' bu tA => ⟨rfl, ?_⟩, fun w ew H' dd s' he σ hσ => ⟨true, T.lowT.te, fun _ a0 ha0 => ?_, fun q => Bool.noConfusion q⟩⟩
    · have sH : Same H H' := fun q o e => bu q o (fun z => by rw [z, ha] at e; cases e) (s2 q o e)
      obtain ⟨dx2, fs, yl, y2, hp, l1, l2, l3, l4, l5, t, t2⟩ := tA
      refine ⟨_, rfl, a, T.C, dx2, fs, _, rfl, hp, T.clC, T.nL, l1, _, rfl, a, T.C, dx2, fs, _, rfl, hp, T.clC, T.nR, l2, _, rfl, a, T.C, dx2, fs, _, rfl, hp, T.clC, T.nH, l3, _, rfl, a, T.C, dx2, fs, _, rfl, hp, T.clC, T.nN, l4, ?_⟩
      refine ⟨by show 4 ≤ sizeLine; decide, fun l hl => ⟨by show 2 ≤ sizeLine; decide, fun u hu => ?_⟩⟩
      have sl := same_new (o := .lst [yl, .int (intD r), .int (intD h), y2]) hl
      have h1 : upd H' l (.lst [yl, .int (intD r), .int (intD h), y2]) l = some (.lst [yl, .int (intD r), .int (intD h), y2]) := upd_same
      have su := same_new (o := .tup [.str "town", .ref l]) hu
      refine k _ u ⟨fun w e => absurd (ew.symm.trans e) (by simp), fun _ => ⟨l, yl, y2, upd_same, su _ _ h1, t.k (Kt.same (sl.trans su)), t2.k (Kt.same (sl.trans su))⟩⟩ ((sH.trans sl).trans su)
    · obtain ⟨v0, v1, v2, v3, rfl⟩ := len4s hσ
      have s3 := s2.trans s'
      refine ⟨_, rfl, .ref T.Wc, _, true, dd, _, rfl, rfl, rfl, he, (fun u r => r), T.kTW, true, rfl, iteF ?_⟩
      refine ⟨_, rfl, .ref T.Rc, _, false, dd, _, rfl, rfl, rfl, he, (fun u r => r), T.kTR, false, rfl, iteF ?_⟩
      exact ⟨_, rfl, rfl, rfl, dd, _, rfl, he, by show 2 ≤ sizeLine; decide, fun q hq => k _ q ⟨fun w2 e => by rw [ew] at e; rw [upd_same, Option.some.inj e], fun e => by rw [ew] at e; cases e⟩ (s3.trans (same_new hq))⟩
end
end K06

namespace K06
open PySem L2 Wm TL Dv De
section
variable {P : Program} {w : World} {K : PySem.W.Frag} {mg : Str → Option Value} {base : Heap}
theorem fine_lst {n : Nat} {ds : List PyData} (h : ∀ d ∈ ds, Fine n d) : Fine (n + 1) (.list ds) := by
  have q := fine_tup h
  have q1 := q.1
  have q2 := q.2
  simp only [PyData.canLay0] at q1
  simp only [PyData.depth] at q2
  exact ⟨by simp only [PyData.canLay0]; exact q1, by simp only [PyData.depth]; exact q2⟩
theorem rulW_cases {r h : PyData} {w : Str} (e : rulW r h = some w) : w = "rounds" ∨ w = "hear" := by
  cases c1 : wbD r 1 8 with
  | false => rw [rulW_rounds c1] at e; exact .inl (Option.some.inj e).symm
  | true =>
    cases c2 : wbD h 1 2 with
    | false => rw [rulW_hear c1 c2] at e; exact .inr (Option.some.inj e).symm
    | true =>
      rw [rulW_lt c1 c2] at e
      cases c3 : ltD r h with
      | true => rw [c3] at e; exact .inr (Option.some.inj e).symm
      | false => rw [c3] at e; cases e
theorem boxW_cases {ds : List PyData} {w : Str} (e : boxW ds = some w) : w = "box" ∨ w = "number" ∨ w = "sort" ∨ w = "double" := by
  cases c1 : ds.all fun b => rowB b 2 2 with
  | false => rw [boxW_box c1] at e; exact .inl (Option.some.inj e).symm
  | true =>
    cases c2 : ds.all fun b => numB (fstD b) with
    | false => rw [boxW_number c1 c2] at e; exact .inr (.inl (Option.some.inj e).symm)
    | true =>
      cases c3 : ds.all fun b => sortB (sndD b) with
      | false => rw [boxW_sort c1 c2 c3] at e; exact .inr (.inr (.inl (Option.some.inj e).symm))
      | true =>
        rw [boxW_dbl c1 c2 c3] at e
        cases c4 : dblB ds with
        | true => rw [c4] at e; exact .inr (.inr (.inr (Option.some.inj e).symm))
        | false => rw [c4] at e; cases e
theorem word_fine {n : Nat} {d r h : PyData} {w : Str} (e : wordF d r h = some w) : Fine n (.str w) := by
  have c : w = "loops" ∨ (w = "rounds" ∨ w = "hear") ∨ w = "box" ∨ w = "number" ∨ w = "sort" ∨ w = "double" := by
    cases c0 : loopsB d with
    | false => rw [wordF_loops c0] at e; exact .inl (Option.some.inj e).symm
    | true =>
      cases c1 : boxW (bxs d) with
      | some x =>
        rw [wordF_box c0 c1] at e
        cases e
        exact .inr (.inr (boxW_cases c1))
      | none =>
        rw [wordF_rule c0 c1] at e
        exact .inr (.inl (rulW_cases e))
  rcases c with rfl | (rfl | rfl) | rfl | rfl | rfl | rfl
  all_goals exact fine_str (by decide +kernel)
theorem pair_fine {b : PyData} (c : rowB b 2 2 = true ∧ numB (fstD b) = true ∧ sortB (sndD b) = true) : Fine 0 (fstD b) ∧ Fine 0 (sndD b) := by
  obtain ⟨n, N, en⟩ := num_get c.2.1
  rw [en]
  refine ⟨fine_num fun d m => (N.dig d m).2, ?_⟩
  rcases sort_str c.2.2 with e | e <;> rw [e]
  all_goals exact fine_str (by decide +kernel)
theorem town_fine {d : PyData} (h : ∀ b ∈ bxs d, rowB b 2 2 = true ∧ numB (fstD b) = true ∧ sortB (sndD b) = true) : Fine 3 (townD d) := fine_tup fun x m => by
  obtain ⟨l, ml, rfl⟩ := List.mem_map.mp m
  refine fine_tup fun x m => ?_
  obtain ⟨b, mb, rfl⟩ := List.mem_map.mp m
  have f := pair_fine (h b (List.mem_flatMap.mpr ⟨l, ml, mb⟩))
  refine fine_tup fun x m => ?_
  rcases List.mem_cons.mp m with rfl | m
  · exact f.1
  · rw [List.mem_singleton.mp m]
    exact f.2
theorem names_fine {d : PyData} (h : ∀ b ∈ bxs d, rowB b 2 2 = true ∧ numB (fstD b) = true ∧ sortB (sndD b) = true) : Fine 1 (.tuple (namesD d)) := fine_tup fun x m => by
  obtain ⟨b, mb, rfl⟩ := List.mem_map.mp m
  exact (pair_fine (h b mb)).1
theorem TownAt.mv {H H' : Hp} {C p : Addr} {dl dn : PyData} {r h : Int} (t : TownAt K C H p dl dn r h) (k : Kt K H H') (f : ∀ a C dx fs, H a = some (.ins C dx fs) → H' a = some (.ins C dx fs)) : TownAt K C H' p dl dn r h := by
  obtain ⟨dx, fs, y, y2, hp, l1, l2, l3, l4, l5, t1, t2⟩ := t
  exact ⟨dx, fs, y, y2, f _ _ _ _ hp, l1, l2, l3, l4, l5, t1.k k, t2.k k⟩
/-- lists that grew, heads kept -/
structure Lg (K : PySem.W.Frag) (B : Addr) (H H' : Hp) : Prop where
  kt : Kt K H H'
  hd : ∀ a z zs, H a = some (.lst (z :: zs)) → ∃ zs', H' a = some (.lst (z :: zs')) ∧ zs.length ≤ zs'.length
  ins : ∀ a C dx fs, H a = some (.ins C dx fs) → H' a = some (.ins C dx fs)
  bb : H' B = H B
theorem Lg.refl {B : Addr} {H : Hp} : Lg K B H H := ⟨Kt.refl, fun _ _ zs h => ⟨zs, h, Nat.le_refl _⟩, fun _ _ _ _ h => h, rfl⟩
theorem same_lg {B : Addr} {H H' : Hp} (s : Same H H') (b : H B ≠ none) : Lg K B H H' := ⟨Kt.same s, fun a _ zs h => ⟨zs, s _ _ h, Nat.le_refl _⟩, fun a _ _ _ h => s _ _ h, by
  cases c : H B with
  | none => exact absurd c b
  | some o => exact s _ _ c⟩
theorem Lg.trans {B : Addr} {H H1 H2 : Hp} (a : Lg K B H H1) (b : Lg K B H1 H2) : Lg K B H H2 := ⟨a.kt.trans b.kt, fun p z zs h => by
  obtain ⟨zs1, h1, l1⟩ := a.hd p z zs h
  obtain ⟨zs2, h2, l2⟩ := b.hd p z zs1 h1
  exact ⟨zs2, h2, by omega⟩, fun p C dx fs h => b.ins _ _ _ _ (a.ins _ _ _ _ h), b.bb.trans a.bb⟩
theorem app_at {H : Hp} {a0 a : Addr} {xs zs : List V} {x z : V} (h0 : H a0 = some (.lst xs)) (h : H a = some (.lst (z :: zs))) : ∃ zs', upd H a0 (.lst (xs ++ [x])) a = some (.lst (z :: zs')) ∧ zs.length ≤ zs'.length ∧ zs'.length ≤ zs.length + 1 := by
  by_cases c : a = a0
  · subst c
    rw [h0] at h
    cases HO.lst.inj (Option.some.inj h)
    exact ⟨zs ++ [x], upd_same, by rw [List.length_append]; omega, by rw [List.length_append, List.length_singleton]; omega⟩
  · exact ⟨zs, by rw [upd_ne c]; exact h, by omega, by omega⟩
theorem lg_app {B : Addr} {H : Hp} {a0 : Addr} {xs : List V} {x : V} (h0 : H a0 = some (.lst xs)) (ne : a0 ≠ B) : Lg K B H (upd H a0 (.lst (xs ++ [x]))) := ⟨Kt.lst h0, fun a z zs h => let ⟨zs', h1, h2, _⟩ := app_at (x := x) h0 h; ⟨zs', h1, h2⟩, fun a C dx fs h => by
  rw [upd_ne (fun e => by rw [e, h0] at h; cases h)]
  exact h, by rw [upd_ne ne.symm]⟩
theorem lg_set {B : Addr} {H : Hp} {a0 : Addr} {z : V} {zs : List V} {x : V} (h0 : H a0 = some (.lst (z :: zs))) (ne : a0 ≠ B) : Lg K B H (upd H a0 (.lst ((z :: zs).set 1 x))) := ⟨Kt.lst h0, fun a y ys h => by
  by_cases c : a = a0
  · subst c
    rw [h0] at h
    cases HO.lst.inj (Option.some.inj h)
    exact ⟨zs.set 0 x, upd_same, by rw [List.length_set]; omega⟩
  · exact ⟨ys, by rw [upd_ne c]; exact h, by omega⟩, fun a C dx fs h => by
  rw [upd_ne (fun e => by rw [e, h0] at h; cases h)]
  exact h, by rw [upd_ne ne.symm]⟩
end
end K06

namespace K06
open PySem L2 Wm TL Dv De
section
variable {P : Program} {w : World} {K : PySem.W.Frag} {mg : Str → Option Value} {base : Heap}
theorem seq_cases {N : Addr → Prop} {H : Hp} {v : V} {d : PyData} (h : En K N H v d) (e : seqB d = true) : ∃ p xs, v = .ref p ∧ Ens K N H xs (itm d) ∧ (SqT K H p xs ∨ H p = some (.lst xs)) := by
  cases h with
  | tup s r => exact ⟨_, _, rfl, r, .inl s⟩
  | lst n e0 r => exact ⟨_, _, rfl, r, .inr e0⟩
  | _ => cases e
theorem is_tup {H : Hp} {p : Addr} {xs : List V} (h : SqT K H p xs) : TyX K H (.ref p) (.type "tuple") ∧ PySem.W.kitOne K (.type "tuple") (.type "list") = some false := ⟨tyT h, kit_ty (show _ = some false by decide +kernel)⟩
theorem is_lst {H : Hp} {p : Addr} {xs : List V} (h : H p = some (.lst xs)) : TyX K H (.ref p) (.type "list") ∧ PySem.W.kitOne K (.type "list") (.type "list") = some true := ⟨.base (.lst h), kit_ty (show _ = some true by decide +kernel)⟩
theorem ok_law (T : Txt K mg) : Rp.GOk P w K mg base CX0 9 T.a_law T.d_law ["_law_script"] (sp_law K) := by
  refine Rp.gok T.F_law sc_law (fun vs H Q E h => ?_) (fun cdv A outer s H vs Q E hg hr h => ?_)
  · obtain ⟨a, ns, rfl, _⟩ := h
    rfl
  · obtain ⟨a, ns, rfl, hS, hlen, k⟩ := h
    refine ⟨_, (pss_cons (ps_set (i := 1) sc_law.nd rfl (Or.inl rfl) (pe_call (ok_bag T) (hr.mono (by decide)) (by rfl) T.g_bag T.F_bag.kp T.b_bag .nil pass0 (pa_cons (pv 0) pa_nil)))
      (pss_cons (ps_set (i := 2) sc_law.nd rfl (Or.inl rfl) (pe_call (ok_formed T) (hr.mono (by decide)) (by rfl) T.g_formed T.F_formed.kp T.b_formed .nil pass0 (pa_cons (pv 1) (pa_cons (pe_call (ok_loops_spoilt T) (hr.mono (by decide)) (by rfl) T.g_loops_spoilt T.F_loops_spoilt.kp T.b_loops_spoilt .nil pass0 (pa_cons (pv 1) (pa_cons (pe_call (ok_boxes_spoilt T) (hr.mono (by decide)) (by rfl) T.g_boxes_spoilt T.F_boxes_spoilt.kp T.b_boxes_spoilt .nil pass0 (pa_cons (pv 1) (pa_cons (pe_call (ok_loops T) (hr.mono (by decide)) (by rfl) T.g_loops T.F_loops.kp T.b_loops .nil pass0 (pa_cons (pv 1) pa_nil)) pa_nil))) pa_nil))) pa_nil))))
      (pss_cons (ps_set (i := 3) sc_law.nd rfl (Or.inl rfl) (pe_call (ok_rules T) (hr.mono (by decide)) (by rfl) T.g_rules T.F_rules.kp T.b_rules .nil pass0 (pa_cons (pv 1) pa_nil)))
      (pss_cons (ps_set (i := 4) sc_law.nd rfl (Or.inl rfl) (pe_callB (show CallR _ _ (De.rReprE K) from De.call_reprE hg hr.units) (by rfl) T.z_repr (by decide +kernel) (pa_cons (pv 2) pa_nil)))
      (pss_cons (ps_set (i := 5) sc_law.nd rfl (Or.inl rfl) (pe_call (ok_word T) (hr.mono (by decide)) (by rfl) T.g_word T.F_word.kp T.b_word .nil pass0 (pa_cons (pv 2) (pa_cons (pv 3) pa_nil))))
      (pss_cons (ps_set (i := 6) sc_law.nd rfl (Or.inl rfl) (pe_call (ok_made T) (hr.mono (by decide)) (by rfl) T.g_made T.F_made.kp T.b_made .nil pass0 (pa_cons (pv 2) (pa_cons (pv 3) pa_nil))))
      (pss_cons (ps_if (pt_cmpR op_ne (pe_callB (show CallR _ _ (De.rReprE K) from De.call_reprE hg hr.units) (by rfl) T.z_repr (by decide +kernel) (pa_cons (pv 2) pa_nil)) (pv 4) (nomark _))
        (pss_one (ps_ret pe_bl))
        pss_nil)
      (pss_cons (ps_if (pt_cmpR op_notN (pv 5) pe_non (nomark _))
        (pss_one (ps_ret (pe_cmpR (op_eqD hr.units) (pv 6) (pe_tup (pa_cons pe_str (pa_cons (pv 5) pa_nil))) (nomark _))))
        pss_nil)
      (pss_cons (ps_set (i := 7) sc_law.nd rfl (Or.inl rfl) (pe_call (ok_told T) (hr.mono (by decide)) (by rfl) T.g_told T.F_told.kp T.b_told .nil pass0 (pa_cons (pv 2) pa_nil)))
      (pss_cons (ps_set (i := 8) sc_law.nd rfl (Or.inl rfl) (Dz.pe_lstZ pa_nil))
      (pss_cons (ps_for PassesOwn.never rfl (pi_tup (pv 7)) (pg_name (i := 9) sc_law.nd rfl (Or.inl rfl))
        (pss_one (ps_set (i := 8) sc_law.nd rfl (Or.inl rfl) (pe_op op_cat (pv 8) (pe_lc (own := [("_law_box", 10)]) (g := gName 10) (tt := tYes) rfl sc_law.nd (pi_tup (pv 9)) (blkOk_by (own := [("_law_box", 10)]) (N := nm_law) (sc := (defScope s_law)) (by decide +kernel)) (fun _ _ _ _ _ => pg_name (i := 10) sc_law.nd rfl (Or.inl rfl)) (fun _ _ _ _ _ => pts_nil) (fun _ _ _ _ _ => (pe_ix (show IxR _ (rIxT K) from ix_tup) (pv 10) pe_int (fun _ _ => rfl))))))))
      (pss_cons (ps_if (pt_cmpR (op_neD hr.units) (pv 6) (pe_tup (pa_cons pe_str (pa_cons (Dz.pe_lstZ (pa_cons (pv 7) (pa_cons (pe_ix ix_list (pv 3) pe_int (fun _ _ => rfl)) (pa_cons (pe_ix ix_list (pv 3) pe_int (fun _ _ => rfl)) (pa_cons (pe_callTy call_tuple_of (by rfl) T.z_tuple (by decide +kernel) (pa_cons (pv 8) pa_nil)) pa_nil))))) pa_nil))) (nomark _))
        (pss_one (ps_ret pe_bl))
        pss_nil)
      (pss_cons (ps_set (i := 11) sc_law.nd rfl (Or.inl rfl) (pe_makeK T.mk_init (ok_init T) (hr.mono (by decide)) (by rfl) T.gC T.kb Mk1.passF (pa_cons (pv 2) pa_nil) (pk_cons (pe_ix ix_list (pv 3) pe_int (fun _ _ => rfl)) pk_nil)))
      (pss_cons (ps_if (PW.pt (pw_or (pt_cmpR op_ne (pe_fld (pv 11) rfl) pe_int (nomark _)) (pw_or1 (pt_val (pe_callB call_isi (by rfl) T.z_isinstance (by decide +kernel) (pa_cons (pe_fld (pv 11) rfl) (pa_cons (pe_bltn (v := V.ty "bool") (by rfl) T.z_bool (by decide +kernel) rfl) pa_nil)))))))
        (pss_one (ps_ret pe_bl))
        pss_nil)
      (C8.pss_cut (ps_if (pt_val (pe_callB call_isi (by rfl) T.z_isinstance (by decide +kernel) (pa_cons (pv 2) (pa_cons (pe_bltn (v := V.ty "list") (by rfl) T.z_list (by decide +kernel) rfl) pa_nil))))
        (pss_cons (ps_expr (pe_bm PySem.F.plainAttrs_list PySem.F.slot_list_append PySem.F.type_list_append mt_append (pv 2) (pa_cons (Dz.pe_lstZ (pa_cons (pe_tup (pa_cons pe_str (pa_cons pe_str pa_nil))) pa_nil)) pa_nil)))
        (pss_one (ps_if (pt_val (pe_callB call_isi (by rfl) T.z_isinstance (by decide +kernel) (pa_cons (pe_ix ix_list (pv 2) pe_int (fun _ _ => rfl)) (pa_cons (pe_bltn (v := V.ty "list") (by rfl) T.z_list (by decide +kernel) rfl) pa_nil))))
          (pss_cons (ps_expr (pe_bm PySem.F.plainAttrs_list PySem.F.slot_list_append PySem.F.type_list_append mt_append (pe_ix ix_list (pv 2) pe_int (fun _ _ => rfl)) (pa_cons pe_non pa_nil)))
          (pss_one (ps_if (pt_val (pe_callB call_isi (by rfl) T.z_isinstance (by decide +kernel) (pa_cons (pe_ix ix_list (pe_ix ix_list (pv 2) pe_int (fun _ _ => rfl)) pe_int (fun _ _ => rfl)) (pa_cons (pe_bltn (v := V.ty "list") (by rfl) T.z_list (by decide +kernel) rfl) pa_nil))))
            (pss_cons (ps_set (i := 12) sc_law.nd rfl (Or.inl rfl) (pe_ix ix_list (pe_ix ix_list (pv 2) pe_int (fun _ _ => rfl)) pe_int (fun _ _ => rfl)))
            (pss_one (ps_asg pe_str (pg_sub (pv 12) pe_int set_list))))
            pss_nil)))
          pss_nil)))
        pss_nil)
      (pss_one (ps_ret (pe_and (pe_cmpR (op_eqD hr.units) (pe_fld (pv 11) rfl) (pv 7) (nomark _)) (pe_one (pe_cmpR (op_eqD hr.units) (pe_fld (pv 11) rfl) (pe_callTy call_tuple_of (by rfl) T.z_tuple (by decide +kernel) (pa_cons (pv 8) pa_nil)) (nomark _))))))))))))))))))))), ?_⟩
    refine ⟨_, rfl, a, ns, rfl, hS, hlen, fun H1 b s1 bag1 => ?_⟩
    refine ⟨_, rfl, _, rfl, _, rfl, _, rfl, b, 0, rfl, bag1, by omega, fun H2 L κ fr g kL bag2 but2 => ?_⟩
    refine ⟨b, _, L, κ, H1, 0, rfl, bag2, by omega, bag1, but2, fr, g, kL, fun H3 gd bag3 => ?_⟩
    refine ⟨b, _, L, rfl, bag3, by omega, gd, fun H4 v gv bag4 => ?_⟩
    refine ⟨b, _, v, rfl, bag4, by omega, gv, fun H5 v d ev mg bag5 => ?_⟩
    refine ⟨_, rfl, b, _, rfl, bag5, by omega, fun H6 p x y r h pb hp ex ey bag6 but6 => ?_⟩
    have ev : En K (Nz b) H6 v d := En.kk (Lm.kt_but bag5 but6) (fun a o n h => ⟨n, but6.keep a o n.2 h⟩) d v ev
    have hh : Hand K (Nz b) H6 v p x y d r h := ⟨ev, hp, ex, ey, fun a n => n.1, mg⟩
    clear ev ex ey gv gd g fr bag1 bag2 bag3 bag4 bag5 but2 but6 hS s1 kL
    have dsz : d.shown.length ≤ sizeLine := PyData.shown_fits_bulk (B := 13) (by decide) (by decide) mg.ls (Nat.le_trans mg.bk (by decide))
    refine ⟨_, rfl, v, d, Nz b, rfl, hh.off, hh.v, mg.sh, Nat.le_trans mg.dp (by decide), dsz, ?_⟩
    refine ⟨_, rfl, _, rfl, v, p, x, y, d, r, h, Nz b, rfl, hh, fun H7 s7 => ?_⟩
    have hk : ∀ {H'}, Same H6 H' → Hand K (Nz b) H' v p x y d r h := fun s => ⟨hh.v.ks s, s _ _ hh.p, hh.x.ks s, hh.y.ks s, hh.off, hh.mg⟩
    refine ⟨_, rfl, _, rfl, v, p, x, y, d, r, h, Nz b, rfl, hk s7, fun H8 u tw s8 => ?_⟩
    have s8 := s7.trans s8
    refine ⟨_, rfl, v, d, Nz b, rfl, hh.off, hh.v.ks s8, mg.sh, Nat.le_trans mg.dp (by decide), dsz, ?_⟩
    refine ⟨_, rfl, rfl, _, rfl, ite2 (fun c => absurd c (by simp)) (fun _ => ?_)⟩
    cases ew : wordF d r h with
    | some wd =>
      have hu := tw.1 wd ew
      refine ⟨_, rfl, rfl, _, rfl, ite2 (fun _ => ?_) (fun c => absurd c (by simp [wordV]))⟩
      refine ⟨_, rfl, _, rfl, by show 2 ≤ sizeLine; decide, fun q hq => ?_⟩
      have hu2 := at_old (u := .tup [V.str "bad", V.str wd]) hu hq
      have fw : Fine 1 (.tuple [.str "bad", .str wd]) := fine_tup fun x m => by
        rcases List.mem_cons.mp m with rfl | m
        · exact fine_str (by decide +kernel)
        · rw [List.mem_singleton.mp m]
          exact word_fine ew
      refine ⟨_, _, (dt_tup hu2 (.cons (.str _) (.cons (.str _) .nil))).toDp, (dt_tup (upd_same) (.cons (.str _) (.cons (.str _) .nil))).toDp, fw.shaped (by decide), fw.shaped (by decide), ?_⟩
      rw [fw.refl]
      exact k _
    | none =>
    refine ⟨_, rfl, rfl, _, rfl, ite2 (fun c => absurd c (by simp [wordV])) (fun _ => ?_)⟩
    obtain ⟨l, yl, y2, hu, hl, tl, t2⟩ := tw.2 ew
    obtain ⟨c0, ew2, ew3⟩ := wordF_none ew
    obtain ⟨hbx, _⟩ := boxW_none ew2
    obtain ⟨ew4, ew5, ew6⟩ := rulW_none ew3
    obtain ⟨ri, rfl, rfl⟩ := wb_int hh.x ew4
    obtain ⟨hi, rfl, rfl⟩ := wb_int hh.y ew5
    refine ⟨_, rfl, v, d, Nz b, rfl, hh.v.ks s8, c0, ew2, fun H9 u9 td s9 => ?_⟩
    have s69 := s8.trans s9
    refine ⟨Nat.zero_le _, fun n0 _ hn0 => ?_⟩
    have hn1 : upd H9 n0 (.lst []) n0 = some (.lst []) := upd_same
    have s10 := same_new (o := .lst []) hn0
    generalize upd H9 n0 (.lst []) = H10 at *
    have td := td.k (Kt.same s10)
    obtain ⟨q9, ls9, e9, hq9, hds9⟩ := td.inv
    cases e9
    have l9 := hds9.len
    rw [List.length_map] at l9
    have l3 := (loops_seq c0).2.2.1
    have hrow := (loops_seq c0).2.2.2
    refine ⟨_, rfl, u9, rfl, ⟨_, hq9⟩, ?_⟩
    refine for_it walk_tup (fun i σ H' => ∃ (B : Addr) (bs : List V) (v9 : Option V), σ = [some (.ref a), some (.ref b), some v, some (.ref p), some (.str d.shown), some .non, some (.ref u), some (.ref u9), some (.ref B), v9, none, none, none] ∧ Same H10 H' ∧ H9 B = none ∧ H' B = some (.lst bs) ∧ Dts K H10 bs ((((itm d).take i).flatMap itm).map fstD)) ⟨n0, [], none, rfl, Same.refl _, hn0, hn1, .nil⟩ (fun i σ H' _ h => let ⟨_, _, _, _, s, _⟩ := h; sameT s hq9) (fun i z σ H11 H' hi hP hY => ?_) (fun σ H11 hP => ?_)
    · obtain ⟨B, bs, v9, rfl, s11, fB, hB, hbs⟩ := hP
      obtain ⟨rfl, hx2⟩ := hY
      obtain ⟨e, he, t⟩ := hds9.at hx2
      rw [List.getElem?_map] at he
      obtain ⟨l, hl, rfl⟩ := Option.map_eq_some_iff.mp he
      have ml := List.mem_of_getElem? hl
      obtain ⟨_, _, f3⟩ := row_seq (hrow l ml)
      obtain ⟨q1, zs, rfl, hq, hz⟩ := t.inv
      have lz := hz.len
      rw [List.length_map] at lz
      have l30 := fm_le hrow l3 i
      have lb := hbs.len
      rw [List.length_map] at lb
      refine ⟨_, rfl, _, rfl, q1, rfl, ⟨_, sameT s11 hq⟩, fun D hD => ?_⟩
      refine Lm.lc_map (K := K) walk_tup (fun i y _ => ∃ e, ((itm l).map fstD)[i]? = some e ∧ Dt K H10 y e) (fun _ _ _ _ h _ => h) hD (by omega) (fun H' s => sameT (s11.trans s) hq) (fun j y H3 hj hx3 sm3 Q3 Z3 q3 => ?_) (fun H3 zs3 s3 hy3 ly3 hR3 => ?_)
      · obtain ⟨e, he, a3⟩ := hz.at hx3
        rw [List.getElem?_map] at he
        obtain ⟨b, hb, rfl⟩ := Option.map_eq_some_iff.mp he
        obtain ⟨q2, u, v, rfl, hq2, du⟩ := pair_inv a3
        refine ⟨rfl, yesT ?_⟩
        exact ⟨_, rfl, q2, _, 0, _, rfl, rfl, sameT (s11.trans sm3) hq2, atI_nat (j := 0) rfl, q3 _ _ (Same.refl _) ⟨fstD b, by rw [List.getElem?_map, hb]; rfl, du⟩⟩
      have dz := dts_of (K := K) (H := H10) (ds := (itm l).map fstD) (by rw [ly3, lz, List.length_map]) hR3
      have hB3 := s3 _ _ hB
      refine ⟨B, D, bs, zs3, rfl, rfl, hB3, hy3, small_len (by omega), fun c hc => ?_⟩
      have s13 := s11.trans s3
      refine ⟨c, bs ++ zs3, _, rfl, s13.trans (same_new hc), s10.free (s13.free hc), upd_same, ?_⟩
      rw [fm_succ hl, List.map_append]
      exact hbs.app dz
    obtain ⟨B, bs, v9, rfl, s11, fB, hB, hbs⟩ := hP
    rw [l9, List.take_length] at hbs
    have hbs : Dts K H11 bs (namesD d) := Dts.k hbs (Kt.same s11)
    have s911 := s10.trans s11
    have td := td.k (Kt.same s11)
    have hu := s911 _ _ (s9 _ _ hu)
    have hl := s911 _ _ (s9 _ _ hl)
    have tl := tl.k (Kt.same (s9.trans s911))
    have t2 := t2.k (Kt.same (s9.trans s911))
    have hp := (s69.trans s911) _ _ hh.p
    have ftl := town_fine hbx
    have fnm := names_fine hbx
    have fA : Fine 4 (.list [townD d, .int ri, .int hi, .tuple (namesD d)]) := fine_lst fun x m => by
      rcases List.mem_cons.mp m with rfl | m
      · exact ftl
      · rcases List.mem_cons.mp m with rfl | m
        · exact fine_int _
        · rcases List.mem_cons.mp m with rfl | m
          · exact fine_int _
          · rw [List.mem_singleton.mp m]
            exact fnm.mono (by omega)
    have fT : Fine 5 (.tuple [.str "town", .list [townD d, .int ri, .int hi, .tuple (namesD d)]]) := fine_tup fun x m => by
      rcases List.mem_cons.mp m with rfl | m
      · exact fine_str (by decide +kernel)
      · rw [List.mem_singleton.mp m]
        exact fA
    refine ⟨_, rfl, _, rfl, _, rfl, p, _, 0, _, rfl, rfl, SqL.of hp, atI_nat (j := 0) rfl, _, rfl, p, _, 1, _, rfl, rfl, SqL.of hp, atI_nat (j := 1) rfl, _, rfl, B, bs, rfl, .inl ⟨SqL.of hB, fun n2 hn2 => ?_⟩⟩
    have s12 := same_new (o := .tup bs) hn2
    have tn : Dt K (upd H11 n2 (.tup bs)) (.ref n2) (.tuple (namesD d)) := dt_tup upd_same (hbs.k (Kt.same s12))
    generalize upd H11 n2 (.tup bs) = H12 at *
    refine ⟨by show 4 ≤ sizeLine; decide, fun q nq hq => ?_⟩
    have s13 := same_new (o := .lst [V.ref u9, V.int ri, V.int hi, V.ref n2]) hq
    have hq1 : upd H12 q (.lst [V.ref u9, V.int ri, V.int hi, V.ref n2]) q = some (.lst [V.ref u9, V.int ri, V.int hi, V.ref n2]) := upd_same
    have tn := tn.k (Kt.same s13)
    generalize upd H12 q (.lst [V.ref u9, V.int ri, V.int hi, V.ref n2]) = H13 at *
    refine ⟨by show 2 ≤ sizeLine; decide, fun q2 hq2 => ?_⟩
    have s14 := same_new (o := .tup [V.str "town", V.ref q]) hq2
    have hq3 : SqT K (upd H13 q2 (.tup [V.str "town", V.ref q])) q2 [V.str "town", V.ref q] := SqT.of upd_same
    have hq1 := s14 _ _ hq1
    have tn := tn.k (Kt.same s14)
    generalize upd H13 q2 (.tup [V.str "town", V.ref q]) = H14 at *
    have sE := (s12.trans s13).trans s14
    have kE := Kt.same (K := K) sE
    have dA : Dp K H14 (.ref u) (.tuple [.str "town", .list [townD d, .int ri, .int hi, .tuple (namesD d)]]) := .tup (SqT.of (sE _ _ hu)) (.cons (.str _) (.cons (.lst (SqL.of (sE _ _ hl)) (.cons (tl.k kE).toDp (.cons (.int _) (.cons (.int _) (.cons (t2.k kE).toDp .nil))))) .nil))
    have dB : Dp K H14 (.ref q2) (.tuple [.str "town", .list [townD d, .int ri, .int hi, .tuple (namesD d)]]) := .tup hq3 (.cons (.str _) (.cons (.lst (SqL.of hq1) (.cons (td.k kE).toDp (.cons (.int _) (.cons (.int _) (.cons tn.toDp .nil))))) .nil))
    refine ⟨_, _, dA, dB, fT.shaped (by decide), fT.shaped (by decide), _, rfl, ite2 (fun c => absurd c (by rw [fT.refl]; exact Bool.false_ne_true)) (fun _ => ?_)⟩
    have s614 := (s69.trans s911).trans sE
    have hB := sE _ _ hB
    have hbs := hbs.k kE
    have td := td.k kE
    have hp := sE _ _ hp
    clear dA dB hq3 hq1 tn tl t2 hu hl
    have ri1 : 1 ≤ ri := of_decide_eq_true (Bool.and_eq_true_iff.mp (show (decide (1 ≤ ri) && decide (ri ≤ 8)) = true from ew4)).1
    have ew1 : wordF d (.int ri) (.int 1) = none := by
      rw [wordF_rule c0 ew2, rulW_lt ew4 (show wbD (.int 1) 1 2 = true from rfl), if_neg]
      show ¬ decide (ri < 1) = true
      rw [decide_eq_false (by omega)]
      exact Bool.false_ne_true
    have io := mg_item (Nat.le_trans mg.bk (by decide)) hh.off
    refine ⟨_, rfl, _, rfl, p, _, 0, _, rfl, rfl, SqL.of hp, atI_nat (j := 0) rfl, ?_⟩
    refine ⟨rfl, rfl, fun tw dx ht hdx ne => ?_⟩
    have s15 : Same H14 (upd (upd H14 dx (.own tw)) tw (.ins T.C dx [])) := (same_new hdx).trans (same_new (by rw [upd_ne ne.symm]; exact ht))
    refine ⟨tw, dx, v, .int ri, .int 1, d, .int ri, .int 1, Nz b, rfl, upd_same, hh.v.ks (s614.trans s15), .int _, .int _, io, fun _ H15 bu tA => ⟨rfl, ?_⟩, fun w e => absurd (ew1.symm.trans e) (by simp)⟩
    have s1415 : Same H14 H15 := fun q o e => bu q o (fun z => by rw [z, ht] at e; cases e) (s15 q o e)
    have s615 := s614.trans s1415
    have hB := s1415 _ _ hB
    have hbs := hbs.k (Kt.same s1415)
    have td := td.k (Kt.same s1415)
    clear bu s15
    obtain ⟨dx2, fs, yl, y2, hp2, m1, m2, m3, m4, m5, t1, t2⟩ := id tA
    refine ⟨_, rfl, tw, T.C, dx2, fs, _, rfl, hp2, T.clC, T.nH, m3, ?_⟩
    refine ⟨rfl, _, rfl, iteF ?_⟩
    refine ⟨_, rfl, tw, T.C, dx2, fs, _, rfl, hp2, T.clC, T.nH, m3, ?_⟩
    refine ⟨_, _, _, _, false, rfl, .ty "bool", .base (.int _), kit_ty (show _ = some false by decide +kernel), false, rfl, iteF ?_⟩
    have s915 := (s911.trans sE).trans s1415
    refine ⟨fun σ H' => (∃ v9 v12, σ = [some (.ref a), some (.ref b), some v, some (.ref p), some (.str d.shown), some .non, some (.ref u), some (.ref u9), some (.ref B), v9, none, some (.ref tw), v12]) ∧ Lg K B H15 H', ?_, ?_⟩
    · obtain ⟨sq, l1, _, _⟩ := loops_seq c0
      obtain ⟨a0, xs0, rfl, hx0, ha0⟩ := seq_cases (hh.v.ks s69) sq
      have lx0 := hx0.len
      rcases ha0 with ha0 | ha0
      · obtain ⟨ty, kt⟩ := is_tup (sameT s915 ha0)
        exact ⟨_, rfl, _, _, _, _, false, rfl, .ty "list", ty, kt, _, rfl, iteF ⟨⟨_, _, rfl⟩, Lg.refl⟩⟩
      have n0 : a0 ≠ B := fun e => by rw [e, fB] at ha0; cases ha0
      have h15 := s915 _ _ ha0
      obtain ⟨ty, kt⟩ := is_lst (K := K) h15
      refine ⟨_, rfl, _, _, _, _, true, rfl, .ty "list", ty, kt, _, rfl, iteT ?_⟩
      refine ⟨_, rfl, .inl ⟨rfl, _, SqL.of h15⟩, by show 2 ≤ sizeLine; decide, fun t ht => ⟨by show 1 ≤ sizeLine; decide, fun q3 nq3 hq3 => ?_⟩⟩
      have s16 := (same_new (o := .tup [V.str "1", V.str "shy"]) ht).trans (same_new (o := .lst [V.ref t]) hq3)
      generalize upd (upd H15 t (.tup [V.str "1", V.str "shy"])) q3 (.lst [V.ref t]) = H16 at *
      have h16 := s16 _ _ h15
      have hBn : H15 B ≠ none := by rw [hB]; simp
      have lg16 : Lg K B H15 H16 := same_lg s16 hBn
      obtain ⟨x0, xr, rfl⟩ : ∃ x0 xr, xs0 = x0 :: xr := by
        cases xs0 with
        | nil => rw [← lx0] at l1; simp at l1
        | cons x0 xr => exact ⟨x0, xr, rfl⟩
      obtain ⟨d0, hd0, e0⟩ := hx0.at (i := 0) rfl
      obtain ⟨sq1, k1, k2⟩ := row_seq (hrow d0 (List.mem_of_getElem? hd0))
      obtain ⟨a1, zs, rfl, hz, ha1⟩ := seq_cases e0 sq1
      have lz := hz.len
      refine ⟨a0, _, _, rfl, rfl, h16, small1000 (by omega), ?_⟩
      have lg17 := lg16.trans (lg_app (x := .ref q3) h16 n0)
      have h17 : upd H16 a0 (.lst (V.ref a1 :: xr ++ [V.ref q3])) a0 = some (.lst (V.ref a1 :: (xr ++ [V.ref q3]))) := upd_same
      refine ⟨_, rfl, a0, _, 0, _, rfl, rfl, SqL.of h17, atI_nat (j := 0) rfl, ?_⟩
      rcases ha1 with ha1 | ha1
      · obtain ⟨ty, kt⟩ := is_tup (lg17.kt _ _ (sameT s915 ha1))
        exact ⟨_, _, _, _, false, rfl, .ty "list", ty, kt, _, rfl, iteF ⟨⟨_, _, rfl⟩, lg17⟩⟩
      have n1 : a1 ≠ B := fun e => by rw [e, fB] at ha1; cases ha1
      obtain ⟨z0, zr, rfl⟩ : ∃ x0 xr, zs = x0 :: xr := by
        cases zs with
        | nil => rw [← lz] at k1; simp at k1
        | cons x0 xr => exact ⟨x0, xr, rfl⟩
      obtain ⟨zs', h17a, lz1, lz2⟩ := app_at (x := .ref q3) h16 (s16 _ _ (s915 _ _ ha1))
      have h17a : upd H16 a0 (.lst (V.ref a1 :: xr ++ [V.ref q3])) a1 = some (.lst (z0 :: zs')) := h17a
      have lg17 : Lg K B H15 (upd H16 a0 (.lst (V.ref a1 :: xr ++ [V.ref q3]))) := lg17
      show _
      generalize upd H16 a0 (.lst (V.ref a1 :: xr ++ [V.ref q3])) = H17 at *
      obtain ⟨ty, kt⟩ := is_lst (K := K) h17a
      refine ⟨_, _, _, _, true, rfl, .ty "list", ty, kt, _, rfl, iteT ?_⟩
      rw [List.length_cons] at lz
      refine ⟨_, rfl, a0, _, 0, _, rfl, rfl, SqL.of h17, atI_nat (j := 0) rfl, .inl ⟨rfl, _, SqL.of h17a⟩, a1, _, _, rfl, rfl, h17a, small1000 (by rw [List.length_cons]; omega), ?_⟩
      have lg18 := lg17.trans (lg_app (x := .non) h17a n1)
      have h18 : upd H17 a1 (.lst (z0 :: zs' ++ [.non])) a1 = some (.lst (z0 :: (zs' ++ [.non]))) := upd_same
      obtain ⟨ys0, h18a, _⟩ := (lg_app (K := K) (x := .non) h17a n1).hd a0 _ _ h17
      have h18a : upd H17 a1 (.lst (z0 :: zs' ++ [.non])) a0 = some (.lst (V.ref a1 :: ys0)) := h18a
      have lg18 : Lg K B H15 (upd H17 a1 (.lst (z0 :: zs' ++ [.non]))) := lg18
      show _
      generalize upd H17 a1 (.lst (z0 :: zs' ++ [.non])) = H18 at *
      obtain ⟨b0, hb0, eb0⟩ := hz.at (i := 0) rfl
      obtain ⟨sq2, k3, k4⟩ := row_seq (hbx b0 (List.mem_flatMap.mpr ⟨d0, List.mem_of_getElem? hd0, List.mem_of_getElem? hb0⟩)).1
      obtain ⟨a2, ws, rfl, hw, ha2⟩ := seq_cases eb0 sq2
      have lw := hw.len
      refine ⟨_, rfl, a0, _, 0, _, rfl, rfl, SqL.of h18a, atI_nat (j := 0) rfl, a1, _, 0, _, rfl, rfl, SqL.of h18, atI_nat (j := 0) rfl, ?_⟩
      rcases ha2 with ha2 | ha2
      · obtain ⟨ty, kt⟩ := is_tup (lg18.kt _ _ (sameT s915 ha2))
        exact ⟨_, _, _, _, false, rfl, .ty "list", ty, kt, _, rfl, iteF ⟨⟨_, _, rfl⟩, lg18⟩⟩
      have n2 : a2 ≠ B := fun e => by rw [e, fB] at ha2; cases ha2
      obtain ⟨w0, wr, rfl⟩ : ∃ x0 xr, ws = x0 :: xr := by
        cases ws with
        | nil => rw [← lw] at k3; simp at k3
        | cons x0 xr => exact ⟨x0, xr, rfl⟩
      rw [List.length_cons] at lw
      obtain ⟨ws', h18b, lw1⟩ := lg18.hd a2 _ _ (s915 _ _ ha2)
      obtain ⟨ty, kt⟩ := is_lst (K := K) h18b
      refine ⟨_, _, _, _, true, rfl, .ty "list", ty, kt, _, rfl, iteT ?_⟩
      refine ⟨_, rfl, a0, _, 0, _, rfl, rfl, SqL.of h18a, atI_nat (j := 0) rfl, a1, _, 0, _, rfl, rfl, SqL.of h18, atI_nat (j := 0) rfl, ?_⟩
      have hix : ixN (w0 :: ws').length 1 = some 1 := by
        unfold ixN
        rw [if_pos (by decide), if_pos (by rw [List.length_cons]; omega)]
        rfl
      refine ⟨_, rfl, a2, _, 1, 1, rfl, rfl, h18b, hix, ?_⟩
      exact ⟨⟨_, _, rfl⟩, lg18.trans (lg_set h18b n2)⟩
    · rintro σ H16 ⟨⟨v9, v12, rfl⟩, lg⟩
      clear hp2 m1 m2 m3 m4 m5 t1 t2
      obtain ⟨dx3, fs3, yl3, y3, hp3, j1, j2, j3, j4, j5, t1, t2⟩ := tA.mv lg.kt lg.ins
      have td := td.k lg.kt
      have hB := lg.bb.trans hB
      have hbs := hbs.k lg.kt
      refine ⟨_, rfl, tw, T.C, dx3, fs3, _, rfl, hp3, T.clC, T.nL, j1, _, rfl, _, _, t1.toDp, td.toDp, ftl.shaped (by decide), ftl.shaped (by decide), _, rfl, ?_⟩
      rw [ftl.refl]
      refine iteT ?_
      refine ⟨_, rfl, tw, T.C, dx3, fs3, _, rfl, hp3, T.clC, T.nN, j4, _, rfl, B, bs, rfl, .inl ⟨SqL.of hB, fun n2 hn2 => ?_⟩⟩
      have s12 := same_new (o := .tup bs) hn2
      have tn : Dt K (upd H16 n2 (.tup bs)) (.ref n2) (.tuple (namesD d)) := dt_tup upd_same (hbs.k (Kt.same s12))
      refine ⟨_, _, (t2.k (Kt.same s12)).toDp, tn.toDp, fnm.shaped (by decide), fnm.shaped (by decide), ?_⟩
      rw [fnm.refl]
      exact k _
end
end K06

namespace K06
open PySem L2 Wm TL Dv PySem.W
theorem all_mk {l : PySem.W.OpenLaw} {w : World} {K : PySem.W.Frag} {h : Heap} {mg : Str → Option Value} {fa : Addr} (X : K.In h) (G : h.Ns mainGlobals mg) (hfa : mg "law" = some (.ref fa))
    {xC : Addr}
    (axC : PySem.W.nsIn K mainGlobals "Town" = some (some (.ref xC)))
    {x_is_whole : Addr} {od_is_whole an_is_whole : Option Addr} {sl_is_whole : Array (Option Value)} {oc_is_whole dc_is_whole pm_is_whole cd_is_whole ct_is_whole : Value}
    {kV_is_whole : Value}
    (a_is_whole : PySem.W.nsIn K mainGlobals "is_whole" = some (some (.ref x_is_whole)))
    (l_is_whole : K.lookup x_is_whole = some ⟨oc_is_whole, od_is_whole, .func (PySem.W.fnOf "is_whole" "is_whole" (defArgs s_is_whole) (defBody s_is_whole) (defScope s_is_whole) .none kV_is_whole dc_is_whole pm_is_whole an_is_whole cd_is_whole ct_is_whole), sl_is_whole⟩)
    (c_is_whole : PySem.W.codeIn K cd_is_whole "is_whole" = true)
    (k_is_whole : PySem.W.keepIn K (.ref x_is_whole) = true)
    {x_is_whole_within : Addr} {od_is_whole_within an_is_whole_within : Option Addr} {sl_is_whole_within : Array (Option Value)} {oc_is_whole_within dc_is_whole_within pm_is_whole_within cd_is_whole_within ct_is_whole_within : Value}
    {kV_is_whole_within : Value}
    (a_is_whole_within : PySem.W.nsIn K mainGlobals "is_whole_within" = some (some (.ref x_is_whole_within)))
    (l_is_whole_within : K.lookup x_is_whole_within = some ⟨oc_is_whole_within, od_is_whole_within, .func (PySem.W.fnOf "is_whole_within" "is_whole_within" (defArgs s_is_whole_within) (defBody s_is_whole_within) (defScope s_is_whole_within) .none kV_is_whole_within dc_is_whole_within pm_is_whole_within an_is_whole_within cd_is_whole_within ct_is_whole_within), sl_is_whole_within⟩)
    (c_is_whole_within : PySem.W.codeIn K cd_is_whole_within "is_whole_within" = true)
    (k_is_whole_within : PySem.W.keepIn K (.ref x_is_whole_within) = true)
    {x_is_sequence : Addr} {od_is_sequence an_is_sequence : Option Addr} {sl_is_sequence : Array (Option Value)} {oc_is_sequence dc_is_sequence pm_is_sequence cd_is_sequence ct_is_sequence : Value}
    {kV_is_sequence : Value}
    (a_is_sequence : PySem.W.nsIn K mainGlobals "is_sequence" = some (some (.ref x_is_sequence)))
    (l_is_sequence : K.lookup x_is_sequence = some ⟨oc_is_sequence, od_is_sequence, .func (PySem.W.fnOf "is_sequence" "is_sequence" (defArgs s_is_sequence) (defBody s_is_sequence) (defScope s_is_sequence) .none kV_is_sequence dc_is_sequence pm_is_sequence an_is_sequence cd_is_sequence ct_is_sequence), sl_is_sequence⟩)
    (c_is_sequence : PySem.W.codeIn K cd_is_sequence "is_sequence" = true)
    (k_is_sequence : PySem.W.keepIn K (.ref x_is_sequence) = true)
    {x_is_number : Addr} {od_is_number an_is_number : Option Addr} {sl_is_number : Array (Option Value)} {oc_is_number dc_is_number pm_is_number cd_is_number ct_is_number : Value}
    {kV_is_number : Value}
    (a_is_number : PySem.W.nsIn K mainGlobals "is_number" = some (some (.ref x_is_number)))
    (l_is_number : K.lookup x_is_number = some ⟨oc_is_number, od_is_number, .func (PySem.W.fnOf "is_number" "is_number" (defArgs s_is_number) (defBody s_is_number) (defScope s_is_number) .none kV_is_number dc_is_number pm_is_number an_is_number cd_is_number ct_is_number), sl_is_number⟩)
    (c_is_number : PySem.W.codeIn K cd_is_number "is_number" = true)
    (k_is_number : PySem.W.keepIn K (.ref x_is_number) = true)
    {x_is_sort : Addr} {od_is_sort an_is_sort : Option Addr} {sl_is_sort : Array (Option Value)} {oc_is_sort dc_is_sort pm_is_sort cd_is_sort ct_is_sort : Value}
    {kV_is_sort : Value}
    (a_is_sort : PySem.W.nsIn K mainGlobals "is_sort" = some (some (.ref x_is_sort)))
    (l_is_sort : K.lookup x_is_sort = some ⟨oc_is_sort, od_is_sort, .func (PySem.W.fnOf "is_sort" "is_sort" (defArgs s_is_sort) (defBody s_is_sort) (defScope s_is_sort) .none kV_is_sort dc_is_sort pm_is_sort an_is_sort cd_is_sort ct_is_sort), sl_is_sort⟩)
    (c_is_sort : PySem.W.codeIn K cd_is_sort "is_sort" = true)
    (k_is_sort : PySem.W.keepIn K (.ref x_is_sort) = true)
    {x_has_double : Addr} {od_has_double an_has_double : Option Addr} {sl_has_double : Array (Option Value)} {oc_has_double dc_has_double pm_has_double cd_has_double ct_has_double : Value}
    {kV_has_double : Value}
    (a_has_double : PySem.W.nsIn K mainGlobals "has_double" = some (some (.ref x_has_double)))
    (l_has_double : K.lookup x_has_double = some ⟨oc_has_double, od_has_double, .func (PySem.W.fnOf "has_double" "has_double" (defArgs s_has_double) (defBody s_has_double) (defScope s_has_double) .none kV_has_double dc_has_double pm_has_double an_has_double cd_has_double ct_has_double), sl_has_double⟩)
    (c_has_double : PySem.W.codeIn K cd_has_double "has_double" = true)
    (k_has_double : PySem.W.keepIn K (.ref x_has_double) = true)
    {x_are_loops : Addr} {od_are_loops an_are_loops : Option Addr} {sl_are_loops : Array (Option Value)} {oc_are_loops dc_are_loops pm_are_loops cd_are_loops ct_are_loops : Value}
    {kV_are_loops : Value}
    (a_are_loops : PySem.W.nsIn K mainGlobals "are_loops" = some (some (.ref x_are_loops)))
    (l_are_loops : K.lookup x_are_loops = some ⟨oc_are_loops, od_are_loops, .func (PySem.W.fnOf "are_loops" "are_loops" (defArgs s_are_loops) (defBody s_are_loops) (defScope s_are_loops) .none kV_are_loops dc_are_loops pm_are_loops an_are_loops cd_are_loops ct_are_loops), sl_are_loops⟩)
    (c_are_loops : PySem.W.codeIn K cd_are_loops "are_loops" = true)
    (k_are_loops : PySem.W.keepIn K (.ref x_are_loops) = true)
    {x_check_boxes : Addr} {od_check_boxes an_check_boxes : Option Addr} {sl_check_boxes : Array (Option Value)} {oc_check_boxes dc_check_boxes pm_check_boxes cd_check_boxes ct_check_boxes : Value}
    {kV_check_boxes : Value}
    (a_check_boxes : PySem.W.nsIn K mainGlobals "check_boxes" = some (some (.ref x_check_boxes)))
    (l_check_boxes : K.lookup x_check_boxes = some ⟨oc_check_boxes, od_check_boxes, .func (PySem.W.fnOf "check_boxes" "check_boxes" (defArgs s_check_boxes) (defBody s_check_boxes) (defScope s_check_boxes) .none kV_check_boxes dc_check_boxes pm_check_boxes an_check_boxes cd_check_boxes ct_check_boxes), sl_check_boxes⟩)
    (c_check_boxes : PySem.W.codeIn K cd_check_boxes "check_boxes" = true)
    (k_check_boxes : PySem.W.keepIn K (.ref x_check_boxes) = true)
    {x_check_town : Addr} {od_check_town an_check_town : Option Addr} {sl_check_town : Array (Option Value)} {oc_check_town dc_check_town pm_check_town cd_check_town ct_check_town : Value}
    {kV_check_town : Value}
    (a_check_town : PySem.W.nsIn K mainGlobals "check_town" = some (some (.ref x_check_town)))
    (l_check_town : K.lookup x_check_town = some ⟨oc_check_town, od_check_town, .func (PySem.W.fnOf "check_town" "check_town" (defArgs s_check_town) (defBody s_check_town) (defScope s_check_town) .none kV_check_town dc_check_town pm_check_town an_check_town cd_check_town ct_check_town), sl_check_town⟩)
    (c_check_town : PySem.W.codeIn K cd_check_town "check_town" = true)
    (k_check_town : PySem.W.keepIn K (.ref x_check_town) = true)
    {x_init : Addr} {od_init an_init : Option Addr} {sl_init : Array (Option Value)} {oc_init dc_init pm_init cd_init ct_init : Value}
    {xD : Addr} {tD : Tok}
    (a_init : PySem.W.findIn K (.ref xC) "__init__" = some (some (.ref x_init)))
    (i_init : PySem.W.isFn K (.ref x_init) = true)
    (l_init : K.lookup x_init = some ⟨oc_init, od_init, .func (PySem.W.fnOf "__init__" "Town.__init__" (defArgs s_init) (defBody s_init) (defScope s_init) .none (.ref xD) dc_init pm_init an_init cd_init ct_init), sl_init⟩)
    (c_init : PySem.W.codeIn K cd_init "Town.__init__" = true)
    (k_init : PySem.W.keepIn K (.ref x_init) = true)
    (e_init : PySem.W.nsIn K xD "hear" = some (some (.int 1 tD)))
    {x_bag : Addr} {od_bag an_bag : Option Addr} {sl_bag : Array (Option Value)} {oc_bag dc_bag pm_bag cd_bag ct_bag : Value}
    {kV_bag : Value}
    (a_bag : PySem.W.nsIn K mainGlobals "_law_bag" = some (some (.ref x_bag)))
    (l_bag : K.lookup x_bag = some ⟨oc_bag, od_bag, .func (PySem.W.fnOf "_law_bag" "_law_bag" (defArgs s_bag) (defBody s_bag) (defScope s_bag) .none kV_bag dc_bag pm_bag an_bag cd_bag ct_bag), sl_bag⟩)
    (c_bag : PySem.W.codeIn K cd_bag "_law_bag" = true)
    (k_bag : PySem.W.keepIn K (.ref x_bag) = true)
    {x_draw : Addr} {od_draw an_draw : Option Addr} {sl_draw : Array (Option Value)} {oc_draw dc_draw pm_draw cd_draw ct_draw : Value}
    {kV_draw : Value}
    (a_draw : PySem.W.nsIn K mainGlobals "_law_draw" = some (some (.ref x_draw)))
    (l_draw : K.lookup x_draw = some ⟨oc_draw, od_draw, .func (PySem.W.fnOf "_law_draw" "_law_draw" (defArgs s_draw) (defBody s_draw) (defScope s_draw) .none kV_draw dc_draw pm_draw an_draw cd_draw ct_draw), sl_draw⟩)
    (c_draw : PySem.W.codeIn K cd_draw "_law_draw" = true)
    (k_draw : PySem.W.keepIn K (.ref x_draw) = true)
    {x_number : Addr} {od_number an_number : Option Addr} {sl_number : Array (Option Value)} {oc_number dc_number pm_number cd_number ct_number : Value}
    {kV_number : Value}
    (a_number : PySem.W.nsIn K mainGlobals "_law_number" = some (some (.ref x_number)))
    (l_number : K.lookup x_number = some ⟨oc_number, od_number, .func (PySem.W.fnOf "_law_number" "_law_number" (defArgs s_number) (defBody s_number) (defScope s_number) .none kV_number dc_number pm_number an_number cd_number ct_number), sl_number⟩)
    (c_number : PySem.W.codeIn K cd_number "_law_number" = true)
    (k_number : PySem.W.keepIn K (.ref x_number) = true)
    {x_numbers : Addr} {od_numbers an_numbers : Option Addr} {sl_numbers : Array (Option Value)} {oc_numbers dc_numbers pm_numbers cd_numbers ct_numbers : Value}
    {kV_numbers : Value}
    (a_numbers : PySem.W.nsIn K mainGlobals "_law_numbers" = some (some (.ref x_numbers)))
    (l_numbers : K.lookup x_numbers = some ⟨oc_numbers, od_numbers, .func (PySem.W.fnOf "_law_numbers" "_law_numbers" (defArgs s_numbers) (defBody s_numbers) (defScope s_numbers) .none kV_numbers dc_numbers pm_numbers an_numbers cd_numbers ct_numbers), sl_numbers⟩)
    (c_numbers : PySem.W.codeIn K cd_numbers "_law_numbers" = true)
    (k_numbers : PySem.W.keepIn K (.ref x_numbers) = true)
    {x_loops : Addr} {od_loops an_loops : Option Addr} {sl_loops : Array (Option Value)} {oc_loops dc_loops pm_loops cd_loops ct_loops : Value}
    {kV_loops : Value}
    (a_loops : PySem.W.nsIn K mainGlobals "_law_loops" = some (some (.ref x_loops)))
    (l_loops : K.lookup x_loops = some ⟨oc_loops, od_loops, .func (PySem.W.fnOf "_law_loops" "_law_loops" (defArgs s_loops) (defBody s_loops) (defScope s_loops) .none kV_loops dc_loops pm_loops an_loops cd_loops ct_loops), sl_loops⟩)
    (c_loops : PySem.W.codeIn K cd_loops "_law_loops" = true)
    (k_loops : PySem.W.keepIn K (.ref x_loops) = true)
    {x_spot : Addr} {od_spot an_spot : Option Addr} {sl_spot : Array (Option Value)} {oc_spot dc_spot pm_spot cd_spot ct_spot : Value}
    {kV_spot : Value}
    (a_spot : PySem.W.nsIn K mainGlobals "_law_spot" = some (some (.ref x_spot)))
    (l_spot : K.lookup x_spot = some ⟨oc_spot, od_spot, .func (PySem.W.fnOf "_law_spot" "_law_spot" (defArgs s_spot) (defBody s_spot) (defScope s_spot) .none kV_spot dc_spot pm_spot an_spot cd_spot ct_spot), sl_spot⟩)
    (c_spot : PySem.W.codeIn K cd_spot "_law_spot" = true)
    (k_spot : PySem.W.keepIn K (.ref x_spot) = true)
    {x_boxes_spoilt : Addr} {od_boxes_spoilt an_boxes_spoilt : Option Addr} {sl_boxes_spoilt : Array (Option Value)} {oc_boxes_spoilt dc_boxes_spoilt pm_boxes_spoilt cd_boxes_spoilt ct_boxes_spoilt : Value}
    {kV_boxes_spoilt : Value}
    (a_boxes_spoilt : PySem.W.nsIn K mainGlobals "_law_boxes_spoilt" = some (some (.ref x_boxes_spoilt)))
    (l_boxes_spoilt : K.lookup x_boxes_spoilt = some ⟨oc_boxes_spoilt, od_boxes_spoilt, .func (PySem.W.fnOf "_law_boxes_spoilt" "_law_boxes_spoilt" (defArgs s_boxes_spoilt) (defBody s_boxes_spoilt) (defScope s_boxes_spoilt) .none kV_boxes_spoilt dc_boxes_spoilt pm_boxes_spoilt an_boxes_spoilt cd_boxes_spoilt ct_boxes_spoilt), sl_boxes_spoilt⟩)
    (c_boxes_spoilt : PySem.W.codeIn K cd_boxes_spoilt "_law_boxes_spoilt" = true)
    (k_boxes_spoilt : PySem.W.keepIn K (.ref x_boxes_spoilt) = true)
    {x_loops_spoilt : Addr} {od_loops_spoilt an_loops_spoilt : Option Addr} {sl_loops_spoilt : Array (Option Value)} {oc_loops_spoilt dc_loops_spoilt pm_loops_spoilt cd_loops_spoilt ct_loops_spoilt : Value}
    {kV_loops_spoilt : Value}
    (a_loops_spoilt : PySem.W.nsIn K mainGlobals "_law_loops_spoilt" = some (some (.ref x_loops_spoilt)))
    (l_loops_spoilt : K.lookup x_loops_spoilt = some ⟨oc_loops_spoilt, od_loops_spoilt, .func (PySem.W.fnOf "_law_loops_spoilt" "_law_loops_spoilt" (defArgs s_loops_spoilt) (defBody s_loops_spoilt) (defScope s_loops_spoilt) .none kV_loops_spoilt dc_loops_spoilt pm_loops_spoilt an_loops_spoilt cd_loops_spoilt ct_loops_spoilt), sl_loops_spoilt⟩)
    (c_loops_spoilt : PySem.W.codeIn K cd_loops_spoilt "_law_loops_spoilt" = true)
    (k_loops_spoilt : PySem.W.keepIn K (.ref x_loops_spoilt) = true)
    {x_formed : Addr} {od_formed an_formed : Option Addr} {sl_formed : Array (Option Value)} {oc_formed dc_formed pm_formed cd_formed ct_formed : Value}
    {kV_formed : Value}
    (a_formed : PySem.W.nsIn K mainGlobals "_law_formed" = some (some (.ref x_formed)))
    (l_formed : K.lookup x_formed = some ⟨oc_formed, od_formed, .func (PySem.W.fnOf "_law_formed" "_law_formed" (defArgs s_formed) (defBody s_formed) (defScope s_formed) .none kV_formed dc_formed pm_formed an_formed cd_formed ct_formed), sl_formed⟩)
    (c_formed : PySem.W.codeIn K cd_formed "_law_formed" = true)
    (k_formed : PySem.W.keepIn K (.ref x_formed) = true)
    {x_rules : Addr} {od_rules an_rules : Option Addr} {sl_rules : Array (Option Value)} {oc_rules dc_rules pm_rules cd_rules ct_rules : Value}
    {kV_rules : Value}
    (a_rules : PySem.W.nsIn K mainGlobals "_law_rules" = some (some (.ref x_rules)))
    (l_rules : K.lookup x_rules = some ⟨oc_rules, od_rules, .func (PySem.W.fnOf "_law_rules" "_law_rules" (defArgs s_rules) (defBody s_rules) (defScope s_rules) .none kV_rules dc_rules pm_rules an_rules cd_rules ct_rules), sl_rules⟩)
    (c_rules : PySem.W.codeIn K cd_rules "_law_rules" = true)
    (k_rules : PySem.W.keepIn K (.ref x_rules) = true)
    {x_row : Addr} {od_row an_row : Option Addr} {sl_row : Array (Option Value)} {oc_row dc_row pm_row cd_row ct_row : Value}
    {kV_row : Value}
    (a_row : PySem.W.nsIn K mainGlobals "_law_row" = some (some (.ref x_row)))
    (l_row : K.lookup x_row = some ⟨oc_row, od_row, .func (PySem.W.fnOf "_law_row" "_law_row" (defArgs s_row) (defBody s_row) (defScope s_row) .none kV_row dc_row pm_row an_row cd_row ct_row), sl_row⟩)
    (c_row : PySem.W.codeIn K cd_row "_law_row" = true)
    (k_row : PySem.W.keepIn K (.ref x_row) = true)
    {x_wis_number : Addr} {od_wis_number an_wis_number : Option Addr} {sl_wis_number : Array (Option Value)} {oc_wis_number dc_wis_number pm_wis_number cd_wis_number ct_wis_number : Value}
    {kV_wis_number : Value}
    (a_wis_number : PySem.W.nsIn K mainGlobals "_law_is_number" = some (some (.ref x_wis_number)))
    (l_wis_number : K.lookup x_wis_number = some ⟨oc_wis_number, od_wis_number, .func (PySem.W.fnOf "_law_is_number" "_law_is_number" (defArgs s_wis_number) (defBody s_wis_number) (defScope s_wis_number) .none kV_wis_number dc_wis_number pm_wis_number an_wis_number cd_wis_number ct_wis_number), sl_wis_number⟩)
    (c_wis_number : PySem.W.codeIn K cd_wis_number "_law_is_number" = true)
    (k_wis_number : PySem.W.keepIn K (.ref x_wis_number) = true)
    {x_word : Addr} {od_word an_word : Option Addr} {sl_word : Array (Option Value)} {oc_word dc_word pm_word cd_word ct_word : Value}
    {kV_word : Value}
    (a_word : PySem.W.nsIn K mainGlobals "_law_word" = some (some (.ref x_word)))
    (l_word : K.lookup x_word = some ⟨oc_word, od_word, .func (PySem.W.fnOf "_law_word" "_law_word" (defArgs s_word) (defBody s_word) (defScope s_word) .none kV_word dc_word pm_word an_word cd_word ct_word), sl_word⟩)
    (c_word : PySem.W.codeIn K cd_word "_law_word" = true)
    (k_word : PySem.W.keepIn K (.ref x_word) = true)
    {x_whole : Addr} {od_whole an_whole : Option Addr} {sl_whole : Array (Option Value)} {oc_whole dc_whole pm_whole cd_whole ct_whole : Value}
    {kV_whole : Value}
    (a_whole : PySem.W.nsIn K mainGlobals "_law_whole" = some (some (.ref x_whole)))
    (l_whole : K.lookup x_whole = some ⟨oc_whole, od_whole, .func (PySem.W.fnOf "_law_whole" "_law_whole" (defArgs s_whole) (defBody s_whole) (defScope s_whole) .none kV_whole dc_whole pm_whole an_whole cd_whole ct_whole), sl_whole⟩)
    (c_whole : PySem.W.codeIn K cd_whole "_law_whole" = true)
    (k_whole : PySem.W.keepIn K (.ref x_whole) = true)
    {x_made : Addr} {od_made an_made : Option Addr} {sl_made : Array (Option Value)} {oc_made dc_made pm_made cd_made ct_made : Value}
    {kV_made : Value}
    (a_made : PySem.W.nsIn K mainGlobals "_law_made" = some (some (.ref x_made)))
    (l_made : K.lookup x_made = some ⟨oc_made, od_made, .func (PySem.W.fnOf "_law_made" "_law_made" (defArgs s_made) (defBody s_made) (defScope s_made) .none kV_made dc_made pm_made an_made cd_made ct_made), sl_made⟩)
    (c_made : PySem.W.codeIn K cd_made "_law_made" = true)
    (k_made : PySem.W.keepIn K (.ref x_made) = true)
    {x_told : Addr} {od_told an_told : Option Addr} {sl_told : Array (Option Value)} {oc_told dc_told pm_told cd_told ct_told : Value}
    {kV_told : Value}
    (a_told : PySem.W.nsIn K mainGlobals "_law_told" = some (some (.ref x_told)))
    (l_told : K.lookup x_told = some ⟨oc_told, od_told, .func (PySem.W.fnOf "_law_told" "_law_told" (defArgs s_told) (defBody s_told) (defScope s_told) .none kV_told dc_told pm_told an_told cd_told ct_told), sl_told⟩)
    (c_told : PySem.W.codeIn K cd_told "_law_told" = true)
    (k_told : PySem.W.keepIn K (.ref x_told) = true)
    {x_law : Addr} {od_law an_law : Option Addr} {sl_law : Array (Option Value)} {oc_law dc_law pm_law cd_law ct_law : Value}
    {kV_law : Value}
    (a_law : PySem.W.nsIn K mainGlobals "law" = some (some (.ref x_law)))
    (l_law : K.lookup x_law = some ⟨oc_law, od_law, .func (PySem.W.fnOf "law" "law" (defArgs s_law) (defBody s_law) (defScope s_law) .none kV_law dc_law pm_law an_law cd_law ct_law), sl_law⟩)
    (c_law : PySem.W.codeIn K cd_law "law" = true)
    (k_law : PySem.W.keepIn K (.ref x_law) = true)
    (pg : PySem.W.plainGet K xC Str.empty = true)
    (hd : PySem.W.hasDictIn K xC = true)
    (po : PySem.W.plainOver K xC = true)
    (sa : PySem.W.findIn K (.ref xC) "__setattr__" = some (some (.builtin "object.__setattr__")))
    (mk : PySem.W.makesIn K xC = true)
    (kc : PySem.W.keepIn K (.ref xC) = true)
    (nL : PySem.W.findIn K (.ref xC) "loops" = some none)
    (nR : PySem.W.findIn K (.ref xC) "rounds" = some none)
    (nH : PySem.W.findIn K (.ref xC) "hear" = some none)
    (nN : PySem.W.findIn K (.ref xC) "numbers" = some none)
    (ica : PySem.W.findIn K (.ref xC) "__class__" = some (some (.builtin "object.__class__")))
    (icn : PySem.W.specialIn K (.builtin "object.__class__") "__get__" = some (some (.builtin "getset_descriptor.__get__")))
    (ict : PySem.W.takesIn K (.builtin "object.__class__") = some true)
    (icm : PySem.W.mroIn K xC (.type "object") = some true)
    (kS : PySem.W.kitOne K (.ref xC) (.ref xC) = some true)
    (rd : PySem.W.readsIn K xC (.type "type") = true)
    (ga : PySem.W.specialIn K (.ref xC) "__getattribute__" = some (some (.builtin "type.__getattribute__")))
    {tP tS : Tok}
    (vP : PySem.W.findCls K (.ref xC) (.type "type") "PLAIN" = some (.val (.str "plain" tP)))
    (vS : PySem.W.findCls K (.ref xC) (.type "type") "SHY" = some (.val (.str "shy" tS)))
    {eCT eIT : Addr} {enmT eqT : Str} {eNT : Addr} {ebsT ebmT : List Value} {esnT : List Str} {esubT : List Value} {eabT : Bool} {ecolT : Option Bool} {eddT : Option Addr} {em0T em1T em2T em3T em5T : Option Value}
    {eocT edcT epmT ecdT ectT : Value} {eodT eanT : Option Addr} {eslT : Array (Option Value)} {ep1T ep2T eq1T eq2T eq3T eq4T : Pos}
    (e_aT : PySem.W.nsIn K mainGlobals "BadTown" = some (some (.ref eCT)))
    (e_xT : K.lookup eCT = some (excClassObj enmT eqT eCT eNT ebsT ebmT true esnT esubT eabT ecolT eddT em0T em1T em2T em3T em5T "ValueError.__new__"))
    (e_bT : PySem.HandSPX.refsVE ebmT = true)
    (e_sT : PySem.W.findIn K (.ref eCT) "__setattr__" = some (some (.builtin "object.__setattr__"))) (e_gT : PySem.W.findIn K (.ref eCT) "__getattribute__" = some (some (.builtin "BaseException.__getattribute__"))) (e_hT : PySem.W.findIn K (.ref eCT) "__getattr__" = some none) (e_nT : PySem.W.findIn K (.ref eCT) "what" = some none)
    (e_iT : PySem.W.findIn K (.ref eCT) "__init__" = some (some (.ref eIT))) (e_tT : PySem.W.typeIn K (.ref eIT) = some (.type "function"))
    (e_lT : K.lookup eIT = some ⟨eocT, eodT, .func (PySem.W.fnOf "__init__" "BadTown.__init__" (PySem.LowT.iA ep1T ep2T) (PySem.LowT.iB eq1T eq2T eq3T eq4T) PySem.LowT.iS .none .none edcT epmT eanT ecdT ectT), eslT⟩) (e_cT : PySem.W.codeIn K ecdT "BadTown.__init__" = true)
    (e_kT : PySem.W.keepIn K (.ref eCT) = true) (e_eT : PySem.W.subIn K (.ref eCT) (.type "BaseException") = some true) (e_tyT : PySem.W.typeIn K (.ref eCT) = some (.type "type")) (e_dT : PySem.W.hasDictIn K eCT = true) (e_scT : PySem.W.subIn K (.ref eCT) (.ref eCT) = some true)
    {eW eR_ : Addr}
    (e_w : PySem.W.nsIn K mainGlobals "WheelError" = some (some (.ref eW)))
    (e_r : PySem.W.nsIn K mainGlobals "BadRow" = some (some (.ref eR_)))
    (ktw : PySem.W.kitOne K (.ref eCT) (.ref eW) = some true)
    (ktr : PySem.W.kitOne K (.ref eCT) (.ref eR_) = some false)
    (e_icT : PySem.W.isClsIn K eCT = true)
    (e_haT : PySem.W.findIn K (.ref eCT) "__class__" = some (some (.builtin "object.__class__")))
    (e_hmT : PySem.W.mroIn K eCT (.type "object") = some true)
    {t_DIGITS : Tok}
    (n_DIGITS : PySem.W.nsIn K mainGlobals "DIGITS" = some (some (.str "123456789" t_DIGITS)))
    {t_MOST_DIGITS : Tok}
    (n_MOST_DIGITS : PySem.W.nsIn K mainGlobals "MOST_DIGITS" = some (some (.int 4 t_MOST_DIGITS)))
    {t_GREATEST_SUM : Tok}
    (n_GREATEST_SUM : PySem.W.nsIn K mainGlobals "GREATEST_SUM" = some (some (.int 24 t_GREATEST_SUM)))
    {t_MOST_LOOPS : Tok}
    (n_MOST_LOOPS : PySem.W.nsIn K mainGlobals "MOST_LOOPS" = some (some (.int 3 t_MOST_LOOPS)))
    {t_MOST_BOXES : Tok}
    (n_MOST_BOXES : PySem.W.nsIn K mainGlobals "MOST_BOXES" = some (some (.int 10 t_MOST_BOXES)))
    {t_MOST_ROUNDS : Tok}
    (n_MOST_ROUNDS : PySem.W.nsIn K mainGlobals "MOST_ROUNDS" = some (some (.int 8 t_MOST_ROUNDS)))
    (z_all : PySem.W.nsIn K mainGlobals "all" = some none)
    (z_bool : PySem.W.nsIn K mainGlobals "bool" = some none)
    (z_int : PySem.W.nsIn K mainGlobals "int" = some none)
    (z_isinstance : PySem.W.nsIn K mainGlobals "isinstance" = some none)
    (z_len : PySem.W.nsIn K mainGlobals "len" = some none)
    (z_list : PySem.W.nsIn K mainGlobals "list" = some none)
    (z_min : PySem.W.nsIn K mainGlobals "min" = some none)
    (z_range : PySem.W.nsIn K mainGlobals "range" = some none)
    (z_repr : PySem.W.nsIn K mainGlobals "repr" = some none)
    (z_set : PySem.W.nsIn K mainGlobals "set" = some none)
    (z_str : PySem.W.nsIn K mainGlobals "str" = some none)
    (z_sum : PySem.W.nsIn K mainGlobals "sum" = some none)
    (z_tuple : PySem.W.nsIn K mainGlobals "tuple" = some none)
    : ∃ fd : FuncData, (∀ (s : Shared) (v : Value), BindsTo s fd ⟨[v], []⟩ [("_law_script", v)]) ∧ ∀ base : Heap, K.In base → base.Ns mainGlobals mg → Rp.GOk l.prog w K mg base CX0 9 fa fd ["_law_script"] (sp_law K) := by
  have e := hfa.symm.trans (PySem.W.mg_of X G a_law)
  cases e
  have F_is_whole := fun_mk (st := s_is_whole) l_is_whole c_is_whole k_is_whole
  have b_is_whole := F_is_whole.binds (ps := ["thing"]) fun _ _ _ _ _ _ us hl => match us, hl with | [_], _ => rfl
  have F_is_whole_within := fun_mk (st := s_is_whole_within) l_is_whole_within c_is_whole_within k_is_whole_within
  have b_is_whole_within := F_is_whole_within.binds (ps := ["thing", "low", "high"]) fun _ _ _ _ _ _ us hl => match us, hl with | [_, _, _], _ => rfl
  have F_is_sequence := fun_mk (st := s_is_sequence) l_is_sequence c_is_sequence k_is_sequence
  have b_is_sequence := F_is_sequence.binds (ps := ["thing"]) fun _ _ _ _ _ _ us hl => match us, hl with | [_], _ => rfl
  have F_is_number := fun_mk (st := s_is_number) l_is_number c_is_number k_is_number
  have b_is_number := F_is_number.binds (ps := ["thing"]) fun _ _ _ _ _ _ us hl => match us, hl with | [_], _ => rfl
  have F_is_sort := fun_mk (st := s_is_sort) l_is_sort c_is_sort k_is_sort
  have b_is_sort := F_is_sort.binds (ps := ["thing"]) fun _ _ _ _ _ _ us hl => match us, hl with | [_], _ => rfl
  have F_has_double := fun_mk (st := s_has_double) l_has_double c_has_double k_has_double
  have b_has_double := F_has_double.binds (ps := ["boxes"]) fun _ _ _ _ _ _ us hl => match us, hl with | [_], _ => rfl
  have F_are_loops := fun_mk (st := s_are_loops) l_are_loops c_are_loops k_are_loops
  have b_are_loops := F_are_loops.binds (ps := ["thing"]) fun _ _ _ _ _ _ us hl => match us, hl with | [_], _ => rfl
  have F_check_boxes := fun_mk (st := s_check_boxes) l_check_boxes c_check_boxes k_check_boxes
  have b_check_boxes := F_check_boxes.binds (ps := ["boxes"]) fun _ _ _ _ _ _ us hl => match us, hl with | [_], _ => rfl
  have F_check_town := fun_mk (st := s_check_town) l_check_town c_check_town k_check_town
  have b_check_town := F_check_town.binds (ps := ["loops", "rounds", "hear"]) fun _ _ _ _ _ _ us hl => match us, hl with | [_, _, _], _ => rfl
  have F_init : FunD K "__init__" "Town.__init__" (defArgs s_init) (defBody s_init) (defScope s_init) [] [("hear", V.int 1)] x_init _ := ⟨⟨_, _, _, _, _, _, _, _, _, _, rfl, l_init, c_init, .inl ⟨rfl, rfl⟩, .inr ⟨xD, rfl, fun q m => by rw [List.mem_singleton.mp m]; exact ⟨_, e_init, ⟨_, rfl⟩⟩⟩⟩, k_init⟩
  have kb := F_init.kbinds0 (ps := ["self", "loops", "rounds", "hear"]) 2 ["rounds"] [("hear", V.int 1)] (fun vs mz zs => vs ++ zs ++ mz) (by decide) (fun _ h => h) (fun a b c => (a.append c).append b) fun D doc pm an cdv ct us mv ws h1 h2 h3 => match us, mv, ws, h1, h2, h3 with | [_, _], [_], [_], _, _, _ => ⟨_, _, _, _, _, _, rfl, rfl, rfl⟩
  obtain ⟨mv, kb⟩ := kb
  have kb2 := F_init.kbinds0 (ps := ["self", "loops", "rounds", "hear"]) 2 ["rounds", "hear"] [] (fun vs mz zs => vs ++ zs) (by decide) (fun _ h => absurd h (by simp)) (fun a b c => a.append c) fun D doc pm an cdv ct us mv ws h1 h2 h3 => match us, mv, ws, h1, h2, h3 with | [_, _], [], [_, _], _, _, _ => rfl
  obtain ⟨_, kb2⟩ := kb2
  have F_bag := fun_mk (st := s_bag) l_bag c_bag k_bag
  have b_bag := F_bag.binds (ps := ["_law_script"]) fun _ _ _ _ _ _ us hl => match us, hl with | [_], _ => rfl
  have F_draw := fun_mk (st := s_draw) l_draw c_draw k_draw
  have b_draw := F_draw.binds (ps := ["_law_bag_here", "_law_limit"]) fun _ _ _ _ _ _ us hl => match us, hl with | [_, _], _ => rfl
  have F_number := fun_mk (st := s_number) l_number c_number k_number
  have b_number := F_number.binds (ps := ["_law_bag_here"]) fun _ _ _ _ _ _ us hl => match us, hl with | [_], _ => rfl
  have F_numbers := fun_mk (st := s_numbers) l_numbers c_numbers k_numbers
  have b_numbers := F_numbers.binds (ps := ["_law_bag_here", "_law_many"]) fun _ _ _ _ _ _ us hl => match us, hl with | [_, _], _ => rfl
  have F_loops := fun_mk (st := s_loops) l_loops c_loops k_loops
  have b_loops := F_loops.binds (ps := ["_law_bag_here"]) fun _ _ _ _ _ _ us hl => match us, hl with | [_], _ => rfl
  have F_spot := fun_mk (st := s_spot) l_spot c_spot k_spot
  have b_spot := F_spot.binds (ps := ["_law_bag_here", "_law_loops_here"]) fun _ _ _ _ _ _ us hl => match us, hl with | [_, _], _ => rfl
  have F_boxes_spoilt := fun_mk (st := s_boxes_spoilt) l_boxes_spoilt c_boxes_spoilt k_boxes_spoilt
  have b_boxes_spoilt := F_boxes_spoilt.binds (ps := ["_law_bag_here", "_law_loops_here"]) fun _ _ _ _ _ _ us hl => match us, hl with | [_, _], _ => rfl
  have F_loops_spoilt := fun_mk (st := s_loops_spoilt) l_loops_spoilt c_loops_spoilt k_loops_spoilt
  have b_loops_spoilt := F_loops_spoilt.binds (ps := ["_law_bag_here", "_law_loops_here"]) fun _ _ _ _ _ _ us hl => match us, hl with | [_, _], _ => rfl
  have F_formed := fun_mk (st := s_formed) l_formed c_formed k_formed
  have b_formed := F_formed.binds (ps := ["_law_bag_here", "_law_loops_here"]) fun _ _ _ _ _ _ us hl => match us, hl with | [_, _], _ => rfl
  have F_rules := fun_mk (st := s_rules) l_rules c_rules k_rules
  have b_rules := F_rules.binds (ps := ["_law_bag_here"]) fun _ _ _ _ _ _ us hl => match us, hl with | [_], _ => rfl
  have F_row := fun_mk (st := s_row) l_row c_row k_row
  have b_row := F_row.binds (ps := ["_law_thing", "_law_least", "_law_most"]) fun _ _ _ _ _ _ us hl => match us, hl with | [_, _, _], _ => rfl
  have F_wis_number := fun_mk (st := s_wis_number) l_wis_number c_wis_number k_wis_number
  have b_wis_number := F_wis_number.binds (ps := ["_law_thing"]) fun _ _ _ _ _ _ us hl => match us, hl with | [_], _ => rfl
  have F_word := fun_mk (st := s_word) l_word c_word k_word
  have b_word := F_word.binds (ps := ["_law_loops_here", "_law_rules_here"]) fun _ _ _ _ _ _ us hl => match us, hl with | [_, _], _ => rfl
  have F_whole := fun_mk (st := s_whole) l_whole c_whole k_whole
  have b_whole := F_whole.binds (ps := ["_law_thing"]) fun _ _ _ _ _ _ us hl => match us, hl with | [_], _ => rfl
  have F_made := fun_mk (st := s_made) l_made c_made k_made
  have b_made := F_made.binds (ps := ["_law_loops_here", "_law_rules_here"]) fun _ _ _ _ _ _ us hl => match us, hl with | [_, _], _ => rfl
  have F_told := fun_mk (st := s_told) l_told c_told k_told
  have b_told := F_told.binds (ps := ["_law_loops_here"]) fun _ _ _ _ _ _ us hl => match us, hl with | [_], _ => rfl
  have F_law := fun_mk (st := s_law) l_law c_law k_law
  have b_law := F_law.binds (ps := ["_law_script"]) fun _ _ _ _ _ _ us hl => match us, hl with | [_], _ => rfl
  have lowT : PySem.LowT.LowTxt K mg eCT eIT :=
    { gC := PySem.W.mg_of X G e_aT, cls := ⟨enmT, eqT, eNT, ebsT, _, esnT, esubT, eabT, ecolT, eddT, em0T, em1T, em2T, em3T, em5T, e_xT, e_bT⟩, sa := e_sT, ga := e_gT, gg := e_hT, noN := e_nT, iC := e_iT, tC := e_tT, kC := e_kT, exC := e_eT, tyC := e_tyT, hdC := e_dT, te := PySem.W.exm_ref e_eT e_dT e_tyT e_scT,
      fn := ⟨_, _, _, _, _, _, _, _, _, _, _, _, _, _, e_lT, e_cT⟩ }
  have T : Σ' T : Txt K mg, T.a_law = fa ∧ T.d_law = PySem.W.fnOf "law" "law" (defArgs s_law) (defBody s_law) (defScope s_law) .none kV_law dc_law pm_law an_law cd_law ct_law :=
    ⟨{ C := xC, gC := PySem.W.mg_of X G axC, clC := ⟨pg, hd, po, sa⟩,
        isi := ⟨ica, icn, ict, icm⟩, kS := kS,
        mc := .type "type", rd := ⟨rd, ga⟩, uP := _, uS := _, vP := ⟨vP, ⟨_, rfl⟩⟩, vS := ⟨vS, ⟨_, rfl⟩⟩, nL := nL, nR := nR, nH := nH, nN := nN,
        CT := _, fT := _, lowT := lowT, Wc := _, gWc := PySem.W.mg_of X G e_w, Rc := _, gRc := PySem.W.mg_of X G e_r, kTW := ktw, kTR := ktr, xcT := ⟨e_gT, e_hT, e_eT, e_dT, e_haT, icn, ict, e_hmT⟩, cliT := e_icT,
        sfC := (by unfold PySem.W.notFirst; simp),
        a_is_whole := _, d_is_whole := _, F_is_whole := F_is_whole, b_is_whole := b_is_whole, g_is_whole := PySem.W.mg_of X G a_is_whole,
        a_is_whole_within := _, d_is_whole_within := _, F_is_whole_within := F_is_whole_within, b_is_whole_within := b_is_whole_within, g_is_whole_within := PySem.W.mg_of X G a_is_whole_within,
        a_is_sequence := _, d_is_sequence := _, F_is_sequence := F_is_sequence, b_is_sequence := b_is_sequence, g_is_sequence := PySem.W.mg_of X G a_is_sequence,
        a_is_number := _, d_is_number := _, F_is_number := F_is_number, b_is_number := b_is_number, g_is_number := PySem.W.mg_of X G a_is_number,
        a_is_sort := _, d_is_sort := _, F_is_sort := F_is_sort, b_is_sort := b_is_sort, g_is_sort := PySem.W.mg_of X G a_is_sort,
        a_has_double := _, d_has_double := _, F_has_double := F_has_double, b_has_double := b_has_double, g_has_double := PySem.W.mg_of X G a_has_double,
        a_are_loops := _, d_are_loops := _, F_are_loops := F_are_loops, b_are_loops := b_are_loops, g_are_loops := PySem.W.mg_of X G a_are_loops,
        a_check_boxes := _, d_check_boxes := _, F_check_boxes := F_check_boxes, b_check_boxes := b_check_boxes, g_check_boxes := PySem.W.mg_of X G a_check_boxes,
        a_check_town := _, d_check_town := _, F_check_town := F_check_town, b_check_town := b_check_town, g_check_town := PySem.W.mg_of X G a_check_town,
        a_init := _, d_init := _, F_init := F_init, mk_init := ⟨mk, a_init, i_init, kc⟩, mv := mv, kb := kb, kb2 := kb2,
        a_bag := _, d_bag := _, F_bag := F_bag, b_bag := b_bag, g_bag := PySem.W.mg_of X G a_bag,
        a_draw := _, d_draw := _, F_draw := F_draw, b_draw := b_draw, g_draw := PySem.W.mg_of X G a_draw,
        a_number := _, d_number := _, F_number := F_number, b_number := b_number, g_number := PySem.W.mg_of X G a_number,
        a_numbers := _, d_numbers := _, F_numbers := F_numbers, b_numbers := b_numbers, g_numbers := PySem.W.mg_of X G a_numbers,
        a_loops := _, d_loops := _, F_loops := F_loops, b_loops := b_loops, g_loops := PySem.W.mg_of X G a_loops,
        a_spot := _, d_spot := _, F_spot := F_spot, b_spot := b_spot, g_spot := PySem.W.mg_of X G a_spot,
        a_boxes_spoilt := _, d_boxes_spoilt := _, F_boxes_spoilt := F_boxes_spoilt, b_boxes_spoilt := b_boxes_spoilt, g_boxes_spoilt := PySem.W.mg_of X G a_boxes_spoilt,
        a_loops_spoilt := _, d_loops_spoilt := _, F_loops_spoilt := F_loops_spoilt, b_loops_spoilt := b_loops_spoilt, g_loops_spoilt := PySem.W.mg_of X G a_loops_spoilt,
        a_formed := _, d_formed := _, F_formed := F_formed, b_formed := b_formed, g_formed := PySem.W.mg_of X G a_formed,
        a_rules := _, d_rules := _, F_rules := F_rules, b_rules := b_rules, g_rules := PySem.W.mg_of X G a_rules,
        a_row := _, d_row := _, F_row := F_row, b_row := b_row, g_row := PySem.W.mg_of X G a_row,
        a_wis_number := _, d_wis_number := _, F_wis_number := F_wis_number, b_wis_number := b_wis_number, g_wis_number := PySem.W.mg_of X G a_wis_number,
        a_word := _, d_word := _, F_word := F_word, b_word := b_word, g_word := PySem.W.mg_of X G a_word,
        a_whole := _, d_whole := _, F_whole := F_whole, b_whole := b_whole, g_whole := PySem.W.mg_of X G a_whole,
        a_made := _, d_made := _, F_made := F_made, b_made := b_made, g_made := PySem.W.mg_of X G a_made,
        a_told := _, d_told := _, F_told := F_told, b_told := b_told, g_told := PySem.W.mg_of X G a_told,
        a_law := _, d_law := _, F_law := F_law, b_law := b_law, g_law := PySem.W.mg_of X G a_law,
        t_DIGITS := _, c_DIGITS := PySem.W.mg_of X G n_DIGITS,
        t_MOST_DIGITS := _, c_MOST_DIGITS := PySem.W.mg_of X G n_MOST_DIGITS,
        t_GREATEST_SUM := _, c_GREATEST_SUM := PySem.W.mg_of X G n_GREATEST_SUM,
        t_MOST_LOOPS := _, c_MOST_LOOPS := PySem.W.mg_of X G n_MOST_LOOPS,
        t_MOST_BOXES := _, c_MOST_BOXES := PySem.W.mg_of X G n_MOST_BOXES,
        t_MOST_ROUNDS := _, c_MOST_ROUNDS := PySem.W.mg_of X G n_MOST_ROUNDS,
        z_all := PySem.W.mg_none_of X G z_all,
        z_bool := PySem.W.mg_none_of X G z_bool,
        z_int := PySem.W.mg_none_of X G z_int,
        z_isinstance := PySem.W.mg_none_of X G z_isinstance,
        z_len := PySem.W.mg_none_of X G z_len,
        z_list := PySem.W.mg_none_of X G z_list,
        z_min := PySem.W.mg_none_of X G z_min,
        z_range := PySem.W.mg_none_of X G z_range,
        z_repr := PySem.W.mg_none_of X G z_repr,
        z_set := PySem.W.mg_none_of X G z_set,
        z_str := PySem.W.mg_none_of X G z_str,
        z_sum := PySem.W.mg_none_of X G z_sum,
        z_tuple := PySem.W.mg_none_of X G z_tuple }, rfl, rfl⟩
  obtain ⟨T, e1, e2⟩ := T
  subst e1
  refine ⟨T.d_law, fun s v => by rw [e2]; exact .of_eq rfl, fun base _ _ => ok_law T⟩
theorem walk {l : PySem.W.OpenLaw} {q : Program} {loose : List Str} {XP : (Str → Option Value) → Heap → Prop} {YP : World → Heap → Prop} {d : DefRec} {K : Params → PySem.W.Frag} (hn : l.most = some 63) (hdf : d.params.defaults = [])
    (hY : ∀ (w : World) (h : Heap), YP w h → (K w.params).In h)
    (F : ∀ (w : World) (mg : Str → Option Value) (fa : Addr) (h : Heap), (K w.params).In h → h.Ns mainGlobals mg → mg d.name = some (.ref fa) →
      ∃ fd : FuncData, (∀ (s : Shared) (u : Value), BindsTo s fd ⟨[u], []⟩ [("_law_script", u)]) ∧ ∀ base : Heap, (K w.params).In base → base.Ns mainGlobals mg → Rp.GOk l.prog w (K w.params) mg base CX0 9 fa fd ["_law_script"] (sp_law (K w.params))) :
    PySem.W.WalkO q loose XP YP l.row.toRowW d [] (fun f vs => PySem.call f vs) :=
  Rp.walk_gof (n := 63) (k := 9) (x := "_law_script") (CX := fun _ => CX0) (sp := fun w => sp_law (K w.params)) hn (by decide) hdf ⟨rfl, by decide, by decide⟩ hY F (fun w H a ns hl _ hS => ⟨a, ns, rfl, hS, hl, fun _ => rfl⟩) fun _ _ _ _ _ z => z
end K06

open PySem PySem.W PyProof.Rows in
set_option maxRecDepth 100000 in
set_option maxHeartbeats 0 in
theorem PySem.Challenge.cw_wheelchorus_k06_towns_refused_holds : PySem.Challenge.rw_wheelchorus_k06_towns_refused.Holds := by
  w_on; o_law; k_head; (case hw => w_witness2)
  k_fill
  refine K06.walk (l := PySem.Challenge.rw_wheelchorus_k06_towns_refused) rfl rfl (fun w h Y => PySem.W.kIn_of Y) ?F
  case F =>
    intro w mg fa h KX G hmg
    refine' K06.all_mk KX G hmg ?axC ?a_is_whole ?l_is_whole ?c_is_whole ?k_is_whole ?a_is_whole_within ?l_is_whole_within ?c_is_whole_within ?k_is_whole_within ?a_is_sequence ?l_is_sequence ?c_is_sequence ?k_is_sequence ?a_is_number ?l_is_number ?c_is_number ?k_is_number ?a_is_sort ?l_is_sort ?c_is_sort ?k_is_sort ?a_has_double ?l_has_double ?c_has_double ?k_has_double ?a_are_loops ?l_are_loops ?c_are_loops ?k_are_loops ?a_check_boxes ?l_check_boxes ?c_check_boxes ?k_check_boxes ?a_check_town ?l_check_town ?c_check_town ?k_check_town ?a_init ?i_init ?l_init ?c_init ?k_init ?e_init ?a_bag ?l_bag ?c_bag ?k_bag ?a_draw ?l_draw ?c_draw ?k_draw ?a_number ?l_number ?c_number ?k_number ?a_numbers ?l_numbers ?c_numbers ?k_numbers ?a_loops ?l_loops ?c_loops ?k_loops ?a_spot ?l_spot ?c_spot ?k_spot ?a_boxes_spoilt ?l_boxes_spoilt ?c_boxes_spoilt ?k_boxes_spoilt ?a_loops_spoilt ?l_loops_spoilt ?c_loops_spoilt ?k_loops_spoilt ?a_formed ?l_formed ?c_formed ?k_formed ?a_rules ?l_rules ?c_rules ?k_rules ?a_row ?l_row ?c_row ?k_row ?a_wis_number ?l_wis_number ?c_wis_number ?k_wis_number ?a_word ?l_word ?c_word ?k_word ?a_whole ?l_whole ?c_whole ?k_whole ?a_made ?l_made ?c_made ?k_made ?a_told ?l_told ?c_told ?k_told ?a_law ?l_law ?c_law ?k_law ?pg ?hd ?po ?sa ?mk ?kc ?nL ?nR ?nH ?nN ?ica ?icn ?ict ?icm ?kS ?rd ?ga ?vP ?vS ?e_aT ?e_xT ?e_bT ?e_sT ?e_gT ?e_hT ?e_nT ?e_iT ?e_tT ?e_lT ?e_cT ?e_kT ?e_eT ?e_tyT ?e_dT ?e_scT ?e_w ?e_r ?ktw ?ktr ?e_icT ?e_haT ?e_hmT ?n_DIGITS ?n_MOST_DIGITS ?n_GREATEST_SUM ?n_MOST_LOOPS ?n_MOST_BOXES ?n_MOST_ROUNDS ?z_all ?z_bool ?z_int ?z_isinstance ?z_len ?z_list ?z_min ?z_range ?z_repr ?z_set ?z_str ?z_sum ?z_tuple
    (case axC => k_is)
    (case a_is_whole => k_is)
    (case l_is_whole => k_is)
    (case c_is_whole => k_is)
    (case k_is_whole => k_is)
    (case a_is_whole_within => k_is)
    (case l_is_whole_within => k_is)
    (case c_is_whole_within => k_is)
    (case k_is_whole_within => k_is)
    (case a_is_sequence => k_is)
    (case l_is_sequence => k_is)
    (case c_is_sequence => k_is)
    (case k_is_sequence => k_is)
    (case a_is_number => k_is)
    (case l_is_number => k_is)
    (case c_is_number => k_is)
    (case k_is_number => k_is)
    (case a_is_sort => k_is)
    (case l_is_sort => k_is)
    (case c_is_sort => k_is)
    (case k_is_sort => k_is)
    (case a_has_double => k_is)
    (case l_has_double => k_is)
    (case c_has_double => k_is)
    (case k_has_double => k_is)
    (case a_are_loops => k_is)
    (case l_are_loops => k_is)
    (case c_are_loops => k_is)
    (case k_are_loops => k_is)
    (case a_check_boxes => k_is)
    (case l_check_boxes => k_is)
    (case c_check_boxes => k_is)
    (case k_check_boxes => k_is)
    (case a_check_town => k_is)
    (case l_check_town => k_is)
    (case c_check_town => k_is)
    (case k_check_town => k_is)
    (case a_init => k_is)
    (case i_init => k_is)
    (case l_init => k_is)
    (case c_init => k_is)
    (case k_init => k_is)
    (case e_init => k_is)
    (case a_bag => k_is)
    (case l_bag => k_is)
    (case c_bag => k_is)
    (case k_bag => k_is)
    (case a_draw => k_is)
    (case l_draw => k_is)
    (case c_draw => k_is)
    (case k_draw => k_is)
    (case a_number => k_is)
    (case l_number => k_is)
    (case c_number => k_is)
    (case k_number => k_is)
    (case a_numbers => k_is)
    (case l_numbers => k_is)
    (case c_numbers => k_is)
    (case k_numbers => k_is)
    (case a_loops => k_is)
    (case l_loops => k_is)
    (case c_loops => k_is)
    (case k_loops => k_is)
    (case a_spot => k_is)
    (case l_spot => k_is)
    (case c_spot => k_is)
    (case k_spot => k_is)
    (case a_boxes_spoilt => k_is)
    (case l_boxes_spoilt => k_is)
    (case c_boxes_spoilt => k_is)
    (case k_boxes_spoilt => k_is)
    (case a_loops_spoilt => k_is)
    (case l_loops_spoilt => k_is)
    (case c_loops_spoilt => k_is)
    (case k_loops_spoilt => k_is)
    (case a_formed => k_is)
    (case l_formed => k_is)
    (case c_formed => k_is)
    (case k_formed => k_is)
    (case a_rules => k_is)
    (case l_rules => k_is)
    (case c_rules => k_is)
    (case k_rules => k_is)
    (case a_row => k_is)
    (case l_row => k_is)
    (case c_row => k_is)
    (case k_row => k_is)
    (case a_wis_number => k_is)
    (case l_wis_number => k_is)
    (case c_wis_number => k_is)
    (case k_wis_number => k_is)
    (case a_word => k_is)
    (case l_word => k_is)
    (case c_word => k_is)
    (case k_word => k_is)
    (case a_whole => k_is)
    (case l_whole => k_is)
    (case c_whole => k_is)
    (case k_whole => k_is)
    (case a_made => k_is)
    (case l_made => k_is)
    (case c_made => k_is)
    (case k_made => k_is)
    (case a_told => k_is)
    (case l_told => k_is)
    (case c_told => k_is)
    (case k_told => k_is)
    (case a_law => k_is)
    (case l_law => k_is)
    (case c_law => k_is)
    (case k_law => k_is)
    (case pg => k_is)
    (case hd => k_is)
    (case po => k_is)
    (case sa => k_is)
    (case mk => k_is)
    (case kc => k_is)
    (case nL => k_is)
    (case nR => k_is)
    (case nH => k_is)
    (case nN => k_is)
    (case ica => k_is)
    (case icn => k_is)
    (case ict => k_is)
    (case icm => k_is)
    (case kS => first | k_is | kit_is | (decide +kernel))
    (case rd => k_is)
    (case ga => k_is)
    (case vP => k_is)
    (case vS => k_is)
    (case e_aT => k_is)
    (case e_xT => k_is)
    (case e_bT => decide +kernel)
    (case e_sT => k_is)
    (case e_gT => k_is)
    (case e_hT => k_is)
    (case e_nT => k_is)
    (case e_iT => k_is)
    (case e_tT => k_is)
    (case e_lT => k_is)
    (case e_cT => k_is)
    (case e_kT => k_is)
    (case e_eT => k_is)
    (case e_tyT => k_is)
    (case e_dT => k_is)
    (case e_scT => first | rfl | k_is)
    (case e_w => k_is)
    (case e_r => k_is)
    (case ktw => first | k_is | kit_is | (decide +kernel))
    (case ktr => first | k_is | kit_is | (decide +kernel))
    (case e_icT => k_is)
    (case e_haT => k_is)
    (case e_hmT => k_is)
    (case n_DIGITS => k_is)
    (case n_MOST_DIGITS => k_is)
    (case n_GREATEST_SUM => k_is)
    (case n_MOST_LOOPS => k_is)
    (case n_MOST_BOXES => k_is)
    (case n_MOST_ROUNDS => k_is)
    (case z_all => k_is)
    (case z_bool => k_is)
    (case z_int => k_is)
    (case z_isinstance => k_is)
    (case z_len => k_is)
    (case z_list => k_is)
    (case z_min => k_is)
    (case z_range => k_is)
    (case z_repr => k_is)
    (case z_set => k_is)
    (case z_str => k_is)
    (case z_sum => k_is)
    (case z_tuple => k_is)
