import PyProof.Rows.All
import Wide.All
import OpenK.AllK
import Wide.FinOn
import HandS.ForMost
import HandS.Conv
import HandS.IsInst
import HandS.ExcInit
import HandS.ExcCtx
import HandS.HotCalls
import HandS.ExcField
import HandS.ExcIs
import HandS.Wide
import HandS.More
import HandS.Walk
import HandS.Deep
import HandS.FStr
import HandS.Nested
import HandS.SortKw
import KE.KSortKey
import HandS.EndTab
import KE.KDflt
import HandS.SortRule
import KE.DataMinMax
import KE.SortData
import HandS.Style
import HandS.Strs
import HandS.SetFor
import HandS.Text
import HandS.StrMore
import HandS.NoneIn
import PySem.Challenge.RW_lettertree_k02_least_trees
set_option Elab.async false
set_option linter.all false
set_option maxRecDepth 100000
set_option maxHeartbeats 4000000
/-! Own words for the laws of lettertree: frames, dice, rows of numbers. -/
namespace LT
open PySem L2

/-- what was tracked stands as before, but at the places M; tuples and what is locked stand there too -/
structure Fr (M : List Addr) (H H' : Hp) : Prop where
  keep : ∀ b o, b ∉ M → H b = some o → H' b = some o
  tup : ∀ b xs, H b = some (.tup xs) → H' b = some (.tup xs)
  frz : ∀ b o u, H b = some (.frz o u) → H' b = some (.frz o u)
  ext : ∀ b φ, H b = some (.ext φ) → H' b = some (.ext φ)
theorem Fr.refl (M : List Addr) (H : Hp) : Fr M H H := ⟨fun _ _ _ h => h, fun _ _ h => h, fun _ _ _ h => h, fun _ _ h => h⟩
theorem Fr.trans {M : List Addr} {H H1 H2 : Hp} (a : Fr M H H1) (b : Fr M H1 H2) : Fr M H H2 :=
  ⟨fun x o n h => b.keep x o n (a.keep x o n h), fun x xs h => b.tup x xs (a.tup x xs h), fun x o u h => b.frz x o u (a.frz x o u h), fun x u h => b.ext x u (a.ext x u h)⟩
theorem Fr.mono {M N : List Addr} {H H' : Hp} (a : Fr M H H') (h : ∀ x ∈ M, x ∈ N) : Fr N H H' :=
  ⟨fun x o n e => a.keep x o (fun z => n (h x z)) e, a.tup, a.frz, a.ext⟩
theorem Fr.new {M : List Addr} {H : Hp} {p : Addr} {o : HO} (h : H p = none) : Fr M H (upd H p o) := by
  have k : ∀ b u, H b = some u → upd H p o b = some u := fun b u e => by
    rw [upd_ne (ne_of_none e h)]
    exact e
  exact ⟨fun b u _ e => k b u e, fun b xs e => k b _ e, fun b w u e => k b _ e, fun b u e => k b _ e⟩
theorem Fr.lst {M : List Addr} {H : Hp} {p : Addr} {o : HO} {xs : List V} (h : H p = some (.lst xs)) (hm : p ∈ M) : Fr M H (upd H p o) := by
  refine ⟨fun b u n e => ?_, fun b ys e => ?_, fun b w u e => ?_, fun b u e => ?_⟩
  · rw [upd_ne (fun z => n (by rw [z]; exact hm))]
    exact e
  · rw [upd_ne (ne_of e h (by intro q; cases q))]
    exact e
  · rw [upd_ne (ne_of e h (by intro q; cases q))]
    exact e
  · rw [upd_ne (ne_of e h (by intro q; cases q))]
    exact e
theorem Fr.dK {M : List Addr} {H : Hp} {p : Addr} {o : HO} {xs : List (Key × V)} (h : H p = some (.dK xs)) (hm : p ∈ M) : Fr M H (upd H p o) := by
  refine ⟨fun b u n e => ?_, fun b ys e => ?_, fun b w u e => ?_, fun b u e => ?_⟩
  · rw [upd_ne (fun z => n (by rw [z]; exact hm))]
    exact e
  · rw [upd_ne (ne_of e h (by intro q; cases q))]
    exact e
  · rw [upd_ne (ne_of e h (by intro q; cases q))]
    exact e
  · rw [upd_ne (ne_of e h (by intro q; cases q))]
    exact e
theorem Fr.ins {M : List Addr} {H : Hp} {p C dx : Addr} {fs : List (Str × V)} {o : HO} (h : H p = some (.ins C dx fs)) (hm : p ∈ M) : Fr M H (upd H p o) := by
  refine ⟨fun b u n e => ?_, fun b ys e => ?_, fun b w u e => ?_, fun b u e => ?_⟩
  · rw [upd_ne (fun z => n (by rw [z]; exact hm))]
    exact e
  · rw [upd_ne (ne_of e h (by intro q; cases q))]
    exact e
  · rw [upd_ne (ne_of e h (by intro q; cases q))]
    exact e
  · rw [upd_ne (ne_of e h (by intro q; cases q))]
    exact e
theorem Fr.at {M : List Addr} {H H' : Hp} (f : Fr M H H') {b : Addr} {o : HO} (e : H b = some o) (h : b ∉ M) : H' b = some o := f.keep b o h e
theorem Fr.same {M : List Addr} {H H' : Hp} (s : Same H H') : Fr M H H' := ⟨fun b o _ e => s b o e, fun b xs e => s b _ e, fun b o u e => s b _ e, fun b u e => s b _ e⟩
theorem Fr.toSame {H H' : Hp} (s : Fr [] H H') : Same H H' := fun b o e => s.keep b o (by simp) e
/-- a place that was taken is taken -/
theorem Fr.free {M : List Addr} {H H' : Hp} (f : Fr M H H') {p : Addr} (h : H' p = none) (hm : p ∉ M) : H p = none := by
  cases q : H p with
  | none => rfl
  | some o =>
    rw [f.keep p o hm q] at h
    cases h
theorem Fr.sqT {K : PySem.W.Frag} {M : List Addr} {H H' : Hp} (f : Fr M H H') {a : Addr} {xs : List V} (h : SqT K H a xs) : SqT K H' a xs := by
  rcases h with (h | ⟨o, h⟩) | h
  · exact .inl (.inl (f.tup _ _ h))
  · exact .inl (.inr ⟨o, f.frz _ _ _ h⟩)
  · exact .inr h

/-- a place that was not taken at H is written -/
theorem Fr.put {M : List Addr} {H H1 : Hp} {p : Addr} {o : HO} (f : Fr M H H1) (h : H p = none) : Fr M H (upd H1 p o) := by
  have k : ∀ b u, H b = some u → H1 b = some u → upd H1 p o b = some u := fun b u e e1 => by
    rw [upd_ne (ne_of_none e h)]
    exact e1
  exact ⟨fun b u n e => k b u e (f.keep b u n e), fun b xs e => k b _ e (f.tup b xs e), fun b w u e => k b _ e (f.frz b w u e), fun b u e => k b _ e (f.ext b u e)⟩
/-- the script: locked, or a list of the module -/
def Scr (K : PySem.W.Frag) (H : Hp) (a : Addr) (ns : List Int) : Prop :=
  (∃ o, H a = some (.frz o (.lst (ns.map V.int)))) ∨
    ∃ (o : Obj) (its : Array Value) (n : Nat), K.lookup a = some o ∧ o.cls = .type "list" ∧ o.dict = none ∧ o.data = .seq its n ∧ its.size ≤ sizeLine ∧ Vals (ns.map V.int) its.toList
theorem Scr.sq {K : PySem.W.Frag} {H : Hp} {a : Addr} {ns : List Int} (h : Scr K H a ns) : SqL K H a (ns.map V.int) := by
  rcases h with ⟨o, h⟩ | h
  · exact .inl (.inr ⟨o, h⟩)
  · exact .inr h
theorem Scr.fr {K : PySem.W.Frag} {M : List Addr} {H H' : Hp} {a : Addr} {ns : List Int} (h : Scr K H a ns) (f : Fr M H H') : Scr K H' a ns := by
  rcases h with ⟨o, h⟩ | h
  · exact .inl ⟨o, f.frz _ _ _ h⟩
  · exact .inr h
theorem Scr.of {K : PySem.W.Frag} {H : Hp} {a : Addr} {ns : List Int} (hO : Only H) (h : SqL K H a (ns.map V.int)) : Scr K H a ns := by
  rcases h with (h | ⟨o, h⟩) | h
  · rcases hO a with n | ⟨o, xs, n⟩
    · rw [h] at n
      cases n
    · rw [h] at n
      cases n
  · exact .inl ⟨o, h⟩
  · exact .inr h

/-- the dice at d: a list of the script, how many of it are taken, the mixed number, the rest of a great one -/
def Dice (K : PySem.W.Frag) (H : Hp) (d : Addr) : Prop :=
  ∃ (sc : Addr) (ns : List Int) (i m r : Int), Scr K H sc ns ∧ ns.length ≤ 63 ∧ 0 ≤ i ∧ 0 ≤ m ∧ m < 2147483647 ∧ 0 ≤ r ∧ H d = some (.lst [.ref sc, .int i, .int m, .int r])
theorem Dice.fr {K : PySem.W.Frag} {M : List Addr} {H H' : Hp} {d : Addr} (h : Dice K H d) (f : Fr M H H') (hd : d ∉ M) : Dice K H' d := by
  obtain ⟨sc, ns, i, m, r, hs, hl, h1, h2, h3, h4, hd'⟩ := h
  exact ⟨sc, ns, i, m, r, hs.fr f, hl, h1, h2, h3, h4, f.keep _ _ hd hd'⟩
theorem Dice.lst {K : PySem.W.Frag} {H : Hp} {d : Addr} (h : Dice K H d) : ∃ xs, H d = some (.lst xs) := by
  obtain ⟨_, _, _, _, _, _, _, _, _, _, _, e⟩ := h
  exact ⟨_, e⟩
theorem Dice.ne {K : PySem.W.Frag} {H : Hp} {d p : Addr} (h : Dice K H d) (n : H p = none) : p ≠ d := fun e => by
  obtain ⟨_, z⟩ := h.lst
  rw [e, z] at n
  cases n
theorem Dice.put {K : PySem.W.Frag} {H : Hp} {d p : Addr} {o : HO} {xs : List V} (h : Dice K H d) (e : H p = some (.lst xs)) (n : p ≠ d) : Dice K (upd H p o) d :=
  h.fr (Fr.lst e (List.mem_singleton.mpr rfl) : Fr [p] _ _) (by simp [n.symm])
theorem Dice.new {K : PySem.W.Frag} {H : Hp} {d p : Addr} {o : HO} (h : Dice K H d) (n : H p = none) : Dice K (upd H p o) d := h.fr (Fr.new n : Fr [] _ _) (by simp)
end LT
/-! Rows: lists of tuples of ints. -/
namespace LT
open PySem L2
theorem _root_.L2.Room.units65 {k : Nat} {A : Around} (r : Room k A) : A.units + 65 < cLine := by
  have := r.un
  omega
theorem pget {α β : Type} {F : α → β → Prop} : ∀ {l₁ : List α} {l₂ : List β} {i : Nat} {b : β}, Paired F l₁ l₂ → l₂[i]? = some b → ∃ a, l₁[i]? = some a ∧ F a b
  | _, _, _, _, .nil, e => by simp at e
  | _, _, 0, _, .cons r _, e => by
    simp at e
    subst e
    exact ⟨_, rfl, r⟩
  | _, _, i + 1, b, .cons _ t, e => by
    obtain ⟨u, h1, h2⟩ := pget (i := i) (b := b) t (by simpa using e)
    exact ⟨u, by simpa using h1, h2⟩
theorem pgetL {α β : Type} {F : α → β → Prop} : ∀ {l₁ : List α} {l₂ : List β} {i : Nat} {a : α}, Paired F l₁ l₂ → l₁[i]? = some a → ∃ b, l₂[i]? = some b ∧ F a b
  | _, _, _, _, .nil, e => by simp at e
  | _, _, 0, _, .cons r _, e => by
    simp at e
    subst e
    exact ⟨_, rfl, r⟩
  | _, _, i + 1, b, .cons _ t, e => by
    obtain ⟨u, h1, h2⟩ := pgetL (i := i) (a := b) t (by simpa using e)
    exact ⟨u, by simpa using h1, h2⟩
theorem pappend {α β : Type} {F : α → β → Prop} : ∀ {l₁ k₁ : List α} {l₂ k₂ : List β}, Paired F l₁ l₂ → Paired F k₁ k₂ → Paired F (l₁ ++ k₁) (l₂ ++ k₂)
  | _, _, _, _, .nil, s => s
  | _, _, _, _, .cons r t, s => .cons r (pappend t s)
theorem ptake {α β : Type} {F : α → β → Prop} : ∀ {l₁ : List α} {l₂ : List β} (n : Nat), Paired F l₁ l₂ → Paired F (l₁.take n) (l₂.take n)
  | _, _, 0, _ => .nil
  | _, _, _ + 1, .nil => .nil
  | _, _, n + 1, .cons r t => .cons r (ptake n t)
theorem pdrop {α β : Type} {F : α → β → Prop} : ∀ {l₁ : List α} {l₂ : List β} (n : Nat), Paired F l₁ l₂ → Paired F (l₁.drop n) (l₂.drop n)
  | _, _, 0, r => r
  | _, _, _ + 1, .nil => .nil
  | _, _, n + 1, .cons _ t => pdrop n t
/-- ints of a list that was just made -/
theorem ints_get {ns : List Int} {i : Nat} {x : V} (h : (ns.map V.int)[i]? = some x) : ∃ u, ns[i]? = some u ∧ x = .int u := by
  rw [List.getElem?_map] at h
  cases e : ns[i]? with
  | none => rw [e] at h; cases h
  | some u => rw [e] at h; exact ⟨u, rfl, (Option.some.inj h).symm⟩
theorem get_ints {ns : List Int} {i : Nat} {u : Int} (h : ns[i]? = some u) : (ns.map V.int)[i]? = some (.int u) := by
  rw [List.getElem?_map, h]
  rfl
theorem seqIx {i : Int} {n : Nat} (h0 : 0 ≤ i) (h1 : i < n) : seqIndex? i n = some i.toNat := (ixN_seq (by unfold ixN; rw [if_pos h0, if_pos h1])).1
theorem rgV_ints {n : Int} : rgV 0 n = ((List.range n.toNat).map fun (j : Nat) => (j : Int)).map V.int := by
  unfold rgV
  rw [List.map_map, Int.sub_zero]
  refine List.map_congr_left fun i _ => ?_
  show V.int (0 + (i : Nat)) = V.int (i : Nat)
  rw [Int.zero_add]
theorem rgV_from {a b : Int} : rgV a b = ((List.range (b - a).toNat).map fun (j : Nat) => a + (j : Int)).map V.int := by
  unfold rgV
  rw [List.map_map]
  rfl
theorem refs_get {ts : List Addr} {i : Nat} {x : V} (h : (ts.map V.ref)[i]? = some x) : ∃ t, ts[i]? = some t ∧ x = .ref t := by
  rw [List.getElem?_map] at h
  cases e : ts[i]? with
  | none => rw [e] at h; cases h
  | some u => rw [e] at h; exact ⟨u, rfl, (Option.some.inj h).symm⟩
theorem map_eraseIdx {α β : Type} (f : α → β) : ∀ (l : List α) (i : Nat), (l.map f).eraseIdx i = (l.eraseIdx i).map f
  | [], _ => rfl
  | _ :: _, 0 => rfl
  | x :: l, i + 1 => by
    show f x :: (l.map f).eraseIdx i = f x :: (l.eraseIdx i).map f
    rw [map_eraseIdx f l i]
theorem _root_.List.Nodup.map_of_inj {α β : Type} {f : α → β} {l : List α} (h : l.Nodup) (inj : ∀ a b, f a = f b → a = b) : (l.map f).Nodup := by
  induction l with
  | nil => exact List.nodup_nil
  | cons x l ih =>
    obtain ⟨h1, h2⟩ := List.nodup_cons.mp h
    refine List.nodup_cons.mpr ⟨fun hm => ?_, ih h2⟩
    obtain ⟨y, hy, e⟩ := List.mem_map.mp hm
    exact h1 (inj _ _ e ▸ hy)
theorem cut_to {xs : List V} (k : Nat) : cutV xs none (some (k : Int)) = xs.take k := by
  unfold cutV
  rw [HT.sIx_none, HT.sIx_nat, List.drop_zero, Nat.sub_zero]
  by_cases h : k ≤ xs.length
  · rw [Nat.min_eq_left h]
  · rw [Nat.min_eq_right (by omega), List.take_length, List.take_of_length_le (by omega)]
theorem cut_from {xs : List V} (k : Nat) : cutV xs (some (k : Int)) none = xs.drop k := by
  unfold cutV
  rw [HT.sIx_none, HT.sIx_nat]
  by_cases h : k ≤ xs.length
  · rw [Nat.min_eq_left h]
    exact List.take_of_length_le (by rw [List.length_drop]; omega)
  · rw [Nat.min_eq_right (by omega), List.drop_length, List.drop_of_length_le (by omega), List.take_nil]
/-- tuples at ts that are the rows xs -/
def Tup {α : Type} (g : α → List V) (H : Hp) (ts : List Addr) (xs : List α) : Prop := Paired (fun t x => H t = some (.tup (g x))) ts xs
theorem Tup.fr {α : Type} {g : α → List V} {M : List Addr} {H H' : Hp} {ts : List Addr} {xs : List α} (h : Tup g H ts xs) (f : Fr M H H') : Tup g H' ts xs := Paired.mapP h fun _ _ e => f.tup _ _ e
/-- a list of such rows at l -/
def Rws {α : Type} (g : α → List V) (H : Hp) (l : Addr) (xs : List α) : Prop := ∃ ts : List Addr, H l = some (.lst (ts.map V.ref)) ∧ Tup g H ts xs
theorem Rws.fr {α : Type} {g : α → List V} {M : List Addr} {H H' : Hp} {l : Addr} {xs : List α} (h : Rws g H l xs) (f : Fr M H H') (hm : l ∉ M) : Rws g H' l xs := by
  obtain ⟨ts, e, t⟩ := h
  exact ⟨ts, f.keep _ _ hm e, t.fr f⟩
def g2 (p : Int × Int) : List V := [.int p.1, .int p.2]
def g3 (p : Int × Int × Int) : List V := [.int p.1, .int p.2.1, .int p.2.2]
theorem Rws.ins {α : Type} {g : α → List V} {H : Hp} {B A : Addr} {ts : List Addr} {xs : List α} {x : α} (hB : H B = some (.lst (ts.map V.ref))) (h : Tup g H ts xs) (hA : H A = some (.tup (g x))) (j : Nat) :
    Rws g (upd H B (.lst ((ts.map V.ref).take j ++ [.ref A] ++ (ts.map V.ref).drop j))) B (xs.take j ++ [x] ++ xs.drop j) := by
  have f : Fr [B] H (upd H B (.lst ((ts.map V.ref).take j ++ [.ref A] ++ (ts.map V.ref).drop j))) := Fr.lst hB (List.mem_singleton.mpr rfl)
  refine ⟨ts.take j ++ [A] ++ ts.drop j, ?_, ?_⟩
  · rw [upd_same]
    simp [List.map_take, List.map_drop]
  · have h' : Tup g _ ts xs := h.fr f
    exact pappend (pappend (ptake j h') (.cons (f.tup _ _ hA) .nil)) (pdrop j h')
theorem Rws.app {α : Type} {g : α → List V} {H : Hp} {B A : Addr} {ts : List Addr} {xs : List α} {x : α} (hB : H B = some (.lst (ts.map V.ref))) (h : Tup g H ts xs) (hA : H A = some (.tup (g x))) :
    Rws g (upd H B (.lst (ts.map V.ref ++ [.ref A]))) B (xs ++ [x]) := by
  have f : Fr [B] H (upd H B (.lst (ts.map V.ref ++ [.ref A]))) := Fr.lst hB (List.mem_singleton.mpr rfl)
  refine ⟨ts ++ [A], ?_, ?_⟩
  · rw [upd_same]
    simp
  · have h' : Tup g _ ts xs := h.fr f
    exact pappend h' (.cons (f.tup _ _ hA) .nil)
theorem Rws.cat {α : Type} {g : α → List V} {H : Hp} {S : Addr} {ts us : List Addr} {xs ys : List α} (h1 : Tup g H ts xs) (h2 : Tup g H us ys) (n : H S = none) : Rws g (upd H S (.lst (ts.map V.ref ++ us.map V.ref))) S (xs ++ ys) := by
  refine ⟨ts ++ us, ?_, ?_⟩
  · rw [upd_same, List.map_append]
  · exact pappend (Tup.fr h1 (Fr.new n : Fr [] _ _)) (Tup.fr h2 (Fr.new n : Fr [] _ _))
theorem keepU {H : Hp} {b p : Addr} {o u : HO} (e : H b = some o) (n : H p = none) : upd H p u b = some o := by
  rw [upd_ne (ne_of_none e n)]
  exact e
theorem inV_int (x : Int) : ∀ l : List Int, inV (.int x) (l.map V.int) = decide (x ∈ l)
  | [] => rfl
  | y :: l => by
    have ih := inV_int x l
    unfold inV at ih ⊢
    rw [List.map_cons, List.any_cons, ih]
    by_cases h : x = y
    · subst h
      simp [eqV]
    · have h' : ¬ y = x := fun e => h e.symm
      by_cases k : x ∈ l <;> simp [eqV, h, h', k]
theorem flat_ints : ∀ l : List Int, (l.map V.int).all flatV = true
  | [] => rfl
  | _ :: l => by
    rw [List.map_cons, List.all_cons, flat_ints l]
    rfl
/-- rows as data -/
def dI (r : List Int) : PyData := .tuple (r.map .int)
theorem dI_lay : ∀ r : List Int, PyData.canLayAll0 (r.map PyData.int) = true
  | [] => by simp [PyData.canLayAll0]
  | z :: zs => by
    have ih := dI_lay zs
    simp [PyData.canLayAll0, PyData.canLay0] at ih ⊢
    exact ih
theorem dI_dep : ∀ r : List Int, PyData.depthAll (r.map PyData.int) ≤ 1
  | [] => by simp [PyData.depthAll]
  | z :: zs => by
    have ih := dI_dep zs
    simp only [List.map_cons, PyData.depthAll, PyData.depth]
    omega
theorem dI_depth (r : List Int) : (dI r).depth ≤ 2 := by
  have := dI_dep r
  simp only [dI, PyData.depth]
  omega
theorem dI_shaped (r : List Int) : SeqAt.shaped (dI r) = true := by
  have h := dI_depth r
  show ((dI r).canLay0 && decide ((dI r).depth ≤ 64)) = true
  rw [Bool.and_eq_true]
  exact ⟨by simp only [dI, PyData.canLay0]; exact dI_lay r, decide_eq_true (by omega)⟩
theorem dIs_lay : ∀ rs : List (List Int), PyData.canLayAll0 (rs.map dI) = true
  | [] => by simp [PyData.canLayAll0]
  | r :: rs => by
    have ih := dIs_lay rs
    have h : (dI r).canLay0 = true := by simp only [dI, PyData.canLay0]; exact dI_lay r
    simp only [List.map_cons, PyData.canLayAll0, h, ih, Bool.and_self]
theorem dIs_dep : ∀ rs : List (List Int), PyData.depthAll (rs.map dI) ≤ 2
  | [] => by simp [PyData.depthAll]
  | r :: rs => by
    have ih := dIs_dep rs
    have h := dI_depth r
    simp only [List.map_cons, PyData.depthAll]
    omega
theorem dIs_shaped (rs : List (List Int)) : SeqAt.shaped (.list (rs.map dI)) = true := by
  have h1 := dIs_dep rs
  have h2 : PyData.depth (.list (rs.map dI)) ≤ 64 := by
    simp only [PyData.depth]
    omega
  show (PyData.canLay0 (.list (rs.map dI)) && decide (PyData.depth (.list (rs.map dI)) ≤ 64)) = true
  rw [Bool.and_eq_true]
  exact ⟨by simp only [PyData.canLay0]; exact dIs_lay rs, decide_eq_true h2⟩
theorem dI_eqvAll : ∀ a b : List Int, PyData.eqvAll (a.map PyData.int) (b.map PyData.int) = decide (a = b)
  | [], [] => by simp [PyData.eqvAll]
  | [], _ :: _ => by simp [PyData.eqvAll]
  | _ :: _, [] => by simp [PyData.eqvAll]
  | x :: a, y :: b => by
    have ih := dI_eqvAll a b
    simp only [List.map_cons, PyData.eqvAll, PyData.eqv, ih]
    by_cases h : x = y
    · by_cases k : a = b <;> simp [h, k]
    · simp [h]
theorem dI_eqv (a b : List Int) : PyData.eqv (dI a) (dI b) = decide (a = b) := by
  simp only [dI, PyData.eqv]
  exact dI_eqvAll a b
theorem dIs_eqvAll : ∀ a b : List (List Int), PyData.eqvAll (a.map dI) (b.map dI) = decide (a = b)
  | [], [] => by simp [PyData.eqvAll]
  | [], _ :: _ => by simp [PyData.eqvAll]
  | _ :: _, [] => by simp [PyData.eqvAll]
  | x :: a, y :: b => by
    have ih := dIs_eqvAll a b
    have e := dI_eqv x y
    simp only [List.map_cons, PyData.eqvAll, e, ih]
    by_cases h : x = y
    · by_cases k : a = b <;> simp [h, k]
    · simp [h]
theorem dIs_eqv (a b : List (List Int)) : PyData.eqv (.list (a.map dI)) (.list (b.map dI)) = decide (a = b) := by
  simp only [PyData.eqv]
  exact dIs_eqvAll a b
theorem dps_int {K : PySem.W.Frag} {H : Hp} : ∀ r : List Int, DpAll K H (r.map V.int) (r.map PyData.int)
  | [] => .nil
  | i :: r => .cons (.int i) (dps_int r)
theorem dp_row {K : PySem.W.Frag} {H : Hp} {t : Addr} {r : List Int} (h : H t = some (.tup (r.map V.int))) : Dp K H (.ref t) (dI r) := .tup (SqT.of h) (dps_int r)
def r2 (p : Int × Int) : List Int := [p.1, p.2]
def r3 (p : Int × Int × Int) : List Int := [p.1, p.2.1, p.2.2]
theorem r2_inj {p q : Int × Int} (h : r2 p = r2 q) : p = q := by
  obtain ⟨a, b⟩ := p
  obtain ⟨c, d⟩ := q
  simp [r2] at h
  rw [h.1, h.2]
theorem r3_inj {p q : Int × Int × Int} (h : r3 p = r3 q) : p = q := by
  obtain ⟨a, b, c⟩ := p
  obtain ⟨d, e, f⟩ := q
  simp [r3] at h
  rw [h.1, h.2.1, h.2.2]
theorem dp_rows {K : PySem.W.Frag} {H : Hp} {α : Type} {r : α → List Int} : ∀ {ts : List Addr} {xs : List α}, Tup (fun x => (r x).map V.int) H ts xs → DpAll K H (ts.map V.ref) (xs.map fun x => dI (r x))
  | _, _, .nil => .nil
  | _, _, .cons h t => .cons (dp_row h) (dp_rows t)
theorem any_eqv {α : Type} {r : α → List Int} (inj : ∀ a b, r a = r b → a = b) [DecidableEq α] (x : α) : ∀ xs : List α, ((xs.map fun x => dI (r x)).any fun z => PyData.eqv z (dI (r x))) = decide (x ∈ xs)
  | [] => by simp
  | y :: ys => by
    have ih := any_eqv inj x ys
    rw [List.map_cons, List.any_cons, ih, dI_eqv]
    by_cases h : x = y
    · subst h
      simp
    · have h1 : ¬ r y = r x := fun e => h (inj _ _ e).symm
      by_cases k : x ∈ ys <;> simp [h, h1, k]
theorem map_dI {α : Type} (r : α → List Int) (xs : List α) : (xs.map fun x => dI (r x)) = (xs.map r).map dI := by
  rw [List.map_map]
  rfl
end LT
/-! Rules whose reading names the written part K itself: for use within comprehensions. -/
namespace LT
open PySem L2
section
variable (K : PySem.W.Frag) {X : Cx}
theorem ix_listK (h : X.K = K) : IxR X (rIxL K) := by subst h; exact ix_list
theorem ix_tupK (h : X.K = K) : IxR X (rIxT K) := by subst h; exact ix_tup
theorem ix_seqK (h : X.K = K) : IxR X (rIx K) := by subst h; exact ix_seq
theorem op_in_seqK (h : X.K = K) : OpR X (compareOp .In) (rIn K false) := by subst h; exact op_in_seq
theorem op_notIn_seqK (h : X.K = K) : OpR X (compareOp .NotIn) (rIn K true) := by subst h; exact op_notIn_seq
theorem op_eqDK (h : X.K = K) (hu : X.A.units + 64 < cLine) : OpR X (compareOp .Eq) (rEqD K) := by subst h; exact op_eqD hu
theorem op_neDK (h : X.K = K) (hu : X.A.units + 64 < cLine) : OpR X (compareOp .NotEq) (rNeD K) := by subst h; exact op_neD hu
theorem op_inDK (h : X.K = K) (hu : X.A.units + 65 < cLine) : OpR X (compareOp .In) (rInD K) := by subst h; exact op_inD hu
theorem op_notInDK (h : X.K = K) (hu : X.A.units + 65 < cLine) : OpR X (compareOp .NotIn) (rNotInD K) := by subst h; exact op_notInD hu
theorem op_catTK (h : X.K = K) : OpR X (binaryOp .Add) (rCatT K) := by subst h; exact op_catT
theorem sl_listK (h : X.K = K) : SlR X (rSlL K) := by subst h; exact sl_list
theorem sl_tupK (h : X.K = K) : SlR X (rSlT K) := by subst h; exact sl_tup
def rLenK : List V → Hp → VK → Prop := fun vs H Q => ∃ (p : Addr) (ys : List V), vs = [.ref p] ∧ (SqL K H p ys ∨ SqT K H p ys) ∧ Q (.int ys.length) H
theorem call_len_seqK (h : X.K = K) : CallR X (.builtin "len") (rLenK K) := by subst h; exact call_len_seq
theorem call_isiK' (h : X.K = K) : CallR X (.builtin "isinstance") (rIsi K) := by subst h; exact call_isi
theorem cr_sortedK (h : X.K = K) : CallR X (.builtin "sorted") (rSorted K) := by subst h; exact cr_sorted
def rListK : List V → Hp → VK → Prop := fun vs H Q => ∃ (p : Addr) (ys : List V), vs = [.ref p] ∧ (SqL K H p ys ∨ SqT K H p ys) ∧ ∀ l, H l = none → Q (.ref l) (upd H l (.lst ys))
theorem call_list_ofK (h : X.K = K) : CallR X (.type "list") (rListK K) := by subst h; exact call_list_of
def rTupleK : List V → Hp → VK → Prop := fun vs H Q => ∃ (p : Addr) (ys : List V), vs = [.ref p] ∧ ((SqL K H p ys ∧ ∀ l, H l = none → Q (.ref l) (upd H l (.tup ys))) ∨ (SqT K H p ys ∧ Q (.ref p) H))
theorem call_tuple_ofK (h : X.K = K) : CallR X (.type "tuple") (rTupleK K) := by subst h; exact call_tuple_of
theorem pi_listK {tg l : Expr} {tl : TE} (h : X.K = K) (hl : PE X l tl) : PI X tg l (iList K tl) := by subst h; exact pi_list hl
theorem pi_tupK {tg l : Expr} {tl : TE} (h : X.K = K) (hl : PE X l tl) : PI X tg l (iTup K tl) := by subst h; exact pi_tup hl
theorem pg_tupK {es : List Expr} {k : Nat} {t : TGs} {n : Nat} (h : X.K = K) (hc : X.calm = true) (g : PGs X es t) (hn : (assignEach es X.env).length = n := by rfl)
    (hst : (assignEach es X.env).findIdx? (·.1) = none := by rfl) {pos} : PG X (.Tuple es k pos) (gTup K n t) := by subst h; exact pg_tup hc g hn hst
theorem pe_bmK {T id : String} {name : Str} {o e : Expr} {es : List Expr} {r : V → List V → Hp → VK → Prop} {to : TE} {t : TA} {ap cp : Pos} (h : X.K = K) (pa : PlainAttrs T) (sl : Slot T name id)
    (ty : typeOf (.builtin id) = pure (.type "method_descriptor")) (m : MtR X id r) (ho : PE X o to) (ha : PA X (e :: es) t)
    (h1 : attributeBase o name X.env (eval o X.env) = eval o X.env := by rfl)
    (h2 : ((backTo cp (starEach (e :: es) X.env)).all (fun x => !x.1) && (backToKw cp (keywordEach [] X.env)).all (fun x => x.1.isSome) &&
      decide ((e :: es).length + ([] : List Keyword).length + (if ([] : List Keyword).isEmpty then 0 else 1) < 30)) = true := by rfl)
    (h3 : (ap.endLine == cp.line) = true := by rfl) (h4 : starEach (e :: es) X.env = (false, eval e X.env) :: starEach es X.env := by rfl)
    (h5 : (backTo cp (starEach es X.env)).any (·.1) = false := by rfl) : PE X (.Call (.Attribute o name ap) (e :: es) [] cp) (tBM K T r to t) := by
  subst h
  exact pe_bm pa sl ty m ho ha h1 h2 h3 h4 h5
theorem pe_bm0K {T id : String} {name : Str} {o : Expr} {r : V → List V → Hp → VK → Prop} {to : TE} {ap cp : Pos} (h : X.K = K) (pa : PlainAttrs T) (sl : Slot T name id)
    (ty : typeOf (.builtin id) = pure (.type "method_descriptor")) (m : MtR X id r) (ho : PE X o to) (h1 : attributeBase o name X.env (eval o X.env) = eval o X.env := by rfl)
    (h2 : (ap.endLine == cp.line) = true := by rfl) : PE X (.Call (.Attribute o name ap) [] [] cp) (tBM0 K T r to) := by
  subst h
  exact pe_bm0 pa sl ty m ho h1 h2
end
section
open PySem.Spec PyProof.Rows
variable {X : Cx}
/-- a < b < c < d, as a test -/
def tChain3 (r r' q : R2) (ta tb tc td : TE) : TT := fun σ H Q => ta σ H fun x H1 => tb σ H1 fun y H2 => r x y H2 fun z H3 => ∃ k, z = .bl k ∧
  (if k = true then tc σ H3 fun u H4 => r' y u H4 fun z2 H5 => ∃ k2, z2 = .bl k2 ∧ (if k2 = true then td σ H5 fun t H6 => q u t H6 fun z3 H7 => ∃ k3, z3 = .bl k3 ∧ Q k3 H7 else Q false H5) else Q false H3)
theorem pt_chain3 {o1 o2 o3 : CmpOp} {r r' q : R2} {a b c d : Expr} {ta tb tc td : TE} {pos : Pos} (h1 : OpR X (compareOp o1) r) (h2 : OpR X (compareOp o2) r') (h3 : OpR X (compareOp o3) q)
    (ha : PE X a ta) (hb : PE X b tb) (hc : PE X c tc) (hd : PE X d td) (hm : lastMarks [o1, o2, o3] [b, c, d] = false := by with_unfolding_all rfl) :
    PT X (.Compare a [o1, o2, o3] [b, c, d] pos) (tChain3 r r' q ta tb tc td) := by
  refine ⟨fun pins s σ H Q I h => ?_⟩
  refine isTrue_chain (thn (ha.run pins s σ H _ I h) fun v s1 ha1 => ?_) hm
  obtain ⟨x, H1, I1, rx, qa⟩ := ha1
  refine test_link (thn (hb.run pins s1 σ H1 _ I1 qa) fun u s2 hb1 => ?_)
  obtain ⟨y, H2, I2, ry, qb⟩ := hb1
  refine thn (h1 pins s2 σ H2 x y v u _ I2 rx ry qb) fun e1 s3 hz => ?_
  obtain ⟨z, H3, I3, rz, k, ek, qz⟩ := hz
  subst ek
  cases rz
  refine wpAny_truthy_bool ?_
  cases k with
  | false => exact ite_ff ⟨H3, I3, qz⟩
  | true =>
    refine ite_tt (test_link (thn (hc.run pins s3 σ H3 _ I3 qz) fun u4 s4 hc4 => ?_))
    obtain ⟨y4, H4, I4, r4, q4⟩ := hc4
    refine thn (h2 pins s4 σ H4 y y4 u u4 _ I4 ry r4 q4) fun e5 s5 hz5 => ?_
    obtain ⟨z5, H5, I5, r5, k5, ek5, q5⟩ := hz5
    subst ek5
    cases r5
    refine wpAny_truthy_bool ?_
    cases k5 with
    | false => exact ite_ff ⟨H5, I5, q5⟩
    | true =>
      refine ite_tt (test_last (thn (hd.run pins s5 σ H5 _ I5 q5) fun u6 s6 hd6 => ?_))
      obtain ⟨y6, H6, I6, r6, q6⟩ := hd6
      refine thn (h3 pins s6 σ H6 y4 y6 u4 u6 _ I6 r4 r6 q6) fun e7 s7 hz7 => ?_
      obtain ⟨z7, H7, I7, r7, k7, ek7, q7⟩ := hz7
      subst ek7
      cases r7
      exact wpAny_truthy_bool ⟨H7, I7, q7⟩
end
end LT
/-! Exceptions of own classes with fields: made, raised where nothing is handled; what is handled, as an argument. -/
namespace LT
open PySem PySem.Spec PyProof.Rows L2
section
variable {X : Cx} {CX : CXT} {x : Str} {C fI : Addr} {k : Nat} {fd : FuncData} {ps : List Str} {sp : Sp} {e : Expr} {es : List Expr} {ta : TA} {p pos : Pos}
/-- C(e, ..) of an own class with its own __init__: what is made has no context -/
theorem pmk_fields (T : OexC X.K C) (iC : PySem.W.findIn X.K (.ref C) "__init__" = some (some (.ref fI))) (tI : PySem.W.typeIn X.K (.ref fI) = some (.type "function"))
    (G : FnOk X.prog X.w X.K X.mg X.base CX k fI fd ps sp) (room : Room (k + 1) X.A) (bnd : Binds X.K fd ps []) (pass : Passes CX X (fun _ _ _ => False)) (gl : Gl X x)
    (at_ : X.mg x = some (.ref C)) (ha : PA X (e :: es) ta) (dbg : (x == ("__debug__" : Str)) = false := by decide)
    (st : starEach (e :: es) X.env = (false, eval e X.env) :: starEach es X.env := by rfl)
    (pl : (backTo pos (starEach es X.env)).any (·.1) = false := by rfl) : L2N.PMk X (.Call (.Name x p) (e :: es) [] pos) (tMkO C sp [] ta) := by
  intro pins s σ H Q J want
  obtain ⟨cn, cq, cN, cb, bm, c1, c2, c3, c4, c5, k0, k1, k2, k3, k5, look, mro⟩ := T.cls
  refine wpAny_Call_Name_kw (ld_glob J gl at_ ?_ dbg)
  refine PySem.W.callWith_K (h₀ := X.base) J.ok.mod.kin T.kC (thn (ha.run pos pins s σ H _ J want) fun us t got => ?_) st pl
  obtain ⟨vs, H1, J1, rel, few, after⟩ := got
  refine ⟨J1.kIn, ?_⟩
  show wpAny _ _ (call (.ref C) us) _ _ _
  obtain ⟨hp, gs, dr, tk, os⟩ := t
  have up : hp.objs.size ≤ hp.objs.size + 1 := Nat.le_succ _
  have free : H1 (hp.objs.size + 1) = none := J1.hok.fresh up
  have wish := after (hp.objs.size + 1) free
  rw [List.append_nil] at wish
  have keep : ∀ b o, hp.get? b = some o →
      ((hp.push (PySem.W.kdv_tup us)).push (PySem.HandSPX.excO C hp.objs.size)).get? b = some o :=
    fun b o z => Heap.get?_push_of_some _ (Heap.get?_push_of_some _ z)
  have new : ((hp.push (PySem.W.kdv_tup us)).push (PySem.HandSPX.excO C hp.objs.size)).get? (hp.objs.size + 1) =
      some (PySem.HandSPX.excO C hp.objs.size) := by heap_get
  have J2 : Inv X pins σ (upd H1 (hp.objs.size + 1) (exo (hp.objs.size + 1) C none))
      ⟨(hp.push (PySem.W.kdv_tup us)).push (PySem.HandSPX.excO C hp.objs.size), gs, dr, tk, os⟩ :=
    J1.laid (t' := tk) (a := hp.objs.size + 1) (o := exo (hp.objs.size + 1) C none)
      (h' := (hp.push (PySem.W.kdv_tup us)).push (PySem.HandSPX.excO C hp.objs.size)) keep up (exo_ok new)
  have rel2 : Vals (V.ref (hp.objs.size + 1) :: vs) (Value.ref (hp.objs.size + 1) :: us) := .cons rfl rel
  have many : (Value.ref (hp.objs.size + 1) :: us ++ []).length = ps.length := by
    have z := rel2.length
    rw [G.len _ _ _ _ wish] at z
    rw [List.append_nil]
    exact z.symm
  have line : us.length ≤ sizeLine := by
    rw [← Paired.length rel, sizeLine_eq]
    omega
  have bd := bnd _ (Value.ref (hp.objs.size + 1) :: us) J2.kIn many
  rw [List.append_nil] at bd
  have run := G.run _ X.stack _ _ ⟨Value.ref (hp.objs.size + 1) :: us, []⟩ (Value.ref (hp.objs.size + 1) :: us) _ _ (fun _ _ _ => False) (room.make C us []) (J2.env0.make C us []) bd rel2 wish
  refine wpAny_call (PySem.HandSPX.call_own F.excBase_ValueError (fun Y => PySem.HandSPX.refsVE_contains Y bm mro) (J1.kIn _ _ look) (PySem.W.looks_findIn J1.kIn iC)
    (fun self => PySem.W.bind_fn J1.kIn self tI) line (codeAny_mono run fun r s' end_ => ?_))
  match r, end_ with
  | .error er, end_ => exact pass pins σ _ _ er s' J2 end_
  | .ok (.ret u), end_ =>
    obtain ⟨v, H2, os2, bare, un, hok, rv, ev, d, fs, ea, ed, hd1, q2⟩ := end_
    subst ev
    obtain ⟨h2, g2, d2, t2, os'⟩ := s'
    obtain ⟨t0, G2, J3, kG, ge, hoe, na⟩ := mk_end0 (d2 := d2) (t2 := t2) J1 up keep un hok os2 bare ea ed hd1
    refine ⟨rv, ⟨hp.objs.size + 1, _, _, ⟨G2, g2, d2, t2, os'⟩, _, .ref C, some d, rfl, J3, kG, ge, hoe, ⟨rfl, rfl, fun vs hv => ?_⟩, rfl, rfl, na, rfl, bare, raises_own T.exC T.tyC, q2⟩⟩
    cases hv
    rfl
  | .ok .next, end_ => exact False.elim end_
  | .ok .brk, end_ => exact False.elim end_
  | .ok .cont, end_ => exact False.elim end_
end
/-- a def that may raise, where nothing is handled -/
theorem okN {P : Program} {w : World} {K : PySem.W.Frag} {mg : Str → Option Value} {base : Heap} {x qual : Str} {st : Stmt} {f : Addr} {fd : FuncData} {N ps : List Str} {k : Nat} {sp : Sp} (F : Fun K x qual st f fd) (S : FnScope N ps (defScope st))
    (few : ∀ vs H Q E, sp vs H Q E → vs.length = ps.length)
    (walk : ∀ (cdv : Value) (A : Around) (outer : List Env) (s : Shared) (H : Hp) (vs : List V) (Q : VK) (E : XK), Room k (A.deeper (envOfC qual (defScope st) s.heap.objs.size f cdv)) → sp vs H Q E →
      ∃ t, PSs (cxOf (L2N.CX P w) P w K mg base N qual (defScope st) f cdv A outer s H E) (defBody st) t ∧ t { nx := fun _ H' => Q .non H', rt := Q } (start N vs) H) :
    FnOk P w K mg base (L2N.CX P w) (k + 1) f fd ps sp := by
  obtain ⟨oc, od, kV, doc, pm, an, cdv, ct, osl, rfl, look, code⟩ := F.ex
  exact fn_of look code S few fun A outer s H vs Q E room want => walk cdv A outer s H vs Q E room want
section
variable {X : Cx} {C : Addr} {bmB : List Value} {B newId initId : String}
/-- C(e) of an own class without an __init__ of its own -/
theorem pmk_one {x : Str} {e : Expr} {ta : TA} {p pos : Pos} (F : ExcBaseFacts B newId initId bmB) (own : PySem.W.excIn X.K C bmB newId = true) (at_ : X.mg x = some (.ref C)) (keep : PySem.W.keepIn X.K (.ref C) = true) (rs : Raises X (.ref C)) (he : PA X [e] ta) (gl : Gl X x := by rfl)
    (dbg : (x == ("__debug__" : Str)) = false := by decide) (st : starEach (e :: []) X.env = (false, eval e X.env) :: starEach [] X.env := by rfl) (pl : (backTo pos (starEach [] X.env)).any (·.1) = false := by rfl) :
    L2N.PMk X (.Call (.Name x p) [e] [] pos) (fun σ H Q => ta σ H fun vs H1 => (∃ v, vs = [v]) ∧ Q (.ref C) none H1) := by
  intro pins s σ H Q J want
  refine wpAny_Call_Name_kw (ld_glob J gl at_ ?_ dbg)
  refine PySem.W.callWith_K (h₀ := X.base) J.ok.mod.kin keep (thn (he.run pos pins s σ H _ J want) fun us t got => ?_) st pl
  obtain ⟨vs, H1, J1, rel, ⟨v, ev⟩, q⟩ := got
  subst ev
  refine ⟨J1.kIn, ?_⟩
  cases rel with
  | cons ru rn =>
    rename_i u us'
    cases rn
    obtain ⟨_, _, _, _, _, _, _, _, _, _, _, _, _, _, _, _, _, o1, o2, o3, o4⟩ := exc_obj J1.kIn own
    show wpAny _ _ (call (.ref C) [u]) _ _ _
    exact wpAny_call_exc_subT F o4 o1 o2 o3 (fun h' a made => L2N.mk_of J1 made rs q (J1.hok.gone made.new)) (by show 1 ≤ sizeLine; rw [sizeLine_eq]; omega)
end
end LT
/-! Where an exception is handled: a list's comprehension, isinstance of what is handled, a def that is told of it. -/
namespace LT
open PySem PySem.Spec PyProof.Rows L2 HotX L2H
section
variable {prog : Program} {w : World} {A : Around} {E : Value → Shared → Prop} {s : Shared}
/-- a list's iterator at its end, an exception handled -/
theorem list_end_hot {it l x1 : Addr} {i : Nat} {items : Array Value} {Q : Option Value → Shared → Prop} (hot : HotAt A x1 s.heap) (ne : x1 ≠ it) (hit : s.heap.IsListIter it l i) (hl : s.heap.IsList l items) (hx : items[i]? = none)
    (hQ : ∀ h', (∀ b o, b ≠ it → s.heap.get? b = some o → h'.get? b = some o) → Q none { s with heap := h' }) : wpAny (model prog w) A (pyNext (.ref it)) Q E s := by
  obtain ⟨o, ho, hc, hd⟩ := id hit
  obtain ⟨ol, hol, _, nl, hdl⟩ := hl
  obtain ⟨hh, o1, vs1, h1, d1, c1⟩ := hot
  unfold pyNext
  refine wpAny_bind (wpAny_attempt ?_)
  refine wpAny_callSpecial?_slot (name := Str.ofString "__next__") hit.typeIs slot_listiter_next ?_
  refine wpAny_call_entry slot_listiter_next hit.typeIs entry_listiter_next ?_ (args_listiter_next _)
  show wpAny _ _ (field (.ref it) 0 >>= _) _ _ s
  refine wpAny_bind (wpAny_field ho hd (x := .ref l) rfl ?_)
  show wpAny _ _ (if (Value.ref l == Value.none) = true then _ else _) _ _ s
  rw [if_neg (show ¬ ((Value.ref l == Value.none) = true) from Bool.false_ne_true)]
  show wpAny _ _ (field (.ref it) 1 >>= _) _ _ s
  refine wpAny_bind (wpAny_field ho hd (x := .int i 0) rfl ?_)
  show wpAny _ _ (seqItems? (.ref l) >>= _) _ _ s
  refine wpAny_bind (wpAny_seqItems hol hdl ?_)
  simp only [Int.toNat_natCast, hx]
  refine wpAny_bind (wpAny_rule (wpAny_bind (wpAny_setField ho hd (by simp) ?_)))
  show wpAny _ _ (newExc (.type "StopIteration") [] >>= _) _ _ _
  refine wpAny_bind ?_
  simp only [newExc, newTuple]
  refine wpAny_bind (wpAny_newObj_type ?_ (by size_fits))
  refine wpAny_bind (m := firstArgMember _ _) (wpAny_of_eq (a := Value.none) (by first | rfl | (simp only [firstArgMember]; rfl)) ?_)
  refine wpAny_newObj_type ?_ (by size_fits)
  have k : ∀ b ob, b ≠ it → s.heap.get? b = some ob → (s.heap.update it (Obj.mapFields (·.setIfInBounds 0 Value.none))).get? b = some ob := fun b ob nb e => by
    rw [Heap.get?_update_other _ _ (Ne.symm nb)]
    exact e
  refine raiseNew_hot ⟨hh, o1, vs1, Heap.get?_push_of_some _ (Heap.get?_push_of_some _ (k _ _ ne h1)), d1, c1⟩ (Nat.ne_of_lt (Heap.lt_size (Heap.get?_push_of_some _ (k _ _ ne h1)))) (Heap.get?_push_size _ rfl) rfl
    (by first | (simp; done) | (simp; omega)) ?_
  refine wpAny_bind (wpAny_isInstance (T := "StopIteration") (b := true) ⟨_, Heap.get?_update_self _ (Heap.get?_push_size _ rfl) rfl, rfl⟩ isSubtype_stop ?_)
  refine wpAny_pure (hQ _ fun b ob nb e => ?_)
  rw [Heap.get?_update_other _ _ (Nat.ne_of_gt (Heap.lt_size (Heap.get?_push_of_some _ (k _ _ nb e))))]
  exact Heap.get?_push_of_some _ (Heap.get?_push_of_some _ (k _ _ nb e))
end
section
variable {X : Cx}
/-- [elt for tg in l], l a list, while an exception is handled that every state bears -/
theorem pe_lcHot {elt tg l : Expr} {scope : Scope} {own : List (Str × Nat)} {pos : Pos} {tl : TE} {g : TG} {te : TE} {px : Addr × Obj} (hot : Hot1 X.A px) (mem : px ∈ X.pn) (nd : X.N.Nodup) (pl : PE X l tl) (ok : BlkOk X.N X.env.scope scope own)
    (pg : ∀ (s : Shared) (H : Hp) (C : Addr) (cl : List (Str × Addr)) (fp : List Addr), PG (X.blk s H scope (compEnvC scope cl C X.env) fp) tg g)
    (pe : ∀ (s : Shared) (H : Hp) (C : Addr) (cl : List (Str × Addr)) (fp : List Addr), PE (X.blk s H scope (compEnvC scope cl C X.env) fp) elt te)
    (fs : ∀ x, foldedSetIterable l X.env x = pure x := by intro _; rfl) : PE X (.ListComp elt [⟨tg, l, [], 0⟩] scope pos) (tLc (iList X.K tl) g tYes te (own.map (·.2))) := by
  refine ⟨fun pins s σ H Q J want => ?_⟩
  rw [eval_ListComp]
  have free : ∀ y ∈ scope.names, y.2 = .free → ∃ c, X.env.cells.lookup y.1 = some c := fun y hy e => by
    rcases ok.free y hy e with z | z
    · exact J.ok.has _ (.inl z)
    · exact J.ok.has _ (.inr z)
  refine wpAny_comprehension_free (use := none) rfl fs (closure_ok free) ok.kind (fun y hy e => by rw [ok.uniq y hy, e]) (thn (pl.run pins s σ H _ J want) fun xv s1 got => ?_)
  obtain ⟨x, H1, J1, r1, a, ex, ⟨xs0, hq0⟩, aft⟩ := got
  subst ex
  cases r1
  obtain ⟨its0, rv0, p0, hz0⟩ := J1.list hq0
  refine wpAny_pyIter_list p0.isList ?_
  generalize hit : s1.heap.objs.size = it
  have fit : FpOk X pins H1 it := by
    rw [← hit]
    exact J1.fpOk (Nat.le_refl _) (J1.hok.fresh (Nat.le_refl _))
  have J2 : Inv X pins σ H1 { s1 with heap := s1.heap.push { cls := .type "list_iterator", data := .fields #[.ref a, .int 0 0] } } := J1.kept (t' := s1.toks) fun b o e => Heap.get?_push_of_some _ e
  have st2 : (s1.heap.push { cls := .type "list_iterator", data := .fields #[.ref a, .int 0 0] }).IsListIter it a 0 := by
    rw [← hit]
    exact ⟨_, Heap.get?_push_size _ rfl, rfl, rfl⟩
  have lt2 : it < (s1.heap.push { cls := .type "list_iterator", data := .fields #[.ref a, .int 0 0] }).objs.size := by
    rw [← hit, Heap.size_push]
    exact Nat.lt_succ_self _
  show wpAny _ _ _ _ _ ({ s1 with heap := s1.heap.push { cls := .type "list_iterator", data := .fields #[.ref a, .int 0 0] } } : Shared)
  generalize hs2 : ({ s1 with heap := s1.heap.push { cls := .type "list_iterator", data := .fields #[.ref a, .int 0 0] } } : Shared) = s2 at J2 ⊢
  have eh : s1.heap.push { cls := .type "list_iterator", data := .fields #[.ref a, .int 0 0] } = s2.heap := by rw [← hs2]
  rw [eh] at st2 lt2
  refine wpAny_newObj_type (newEnv_comp ?_) (by show 0 ≤ sizeLine; decide)
  generalize hD : s2.heap.objs.size = D
  have Dfree : H1 D = none := J2.hok.fresh (Nat.le_of_eq hD)
  obtain ⟨W, ⟨m0, w0⟩, turn⟩ := aft D Dfree
  have itD : it ≠ D := by
    rw [← hD]
    exact Nat.ne_of_lt lt2
  generalize hs3 : ({ s2 with heap := s2.heap.push { cls := .type "list", data := .seq ([] : List Value).toArray } } : Shared) = s3
  have e3 : s3.heap = s2.heap.push { cls := .type "list", data := .seq ([] : List Value).toArray } := by rw [← hs3]
  have J3 : Inv X pins σ (upd H1 D (.lst [])) s3 := by
    rw [← hs3]
    refine J2.laid (t' := s2.toks) (fun b o e => Heap.get?_push_of_some _ e) (Nat.le_of_eq hD) ⟨Nat.zero_le _, [], 0, .nil, ?_⟩
    rw [← hD]
    exact Heap.get?_push_size _ rfl
  have f3 : FpOk X pins (upd H1 D (.lst [])) it ∧ it < s3.heap.objs.size := by
    refine ⟨⟨?_, fit.2⟩, by rw [e3, Heap.size_push]; exact Nat.lt_succ_of_lt lt2⟩
    rw [upd_ne itD]
    exact fit.1
  have st3 : s3.heap.IsListIter it a 0 := st2.at fun o e => by
    rw [e3]
    exact Heap.get?_push_of_some _ e
  have J4 := block_start (fp := [it]) J3 ok nd fun b hb => by
    rw [List.mem_singleton.mp hb]
    exact f3
  have pg' := pg s3 (upd H1 D (.lst [])) s3.heap.objs.size (cellsFrom (s3.heap.objs.size + 1) scope.names (cloFrom X.env.cells scope.names [])) [it]
  have pe' := pe s3 (upd H1 D (.lst [])) s3.heap.objs.size (cellsFrom (s3.heap.objs.size + 1) scope.names (cloFrom X.env.cells scope.names [])) [it]
  have P3 := J3.pin px (List.mem_append_left _ mem)
  have pit : px.1 ≠ it := f3.1.2.2.2.2.2 px (List.mem_append_left _ mem)
  show codeAny _ _ (.compStart (.ListComp elt [⟨tg, l, [], 0⟩] scope pos) 0 (.ref it) (.ref D) (compEnvC scope (cellsFrom (s3.heap.objs.size + 1) scope.names (cloFrom X.env.cells scope.names [])) s3.heap.objs.size X.env))
    (compPost (model X.prog X.w) X.A X.xe none _ (.ref D) s3.heap.objs.size) { s3 with heap := pushCells (s3.heap.push { cls := .type "dict", data := .dict #[] }) scope.names }
  generalize hce : compEnvC scope (cellsFrom (s3.heap.objs.size + 1) scope.names (cloFrom X.env.cells scope.names [])) s3.heap.objs.size X.env = ce at J4 pg' pe' ⊢
  have cL : ce.locals = s3.heap.objs.size := by
    subst hce
    rfl
  generalize hH3 : upd H1 D (.lst []) = H3 at J3 J4 pg' pe' w0 f3 P3
  have kp : ∀ b o, s3.heap.get? b = some o → (pushCells (s3.heap.push { cls := .type "dict", data := .dict #[] }) scope.names).get? b = some o := fun b o e => pushCells_keeps _ _ _ _ (Heap.get?_push_of_some _ e)
  generalize hs4 : ({ s3 with heap := pushCells (s3.heap.push { cls := .type "dict", data := .dict #[] }) scope.names } : Shared) = s4 at J4 ⊢
  have e4 : s4.heap = pushCells (s3.heap.push { cls := .type "dict", data := .dict #[] }) scope.names := by rw [← hs4]
  have st4 : s4.heap.IsListIter it a 0 := st3.at fun o e => by
    rw [e4]
    exact kp _ _ e
  have J4p : Inv (X.blk s3 H3 scope ce [it]) [px] (wipe σ (own.map (·.2))) H3 s4 := J4.pins_of fun q hq => by
    rw [List.mem_singleton.mp hq]
    refine ⟨by rw [e4]; exact kp _ _ P3.1, P3.2.1, ?_, fun hm => ?_, P3.2.2.2.2⟩
    · show px.1 ≠ ce.locals
      rw [cL]
      exact Nat.ne_of_lt (Heap.lt_size P3.1)
    · exact (List.mem_cons.mp (J3.stkSub px.1 hm)).elim P3.2.2.1 P3.2.2.2.1
  have here : ∀ {σ' : L2.St} {H' : Hp} {s' : Shared}, Inv (X.blk s3 H3 scope ce [it]) [px] σ' H' s' → H' it = none → FpOk (X.blk s3 H3 scope ce [it]) [px] H' it := fun {σ' H' s'} I' hn =>
    ⟨hn, (I'.ok.exf it (List.mem_singleton.mpr rfl)).1, I'.ok.exfs it (List.mem_singleton.mpr rfl), .inl (List.mem_singleton.mpr rfl), fun x c e => (I'.ok.exf it (List.mem_singleton.mpr rfl)).2 x c e, fun q hq => by
      have e : q = px := by simpa using (show q ∈ ([] : List (Addr × Obj)) ++ [px] from hq)
      rw [e]
      exact pit⟩
  have loop : codeAny (model X.prog X.w) X.A (.compLoop (.ListComp elt [⟨tg, l, [], 0⟩] scope pos) 0 (.ref it) (.ref D) ce)
      (compPost (model X.prog X.w) X.A X.xe none (EP X pins σ Q) (.ref D) s3.heap.objs.size) s4 := by
    refine compLoop_any (fun n s' => ∃ i H', Inv (X.blk s3 H3 scope ce [it]) [px] (wipe σ (own.map (·.2))) H' s' ∧ s'.heap.IsListIter it a i ∧ H' it = none ∧ W i n H') ?_ m0 ⟨0, H3, J4p, st4, f3.1.1, w0⟩
    rintro n s5 ⟨i, H5, I5, st5, n5, w5⟩
    have F5 := here I5 n5
    obtain ⟨g0, g1, g2, g3, g4, g5⟩ := id F5
    rcases turn i n H5 w5 with ⟨⟨xs, hq, hx⟩, fin⟩ | ⟨⟨xs, x, hq, hx⟩, Nx, hNx, step⟩
    · obtain ⟨its, rv, p, hz⟩ := I5.list hq
      have hl := rv.length
      have P5 := I5.pin px (by simp)
      obtain ⟨hh, vs5, d5, c5⟩ := id hot
      refine list_end_hot ⟨hh, px.2, vs5, P5.1, d5, c5⟩ pit st5 p.isList (by simp; omega) fun h' k => ?_
      have I6 : Inv (X.blk s3 H3 scope ce [it]) [px] (wipe σ (own.map (·.2))) H5 { s5 with heap := h' } := I5.turned (t' := s5.toks) k g0 g1 g3 g4 g5
      have J7 : Inv X pins σ H5 { s5 with heap := h' } := J3.call' (ch := [it]) I6.os I6.base I6.hok I6.bare fun b hb => by
        rw [List.mem_singleton.mp hb]
        exact ⟨f3.1.2.2.2.1, f3.1.2.1, f3.1.2.2.2.2.1, f3.1.2.2.2.2.2⟩
      have nC : H5 s3.heap.objs.size = none := by
        have z : H5 ce.locals = none := I6.free
        rw [cL] at z
        exact z
      obtain ⟨m, hn, _⟩ := I6.loc
      have hn : h'.Ns ce.locals m := hn
      rw [cL] at hn
      have fC := J3.fpOk (Nat.le_refl _) nC
      refine ⟨m, hn, fun h'' sb => ?_⟩
      obtain ⟨k0, k1, k2, k3, k4, k5⟩ := fC
      exact ⟨.ref D, H5, J7.turned (t' := s5.toks) (fun b o hb e => (sb.2 b hb).trans e) k0 k1 k3 k4 k5, rfl, fin⟩
    · obtain ⟨its, rv, p, hz⟩ := I5.list hq
      obtain ⟨u, hu, ru⟩ := rv.get hx
      refine wpAny_pyNext_list_item st5 p.isList (x := u) (by simpa using hu) fun h' st' sb => ?_
      have I6 : Inv (X.blk s3 H3 scope ce [it]) [px] (wipe σ (own.map (·.2))) H5 { s5 with heap := h' } := I5.turned (t' := s5.toks) (fun b o hb e => (sb.2 b hb).trans e) g0 g1 g3 g4 g5
      obtain ⟨oit, oe, oc, od⟩ := id st'
      refine go_of (s := { s5 with heap := h' }) oe oc od (by decide) ?_
      have I6' : Inv (X.blk s3 H3 scope ce [it]) ([px] ++ [(it, oit)]) (wipe σ (own.map (·.2))) H5 { s5 with heap := h' } := I6.pins_of fun q hq => by
        rcases List.mem_append.mp hq with hq | hq
        · exact I6.pin q (List.mem_append_right _ hq)
        · rw [List.mem_singleton.mp hq]
          exact ⟨oe, g0, g1, g2, fun v z => by rw [od] at z; cases z⟩
      refine thnF (pg'.run _ _ _ H5 x u _ I6' ru (step x H5 ⟨rfl, fun ys hy => by rw [I5.list_inj hy hq]; exact hx⟩)) fun _ s8 ⟨σ8, H8, I8, hw8, q8⟩ => ?_
      refine wpAny_tests_nil ?_
      simp only [if_true]
      refine thnF (pe'.run _ s8 σ8 H8 _ I8 q8) fun z s10 ⟨yv, H10, I10, r10, acc, hD10, hz10, nx⟩ => ?_
      refine app_ok (X := X.blk s3 H3 scope ce [it]) I10 hD10 hz10 r10 fun s11 I11 => ?_
      obtain ⟨m', hm, w'⟩ := hNx _ nx
      have len : (wipe σ (own.map (·.2))).length = σ8.length := by rw [← hw8, wipe_length]
      have P11 := I11.pin (it, oit) (by simp)
      refine ⟨m', hm, i + 1, _, ?_, ⟨oit, P11.1, oc, od⟩, P11.2.1, w'⟩
      refine (Inv.pins_of (pins' := [px]) I11 fun q hq => I11.pin q (by simp at hq ⊢; exact .inl hq)).weak len fun j v e => ?_
      rw [← hw8] at e
      exact (wipe_some e).1
  exact codeAny_compStart_list loop (wpAny_pyIter_listiter st4 loop)
end
section
variable {X : Cx} {K : PySem.W.Frag} {mg : Str → Option Value} {base : Heap} {P : Program} {w : World} {CX : CXT} {k : Nat} {f : Addr} {fd : FuncData} {ps : List Str} {sp : Sp} {px : Addr × Obj}
theorem find_class {K : PySem.W.Frag} {D : Addr} {od : Option Obj} (C : ExcC K D) : PySem.W.findObj K D od "__class__" = some (.bind (.builtin "getset_descriptor.__get__") (.builtin "object.__class__")) := by
  obtain ⟨cd, hc, _⟩ := PySem.W.any_some C.hd
  unfold PySem.W.findObj
  rw [hc, Option.bind_some, C.ha, Option.bind_some]
  simp [C.hn, C.ht]
/-- e.__class__ of an own exception, whatever dict it has -/
theorem class_of_exc {prog : Program} {A : Around} {E : Value → Shared → Prop} {s : Shared} {K : PySem.W.Frag} {x D : Addr} {ox : Obj} {od : Option Obj} {Q : Option Value → Shared → Prop} (C : ExcC K D) (KX : K.In s.heap)
    (here : PySem.W.InstAt s.heap x ox D od) (want : Q (some (.ref D)) { s with toks := s.toks + 1 }) : wpAny (model prog w) A (getAttr? (.ref x) "__class__") Q E s := by
  have found := find_class (od := od) C
  obtain ⟨hp, g, dr, t, os⟩ := s
  have T0 := here.type (M := model prog w)
  have T1 := PySem.W.looks_findIn (M := model prog w) KX C.hg
  have T2 := PySem.W.looks_findIn (M := model prog w) KX C.hk
  have T3 := PySem.W.looks_find (M := model prog w) KX here found
  have below : PySem.W.Looks (model prog w) hp (isInstance (.ref x) (.type "BaseException")) true := T0.andThen (PySem.W.looks_subIn KX C.hs)
  have b0 : (false && onTheHeap (Value.builtin "BaseException.__getattribute__")) = false := rfl
  have b2 : (Value.builtin "BaseException.__getattribute__" == Value.builtin "object.__getattribute__") = false := by decide +kernel
  have b1 : (onTheHeap (Value.ref D) && Value.builtin "BaseException.__getattribute__" == Value.builtin "object.__getattribute__") = false := by
    rw [b2]
    rfl
  unfold getAttr? getAttrBy? getAttrBy
  refine wpAny_bind (wpAny_mkText (wpAny_bind (wpAny_attempt (wpAny_holding (wpAny_bind (T0.at (wpAny_bind (T1.at ?_))))))))
  show wpAny _ _ (if (onTheHeap (Value.ref D) && Value.builtin "BaseException.__getattribute__" == Value.builtin "object.__getattribute__") = true then _ else _) _ _ _
  rw [b1, if_neg Bool.false_ne_true]
  unfold getAttrByItsOwn hookBefore
  refine wpAny_bind ?_
  rw [if_pos (show onTheHeap (Value.ref D) = true from rfl)]
  refine T2.at ?_
  refine wpAny_bind (wpAny_attempt (wpAny_holding ?_))
  unfold callGetattribute
  rw [b0, if_neg Bool.false_ne_true]
  unfold boundAndCalled
  rw [PySem.F.excAttr_ValueError.ga.bind (.ref x)]
  refine wpAny_bind (wpAny_pure ?_)
  show wpAny _ _ (call (.builtin "BaseException.__getattribute__") [.ref x, .str "__class__" t]) _ _ _
  refine wpAny_call (codeAny_call_builtin PySem.F.excAttr_ValueError.ga.plain PySem.F.entry_bexc_ga ?_)
  refine @PySem.W.check_slot (model prog w) _ _ ⟨hp, g, dr, t + 1, os⟩ "BaseException.__getattribute__" "BaseException" "__getattribute__" (.ref x)
    [.str "__class__" t] [] _ (by decide +kernel) (by decide +kernel) below (PySem.F.args_bexc_ga (.ref x) (.str "__class__" t)) ?_
  unfold Builtin.«object.__getattribute__»
  refine wpAny_bind (wpAny_of_eq (a := ((Value.ref x : Value), [Value.str "__class__" t])) (by first | rfl | (simp only [slotArgs]; rfl)) ?_)
  refine wpAny_bind (wpAny_pure (wpAny_bind (T0.at (wpAny_bind (T3.at ?_)))))
  show wpAny _ _ (holding [Value.builtin "object.__class__"] (call (.builtin "getset_descriptor.__get__") [.builtin "object.__class__", .ref x, .ref D]) >>= ret) _ _ _
  refine wpAny_bind (wpAny_holding (wpAny_call (PySem.W.class_get (s := ⟨hp, g, dr, t + 1, os⟩) (ox := ox) (od := od) KX here C.hm ?_)))
  refine wpAny_pure ?_
  show wpAny _ _ (handedOut (.ref D)) _ _ _
  rw [PySem.W.handedOut_of (v := .ref D) rfl]
  first
    | exact wpAny_pure (wpAny_pure want)
    | exact wpAny_pure want
theorem kit_exc {K : PySem.W.Frag} {x D : Addr} {ox : Obj} (C : ExcC K D) : PySem.W.KitX K (.ref x) (.ref D) (fun h => ∃ od, PySem.W.InstAt h x ox D od) where
  ty := fun _ _ _ ⟨_, I⟩ => I.type
  it := fun _ _ KX _ => by
    obtain ⟨cd, hc, _⟩ := PySem.W.any_some C.hd
    unfold PySem.W.clsIn at hc
    split at hc
    · rename_i c' d' cd' sl' ho
      intro A' Q' E' s' k q
      unfold isType loadHead
      exact wpAny_bind (wpAny_loadPart (k _ _ (KX _ _ ho)) (wpAny_pure q))
    · cases hc
  ne := fun h tp dd its n sl KX htp => by
    obtain ⟨cd, hc, _⟩ := PySem.W.any_some C.hd
    refine Bool.eq_false_iff.mpr fun q => ?_
    have e : D = tp := Value.ref.inj (beq_iff_eq.mp q)
    subst e
    unfold PySem.W.clsIn at hc
    split at hc
    · rename_i c' d' cd' sl' ho
      have z := (KX _ _ ho).symm.trans htp
      cases z
    · cases hc
  ca := fun KX I k => by
    obtain ⟨od, I⟩ := I
    exact class_of_exc C KX I k
/-- isinstance of what is handled -/
def rIsH (K : PySem.W.Frag) (D : Addr) (px : Addr × Obj) : List V → Hp → VK → Prop := fun xs H Q => ∃ (c : V) (cv : Value) (b : Bool), xs = [.ref px.1, c] ∧ (∀ u, RelV c u → u = cv) ∧ PySem.W.kitOne K (.ref D) cv = some b ∧
  (∀ d, px.2.dict = some d → ∃ o, H d = some o) ∧ Q (.bl b) H
theorem call_isHot {D : Addr} (C : ExcC X.K D) (mem : px ∈ X.pn) (cls : px.2.cls = .ref D) (dat : ∃ vs, px.2.data = .fields vs) : CallR X (.builtin "isinstance") (rIsH X.K D px) := by
  intro pins s σ H xs us Q J rel want
  obtain ⟨c, cv, b, rfl, hcv, e, dct, q⟩ := want
  cases rel with
  | cons rx rest =>
    cases rest with
    | cons rt rest =>
      cases rest
      cases rx
      have ec := hcv _ rt
      subst ec
      obtain ⟨get, _⟩ := J.pin px (List.mem_append_left _ mem)
      obtain ⟨vs, hv⟩ := dat
      have at_ : ∃ od, PySem.W.InstAt s.heap px.1 px.2 D od := by
        have d' : ∀ d, px.2.dict = some d → ∃ ob, s.heap.get? d = some ob := fun d hd => by
          obtain ⟨o, ho⟩ := dct d hd
          exact objOk_get (J.hok d o ho)
        clear dct q
        obtain ⟨pa, oc, od, oda, osl⟩ := px
        dsimp only at cls hv get
        subst cls hv
        cases od with
        | none => exact ⟨none, get, rfl, rfl, trivial⟩
        | some d =>
          obtain ⟨ob, hob⟩ := d' d rfl
          exact ⟨some ob, get, rfl, rfl, hob⟩
      exact PySem.W.kia_one (kit_exc C) J.kIn at_ e (fun z => nomatch z) fun tk => ⟨.bl b, H, J.kept (t' := tk) fun _ _ z => z, rfl, q⟩
/-- a def that is told of the handled exception px -/
structure FnP (P : Program) (w : World) (K : PySem.W.Frag) (mg : Str → Option Value) (base : Heap) (CX : CXT) (k : Nat) (f : Addr) (fd : FuncData) (ps : List Str) (px : Addr × Obj) (sp : Sp) : Prop where
  len : ∀ vs H Q E, sp vs H Q E → vs.length = ps.length
  run : ∀ (A : Around) (outer : List Env) (s : Shared) (H : Hp) (args : Args) (us : List Value) (vs : List V) (Q : VK) (E : XK), RoomH k A → Hot1 A px → PinOk outer H s px → Env0 P w K mg base A outer s H →
    BindsTo s fd args (ps.zip us) → Vals vs us → sp vs H Q E → codeAny (model P w) A (.call (.ref f) args) (CR CX outer P w H s Q E) s
theorem fnP_of {x qual : Str} {st : Stmt} {N : List Str} (F : Fun K x qual st f fd) (S : FnScope N ps (defScope st)) (few : ∀ vs H Q E, sp vs H Q E → vs.length = ps.length)
    (walk : ∀ (cdv : Value) (A : Around) (outer : List Env) (s : Shared) (H : Hp) (vs : List V) (Q : VK) (E : XK), Hot1 A px → RoomH k (A.deeper (envOfC qual (defScope st) s.heap.objs.size f cdv)) → sp vs H Q E →
      ∃ t, PSs (cxH CX P w K mg base N qual (defScope st) f cdv A outer s H E px) (defBody st) t ∧ t { nx := fun _ H' => Q .non H', rt := Q } (L2.start N vs) H) :
    FnP P w K mg base CX (k + 1) f fd ps px sp := by
  obtain ⟨oc, od, kV, doc, pm, an, cdv, ct, osl, rfl, look, code⟩ := F.ex
  refine ⟨few, fun A outer s H args us vs Q E room hot pin e0 bnd rel want => ?_⟩
  have many := few _ _ _ _ want
  have KX : K.In s.heap := e0.mod.kin.keeps fun b o e => (e0.bs b o e).1
  have lim : s.heap.NoLimit := e0.mod.nolimit.keeps fun b o e => (e0.bs b o e).1
  have kinds : ∀ y ∈ ps.zip us, (defScope st).names.lookup y.1 = some .local ∨ ((defScope st).names.lookup y.1 = some .cell ∧ ((cellsFrom (s.heap.objs.size + 1) (defScope st).names []).lookup y.1).isSome = true) := fun ⟨n, v⟩ hy => by
    rcases S.par n (List.of_mem_zip hy).1 with q | q
    · exact .inl q
    · exact .inr ⟨q, PySem.W.cellsFrom_some _ _ _ (.inl q)⟩
  refine codeAny_call_function room.depth (KX _ _ look) rfl S.co S.gen rfl (PySem.W.codeRec_of KX code) (bnd _ _ _ _ ?_)
  refine wpAny_newFunctionEnv_cells S.kind kinds fun env he s1 x => ?_
  subst he
  refine ⟨lim.keeps x.toInCall.keep, codeAny_func ?_⟩
  obtain ⟨t, ht, hq⟩ := walk cdv A outer s H vs Q E hot (room.deeper _) want
  have J := inv_startH (CX := CX) (P := P) (w := w) (E := E) S pin e0 many rel x
  refine wpAny_mono (ht.run [] s1 _ H _ J hq) (fun fl s' hs => ?_) fun e s' hs => hs
  match fl, hs with
  | .ret u, ⟨v, σ', H', I, rv, q⟩ => exact ⟨v, H', I.os, I.bare, I.base, I.hok, rv, q⟩
  | .next, ⟨σ', H', I, q⟩ => exact ⟨V.non, H', I.os, I.bare, I.base, I.hok, rfl, q⟩
  | .brk, ⟨_, _, _, q⟩ => exact False.elim q
  | .cont, ⟨_, _, _, q⟩ => exact False.elim q
/-- f(e, ..) where px is handled and borne -/
theorem pe_callP {x : Str} {e : Expr} {es : List Expr} {q pos : Pos} {t : TA} {E : XK} (G : FnP X.prog X.w X.K X.mg X.base CX k f fd ps px sp) (room : RoomH k X.A) (hot : Hot1 X.A px) (mem : px ∈ X.pn) (gl : Gl X x) (at_ : X.mg x = some (.ref f))
    (kp : PySem.W.keepIn X.K (.ref f) = true) (bnd : Binds X.K fd ps []) (pass : Passes CX X E) (ha : PA X (e :: es) t) (dbg : (x == ("__debug__" : Str)) = false := by decide)
    (st : starEach (e :: es) X.env = (false, eval e X.env) :: starEach es X.env := by rfl) (pl : (backTo pos (starEach es X.env)).any (·.1) = false := by rfl) :
    PE X (.Call (.Name x q) (e :: es) [] pos) (tCallS sp (fun _ => E) t) := by
  refine ⟨fun pins s σ H Q J want => ?_⟩
  refine wpAny_Call_Name_kw (ld_glob J gl at_ ?_ dbg)
  refine PySem.W.callWith_K (h₀ := X.base) J.ok.mod.kin kp (thn (ha.run pos pins s σ H _ J want) fun us s1 got => ?_) st pl
  obtain ⟨vs, H1, J1, rel, q1⟩ := got
  refine ⟨J1.kIn, ?_⟩
  show wpAny _ _ (call (.ref f) us) _ _ _
  have many : us.length = ps.length := by
    rw [← rel.length]
    exact G.len _ _ _ _ q1
  have bd := bnd s1 us J1.kIn (by rw [List.append_nil]; exact many)
  rw [List.append_nil] at bd
  have P1 := J1.pin px (List.mem_append_left _ mem)
  have pin : PinOk X.stack H1 s1 px := ⟨P1.1, P1.2.1, fun hm => (List.mem_cons.mp (J1.stkSub px.1 hm)).elim P1.2.2.1 P1.2.2.2.1, P1.2.2.2.2⟩
  refine wpAny_call (codeAny_mono (G.run X.A X.stack s1 H1 ⟨us, []⟩ us vs Q E room hot pin J1.env0 bd rel q1) fun r s' end_ => ?_)
  match r, end_ with
  | .error er, end_ => exact pass pins σ H1 s1 er s' J1 end_
  | .ok (.ret u), end_ => exact J1.after end_
  | .ok .next, end_ => exact False.elim end_
  | .ok .brk, end_ => exact False.elim end_
  | .ok .cont, end_ => exact False.elim end_
end
theorem passH0 {X : Cx} {σ : L2.St} : PassesAt CX0 X σ E0 := fun _ _ _ _ _ _ h => h.elim
/-- a def where something is handled -/
theorem okH {P : Program} {w : World} {K : PySem.W.Frag} {mg : Str → Option Value} {base : Heap} {CX : CXT} {x qual : Str} {st : Stmt} {f : Addr} {fd : FuncData} {N ps : List Str} {k : Nat} {sp : Sp} (F : Fun K x qual st f fd) (S : FnScope N ps (defScope st))
    (few : ∀ vs H Q E, sp vs H Q E → vs.length = ps.length)
    (walk : ∀ (cdv : Value) (A : Around) (outer : List Env) (s : Shared) (H : Hp) (vs : List V) (Q : VK) (E : XK) (p : Addr × Obj), Hot1 A p → RoomH k (A.deeper (envOfC qual (defScope st) s.heap.objs.size f cdv)) → sp vs H Q E →
      ∃ t, PSs (cxH CX P w K mg base N qual (defScope st) f cdv A outer s H E p) (defBody st) t ∧ t { nx := fun _ H' => Q .non H', rt := Q } (L2.start N vs) H) : FnH P w K mg base CX (k + 1) f fd ps sp := by
  obtain ⟨oc, od, kV, doc, pm, an, cdv, ct, osl, rfl, look, code⟩ := F.ex
  exact fn_ofH look code S few fun A outer s H vs Q E p hot room want => walk cdv A outer s H vs Q E p hot room want
/-- a block that is walked under a condition -/
theorem pss_when {X : Cx} {c : Prop} {sts : List Stmt} {t : TS} (h : c → PSs X sts t) : PSs X sts (fun D σ H => c ∧ t D σ H) :=
  ⟨fun pins s σ H D J ⟨hc, q⟩ => (h hc).run pins s σ H D J q⟩
section
variable {X : Cx} {CX : CXT} {k : Nat} {f C : Addr} {fd : FuncData} {ps : List Str} {sp : Sp} {E : L2.St → XK} {x : Str} {p pos : Pos} {e : Expr} {es : List Expr} {t : TA}
/-- C(e, ..), what its __init__ raises wished for at the caller's slots -/
def tMakeS (C : Addr) (sp : Sp) (E : L2.St → XK) (t : TA) : TE := fun σ H Q => t σ H fun vs H1 => ∀ x dx, H1 x = none → H1 dx = none → dx ≠ x →
  sp (.ref x :: vs) (upd (upd H1 dx (.own x)) x (.ins C dx [])) (fun v H2 => v = .non ∧ Q (.ref x) H2) (E σ)
theorem pe_makeS (M : Mk X.K C f) (G : FnOk X.prog X.w X.K X.mg X.base CX k f fd ps sp) (room : Room (k + 1) X.A) (gl : Gl X x) (at_ : X.mg x = some (.ref C)) (bnd : Binds X.K fd ps []) (pass : ∀ σ, PassesAt CX X σ (E σ))
    (ha : PA X (e :: es) t) (dbg : (x == ("__debug__" : Str)) = false := by decide) (st : starEach (e :: es) X.env = (false, eval e X.env) :: starEach es X.env := by rfl)
    (pl : (backTo pos (starEach es X.env)).any (·.1) = false := by rfl) : PE X (.Call (.Name x p) (e :: es) [] pos) (tMakeS C sp E t) := by
  refine ⟨fun pins s σ H Q J want => ?_⟩
  refine wpAny_Call_Name_kw (ld_glob J gl at_ ?_ dbg)
  refine PySem.W.callWith_K (h₀ := X.base) J.ok.mod.kin M.kp (thn (ha.run pos pins s σ H _ J want) fun us s1 got => ?_) st pl
  obtain ⟨vs, H1, J1, rel, q1⟩ := got
  refine ⟨J1.kIn, ?_⟩
  show wpAny _ _ (call (.ref C) us) _ _ _
  have wish := q1 (s1.heap.objs.size + 1) s1.heap.objs.size (J1.hok.fresh (Nat.le_succ _)) (J1.hok.fresh (Nat.le_refl _)) (Nat.ne_of_lt (Nat.lt_succ_self _))
  have J2 := Inv.made (C := C) J1
  have rel2 : Vals (V.ref (s1.heap.objs.size + 1) :: vs) (Value.ref (s1.heap.objs.size + 1) :: us) := .cons rfl rel
  have many : (Value.ref (s1.heap.objs.size + 1) :: us ++ []).length = ps.length := by
    have z := rel2.length
    rw [G.len _ _ _ _ wish] at z
    rw [List.append_nil]
    exact z.symm
  have bd := bnd _ (Value.ref (s1.heap.objs.size + 1) :: us) J2.kIn many
  rw [List.append_nil] at bd
  have run := G.run _ X.stack _ _ ⟨Value.ref (s1.heap.objs.size + 1) :: us, []⟩ (Value.ref (s1.heap.objs.size + 1) :: us) _ _ (E σ) (room.make C us []) (J2.env0.make C us []) bd rel2 wish
  refine wpAny_call (make_map (f := f) J1.kIn M.makes M.init (beq_iff_eq.mp M.fn) (codeAny_mono run fun r s' end_ => ?_))
  match r, end_ with
  | .error er, end_ => exact pass σ pins _ _ er s' J2 end_
  | .ok (.ret u), end_ =>
    obtain ⟨v, H', J3, rv, ev, q3⟩ := J2.after end_
    subst ev
    exact ⟨rv, ⟨V.ref (s1.heap.objs.size + 1), H', J3, rfl, q3⟩⟩
  | .ok .next, end_ => exact False.elim end_
  | .ok .brk, end_ => exact False.elim end_
  | .ok .cont, end_ => exact False.elim end_
end
/-- nothing is let out around -/
theorem takesN0 {X : Cx} : L2N.Takes X (fun _ _ _ _ => False) := fun u s' ⟨_, _, _, _, _, _, _, _, _, _, _, _, _, _, _, _, z⟩ => z.elim
end LT
/-! sorted(range(..), key=lambda x: ..), the lambda's captured names cells of the def around. -/
namespace LT
open PySem PySem.Spec PyProof.Rows L2
section
variable {X : Cx} {pins : List (Addr × Obj)} {σ : L2.St} {H : Hp} {s : Shared}
theorem unpin {p : Addr × Obj} (I : L2.Inv X (p :: pins) σ H s) : L2.Inv X pins σ H s :=
  ⟨I.ok, I.os, I.bare, I.base, I.loc, I.cell, I.free, I.freeC, fun q hq => I.pin q ((List.mem_append.mp hq).elim (fun z => List.mem_append_left _ z) fun z => List.mem_append_right _ (List.mem_cons_of_mem _ z)), I.hok, I.len⟩
theorem addpin {b : Addr} {o : Obj} (I : L2.Inv X pins σ H s) (h1 : s.heap.get? b = some o) (h2 : H b = none) (h3 : b ≠ X.env.locals) (h4 : b ∉ X.fs) (h5 : ∀ v, o.data ≠ .cell v) : L2.Inv X ((b, o) :: pins) σ H s :=
  ⟨I.ok, I.os, I.bare, I.base, I.loc, I.cell, I.free, I.freeC, fun q hq => by
    rcases List.mem_append.mp hq with z | z
    · exact I.pin q (List.mem_append_left _ z)
    · rcases List.mem_cons.mp z with z | z
      · rw [z]
        exact ⟨h1, h2, h3, h4, h5⟩
      · exact I.pin q (List.mem_append_right _ z), I.hok, I.len⟩
/-- a pinned object of the frame's own time is written -/
theorem repin {b : Addr} {o o' : Obj} {h' : Heap} {t' : Nat} (I : L2.Inv X ((b, o) :: pins) σ H s) (hb : X.s_0.heap.objs.size ≤ b) (hne : ∀ p ∈ X.pn ++ pins, p.1 ≠ b) (same : ∀ c, c ≠ b → h'.get? c = s.heap.get? c) (hat : h'.get? b = some o') (nc : ∀ v, o'.data ≠ .cell v) :
    L2.Inv X ((b, o') :: pins) σ H { s with heap := h', toks := t' } := by
  have pb := I.pin (b, o) (List.mem_append_right _ List.mem_cons_self)
  have ncell : ∀ (x : Str) (c : Addr), X.env.cells.lookup x = some c → c ≠ b := fun x c e z => by
    obtain ⟨v, ob, ho, hd⟩ := I.cell x c e
    rw [z, pb.1] at ho
    cases ho
    exact pb.2.2.2.2 v hd
  have nH : ∀ {c : Addr} {u : HO}, H c = some u → c ≠ b := fun {c u} e z => by
    rw [z, pb.2.1] at e
    cases e
  have J : L2.Inv X pins σ H { s with heap := h', toks := t' } := by
    refine (unpin I).step (H' := H) (h' := h') (g' := s.gens) (t' := t') (d' := s.drawn) (ch := [b]) (fun c hc => ?_) (fun c o _ _ hc e _ => ?_) (fun c o _ _ hc e _ => ?_) (fun c o _ _ n => n) (fun c o hc e => ?_) (fun _ _ e => e) (fun _ _ _ e => e) (fun c ps e => ⟨#[], by rw [e]; simp⟩) (fun m hn => ?_) (fun c u e => ?_) I.bare
    · rw [List.mem_singleton.mp hc]
      exact ⟨.inr hb, pb.2.2.1, ncell, hne⟩
    · exact (same c (fun z => hc (List.mem_singleton.mpr z))).trans e
    · exact ⟨o.slots, (same c (fun z => hc (List.mem_singleton.mpr z))).trans e⟩
    · exact ⟨o, (same c (fun z => hc (List.mem_singleton.mpr z))).trans e⟩
    · obtain ⟨ob, es, ep, ho, r⟩ := hn
      exact ⟨ob, es, ep, (same _ (Ne.symm pb.2.2.1)).trans ho, r⟩
    · refine (I.hok c u e).stay (fun d v hd q => (same d ?_).trans q) (fun _ q => q) fun _ _ q => q
      rcases hd with z | z
      · rw [z]
        exact nH e
      · exact nH z
  exact addpin J hat pb.2.1 pb.2.2.1 pb.2.2.2.1 nc
theorem seq_nc {xs : Array Value} {n : Nat} (v : Option Value) : (seqObj "list" xs n).data ≠ .cell v := fun z => by cases z
/-- the keys are asked, one by one, and the list is laid in their order -/
theorem rest_run {a kS : Addr} {e1 : Nat} {f : Value} {vs : List Value} {kz : List Int} {A' : Around} {E : Value → Shared → Prop} {R : PySem.Fin → Shared → Prop} (I : L2.Inv X ((kS, seqObj "list" #[] 0) :: (a, seqObj "list" #[] e1) :: pins) σ H s)
    (ha : X.s_0.heap.objs.size ≤ a) (hk : X.s_0.heap.objs.size ≤ kS) (hka : kS ≠ a) (hpk : ∀ p ∈ X.pn ++ pins, p.1 ≠ kS) (hpa : ∀ p ∈ X.pn ++ pins, p.1 ≠ a) (hlen : kz.length = vs.length) (h64 : vs.length < 64)
    (turn : ∀ (i : Nat) (v : Value) (k : Int), vs[i]? = some v → kz[i]? = some k → ∀ (pins' : List (Addr × Obj)) (s' : Shared), L2.Inv X (pins' ++ pins) σ H s' →
      wpAny (model X.prog X.w) A' (call f [v]) (fun u s'' => (∃ t, u = .int k t) ∧ L2.Inv X (pins' ++ pins) σ H s'') (fun _ _ => False) s')
    (h : ∀ s'' out c, L2.Inv X ((a, seqObj "list" out c) :: pins) σ H s'' → KskOut false kz vs out.toList → R (.done (.ret .none)) s'') :
    wpAny (model X.prog X.w) A' (ksk_rest a f false vs.toArray e1 (.ref kS)) R E s := by
  have pk' : ∀ (o : Obj), ∀ p ∈ X.pn ++ ((a, o) :: pins), p.1 ≠ kS := fun o p hp => by
    rcases List.mem_append.mp hp with z | z
    · exact hpk p (List.mem_append_left _ z)
    · rcases List.mem_cons.mp z with z | z
      · rw [z]
        exact fun q => hka q.symm
      · exact hpk p (List.mem_append_right _ z)
  unfold ksk_rest
  refine wpAny_bind (wpAny_rule ?_)
  rw [List.forIn_toArray]
  refine wpAny_bind (ksk_fold (fun i s' => ∃ kA e, L2.Inv X ((kS, seqObj "list" kA e) :: (a, seqObj "list" #[] e1) :: pins) σ H s' ∧ IntsAre kA.toList (kz.take i)) vs 0 s ⟨#[], 0, I, by simpa using IntsAre.nil⟩ ?step ?done)
  case step =>
    rintro j x s' hx ⟨kA, e, J, hI⟩
    simp only [Nat.zero_add] at hI ⊢
    have hj : j < vs.length := (List.getElem?_eq_some_iff.mp hx).1
    obtain ⟨k, hkj⟩ : ∃ k, kz[j]? = some k := ⟨_, List.getElem?_eq_getElem (by omega)⟩
    have hz : kA.size ≤ vs.length := by
      have h1 := hI.length
      rw [Array.length_toList, List.length_take] at h1
      omega
    refine wpAny_bind (wpAny_attempt (wpAny_mono (turn j x k hx hkj [(kS, seqObj "list" kA e), (a, seqObj "list" #[] e1)] s' J) (fun v s'' he => ?_) fun _ _ hF => hF.elim))
    obtain ⟨⟨t2, rfl⟩, J2⟩ := he
    try dsimp only
    have nk := (J2.pin (kS, seqObj "list" kA e) (List.mem_append_right _ List.mem_cons_self)).1
    have s1 := Heap.SameBut.update s''.heap kS (Obj.mapSeq (·.push (.int k t2)))
    obtain ⟨c2, hc2⟩ : ∃ c2, (s''.heap.update kS (Obj.mapSeq (·.push (.int k t2)))).get? kS = some (seqObj "list" (kA.push (.int k t2)) c2) := ⟨_, get?_update_seq nk (·.push (.int k t2))⟩
    have ek : kz.take (j + 1) = kz.take j ++ [k] := by rw [List.take_add_one, hkj]; simp
    have ea : (kA.push (Value.int k t2)).toList = kA.toList ++ [Value.int k t2] := by simp
    refine wpAny_bind (listUpdate_at nk rfl ?_ (by rw [sizeLine_eq]; omega) (Nat.le_trans (Nat.le_of_eq (Array.size_push ..)) (by rw [sizeLine_eq]; omega)))
    refine wpAny_pure ⟨rfl, kA.push (.int k t2), c2, repin J2 hk (pk' _) s1.2 hc2 seq_nc, by rw [ea, ek]; exact ksk_snoc hI⟩
  case done =>
    rintro s' ⟨kA, e, J, hI⟩
    have hI' : IntsAre kA.toList kz := by
      have e3 : kz.take (0 + vs.length) = kz := List.take_of_length_le (by omega)
      rw [e3] at hI
      exact hI
    have nk := J.pin (kS, seqObj "list" kA e) (List.mem_append_right _ List.mem_cons_self)
    have na := J.pin (a, seqObj "list" #[] e1) (List.mem_append_right _ (List.mem_cons_of_mem _ List.mem_cons_self))
    obtain ⟨m, hns, _⟩ := J.loc
    try dsimp only
    refine wpAny_bind (listItems_at nk.1 rfl ?_)
    let others : List (Addr × Obj) := (List.range s'.heap.objs.size).filterMap fun b => if b = kS ∨ b = a ∨ b = X.env.locals then none else (s'.heap.get? b).map fun o => (b, o)
    have mem : ∀ p ∈ others, s'.heap.get? p.1 = some p.2 ∧ p.1 ≠ kS ∧ p.1 ≠ a ∧ p.1 ≠ X.env.locals := fun p hp => by
      obtain ⟨b, _, hb⟩ := List.mem_filterMap.mp hp
      by_cases c : b = kS ∨ b = a ∨ b = X.env.locals
      · rw [if_pos c] at hb
        cases hb
      · rw [if_neg c] at hb
        cases q : s'.heap.get? b with
        | none =>
          rw [q] at hb
          cases hb
        | some o =>
          rw [q] at hb
          cases hb
          exact ⟨q, fun z => c (.inl z), fun z => c (.inr (.inl z)), fun z => c (.inr (.inr z))⟩
    have ofm : ∀ b o, s'.heap.get? b = some o → b ≠ kS → b ≠ a → b ≠ X.env.locals → (b, o) ∈ others := fun b o e h1 h2 h3 => by
      refine List.mem_filterMap.mpr ⟨b, List.mem_range.mpr (Heap.lt_size e), ?_⟩
      rw [if_neg (fun z => z.elim h1 fun z => z.elim h2 h3), e]
      rfl
    have h0 : ∀ b, (({ } : Heap)).get? b = none := fun b => by
      unfold Heap.get?
      simp
    refine ksk_end_ (e := e) (h₀ := ({ } : Heap)) (L := X.env.locals) (m := m) (news := others) ⟨hns, fun b o e => (by rw [h0] at e; cases e), Nat.zero_le _⟩ (fun p hp => ?_) hka (fun p hp => (mem p hp).2.1) (fun p hp => (mem p hp).2.2.1) hI' hlen h64 fun h' tk out c F N ko => ?_
    · rcases List.mem_append.mp hp with z | z
      · exact ⟨(mem p z).1, (mem p z).2.2.2, h0 _⟩
      · rcases List.mem_cons.mp z with z | z
        · rw [z]
          exact ⟨nk.1, nk.2.2.1, h0 _⟩
        · rw [List.mem_singleton.mp z]
          exact ⟨na.1, na.2.2.1, h0 _⟩
    · refine h _ out c ?_ ko
      have same : ∀ b o, b ≠ kS → b ≠ a → b ≠ X.env.locals → s'.heap.get? b = some o → h'.get? b = some o := fun b o h1 h2 h3 e => (N (b, o) (List.mem_cons_of_mem _ (ofm b o e h1 h2 h3))).1
      have J0 := unpin (unpin J)
      have cellN : ∀ (x : Str) (c b : Addr) (xs : Array Value) (n : Nat), s'.heap.get? b = some (seqObj "list" xs n) → X.env.cells.lookup x = some c → c ≠ b := fun x c b xs n e hc z => by
        obtain ⟨v, ob, ho, hd⟩ := J.cell x c hc
        rw [z, e] at ho
        cases ho
        exact seq_nc v hd
      have nH : ∀ {c b : Addr} {u : HO}, H c = some u → H b = none → c ≠ b := fun {c b u} e n z => by
        rw [z, n] at e
        cases e
      have at_a := (N (a, seqObj "list" out c) List.mem_cons_self).1
      have JJ : L2.Inv X pins σ H { s' with heap := h', toks := tk } := by
        refine J0.step (H' := H) (h' := h') (g' := s'.gens) (t' := tk) (d' := s'.drawn) (ch := [kS, a]) (fun b hb => ?_) (fun b o hl _ hc e _ => ?_) (fun b o hl _ hc e _ => ?_) (fun b o _ _ n => n) (fun b o hc e => ?_) (fun _ _ e => e) (fun _ _ _ e => e) (fun b ps e => ⟨#[], by rw [e]; simp⟩) (fun m' hn => ?_) (fun b u e => ?_) J.bare
        · rcases List.mem_cons.mp hb with z | z
          · rw [z]
            exact ⟨.inr hk, nk.2.2.1, fun x c => cellN x c kS _ _ nk.1, hpk⟩
          · rw [List.mem_singleton.mp z]
            exact ⟨.inr ha, na.2.2.1, fun x c => cellN x c a _ _ na.1, hpa⟩
        · exact same b o (fun z => hc (by rw [z]; simp)) (fun z => hc (by rw [z]; simp)) hl e
        · exact ⟨o.slots, same b o (fun z => hc (by rw [z]; simp)) (fun z => hc (by rw [z]; simp)) hl e⟩
        · by_cases hl : b = X.env.locals
          · rw [hl]
            obtain ⟨ob, _, _, ho, _⟩ := F.ns
            exact ⟨ob, ho⟩
          · exact ⟨o, same b o (fun z => hc (by rw [z]; simp)) (fun z => hc (by rw [z]; simp)) hl e⟩
        · rw [hn.eq_nsMap, ← hns.eq_nsMap]
          exact F.ns
        · refine (J.hok b u e).stay (fun d v hd q => same d v ?_ ?_ ?_ q) (fun _ q => q) fun _ _ q => q
          · rcases hd with z | z
            · rw [z]
              exact nH e nk.2.1
            · exact nH z nk.2.1
          · rcases hd with z | z
            · rw [z]
              exact nH e na.2.1
            · exact nH z na.2.1
          · rcases hd with z | z
            · rw [z]
              exact nH e J.free
            · exact nH z J.free
      exact addpin JJ at_a na.2.1 na.2.2.1 na.2.2.2.1 seq_nc
/-- list.sort by a key, of a pinned new list -/
theorem tree_run {a : Addr} {n : Nat} {f : Value} {vs : List Value} {kz : List Int} {A' : Around} {E : Value → Shared → Prop} {R : PySem.Fin → Shared → Prop} (I : L2.Inv X ((a, seqObj "list" vs.toArray n) :: pins) σ H s)
    (ha : X.s_0.heap.objs.size ≤ a) (hpa : ∀ p ∈ X.pn ++ pins, p.1 ≠ a) (hlen : kz.length = vs.length) (h64 : vs.length < 64)
    (turn : ∀ (i : Nat) (v : Value) (k : Int), vs[i]? = some v → kz[i]? = some k → ∀ (pins' : List (Addr × Obj)) (s' : Shared), L2.Inv X (pins' ++ pins) σ H s' →
      wpAny (model X.prog X.w) A' (call f [v]) (fun u s'' => (∃ t, u = .int k t) ∧ L2.Inv X (pins' ++ pins) σ H s'') (fun _ _ => False) s')
    (h : ∀ s'' out c, L2.Inv X ((a, seqObj "list" out c) :: pins) σ H s'' → KskOut false kz vs out.toList → R (.done (.ret .none)) s'') :
    wpAny (model X.prog X.w) A' (ksk_tree a f false) R E s := by
  have pa := I.pin (a, seqObj "list" vs.toArray n) (List.mem_append_right _ List.mem_cons_self)
  have ho : s.heap.get? a = some (seqObj "list" vs.toArray n) := pa.1
  have s1 := Heap.SameBut.update s.heap a (Obj.mapSeq fun _ => (#[] : Array Value))
  obtain ⟨e1, ho1⟩ : ∃ e1, (s.heap.update a (Obj.mapSeq fun _ => (#[] : Array Value))).get? a = some (seqObj "list" #[] e1) := ⟨_, get?_update_seq ho fun _ => #[]⟩
  have I1 := repin (t' := s.toks) I ha hpa s1.2 ho1 seq_nc
  unfold ksk_tree
  refine wpAny_bind (listItems_at ho rfl ?_)
  refine wpAny_bind (listUpdate_at ho rfl ?_ (by rw [List.size_toArray, sizeLine_eq]; omega) (Nat.zero_le _))
  refine wpAny_bind (seqEpoch_at ho1 rfl ?_)
  refine wpAny_bind (wpAny_newTuple ?_ (by show vs.length ≤ _; rw [sizeLine_eq]; omega))
  refine wpAny_bind (wpAny_newList ?_ (Nat.zero_le _))
  refine wpAny_holding ?_
  have I2 := I1.kept (h' := ((s.heap.update a (Obj.mapSeq fun _ => (#[] : Array Value))).push (seqObj "tuple" vs.toArray 0)).push (seqObj "list" #[] 0)) (t' := s.toks) fun b u e => Heap.get?_push_of_some _ (Heap.get?_push_of_some _ e)
  have hsz : ((s.heap.update a (Obj.mapSeq fun _ => (#[] : Array Value))).push (seqObj "tuple" vs.toArray 0)).objs.size = (s.heap.update a (Obj.mapSeq fun _ => (#[] : Array Value))).objs.size + 1 := by rw [size_push']
  have up : (s.heap.update a (Obj.mapSeq fun _ => (#[] : Array Value))).objs.size ≤ ((s.heap.update a (Obj.mapSeq fun _ => (#[] : Array Value))).push (seqObj "tuple" vs.toArray 0)).objs.size := by rw [hsz]; omega
  have old : ∀ {b : Addr} {o : Obj}, (s.heap.update a (Obj.mapSeq fun _ => (#[] : Array Value))).get? b = some o → b ≠ ((s.heap.update a (Obj.mapSeq fun _ => (#[] : Array Value))).push (seqObj "tuple" vs.toArray 0)).objs.size := fun {b o} e => Nat.ne_of_lt (Nat.lt_of_lt_of_le (Heap.lt_size e) up)
  have at_k : (((s.heap.update a (Obj.mapSeq fun _ => (#[] : Array Value))).push (seqObj "tuple" vs.toArray 0)).push (seqObj "list" #[] 0)).get? ((s.heap.update a (Obj.mapSeq fun _ => (#[] : Array Value))).push (seqObj "tuple" vs.toArray 0)).objs.size = some (seqObj "list" #[] 0) := Heap.get?_push_size _ rfl
  have I3 := addpin I2 at_k (I1.hok.fresh up) (Nat.ne_of_gt (Nat.lt_of_lt_of_le I1.lt up)) (I1.nofs up) seq_nc
  refine rest_run I3 ha ?_ (Ne.symm (old ho1)) (fun p hp => ?_) hpa hlen h64 turn h
  · refine Nat.le_trans ?_ up
    exact I1.sz
  · exact old (I1.pin p ((List.mem_append.mp hp).elim (fun z => List.mem_append_left _ z) fun z => List.mem_append_right _ (List.mem_cons_of_mem _ z))).1
def iV : Value → Int
  | .int n _ => n
  | _ => 0
theorem ints_iV {vs : List Value} {ns : List Int} (h : IntsAre vs ns) : vs.map iV = ns := by
  induction h with
  | nil => rfl
  | cons n t _ ih => rw [List.map_cons, ih]; rfl
theorem ints_of_iV : ∀ {vs : List Value}, (∀ v ∈ vs, ∃ n t, v = .int n t) → IntsAre vs (vs.map iV)
  | [], _ => .nil
  | v :: vs, h => by
    obtain ⟨n, t, rfl⟩ := h v List.mem_cons_self
    exact .cons n t (ints_of_iV fun v hv => h v (List.mem_cons_of_mem _ hv))
theorem zip_iV {g : Int → Int} {vs : List Value} {ns : List Int} (h : IntsAre vs ns) : ∀ p ∈ (ns.map g).zip vs, (∃ n t, p.2 = .int n t) ∧ p.1 = g (iV p.2) := by
  induction h with
  | nil => intro p hp; simp at hp
  | cons n t _ ih =>
    intro p hp
    rw [List.map_cons, List.zip_cons_cons] at hp
    rcases List.mem_cons.mp hp with z | z
    · rw [z]
      exact ⟨⟨n, t, rfl⟩, rfl⟩
    · exact ih p z
theorem ksk_ints {g : Int → Int} {vs out : List Value} {ns : List Int} (h : IntsAre vs ns) (o : KskOut false (ns.map g) vs out) : ∃ ns', IntsAre out ns' ∧ ns'.Perm ns ∧ ns'.Pairwise fun a b => g a ≤ g b := by
  obtain ⟨ps, pm, rfl, pw⟩ := o
  have hz := zip_iV (g := g) h
  have hp : ∀ p ∈ ps, (∃ n t, p.2 = .int n t) ∧ p.1 = g (iV p.2) := fun p m => hz p (pm.mem_iff.mp m)
  refine ⟨(ps.map Prod.snd).map iV, ints_of_iV fun v hv => ?_, ?_, ?_⟩
  · obtain ⟨p, m, rfl⟩ := List.mem_map.mp hv
    exact (hp p m).1
  · have q := (pm.map Prod.snd).map iV
    rw [List.map_snd_zip (by rw [List.length_map, h.length]; exact Nat.le_refl _), ints_iV h] at q
    exact q
  · rw [List.map_map, List.pairwise_map]
    refine pw.imp_of_mem fun {p q} m1 m2 z => ?_
    have z : p.1 ≤ q.1 := by simpa using z
    rw [(hp p m1).2, (hp q m2).2] at z
    exact z
/-- a pinned object of the frame's own time is tracked from now on -/
theorem track {a : Addr} {o : Obj} {u : HO} (I : L2.Inv X ((a, o) :: pins) σ H s) (ha : X.s_0.heap.objs.size ≤ a) (hpa : ∀ p ∈ X.pn ++ pins, p.1 ≠ a) (ok : ObjOk X.prog X.w (upd H a u) s.heap a u) : L2.Inv X pins σ (upd H a u) s := by
  have pa := I.pin (a, o) (List.mem_append_right _ List.mem_cons_self)
  have nH : ∀ {c : Addr} {w : HO}, H c = some w → c ≠ a := fun {c w} e z => by
    rw [z, pa.2.1] at e
    cases e
  refine (unpin I).step (H' := upd H a u) (h' := s.heap) (g' := s.gens) (t' := s.toks) (d' := s.drawn) (ch := [a]) (fun c hc => ?_) (fun c o _ _ hc e _ => e) (fun c o _ _ hc e _ => ⟨o.slots, e⟩) (fun c o hc _ n => (upd_ne (fun z => hc (List.mem_singleton.mpr z))).trans n) (fun c o hc e => ⟨o, e⟩) (fun _ _ e => (upd_ne (nH e)).trans e) (fun _ _ _ e => (upd_ne (nH e)).trans e) (fun c ps e => ⟨#[], by rw [upd_ne (nH e), e]; simp⟩) (fun m hn => hn) (fun c w e => ?_) I.bare
  · rw [List.mem_singleton.mp hc]
    refine ⟨.inr ha, pa.2.2.1, fun x c e z => ?_, hpa⟩
    obtain ⟨v, ob, ho, hd⟩ := I.cell x c e
    rw [z, pa.1] at ho
    cases ho
    exact pa.2.2.2.2 v hd
  · by_cases z : c = a
    · rw [z, upd_same] at e
      cases e
      rw [z]
      exact ok
    · rw [upd_ne z] at e
      exact (I.hok c w e).stay (fun _ _ _ q => q) (fun d q => (upd_ne (nH q)).trans q) fun d _ q => (upd_ne (nH q)).trans q
theorem items_ints {n : Nat} {acc : Array Value} (h : ItemsOf (fun i v => ∃ t, v = .int (0 + i * 1) t) acc n) : IntsAre acc.toList ((List.range n).map fun (j : Nat) => (j : Int)) := by
  have a := vals_rg (a := 0) (b := (n : Int)) (by rw [Int.sub_zero, Int.toNat_natCast]; exact h)
  rw [rgV_ints] at a
  have b := a.ints
  rw [Int.toNat_natCast] at b
  exact b
/-- sorted(range(n), key=f) -/
theorem sorted_run_key {r f : Addr} {n : Nat} {t u v : Tok} {g : Int → Int} {Q : VK} (I : L2.Inv X pins σ H s) (hh : X.A.handled = none) (hr : IsRange s.heap r 0 (n : Int) 1 t u v) (h64 : n < 64)
    (turn : ∀ (k : Nat), k < n → ∀ (tk : Tok) (pins' : List (Addr × Obj)) (s' : Shared), L2.Inv X (pins' ++ pins) σ H s' →
      wpAny (model X.prog X.w) X.A.in1.in1 (call (.ref f) [.int k tk]) (fun u s'' => (∃ t, u = .int (g k) t) ∧ L2.Inv X (pins' ++ pins) σ H s'') (fun _ _ => False) s')
    (q : ∀ (ns : List Int) (D : Addr), ns.Perm ((List.range n).map fun (j : Nat) => (j : Int)) → (ns.Pairwise fun a b => g a ≤ g b) → H D = none → Q (.ref D) (upd H D (.lst (ns.map V.int)))) :
    wpAny (model X.prog X.w) X.A (call (.builtin "sorted") [.ref r] [(Str.ofString "key", .ref f)]) (EP X pins σ Q) X.xe s := by
  refine call_function_entry_kw kind_sorted plain_sorted entry_sorted (ksk_s1 _ _) ?_
  unfold Builtin.«sorted»
  refine wpAny_bind (m := checkCount "sorted" 1 1 _) (wpAny_pure ?_)
  have hh1 : X.A.in1.handled = none := hh
  refine wpAny_bind (collect_range (n := n) hh1 hr (small_one (by decide) (by decide) (by omega) (by omega)) (by rw [rangeSize_nat]; simp) (by omega) fun h' tk acc kp hi => ?_)
  have hI := items_ints hi
  have hl : acc.toList.length = n := by rw [Array.length_toList]; exact hi.1
  refine wpAny_bind (wpAny_newList ?_ (by rw [hl, sizeLine_eq]; omega))
  have I1 : L2.Inv X pins σ H { s with heap := h', toks := tk } := I.kept kp
  have I2 : L2.Inv X pins σ H { s with heap := h'.push (seqObj "list" acc.toList.toArray 0), toks := tk } := I1.kept (t' := tk) fun b o e => Heap.get?_push_of_some _ e
  have hoL : (h'.push (seqObj "list" acc.toList.toArray 0)).get? h'.objs.size = some (seqObj "list" acc.toList.toArray 0) := Heap.get?_push_size _ rfl
  have I3 := addpin I2 hoL (I1.hok.fresh (Nat.le_refl _)) (Nat.ne_of_gt I1.lt) (I1.nofs (Nat.le_refl _)) seq_nc
  have hpa : ∀ p ∈ X.pn ++ pins, p.1 ≠ h'.objs.size := fun p hp => Nat.ne_of_lt (Heap.lt_size (I1.pin p hp).1)
  refine wpAny_bind (wpAny_holding (wpAny_call_entry_kw slot_list_sort ⟨_, hoL, rfl⟩ entry_list_sort ?body (ksk_l1 _ _)))
  case body =>
    rw [ksk_t1]
    refine tree_run (kz := ((List.range n).map fun (j : Nat) => (j : Int)).map g) I3 I1.sz hpa (by rw [List.length_map, List.length_map, List.length_range, hl]) (by rw [hl]; exact h64) (fun i w k hw hk pins' s' J => ?_) fun s'' out c J ko => ⟨_, rfl, ?_⟩
    · have hi' : i < n := by
        have z := (List.getElem?_eq_some_iff.mp hw).1
        rw [hl] at z
        exact z
      obtain ⟨tw, rfl⟩ := hi.2 i w (by rw [← hw, Array.getElem?_toList])
      have ek : k = g (i : Int) := by
        rw [List.getElem?_map, List.getElem?_map, List.getElem?_range hi'] at hk
        exact (Option.some.inj hk).symm
      rw [ek]
      have e0 : (0 : Int) + (i : Int) * 1 = (i : Int) := by omega
      rw [e0]
      exact turn i hi' tw pins' s' J
    · obtain ⟨ns, i1, pm, pw⟩ := ksk_ints hI ko
      have pa := J.pin (h'.objs.size, seqObj "list" out c) (List.mem_append_right _ List.mem_cons_self)
      have hlen : (ns.map V.int).length ≤ sizeLine := by
        rw [List.length_map, pm.length_eq, List.length_map, List.length_range, sizeLine_eq]
        omega
      have K := track (u := .lst (ns.map V.int)) J I1.sz hpa ⟨hlen, out.toList, c, vals_of_ints i1, by rw [Array.toArray_toList]; exact pa.1⟩
      exact wpAny_pure ⟨_, rfl, .ref h'.objs.size, _, K, rfl, q ns _ pm pw pa.2.1⟩
end
section
open LamX NdefX
variable {CX : CXT} {P : Program} {w : World} {K : PySem.W.Frag} {mg : Str → Option Value} {base : Heap} {N ps fr : List Str} {F : NF} {f : Addr} {A : Around} {outer : List Env} {s : Shared} {H : Hp} {E : XK}
/-- a call of a lambda, by its body -/
theorem lam_run {k : Nat} {body : Expr} {pm ctv : Value} {us : List Value} {vs : List V} {ws : List (Option V)} {Q : VK} {tb : TE} (S : NScope N ps fr F.scope) (hr : Room (k + 1) A) (e0 : Env0 P w K mg base A outer s H)
    (ho : s.heap.get? f = some (PySem.W.kla_obj F.name F.qual F.params body F.scope F.cl pm F.c ctv)) (hc : H F.c = some (CodeO F.c F.qual)) (C : CellsAt F.cl fr ws s.heap H) (hl : vs.length = ps.length) (r : Vals vs us)
    (hb : bindArgs (PySem.W.kla_fn F.name F.qual F.params body F.scope F.cl pm (.ref F.c) ctv) ⟨us, []⟩ = pure (ps.zip us))
    (hbody : Room k (A.deeper (envF F f s.heap.objs.size)) → PE (ncx CX P w K mg base N F f A outer s H E) body tb) (ht : tb (startF N vs ws) H Q) :
    codeAny (model P w) A (.call (.ref f) ⟨us, []⟩) (CR CX outer P w H s Q E) s := by
  have lim : s.heap.NoLimit := e0.mod.nolimit.keeps fun b o e => (e0.bs b o e).1
  refine PySem.W.kla_callFunE hr.depth ho rfl S.co S.gen rfl (codeO_at e0.hok hc) ?_
  rw [hb]
  refine wpAny_pure (wpAny_newFunctionEnv S.nocell (fun ⟨n, _⟩ hy => S.par n (List.of_mem_zip hy).1) (fun h₁ hns hsb => ⟨lim.fresh _ hsb, ?_⟩) S.kind)
  show codeAny _ _ (.expr body (envF F f s.heap.objs.size)) _ _
  have kp : ∀ b o, s.heap.get? b = some o → h₁.get? b = some o := fun b o e => hsb.extBut b o (Nat.ne_of_lt (Heap.lt_size e)) (Heap.get?_push_of_some _ e)
  have I : L2.Inv (ncx CX P w K mg base N F f A outer s H E) [] (startF N vs ws) H { s with heap := h₁, toks := s.toks + (ps.zip us).length } := inv_startN S hr.hd e0 hl r C hns kp
  refine PySem.W.kla_codeExpr (wpAny_mono ((hbody (hr.deeper _)).run [] _ (startF N vs ws) H Q I ht) (fun u s' hs => ?_) fun e s' hs => hs)
  obtain ⟨v, H', J, rv, q⟩ := hs
  exact ⟨v, H', J.os, J.bare, J.base, J.hok, rv, q⟩
end
/-- the table of a def that makes lambdas: kept by all that leaves the table alone -/
theorem tab_fr {M : List Addr} {H H' : Hp} {P : Addr} {q : Str} (t : LamX.TabS H P q) (f : Fr M H H') (hP : P ∉ M) : LamX.TabS H' P q := by
  obtain ⟨ps, e, tri, al⟩ := t
  refine ⟨ps, f.keep _ _ hP e, tri, fun pos cv hc => ?_⟩
  obtain ⟨b, e1, e2⟩ := al pos cv hc
  exact ⟨b, e1, f.ext _ _ e2⟩
section
open LamX NdefX
variable {X : Cx}
/-- a lambda is made: the table alone is written -/
theorem lam_make3 {pins : List (Addr × Obj)} {σ : L2.St} {H : Hp} {s : Shared} {c P : Addr} {q : Str} {ars : Arguments} {bd : Expr} {sc : Scope} {at_ : Pos} {R E : Value → Shared → Prop} (I : L2.Inv X pins σ H s) (TB : TabB X.base X.mg c P) (hcode : X.env.code = .ref c)
    (hq : X.env.qual ++ "<lambda>" = q) (hT : TabS H P q) (hdef : defaultsOf ars X.env = ([], [])) (hfree : ∀ y ∈ sc.names, y.2 = .free → ∃ c, X.env.cells.lookup y.1 = some c)
    (next : ∀ (f c' : Addr) (pm ctv : Value) (G : Hp) (s' : Shared), L2.Inv X pins σ G s' → Fr [P] H G → TabS G P q →
      s'.heap.get? f = some (PySem.W.kla_obj "<lambda>" q ars bd sc (cloFrom X.env.cells sc.names []) pm c' ctv) → G f = none → f ∉ frs X.stack → G c' = some (CodeO c' q) → R (.ref f) s') :
    wpAny (model X.prog X.w) X.A (eval (.Lambda ars bd sc at_) X.env) R E s := by
  subst hq
  obtain ⟨qs, eP, tri, al⟩ := hT
  have blt : s.heap.BuiltinsAt X.mg P := TB.bm.keeps I.bk
  have oP : s.heap.get? P = some (PySem.W.tabObj qs) := I.hok P _ eP
  have far : ∀ f, s.heap.objs.size ≤ f → f ∉ frs X.stack := fun f hf z => (List.mem_cons.mp (I.stkSub _ z)).elim (fun e => absurd (e ▸ I.lt) (Nat.not_lt.mpr hf)) (fun e => I.nofs hf e)
  refine PySem.W.kla_eval hdef ?_
  rcases hc : codeAmong at_ qs.toList with _ | cv
  · refine PySem.W.kla_makeFunction (mg := X.mg) (closure_ok hfree) I.ok.glob (I.mod.glob.keeps I.bk) hcode (TB.code.keeps I.bk) oP tri hc TB.gP blt ?_
    intro c' ctv h' tk ext old new rec_ tab_
    obtain ⟨_, oc, us, tq, ec, r1, r2, r3⟩ := rec_
    cases ec
    have up : s.heap.objs.size ≤ h'.objs.size := Nat.le_trans old (Nat.le_of_lt new)
    have nC : H c' = none := I.hok.fresh old
    let fo := PySem.W.kla_obj "<lambda>" (X.env.qual ++ "<lambda>") ars bd sc (cloFrom X.env.cells sc.names []) ((X.mg "__name__").getD .none) c' ctv
    have J := inv_table (t' := tk) (more := #[rawInt at_.line, rawInt at_.col, .ref c']) (h' := h'.push fo) I eP (fun b o ne e => Heap.get?_push_of_some _ (ext b o ne e)) (Heap.get?_push_of_some _ tab_) old ⟨oc, us, tq, Heap.get?_push_of_some _ r1, r2, r3⟩
    have fr1 : Fr [P] H (upd H P (.tbl (qs ++ #[rawInt at_.line, rawInt at_.col, .ref c']))) := by
      refine ⟨fun b o n e => (upd_ne (fun z => n (List.mem_singleton.mpr z))).trans e, fun b xs e => (upd_ne (ne_of e eP (by intro z; cases z))).trans e, fun b o u e => (upd_ne (ne_of e eP (by intro z; cases z))).trans e, fun b u e => (upd_ne (ne_of e eP (by intro z; cases z))).trans e⟩
    have fr2 := fr1.put (o := CodeO c' (X.env.qual ++ "<lambda>")) nC
    have nF : ∀ {b : Addr} {o : Obj}, s.heap.get? b = some o → h'.objs.size ≠ b := fun e => Nat.ne_of_gt (Nat.lt_of_lt_of_le (Heap.lt_size e) up)
    refine next h'.objs.size c' _ ctv _ _ J fr2 ⟨_, (upd_ne (ne_of_none eP nC)).trans upd_same, ?_, fun pos cv hcv => ?_⟩ (Heap.get?_push_size _ rfl) ?_ (far _ up) upd_same
    · rw [Array.toList_append]
      exact PySem.TriplesOk_snoc _ _ _ _ tri
    · rw [Array.toList_append] at hcv
      rcases among_app _ tri hcv with z | z
      · obtain ⟨b, e1, e2⟩ := al pos cv z
        exact ⟨b, e1, fr2.ext _ _ e2⟩
      · exact ⟨c', z, upd_same⟩
    · exact (upd_ne (Nat.ne_of_gt new)).trans ((upd_ne (nF oP)).trans (I.hok.fresh up))
  · obtain ⟨c', ec, ho⟩ := al at_ cv hc
    subst ec
    refine PySem.W.kla_makeFunctionHit (mg := X.mg) (closure_ok hfree) I.ok.glob (I.mod.glob.keeps I.bk) hcode (TB.code.keeps I.bk) oP tri hc blt ?_
    intro ctv h' tk ext up
    exact next h'.objs.size c' _ ctv H _ (I.kept (t' := tk) fun b o e => Heap.get?_push_of_some _ (ext b o e)) (Fr.refl _ _) ⟨qs, eP, tri, al⟩ (Heap.get?_push_size _ rfl) (I.hok.fresh up) (far _ up) ho
end
theorem ndef_at {sc sc' nsc : Scope} {fr : List Str} (e : sc' = sc) (h : NdefX.ndefB sc nsc fr = true) : NdefX.ndefB sc' nsc fr = true := by
  rw [e]
  exact h
/-- a def of the text, its code object known -/
structure FunC (K : PySem.W.Frag) (x qual : Str) (st : Stmt) (f : Addr) (fd : FuncData) (c : Addr) : Prop where
  ex : ∃ (oc : Value) (od : Option Addr) (kV doc pm : Value) (an : Option Addr) (ct : Value) (sl : Array (Option Value)),
    fd = PySem.W.fnOf x qual (defArgs st) (defBody st) (defScope st) .none kV doc pm an (.ref c) ct ∧ K.lookup f = some ⟨oc, od, .func fd, sl⟩ ∧ PySem.W.codeIn K (.ref c) qual = true
theorem FunC.ok {P : Program} {w : World} {K : PySem.W.Frag} {mg : Str → Option Value} {base : Heap} {x qual : Str} {st : Stmt} {f c : Addr} {fd : FuncData} {N ps : List Str} {k : Nat} {sp : Sp} (F : FunC K x qual st f fd c) (S : FnScope N ps (defScope st)) (len : ∀ vs H Q E, sp vs H Q E → vs.length = ps.length)
    (by_ : ∀ (A : Around) (outer : List Env) (s : Shared) (H : Hp) (vs : List V) (Q : VK) (E : XK), Room k (A.deeper (envOfC qual (defScope st) s.heap.objs.size f (.ref c))) → sp vs H Q E →
      ∃ t, PSs (cxOf CX0 P w K mg base N qual (defScope st) f (.ref c) A outer s H E).nox (defBody st) t ∧ t { nx := fun _ H' => Q .non H', rt := Q } (start N vs) H) : FnOk P w K mg base CX0 (k + 1) f fd ps sp := by
  obtain ⟨_, _, _, _, _, _, _, _, rfl, lk, hcd⟩ := F.ex
  exact fn_of lk hcd S len fun A outer s H vs Q E hr hsp => (by_ A outer s H vs Q E hr hsp).imp fun _ z => ⟨z.1.nox, z.2⟩
/-- sorted(range(..), key=lambda x: ..): the keys g, then the numbers in their order -/
def tSortLam (P : Addr) (q : Str) (ta : TE) (N : List Str) (js : List Nat) (tb : TE) : TE := fun σ H Q => ta σ H fun xn H1 => ∃ (n : Nat) (g : Int → Int), xn = .int (n : Int) ∧ n < 64 ∧ LamX.TabS H1 P q ∧
  ∀ H2, Fr [P] H1 H2 → LamX.TabS H2 P q → (∀ k : Nat, k < n → tb (NdefX.startF N [.int k] (js.map (NdefX.slotAt σ))) H2 fun v H3 => v = .int (g k) ∧ H3 = H2) ∧
    ∀ (ns : List Int) (D : Addr), ns.Perm ((List.range n).map fun (j : Nat) => (j : Int)) → (ns.Pairwise fun a b => g a ≤ g b) → H2 D = none → Q (.ref D) (upd H2 D (.lst (ns.map V.int)))
section
open LamX NdefX
variable {X : Cx}
theorem not_loc {pins : List (Addr × Obj)} {σ : L2.St} {H : Hp} {s : Shared} {f : Addr} {o : Obj} (I : L2.Inv X pins σ H s) (h : s.heap.get? f = some o) (hd : ∀ es ep, o.data ≠ .dict es ep) : f ≠ X.env.locals := fun z => by
  obtain ⟨m, ⟨ob, es, ep, ho, e, _⟩, _⟩ := I.loc
  rw [z, ho] at h
  cases h
  exact hd _ _ e
theorem not_fs {f : Addr} (ok : X.Ok) (h : f ∉ frs X.stack) : f ∉ X.fs := fun z => by
  rcases ok.stk with e | ⟨e, e2⟩
  · rw [e] at h
    exact h z
  · rw [e] at h
    refine h ?_
    have z : f ∈ X.outer.filterMap Env.frame := z
    show f ∈ (X.env :: X.outer).filterMap Env.frame
    rw [List.filterMap_cons, e2]
    exact List.mem_cons_of_mem _ z
theorem pe_sortLam {q : Str} {c P : Addr} {k : Nat} {p pos lpos kpos rp rpos : Pos} {ae : Expr} {ta : TE} {params : Arguments} {body : Expr} {scope : Scope} {N fr : List Str} {x : Str} {js : List Nat} {tb : TE}
    (hcalm : X.calm = true) (hg : Gl X "sorted") (hm : X.mg "sorted" = none) (hgr : Gl X "range") (hmr : X.mg "range" = none) (ha : PE X ae ta) (TB : TabB X.base X.mg c P) (hcode : X.env.code = .ref c) (hq : X.env.qual ++ "<lambda>" = q)
    (hdef : defaultsOf params X.env = ([], [])) (S : NScope N [x] fr scope) (hfree : ndefB X.env.scope scope fr = true) (hjs : js.map (fun j => X.N[j]?) = fr.map some) (hr : Room (k + 1) X.A.in1.in1)
    (hb : ∀ (q : Str) (cl : List (Str × Addr)) (pm cv ctv u : Value), bindArgs (PySem.W.kla_fn "<lambda>" q params body scope cl pm cv ctv) ⟨[u], []⟩ = pure [(x, u)])
    (hbody : ∀ (A : Around) (outer : List Env) (s : Shared) (H : Hp) (nm qu : Str) (ar : Arguments) (cl : List (Str × Addr)) (c' f : Addr), Room k (A.deeper (envF ⟨nm, qu, ar, [], scope, cl, c'⟩ f s.heap.objs.size)) →
      PE (ncx CX0 X.prog X.w X.K X.mg X.base N ⟨nm, qu, ar, [], scope, cl, c'⟩ f A outer s H E0) body tb)
    (nr : starEach [ae] X.env = (false, eval ae X.env) :: starEach [] X.env := by rfl)
    (na : starEach [.Call (.Name "range" rp) [ae] [] rpos] X.env = (false, eval (.Call (.Name "range" rp) [ae] [] rpos) X.env) :: starEach [] X.env := by rfl) (nb : backTo pos (starEach [.Call (.Name "range" rp) [ae] [] rpos] X.env) = (false, eval (.Call (.Name "range" rp) [ae] [] rpos) X.env) :: backTo pos (starEach [] X.env) := by rfl)
    (nc : (backTo pos (starEach [.Call (.Name "range" rp) [ae] [] rpos] X.env)).any (·.1) = false := by rfl) :
    PE X (.Call (.Name "sorted" p) [.Call (.Name "range" rp) [ae] [] rpos] [⟨some "key", .Lambda params body scope lpos, kpos⟩] pos) (tSortLam P q ta N js tb) := by
  refine ⟨fun pins s σ H Q I h => ?_⟩
  have hfr := ndef_free hfree
  refine wpAny_Call_Name_kw (ld_blt I hg hm boot_sorted ?_)
  refine PyProof.Rows.callWith_kw (args_cons (Call_ (ld_blt I hgr hmr boot_range (PyProof.Rows.callWith_type1 (one_arg ha I h (fun v s1 xn H1 I1 r q => ?_) nr) nr))) na) nb nc rfl rfl
  obtain ⟨n, g, rfl, h64, hT, h2⟩ := q
  obtain ⟨t, rfl⟩ := r
  refine call_range_1 (args_nil ?_)
  let ro : Obj := { cls := .type "range", data := .fields #[.int 0 s1.toks, .int n t, .int 1 (s1.toks + 1)] }
  have I2 : L2.Inv X pins σ H1 { s1 with heap := s1.heap.push ro, toks := s1.toks + 1 + 1 } := I1.kept fun b u e => Heap.get?_push_of_some _ e
  have I3 : L2.Inv X ((s1.heap.objs.size, ro) :: pins) σ H1 { s1 with heap := s1.heap.push ro, toks := s1.toks + 1 + 1 } := addpin I2 (Heap.get?_push_size _ rfl) (I1.hok.fresh (Nat.le_refl _)) (Nat.ne_of_gt I1.lt) (I1.nofs (Nat.le_refl _)) (fun v z => by cases z)
  show wpAny _ _ (evalAll ((do let v ← eval (.Lambda params body scope lpos) X.env; standAt pos; pure v) :: [])) _ _ _
  refine wpAny_evalAll_cons (wpAny_bind ?_)
  have hcl : ∀ y ∈ scope.names, y.2 = .free → ∃ c, X.env.cells.lookup y.1 = some c := fun y hy e => (hfr y hy e).elim (fun z => I.ok.has _ (.inl z)) fun z => I.ok.has _ (.inr z)
  refine lam_make3 I3 TB hcode hq hT hdef hcl fun f c' pm ctv H2 s2 I4 eN T2 hf hfn hfs hco => ?_
  refine wpAny_bind (wpAny_standAt (wpAny_pure (wpAny_evalAll_nil ?_)))
  obtain ⟨q1, q2⟩ := h2 H2 eN T2
  have hrg : IsRange s2.heap s1.heap.objs.size 0 (n : Int) 1 s1.toks t (s1.toks + 1) := (I4.pin (s1.heap.objs.size, ro) (List.mem_append_right _ List.mem_cons_self)).1
  have I5 := addpin I4 hf hfn (not_loc I4 hf (fun es ep z => by cases z)) (not_fs I.ok hfs) (fun v z => by cases z)
  show wpAny _ _ (call (.builtin "sorted") [.ref s1.heap.objs.size] [(Str.ofString "key", .ref f)]) _ _ _
  refine wpAny_mono (sorted_run_key (g := g) I5 (I.ok.hd hcalm) hrg h64 (fun k' hk tk pins' s' J => ?_) q2) (fun u s3 ⟨v, H3, J, rv, qq⟩ => ⟨v, H3, unpin (unpin J), rv, qq⟩) fun _ _ e => e
  have e1 := J.env0
  have e0 : Env0 X.prog X.w X.K X.mg X.base X.A.in1.in1 X.stack s' H2 := ⟨e1.frames, e1.mod, e1.bs, e1.bsz, e1.funs, e1.frf, e1.hok, e1.bare⟩
  let F : NF := ⟨"<lambda>", q, params, [], scope, cloFrom X.env.cells scope.names [], c'⟩
  have cp : Caps X F.cl fr js := Caps.made I.ok hfr (ndef_fr hfree) hjs
  have hpin := (J.pin (f, _) (List.mem_append_right _ (List.mem_append_right _ List.mem_cons_self))).1
  refine wpAny_call (codeAny_mono (lam_run (F := F) (CX := CX0) (E := E0) (N := N) (ps := [x]) (fr := fr) (vs := [.int (k' : Int)]) (ws := js.map (slotAt σ)) S hr e0 hpin hco (cells_of J cp) rfl (.cons ⟨tk, rfl⟩ .nil) (hb _ _ _ _ _ _) (fun room => hbody _ _ _ _ _ _ _ _ _ f room) (q1 k' hk)) fun r s3 hq => ?_)
  cases r with
  | error e => exact False.elim hq
  | ok fl =>
    cases fl with
    | ret u =>
      obtain ⟨v, H3, J3, rv, ev, eH⟩ := J.after hq
      rw [eH] at J3
      rw [ev] at rv
      exact ⟨rv, J3⟩
    | next => exact False.elim hq
    | brk => exact False.elim hq
    | cont => exact False.elim hq
end
end LT
/-! Webs: what a good web is; ways. -/
namespace LT
abbrev Rd3 := Int × Int × Int
def pr (r : Rd3) : Int × Int := (r.1, r.2.1)
def cst (r : Rd3) : Int := r.2.2
/-- a way along pairs -/
inductive Way (ps : List (Int × Int)) (a : Int) : Int → Prop where
  | refl : Way ps a a
  | step {b c : Int} : Way ps a b → ((b, c) ∈ ps ∨ (c, b) ∈ ps) → Way ps a c
theorem Way.mono {ps qs : List (Int × Int)} {a b : Int} (w : Way ps a b) (h : ∀ p ∈ ps, p ∈ qs) : Way qs a b := by
  induction w with
  | refl => exact .refl
  | step _ e ih => exact .step ih (e.elim (fun z => .inl (h _ z)) fun z => .inr (h _ z))
theorem Way.trans {ps : List (Int × Int)} {a b c : Int} (u : Way ps a b) (v : Way ps b c) : Way ps a c := by
  induction v with
  | refl => exact u
  | step _ e ih => exact .step ih e
theorem Way.symm {ps : List (Int × Int)} {a b : Int} (u : Way ps a b) : Way ps b a := by
  induction u with
  | refl => exact .refl
  | step _ e ih => exact (Way.step .refl e.symm).trans ih
/-- pairs of hands -/
structure PairsOk (n : Int) (ps : List (Int × Int)) : Prop where
  rng : ∀ p ∈ ps, 0 ≤ p.1 ∧ p.1 < p.2 ∧ p.2 < n
  nd : ps.Nodup
structure WebOk (n : Int) (rs : List Rd3) : Prop where
  lo : 1 ≤ n
  hi : n ≤ 8
  len : rs.length ≤ 20
  rng : ∀ r ∈ rs, 0 ≤ r.1 ∧ r.1 < r.2.1 ∧ r.2.1 < n ∧ 1 ≤ r.2.2 ∧ r.2.2 ≤ 99
  pairs : (rs.map pr).Nodup
  costs : (rs.map cst).Nodup
  conn : ∀ h : Int, 0 ≤ h → h < n → Way (rs.map pr) 0 h
theorem ins_perm {α : Type} (l : List α) (p : α) (j : Nat) : (l.take j ++ [p] ++ l.drop j).Perm (p :: l) := by
  have h : (l.take j ++ [p] ++ l.drop j).Perm ([p] ++ (l.take j ++ l.drop j)) := by
    rw [← List.append_assoc]
    exact List.perm_append_comm.append_right _
  rw [List.take_append_drop] at h
  exact h
theorem PairsOk.ins {n : Int} {ps : List (Int × Int)} (h : PairsOk n ps) {p : Int × Int} (hp : 0 ≤ p.1 ∧ p.1 < p.2 ∧ p.2 < n) (hn : p ∉ ps) (j : Nat) : PairsOk n (ps.take j ++ [p] ++ ps.drop j) := by
  have q := ins_perm ps p j
  refine ⟨fun x hx => ?_, q.nodup_iff.mpr (List.nodup_cons.mpr ⟨hn, h.nd⟩)⟩
  rcases List.mem_cons.mp (q.mem_iff.mp hx) with rfl | hx
  · exact hp
  · exact h.rng x hx
theorem Way.ins {ps : List (Int × Int)} {a b : Int} (w : Way ps a b) (p : Int × Int) (j : Nat) : Way (ps.take j ++ [p] ++ ps.drop j) a b :=
  w.mono fun x hx => (ins_perm ps p j).mem_iff.mpr (List.mem_cons_of_mem _ hx)
theorem ins_len {α : Type} (l : List α) (p : α) (j : Nat) : (l.take j ++ [p] ++ l.drop j).length = l.length + 1 := by
  have := (ins_perm l p j).length_eq
  simpa using this
theorem sort2 {a b : Int} {ns : List Int} (p : ns.Perm [a, b]) (s : ns.Pairwise (· ≤ ·)) : ns = [min a b, max a b] := by
  match ns, p.length_eq with
  | [x, y], _ =>
    have hxy : x ≤ y := by simpa using s
    have hx : x = a ∨ x = b := by simpa using p.mem_iff.mp (List.mem_cons_self (a := x))
    rcases hx with rfl | rfl
    · have : y = b := by simpa using List.Perm.cons_inv p
      subst this
      rw [Int.min_eq_left hxy, Int.max_eq_right hxy]
    · have : y = a := by simpa using List.Perm.cons_inv (p.trans (List.Perm.swap x a []))
      subst this
      rw [Int.min_eq_right hxy, Int.max_eq_left hxy]
theorem erase_perm {α : Type} {l : List α} {i : Nat} {y : α} (h : l[i]? = some y) : (y :: l.eraseIdx i).Perm l := by
  induction l generalizing i with
  | nil => simp at h
  | cons x l ih =>
    cases i with
    | zero =>
      simp at h
      subst h
      exact List.Perm.refl _
    | succ i =>
      simp at h
      exact (List.Perm.swap x y _).trans ((ih h).cons x)
/-- the tree's pairs behind some turns: who is in stands among the first of the order -/
structure TreeI (n : Int) (os : List Int) (k : Nat) (ps : List (Int × Int)) : Prop where
  ok : PairsOk n ps
  len : ps.length + 1 = k
  ends : ∀ p ∈ ps, p.1 ∈ os.take k ∧ p.2 ∈ os.take k
  conn : ∀ x ∈ os.take k, ∀ y ∈ os.take k, Way ps x y
theorem TreeI.next {n : Int} {os : List Int} {k j : Nat} {ps : List (Int × Int)} (h : TreeI n os k ps) (nd : os.Nodup) (rg : ∀ x ∈ os, 0 ≤ x ∧ x < n) {i : Nat} {a b : Int} (hi : i < k) (ha : os[i]? = some a) (hb : os[k]? = some b) :
    TreeI n os (k + 1) (ps.take j ++ [(min a b, max a b)] ++ ps.drop j) := by
  have hk : k < os.length := (List.getElem?_eq_some_iff.mp hb).1
  have tk : os.take (k + 1) = os.take k ++ [b] := by
    rw [List.take_succ, hb]
    rfl
  have am : a ∈ os.take k := by
    refine List.mem_of_getElem? (i := i) ?_
    rw [List.getElem?_take_of_lt hi]
    exact ha
  have bn : b ∉ os.take k := fun hm => by
    have h2 := nd
    rw [← List.take_append_drop (k + 1) os, tk] at h2
    have h3 := (List.nodup_append.mp (List.nodup_append.mp h2).1).2.2
    exact h3 b hm b (by simp) rfl
  have ab : a ≠ b := fun e => bn (e ▸ am)
  have ra := rg a (List.mem_of_mem_take am)
  have rb := rg b (List.mem_of_getElem? hb)
  have pn : (min a b, max a b) ∉ ps := fun hm => by
    have e := h.ends _ hm
    have e2 : b = min a b ∨ b = max a b := by omega
    rcases e2 with e2 | e2
    · exact bn (e2 ▸ e.1)
    · exact bn (e2 ▸ e.2)
  have Q := ins_perm ps (min a b, max a b) j
  have ed : ((a, b) ∈ ps.take j ++ [(min a b, max a b)] ++ ps.drop j ∨ (b, a) ∈ ps.take j ++ [(min a b, max a b)] ++ ps.drop j) := by
    rcases Int.le_total a b with c | c
    · refine .inl (Q.mem_iff.mpr ?_)
      rw [Int.min_eq_left c, Int.max_eq_right c]
      exact List.mem_cons_self ..
    · refine .inr (Q.mem_iff.mpr ?_)
      rw [Int.min_eq_right c, Int.max_eq_left c]
      exact List.mem_cons_self ..
  refine ⟨h.ok.ins ⟨by show 0 ≤ min a b; omega, by show min a b < max a b; omega, by show max a b < n; omega⟩ pn j, by rw [ins_len]; have := h.len; omega, fun p hp => ?_, ?_⟩
  · rw [tk]
    rcases List.mem_cons.mp (Q.mem_iff.mp hp) with rfl | hp
    · show min a b ∈ _ ∧ max a b ∈ _
      have e2 : (min a b = a ∧ max a b = b) ∨ (min a b = b ∧ max a b = a) := by omega
      rcases e2 with ⟨e, e'⟩ | ⟨e, e'⟩ <;> rw [e, e'] <;> simp [am]
    · have e := h.ends p hp
      exact ⟨List.mem_append_left _ e.1, List.mem_append_left _ e.2⟩
  · have toA : ∀ x ∈ os.take (k + 1), Way (ps.take j ++ [(min a b, max a b)] ++ ps.drop j) a x := fun x hx => by
      rw [tk] at hx
      rcases List.mem_append.mp hx with hx | hx
      · exact (h.conn a am x hx).ins _ _
      · rw [List.mem_singleton.mp hx]
        exact .step .refl ed
    exact fun x hx y hy => (toA x hx).symm.trans (toA y hy)
end LT
/-! Ways by numbered roads. -/
namespace LT
open PySem L2
/-- the road k leads from a to b -/
def Edge (rs : List Rd3) (k a b : Int) : Prop := 0 ≤ k ∧ ∃ r, rs[k.toNat]? = some r ∧ ((a = r.1 ∧ b = r.2.1) ∨ (a = r.2.1 ∧ b = r.1))
theorem Edge.symm {rs : List Rd3} {k a b : Int} (h : Edge rs k a b) : Edge rs k b a := by
  obtain ⟨h0, r, hr, h⟩ := h
  exact ⟨h0, r, hr, h.elim (fun ⟨x, y⟩ => .inr ⟨y, x⟩) fun ⟨x, y⟩ => .inl ⟨y, x⟩⟩
/-- a way by roads of ks, no hand twice: its roads, its hands -/
inductive Pth (rs : List Rd3) (ks : List Int) (a : Int) : List Int → List Int → Int → Prop where
  | nil : Pth rs ks a [] [a] a
  | snoc {ns vs : List Int} {b c k : Int} : Pth rs ks a ns vs b → k ∈ ks → Edge rs k b c → c ∉ vs → Pth rs ks a (ns ++ [k]) (vs ++ [c]) c
theorem Pth.len {rs : List Rd3} {ks : List Int} {a : Int} {ns vs : List Int} {b : Int} (h : Pth rs ks a ns vs b) : vs.length = ns.length + 1 := by
  induction h with
  | nil => rfl
  | snoc _ _ _ _ ih => simp [ih]
theorem Pth.nd {rs : List Rd3} {ks : List Int} {a : Int} {ns vs : List Int} {b : Int} (h : Pth rs ks a ns vs b) : vs.Nodup := by
  induction h with
  | nil => simp
  | snoc _ _ _ hc ih => 
    rw [List.nodup_append]
    refine ⟨ih, by simp, fun x hx y hy e => ?_⟩
    rw [List.mem_singleton.mp hy] at e
    exact hc (e ▸ hx)
theorem nodup_bound : ∀ (n : Nat) (l : List Int), l.Nodup → (∀ x ∈ l, 0 ≤ x ∧ x < n) → l.length ≤ n
  | 0, l, _, h => by
    cases l with
    | nil => exact Nat.le_refl _
    | cons x l =>
      have := h x (List.mem_cons_self ..)
      omega
  | n + 1, l, nd, h => by
    by_cases hm : (n : Int) ∈ l
    · have h1 := nodup_bound n (l.erase n) (nd.erase _) fun x hx => by
        have h2 := (nd.mem_erase_iff).mp hx
        have := h x h2.2
        have := h2.1
        omega
      rw [List.length_erase_of_mem hm] at h1
      omega
    · have h1 := nodup_bound n l nd fun x hx => by
        have := h x hx
        have : x ≠ n := fun e => hm (e ▸ hx)
        omega
      omega
abbrev Ent := Int × Addr
def kvOf (es : List Ent) : List (Key × V) := es.map fun e => (Sum.inl e.1, V.ref e.2)
theorem val_kvOf : ∀ (es : List Ent) (h : Int), valV (kvOf es) (Sum.inl h) = (es.find? fun e => decide (e.1 = h)).map fun e => V.ref e.2
  | [], _ => rfl
  | e :: es, h => by
    have ih := val_kvOf es h
    show valV ((Sum.inl e.1, V.ref e.2) :: kvOf es) (Sum.inl h) = _
    by_cases c : e.1 = h
    · rw [valV_pos (by rw [c])]
      simp [c]
    · rw [valV_neg (fun z => c (Sum.inl.inj z)), ih]
      simp [c]
theorem val_none {es : List Ent} {h : Int} (c : h ∉ es.map (·.1)) : valV (kvOf es) (Sum.inl h) = none := by
  rw [val_kvOf]
  have : (es.find? fun e => decide (e.1 = h)) = none := List.find?_eq_none.mpr fun e he z => c (List.mem_map.mpr ⟨e, he, of_decide_eq_true z⟩)
  rw [this]
  rfl
theorem val_some {es : List Ent} {h : Int} (c : h ∈ es.map (·.1)) : ∃ a, (h, a) ∈ es ∧ valV (kvOf es) (Sum.inl h) = some (.ref a) := by
  rw [val_kvOf]
  obtain ⟨e, he, rfl⟩ := List.mem_map.mp c
  cases q : es.find? (fun x => decide (x.1 = e.1)) with
  | none => exact absurd (decide_eq_true rfl) (List.find?_eq_none.mp q e he)
  | some x =>
    have h1 := List.find?_some q
    have h2 := List.mem_of_find?_eq_some q
    have h3 : x.1 = e.1 := of_decide_eq_true h1
    exact ⟨x.2, by rw [← h3]; exact h2, rfl⟩
theorem kvOf_put {es : List Ent} {h : Int} {a : Addr} (c : h ∉ es.map (·.1)) : putK (kvOf es) (Sum.inl h) (.ref a) = kvOf (es ++ [(h, a)]) := by
  rw [putK_new _ (val_none c)]
  simp [kvOf]
/-- the entries met so far, each with a way -/
structure Met (rs : List Rd3) (ks : List Int) (n start : Int) (H0 H : Hp) (W : Addr) (es : List Ent) : Prop where
  nd : (es.map (·.1)).Nodup
  st : start ∈ es.map (·.1)
  rg : ∀ h ∈ es.map (·.1), 0 ≤ h ∧ h < n
  way : ∀ e ∈ es, e.2 ≠ W ∧ H0 e.2 = none ∧ ∃ ns vs, H e.2 = some (.lst (ns.map V.int)) ∧ Pth rs ks start ns vs e.1 ∧ ∀ v ∈ vs, v ∈ es.map (·.1)
theorem Met.len {rs : List Rd3} {ks : List Int} {n start : Int} {H0 H : Hp} {W : Addr} {es : List Ent} (m : Met rs ks n start H0 H W es) (h8 : n ≤ 8) (h0 : 0 ≤ n) : es.length ≤ 8 := by
  have := nodup_bound n.toNat _ m.nd fun x hx => by
    have := m.rg x hx
    omega
  rw [List.length_map] at this
  omega
theorem Met.fr {rs : List Rd3} {ks : List Int} {n start : Int} {H0 H H' : Hp} {W : Addr} {es : List Ent} (m : Met rs ks n start H0 H W es) {M : List Addr} (f : Fr M H H') (hM : ∀ e ∈ es, e.2 ∉ M) : Met rs ks n start H0 H' W es :=
  ⟨m.nd, m.st, m.rg, fun e he => by
    obtain ⟨h1, h2, ns, vs, h3, h4, h5⟩ := m.way e he
    exact ⟨h1, h2, ns, vs, f.keep _ _ (hM e he) h3, h4, h5⟩⟩
theorem Met.add {rs : List Rd3} {ks : List Int} {n start : Int} {H0 H H' : Hp} {W : Addr} {es : List Ent} (m : Met rs ks n start H0 H W es) {M : List Addr} (f : Fr M H H') (hM : ∀ e ∈ es, e.2 ∉ M) {b c k : Int} {a : Addr} {ns vs : List Int}
    (hc : c ∉ es.map (·.1)) (hr : 0 ≤ c ∧ c < n) (aW : a ≠ W) (a0 : H0 a = none) (hk : k ∈ ks) (ed : Edge rs k b c) (p : Pth rs ks start ns vs b) (hv : ∀ v ∈ vs, v ∈ es.map (·.1)) (ha : H' a = some (.lst ((ns ++ [k]).map V.int))) :
    Met rs ks n start H0 H' W (es ++ [(c, a)]) := by
  have mem : ∀ v ∈ es.map (·.1), v ∈ (es ++ [(c, a)]).map (·.1) := fun v hv => by
    rw [List.map_append]
    exact List.mem_append_left _ hv
  refine ⟨?_, mem _ m.st, fun h hh => ?_, fun e he => ?_⟩
  · rw [List.map_append, List.nodup_append]
    refine ⟨m.nd, by simp, fun x hx y hy e => ?_⟩
    have hy' : y = c := by simpa using hy
    exact hc (by rw [← hy', ← e]; exact hx)
  · rw [List.map_append] at hh
    rcases List.mem_append.mp hh with hh | hh
    · exact m.rg h hh
    · have : h = c := by simpa using hh
      rw [this]
      exact hr
  · rcases List.mem_append.mp he with he | he
    · obtain ⟨h1, h2, ns', vs', h3, h4, h5⟩ := m.way e he
      exact ⟨h1, h2, ns', vs', f.keep _ _ (hM e he) h3, h4, fun v hv => mem _ (h5 v hv)⟩
    · have : e = (c, a) := by simpa using he
      subst this
      refine ⟨aW, a0, _, vs ++ [c], ha, p.snoc hk ed fun z => hc (hv c z), fun v hv' => ?_⟩
      rcases List.mem_append.mp hv' with hv' | hv'
      · exact mem _ (hv v hv')
      · have : v = c := by simpa using hv'
        rw [this]
        simp
end LT
/-! The least tree as a plain function: roads by their costs, pieces that are joined. -/
namespace LT
open PySem L2
def roadAt (rs : List Rd3) (k : Int) : Rd3 := rs.getD k.toNat (0, 0, 0)
def costAt (rs : List Rd3) (k : Int) : Int := (roadAt rs k).2.2
def joinP (kept joined : Int) (ps : List Int) : List Int := ps.map fun p => if p = joined then kept else p
def pieceAt (ps : List Int) (h : Int) : Int := ps.getD h.toNat 0
def krStep (rs : List Rd3) (st : List Int × List Int) (k : Int) : List Int × List Int :=
  if pieceAt st.2 (roadAt rs k).1 ≠ pieceAt st.2 (roadAt rs k).2.1 then (st.1 ++ [k], joinP (pieceAt st.2 (roadAt rs k).1) (pieceAt st.2 (roadAt rs k).2.1) st.2) else st
def numbers (n : Nat) : List Int := (List.range n).map fun (j : Nat) => (j : Int)
/-- the roads' numbers by their costs -/
def byCost (rs : List Rd3) : List Int := (numbers rs.length).mergeSort fun a b => decide (costAt rs a ≤ costAt rs b)
def krus (n : Int) (rs : List Rd3) (ks : List Int) : List Int × List Int := ks.foldl (krStep rs) ([], numbers n.toNat)
/-- the least tree's numbers, rising -/
@[irreducible] def treeL (n : Int) (rs : List Rd3) : List Int := (krus n rs (byCost rs)).1.mergeSort fun a b => decide (a ≤ b)
theorem krus_snoc {n : Int} {rs : List Rd3} {ks : List Int} {k : Int} : krus n rs (ks ++ [k]) = krStep rs (krus n rs ks) k := by
  unfold krus
  rw [List.foldl_append]
  rfl
theorem joinP_len {a b : Int} {ps : List Int} : (joinP a b ps).length = ps.length := by
  unfold joinP
  rw [List.length_map]
theorem numbers_mem {n : Nat} {k : Int} : k ∈ numbers n ↔ 0 ≤ k ∧ k < n := by
  unfold numbers
  rw [List.mem_map]
  constructor
  · rintro ⟨j, hj, rfl⟩
    have := List.mem_range.mp hj
    exact ⟨by omega, by omega⟩
  · rintro ⟨h0, h1⟩
    exact ⟨k.toNat, List.mem_range.mpr (by omega), by omega⟩
theorem numbers_len {n : Nat} : (numbers n).length = n := by
  unfold numbers
  rw [List.length_map, List.length_range]
theorem numbers_nodup {n : Nat} : (numbers n).Nodup := by
  unfold numbers
  refine List.Nodup.map_of_inj List.nodup_range fun a b e => by omega
theorem krStep_len {rs : List Rd3} {st : List Int × List Int} {k : Int} : (krStep rs st k).2.length = st.2.length := by
  unfold krStep
  split
  · exact joinP_len
  · rfl
theorem fold_len {rs : List Rd3} : ∀ {ks : List Int} {st : List Int × List Int}, (ks.foldl (krStep rs) st).2.length = st.2.length
  | [], _ => rfl
  | k :: ks, st => by
    rw [List.foldl_cons, fold_len, krStep_len]
theorem krus_len {n : Int} {rs : List Rd3} {ks : List Int} : (krus n rs ks).2.length = n.toNat := by
  unfold krus
  rw [fold_len]
  exact numbers_len
theorem krStep_le {rs : List Rd3} {st : List Int × List Int} {k : Int} : (krStep rs st k).1.length ≤ st.1.length + 1 := by
  unfold krStep
  split
  · rw [List.length_append, List.length_singleton]
    exact Nat.le_refl _
  · exact Nat.le_succ _
theorem fold_le {rs : List Rd3} : ∀ {ks : List Int} {st : List Int × List Int}, (ks.foldl (krStep rs) st).1.length ≤ st.1.length + ks.length
  | [], _ => Nat.le_refl _
  | k :: ks, st => by
    rw [List.foldl_cons, List.length_cons]
    have a := fold_le (rs := rs) (ks := ks) (st := krStep rs st k)
    have b := krStep_le (rs := rs) (st := st) (k := k)
    omega
theorem krus_le {n : Int} {rs : List Rd3} {ks : List Int} : (krus n rs ks).1.length ≤ ks.length := by
  have a := fold_le (rs := rs) (ks := ks) (st := ([], numbers n.toNat))
  rw [show (([] : List Int), numbers n.toNat).1.length = 0 from rfl] at a
  unfold krus
  omega
/-- two lists in one strict order with the same members are one -/
theorem ordered_unique {α : Type} {r : α → α → Prop} (irr : ∀ a b, r a b → r b a → False) : ∀ {l l' : List α}, l.Perm l' → l.Pairwise r → l'.Pairwise r → l = l'
  | [], l', p, _, _ => (List.nil_perm.mp p).symm ▸ rfl
  | a :: l, [], p, _, _ => absurd p.length_eq (by simp)
  | a :: l, b :: l', p, h, h' => by
    have h1 := List.pairwise_cons.mp h
    have h2 := List.pairwise_cons.mp h'
    have e : a = b := by
      have ma : a ∈ b :: l' := p.mem_iff.mp List.mem_cons_self
      have mb : b ∈ a :: l := p.mem_iff.mpr List.mem_cons_self
      rcases List.mem_cons.mp ma with z | z
      · exact z
      · rcases List.mem_cons.mp mb with y | y
        · exact y.symm
        · exact (irr _ _ (h1.1 b y) (h2.1 a z)).elim
    subst e
    rw [ordered_unique irr (List.Perm.cons_inv p) h1.2 h2.2]
theorem cost_lt {rs : List Rd3} (hc : (rs.map cst).Nodup) {a b : Int} (ha : 0 ≤ a ∧ a < rs.length) (hb : 0 ≤ b ∧ b < rs.length) (ne : a ≠ b) (le : costAt rs a ≤ costAt rs b) : costAt rs a < costAt rs b := by
  refine Int.lt_iff_le_and_ne.mpr ⟨le, fun e => ne ?_⟩
  have la : a.toNat < rs.length := by omega
  have lb : b.toNat < rs.length := by omega
  have at_ : ∀ {c : Int} (h : c.toNat < rs.length), costAt rs c = (rs.map cst)[c.toNat]'(by rw [List.length_map]; exact h) := fun {c} h => by
    unfold costAt roadAt
    rw [List.getD_eq_getElem?_getD, List.getElem?_eq_getElem h, List.getElem_map]
    rfl
  rw [at_ la, at_ lb] at e
  have pw := List.pairwise_iff_getElem.mp hc
  rcases Nat.lt_trichotomy a.toNat b.toNat with z | z | z
  · exact (pw _ _ (by rw [List.length_map]; exact la) (by rw [List.length_map]; exact lb) z e).elim
  · omega
  · exact (pw _ _ (by rw [List.length_map]; exact lb) (by rw [List.length_map]; exact la) z e.symm).elim
theorem byCost_unique {rs : List Rd3} (hc : (rs.map cst).Nodup) {ks : List Int} (p : ks.Perm (numbers rs.length)) (w : ks.Pairwise fun a b => costAt rs a ≤ costAt rs b) : ks = byCost rs := by
  have strict : ∀ {l : List Int}, l.Perm (numbers rs.length) → (l.Pairwise fun a b => costAt rs a ≤ costAt rs b) → l.Pairwise fun a b => costAt rs a < costAt rs b := fun {l} p w => by
    have nd : l.Nodup := p.nodup_iff.mpr numbers_nodup
    refine (w.and nd).imp_of_mem fun {a b} ma mb z => ?_
    exact cost_lt hc (numbers_mem.mp (p.mem_iff.mp ma)) (numbers_mem.mp (p.mem_iff.mp mb)) z.2 z.1
  have p2 : (byCost rs).Perm (numbers rs.length) := List.mergeSort_perm ..
  have w2 : (byCost rs).Pairwise fun a b => costAt rs a ≤ costAt rs b := by
    have q := List.pairwise_mergeSort (le := fun a b => decide (costAt rs a ≤ costAt rs b)) (fun a b c h1 h2 => by simp at h1 h2 ⊢; omega) (fun a b => by simp; omega) (numbers rs.length)
    exact q.imp fun {a b} z => of_decide_eq_true z
  exact ordered_unique (r := fun a b => costAt rs a < costAt rs b) (fun a b h1 h2 => by omega) (p.trans p2.symm) (strict p w) (strict p2 w2)
theorem rising_unique {ks ms : List Int} (p : ks.Perm ms) (w : ks.Pairwise fun a b => a ≤ b) : ks = ms.mergeSort fun a b => decide (a ≤ b) := by
  have p2 : (ms.mergeSort fun a b => decide (a ≤ b)).Perm ms := List.mergeSort_perm ..
  have w2 : (ms.mergeSort fun a b => decide (a ≤ b)).Pairwise fun a b => a ≤ b := by
    have q := List.pairwise_mergeSort (le := fun (a b : Int) => decide (a ≤ b)) (fun a b c h1 h2 => by simp at h1 h2 ⊢; omega) (fun a b => by simp; omega) ms
    exact q.imp fun {a b} z => of_decide_eq_true z
  exact (p.trans p2.symm).eq_of_pairwise (fun a b _ _ h1 h2 => by omega) w w2
end LT
/-! What Kruskal's tree is: it joins what the roads join. -/
namespace LT
open PySem L2
/-- a way by roads of ks -/
inductive Conn (rs : List Rd3) (ks : List Int) (a : Int) : Int → Prop where
  | refl : Conn rs ks a a
  | step {b c k : Int} : Conn rs ks a b → k ∈ ks → Edge rs k b c → Conn rs ks a c
theorem Conn.trans {rs : List Rd3} {ks : List Int} {a b c : Int} (h : Conn rs ks a b) (g : Conn rs ks b c) : Conn rs ks a c := by
  induction g with
  | refl => exact h
  | step _ hk e ih => exact ih.step hk e
theorem Conn.one {rs : List Rd3} {ks : List Int} {a b k : Int} (hk : k ∈ ks) (e : Edge rs k a b) : Conn rs ks a b := Conn.refl.step hk e
theorem Conn.symm {rs : List Rd3} {ks : List Int} {a b : Int} (h : Conn rs ks a b) : Conn rs ks b a := by
  induction h with
  | refl => exact .refl
  | step _ hk e ih => exact (Conn.one hk e.symm).trans ih
theorem Conn.mono {rs : List Rd3} {ks ms : List Int} {a b : Int} (h : Conn rs ks a b) (hs : ∀ k ∈ ks, k ∈ ms) : Conn rs ms a b := by
  induction h with
  | refl => exact .refl
  | step _ hk e ih => exact ih.step (hs _ hk) e
/-- what holds of each road's ends holds along a way -/
theorem Conn.thru {rs : List Rd3} {ks ms : List Int} {a b : Int} (h : Conn rs ks a b) (hs : ∀ k ∈ ks, ∀ x y, Edge rs k x y → Conn rs ms x y) : Conn rs ms a b := by
  induction h with
  | refl => exact .refl
  | step _ hk e ih => exact ih.trans (hs _ hk _ _ e)
theorem Conn.nil {rs : List Rd3} {a b : Int} (h : Conn rs [] a b) : b = a := by
  cases h with
  | refl => rfl
  | step _ hk _ => exact absurd hk (by simp)
theorem edge_ends {rs : List Rd3} {k : Int} {r : Rd3} (hr : rs[k.toNat]? = some r) {a b : Int} (e : Edge rs k a b) : (a = r.1 ∧ b = r.2.1) ∨ (a = r.2.1 ∧ b = r.1) := by
  obtain ⟨_, r', hr', h⟩ := e
  rw [hr] at hr'
  cases hr'
  exact h
theorem edge_of {rs : List Rd3} {k : Int} {r : Rd3} (k0 : 0 ≤ k) (hr : rs[k.toNat]? = some r) : Edge rs k r.1 r.2.1 := ⟨k0, r, hr, .inl ⟨rfl, rfl⟩⟩
/-- one road more -/
theorem conn_snoc {rs : List Rd3} {cs : List Int} {k : Int} {r : Rd3} (hr : rs[k.toNat]? = some r) {a b : Int} (h : Conn rs (cs ++ [k]) a b) :
    Conn rs cs a b ∨ (Conn rs cs a r.1 ∧ Conn rs cs r.2.1 b) ∨ (Conn rs cs a r.2.1 ∧ Conn rs cs r.1 b) := by
  induction h with
  | refl => exact .inl .refl
  | step _ hk e ih =>
    rcases List.mem_append.mp hk with hk | hk
    · rcases ih with h | ⟨h, g⟩ | ⟨h, g⟩
      · exact .inl (h.step hk e)
      · exact .inr (.inl ⟨h, g.step hk e⟩)
      · exact .inr (.inr ⟨h, g.step hk e⟩)
    · have : _ = k := List.mem_singleton.mp hk
      subst this
      rcases edge_ends hr e with ⟨rfl, rfl⟩ | ⟨rfl, rfl⟩
      · rcases ih with h | ⟨h, g⟩ | ⟨h, g⟩
        · exact .inr (.inl ⟨h, .refl⟩)
        · exact .inr (.inl ⟨h, .refl⟩)
        · exact .inl h
      · rcases ih with h | ⟨h, g⟩ | ⟨h, g⟩
        · exact .inr (.inr ⟨h, .refl⟩)
        · exact .inl h
        · exact .inr (.inr ⟨h, .refl⟩)
theorem piece_join {kp jn : Int} {ps : List Int} {a : Int} (h : a.toNat < ps.length) : pieceAt (joinP kp jn ps) a = if pieceAt ps a = jn then kp else pieceAt ps a := by
  unfold pieceAt joinP
  rw [List.getD_eq_getElem?_getD, List.getD_eq_getElem?_getD, List.getElem?_map, List.getElem?_eq_getElem h]
  rfl
/-- what Kruskal's state is behind the numbers done -/
structure KrOk (n : Int) (rs : List Rd3) (done : List Int) (st : List Int × List Int) : Prop where
  len : st.2.length = n.toNat
  piece : ∀ a b : Int, 0 ≤ a → a < n → 0 ≤ b → b < n → (pieceAt st.2 a = pieceAt st.2 b ↔ Conn rs st.1 a b)
  sub : ∀ k ∈ st.1, k ∈ done
  nd : st.1.Nodup
  forest : ∀ k ∈ st.1, ∀ x y, Edge rs k x y → ¬ Conn rs (st.1.filter fun m => decide (m ≠ k)) x y
  through : ∀ k ∈ done, ∀ x y, Edge rs k x y → Conn rs (st.1.filter fun m => decide (costAt rs m ≤ costAt rs k)) x y
theorem krOk_nil {n : Int} {rs : List Rd3} : KrOk n rs [] ([], numbers n.toNat) := by
  refine ⟨numbers_len, fun a b a0 a1 b0 b1 => ?_, fun k hk => absurd hk (by simp), List.nodup_nil, fun k hk => absurd hk (by simp), fun k hk => absurd hk (by simp)⟩
  have at_ : ∀ h : Int, 0 ≤ h → h < n → pieceAt (numbers n.toNat) h = h := fun h h0 h1 => by
    unfold pieceAt numbers
    rw [List.getD_eq_getElem?_getD, List.getElem?_map, List.getElem?_range (by omega)]
    show ((h.toNat : Nat) : Int) = h
    omega
  rw [at_ a a0 a1, at_ b b0 b1]
  constructor
  · intro e
    rw [e]
    exact .refl
  · intro h
    exact h.nil.symm
theorem krOk_step {n : Int} {rs : List Rd3} {done : List Int} {st : List Int × List Int} {k : Int} (rg : ∀ r ∈ rs, 0 ≤ r.1 ∧ r.1 < r.2.1 ∧ r.2.1 < n) (h : KrOk n rs done st) (k0 : 0 ≤ k) (k1 : k < rs.length) (top : ∀ m ∈ done, costAt rs m ≤ costAt rs k) (new : k ∉ done) :
    KrOk n rs (done ++ [k]) (krStep rs st k) := by
  obtain ⟨r, hr⟩ : ∃ r, rs[k.toNat]? = some r := ⟨_, List.getElem?_eq_getElem (by omega)⟩
  have er : roadAt rs k = r := by
    unfold roadAt
    rw [List.getD_eq_getElem?_getD, hr]
    rfl
  have rr := rg r (List.mem_of_getElem? hr)
  have low : ∀ m ∈ st.1, costAt rs m ≤ costAt rs k := fun m hm => top m (h.sub m hm)
  have all : (st.1.filter fun m => decide (costAt rs m ≤ costAt rs k)) = st.1 := List.filter_eq_self.mpr fun m hm => decide_eq_true (low m hm)
  unfold krStep
  rw [er]
  by_cases c : pieceAt st.2 r.1 ≠ pieceAt st.2 r.2.1
  · rw [if_pos c]
    have up : ∀ m ∈ st.1, m ∈ st.1 ++ [k] := fun m hm => List.mem_append_left _ hm
    have lk : k ∈ st.1 ++ [k] := List.mem_append_right _ (List.mem_singleton.mpr rfl)
    have nk : k ∉ st.1 := fun z => new (h.sub k z)
    have apart : ¬ Conn rs st.1 r.1 r.2.1 := fun z => c ((h.piece r.1 r.2.1 (by omega) (by omega) (by omega) (by omega)).mpr z)
    refine ⟨?_, fun a b a0 a1 b0 b1 => ?_, fun m hm => ?_, ?_, fun m hm x y e q => ?_, fun m hm x y e => ?_⟩
    · show (joinP _ _ st.2).length = n.toNat
      rw [joinP_len, h.len]
    · show pieceAt (joinP _ _ st.2) a = pieceAt (joinP _ _ st.2) b ↔ Conn rs (st.1 ++ [k]) a b
      rw [piece_join (by rw [h.len]; omega), piece_join (by rw [h.len]; omega)]
      have ax := h.piece a r.1 a0 a1 (by omega) (by omega)
      have ay := h.piece a r.2.1 a0 a1 (by omega) (by omega)
      have bx := h.piece b r.1 b0 b1 (by omega) (by omega)
      have by_ := h.piece b r.2.1 b0 b1 (by omega) (by omega)
      have ab := h.piece a b a0 a1 b0 b1
      have ed : Conn rs (st.1 ++ [k]) r.1 r.2.1 := .one lk (edge_of k0 hr)
      constructor
      · intro e
        split at e
        · rename_i ea
          have ca := (ay.mp ea).mono up
          split at e
          · rename_i eb
            exact ca.trans ((by_.mp eb).mono up).symm
          · exact (ca.trans ed.symm).trans ((bx.mp e.symm).mono up).symm
        · split at e
          · rename_i eb
            exact (((ax.mp e).mono up).trans ed).trans ((by_.mp eb).mono up).symm
          · exact (ab.mp e).mono up
      · intro q
        rcases conn_snoc hr q with q | ⟨q1, q2⟩ | ⟨q1, q2⟩
        · rw [ab.mpr q]
        · have e1 := ax.mpr q1
          have e2 := by_.mpr q2.symm
          rw [if_neg (by rw [e1]; exact c), if_pos e2, e1]
        · have e1 := ay.mpr q1
          have e2 := bx.mpr q2.symm
          rw [if_pos e1, if_neg (by rw [e2]; exact c), e2]
    · rcases List.mem_append.mp hm with z | z
      · exact List.mem_append_left _ (h.sub m z)
      · exact List.mem_append_right _ z
    · show (st.1 ++ [k]).Nodup
      rw [List.nodup_append]
      exact ⟨h.nd, by simp, fun a ha b hb z => nk (by rw [← List.mem_singleton.mp hb, ← z]; exact ha)⟩
    · have q : Conn rs ((st.1 ++ [k]).filter fun z => decide (z ≠ m)) x y := q
      rw [List.filter_append] at q
      rcases List.mem_append.mp hm with z | z
      · have km : k ≠ m := fun z' => nk (z' ▸ z)
        rw [show [k].filter (fun z => decide (z ≠ m)) = [k] from by simp [km]] at q
        have dn : ∀ v ∈ st.1.filter (fun z => decide (z ≠ m)), v ∈ st.1 := fun v hv => (List.mem_filter.mp hv).1
        rcases conn_snoc hr q with q | ⟨q1, q2⟩ | ⟨q1, q2⟩
        · exact h.forest m z x y e q
        · exact apart (((q1.mono dn).symm.trans (.one z e)).trans (q2.mono dn).symm)
        · exact apart (((q2.mono dn).trans (Conn.one z e).symm).trans (q1.mono dn))
      · have : m = k := List.mem_singleton.mp z
        subst this
        rw [show [m].filter (fun z => decide (z ≠ m)) = [] from by simp, List.append_nil, List.filter_eq_self.mpr fun v hv => decide_eq_true (show v ≠ m from fun z' => nk (z' ▸ hv))] at q
        rcases edge_ends hr e with ⟨rfl, rfl⟩ | ⟨rfl, rfl⟩
        · exact apart q
        · exact apart q.symm
    · rcases List.mem_append.mp hm with z | z
      · refine (h.through m z x y e).mono fun q hq => ?_
        obtain ⟨q1, q2⟩ := List.mem_filter.mp hq
        exact List.mem_filter.mpr ⟨up q q1, q2⟩
      · have : m = k := List.mem_singleton.mp z
        subst this
        exact .one (List.mem_filter.mpr ⟨lk, decide_eq_true (Int.le_refl _)⟩) e
  · rw [if_neg c]
    have ceq : pieceAt st.2 r.1 = pieceAt st.2 r.2.1 := Decidable.not_not.mp c
    refine ⟨h.len, h.piece, fun m hm => List.mem_append_left _ (h.sub m hm), h.nd, h.forest, fun m hm x y e => ?_⟩
    rcases List.mem_append.mp hm with z | z
    · exact h.through m z x y e
    · have : m = k := List.mem_singleton.mp z
      subst this
      rw [all]
      have q := (h.piece r.1 r.2.1 (by omega) (by omega) (by omega) (by omega)).mp ceq
      rcases edge_ends hr e with ⟨rfl, rfl⟩ | ⟨rfl, rfl⟩
      · exact q
      · exact q.symm
theorem krOk_fold {n : Int} {rs : List Rd3} (rg : ∀ r ∈ rs, 0 ≤ r.1 ∧ r.1 < r.2.1 ∧ r.2.1 < n) : ∀ {ks done : List Int} {st : List Int × List Int}, KrOk n rs done st → (∀ k ∈ ks, 0 ≤ k ∧ k < rs.length) → ((done ++ ks).Pairwise fun a b => costAt rs a ≤ costAt rs b ∧ a ≠ b) → KrOk n rs (done ++ ks) (ks.foldl (krStep rs) st)
  | [], done, st, h, _, _ => by
    rw [List.append_nil]
    exact h
  | k :: ks, done, st, h, hk, hp => by
    have h2 := hk k List.mem_cons_self
    have hp2 := (List.pairwise_append.mp hp).2.2
    have q := krOk_fold rg (krOk_step rg h h2.1 h2.2 (fun m hm => (hp2 m hm k List.mem_cons_self).1) (fun z => (hp2 k z k List.mem_cons_self).2 rfl)) (fun m hm => hk m (List.mem_cons_of_mem _ hm)) (by rw [List.append_assoc]; exact hp)
    rw [List.append_assoc] at q
    exact q
theorem byCost_perm {rs : List Rd3} : (byCost rs).Perm (numbers rs.length) := List.mergeSort_perm ..
theorem byCost_sorted {rs : List Rd3} : (byCost rs).Pairwise fun a b => costAt rs a ≤ costAt rs b :=
  (List.pairwise_mergeSort (le := fun a b => decide (costAt rs a ≤ costAt rs b)) (fun a b c h1 h2 => by simp at h1 h2 ⊢; omega) (fun a b => by simp; omega) (numbers rs.length)).imp fun {a b} z => of_decide_eq_true z
theorem krOk_all {n : Int} {rs : List Rd3} (w : WebOk n rs) : KrOk n rs (byCost rs) (krus n rs (byCost rs)) := by
  have q := krOk_fold (n := n) (rs := rs) (fun r hr => ⟨(w.rng r hr).1, (w.rng r hr).2.1, (w.rng r hr).2.2.1⟩) (ks := byCost rs) krOk_nil (fun k hk => numbers_mem.mp (byCost_perm.mem_iff.mp hk))
    (byCost_sorted.and (byCost_perm.nodup_iff.mpr numbers_nodup))
  exact q
theorem tree_perm {n : Int} {rs : List Rd3} : (treeL n rs).Perm (krus n rs (byCost rs)).1 := by
  unfold treeL
  exact List.mergeSort_perm ..
theorem tree_rising {n : Int} {rs : List Rd3} : (treeL n rs).Pairwise fun a b => a ≤ b := by
  unfold treeL
  exact
  (List.pairwise_mergeSort (le := fun (a b : Int) => decide (a ≤ b)) (fun a b c h1 h2 => by simp at h1 h2 ⊢; omega) (fun a b => by simp; omega) _).imp fun {a b} z => of_decide_eq_true z
theorem conn_way {rs : List Rd3} {ks : List Int} (all : ∀ k : Int, 0 ≤ k → k < rs.length → ∀ x y, Edge rs k x y → Conn rs ks x y) {a b : Int} (h : Way (rs.map pr) a b) : Conn rs ks a b := by
  have one : ∀ x y, (x, y) ∈ rs.map pr → Conn rs ks x y := fun x y hm => by
    obtain ⟨r, hr, e⟩ := List.mem_map.mp hm
    obtain ⟨j, hj⟩ := List.mem_iff_getElem?.mp hr
    have jl : j < rs.length := (List.getElem?_eq_some_iff.mp hj).1
    have e1 : r.1 = x := congrArg Prod.fst e
    have e2 : r.2.1 = y := congrArg Prod.snd e
    exact all (j : Int) (by omega) (by omega) x y ⟨by omega, r, by rw [Int.toNat_natCast]; exact hj, .inl ⟨e1.symm, e2.symm⟩⟩
  induction h with
  | refl => exact .refl
  | step _ e ih =>
    rcases e with e | e
    · exact ih.trans (one _ _ e)
    · exact ih.trans (one _ _ e).symm
/-- the least tree: what is promised of it -/
structure TreeOk (n : Int) (rs : List Rd3) (ts : List Int) : Prop where
  nd : ts.Nodup
  rg : ∀ k ∈ ts, 0 ≤ k ∧ k < rs.length
  spans : ∀ a b : Int, 0 ≤ a → a < n → 0 ≤ b → b < n → Conn rs ts a b
  forest : ∀ k ∈ ts, ∀ x y, Edge rs k x y → ¬ Conn rs (ts.filter fun m => decide (m ≠ k)) x y
  least : ∀ k : Int, 0 ≤ k → k < rs.length → k ∉ ts → ∀ x y, Edge rs k x y → Conn rs (ts.filter fun m => decide (costAt rs m < costAt rs k)) x y
theorem tree_ok {n : Int} {rs : List Rd3} (w : WebOk n rs) : TreeOk n rs (treeL n rs) := by
  have K := krOk_all w
  have mem : ∀ k, k ∈ treeL n rs ↔ k ∈ (krus n rs (byCost rs)).1 := fun k => tree_perm.mem_iff
  have rg : ∀ k ∈ treeL n rs, 0 ≤ k ∧ k < rs.length := fun k hk => numbers_mem.mp (byCost_perm.mem_iff.mp (K.sub k ((mem k).mp hk)))
  have done : ∀ k : Int, 0 ≤ k → k < rs.length → k ∈ byCost rs := fun k k0 k1 => byCost_perm.mem_iff.mpr (numbers_mem.mpr ⟨k0, k1⟩)
  have thr : ∀ k : Int, 0 ≤ k → k < rs.length → ∀ x y, Edge rs k x y → Conn rs (treeL n rs) x y := fun k k0 k1 x y e =>
    (K.through k (done k k0 k1) x y e).mono fun m hm => (mem m).mpr (List.mem_filter.mp hm).1
  refine ⟨tree_perm.nodup_iff.mpr K.nd, rg, fun a b a0 a1 b0 b1 => ?_, fun k hk x y e q => ?_, fun k k0 k1 nk x y e => ?_⟩
  · exact (conn_way thr (w.conn a a0 a1)).symm.trans (conn_way thr (w.conn b b0 b1))
  · refine K.forest k ((mem k).mp hk) x y e (q.mono fun m hm => ?_)
    obtain ⟨h1, h2⟩ := List.mem_filter.mp hm
    exact List.mem_filter.mpr ⟨(mem m).mp h1, h2⟩
  · refine (K.through k (done k k0 k1) x y e).mono fun m hm => ?_
    obtain ⟨h1, h2⟩ := List.mem_filter.mp hm
    have hm' := (mem m).mpr h1
    refine List.mem_filter.mpr ⟨hm', decide_eq_true (cost_lt w.costs (rg m hm') ⟨k0, k1⟩ (fun z => nk (z ▸ hm')) (of_decide_eq_true h2))⟩
end LT
/-! Least trees by the roads themselves: one alone, and what a road more does to it. -/
namespace LT
/-- what the roads of S join -/
abbrev CV (S : List Rd3) (a b : Int) : Prop := Way (S.map pr) a b
theorem CV.mono {S T : List Rd3} {a b : Int} (h : CV S a b) (m : ∀ r ∈ S, r ∈ T) : CV T a b := Way.mono h fun p hp => by
  obtain ⟨r, hr, rfl⟩ := List.mem_map.mp hp
  exact List.mem_map.mpr ⟨r, m r hr, rfl⟩
theorem CV.one {S : List Rd3} {r : Rd3} (h : r ∈ S) : CV S r.1 r.2.1 := Way.step .refl (.inl (List.mem_map.mpr ⟨r, h, rfl⟩))
theorem CV.thru {S T : List Rd3} {a b : Int} (h : CV S a b) (m : ∀ r ∈ S, CV T r.1 r.2.1) : CV T a b := by
  have go : ∀ x y : Int, (x, y) ∈ S.map pr → CV T x y := fun x y hm => by
    obtain ⟨r, hr, e⟩ := List.mem_map.mp hm
    have e1 : r.1 = x := congrArg Prod.fst e
    have e2 : r.2.1 = y := congrArg Prod.snd e
    rw [← e1, ← e2]
    exact m r hr
  induction h with
  | refl => exact .refl
  | step _ e ih =>
    rcases e with e | e
    · exact ih.trans (go _ _ e)
    · exact ih.trans (go _ _ e).symm
/-- one road more -/
theorem CV.snoc {S T : List Rd3} {r : Rd3} (m : ∀ x ∈ T, x ∈ S ∨ x = r) {a b : Int} (h : CV T a b) :
    CV S a b ∨ (CV S a r.1 ∧ CV S r.2.1 b) ∨ (CV S a r.2.1 ∧ CV S r.1 b) := by
  induction h with
  | refl => exact .inl .refl
  | step _ e ih =>
    have st : ∀ {u v : Int}, ((u, v) ∈ T.map pr ∨ (v, u) ∈ T.map pr) → CV S u v ∨ (u = r.1 ∧ v = r.2.1) ∨ (u = r.2.1 ∧ v = r.1) := fun {u v} z => by
      rcases z with z | z
      · obtain ⟨x, hx, e⟩ := List.mem_map.mp z
        cases e
        rcases m x hx with q | rfl
        · exact .inl (.one q)
        · exact .inr (.inl ⟨rfl, rfl⟩)
      · obtain ⟨x, hx, e⟩ := List.mem_map.mp z
        cases e
        rcases m x hx with q | rfl
        · exact .inl (CV.one q).symm
        · exact .inr (.inr ⟨rfl, rfl⟩)
    rcases st e with g | ⟨rfl, rfl⟩ | ⟨rfl, rfl⟩
    · rcases ih with h | ⟨h, k⟩ | ⟨h, k⟩
      · exact .inl (Way.trans h g)
      · exact .inr (.inl ⟨h, Way.trans k g⟩)
      · exact .inr (.inr ⟨h, Way.trans k g⟩)
    · rcases ih with h | ⟨h, k⟩ | ⟨h, k⟩
      · exact .inr (.inl ⟨h, .refl⟩)
      · exact .inr (.inl ⟨h, .refl⟩)
      · exact .inl h
    · rcases ih with h | ⟨h, k⟩ | ⟨h, k⟩
      · exact .inr (.inr ⟨h, .refl⟩)
      · exact .inl h
      · exact .inr (.inr ⟨h, .refl⟩)
def wo (S : List Rd3) (r : Rd3) : List Rd3 := S.filter fun x => decide (x ≠ r)
def chp (S : List Rd3) (c : Int) : List Rd3 := S.filter fun x => decide (cst x < c)
theorem mem_wo {S : List Rd3} {r x : Rd3} : x ∈ wo S r ↔ x ∈ S ∧ x ≠ r := by
  unfold wo
  rw [List.mem_filter]
  simp
theorem mem_chp {S : List Rd3} {c : Int} {x : Rd3} : x ∈ chp S c ↔ x ∈ S ∧ cst x < c := by
  unfold chp
  rw [List.mem_filter]
  simp
def Forest (S : List Rd3) : Prop := ∀ r ∈ S, ¬ CV (wo S r) r.1 r.2.1
/-- T is the least forest of A's -/
structure LeastV (A T : List Rd3) : Prop where
  sub : ∀ r ∈ T, r ∈ A
  forest : Forest T
  least : ∀ r ∈ A, r ∉ T → CV (chp T (cst r)) r.1 r.2.1
theorem LeastV.incl {A B T U : List Rd3} (h : LeastV A T) (g : LeastV B U) (ab : ∀ r, r ∈ A ↔ r ∈ B) : ∀ r ∈ T, r ∈ U := fun r hr => by
  refine Decidable.byContradiction fun n => ?_
  have w := g.least r ((ab r).mp (h.sub r hr)) n
  have w2 : CV (wo T r) r.1 r.2.1 := w.thru fun x hx => by
    obtain ⟨x1, x2⟩ := mem_chp.mp hx
    by_cases c : x ∈ T
    · exact CV.one (mem_wo.mpr ⟨c, fun e => by rw [e] at x2; omega⟩)
    · refine (h.least x ((ab x).mpr (g.sub x x1)) c).mono fun y hy => ?_
      obtain ⟨y1, y2⟩ := mem_chp.mp hy
      exact mem_wo.mpr ⟨y1, fun e => by rw [e] at y2; omega⟩
  exact h.forest r hr w2
theorem LeastV.uniq {A B T U : List Rd3} (h : LeastV A T) (g : LeastV B U) (ab : ∀ r, r ∈ A ↔ r ∈ B) : ∀ r, r ∈ T ↔ r ∈ U :=
  fun r => ⟨h.incl g ab r, g.incl h (fun r => (ab r).symm) r⟩
theorem Forest.add {S T : List Rd3} {r : Rd3} (h : Forest S) (n : ¬ CV S r.1 r.2.1) (m : ∀ x ∈ T, x ∈ S ∨ x = r) : Forest T := fun x hx q => by
  by_cases e : x = r
  · rw [e] at q
    refine n (q.mono fun y hy => ?_)
    obtain ⟨y1, y2⟩ := mem_wo.mp hy
    exact (m y y1).resolve_right y2
  · have xs : x ∈ S := (m x hx).resolve_right e
    have q2 := q.snoc (S := wo S x) (r := r) fun y hy => by
      obtain ⟨y1, y2⟩ := mem_wo.mp hy
      rcases m y y1 with z | z
      · exact .inl (mem_wo.mpr ⟨z, y2⟩)
      · exact .inr z
    have up : ∀ {a b : Int}, CV (wo S x) a b → CV S a b := fun w => w.mono fun y hy => (mem_wo.mp hy).1
    rcases q2 with q2 | ⟨q1, q2⟩ | ⟨q1, q2⟩
    · exact h x xs q2
    · exact n ((up q1).symm.trans ((CV.one xs).trans (up q2).symm))
    · exact n ((up q2).trans ((CV.one xs).symm.trans (up q1)))
theorem Forest.sub {S T : List Rd3} (h : Forest S) (m : ∀ x ∈ T, x ∈ S) : Forest T := fun x hx q => h x (m x hx) (q.mono fun y hy => by
  obtain ⟨y1, y2⟩ := mem_wo.mp hy
  exact mem_wo.mpr ⟨m y y1, y2⟩)
/-- the new road is in the tree, instead of the dearest of the way -/
theorem LeastV.swap {A B T U : List Rd3} {r d : Rd3} (h : LeastV A T) (inj : ∀ x ∈ A, ∀ y ∈ A, cst x = cst y → x = y) (dT : d ∈ T) (cut : ¬ CV (wo T d) r.1 r.2.1)
    (way : CV (T.filter fun x => decide (cst x ≤ cst d)) r.1 r.2.1) (lt : cst r < cst d) (hB : ∀ x, x ∈ B ↔ x ∈ A ∨ x = r) (hU : ∀ x, x ∈ U ↔ (x ∈ T ∧ x ≠ d) ∨ x = r) : LeastV B U := by
  have rU : r ∈ U := (hU r).mpr (.inr rfl)
  have fd : CV (chp U (cst d)) d.1 d.2.1 := by
    have q := way.snoc (S := chp T (cst d)) (r := d) fun x hx => by
      obtain ⟨x1, x2⟩ := List.mem_filter.mp hx
      have x2 := of_decide_eq_true x2
      by_cases e : x = d
      · exact .inr e
      · refine .inl (mem_chp.mpr ⟨x1, ?_⟩)
        have : cst x ≠ cst d := fun z => e (inj x (h.sub x x1) d (h.sub d dT) z)
        omega
    have up : ∀ {a b : Int}, CV (chp T (cst d)) a b → CV (chp U (cst d)) a b := fun w => w.mono fun y hy => by
      obtain ⟨y1, y2⟩ := mem_chp.mp hy
      exact mem_chp.mpr ⟨(hU y).mpr (.inl ⟨y1, fun e => by rw [e] at y2; omega⟩), y2⟩
    have one : CV (chp U (cst d)) r.1 r.2.1 := CV.one (mem_chp.mpr ⟨rU, lt⟩)
    rcases q with q | ⟨q1, q2⟩ | ⟨q1, q2⟩
    · exact (cut (q.mono fun y hy => by
        obtain ⟨y1, y2⟩ := mem_chp.mp hy
        exact mem_wo.mpr ⟨y1, fun e => by rw [e] at y2; omega⟩)).elim
    · exact ((up q1).symm.trans (one.trans (up q2).symm))
    · exact ((up q2).trans (one.symm.trans (up q1)))
  refine ⟨fun x hx => ?_, ?_, fun x hx nx => ?_⟩
  · rcases (hU x).mp hx with ⟨z, _⟩ | z
    · exact (hB x).mpr (.inl (h.sub x z))
    · exact (hB x).mpr (.inr z)
  · refine (h.forest.sub (T := wo T d) fun x hx => (mem_wo.mp hx).1).add cut fun x hx => ?_
    rcases (hU x).mp hx with ⟨z1, z2⟩ | z
    · exact .inl (mem_wo.mpr ⟨z1, z2⟩)
    · exact .inr z
  · by_cases e : x = d
    · rw [e]
      exact fd
    · have xr : x ≠ r := fun z => nx (by rw [z]; exact rU)
      have xA : x ∈ A := ((hB x).mp hx).resolve_right xr
      have xT : x ∉ T := fun z => nx ((hU x).mpr (.inl ⟨z, e⟩))
      refine (h.least x xA xT).thru fun y hy => ?_
      obtain ⟨y1, y2⟩ := mem_chp.mp hy
      by_cases e2 : y = d
      · rw [e2] at y2 ⊢
        refine fd.mono fun z hz => ?_
        obtain ⟨z1, z2⟩ := mem_chp.mp hz
        exact mem_chp.mpr ⟨z1, by omega⟩
      · exact CV.one (mem_chp.mpr ⟨(hU y).mpr (.inl ⟨y1, e2⟩), y2⟩)
/-- the new road is not in the tree -/
theorem LeastV.stay {A B T : List Rd3} {r : Rd3} (h : LeastV A T) (way : CV (chp T (cst r)) r.1 r.2.1) (hB : ∀ x, x ∈ B ↔ x ∈ A ∨ x = r) : LeastV B T :=
  ⟨fun x hx => (hB x).mpr (.inl (h.sub x hx)), h.forest, fun x hx nx => ((hB x).mp hx).elim (fun z => h.least x z nx) fun z => by rw [z]; exact way⟩
/-- what is known of a tree's numbers -/
def vals (rs : List Rd3) (ks : List Int) : List Rd3 := ks.map (roadAt rs)
theorem mem_vals {rs : List Rd3} {ks : List Int} {r : Rd3} : r ∈ vals rs ks ↔ ∃ k ∈ ks, roadAt rs k = r := by
  unfold vals
  rw [List.mem_map]
theorem road_inj {rs : List Rd3} (hc : (rs.map cst).Nodup) {a b : Int} (ha : 0 ≤ a ∧ a < rs.length) (hb : 0 ≤ b ∧ b < rs.length) (e : cst (roadAt rs a) = cst (roadAt rs b)) : a = b := by
  refine Decidable.byContradiction fun n => ?_
  have h1 := cost_lt hc ha hb n (Int.le_of_eq e)
  have e : costAt rs a = costAt rs b := e
  omega
theorem road_mem {rs : List Rd3} {a : Int} (h : 0 ≤ a ∧ a < rs.length) : roadAt rs a ∈ rs := by
  unfold roadAt
  rw [List.getD_eq_getElem?_getD, List.getElem?_eq_getElem (show a.toNat < rs.length by omega)]
  exact List.getElem_mem _
theorem mem_road {rs : List Rd3} {r : Rd3} (h : r ∈ rs) : ∃ a : Int, (0 ≤ a ∧ a < rs.length) ∧ roadAt rs a = r := by
  obtain ⟨i, hi, e⟩ := List.mem_iff_getElem.mp h
  refine ⟨i, ⟨by omega, by omega⟩, ?_⟩
  unfold roadAt
  rw [List.getD_eq_getElem?_getD, Int.toNat_natCast, List.getElem?_eq_getElem hi, e]
  rfl
theorem edge_road {rs : List Rd3} {k a b : Int} (h : Edge rs k a b) : (a = (roadAt rs k).1 ∧ b = (roadAt rs k).2.1) ∨ (a = (roadAt rs k).2.1 ∧ b = (roadAt rs k).1) := by
  obtain ⟨_, r, hr, q⟩ := h
  have : roadAt rs k = r := by
    unfold roadAt
    rw [List.getD_eq_getElem?_getD, hr]
    rfl
  rw [this]
  exact q
theorem road_edge {rs : List Rd3} {k : Int} (h : 0 ≤ k ∧ k < rs.length) : Edge rs k (roadAt rs k).1 (roadAt rs k).2.1 := by
  refine ⟨h.1, roadAt rs k, ?_, .inl ⟨rfl, rfl⟩⟩
  unfold roadAt
  rw [List.getD_eq_getElem?_getD, List.getElem?_eq_getElem (show k.toNat < rs.length by omega)]
  rfl
theorem conn_cv {rs : List Rd3} {ks : List Int} {a b : Int} (h : Conn rs ks a b) : CV (vals rs ks) a b := by
  induction h with
  | refl => exact .refl
  | step _ hk e ih =>
    have o : CV (vals rs ks) _ _ := CV.one (mem_vals.mpr ⟨_, hk, rfl⟩)
    rcases edge_road e with ⟨rfl, rfl⟩ | ⟨rfl, rfl⟩
    · exact ih.trans o
    · exact ih.trans o.symm
theorem cv_conn {rs : List Rd3} {ks : List Int} (rg : ∀ k ∈ ks, 0 ≤ k ∧ k < rs.length) {a b : Int} (h : CV (vals rs ks) a b) : Conn rs ks a b := by
  have one : ∀ x y : Int, (x, y) ∈ (vals rs ks).map pr → Conn rs ks x y := fun x y hm => by
    obtain ⟨r, hr, e⟩ := List.mem_map.mp hm
    obtain ⟨k, hk, rfl⟩ := mem_vals.mp hr
    cases e
    exact .one hk (road_edge (rg k hk))
  induction h with
  | refl => exact .refl
  | step _ e ih =>
    rcases e with e | e
    · exact ih.trans (one _ _ e)
    · exact ih.trans (one _ _ e).symm
/-- numbers left out, and roads left out -/
theorem vals_wo {rs : List Rd3} (hc : (rs.map cst).Nodup) {ks : List Int} (rg : ∀ k ∈ ks, 0 ≤ k ∧ k < rs.length) {k : Int} (hk : 0 ≤ k ∧ k < rs.length) {r : Rd3} : r ∈ vals rs (ks.filter fun m => decide (m ≠ k)) ↔ r ∈ wo (vals rs ks) (roadAt rs k) := by
  rw [mem_wo, mem_vals, mem_vals]
  constructor
  · rintro ⟨m, hm, rfl⟩
    obtain ⟨m1, m2⟩ := List.mem_filter.mp hm
    have m2 := of_decide_eq_true m2
    exact ⟨⟨m, m1, rfl⟩, fun e => m2 (road_inj hc (rg m m1) hk (by rw [e]))⟩
  · rintro ⟨⟨m, m1, rfl⟩, ne⟩
    exact ⟨m, List.mem_filter.mpr ⟨m1, decide_eq_true fun e => ne (by rw [e])⟩, rfl⟩
/-- Kruskal's tree, of roads that need not join all -/
structure RoadsOk (n : Int) (rs : List Rd3) : Prop where
  rng : ∀ r ∈ rs, 0 ≤ r.1 ∧ r.1 < r.2.1 ∧ r.2.1 < n
  costs : (rs.map cst).Nodup
theorem WebOk.roads {n : Int} {rs : List Rd3} (w : WebOk n rs) : RoadsOk n rs := ⟨fun r hr => ⟨(w.rng r hr).1, (w.rng r hr).2.1, (w.rng r hr).2.2.1⟩, w.costs⟩
theorem krOk_roads {n : Int} {rs : List Rd3} (w : RoadsOk n rs) : KrOk n rs (byCost rs) (krus n rs (byCost rs)) :=
  krOk_fold (n := n) (rs := rs) w.rng (ks := byCost rs) krOk_nil (fun k hk => numbers_mem.mp (byCost_perm.mem_iff.mp hk)) (byCost_sorted.and (byCost_perm.nodup_iff.mpr numbers_nodup))
theorem tree_nd {n : Int} {rs : List Rd3} (w : RoadsOk n rs) : (treeL n rs).Nodup := tree_perm.nodup_iff.mpr (krOk_roads w).nd
theorem tree_rg {n : Int} {rs : List Rd3} (w : RoadsOk n rs) : ∀ k ∈ treeL n rs, 0 ≤ k ∧ k < rs.length := fun k hk => numbers_mem.mp (byCost_perm.mem_iff.mp ((krOk_roads w).sub k (tree_perm.mem_iff.mp hk)))
theorem tree_least {n : Int} {rs : List Rd3} (w : RoadsOk n rs) : LeastV rs (vals rs (treeL n rs)) := by
  have K := krOk_roads w
  have mem : ∀ k, k ∈ treeL n rs ↔ k ∈ (krus n rs (byCost rs)).1 := fun k => tree_perm.mem_iff
  have rg := tree_rg w
  refine ⟨fun r hr => ?_, fun r hr q => ?_, fun r hr nr => ?_⟩
  · obtain ⟨k, hk, rfl⟩ := mem_vals.mp hr
    exact road_mem (rg k hk)
  · obtain ⟨k, hk, rfl⟩ := mem_vals.mp hr
    refine K.forest k ((mem k).mp hk) _ _ (road_edge (rg k hk)) ?_
    refine (cv_conn (ks := (treeL n rs).filter fun m => decide (m ≠ k)) (fun m hm => rg m (List.mem_filter.mp hm).1) (q.mono fun x hx => (vals_wo w.costs rg (rg k hk)).mpr hx)).mono fun m hm => ?_
    obtain ⟨m1, m2⟩ := List.mem_filter.mp hm
    exact List.mem_filter.mpr ⟨(mem m).mp m1, m2⟩
  · obtain ⟨k, hk, rfl⟩ := mem_road hr
    have nk : k ∉ treeL n rs := fun z => nr (mem_vals.mpr ⟨k, z, rfl⟩)
    refine (conn_cv (K.through k (byCost_perm.mem_iff.mpr (numbers_mem.mpr hk)) _ _ (road_edge hk))).mono fun x hx => ?_
    obtain ⟨m, hm, rfl⟩ := mem_vals.mp hx
    obtain ⟨m1, m2⟩ := List.mem_filter.mp hm
    have m1 := (mem m).mpr m1
    exact mem_chp.mpr ⟨mem_vals.mpr ⟨m, m1, rfl⟩, cost_lt w.costs (rg m m1) hk (fun z => nk (z ▸ m1)) (of_decide_eq_true m2)⟩
/-- numbers that are a least tree's, rising, are the tree's -/
theorem tree_eq {n : Int} {rs : List Rd3} (w : RoadsOk n rs) {ks : List Int} (nd : ks.Nodup) (rg : ∀ k ∈ ks, 0 ≤ k ∧ k < rs.length) (s : ks.Pairwise fun a b => a ≤ b) (h : LeastV rs (vals rs ks)) : treeL n rs = ks := by
  have u := h.uniq (tree_least w) fun _ => Iff.rfl
  have mm : ∀ k, k ∈ treeL n rs ↔ k ∈ ks := fun k => by
    constructor
    · intro hk
      obtain ⟨m, hm, e⟩ := mem_vals.mp ((u _).mpr (mem_vals.mpr ⟨k, hk, rfl⟩))
      rw [road_inj w.costs (tree_rg w k hk) (rg m hm) (by rw [e])]
      exact hm
    · intro hk
      obtain ⟨m, hm, e⟩ := mem_vals.mp ((u _).mp (mem_vals.mpr ⟨k, hk, rfl⟩))
      rw [road_inj w.costs (rg k hk) (tree_rg w m hm) (by rw [e])]
      exact hm
  have p : (treeL n rs).Perm ks := (List.perm_ext_iff_of_nodup (tree_nd w) nd).mpr mm
  exact p.eq_of_pairwise (fun a b _ _ h1 h2 => by omega) tree_rising s
/-- the numbers are all in the tree, or one is joined by the others -/
theorem tree_all {n : Int} {rs : List Rd3} (w : RoadsOk n rs) (l : (treeL n rs).length = rs.length) : Forest rs := by
  have rg := tree_rg w
  have sub : ∀ k ∈ numbers rs.length, k ∈ treeL n rs := fun k hk => by
    refine Decidable.byContradiction fun nk => ?_
    have h1 : (k :: treeL n rs).Nodup := List.nodup_cons.mpr ⟨nk, tree_nd w⟩
    have h2 := nodup_bound rs.length (k :: treeL n rs) h1 fun x hx => by
      rcases List.mem_cons.mp hx with rfl | hx
      · have := numbers_mem.mp hk
        omega
      · have := rg x hx
        omega
    simp at h2
    omega
  refine (tree_least w).forest.sub fun r hr => ?_
  obtain ⟨k, hk, rfl⟩ := mem_road hr
  exact mem_vals.mpr ⟨k, sub k (numbers_mem.mpr hk), rfl⟩
theorem tree_notall {n : Int} {rs : List Rd3} (w : RoadsOk n rs) (l : (treeL n rs).length ≠ rs.length) : ¬ Forest rs := fun f => by
  have rg := tree_rg w
  refine l ?_
  have mm : ∀ k, k ∈ treeL n rs ↔ k ∈ numbers rs.length := fun k => by
    constructor
    · intro hk
      exact numbers_mem.mpr (rg k hk)
    · intro hk
      have hk := numbers_mem.mp hk
      refine Decidable.byContradiction fun nk => ?_
      have nr : roadAt rs k ∉ vals rs (treeL n rs) := fun z => by
        obtain ⟨m, hm, e⟩ := mem_vals.mp z
        exact nk (by rw [road_inj w.costs hk (rg m hm) (by rw [e])]; exact hm)
      refine f _ (road_mem hk) (((tree_least w).least _ (road_mem hk) nr).mono fun x hx => ?_)
      obtain ⟨x1, x2⟩ := mem_chp.mp hx
      exact mem_wo.mpr ⟨(tree_least w).sub x x1, fun e => by rw [e] at x2; omega⟩
  have p : (treeL n rs).Perm (numbers rs.length) := (List.perm_ext_iff_of_nodup (tree_nd w) numbers_nodup).mpr mm
  rw [p.length_eq, numbers_len]
theorem Forest.close {S T : List Rd3} {r : Rd3} (h : Forest S) (n : ¬ Forest T) (m : ∀ x ∈ T, x ∈ S ∨ x = r) : CV S r.1 r.2.1 := by
  refine Classical.byContradiction fun q => n (h.add q m)
/-- a way's roads are those that part its ends -/
theorem pth_ends {rs : List Rd3} {ks : List Int} {a b : Int} {ns vs : List Int} (h : Pth rs ks a ns vs b) : b ∈ vs ∧ ∀ k ∈ ns, (roadAt rs k).1 ∈ vs ∧ (roadAt rs k).2.1 ∈ vs := by
  induction h with
  | nil => exact ⟨by simp, fun k hk => by cases hk⟩
  | @snoc ns vs b c k h hk e hc ih =>
    refine ⟨by simp, fun m hm => ?_⟩
    rcases List.mem_append.mp hm with hm | hm
    · have := ih.2 m hm
      exact ⟨List.mem_append_left _ this.1, List.mem_append_left _ this.2⟩
    · rw [List.mem_singleton.mp hm]
      rcases edge_road e with ⟨e1, e2⟩ | ⟨e1, e2⟩
      · rw [← e1, ← e2]
        exact ⟨List.mem_append_left _ ih.1, by simp⟩
      · rw [← e1, ← e2]
        exact ⟨by simp, List.mem_append_left _ ih.1⟩
theorem pth_sub {rs : List Rd3} {ks : List Int} {a b : Int} {ns vs : List Int} (h : Pth rs ks a ns vs b) : (∀ k ∈ ns, k ∈ ks) ∧ ns.Nodup ∧ CV (vals rs ns) a b := by
  induction h with
  | nil => exact ⟨fun k hk => (by cases hk), List.nodup_nil, .refl⟩
  | @snoc ns vs b c k h hk e hc ih =>
    have nk : k ∉ ns := fun z => by
      have q := (pth_ends h).2 k z
      rcases edge_road e with ⟨e1, e2⟩ | ⟨e1, e2⟩
      · exact hc (by rw [e2]; exact q.2)
      · exact hc (by rw [e2]; exact q.1)
    refine ⟨fun m hm => ?_, ?_, ?_⟩
    · rcases List.mem_append.mp hm with hm | hm
      · exact ih.1 m hm
      · rw [List.mem_singleton.mp hm]
        exact hk
    · rw [List.nodup_append]
      exact ⟨ih.2.1, by simp, fun x hx y hy z => nk (by rw [← List.mem_singleton.mp hy, ← z]; exact hx)⟩
    · have u : CV (vals rs (ns ++ [k])) a b := ih.2.2.mono fun r hr => by
        unfold vals at hr ⊢
        rw [List.map_append]
        exact List.mem_append_left _ hr
      have o : CV (vals rs (ns ++ [k])) (roadAt rs k).1 (roadAt rs k).2.1 := CV.one (mem_vals.mpr ⟨k, by simp, rfl⟩)
      rcases edge_road e with ⟨rfl, rfl⟩ | ⟨rfl, rfl⟩
      · exact Way.trans u o
      · exact Way.trans u (Way.symm o)
theorem pth_cut {rs : List Rd3} {ks : List Int} (hc : (rs.map cst).Nodup) (rg : ∀ k ∈ ks, 0 ≤ k ∧ k < rs.length) {a b : Int} {ns vs : List Int} (h : Pth rs ks a ns vs b) : ∀ k ∈ ns,
    (CV (wo (vals rs ks) (roadAt rs k)) a (roadAt rs k).1 ∧ CV (wo (vals rs ks) (roadAt rs k)) (roadAt rs k).2.1 b) ∨ (CV (wo (vals rs ks) (roadAt rs k)) a (roadAt rs k).2.1 ∧ CV (wo (vals rs ks) (roadAt rs k)) (roadAt rs k).1 b) := by
  induction h with
  | nil => exact fun k hk => (by cases hk)
  | @snoc ns vs b c k h hk e hcv ih =>
    have nk : k ∉ ns := fun z => by
      have q := (pth_ends h).2 k z
      rcases edge_road e with ⟨e1, e2⟩ | ⟨e1, e2⟩
      · exact hcv (by rw [e2]; exact q.2)
      · exact hcv (by rw [e2]; exact q.1)
    obtain ⟨s1, s2, s3⟩ := pth_sub h
    intro m hm
    rcases List.mem_append.mp hm with hm | hm
    · have ne : roadAt rs k ≠ roadAt rs m := fun z => nk (by rw [road_inj hc (rg k hk) (rg m (s1 m hm)) (by rw [z])]; exact hm)
      have o : CV (wo (vals rs ks) (roadAt rs m)) (roadAt rs k).1 (roadAt rs k).2.1 := CV.one (mem_wo.mpr ⟨mem_vals.mpr ⟨k, hk, rfl⟩, ne⟩)
      have bc : CV (wo (vals rs ks) (roadAt rs m)) b c := by
        rcases edge_road e with ⟨rfl, rfl⟩ | ⟨rfl, rfl⟩
        · exact o
        · exact o.symm
      rcases ih m hm with ⟨q1, q2⟩ | ⟨q1, q2⟩
      · exact .inl ⟨q1, Way.trans q2 bc⟩
      · exact .inr ⟨q1, Way.trans q2 bc⟩
    · rw [List.mem_singleton.mp hm]
      have w : CV (wo (vals rs ks) (roadAt rs k)) a b := s3.mono fun r hr => by
        obtain ⟨m, hm, rfl⟩ := mem_vals.mp hr
        exact mem_wo.mpr ⟨mem_vals.mpr ⟨m, s1 m hm, rfl⟩, fun z => nk (by rw [← road_inj hc (rg m (s1 m hm)) (rg k hk) (by rw [z])]; exact hm)⟩
      rcases edge_road e with ⟨rfl, rfl⟩ | ⟨rfl, rfl⟩
      · exact .inl ⟨w, .refl⟩
      · exact .inr ⟨w, .refl⟩
/-- the roads of the way are those without which its ends are apart -/
theorem pth_iff {rs : List Rd3} {ks : List Int} (hc : (rs.map cst).Nodup) (rg : ∀ k ∈ ks, 0 ≤ k ∧ k < rs.length) (f : Forest (vals rs ks)) {a b : Int} {ns vs : List Int} (h : Pth rs ks a ns vs b) {k : Int} (hk : k ∈ ks) :
    k ∈ ns ↔ ¬ CV (wo (vals rs ks) (roadAt rs k)) a b := by
  obtain ⟨s1, s2, s3⟩ := pth_sub h
  constructor
  · intro hn q
    refine f _ (mem_vals.mpr ⟨k, hk, rfl⟩) ?_
    rcases pth_cut hc rg h k hn with ⟨q1, q2⟩ | ⟨q1, q2⟩
    · exact q1.symm.trans (Way.trans q q2.symm)
    · exact q2.trans (Way.trans q.symm q1)
  · intro q
    refine Decidable.byContradiction fun nk => q (s3.mono fun r hr => ?_)
    obtain ⟨m, hm, rfl⟩ := mem_vals.mp hr
    exact mem_wo.mpr ⟨mem_vals.mpr ⟨m, s1 m hm, rfl⟩, fun z => nk (by rw [← road_inj hc (rg m (s1 m hm)) (rg k hk) (by rw [z])]; exact hm)⟩
theorem cv_nil {a b : Int} (h : CV [] a b) : b = a := by
  cases h with
  | refl => rfl
  | step _ e => exact absurd e (by simp)
theorem side_xor {V : List Rd3} {r : Rd3} {a b : Int} (sa : CV V r.1 a) (sb : CV V r.1 b) :
    ((CV (wo V r) r.1 a ∧ ¬ CV (wo V r) r.1 b) ∨ (CV (wo V r) r.1 b ∧ ¬ CV (wo V r) r.1 a)) ↔ ¬ CV (wo V r) a b := by
  have two : ∀ {x : Int}, CV V r.1 x → CV (wo V r) r.1 x ∨ CV (wo V r) r.2.1 x := fun {x} h => by
    rcases h.snoc (S := wo V r) (r := r) (fun y hy => by
      by_cases e : y = r
      · exact .inr e
      · exact .inl (mem_wo.mpr ⟨hy, e⟩)) with q | ⟨_, q⟩ | ⟨_, q⟩
    · exact .inl q
    · exact .inr q
    · exact .inl q
  constructor
  · rintro (⟨h1, h2⟩ | ⟨h1, h2⟩) q
    · exact h2 (Way.trans h1 q)
    · exact h2 (Way.trans h1 (Way.symm q))
  · intro q
    by_cases ca : CV (wo V r) r.1 a
    · exact .inl ⟨ca, fun z => q (Way.trans (Way.symm ca) z)⟩
    · by_cases cb : CV (wo V r) r.1 b
      · exact .inr ⟨cb, ca⟩
      · exact (q (Way.trans (Way.symm ((two sa).resolve_left ca)) ((two sb).resolve_left cb))).elim
theorem pth_pre {rs : List Rd3} {ks : List Int} {a b : Int} {ns vs : List Int} (h : Pth rs ks a ns vs b) {c : Int} (hc : c ∈ vs) : ∃ ns vs, Pth rs ks a ns vs c := by
  induction h with
  | nil =>
    rw [List.mem_singleton.mp hc]
    exact ⟨_, _, .nil⟩
  | snoc h hk e n ih =>
    rcases List.mem_append.mp hc with hc | hc
    · exact ih hc
    · rw [List.mem_singleton.mp hc]
      exact ⟨_, _, h.snoc hk e n⟩
theorem conn_pth {rs : List Rd3} {ks : List Int} {a b : Int} (h : Conn rs ks a b) : ∃ ns vs, Pth rs ks a ns vs b := by
  induction h with
  | refl => exact ⟨_, _, .nil⟩
  | @step b c k _ hk e ih =>
    obtain ⟨ns, vs, p⟩ := ih
    by_cases m : c ∈ vs
    · exact pth_pre p m
    · exact ⟨_, _, p.snoc hk e m⟩
theorem road_app {rs : List Rd3} {r : Rd3} {k : Int} (h : 0 ≤ k ∧ k < rs.length) : roadAt (rs ++ [r]) k = roadAt rs k := by
  unfold roadAt
  rw [List.getD_eq_getElem?_getD, List.getD_eq_getElem?_getD, List.getElem?_append_left (by omega)]
theorem road_end {rs : List Rd3} {r : Rd3} : roadAt (rs ++ [r]) (rs.length : Nat) = r := by
  unfold roadAt
  rw [List.getD_eq_getElem?_getD, Int.toNat_natCast]
  simp
theorem vals_app {rs : List Rd3} {r : Rd3} {ks : List Int} (h : ∀ k ∈ ks, 0 ≤ k ∧ k < rs.length) : vals (rs ++ [r]) ks = vals rs ks := by
  unfold vals
  exact List.map_congr_left fun k hk => road_app (h k hk)
theorem mem_app_one {α : Type} {l : List α} {r x : α} : x ∈ l ++ [r] ↔ x ∈ l ∨ x = r := by simp
/-- what the law reckons of a road more -/
structure TurnOk (n : Int) (rows : List Rd3) (r : Rd3) (W : List Int) (d : Int) : Prop where
  w : WebOk n rows
  w2 : WebOk n (rows ++ [r])
  mem : ∀ k, k ∈ W ↔ k ∈ treeL n rows ∧ ¬ CV (wo (vals rows (treeL n rows)) (roadAt rows k)) r.1 r.2.1
  dW : d ∈ W
  top : ∀ k ∈ W, costAt rows k ≤ costAt rows d
theorem turn_way {n : Int} {rows : List Rd3} {r : Rd3} (w : WebOk n rows) (w2 : WebOk n (rows ++ [r])) {W : List Int}
    (mem : ∀ k, k ∈ W ↔ k ∈ treeL n rows ∧ ¬ CV (wo (vals rows (treeL n rows)) (roadAt rows k)) r.1 r.2.1) : CV (vals rows W) r.1 r.2.1 ∧ W ≠ [] := by
  have ok := LT.tree_ok w
  have rr := w2.rng r (by simp)
  obtain ⟨ns, vs, p⟩ := conn_pth (ok.spans r.1 r.2.1 (by omega) (by omega) (by omega) (by omega))
  obtain ⟨s1, s2, s3⟩ := pth_sub p
  have f := (tree_least w.roads).forest
  have q : CV (vals rows W) r.1 r.2.1 := s3.mono fun x hx => by
    obtain ⟨k, hk, rfl⟩ := mem_vals.mp hx
    exact mem_vals.mpr ⟨k, (mem k).mpr ⟨s1 k hk, (pth_iff w.costs ok.rg f p (s1 k hk)).mp hk⟩, rfl⟩
  refine ⟨q, fun e => ?_⟩
  rw [e] at q
  have := cv_nil (a := r.1) (b := r.2.1) q
  omega
theorem TurnOk.swap {n : Int} {rows : List Rd3} {r : Rd3} {W : List Int} {d : Int} (h : TurnOk n rows r W d) (lt : cst r < costAt rows d) {ks : List Int} (nd : ks.Nodup) (s : ks.Pairwise fun a b => a ≤ b)
    (hm : ∀ k, k ∈ ks ↔ (k ∈ treeL n rows ∧ k ≠ d) ∨ k = (rows.length : Nat)) : treeL n (rows ++ [r]) = ks := by
  have ok := LT.tree_ok h.w
  have L := tree_least h.w.roads
  have dT := ((h.mem d).mp h.dW).1
  have rg : ∀ k ∈ ks, 0 ≤ k ∧ k < (rows ++ [r]).length := fun k hk => by
    rw [List.length_append, List.length_singleton]
    rcases (hm k).mp hk with ⟨z, _⟩ | z
    · have := ok.rg k z
      omega
    · omega
  refine tree_eq h.w2.roads nd rg s ?_
  refine L.swap (r := r) (d := roadAt rows d) (fun x hx y hy e => ?_) (mem_vals.mpr ⟨d, dT, rfl⟩) ((h.mem d).mp h.dW).2 ?_ lt (fun x => mem_app_one) fun x => ?_
  · obtain ⟨a, ha, rfl⟩ := mem_road hx
    obtain ⟨b, hb, rfl⟩ := mem_road hy
    rw [road_inj h.w.costs ha hb e]
  · refine (turn_way h.w h.w2 h.mem).1.mono fun x hx => ?_
    obtain ⟨k, hk, rfl⟩ := mem_vals.mp hx
    exact List.mem_filter.mpr ⟨mem_vals.mpr ⟨k, ((h.mem k).mp hk).1, rfl⟩, decide_eq_true (h.top k hk)⟩
  · rw [mem_vals, mem_vals]
    constructor
    · rintro ⟨k, hk, rfl⟩
      rcases (hm k).mp hk with ⟨z1, z2⟩ | z
      · rw [road_app (ok.rg k z1)]
        exact .inl ⟨⟨k, z1, rfl⟩, fun e => z2 (road_inj h.w.costs (ok.rg k z1) (ok.rg d dT) (by rw [e]))⟩
      · rw [z]
        exact .inr road_end
    · rintro (⟨⟨k, z1, rfl⟩, z2⟩ | rfl)
      · exact ⟨k, (hm k).mpr (.inl ⟨z1, fun e => z2 (by rw [e])⟩), road_app (ok.rg k z1)⟩
      · exact ⟨_, (hm _).mpr (.inr rfl), road_end⟩
theorem TurnOk.stay {n : Int} {rows : List Rd3} {r : Rd3} {W : List Int} {d : Int} (h : TurnOk n rows r W d) (le : costAt rows d ≤ cst r) : treeL n (rows ++ [r]) = treeL n rows ∧
    ∀ ns vs, Pth (rows ++ [r]) (treeL n rows) r.1 ns vs r.2.1 → ns.Nodup ∧ ∀ k, k ∈ ns ↔ k ∈ W := by
  have ok := LT.tree_ok h.w
  have L := tree_least h.w.roads
  have dT := ((h.mem d).mp h.dW).1
  have up : ∀ k ∈ treeL n rows, 0 ≤ k ∧ k < (rows ++ [r]).length := fun k hk => by
    rw [List.length_append]
    have := ok.rg k hk
    omega
  have nr : ∀ k ∈ treeL n rows, costAt rows k ≠ cst r := fun k hk e => by
    have e2 : cst (roadAt (rows ++ [r]) k) = cst (roadAt (rows ++ [r]) (rows.length : Nat)) := by
      rw [road_app (ok.rg k hk), road_end]
      exact e
    have := road_inj h.w2.costs (up k hk) ⟨by omega, by rw [List.length_append, List.length_singleton]; omega⟩ e2
    have := ok.rg k hk
    omega
  have V := L.stay (B := rows ++ [r]) (r := r) (((turn_way h.w h.w2 h.mem).1).mono fun x hx => by
    obtain ⟨k, hk, rfl⟩ := mem_vals.mp hx
    have kT := ((h.mem k).mp hk).1
    have h1 := h.top k hk
    have h2 := nr k kT
    exact mem_chp.mpr ⟨mem_vals.mpr ⟨k, kT, rfl⟩, by show costAt rows k < cst r; omega⟩) fun x => mem_app_one
  refine ⟨tree_eq h.w2.roads ok.nd up tree_rising (by rw [vals_app ok.rg]; exact V), fun ns vs p => ?_⟩
  obtain ⟨s1, s2, s3⟩ := pth_sub p
  have e := vals_app (r := r) ok.rg
  refine ⟨s2, fun k => ?_⟩
  constructor
  · intro hk
    have q := (pth_iff h.w2.costs up (by rw [e]; exact L.forest) p (s1 k hk)).mp hk
    rw [e, road_app (ok.rg k (s1 k hk))] at q
    exact (h.mem k).mpr ⟨s1 k hk, q⟩
  · intro hk
    obtain ⟨kT, q⟩ := (h.mem k).mp hk
    refine (pth_iff h.w2.costs up (by rw [e]; exact L.forest) p kT).mpr ?_
    rw [e, road_app (ok.rg k kT)]
    exact q
/-- roads drawn from a web's, in any order -/
theorem sub_roads {n : Int} {R : List Rd3} (w : WebOk n R) {ks : List Int} (nd : ks.Nodup) (rg : ∀ k ∈ ks, 0 ≤ k ∧ k < R.length) : RoadsOk n (vals R ks) := by
  refine ⟨fun r hr => ?_, ?_⟩
  · obtain ⟨k, hk, rfl⟩ := mem_vals.mp hr
    exact w.roads.rng _ (road_mem (rg k hk))
  · unfold vals
    rw [List.map_map]
    exact List.pairwise_map.mpr (nd.imp_of_mem fun {a b} ha hb n e => n (road_inj w.costs (rg a ha) (rg b hb) e))
theorem road_pinj {rs : List Rd3} (hc : (rs.map pr).Nodup) {a b : Int} (ha : 0 ≤ a ∧ a < rs.length) (hb : 0 ≤ b ∧ b < rs.length) (e : pr (roadAt rs a) = pr (roadAt rs b)) : a = b := by
  have la : a.toNat < (rs.map pr).length := by rw [List.length_map]; omega
  have lb : b.toNat < (rs.map pr).length := by rw [List.length_map]; omega
  have at_ : ∀ {c : Int} (h : c.toNat < (rs.map pr).length), pr (roadAt rs c) = (rs.map pr)[c.toNat] := fun {c} h => by
    unfold roadAt
    rw [List.length_map] at h
    rw [List.getD_eq_getElem?_getD, List.getElem?_eq_getElem h, List.getElem_map]
    rfl
  rw [at_ la, at_ lb] at e
  have pw := List.pairwise_iff_getElem.mp hc
  rcases Nat.lt_trichotomy a.toNat b.toNat with z | z | z
  · exact (pw _ _ la lb z e).elim
  · omega
  · exact (pw _ _ lb la z e.symm).elim
theorem sub_web {n : Int} {R : List Rd3} (w : WebOk n R) {ks ss : List Int} (nd : ks.Nodup) (rg : ∀ k ∈ ks, 0 ≤ k ∧ k < R.length) (sub : ∀ k ∈ ss, k ∈ ks) (cn : ∀ k : Int, 0 ≤ k → k < R.length → CV (vals R ss) (roadAt R k).1 (roadAt R k).2.1) : WebOk n (vals R ks) := by
  have len : ks.length ≤ R.length := nodup_bound R.length ks nd fun k hk => by
    have := rg k hk
    omega
  refine ⟨w.lo, w.hi, ?_, fun r hr => ?_, ?_, (sub_roads w nd rg).costs, fun h h0 h1 => ?_⟩
  · have := w.len
    unfold vals
    rw [List.length_map]
    omega
  · obtain ⟨k, hk, rfl⟩ := mem_vals.mp hr
    exact w.rng _ (road_mem (rg k hk))
  · unfold vals
    rw [List.map_map]
    exact List.pairwise_map.mpr (nd.imp_of_mem fun {a b} ha hb n e => n (road_pinj w.pairs (rg a ha) (rg b hb) e))
  · refine (CV.thru (S := R) (T := vals R ss) (w.conn h h0 h1) fun r hr => ?_).mono fun x hx => ?_
    · obtain ⟨k, hk, rfl⟩ := mem_road hr
      exact cn k hk.1 hk.2
    · obtain ⟨k, hk, rfl⟩ := mem_vals.mp hx
      exact mem_vals.mpr ⟨k, sub k hk, rfl⟩
/-- the tree of roads that are a forest is all of them -/
theorem tree_forest {n : Int} {rs : List Rd3} (w : RoadsOk n rs) (f : Forest rs) : treeL n rs = numbers rs.length := by
  have p : (numbers rs.length).Pairwise fun a b => a ≤ b := by
    unfold numbers
    refine List.pairwise_map.mpr ?_
    exact (List.pairwise_lt_range).imp fun {a b} h => by omega
  refine tree_eq w numbers_nodup (fun k hk => numbers_mem.mp hk) p ⟨fun r hr => ?_, f.sub fun r hr => ?_, fun r hr nr => ?_⟩
  · obtain ⟨k, hk, rfl⟩ := mem_vals.mp hr
    exact road_mem (numbers_mem.mp hk)
  · obtain ⟨k, hk, rfl⟩ := mem_vals.mp hr
    exact road_mem (numbers_mem.mp hk)
  · obtain ⟨k, hk, rfl⟩ := mem_road hr
    exact (nr (mem_vals.mpr ⟨k, numbers_mem.mpr hk, rfl⟩)).elim
theorem perm_sum {l k : List Int} (p : l.Perm k) : l.sum = k.sum := by
  induction p with
  | nil => rfl
  | cons x _ ih => rw [List.sum_cons, List.sum_cons, ih]
  | swap x y l =>
    rw [List.sum_cons, List.sum_cons, List.sum_cons, List.sum_cons]
    omega
  | trans _ _ ih1 ih2 => rw [ih1, ih2]
/-- webs of the same roads: trees of the same costs -/
theorem same_cost {n : Int} {rs ss : List Rd3} (w : RoadsOk n rs) (u : RoadsOk n ss) (mm : ∀ r, r ∈ rs ↔ r ∈ ss) : ((treeL n rs).map fun k => costAt rs k).sum = ((treeL n ss).map fun k => costAt ss k).sum := by
  have q := (tree_least w).uniq (tree_least u) mm
  have nd : ∀ {rs : List Rd3}, RoadsOk n rs → (vals rs (treeL n rs)).Nodup := fun {rs} w => by
    unfold vals
    exact List.pairwise_map.mpr ((tree_nd w).imp_of_mem fun {a b} ha hb n e => n (road_inj w.costs (tree_rg w a ha) (tree_rg w b hb) (by rw [e])))
  have p : (vals rs (treeL n rs)).Perm (vals ss (treeL n ss)) := (List.perm_ext_iff_of_nodup (nd w) (nd u)).mpr q
  have e := perm_sum (p.map cst)
  unfold vals at e
  rw [List.map_map, List.map_map] at e
  exact e
end LT
/-! The end of a law whose program makes lambdas: their tables stand empty at first, the script is locked. -/
namespace LT
open PySem PySem.Spec PyProof.Rows L2
/-- a law's promise: a script that may be read, the tables T -/
def spRun (R : Hp → Addr → List Int → Prop) (T : List (Addr × Str)) : Sp := fun vs H Q _ => ∃ (a : Addr) (ns : List Int), vs = [.ref a] ∧ R H a ns ∧ ns.length ≤ 63 ∧ (∀ t ∈ T, LamX.TabS H t.1 t.2) ∧ ∀ H', Q (.bl true) H'
theorem lock_ok {P : Program} {w : World} {K : PySem.W.Frag} {mg : Str → Option Value} {base : Heap} {k : Nat} {f : Addr} {fd : FuncData} {x : Str} {T : List (Addr × Str)} (F : FnOk P w K mg base CX0 k f fd [x] (spRun (Scr K) T)) :
    FnOk P w K mg base CX0 k f fd [x] (spRun (fun H a ns => SqL K H a (ns.map V.int)) T) := by
  refine ⟨fun vs H Q E h => ?_, fun A outer s H args us vs Q E hr e0 hb rv h => ?_⟩
  · obtain ⟨_, _, rfl, _⟩ := h
    rfl
  obtain ⟨a, ns, rfl, hS, hl, ht, q⟩ := h
  rcases hS with (hL | ⟨o, hF⟩) | hK
  · have fr : ∀ o u, Fr [a] H (upd H a (.frz o u)) := fun o u => Fr.lst hL (List.mem_singleton.mpr rfl)
    obtain ⟨len, its, n, vals, ho⟩ := e0.hok a _ hL
    have ne : ∀ {b : Addr}, H b = none → b ≠ a := fun {b} e z => by
      rw [z, hL] at e
      cases e
    have nk : ∀ {b : Addr} {u : HO}, H b = some u → u ≠ .lst (ns.map V.int) → b ≠ a := fun {b u} e d z => by
      rw [z, hL] at e
      cases e
      exact d rfl
    have e1 : Env0 P w K mg base A outer s (upd H a (.frz (seqObj "list" its.toArray n) (.lst (ns.map V.int)))) := by
      refine ⟨e0.frames, e0.mod, fun b o e => ⟨(e0.bs b o e).1, ?_⟩, e0.bsz, e0.funs, fun b hb => ?_, fun b u e => ?_, e0.bare⟩
      · have z := (e0.bs b o e).2
        exact (upd_ne (ne z)).trans z
      · have z := e0.frf b hb
        exact (upd_ne (ne z)).trans z
      · by_cases z : b = a
        · rw [z, upd_same] at e
          cases e
          rw [z]
          exact ⟨ho, len, its, n, vals, ho⟩
        · rw [upd_ne z] at e
          exact (e0.hok b u e).stay (fun _ _ _ y => y) (fun d y => (upd_ne (nk y (by intro z; cases z))).trans y) fun d xs y => (upd_ne (nk y (by intro z; cases z))).trans y
    have tabs : ∀ t ∈ T, LamX.TabS (upd H a (.frz (seqObj "list" its.toArray n) (.lst (ns.map V.int)))) t.1 t.2 := fun t m => by
      obtain ⟨ps, z, _⟩ := id (ht t m)
      exact tab_fr (ht t m) (fr _ _) (by simp; exact nk z (by intro y; cases y))
    refine codeAny_mono (F.run A outer s _ args us _ Q E hr e1 hb rv ⟨a, ns, rfl, .inl ⟨_, upd_same⟩, hl, tabs, q⟩) fun r s' h => ?_
    match r, h with
    | .ok (.ret u), h =>
      obtain ⟨v, H', os, bare, un, hok, rel, qq⟩ := h
      refine ⟨v, H', os, bare, ⟨fun b o e n => un.keep b o e ((upd_ne (ne n)).trans n), fun b o e n => un.slot b o e ((upd_ne (ne n)).trans n), fun b o e n => un.free b o e ((upd_ne (ne n)).trans n), un.there, fun b xs e => un.tups b xs ((upd_ne (nk e (by intro z; cases z))).trans e),
        fun b o u e => un.frzs b o u ((upd_ne (nk e (by intro z; cases z))).trans e), fun b ps e => un.tbls b ps ((upd_ne (nk e (by intro z; cases z))).trans e)⟩, hok, rel, qq⟩
  · exact F.run A outer s H args us _ Q E hr e0 hb rv ⟨a, ns, rfl, .inl ⟨o, hF⟩, hl, ht, q⟩
  · exact F.run A outer s H args us _ Q E hr e0 hb rv ⟨a, ns, rfl, .inr hK, hl, ht, q⟩
theorem walk_tab {l : PySem.W.OpenLaw} {k : Nat} {q : Program} {loose : List Str} {XP : (Str → Option Value) → Heap → Prop} {YP : World → Heap → Prop} {d : DefRec} {K : Params → PySem.W.Frag} {x : Str} (hn : l.most = some 63) (hdf : d.params.defaults = []) (room : Room k callerA)
    (hY : ∀ (w : World) (h : Heap), YP w h → (K w.params).In h)
    (F : ∀ (w : World) (mg : Str → Option Value) (fa : Addr) (h : Heap), (K w.params).In h → h.Ns mainGlobals mg → mg d.name = some (.ref fa) →
      ∃ (fd : FuncData) (cs : List (Addr × Addr)) (T : List (Addr × Str)), (∀ p ∈ cs, (K w.params).lookup p.2 = none ∧ ∃ (t : Str) (r : DefRec), (recsOf q).find? (fun e => e.name == t) = some r ∧ PySem.W.tabIn (K w.params) t = some p) ∧ (∀ t ∈ T, ∃ p ∈ cs, t.1 = p.2) ∧
        (∀ (s : Shared) (u : Value), BindsTo s fd ⟨[u], []⟩ [(x, u)]) ∧
        ∀ base : Heap, (K w.params).In base → base.Ns mainGlobals mg → (∀ p ∈ cs, LamX.TabB base mg p.1 p.2) → FnOk l.prog w (K w.params) mg base CX0 k fa fd [x] (spRun (Scr (K w.params)) T)) :
    PySem.W.WalkO q loose XP YP l.row.toRowW d [] (fun f vs => PySem.call f vs) := by
  refine Att.attach_callB hn hdf fun w s₀ s₁ mg mb fa o pm cd doc a vs ns G Y ho hd hcd hmg hobj hints hlen hbits hg => ?_
  have X := hY w _ Y
  obtain ⟨fd, cs, T, tabs, sub, bnd, run⟩ := F w mg fa _ X G.T.g hmg
  have both : ∀ p ∈ cs, PySem.W.CodeHd s₁.heap p.1 p.2 ∧ s₁.heap.get? p.2 = some (PySem.W.tabObj #[]) := fun p hp => by
    obtain ⟨_, t, r, hr, ht⟩ := tabs p hp
    exact PySem.W.tab_of G.T X hr ht
  refine LamX.law_callTs X G.T.g G.T.b G.T.builtins G.T.nolimit hg (fun p hp => (both p hp).2) (fun p hp => (tabs p hp).1) (fun p hp => (both p hp).1) G.T.bmain hobj hints (Nat.le_trans hlen (by decide)) room (fun base b1 b2 b3 => lock_ok (run base b1 b2 b3)) bnd (fun H hT hS => ?_) fun _ _ _ z => z
  refine ⟨a, ns, rfl, hS, hlen, fun t ht => ?_, fun _ => rfl⟩
  obtain ⟨p, hp, e⟩ := sub t ht
  rw [e]
  exact LamX.TabS.nil (hT p hp)
end LT
/-! A lambda, with a default or without, handed to a def that calls it under a try. -/
namespace LT
open PySem PySem.Spec PyProof.Rows L2 LamX NdefX
abbrev lamFn (F : NF) (body : Expr) (dV doc pm ctv : Value) : FuncData := PySem.W.kdv_fn F.name F.qual F.params (.expr body) F.scope F.cl dV doc pm (.ref F.c) ctv
abbrev lamObj (F : NF) (body : Expr) (dV doc pm ctv : Value) : Obj := PySem.W.kdv_obj F.name F.qual F.params (.expr body) F.scope F.cl dV doc pm F.c ctv
section
variable {CX : CXT} {P : Program} {w : World} {K : PySem.W.Frag} {mg : Str → Option Value} {base : Heap} {N ps fr : List Str} {F : NF} {f : Addr} {A : Around} {outer : List Env} {s : Shared} {H : Hp} {E : XK}
theorem lam_runD {k : Nat} {body : Expr} {dV doc pm ctv : Value} {args us : List Value} {vs : List V} {ws : List (Option V)} {Q : VK} {tb : TE} (S : NScope N ps fr F.scope) (hr : Room (k + 1) A) (e0 : Env0 P w K mg base A outer s H)
    (ho : s.heap.get? f = some (lamObj F body dV doc pm ctv)) (hc : H F.c = some (CodeO F.c F.qual)) (C : CellsAt F.cl fr ws s.heap H) (hl : vs.length = ps.length) (r : Vals vs us)
    (hb : BindsTo s (lamFn F body dV doc pm ctv) ⟨args, []⟩ (ps.zip us))
    (hbody : Room k (A.deeper (envF F f s.heap.objs.size)) → PE (ncx CX P w K mg base N F f A outer s H E) body tb) (ht : tb (startF N vs ws) H Q) :
    codeAny (model P w) A (.call (.ref f) ⟨args, []⟩) (CR CX outer P w H s Q E) s := by
  have lim : s.heap.NoLimit := e0.mod.nolimit.keeps fun b o e => (e0.bs b o e).1
  refine PySem.W.kla_callFunE hr.depth ho rfl S.co S.gen rfl (codeO_at e0.hok hc) ?_
  refine hb _ _ _ _ ?_
  refine wpAny_newFunctionEnv S.nocell (fun ⟨n, _⟩ hy => S.par n (List.of_mem_zip hy).1) (fun h₁ hns hsb => ⟨lim.fresh _ hsb, ?_⟩) S.kind
  show codeAny _ _ (.expr body (envF F f s.heap.objs.size)) _ _
  have kp : ∀ b o, s.heap.get? b = some o → h₁.get? b = some o := fun b o e => hsb.extBut b o (Nat.ne_of_lt (Heap.lt_size e)) (Heap.get?_push_of_some _ e)
  have I : L2.Inv (ncx CX P w K mg base N F f A outer s H E) [] (startF N vs ws) H { s with heap := h₁, toks := s.toks + (ps.zip us).length } := inv_startN S hr.hd e0 hl r C hns kp
  refine PySem.W.kla_codeExpr (wpAny_mono ((hbody (hr.deeper _)).run [] _ (startF N vs ws) H Q I ht) (fun u s' hs => ?_) fun e s' hs => hs)
  obtain ⟨v, H', J, rv, q⟩ := hs
  exact ⟨v, H', J.os, J.bare, J.base, J.hok, rv, q⟩
end
section
variable {X : Cx}
/-- what the making of a lambda gives -/
def MakesL (X : Cx) (P : Addr) (q : Str) (params : Arguments) (body : Expr) (scope : Scope) (lpos : Pos) (ps : List Str) (vs : List V) : Prop :=
  ∀ {pins : List (Addr × Obj)} {σ : L2.St} {H : Hp} {s : Shared} {R : Value → Shared → Prop}, L2.Inv X pins σ H s → TabS H P q →
    (∀ (f c' : Addr) (dV doc pm ctv : Value) (G : Hp) (s' : Shared), L2.Inv X pins σ G s' → Fr [P] H G → TabS G P q →
      s'.heap.get? f = some (lamObj ⟨"<lambda>", q, params, [], scope, cloFrom X.env.cells scope.names [], c'⟩ body dV doc pm ctv) → G f = none → f ∉ frs X.stack → G c' = some (CodeO c' q) →
      (∃ us, Vals vs us ∧ ∀ s1 : Shared, (∀ b o, s'.heap.get? b = some o → G b = none → b ∉ frs X.stack → s1.heap.get? b = some o) → BindsTo s1 (lamFn ⟨"<lambda>", q, params, [], scope, cloFrom X.env.cells scope.names [], c'⟩ body dV doc pm ctv) ⟨[], []⟩ (ps.zip us)) → R (.ref f) s') →
    wpAny (model X.prog X.w) X.A (eval (.Lambda params body scope lpos) X.env) R X.xe s
theorem makesL_0 {c P : Addr} {q : Str} {params : Arguments} {body : Expr} {scope : Scope} {lpos : Pos} (TB : TabB X.base X.mg c P) (hcode : X.env.code = .ref c) (hq : X.env.qual ++ "<lambda>" = q) (hdef : defaultsOf params X.env = ([], []))
    {fr : List Str} (hnd : ndefB X.env.scope scope fr = true)
    (hb : ∀ (q : Str) (cl : List (Str × Addr)) (pm cv ctv : Value), bindArgs (PySem.W.kla_fn "<lambda>" q params body scope cl pm cv ctv) ⟨[], []⟩ = pure []) : MakesL X P q params body scope lpos [] [] := by
  intro pins σ H s R I hT next
  have hfree : ∀ y ∈ scope.names, y.2 = .free → ∃ c, X.env.cells.lookup y.1 = some c := fun y hy e => (ndef_free hnd y hy e).elim (fun z => I.ok.has _ (.inl z)) fun z => I.ok.has _ (.inr z)
  refine lam_make3 I TB hcode hq hT hdef hfree fun f c' pm ctv G s' I' fr T' hf hn hs hc => ?_
  exact next f c' .none .none pm ctv G s' I' fr T' hf hn hs hc ⟨[], .nil, fun s1 _ => .of_eq (hb _ _ _ _ _)⟩
theorem makesL_1 {c P : Addr} {q x : Str} {params : Arguments} {body e : Expr} {scope : Scope} {lpos : Pos} {v : V} (TB : TabB X.base X.mg c P) (hcode : X.env.code = .ref c) (hq : X.env.qual ++ "<lambda>" = q) (hd : params.defaults = [e]) (hk : params.kw_defaults = [])
    (he : PE X e (tC v)) {fr : List Str} (hnd : ndefB X.env.scope scope fr = true)
    (hb : ∀ (q : Str) (cl : List (Str × Addr)) (dV doc pm cv ctv : Value), ∃ k, bindArgs (PySem.W.kdv_fn "<lambda>" q params (.expr body) scope cl dV doc pm cv ctv) ⟨[], []⟩ = seqItems? dV >>= k ∧ ∀ u, k (some [u].toArray) = pure [(x, u)]) : MakesL X P q params body scope lpos [x] [v] := by
  subst hq
  intro pins σ H s R I hT next
  have hfree : ∀ y ∈ scope.names, y.2 = .free → ∃ c, X.env.cells.lookup y.1 = some c := fun y hy e => (ndef_free hnd y hy e).elim (fun z => I.ok.has _ (.inl z)) fun z => I.ok.has _ (.inr z)
  refine PySem.W.kdv_lam (by rw [hd]; rfl) hk ?_
  rw [hd]
  refine PySem.W.kdv_all1 ?_
  refine wpAny_mono (he.run pins s σ H (fun w H1 => w = v ∧ H1 = H) I ⟨rfl, rfl⟩) (fun u s1 hu => ?_) fun _ _ z => z
  obtain ⟨w, H1, I1, rw1, ew, eH⟩ := hu
  subst ew
  subst eH
  refine PySem.W.kdv_all0 ?_
  rw [PySem.makeFunction_eq]
  simp only [List.zip_nil_right, List.filterMap_nil, List.isEmpty_nil, if_true, pure_bind, List.isEmpty_cons, Bool.false_eq_true, if_false]
  refine wpAny_bind (wpAny_newTextTuple ?_)
  generalize hT0 : s1.heap.objs.size = T0
  have I2 : L2.Inv X pins σ H1 { s1 with heap := s1.heap.push (PySem.W.kdv_tup [u]) } := I1.kept (t' := s1.toks) fun b o e => Heap.get?_push_of_some _ e
  have at0 : (s1.heap.push (PySem.W.kdv_tup [u])).get? T0 = some (PySem.W.kdv_tup [u]) := by
    rw [← hT0]
    exact Heap.get?_push_size _ rfl
  have n0 : H1 T0 = none := I1.hok.fresh (Nat.le_of_eq hT0)
  have far0 : ∀ f, s1.heap.objs.size ≤ f → f ∉ frs X.stack := fun f hf z => (List.mem_cons.mp (I1.stkSub _ z)).elim (fun e => absurd (e ▸ I1.lt) (Nat.not_lt.mpr hf)) (fun e => I1.nofs hf e)
  have f0 : T0 ∉ frs X.stack := far0 _ (Nat.le_of_eq hT0)
  generalize hs2 : ({ s1 with heap := s1.heap.push (PySem.W.kdv_tup [u]) } : Shared) = s2 at I2
  have eh : s1.heap.push (PySem.W.kdv_tup [u]) = s2.heap := by rw [← hs2]
  have at2 : s2.heap.get? T0 = some (PySem.W.kdv_tup [u]) := by rw [← eh]; exact at0
  have lt0 : T0 < s2.heap.objs.size := Heap.lt_size at2
  have binds : ∀ (c' : Addr) (dV doc pm ctv : Value) (G : Hp) (s' : Shared), dV = .ref T0 → s'.heap.get? T0 = some (PySem.W.kdv_tup [u]) → G T0 = none →
      ∃ us, Vals [w] us ∧ ∀ s3 : Shared, (∀ b o, s'.heap.get? b = some o → G b = none → b ∉ frs X.stack → s3.heap.get? b = some o) → BindsTo s3 (lamFn ⟨"<lambda>", X.env.qual ++ "<lambda>", params, [], scope, cloFrom X.env.cells scope.names [], c'⟩ body dV doc pm ctv) ⟨[], []⟩ ([x].zip us) := fun c' dV doc pm ctv G s' ed h1 h2 => by
    subst ed
    refine ⟨[u], .cons rw1 .nil, fun s3 k3 => ?_⟩
    obtain ⟨k, e1, e2⟩ := hb (X.env.qual ++ "<lambda>") (cloFrom X.env.cells scope.names []) (.ref T0) doc pm (.ref c') ctv
    exact BindsTo.of_defaults rfl (k3 _ _ h1 h2 f0) rfl e1 (e2 u)
  show wpAny _ _ _ _ _ s2
  obtain ⟨qs, eP, tri, al⟩ := hT
  have blt : s2.heap.BuiltinsAt X.mg P := TB.bm.keeps I2.bk
  have oP : s2.heap.get? P = some (PySem.W.tabObj qs) := I2.hok P _ eP
  have far : ∀ f, s2.heap.objs.size ≤ f → f ∉ frs X.stack := fun f hf z => (List.mem_cons.mp (I2.stkSub _ z)).elim (fun e => absurd (e ▸ I2.lt) (Nat.not_lt.mpr hf)) (fun e => I2.nofs hf e)
  have P0 : T0 ≠ P := fun z => by
    rw [z, eP] at n0
    cases n0
  rcases hc : codeAmong lpos qs.toList with _ | cv
  · refine PySem.W.kdv_makeTail (mg := X.mg) (closure_ok hfree) I2.ok.glob (I2.mod.glob.keeps I2.bk) hcode (TB.code.keeps I2.bk) oP tri hc TB.gP blt ?_
    intro c' ctv doc h' tk ext old new rec_ tab_
    obtain ⟨_, oc, us, tq, ec, r1, r2, r3⟩ := rec_
    cases ec
    have up : s2.heap.objs.size ≤ h'.objs.size := Nat.le_trans old (Nat.le_of_lt new)
    have nC : H1 c' = none := I2.hok.fresh old
    let fo := PySem.W.kdv_obj "<lambda>" (X.env.qual ++ "<lambda>") params (.expr body) scope (cloFrom X.env.cells scope.names []) (.ref T0) doc ((X.mg "__name__").getD .none) c' ctv
    have J := inv_table (t' := tk) (more := #[rawInt lpos.line, rawInt lpos.col, .ref c']) (h' := h'.push fo) I2 eP (fun b o ne e => Heap.get?_push_of_some _ (ext b o ne e)) (Heap.get?_push_of_some _ tab_) old ⟨oc, us, tq, Heap.get?_push_of_some _ r1, r2, r3⟩
    have fr1 : Fr [P] H1 (upd H1 P (.tbl (qs ++ #[rawInt lpos.line, rawInt lpos.col, .ref c']))) := by
      refine ⟨fun b o n e => (upd_ne (fun z => n (List.mem_singleton.mpr z))).trans e, fun b xs e => (upd_ne (ne_of e eP (by intro z; cases z))).trans e, fun b o u e => (upd_ne (ne_of e eP (by intro z; cases z))).trans e, fun b u e => (upd_ne (ne_of e eP (by intro z; cases z))).trans e⟩
    have fr2 := fr1.put (o := CodeO c' (X.env.qual ++ "<lambda>")) nC
    have nF : ∀ {b : Addr} {o : Obj}, s2.heap.get? b = some o → h'.objs.size ≠ b := fun e => Nat.ne_of_gt (Nat.lt_of_lt_of_le (Heap.lt_size e) up)
    refine next h'.objs.size c' (.ref T0) doc _ ctv _ _ J fr2 ⟨_, (upd_ne (ne_of_none eP nC)).trans upd_same, ?_, fun pos cv hcv => ?_⟩ (Heap.get?_push_size _ rfl) ?_ (far _ up) upd_same (binds _ _ _ _ _ _ _ rfl ?_ ?_)
    · rw [Array.toList_append]
      exact PySem.TriplesOk_snoc _ _ _ _ tri
    · rw [Array.toList_append] at hcv
      rcases among_app _ tri hcv with z | z
      · obtain ⟨b, e1, e2⟩ := al pos cv z
        exact ⟨b, e1, fr2.ext _ _ e2⟩
      · exact ⟨c', z, upd_same⟩
    · exact (upd_ne (Nat.ne_of_gt new)).trans ((upd_ne (nF oP)).trans (I2.hok.fresh up))
    · exact Heap.get?_push_of_some _ (ext _ _ P0 at2)
    · exact (upd_ne (Nat.ne_of_lt (Nat.lt_of_lt_of_le lt0 old))).trans ((upd_ne P0).trans n0)
  · obtain ⟨c', ec, ho⟩ := al lpos cv hc
    subst ec
    refine PySem.W.kdv_makeTailHit (mg := X.mg) (closure_ok hfree) I2.ok.glob (I2.mod.glob.keeps I2.bk) hcode (TB.code.keeps I2.bk) oP tri hc blt ?_
    intro ctv doc h' tk ext up
    exact next h'.objs.size c' (.ref T0) doc _ ctv H1 _ (I2.kept (t' := tk) fun b o e => Heap.get?_push_of_some _ (ext b o e)) (Fr.refl _ _) ⟨qs, eP, tri, al⟩ (Heap.get?_push_size _ rfl) (I2.hok.fresh up) (far _ up) ho (binds _ _ _ _ _ _ _ rfl (Heap.get?_push_of_some _ (ext _ _ at2)) n0)
end
section
variable {X : Cx} {pins : List (Addr × Obj)} {σ : L2.St} {H HZ : Hp} {s s1 : Shared}
theorem cells_un {cl : List (Str × Addr)} {fr : List Str} {ws : List (Option V)} {fs : List Addr} {h h1 : Heap} (C : CellsAt cl fr ws h H) (un : Un fs [] H HZ h h1) : CellsAt cl fr ws h1 HZ := by
  have cellK : ∀ {c : Addr} {v : Option Value}, H c = none → h.IsCell c v → h1.IsCell c v := fun {c v} n ⟨o, ho, hd⟩ => by
    obtain ⟨sl, q⟩ := un.any ho n (by simp)
    exact ⟨_, q, hd⟩
  refine ⟨C.len, fun y c e => ?_, C.inj, fun i y e => ?_⟩
  · obtain ⟨n, v, o, ho, hd⟩ := C.all y c e
    exact ⟨un.free c o ho n (by simp), v, cellK n ⟨o, ho, hd⟩⟩
  · obtain ⟨c, e1, e2⟩ := C.has i y e
    refine ⟨c, e1, fun v hv => ?_⟩
    obtain ⟨u, r, z⟩ := e2 v hv
    exact ⟨u, r, cellK (C.all y c e1).1 z⟩
/-- x(), in the def that got the lambda -/
theorem pe_actD {Ng N ps fr : List Str} {js : List Nat} {qg : Str} {sg : Scope} {g f : Addr} {F : NF} {cdg dV doc pm ctv : Value} {body : Expr} {k i : Nat} {a : Str} {pn : List (Addr × Obj)} {xe : Value → Shared → Prop} {W : WX} {vs : List V} {us : List Value} {tb : XK → TE} {p1 p2 : Pos}
    (I : L2.Inv X pins σ H s) (hf : s.heap.get? f = some (lamObj F body dV doc pm ctv)) (hfn : H f = none) (hfr : f ∉ frs X.stack) (cp : Caps X F.cl fr js) (S : NScope N ps fr F.scope) (hl : vs.length = ps.length) (r : Vals vs us)
    (hb : ∀ s1 : Shared, (∀ b o, s.heap.get? b = some o → H b = none → b ∉ frs X.stack → s1.heap.get? b = some o) → BindsTo s1 (lamFn F body dV doc pm ctv) ⟨[], []⟩ (ps.zip us))
    (tk : L2N.Takes ((cxOf CX0 X.prog X.w X.K X.mg X.base Ng qg sg g cdg X.A X.stack s H E0).tr pn xe) W) (hr : Room (k + 1) (X.A.deeper (envOfC qg sg s.heap.objs.size g cdg)))
    (hbody : ∀ (A : Around) (outer : List Env) (s : Shared) (H : Hp) (E : XK), Room k (A.deeper (envF F f s.heap.objs.size)) → PE (ncx (L2N.CX X.prog X.w) X.prog X.w X.K X.mg X.base N F f A outer s H E) body (tb E))
    (hN : Ng[i]? = some a) (hv : Vis sg a) (hd : (a == ("__debug__" : Str)) = false := by decide) (hcd : (a == ("__classdict__" : Str)) = false := by decide) :
    PE ((cxOf CX0 X.prog X.w X.K X.mg X.base Ng qg sg g cdg X.A X.stack s H E0).tr pn xe) (.Call (.Name a p1) [] [] p2)
      (fun σZ HZ Q => ∃ E : XK, (∀ cls d H', E cls d H' → W cls d σZ H') ∧ σZ[i]? = some (some (.ref f)) ∧ HZ F.c = some (CodeO F.c F.qual) ∧ tb E (startF N vs (js.map (slotAt σ))) HZ Q) := by
  refine ⟨fun pinsZ sZ σZ HZ Q IZ h => ?_⟩
  obtain ⟨E, hW, hs, hc, ht⟩ := h
  refine wpAny_Call_Name_kw (thn ((pe_var (pos := p1) (i := i) hN hv hd hcd).run pinsZ sZ σZ HZ (fun v H1 => v = .ref f ∧ H1 = HZ) IZ ⟨.ref f, hs, rfl, rfl⟩) fun u s1 ⟨v, H1, I1, r1, q1⟩ => ?_)
  obtain ⟨ev, eH⟩ := q1
  subst ev
  rw [eH] at I1
  obtain rfl : u = Value.ref f := r1
  have of1 : s1.heap.get? f = some (lamObj F body dV doc pm ctv) := I1.base.keep f _ hf hfn hfr (fun z => nomatch (show f ∈ ([] : List Addr) from z))
  refine PySem.W.callWith_F0 ⟨_, _, _, _, of1⟩ ?_
  have un : Un (frs X.stack) [] H HZ s.heap s1.heap := I1.base
  have C := cells_un (cells_of I cp) un
  have rc : codeAny (model X.prog X.w) (X.A.deeper (envOfC qg sg s.heap.objs.size g cdg)) (.call (.ref f) ⟨[], []⟩) (CR (L2N.CX X.prog X.w) (envOfC qg sg s.heap.objs.size g cdg :: X.stack) X.prog X.w HZ s1 Q E) s1 :=
    lam_runD (F := F) (CX := L2N.CX X.prog X.w) S hr I1.env0 of1 hc C hl r (hb s1 fun b o e1 e2 e3 => I1.base.keep b o e1 e2 e3 (fun z => nomatch (show b ∈ ([] : List Addr) from z))) (fun room => hbody _ _ _ _ E room) ht
  refine wpAny_call (codeAny_mono rc fun r s' hq => ?_)
  cases r with
  | error e => exact tk e s' (L2N.XE.of_call I1 (fun cls d H' h => hW cls d H' h) hq)
  | ok fl =>
    cases fl with
    | ret u => exact I1.after hq
    | next => exact False.elim hq
    | brk => exact False.elim hq
    | cont => exact False.elim hq
/-- the def that calls what it got -/
def GivesG (P : Program) (w : World) (K : PySem.W.Frag) (mg : Str → Option Value) (base : Heap) (A : Around) (stk : List Env) (Ng : List Str) (x : Str) (sg : Scope) (g : Addr) (cdg : Value) (bg : List Stmt) (a : Str) (q : Str) (k : Nat) (TT : (XK → Hp → VK → Prop) → Hp → VK → Prop) : Prop :=
  ∀ (f c' : Addr) (s : Shared) (H : Hp) (Q : VK) (tl : XK → Hp → VK → Prop), Room (k + 1) (A.deeper (envOfC x sg s.heap.objs.size g cdg)) →
    (∀ (W : WX) (pn : List (Addr × Obj)) (xe : Value → Shared → Prop) (p1 p2 : Pos), L2N.Takes ((cxOf CX0 P w K mg base Ng x sg g cdg A stk s H E0).tr pn xe) W →
      PE ((cxOf CX0 P w K mg base Ng x sg g cdg A stk s H E0).tr pn xe) (.Call (.Name a p1) [] [] p2) (fun σZ HZ Q => ∃ E : XK, (∀ cls d H', E cls d H' → W cls d σZ H') ∧ σZ[0]? = some (some (.ref f)) ∧ HZ c' = some (CodeO c' q) ∧ tl E HZ Q)) →
    H c' = some (CodeO c' q) → TT tl H Q →
    ∃ t, PSs (cxOf CX0 P w K mg base Ng x sg g cdg A stk s H E0) bg t ∧ t { nx := fun _ H' => Q .non H', rt := Q } (L2.start Ng [.ref f]) H
abbrev GivesN (X : Cx) (Ng : List Str) (x : Str) (sg : Scope) (g : Addr) (cdg : Value) (bg : List Stmt) (a : Str) (q : Str) (k : Nat) (TT : (XK → Hp → VK → Prop) → Hp → VK → Prop) : Prop :=
  GivesG X.prog X.w X.K X.mg X.base X.A X.stack Ng x sg g cdg bg a q k TT
def tLamR (P : Addr) (q : Str) (N : List Str) (vs : List V) (js : List Nat) (TT : (XK → Hp → VK → Prop) → Hp → VK → Prop) (t : XK → TE) : TE := fun σ H Q => TabS H P q ∧ ∀ H1, Fr [P] H H1 → TabS H1 P q → TT (fun E H' Q' => t E (startF N vs (js.map (slotAt σ))) H' Q') H1 Q
/-- x(lambda: body) -/
theorem pe_lamR {TT : (XK → Hp → VK → Prop) → Hp → VK → Prop} {x a q : Str} {g P : Addr} {k : Nat} {pg : Arguments} {bg : List Stmt} {sg : Scope} {dV kV doc pm cdv ct oc : Value} {an od : Option Addr} {osl : Array (Option Value)} {Ng N ps fr : List Str} {js : List Nat} {vs : List V}
    {params : Arguments} {body : Expr} {scope : Scope} {t : XK → TE} {p lpos pos : Pos} (hg : Gl X x) (hm : X.mg x = some (.ref g)) (hk : PySem.W.keepIn X.K (.ref g) = true)
    (lk : X.K.lookup g = some ⟨oc, od, .func (PySem.W.fnOf x x pg bg sg dV kV doc pm an cdv ct), osl⟩) (hcg : PySem.W.codeIn X.K cdv x = true) (hb : L2.Binds X.K (PySem.W.fnOf x x pg bg sg dV kV doc pm an cdv ct) [a] []) (Sg : FnScope Ng [a] sg) (hNg : Ng[0]? = some a) (hva : Vis sg a)
    (hG : GivesN X Ng x sg g cdv bg a q k TT) (hM : MakesL X P q params body scope lpos ps vs) (hl : vs.length = ps.length) (hfree : ndefB X.env.scope scope fr = true) (hjs : js.map (fun j => X.N[j]?) = fr.map some) (S : NScope N ps fr scope) (hr : Room (k + 2) X.A)
    (hbody : ∀ (A : Around) (outer : List Env) (s : Shared) (H : Hp) (E : XK) (nm qu : Str) (ar : Arguments) (cl : List (Str × Addr)) (c' f : Addr), Room k (A.deeper (envF ⟨nm, qu, ar, [], scope, cl, c'⟩ f s.heap.objs.size)) →
      PE (ncx (L2N.CX X.prog X.w) X.prog X.w X.K X.mg X.base N ⟨nm, qu, ar, [], scope, cl, c'⟩ f A outer s H E) body (t E))
    (hdb : (x == ("__debug__" : Str)) = false := by decide) (hd : (a == ("__debug__" : Str)) = false := by decide) (hcd : (a == ("__classdict__" : Str)) = false := by decide) :
    PE X (.Call (.Name x p) [.Lambda params body scope lpos] [] pos) (tLamR P q N vs js TT t) := by
  refine ⟨fun pins s σ H Q I h => ?_⟩
  obtain ⟨hT, h⟩ := h
  have hfr := ndef_free hfree
  refine wpAny_Call_Name_kw (ld_glob I hg hm ?_ hdb)
  refine PySem.W.callWith_K (h₀ := X.base) I.ok.mod.kin hk ?_ (by rfl) (by rfl)
  show wpAny _ _ (spliced ((false, eval (.Lambda params body scope lpos) X.env) :: backTo pos (starEach [] X.env))) _ _ s
  refine Calls.spliced_cons (hM I hT fun f c' dV' doc' pm' ctv H1 s' I1 eN T1 hf hfn hfs hco bd => ?_)
  obtain ⟨us, rus, hbd⟩ := bd
  refine Calls.spliced_nil ⟨I1.kIn, ?_⟩
  have cp : Caps X (cloFrom X.env.cells scope.names []) fr js := Caps.made I.ok hfr (ndef_fr hfree) hjs
  have rc : codeAny (model X.prog X.w) X.A (.call (.ref g) ⟨[.ref f], []⟩) (CR CX0 X.stack X.prog X.w H1 s' Q E0) s' := by
    refine run_ofS (N := Ng) (ps := [a]) (us := [.ref f]) (vs := [.ref f]) lk hcg Sg hr I1.env0 (hb s' [.ref f] I1.kIn rfl) (.cons rfl .nil) rfl fun hr' => ?_
    exact hG f c' s' H1 Q (fun E H' Q' => t E (startF N vs (js.map (slotAt σ))) H' Q') hr' (fun W pn xe p1 p2 tk => pe_actD (i := 0) (F := ⟨"<lambda>", q, params, [], scope, cloFrom X.env.cells scope.names [], c'⟩) (tb := t) I1 hf hfn hfs cp S hl rus hbd tk hr' (fun A outer s H E hr2 => hbody A outer s H E _ _ _ _ c' f hr2) hNg hva hd hcd) hco (h H1 eN T1)
  refine wpAny_call (codeAny_mono rc fun r s2 hq => ?_)
  cases r with
  | error e => exact (show False from hq).elim
  | ok fl =>
    cases fl with
    | ret u => exact I1.after hq
    | next => exact False.elim hq
    | brk => exact False.elim hq
    | cont => exact False.elim hq
end
section
variable {X : Cx}
theorem pe_lamR' {TT : (XK → Hp → VK → Prop) → Hp → VK → Prop} {x a q : Str} {g P : Addr} {k : Nat} {st : Stmt} {fd : FuncData} {Ng N ps fr : List Str} {js : List Nat} {vs : List V}
    {params : Arguments} {body : Expr} {scope : Scope} {t : XK → TE} {p lpos pos : Pos} (hg : Gl X x) (hm : X.mg x = some (.ref g)) (F : Fun X.K x x st g fd) (hb : L2.Binds X.K fd [a] []) (Sg : FnScope Ng [a] (defScope st)) (hNg : Ng[0]? = some a) (hva : Vis (defScope st) a)
    (hG : ∀ cdv, GivesN X Ng x (defScope st) g cdv (defBody st) a q k TT) (hM : MakesL X P q params body scope lpos ps vs) (hl : vs.length = ps.length) (hfree : ndefB X.env.scope scope fr = true) (hjs : js.map (fun j => X.N[j]?) = fr.map some) (S : NScope N ps fr scope) (hr : Room (k + 2) X.A)
    (hbody : ∀ (A : Around) (outer : List Env) (s : Shared) (H : Hp) (E : XK) (nm qu : Str) (ar : Arguments) (cl : List (Str × Addr)) (c' f : Addr), Room k (A.deeper (envF ⟨nm, qu, ar, [], scope, cl, c'⟩ f s.heap.objs.size)) →
      PE (ncx (L2N.CX X.prog X.w) X.prog X.w X.K X.mg X.base N ⟨nm, qu, ar, [], scope, cl, c'⟩ f A outer s H E) body (t E))
    (hdb : (x == ("__debug__" : Str)) = false := by decide) (hd : (a == ("__debug__" : Str)) = false := by decide) (hcd : (a == ("__classdict__" : Str)) = false := by decide) :
    PE X (.Call (.Name x p) [.Lambda params body scope lpos] [] pos) (tLamR P q N vs js TT t) := by
  have kp := F.kp
  obtain ⟨oc, od, kV, doc, pm, an, cdv, ct, osl, rfl, lk, code⟩ := F.ex
  exact pe_lamR hg hm kp lk code hb Sg hNg hva (hG cdv) hM hl hfree hjs S hr hbody hdb hd hcd
theorem cr_isiL {K : PySem.W.Frag} (h : X.K = K) : CallR X (.builtin "isinstance") (rIsi K) := by subst h; exact call_isi
theorem passLam {P : Program} {w : World} {K : PySem.W.Frag} {mg : Str → Option Value} {base : Heap} {N : List Str} {F : NF} {f : Addr} {A : Around} {outer : List Env} {s : Shared} {H : Hp} {E : XK} {σ : L2.St} : PassesAt (L2N.CX P w) (ncx (L2N.CX P w) P w K mg base N F f A outer s H E) σ E :=
  fun pins H s e s' I c => L2N.passes_call (L2N.takes_of rfl rfl rfl rfl) (fun _ _ _ _ h => h) pins σ H s e s' I c
end
def TTref (CN : Addr) : (XK → Hp → VK → Prop) → Hp → VK → Prop := fun tl H Q => tl (fun cls d H' => cls = .ref CN ∧ d = none ∧ ∀ H'', Fr [] H' H'' → Q (.bl true) H'') H (fun _ H' => Q (.bl false) H')
end LT
/-! All hands to which roads lead, found by passes over the roads. -/
namespace LT
open PySem L2
def stepR (rs : List Rd3) (f : List Int) (k : Int) : List Int := if decide ((roadAt rs k).1 ∈ f) = decide ((roadAt rs k).2.1 ∈ f) then f else f ++ [if (roadAt rs k).1 ∈ f then (roadAt rs k).2.1 else (roadAt rs k).1]
def passR (rs : List Rd3) (ks : List Int) (f : List Int) : List Int := ks.foldl (stepR rs) f
def reachR (rs : List Rd3) (ks : List Int) (f : List Int) : Nat → List Int
  | 0 => f
  | m + 1 => passR rs ks (reachR rs ks f m)
def both (rs : List Rd3) (f : List Int) (k : Int) : Bool := decide ((roadAt rs k).1 ∈ f) && decide ((roadAt rs k).2.1 ∈ f)
def evn (rs : List Rd3) (f : List Int) (k : Int) : Prop := decide ((roadAt rs k).1 ∈ f) = decide ((roadAt rs k).2.1 ∈ f)
section
variable {rs : List Rd3} {ks f : List Int} {a k x : Int}
theorem step_mono (h : x ∈ f) : x ∈ stepR rs f k := by
  unfold stepR
  split
  · exact h
  · exact List.mem_append_left _ h
theorem pass_mono : ∀ {ks f : List Int}, x ∈ f → x ∈ passR rs ks f
  | [], _, h => h
  | k :: ks, f, h => pass_mono (ks := ks) (f := stepR rs f k) (step_mono h)
theorem both_mono {g : List Int} (m : ∀ x ∈ f, x ∈ g) (h : both rs f k = true) : both rs g k = true := by
  unfold both at h ⊢
  rw [Bool.and_eq_true, decide_eq_true_eq, decide_eq_true_eq] at h ⊢
  exact ⟨m _ h.1, m _ h.2⟩
theorem step_same (h : evn rs f k) : stepR rs f k = f := if_pos h
theorem step_both (h : ¬ evn rs f k) : both rs (stepR rs f k) k = true := by
  have e : stepR rs f k = f ++ [if (roadAt rs k).1 ∈ f then (roadAt rs k).2.1 else (roadAt rs k).1] := if_neg h
  rw [e]
  unfold both
  rw [Bool.and_eq_true, decide_eq_true_eq, decide_eq_true_eq]
  unfold evn at h
  by_cases c : (roadAt rs k).1 ∈ f
  · rw [if_pos c]
    exact ⟨List.mem_append_left _ c, by simp⟩
  · rw [if_neg c]
    refine ⟨by simp, List.mem_append_left _ ?_⟩
    by_cases d : (roadAt rs k).2.1 ∈ f
    · exact d
    · exact absurd (by rw [decide_eq_false c, decide_eq_false d]) h
theorem even_or {g : List Int} (m : ∀ x ∈ f, x ∈ g) (h : ¬ evn rs f k) (e : evn rs g k) : both rs g k = true := by
  unfold evn at h e
  unfold both
  by_cases c : (roadAt rs k).1 ∈ f
  · rw [← e, decide_eq_true (m _ c)]
    rfl
  · by_cases d : (roadAt rs k).2.1 ∈ f
    · rw [e, decide_eq_true (m _ d)]
      rfl
    · exact absurd (by rw [decide_eq_false c, decide_eq_false d]) h
theorem pass_both : ∀ {ks f : List Int}, k ∈ ks → ¬ evn rs f k → both rs (passR rs ks f) k = true
  | j :: ks, f, hk, h => by
    show both rs (passR rs ks (stepR rs f j)) k = true
    by_cases e : k = j
    · subst e
      exact both_mono (fun x hx => pass_mono hx) (step_both h)
    · have hk : k ∈ ks := (List.mem_cons.mp hk).resolve_left e
      by_cases d : evn rs (stepR rs f j) k
      · exact both_mono (fun x hx => pass_mono hx) (even_or (fun x hx => step_mono hx) h d)
      · exact pass_both hk d
theorem pass_same : ∀ {ks f : List Int}, (∀ k ∈ ks, evn rs f k) → passR rs ks f = f
  | [], _, _ => rfl
  | k :: ks, f, h => by
    show passR rs ks (stepR rs f k) = f
    rw [step_same (h k (List.mem_cons_self ..))]
    exact pass_same fun j hj => h j (List.mem_cons_of_mem _ hj)
theorem count_lt {p q : Int → Bool} : ∀ {l : List Int}, (∀ x ∈ l, p x = true → q x = true) → (∃ x ∈ l, p x = false ∧ q x = true) → l.countP p < l.countP q
  | [], _, ⟨_, h, _⟩ => by cases h
  | y :: l, m, ⟨x, hx, h1, h2⟩ => by
    have le : l.countP p ≤ l.countP q := List.countP_mono_left fun z hz => m z (List.mem_cons_of_mem _ hz)
    rw [List.countP_cons, List.countP_cons]
    rcases List.mem_cons.mp hx with rfl | hx
    · rw [h1, h2]
      simp
      omega
    · have ih := count_lt (fun z hz => m z (List.mem_cons_of_mem _ hz)) ⟨x, hx, h1, h2⟩
      cases c : p y with
      | false =>
        cases q y <;> simp <;> omega
      | true =>
        rw [m y (List.mem_cons_self ..) c]
        simp
        omega
theorem both_of_not (h : ¬ evn rs f k) : both rs f k = false := by
  cases c : both rs f k with
  | false => rfl
  | true =>
    unfold both at c
    rw [Bool.and_eq_true, decide_eq_true_eq, decide_eq_true_eq] at c
    exact absurd (by unfold evn; rw [decide_eq_true c.1, decide_eq_true c.2]) h
theorem reach_count : ∀ m : Nat, (∀ k ∈ ks, evn rs (reachR rs ks f m) k) ∨ m ≤ ks.countP (both rs (reachR rs ks f m))
  | 0 => .inr (Nat.zero_le _)
  | m + 1 => by
    rcases reach_count m with h | h
    · exact .inl (by
        show ∀ k ∈ ks, evn rs (passR rs ks (reachR rs ks f m)) k
        rw [pass_same h]
        exact h)
    · by_cases c : ∀ k ∈ ks, evn rs (reachR rs ks f m) k
      · exact .inl (by
          show ∀ k ∈ ks, evn rs (passR rs ks (reachR rs ks f m)) k
          rw [pass_same c]
          exact c)
      · obtain ⟨k, c⟩ := Classical.not_forall.mp c
        obtain ⟨hk, c⟩ := Classical.not_imp.mp c
        have := count_lt (p := both rs (reachR rs ks f m)) (q := both rs (passR rs ks (reachR rs ks f m))) (l := ks) (fun x _ h => both_mono (fun z hz => pass_mono hz) h) ⟨k, hk, both_of_not c, pass_both hk c⟩
        exact .inr (by
          show m + 1 ≤ ks.countP (both rs (passR rs ks (reachR rs ks f m)))
          omega)
theorem reach_closed : ∀ k ∈ ks, evn rs (reachR rs ks f ks.length) k := by
  rcases (reach_count ks.length : (∀ k ∈ ks, evn rs (reachR rs ks f ks.length) k) ∨ ks.length ≤ ks.countP (both rs (reachR rs ks f ks.length))) with h | h
  · exact h
  · intro k hk
    have e : ks.countP (both rs (reachR rs ks f ks.length)) = ks.length := Nat.le_antisymm List.countP_le_length h
    have := List.countP_eq_length.mp e k hk
    unfold both at this
    rw [Bool.and_eq_true, decide_eq_true_eq, decide_eq_true_eq] at this
    unfold evn
    rw [decide_eq_true this.1, decide_eq_true this.2]
structure ReachI (rs : List Rd3) (ks : List Int) (a : Int) (f : List Int) : Prop where
  nd : f.Nodup
  beg : a ∈ f
  con : ∀ x ∈ f, Conn rs ks a x
theorem ReachI.step (h : ReachI rs ks a f) (hk : k ∈ ks) (k0 : 0 ≤ k) (k1 : k < rs.length) : ReachI rs ks a (stepR rs f k) := by
  have hr : rs[k.toNat]? = some (roadAt rs k) := by
    unfold roadAt
    rw [List.getD_eq_getElem?_getD, List.getElem?_eq_getElem (by omega)]
    rfl
  have ed := edge_of k0 hr
  unfold stepR
  split
  · exact h
  · rename_i ne
    by_cases c : (roadAt rs k).1 ∈ f
    · rw [if_pos c]
      have d : (roadAt rs k).2.1 ∉ f := fun d => ne (by rw [decide_eq_true c, decide_eq_true d])
      refine ⟨?_, List.mem_append_left _ h.beg, fun x hx => ?_⟩
      · rw [List.nodup_append]
        exact ⟨h.nd, by simp, fun x hx y hy e => d (by rw [← List.mem_singleton.mp hy, ← e]; exact hx)⟩
      · rcases List.mem_append.mp hx with hx | hx
        · exact h.con x hx
        · rw [List.mem_singleton.mp hx]
          exact (h.con _ c).step hk ed
    · rw [if_neg c]
      have d : (roadAt rs k).2.1 ∈ f := by
        by_cases d : (roadAt rs k).2.1 ∈ f
        · exact d
        · exact absurd (by rw [decide_eq_false c, decide_eq_false d]) ne
      refine ⟨?_, List.mem_append_left _ h.beg, fun x hx => ?_⟩
      · rw [List.nodup_append]
        exact ⟨h.nd, by simp, fun x hx y hy e => c (by rw [← List.mem_singleton.mp hy, ← e]; exact hx)⟩
      · rcases List.mem_append.mp hx with hx | hx
        · exact h.con x hx
        · rw [List.mem_singleton.mp hx]
          exact (h.con _ d).step hk ed.symm
theorem ReachI.pass (rg : ∀ k ∈ ks, 0 ≤ k ∧ k < rs.length) : ∀ {js f : List Int}, (∀ j ∈ js, j ∈ ks) → ReachI rs ks a f → ReachI rs ks a (passR rs js f)
  | [], _, _, h => h
  | j :: js, f, s, h => ReachI.pass (js := js) rg (fun i hi => s i (List.mem_cons_of_mem _ hi)) (h.step (s j (List.mem_cons_self ..)) (rg j (s j (List.mem_cons_self ..))).1 (rg j (s j (List.mem_cons_self ..))).2)
theorem ReachI.reach (rg : ∀ k ∈ ks, 0 ≤ k ∧ k < rs.length) (h : ReachI rs ks a f) : ∀ m, ReachI rs ks a (reachR rs ks f m)
  | 0 => h
  | m + 1 => ReachI.pass rg (fun _ z => z) (ReachI.reach rg h m)
theorem reachI0 : ReachI rs ks a [a] := ⟨by simp, by simp, fun x hx => by rw [List.mem_singleton.mp hx]; exact .refl⟩
theorem closed_conn (cl : ∀ k ∈ ks, evn rs f k) (ha : a ∈ f) {h : Int} (c : Conn rs ks a h) : h ∈ f := by
  induction c with
  | refl => exact ha
  | @step _ _ j _ hk e ih =>
    obtain ⟨k0, r, hr, ed⟩ := e
    have q := cl _ hk
    unfold evn at q
    have er : roadAt rs j = r := by
      unfold roadAt
      rw [List.getD_eq_getElem?_getD, hr]
      rfl
    rw [er] at q
    rcases ed with ⟨e1, e2⟩ | ⟨e1, e2⟩
    · rw [e1] at ih
      rw [e2]
      rw [decide_eq_true ih] at q
      exact of_decide_eq_true q.symm
    · rw [e1] at ih
      rw [e2]
      rw [decide_eq_true ih] at q
      exact of_decide_eq_true q
/-- what the passes find -/
theorem reach_all (rg : ∀ k ∈ ks, 0 ≤ k ∧ k < rs.length) : (reachR rs ks [a] ks.length).Nodup ∧ ∀ h, h ∈ reachR rs ks [a] ks.length ↔ Conn rs ks a h := by
  have r := ReachI.reach rg (reachI0 (rs := rs) (ks := ks) (a := a)) ks.length
  exact ⟨r.nd, fun h => ⟨r.con h, fun c => closed_conn reach_closed r.beg c⟩⟩
/-- the hands of a way, one by one -/
theorem Pth.at_ {ns vs : List Int} {b : Int} (h : Pth rs ks a ns vs b) : vs[0]? = some a ∧ vs[ns.length]? = some b ∧ ∀ (i : Nat) (k : Int), ns[i]? = some k → k ∈ ks ∧ ∃ x y, vs[i]? = some x ∧ vs[i + 1]? = some y ∧ Edge rs k x y := by
  induction h with
  | nil => exact ⟨rfl, rfl, fun i k e => by cases e⟩
  | @snoc ns vs b c k p hk e _ ih =>
    obtain ⟨h1, h2, h3⟩ := ih
    have l := p.len
    refine ⟨by rw [List.getElem?_append_left (by omega)]; exact h1, ?_, fun i j ej => ?_⟩
    · rw [List.length_append, List.length_singleton, List.getElem?_append_right (by omega), l, Nat.sub_self]
      rfl
    · by_cases il : i < ns.length
      · rw [List.getElem?_append_left il] at ej
        obtain ⟨q1, x, y, q2, q3, q4⟩ := h3 i j ej
        exact ⟨q1, x, y, by rw [List.getElem?_append_left (by omega)]; exact q2, by rw [List.getElem?_append_left (by omega)]; exact q3, q4⟩
      · have ei : i = ns.length := by
          have := (List.getElem?_eq_some_iff.mp ej).1
          rw [List.length_append, List.length_singleton] at this
          omega
        subst ei
        rw [List.getElem?_append_right (Nat.le_refl _), Nat.sub_self] at ej
        cases ej
        refine ⟨hk, b, c, by rw [List.getElem?_append_left (by omega)]; exact h2, ?_, e⟩
        rw [List.getElem?_append_right (by omega), l, Nat.sub_self]
        rfl
end
end LT
/-! Trees of values: what a slot holds, as a plain tree; each address of a changeable node belongs to one tree. -/
namespace TV
open PySem L2
theorem small {n : Nat} (h : n ≤ 1000) : n < sizeLine := Nat.lt_of_le_of_lt h (by decide)
inductive Nk where
  | tup | scr | lst (m : Bool) | dk (m : Bool) (ks : List Key) | dt (m : Bool) (ks : List (List Key)) | obj (C : Addr) (fs : List Str)
  deriving DecidableEq
inductive T where
  | at (v : V) | hole | nd (k : Nk) (ts : List T)
abbrev AS := Addr → Prop
def non : AS := fun _ => False
def one (a : Addr) : AS := fun b => b = a
def uni (F G : AS) : AS := fun a => F a ∨ G a
def Dj (F G : AS) : Prop := ∀ a, F a → ¬ G a
theorem uni_non {F : AS} : uni F non = F := by funext a; simp [uni, non]
theorem non_uni {F : AS} : uni non F = F := by funext a; simp [uni, non]
theorem uni_assoc {F G E : AS} : uni (uni F G) E = uni F (uni G E) := by funext a; simp [uni, or_assoc]
theorem uni_comm {F G : AS} : uni F G = uni G F := by funext a; simp [uni, or_comm]
theorem Dj.symm {F G : AS} (h : Dj F G) : Dj G F := fun a g f => h a f g
theorem Dj.non {F : AS} : Dj F non := fun _ _ h => h
theorem Dj.non' {F : AS} : Dj TV.non F := fun _ h => h.elim
theorem Dj.uni {F G E : AS} (a : Dj F G) (b : Dj F E) : Dj F (TV.uni G E) := fun x h => fun z => z.elim (a x h) (b x h)
theorem Dj.uni' {F G E : AS} (a : Dj G F) (b : Dj E F) : Dj (TV.uni G E) F := fun x h => h.elim (a x) (b x)
theorem Dj.l {F G E : AS} (a : Dj F (TV.uni G E)) : Dj F G := fun x h z => a x h (.inl z)
theorem Dj.r {F G E : AS} (a : Dj F (TV.uni G E)) : Dj F E := fun x h z => a x h (.inr z)
theorem Dj.l' {F G E : AS} (a : Dj (TV.uni G E) F) : Dj G F := fun x h z => a x (.inl h) z
theorem Dj.r' {F G E : AS} (a : Dj (TV.uni G E) F) : Dj E F := fun x h z => a x (.inr h) z
def isRef : V → Bool
  | .ref _ => true
  | _ => false
def own : Nk → Bool
  | .tup => false
  | .scr => false
  | .lst m => m
  | .dk m _ => m
  | .dt m _ => m
  | .obj _ _ => true
section
variable (K : PySem.W.Frag)
/-- the object of a node, its items' values -/
def HasObj (Z : AS) (H : Hp) (a : Addr) : Nk → List V → Prop
  | .tup, vs => H a = some (.tup vs)
  | .lst true, vs => H a = some (.lst vs)
  | .lst false, vs => Z a ∧ H a = some (.lst vs)
  | .scr, vs => (∃ o, H a = some (.frz o (.lst vs))) ∨
      ∃ (o : Obj) (its : Array Value) (n : Nat), K.lookup a = some o ∧ o.cls = .type "list" ∧ o.dict = none ∧ o.data = .seq its n ∧ its.size ≤ sizeLine ∧ Vals vs its.toList
  | .dk m ks, vs => vs.length = ks.length ∧ H a = some (.dK (ks.zip vs)) ∧ (m = false → Z a) ∧ ks.Nodup
  | .dt m ks, vs => vs.length = ks.length ∧ H a = some (.dT (ks.zip vs)) ∧ (m = false → Z a) ∧ ks.Nodup
  | .obj C fs, vs => vs.length = fs.length ∧ ∃ dx, H a = some (.ins C dx (fs.zip vs))
def put (k : Nk) (a : Addr) (F : AS) : AS := if own k = true then uni (one a) F else F
mutual
inductive Rep (Z : AS) (H : Hp) : T → V → AS → Prop
  | at {v : V} : isRef v = false → Rep Z H (.at v) v non
  | hole {v : V} : Rep Z H .hole v non
  | nd {k : Nk} {ts : List T} {a : Addr} {vs : List V} {F : AS} : HasObj K Z H a k vs → RepL Z H ts vs F → (own k = true → ¬ F a) → Rep Z H (.nd k ts) (.ref a) (put k a F)
inductive RepL (Z : AS) (H : Hp) : List T → List V → AS → Prop
  | nil : RepL Z H [] [] non
  | cons {t : T} {v : V} {ts : List T} {vs : List V} {F G : AS} : Rep Z H t v F → RepL Z H ts vs G → Dj F G → RepL Z H (t :: ts) (v :: vs) (uni F G)
end
end
/-- all but M stands as before -/
structure Fx (M : AS) (H H' : Hp) : Prop where
  keep : ∀ b o, ¬ M b → H b = some o → H' b = some o
  tup : ∀ b xs, H b = some (.tup xs) → H' b = some (.tup xs)
  frz : ∀ b o u, H b = some (.frz o u) → H' b = some (.frz o u)
  ext : ∀ b φ, H b = some (.ext φ) → H' b = some (.ext φ)
  al : ∀ b, H' b = none → H b = none
theorem Fx.refl {M : AS} {H : Hp} : Fx M H H := ⟨fun _ _ _ h => h, fun _ _ h => h, fun _ _ _ h => h, fun _ _ h => h, fun _ h => h⟩
theorem Fx.mono {M N : AS} {H H' : Hp} (f : Fx M H H') (h : ∀ a, M a → N a) : Fx N H H' := ⟨fun b o n e => f.keep b o (fun z => n (h b z)) e, f.tup, f.frz, f.ext, f.al⟩
/-- in a row: what the second may change is of the first's, or new -/
theorem Fx.trans {M N : AS} {H H1 H2 : Hp} (f : Fx M H H1) (g : Fx N H1 H2) (h : ∀ a, N a → M a ∨ H a = none) : Fx M H H2 :=
  ⟨fun b o n e => g.keep b o (fun z => by
    rcases h b z with q | q
    · exact n q
    · rw [e] at q; cases q) (f.keep b o n e), fun b xs e => g.tup b xs (f.tup b xs e), fun b o u e => g.frz b o u (f.frz b o u e), fun b φ e => g.ext b φ (f.ext b φ e), fun b e => f.al b (g.al b e)⟩
theorem Fx.new {M : AS} {H : Hp} {p : Addr} {o : HO} (h : H p = none) : Fx M H (upd H p o) := by
  have k : ∀ b u, H b = some u → upd H p o b = some u := fun b u e => by
    rw [upd_ne (ne_of_none e h)]
    exact e
  refine ⟨fun b u _ e => k b u e, fun b xs e => k b _ e, fun b w u e => k b _ e, fun b u e => k b _ e, fun b e => ?_⟩
  by_cases c : b = p
  · rw [c]; exact h
  · rw [upd_ne c] at e; exact e
theorem Fx.wr {M : AS} {H : Hp} {p : Addr} {o u : HO} (h : H p = some u) (hm : M p) (n1 : ∀ xs, u ≠ .tup xs) (n2 : ∀ ob w, u ≠ .frz ob w) (n3 : ∀ φ, u ≠ .ext φ) : Fx M H (upd H p o) := by
  have k : ∀ b w, H b = some w → w ≠ u → upd H p o b = some w := fun b w e n => by
    rw [upd_ne (ne_of e h n)]
    exact e
  refine ⟨fun b w n e => ?_, fun b xs e => k b _ e fun z => n1 _ z.symm, fun b w u e => k b _ e fun z => n2 _ _ z.symm, fun b u e => k b _ e fun z => n3 _ z.symm, fun b e => ?_⟩
  · rw [upd_ne (fun z => n (by rw [z]; exact hm))]
    exact e
  · by_cases c : b = p
    · rw [c, upd_same] at e; cases e
    · rw [upd_ne c] at e; exact e
theorem Fx.toFr {M : AS} {l : List Addr} {H H' : Hp} (f : Fx M H H') (h : ∀ a, M a → a ∈ l) : LT.Fr l H H' :=
  ⟨fun b o n e => f.keep b o (fun z => n (h b z)) e, f.tup, f.frz, f.ext⟩
section
variable {K : PySem.W.Frag}
theorem HasObj.st {Z Z' M : AS} {H H' : Hp} {a : Addr} {k : Nk} {vs : List V} (h : HasObj K Z H a k vs) (f : Fx M H H') (hz : ∀ a, Z a → Z' a) (dz : Dj Z M) (ho : own k = true → ¬ M a) : HasObj K Z' H' a k vs := by
  match k, h with
  | .tup, h =>
    exact f.tup _ _ h
  | .lst true, h => exact f.keep _ _ (ho rfl) h
  | .lst false, h =>
    exact ⟨hz _ h.1, f.keep _ _ (dz a h.1) h.2⟩
  | .scr, h =>
    rcases h with ⟨o, h⟩ | h
    · exact .inl ⟨o, f.frz _ _ _ h⟩
    · exact .inr h
  | .dk m ks, ⟨h1, h2, h3, h4⟩ =>
    refine ⟨h1, f.keep _ _ ?_ h2, fun e => hz _ (h3 e), h4⟩
    cases m with
    | true => exact ho rfl
    | false => exact dz a (h3 rfl)
  | .dt m ks, ⟨h1, h2, h3, h4⟩ =>
    refine ⟨h1, f.keep _ _ ?_ h2, fun e => hz _ (h3 e), h4⟩
    cases m with
    | true => exact ho rfl
    | false => exact dz a (h3 rfl)
  | .obj C fs, ⟨h1, dx, h2⟩ => exact ⟨h1, dx, f.keep _ _ (ho rfl) h2⟩
theorem put_l {k : Nk} {a : Addr} {F : AS} (h : own k = true) : put k a F a := by unfold put; rw [if_pos h]; exact .inl rfl
theorem put_r {k : Nk} {a : Addr} {F : AS} : ∀ b, F b → put k a F b := fun b h => by
  unfold put
  split
  · exact .inr h
  · exact h
theorem put_out {k : Nk} {a b : Addr} {F : AS} (h : put k a F b) : (own k = true ∧ b = a) ∨ F b := by
  unfold put at h
  split at h
  · rename_i c
    exact h.imp (fun z => ⟨c, z⟩) id
  · exact .inr h
mutual
/-- a tree stands as long as nothing of its own, nothing frozen is changed -/
theorem Rep.st {Z Z' M : AS} {H H' : Hp} (f : Fx M H H') (hz : ∀ a, Z a → Z' a) (dz : Dj Z M) : ∀ {t : T} {v : V} {F : AS}, Rep K Z H t v F → Dj F M → Rep K Z' H' t v F
  | _, _, _, .at h, _ => .at h
  | _, _, _, .hole, _ => .hole
  | _, _, _, .nd ho hl hn, d => .nd (ho.st f hz dz fun c => d _ (put_l c)) (RepL.st f hz dz hl fun b h => d b (put_r b h)) hn
theorem RepL.st {Z Z' M : AS} {H H' : Hp} (f : Fx M H H') (hz : ∀ a, Z a → Z' a) (dz : Dj Z M) : ∀ {ts : List T} {vs : List V} {F : AS}, RepL K Z H ts vs F → Dj F M → RepL K Z' H' ts vs F
  | _, _, _, .nil, _ => .nil
  | _, _, _, .cons h1 h2 dj, d => .cons (Rep.st f hz dz h1 d.l') (RepL.st f hz dz h2 d.r') dj
end
/-- what holds of each object of a tree -/
def objAt (k : Nk) (o : HO) : Prop := match k with
  | .lst _ => ∃ vs, o = .lst vs
  | .dk _ _ => ∃ vs, o = .dK vs
  | .dt _ _ => ∃ vs, o = .dT vs
  | .obj _ _ => ∃ C dx fs, o = .ins C dx fs
  | .tup => False
  | .scr => False
theorem HasObj.owned {Z : AS} {H : Hp} {a : Addr} {k : Nk} {vs : List V} (h : HasObj K Z H a k vs) (c : own k = true) : ∃ o, H a = some o ∧ (∀ xs, o ≠ .tup xs) ∧ (∀ ob w, o ≠ .frz ob w) ∧ (∀ φ, o ≠ .ext φ) ∧ ∀ ps, o ≠ .tbl ps := by
  match k, h with
  | .tup, _ => cases c
  | .scr, _ => cases c
  | .lst true, h => exact ⟨_, h, by simp, by simp, by simp, by simp⟩
  | .lst false, _ => cases c
  | .dk m ks, ⟨_, h2, _⟩ => exact ⟨_, h2, by simp, by simp, by simp, by simp⟩
  | .dt m ks, ⟨_, h2, _⟩ => exact ⟨_, h2, by simp, by simp, by simp, by simp⟩
  | .obj C fs, ⟨_, dx, h2⟩ => exact ⟨_, h2, by simp, by simp, by simp, by simp⟩
mutual
theorem Rep.al {Z : AS} {H : Hp} : ∀ {t : T} {v : V} {F : AS}, Rep K Z H t v F → ∀ a, F a → ∃ o, H a = some o ∧ ∀ ps, o ≠ .tbl ps
  | _, _, _, .at _, _, h => h.elim
  | _, _, _, .hole, _, h => h.elim
  | _, _, _, .nd ho hl _, b, h => by
    rcases put_out h with ⟨c, rfl⟩ | h
    · obtain ⟨o, e, _, _, _, q⟩ := ho.owned c
      exact ⟨o, e, q⟩
    · exact RepL.al hl b h
theorem RepL.al {Z : AS} {H : Hp} : ∀ {ts : List T} {vs : List V} {F : AS}, RepL K Z H ts vs F → ∀ a, F a → ∃ o, H a = some o ∧ ∀ ps, o ≠ .tbl ps
  | _, _, _, .nil, _, h => h.elim
  | _, _, _, .cons h1 h2 _, b, h => h.elim (Rep.al h1 b) (RepL.al h2 b)
end
theorem Rep.no {Z : AS} {H : Hp} {t : T} {v : V} {F : AS} (r : Rep K Z H t v F) {a : Addr} (h : F a) : H a ≠ none := fun e => by
  obtain ⟨o, z, _⟩ := r.al a h
  rw [e] at z; cases z
theorem RepL.no {Z : AS} {H : Hp} {t : List T} {v : List V} {F : AS} (r : RepL K Z H t v F) {a : Addr} (h : F a) : H a ≠ none := fun e => by
  obtain ⟨o, z, _⟩ := r.al a h
  rw [e] at z; cases z
/-! ### frozen trees -/
mutual
def frzd : T → Bool
  | .at _ => true
  | .hole => false
  | .nd k ts => !own k && frzdL ts
def frzdL : List T → Bool
  | [] => true
  | t :: ts => frzd t && frzdL ts
end
def fzK : Nk → Nk
  | .lst _ => .lst false
  | .dk _ ks => .dk false ks
  | .dt _ ks => .dt false ks
  | k => k
def canF : Nk → Bool
  | .obj _ _ => false
  | _ => true
mutual
def frz : T → T
  | .at v => .at v
  | .hole => .hole
  | .nd k ts => .nd (fzK k) (frzL ts)
def frzL : List T → List T
  | [] => []
  | t :: ts => frz t :: frzL ts
end
mutual
/-- no object, no hole within -/
def canFrz : T → Bool
  | .at _ => true
  | .hole => false
  | .nd k ts => canF k && canFrzL ts
def canFrzL : List T → Bool
  | [] => true
  | t :: ts => canFrz t && canFrzL ts
end
theorem fzK_own {k : Nk} (h : canF k = true) : own (fzK k) = false := by
  cases k <;> first | rfl | cases h
mutual
theorem Rep.frzd {Z : AS} {H : Hp} : ∀ {t : T} {v : V} {F : AS}, Rep K Z H t v F → TV.frzd t = true → ∀ a, ¬ F a
  | _, _, _, .at _, _, _ => id
  | _, _, _, .hole, _, _ => id
  | .nd k ts, _, _, .nd ho hl _, h, b => fun z => by
    unfold TV.frzd at h
    rw [Bool.and_eq_true, Bool.not_eq_true'] at h
    rcases put_out z with ⟨c, rfl⟩ | z
    · rw [h.1] at c; cases c
    · exact RepL.frzd hl h.2 b z
theorem RepL.frzd {Z : AS} {H : Hp} : ∀ {t : List T} {v : List V} {F : AS}, RepL K Z H t v F → TV.frzdL t = true → ∀ a, ¬ F a
  | _, _, _, .nil, _, _ => id
  | t :: ts, _, _, .cons h1 h2 _, h, b => fun z => by
    unfold TV.frzdL at h
    rw [Bool.and_eq_true] at h
    exact z.elim (Rep.frzd h1 h.1 b) (RepL.frzd h2 h.2 b)
end
theorem Rep.frzd_eq {Z : AS} {H : Hp} {t : T} {v : V} {F : AS} (r : Rep K Z H t v F) (h : TV.frzd t = true) : F = non := by
  funext a
  exact propext ⟨fun z => (r.frzd h a z).elim, fun z => z.elim⟩
theorem RepL.frzd_eq {Z : AS} {H : Hp} {t : List T} {v : List V} {F : AS} (r : RepL K Z H t v F) (h : TV.frzdL t = true) : F = non := by
  funext a
  exact propext ⟨fun z => (r.frzd h a z).elim, fun z => z.elim⟩
theorem HasObj.frozen {Z Z' : AS} {H : Hp} {a : Addr} {k : Nk} {vs : List V} (h : HasObj K Z H a k vs) (hz : ∀ a, Z a → Z' a) (ho : own k = true → Z' a) (c : canF k = true) : HasObj K Z' H a (fzK k) vs := by
  match k, h with
  | .tup, h => exact h
  | .scr, h => exact h
  | .lst true, h => exact ⟨ho rfl, h⟩
  | .lst false, h => exact ⟨hz _ h.1, h.2⟩
  | .dk m ks, ⟨h1, h2, h3, h4⟩ => exact ⟨h1, h2, fun _ => by
      cases m with
      | true => exact ho rfl
      | false => exact hz _ (h3 rfl), h4⟩
  | .dt m ks, ⟨h1, h2, h3, h4⟩ => exact ⟨h1, h2, fun _ => by
      cases m with
      | true => exact ho rfl
      | false => exact hz _ (h3 rfl), h4⟩
  | .obj _ _, _ => cases c
theorem put_non {k : Nk} {a : Addr} (h : own k = false) : put k a non = non := by
  unfold put
  rw [h]
  rfl
mutual
/-- freezing: the tree's own becomes frozen -/
theorem Rep.frz {Z Z' : AS} {H : Hp} (hz : ∀ a, Z a → Z' a) : ∀ {t : T} {v : V} {F : AS}, Rep K Z H t v F → canFrz t = true → (∀ a, F a → Z' a) → Rep K Z' H (TV.frz t) v non
  | _, _, _, .at h, _, _ => by
    unfold TV.frz
    exact .at h
  | _, _, _, .hole, c, _ => by cases c
  | .nd k ts, _, _, .nd ho hl hn, c, g => by
    unfold canFrz at c
    rw [Bool.and_eq_true] at c
    have q := RepL.frz hz hl c.2 fun b h => g b (put_r b h)
    have r := Rep.nd (ho.frozen hz (fun z => g _ (put_l z)) c.1) q fun z => by rw [fzK_own c.1] at z; cases z
    rw [put_non (fzK_own c.1)] at r
    unfold TV.frz
    exact r
theorem RepL.frz {Z Z' : AS} {H : Hp} (hz : ∀ a, Z a → Z' a) : ∀ {t : List T} {v : List V} {F : AS}, RepL K Z H t v F → canFrzL t = true → (∀ a, F a → Z' a) → RepL K Z' H (TV.frzL t) v non
  | _, _, _, .nil, _, _ => by
    unfold TV.frzL
    exact .nil
  | t :: ts, _, _, .cons h1 h2 _, c, g => by
    unfold canFrzL at c
    rw [Bool.and_eq_true] at c
    unfold TV.frzL
    have r := RepL.cons (Rep.frz hz h1 c.1 fun b h => g b (.inl h)) (RepL.frz hz h2 c.2 fun b h => g b (.inr h)) Dj.non
    rw [uni_non] at r
    exact r
end
/-! ### rows of trees -/
theorem RepL.length {Z : AS} {H : Hp} : ∀ {ts : List T} {vs : List V} {F : AS}, RepL K Z H ts vs F → ts.length = vs.length
  | _, _, _, .nil => rfl
  | _, _, _, .cons _ h _ => by rw [List.length_cons, List.length_cons, RepL.length h]
theorem RepL.append {Z : AS} {H : Hp} : ∀ {ts us : List T} {vs ws : List V} {F G : AS}, RepL K Z H ts vs F → RepL K Z H us ws G → Dj F G → RepL K Z H (ts ++ us) (vs ++ ws) (uni F G)
  | _, _, _, _, _, _, .nil, h, _ => by rw [non_uni]; exact h
  | _, _, _, _, _, _, .cons h1 h2 d, h, dg => by
    rw [uni_assoc]
    exact .cons h1 (RepL.append h2 h dg.r') (d.uni dg.l')
theorem RepL.split {Z : AS} {H : Hp} : ∀ {ts us : List T} {vs : List V} {F : AS}, RepL K Z H (ts ++ us) vs F → ∃ v1 v2 F1 F2, vs = v1 ++ v2 ∧ RepL K Z H ts v1 F1 ∧ RepL K Z H us v2 F2 ∧ Dj F1 F2 ∧ F = uni F1 F2
  | [], us, vs, F, h => ⟨[], vs, non, F, rfl, .nil, h, Dj.non', non_uni.symm⟩
  | t :: ts, us, _, _, .cons h1 h2 d => by
    obtain ⟨v1, v2, F1, F2, rfl, a, b, dj, rfl⟩ := RepL.split h2
    exact ⟨_ :: v1, v2, _, F2, rfl, .cons h1 a d.l, b, Dj.uni' d.r dj, uni_assoc.symm⟩
theorem RepL.one {Z : AS} {H : Hp} {t : T} {v : V} {F : AS} (h : Rep K Z H t v F) : RepL K Z H [t] [v] F := by
  have r := RepL.cons h .nil Dj.non
  rw [uni_non] at r
  exact r
theorem RepL.ofOne {Z : AS} {H : Hp} {t : T} {vs : List V} {F : AS} (h : RepL K Z H [t] vs F) : ∃ v, vs = [v] ∧ Rep K Z H t v F := by
  cases h with
  | cons h1 h2 d =>
    cases h2
    rw [uni_non]
    exact ⟨_, rfl, h1⟩
/-- the tree at a place, and what stands around it -/
theorem RepL.at {Z : AS} {H : Hp} {ts : List T} {vs : List V} {F : AS} (h : RepL K Z H ts vs F) {i : Nat} {t : T} (e : ts[i]? = some t) :
    ∃ v G R, vs[i]? = some v ∧ Rep K Z H t v G ∧ Dj G R ∧ F = uni G R ∧
      ∀ {Z' : AS} {H' : Hp} {M : AS} {t' : T} {v' : V} {G' : AS}, Fx M H H' → (∀ a, Z a → Z' a) → Dj Z M → Dj R M → Rep K Z' H' t' v' G' → Dj G' R → RepL K Z' H' (ts.set i t') (vs.set i v') (uni G' R) := by
  have hi : i < ts.length := (List.getElem?_eq_some_iff.mp e).1
  have e1 : ts = ts.take i ++ t :: ts.drop (i + 1) := by
    have z := List.take_append_drop i ts
    rw [List.drop_eq_getElem_cons hi] at z
    rw [(List.getElem?_eq_some_iff.mp e).2] at z
    exact z.symm
  have h0 := h
  rw [e1] at h0
  obtain ⟨v1, v2, F1, F2, rfl, a, b, dj, rfl⟩ := RepL.split h0
  cases b with
  | @cons _ v _ w G E hb1 hb2 d =>
    have l1 := a.length
    rw [List.length_take, Nat.min_eq_left (Nat.le_of_lt hi)] at l1
    refine ⟨v, G, uni F1 E, ?_, hb1, Dj.uni dj.l.symm d, ?_, ?_⟩
    · rw [List.getElem?_append_right (by omega), l1]
      simp
    · funext x
      simp only [uni]
      exact propext ⟨fun z => by rcases z with z | z | z <;> simp [z], fun z => by rcases z with z | z | z <;> simp [z]⟩
    · intro Z' H' M t' v' G' f hz dz dr r dg
      have a' := RepL.st f hz dz a dr.l'
      have b' := RepL.st f hz dz hb2 dr.r'
      have q := RepL.append a' (RepL.cons r b' dg.r) (Dj.uni dg.l.symm dj.r)
      have s1 : ts.set i t' = ts.take i ++ t' :: ts.drop (i + 1) := by
        rw [List.set_eq_take_append_cons_drop, if_pos hi]
      have s2 : (v1 ++ v :: w).set i v' = v1 ++ v' :: w := by
        rw [List.set_append, if_neg (by omega), l1, Nat.sub_self]
        rfl
      rw [s1, s2]
      have u : uni G' (uni F1 E) = uni F1 (uni G' E) := by
        funext x
        simp only [uni]
        exact propext ⟨fun z => by rcases z with z | z | z <;> simp [z], fun z => by rcases z with z | z | z <;> simp [z]⟩
      rw [u]
      exact q
theorem RepL.get {Z : AS} {H : Hp} {ts : List T} {vs : List V} {F : AS} (h : RepL K Z H ts vs F) {i : Nat} {t : T} (e : ts[i]? = some t) : ∃ v G, vs[i]? = some v ∧ Rep K Z H t v G ∧ ∀ a, G a → F a := by
  obtain ⟨v, G, R, h1, h2, _, h4, _⟩ := h.at e
  exact ⟨v, G, h1, h2, fun a z => by rw [h4]; exact .inl z⟩
/-- frozen rows, item by item -/
theorem RepL.ofP {Z : AS} {H : Hp} : ∀ {ts : List T} {vs : List V}, Paired (fun t v => Rep K Z H t v non) ts vs → RepL K Z H ts vs non
  | _, _, .nil => .nil
  | _, _, .cons r t => by
    have q := RepL.cons r (RepL.ofP t) Dj.non
    rw [uni_non] at q
    exact q
theorem RepL.toP {Z : AS} {H : Hp} : ∀ {ts : List T} {vs : List V} {F : AS}, RepL K Z H ts vs F → TV.frzdL ts = true → Paired (fun t v => Rep K Z H t v non) ts vs
  | _, _, _, .nil, _ => .nil
  | t :: ts, _, _, .cons h1 h2 _, c => by
    unfold TV.frzdL at c
    rw [Bool.and_eq_true] at c
    have q := h1.frzd_eq c.1
    subst q
    exact .cons h1 (RepL.toP h2 c.2)
end
end TV
/-! Steps, places, judgements: a reading does what a plain function over trees does. -/
namespace TV
open PySem L2
abbrev Env := List T
abbrev Tabs := List (Addr × Str)
/-- tables of code objects that may grow -/
def bs (B : Tabs) : AS := fun a => ∃ q, (a, q) ∈ B
def Amb (B : Tabs) (H : Hp) : Prop := ∀ a q, (a, q) ∈ B → LamX.TabS H a q
structure Ok (B : Tabs) (Z F : AS) (H : Hp) : Prop where
  dj : Dj F Z
  zal : ∀ a, Z a → ∃ o, H a = some o ∧ ∀ ps, o ≠ .tbl ps
  amb : Amb B H
structure Stp (B : Tabs) (Z F : AS) (H : Hp) (Z' F' : AS) (H' : Hp) : Prop where
  fx : Fx (uni F (bs B)) H H'
  zz : ∀ a, Z a → Z' a
  zn : ∀ a, Z' a → Z a ∨ F a ∨ H a = none
  fn : ∀ a, F' a → F a ∨ H a = none
  ok : Ok B Z' F' H'
section
variable {K : PySem.W.Frag} {B : Tabs}
theorem Amb.no {H : Hp} (am : Amb B H) {a : Addr} (h : bs B a) {o : HO} (e : H a = some o) (n : ∀ ps, o ≠ .tbl ps) : False := by
  obtain ⟨q, hq⟩ := h
  obtain ⟨ps, z, _⟩ := am a q hq
  rw [e] at z
  exact n ps (Option.some.inj z)
theorem Amb.fx {M : AS} {H H' : Hp} (am : Amb B H) (f : Fx M H H') (h : Dj (bs B) M) : Amb B H' := fun a q hq => by
  obtain ⟨ps, z, ok, all⟩ := am a q hq
  exact ⟨ps, f.keep _ _ (h a ⟨q, hq⟩) z, ok, fun pos cv e => by
    obtain ⟨c, hc, he⟩ := all pos cv e
    exact ⟨c, hc, f.ext _ _ he⟩⟩
theorem Ok.zb {Z F : AS} {H : Hp} (o : Ok B Z F H) : Dj Z (bs B) := fun a z b => by
  obtain ⟨u, e, n⟩ := o.zal a z
  exact o.amb.no b e n
theorem Ok.zf {Z F : AS} {H : Hp} (o : Ok B Z F H) : Dj Z (uni F (bs B)) := Dj.uni o.dj.symm o.zb
theorem Rep.bs {Z F : AS} {H : Hp} {t : T} {v : V} (r : Rep K Z H t v F) (am : Amb B H) : Dj F (bs B) := fun a f b => by
  obtain ⟨o, e, n⟩ := r.al a f
  exact am.no b e n
theorem RepL.bs {Z F : AS} {H : Hp} {t : List T} {v : List V} (r : RepL K Z H t v F) (am : Amb B H) : Dj F (bs B) := fun a f b => by
  obtain ⟨o, e, n⟩ := r.al a f
  exact am.no b e n
theorem Stp.refl {Z F : AS} {H : Hp} (o : Ok B Z F H) : Stp B Z F H Z F H := ⟨Fx.refl, fun _ z => z, fun _ z => .inl z, fun _ z => .inl z, o⟩
theorem Stp.trans {Z F Z1 F1 Z2 F2 : AS} {H H1 H2 : Hp} (a : Stp B Z F H Z1 F1 H1) (b : Stp B Z1 F1 H1 Z2 F2 H2) : Stp B Z F H Z2 F2 H2 where
  fx := a.fx.trans b.fx fun x h => by
    rcases h with h | h
    · exact (a.fn x h).imp .inl id
    · exact .inl (.inr h)
  zz := fun x z => b.zz x (a.zz x z)
  zn := fun x z => by
    rcases b.zn x z with z | z | z
    · exact a.zn x z
    · exact .inr (a.fn x z)
    · exact .inr (.inr (a.fx.al x z))
  fn := fun x z => by
    rcases b.fn x z with z | z
    · exact a.fn x z
    · exact .inr (a.fx.al x z)
  ok := b.ok
/-- what stands aside of a step -/
theorem Stp.frame {Z F Z' F' R : AS} {H H' : Hp} (a : Stp B Z F H Z' F' H') (dr : Dj R Z) (df : Dj R F) (al : ∀ x, R x → H x ≠ none) : Stp B Z (uni F R) H Z' (uni F' R) H' ∧ Dj F' R ∧ Dj R Z' := by
  have h1 : Dj F' R := fun x f r => by
    rcases a.fn x f with z | z
    · exact df x r z
    · exact al x r z
  have h2 : Dj R Z' := fun x r z => by
    rcases a.zn x z with z | z | z
    · exact dr x r z
    · exact df x r z
    · exact al x r z
  refine ⟨⟨a.fx.mono fun x h => h.imp .inl id, a.zz, fun x z => ?_, fun x z => ?_, ⟨Dj.uni' a.ok.dj h2, a.ok.zal, a.ok.amb⟩⟩, h1, h2⟩
  · rcases a.zn x z with z | z | z
    · exact .inl z
    · exact .inr (.inl (.inl z))
    · exact .inr (.inr z)
  · rcases z with z | z
    · exact (a.fn x z).imp .inl id
    · exact .inl (.inr z)
theorem Ok.sub {Z F G : AS} {H : Hp} (o : Ok B Z F H) (h : ∀ a, G a → F a) : Ok B Z G H := ⟨fun a g => o.dj a (h a g), o.zal, o.amb⟩
theorem Rep.stp {Z F Z' F' R : AS} {H H' : Hp} {t : T} {v : V} (r : Rep K Z H t v R) (o : Ok B Z F H) (a : Stp B Z F H Z' F' H') (d : Dj R F) : Rep K Z' H' t v R :=
  Rep.st a.fx a.zz o.zf r (Dj.uni d (r.bs o.amb))
theorem RepL.stp {Z F Z' F' R : AS} {H H' : Hp} {t : List T} {v : List V} (r : RepL K Z H t v R) (o : Ok B Z F H) (a : Stp B Z F H Z' F' H') (d : Dj R F) : RepL K Z' H' t v R :=
  RepL.st a.fx a.zz o.zf r (Dj.uni d (r.bs o.amb))
/-- a new object is laid: it is owned -/
theorem Stp.new {Z F : AS} {H : Hp} {p : Addr} {o : HO} (k : Ok B Z F H) (n : H p = none) (al : ∀ x, F x → H x ≠ none) : Stp B Z F H Z (uni (one p) F) (upd H p o) := by
  have f : Fx non H (upd H p o) := Fx.new n
  refine ⟨f.mono fun a h => h.elim, fun _ z => z, fun _ z => .inl z, fun a z => ?_, ⟨Dj.uni' (fun a e z => ?_) k.dj, fun a z => ?_, k.amb.fx f Dj.non⟩⟩
  · rcases z with z | z
    · rw [show a = p from z]; exact .inr n
    · exact .inl z
  · rw [show a = p from e] at z
    obtain ⟨u, hu, _⟩ := k.zal p z
    rw [n] at hu; cases hu
  · obtain ⟨u, hu, q⟩ := k.zal a z
    exact ⟨u, f.keep _ _ id hu, q⟩
/-- a new object that nobody owns (a tuple) -/
theorem Stp.new0 {Z F : AS} {H : Hp} {p : Addr} {o : HO} (k : Ok B Z F H) (n : H p = none) (al : ∀ x, F x → H x ≠ none) : Stp B Z F H Z F (upd H p o) := by
  have q := Stp.new (o := o) k n al
  exact ⟨q.fx, q.zz, q.zn, fun a z => .inl z, q.ok.sub fun a z => .inr z⟩
/-- ownership is given up -/
theorem Stp.drop {Z F G : AS} {H : Hp} (k : Ok B Z F H) (h : ∀ a, G a → F a) : Stp B Z F H Z G H := ⟨Fx.refl, fun _ z => z, fun _ z => .inl z, fun a z => .inl (h a z), k.sub h⟩
theorem Stp.less {Z F Z' F' G : AS} {H H' : Hp} (a : Stp B Z F H Z' F' H') (h : ∀ x, G x → F' x) : Stp B Z F H Z' G H' := a.trans (Stp.drop a.ok h)
/-- what is owned becomes frozen -/
theorem Stp.freeze {Z F G : AS} {H : Hp} (k : Ok B Z (uni G F) H) (d : Dj G F) (al : ∀ x, G x → ∃ o, H x = some o ∧ ∀ ps, o ≠ .tbl ps) : Stp B Z (uni G F) H (uni Z G) F H := by
  refine ⟨Fx.refl, fun _ z => .inl z, fun a z => z.imp id fun g => .inl (.inl g), fun a z => .inl (.inr z), ⟨Dj.uni k.dj.r' d.symm, fun a z => ?_, k.amb⟩⟩
  rcases z with z | z
  · exact k.zal a z
  · exact al a z
/-- an owned object is written -/
theorem Stp.wr {Z F : AS} {H : Hp} {p : Addr} {o u : HO} (k : Ok B Z F H) (h : H p = some u) (hp : F p) (n1 : ∀ xs, u ≠ .tup xs) (n2 : ∀ ob w, u ≠ .frz ob w) (n3 : ∀ φ, u ≠ .ext φ) (n4 : ∀ ps, u ≠ .tbl ps) : Stp B Z F H Z F (upd H p o) := by
  have f : Fx (one p) H (upd H p o) := Fx.wr h rfl n1 n2 n3
  refine ⟨f.mono fun a e => .inl (by rw [show a = p from e]; exact hp), fun _ z => z, fun _ z => .inl z, fun _ z => .inl z, ⟨k.dj, fun a z => ?_, k.amb.fx f fun a b e => ?_⟩⟩
  · obtain ⟨w, hw, q⟩ := k.zal a z
    exact ⟨w, f.keep _ _ (fun e => k.dj p hp (by rw [← show a = p from e]; exact z)) hw, q⟩
  · rw [show a = p from e] at b
    exact k.amb.no b h n4
/-! ### places -/
def pas (k : Nk) : Bool := own k || match k with
  | .tup => true
  | _ => false
def getT : T → List Nat → Option T
  | t, [] => some t
  | .nd k ts, i :: p => if pas k = true then (ts[i]?).bind fun u => getT u p else none
  | .at _, _ :: _ => none
  | .hole, _ :: _ => none
def setT : T → List Nat → T → T
  | _, [], t' => t'
  | .nd k ts, i :: p, t' => .nd k (ts.set i (setT (ts.getD i .hole) p t'))
  | t, _ :: _, _ => t
/-- the value at a path of a tree -/
inductive VAt (K : PySem.W.Frag) (Z : AS) (H : Hp) : T → V → List Nat → V → Prop
  | nil {t : T} {v : V} : VAt K Z H t v [] v
  | cons {k : Nk} {ts : List T} {a : Addr} {vs : List V} {i : Nat} {u : T} {w v' : V} {p : List Nat} : HasObj K Z H a k vs → pas k = true → ts[i]? = some u → vs[i]? = some w → VAt K Z H u w p v' → VAt K Z H (.nd k ts) (.ref a) (i :: p) v'
theorem HasObj.uniq {Z Z' : AS} {H : Hp} {a : Addr} {k : Nk} {vs ws : List V} (h : HasObj K Z H a k vs) (g : HasObj K Z' H a k ws) (c : pas k = true) : vs = ws := by
  have zip2 : ∀ {α : Type} {ks : List α} {vs ws : List V}, vs.length = ks.length → ws.length = ks.length → ks.zip vs = ks.zip ws → vs = ws := fun {α ks vs ws} h1 h2 e => by
    have z := congrArg (List.map Prod.snd) e
    rw [List.map_snd_zip (by omega), List.map_snd_zip (by omega)] at z
    exact z
  match k, h, g with
  | .tup, h, g => injection Option.some.inj (h.symm.trans g)
  | .lst true, h, g => injection Option.some.inj (h.symm.trans g)
  | .lst false, _, _ => cases c
  | .scr, _, _ => cases c
  | .dk m ks, ⟨h1, h2, _⟩, ⟨g1, g2, _⟩ =>
    injection Option.some.inj (h2.symm.trans g2) with e
    exact zip2 h1 g1 e
  | .dt m ks, ⟨h1, h2, _⟩, ⟨g1, g2, _⟩ =>
    injection Option.some.inj (h2.symm.trans g2) with e
    exact zip2 h1 g1 e
  | .obj C fs, ⟨h1, dx, h2⟩, ⟨g1, dx', g2⟩ =>
    injection Option.some.inj (h2.symm.trans g2) with _ _ e
    exact zip2 h1 g1 e
/-- a place is taken out: what stands there, and the rest with a hole -/
theorem Rep.take {Z : AS} {H : Hp} : ∀ {p : List Nat} {t : T} {v : V} {F : AS} {u : T}, Rep K Z H t v F → getT t p = some u → ∃ w G R, VAt K Z H (setT t p .hole) v p w ∧ Rep K Z H u w G ∧ Rep K Z H (setT t p .hole) v R ∧ Dj G R ∧ F = uni G R
  | [], t, v, F, u, r, e => by
    have e : some t = some u := by cases t <;> exact e
    cases e
    refine ⟨v, F, non, .nil, r, ?_, Dj.non, uni_non.symm⟩
    have : setT t [] .hole = .hole := by cases t <;> rfl
    rw [this]
    exact .hole
  | i :: p, .nd k ts, _, _, u, .nd (a := a) (vs := vs) (F := F0) ho hl hn, e => by
    unfold getT at e
    split at e
    · rename_i hk
      cases q : ts[i]? with
      | none => rw [q] at e; cases e
      | some t1 =>
        rw [q] at e
        have e : getT t1 p = some u := e
        obtain ⟨w1, G1, R1, hv, r1, d1, rfl, back⟩ := hl.at q
        obtain ⟨w, G, R, va, ru, rh, dj, rfl⟩ := Rep.take r1 e
        have gd : ts.getD i .hole = t1 := by rw [List.getD_eq_getElem?_getD, q]; rfl
        have il : i < ts.length := (List.getElem?_eq_some_iff.mp q).1
        have iv : i < vs.length := (List.getElem?_eq_some_iff.mp hv).1
        have b := back (Z' := Z) (H' := H) (M := non) Fx.refl (fun _ z => z) Dj.non Dj.non rh d1.r'
        have sv : vs.set i w1 = vs := by
          rw [← (List.getElem?_eq_some_iff.mp hv).2]
          exact List.set_getElem_self iv
        rw [sv] at b
        unfold setT
        rw [gd]
        have hn' : own k = true → ¬ uni R R1 a := fun c z => hn c (z.imp .inr id)
        refine ⟨w, G, put k a (uni R R1), .cons ho hk (by rw [List.getElem?_set_self il]) hv va, ru, .nd ho b hn', ?_, ?_⟩
        · intro x g z
          rcases put_out z with ⟨c, rfl⟩ | z
          · exact hn c (.inl (.inl g))
          · exact z.elim (dj x g) (d1 x (.inl g))
        · funext x
          unfold put
          by_cases c : own k = true
          · rw [if_pos c, if_pos c]
            exact propext ⟨fun z => by rcases z with z | (z | z) | z <;> simp [uni, z], fun z => by rcases z with z | z | z | z <;> simp [uni, z]⟩
          · rw [if_neg c, if_neg c, uni_assoc]
    · cases e
  | _ :: _, .at _, _, _, _, _, e => by cases e
  | _ :: _, .hole, _, _, _, _, e => by cases e
theorem setT_id : ∀ {p : List Nat} {t u : T}, getT t p = some u → setT t p u = t
  | [], t, u, e => by
    have e : some t = some u := by cases t <;> exact e
    cases e
    cases t <;> rfl
  | i :: p, .nd k ts, u, e => by
    unfold getT at e
    split at e
    · cases q : ts[i]? with
      | none => rw [q] at e; cases e
      | some t1 =>
        rw [q] at e
        have e : getT t1 p = some u := e
        have gd : ts.getD i .hole = t1 := by rw [List.getD_eq_getElem?_getD, q]; rfl
        unfold setT
        rw [gd, setT_id e]
        have il : i < ts.length := (List.getElem?_eq_some_iff.mp q).1
        rw [← (List.getElem?_eq_some_iff.mp q).2, List.set_getElem_self il]
    · cases e
  | _ :: _, .at _, _, e => by cases e
  | _ :: _, .hole, _, e => by cases e
/-- and put back -/
theorem Rep.back {Z : AS} {H : Hp} : ∀ {p : List Nat} {t : T} {v w : V} {R G : AS} {u : T}, Rep K Z H (setT t p .hole) v R → VAt K Z H (setT t p .hole) v p w → Rep K Z H u w G → Dj G R → Rep K Z H (setT t p u) v (uni G R)
  | [], t, v, w, R, G, u, rh, va, r, d => by
    have e1 : setT t [] .hole = .hole := by cases t <;> rfl
    have e2 : setT t [] u = u := by cases t <;> rfl
    rw [e1] at rh va
    rw [e2]
    cases va
    cases rh
    rw [uni_non]
    exact r
  | i :: p, .nd k ts, _, w, _, G, u, rh, va, r, d => by
    unfold setT at rh va ⊢
    cases va with
    | @cons _ _ a vs _ u1 w1 _ _ ho hk hu hv va =>
      cases rh with
      | @nd _ _ _ vs' F0 ho' hl hn =>
        have ev : vs' = vs := ho'.uniq ho hk
        subst ev
        have il : i < ts.length := by
          have := (List.getElem?_eq_some_iff.mp hu).1
          rwa [List.length_set] at this
        have hu' := hu
        rw [List.getElem?_set_self il] at hu'
        cases hu'
        obtain ⟨w2, G2, R2, hv2, r2, d2, rfl, back⟩ := hl.at hu
        rw [hv] at hv2
        cases hv2
        have dG2 : Dj G G2 := fun x g z => d x g (put_r x (.inl z))
        have dGR : Dj G R2 := fun x g z => d x g (put_r x (.inr z))
        have q := Rep.back r2 va r dG2
        have b := back (Z' := Z) (H' := H) (M := non) Fx.refl (fun _ z => z) Dj.non Dj.non q (Dj.uni' dGR d2)
        have iv : i < vs'.length := (List.getElem?_eq_some_iff.mp hv).1
        have sv : vs'.set i w1 = vs' := by
          rw [← (List.getElem?_eq_some_iff.mp hv).2]
          exact List.set_getElem_self iv
        rw [sv, List.set_set] at b
        have hn' : own k = true → ¬ uni (uni G G2) R2 a := fun c z => by
          rcases z with (z | z) | z
          · exact d a z (put_l c)
          · exact hn c (.inl z)
          · exact hn c (.inr z)
        have f := Rep.nd ho b hn'
        have eF : put k a (uni (uni G G2) R2) = uni G (put k a (uni G2 R2)) := by
          funext x
          unfold put
          by_cases c : own k = true
          · rw [if_pos c, if_pos c]
            exact propext ⟨fun z => by rcases z with z | (z | z) | z <;> simp [uni, z], fun z => by rcases z with z | z | z | z <;> simp [uni, z]⟩
          · rw [if_neg c, if_neg c, uni_assoc]
        rw [eF] at f
        exact f
  | _ :: _, .at _, _, _, _, _, _, rh, va, _, _ => by
    unfold setT at va
    cases va
  | _ :: _, .hole, _, _, _, _, _, rh, va, _, _ => by
    unfold setT at va
    cases va
theorem VAt.st {Z Z' M : AS} {H H' : Hp} (f : Fx M H H') (hz : ∀ a, Z a → Z' a) (dz : Dj Z M) : ∀ {p : List Nat} {t : T} {v w : V} {R : AS}, VAt K Z H t v p w → Rep K Z H t v R → Dj R M → VAt K Z' H' t v p w
  | [], _, _, _, _, .nil, _, _ => .nil
  | i :: p, _, _, w, _, .cons (vs := vs) ho hk hu hv va, .nd (vs := vs') ho' hl hn, d => by
    have ev : vs' = vs := ho'.uniq ho hk
    subst ev
    obtain ⟨w2, G2, R2, hv2, r2, _, rfl, _⟩ := hl.at hu
    rw [hv] at hv2
    cases hv2
    exact .cons (ho.st f hz dz fun c => d _ (put_l c)) hk hu hv (VAt.st f hz dz va r2 fun x z => d x (put_r x (.inl z)))
end
end TV
/-! The slots' trees; the judgements. -/
namespace TV
open PySem L2
section
variable (K : PySem.W.Frag)
structure RepS (Z : AS) (H : Hp) (σ : St) (ρ : Env) (F : AS) : Prop where
  len : σ.length = ρ.length
  ex : ∃ vs, RepL K Z H ρ vs F ∧ ∀ (i : Nat) (v : V) (t : T), vs[i]? = some v → ρ[i]? = some t → t = T.hole ∨ σ[i]? = some (some v)
/-- the value at a place -/
def PAt (Z : AS) (H : Hp) (σ : St) (ρ : Env) (i : Nat) (p : List Nat) (w : V) : Prop := ∃ t v, ρ[i]? = some t ∧ σ[i]? = some (some v) ∧ VAt K Z H t v p w
end
def isHole : T → Bool
  | .hole => true
  | _ => false
section
variable {K : PySem.W.Frag} {B : Tabs}
theorem RepS.al {Z F : AS} {H : Hp} {σ : St} {ρ : Env} (r : RepS K Z H σ ρ F) : ∀ a, F a → ∃ o, H a = some o ∧ ∀ ps, o ≠ .tbl ps := by
  obtain ⟨vs, h, _⟩ := r.ex
  exact h.al
theorem RepS.no {Z F : AS} {H : Hp} {σ : St} {ρ : Env} (r : RepS K Z H σ ρ F) : ∀ a, F a → H a ≠ none := by
  obtain ⟨vs, h, _⟩ := r.ex
  exact fun a => h.no
theorem RepS.stp {Z F Z' F' R : AS} {H H' : Hp} {σ : St} {ρ : Env} (r : RepS K Z H σ ρ R) (o : Ok B Z F H) (a : Stp B Z F H Z' F' H') (d : Dj R F) : RepS K Z' H' σ ρ R := by
  obtain ⟨vs, h, e⟩ := r.ex
  exact ⟨r.len, vs, h.stp o a d, e⟩
theorem RepS.st {Z Z' M R : AS} {H H' : Hp} {σ : St} {ρ : Env} (r : RepS K Z H σ ρ R) (f : Fx M H H') (hz : ∀ a, Z a → Z' a) (dz : Dj Z M) (d : Dj R M) : RepS K Z' H' σ ρ R := by
  obtain ⟨vs, h, e⟩ := r.ex
  exact ⟨r.len, vs, RepL.st f hz dz h d, e⟩
theorem RepS.get {Z F : AS} {H : Hp} {σ : St} {ρ : Env} (r : RepS K Z H σ ρ F) {i : Nat} {t : T} (e : ρ[i]? = some t) (n : isHole t = false) : ∃ v G, σ[i]? = some (some v) ∧ Rep K Z H t v G ∧ ∀ a, G a → F a := by
  obtain ⟨vs, h, q⟩ := r.ex
  obtain ⟨v, G, hv, rt, sub⟩ := h.get e
  rcases q i v t hv e with z | z
  · rw [z] at n; cases n
  · exact ⟨v, G, z, rt, sub⟩
/-- a slot is given a new value; what it held is dropped -/
theorem RepS.set {Z F G : AS} {H : Hp} {σ : St} {ρ : Env} (r : RepS K Z H σ ρ F) {i : Nat} (hi : i < ρ.length) {t : T} {v : V} (rt : Rep K Z H t v G) (d : Dj G F) : ∃ F', RepS K Z H (σ.set i (some v)) (ρ.set i t) F' ∧ ∀ a, F' a → G a ∨ F a := by
  obtain ⟨vs, h, q⟩ := r.ex
  obtain ⟨w, G1, R, hw, r1, d1, rfl, back⟩ := h.at (i := i) (t := ρ[i]) (List.getElem?_eq_getElem hi)
  have b := back (Z' := Z) (H' := H) (M := non) Fx.refl (fun _ z => z) Dj.non Dj.non rt d.r
  refine ⟨uni G R, ⟨by rw [List.length_set, List.length_set, r.len], _, b, fun j u t' hu ht => ?_⟩, fun a z => z.imp id .inr⟩
  by_cases c : i = j
  · subst c
    right
    rw [List.getElem?_set_self (by rw [← h.length]; exact hi)] at hu
    rw [List.getElem?_set_self (by rw [r.len]; exact hi)]
    rw [Option.some.inj hu]
  · rw [List.getElem?_set_ne c] at hu ht ⊢
    exact q j u t' hu ht
/-- a slot's value is forgotten -/
theorem RepS.wipe {Z F : AS} {H : Hp} {σ : St} {ρ : Env} (r : RepS K Z H σ ρ F) (i : Nat) (x : Option V) : ∃ F', RepS K Z H (σ.set i x) (ρ.set i .hole) F' ∧ ∀ a, F' a → F a := by
  by_cases hi : i < ρ.length
  · obtain ⟨vs, h, q⟩ := r.ex
    obtain ⟨w, G1, R, hw, r1, d1, rfl, back⟩ := h.at (i := i) (t := ρ[i]) (List.getElem?_eq_getElem hi)
    have b := back (Z' := Z) (H' := H) (M := non) (t' := .hole) (v' := w) Fx.refl (fun _ z => z) Dj.non Dj.non .hole Dj.non'
    refine ⟨uni non R, ⟨by rw [List.length_set, List.length_set, r.len], _, b, fun j u t' hu ht => ?_⟩, fun a z => z.elim (fun z => z.elim) .inr⟩
    by_cases c : i = j
    · subst c
      rw [List.getElem?_set_self hi] at ht
      exact .inl (Option.some.inj ht).symm
    · rw [List.getElem?_set_ne c] at hu ht ⊢
      exact q j u t' hu ht
  · refine ⟨F, ?_, fun _ z => z⟩
    have := r.len
    rw [List.set_eq_of_length_le (by omega), List.set_eq_of_length_le (by omega)]
    exact r
/-- a place is taken out -/
theorem RepS.take {Z F : AS} {H : Hp} {σ : St} {ρ : Env} (r : RepS K Z H σ ρ F) {i : Nat} {p : List Nat} {t u : T} (e : ρ[i]? = some t) (n : isHole t = false) (g : getT t p = some u) :
    ∃ w G R, PAt K Z H σ (ρ.set i (setT t p .hole)) i p w ∧ Rep K Z H u w G ∧ RepS K Z H σ (ρ.set i (setT t p .hole)) R ∧ Dj G R ∧ F = uni G R := by
  obtain ⟨vs, h, q⟩ := r.ex
  obtain ⟨v, G1, R1, hv, r1, d1, rfl, back⟩ := h.at e
  obtain ⟨w, G, R, va, ru, rh, dj, rfl⟩ := r1.take g
  have b := back (Z' := Z) (H' := H) (M := non) Fx.refl (fun _ z => z) Dj.non Dj.non rh d1.r'
  have iv : i < vs.length := (List.getElem?_eq_some_iff.mp hv).1
  have il : i < ρ.length := (List.getElem?_eq_some_iff.mp e).1
  have sv : vs.set i v = vs := by
    rw [← (List.getElem?_eq_some_iff.mp hv).2]
    exact List.set_getElem_self iv
  rw [sv] at b
  have sσ : σ[i]? = some (some v) := (q i v t hv e).resolve_left fun z => by rw [z] at n; cases n
  refine ⟨w, G, uni R R1, ⟨_, v, List.getElem?_set_self il, sσ, va⟩, ru, ⟨by rw [List.length_set]; exact r.len, vs, b, fun j x t' hx ht => ?_⟩, Dj.uni dj d1.l', uni_assoc⟩
  by_cases c : i = j
  · subst c
    rw [hv] at hx
    cases hx
    exact .inr sσ
  · rw [List.getElem?_set_ne c] at ht
    exact q j x t' hx ht
/-- and put back -/
theorem RepS.back {Z R G : AS} {H : Hp} {σ : St} {ρ : Env} (r : RepS K Z H σ ρ R) {i : Nat} {p : List Nat} {t u : T} {w : V} (e : ρ[i]? = some t) (g : getT t p = some .hole) (pa : PAt K Z H σ ρ i p w) (ru : Rep K Z H u w G) (d : Dj G R) :
    RepS K Z H σ (ρ.set i (setT t p u)) (uni G R) := by
  obtain ⟨t', v, e', hσ, va⟩ := pa
  rw [e] at e'
  cases e'
  obtain ⟨vs, h, q⟩ := r.ex
  obtain ⟨v1, G1, R1, hv, r1, d1, rfl, back⟩ := h.at e
  have il : i < ρ.length := (List.getElem?_eq_some_iff.mp e).1
  have iv : i < vs.length := (List.getElem?_eq_some_iff.mp hv).1
  have r2 : Rep K Z H (setT t p u) v (uni G G1) := by
    have id := setT_id g
    rcases q i v1 t hv e with z | z
    · subst z
      cases p with
      | nil =>
        cases va
        cases r1
        rw [uni_non]
        exact ru
      | cons _ _ => cases g
    · rw [hσ] at z
      cases z
      have r1' := r1
      rw [← id] at r1' va
      exact Rep.back r1' va ru d.l
  have b := back (Z' := Z) (H' := H) (M := non) Fx.refl (fun _ z => z) Dj.non Dj.non r2 (Dj.uni' d.r d1)
  rw [uni_assoc] at b
  refine ⟨by rw [List.length_set]; exact r.len, _, b, fun j x t' hx ht => ?_⟩
  by_cases c : i = j
  · subst c
    rw [List.getElem?_set_self iv] at hx
    cases hx
    exact .inr hσ
  · rw [List.getElem?_set_ne c] at hx ht
    exact q j x t' hx ht
theorem RepS.freeze {Z F : AS} {H : Hp} {σ : St} {ρ : Env} (r : RepS K Z H σ ρ F) {i : Nat} {t : T} (e : ρ[i]? = some t) (c : canFrz t = true) :
    ∃ v G R, σ[i]? = some (some v) ∧ Rep K Z H t v G ∧ Dj G R ∧ F = uni G R ∧ RepS K (uni Z G) H σ (ρ.set i (TV.frz t)) R ∧ Rep K (uni Z G) H (TV.frz t) v non := by
  obtain ⟨vs, h, q⟩ := r.ex
  obtain ⟨v, G, R, hv, r1, d1, rfl, back⟩ := h.at e
  have il : i < ρ.length := (List.getElem?_eq_some_iff.mp e).1
  have iv : i < vs.length := (List.getElem?_eq_some_iff.mp hv).1
  have rf := r1.frz (Z' := uni Z G) (fun _ z => .inl z) c fun a g => .inr g
  have b := back (Z' := uni Z G) (H' := H) (M := non) Fx.refl (fun _ z => .inl z) Dj.non Dj.non rf Dj.non'
  have sv : vs.set i v = vs := by
    rw [← (List.getElem?_eq_some_iff.mp hv).2]
    exact List.set_getElem_self iv
  rw [sv, non_uni] at b
  have sσ : σ[i]? = some (some v) := (q i v t hv e).resolve_left fun z => by rw [z] at c; cases c
  refine ⟨v, G, R, sσ, r1, d1, rfl, ⟨by rw [List.length_set]; exact r.len, vs, b, fun j x t' hx ht => ?_⟩, rf⟩
  by_cases cc : i = j
  · subst cc
    rw [hv] at hx
    cases hx
    exact .inr sσ
  · rw [List.getElem?_set_ne cc] at ht
    exact q j x t' hx ht
theorem PAt.stp {Z F Z' F' R : AS} {H H' : Hp} {σ : St} {ρ : Env} {i : Nat} {p : List Nat} {w : V} (pa : PAt K Z H σ ρ i p w) (r : RepS K Z H σ ρ R) (o : Ok B Z F H) (a : Stp B Z F H Z' F' H') (d : Dj R F) : PAt K Z' H' σ ρ i p w := by
  obtain ⟨t, v, e, hσ, va⟩ := pa
  refine ⟨t, v, e, hσ, ?_⟩
  cases va with
  | nil => exact .nil
  | cons ho hk hu hv va =>
    obtain ⟨v', G, h1, h2, h3⟩ := r.get e rfl
    rw [hσ] at h1
    cases h1
    exact VAt.st a.fx a.zz o.zf (.cons ho hk hu hv va) h2 (Dj.uni (fun x g f => d x (h3 x g) f) (h2.bs o.amb))
end
/-- what is pinned holds the same value -/
def Sm (P : Nat → Prop) (σ' σ : St) : Prop := σ'.length = σ.length ∧ ∀ i, P i → σ'[i]? = σ[i]?
theorem sm0 {P : Nat → Prop} {σ : St} : Sm P σ σ := ⟨rfl, fun _ _ => rfl⟩
theorem Sm.trans {P : Nat → Prop} {a b c : St} (h : Sm P a b) (g : Sm P b c) : Sm P a c := ⟨h.1.trans g.1, fun i p => (h.2 i p).trans (g.2 i p)⟩
theorem Sm.set {P : Nat → Prop} {σ : St} {i : Nat} {x : Option V} (h : ¬ P i) : Sm P (σ.set i x) σ := ⟨List.length_set, fun j p => List.getElem?_set_ne fun e => h (by rw [e]; exact p)⟩
/-! ### judgements -/
abbrev Ex := Addr × Option (List (Str × V))
def exOk (e : Ex) (d : Option Addr) (H : Hp) : Prop := match e.2 with
  | none => d = none
  | some l => ∃ a, d = some a ∧ H a = some (.xd l)
abbrev EM (α : Type) := Env → Option (Except Ex α × Env)
inductive Out where
  | nx | bk | ct | rt (t : T) | ex (e : Ex)
abbrev SM := Env → Option (Out × Env)
/-- a step that changes nothing that anyone knows of -/
abbrev Pst (B : Tabs) (Z : AS) (H : Hp) (Z' : AS) (H' : Hp) : Prop := Stp B Z non H Z' non H'
section
variable (K : PySem.W.Frag) (B : Tabs)
/-- an expression that is looked at: its value may be a part of what the slots hold -/
def PJ (te : TE) (f : Env → Option T) : Prop := ∀ (Z : AS) (H : Hp) (σ : St) (ρ : Env) (F : AS) (t : T), RepS K Z H σ ρ F → Ok B Z F H → f ρ = some t → ∀ Q : VK,
  (∀ v H' Z' G, Pst B Z H Z' H' → (∀ a, G a → F a ∨ H a = none) → Dj G Z' → Rep K Z' H' t v G → Q v H') → te σ H Q
/-- an expression whose value is new -/
def FJ (te : TE) (f : Env → Option T) : Prop := ∀ (Z : AS) (H : Hp) (σ : St) (ρ : Env) (F : AS) (t : T), RepS K Z H σ ρ F → Ok B Z F H → f ρ = some t → ∀ Q : VK,
  (∀ v H' Z' G, Pst B Z H Z' H' → (∀ a, G a → H a = none) → Dj G Z' → Rep K Z' H' t v G → Q v H') → te σ H Q
/-- an expression that may change what the slots hold -/
def VJ (E : XK) (te : TE) (f : EM T) : Prop := ∀ (Z : AS) (H : Hp) (σ : St) (ρ : Env) (F : AS) (r : Except Ex T) (ρ' : Env), RepS K Z H σ ρ F → Ok B Z F H → f ρ = some (r, ρ') → ∀ Q : VK,
  (∀ t, r = .ok t → ∀ v H' Z' G F', Stp B Z F H Z' (uni G F') H' → Dj G F' → Rep K Z' H' t v G → RepS K Z' H' σ ρ' F' → Q v H') →
  (∀ e, r = .error e → ∀ d H' Z' F', Stp B Z F H Z' F' H' → RepS K Z' H' σ ρ' F' → exOk e d H' → E (.ref e.1) d H') → te σ H Q
/-- a test -/
def TJ (E : XK) (tt : TT) (f : EM Bool) : Prop := ∀ (Z : AS) (H : Hp) (σ : St) (ρ : Env) (F : AS) (r : Except Ex Bool) (ρ' : Env), RepS K Z H σ ρ F → Ok B Z F H → f ρ = some (r, ρ') → ∀ Q : Bool → Hp → Prop,
  (∀ b, r = .ok b → ∀ H' Z' F', Stp B Z F H Z' F' H' → RepS K Z' H' σ ρ' F' → Q b H') →
  (∀ e, r = .error e → ∀ d H' Z' F', Stp B Z F H Z' F' H' → RepS K Z' H' σ ρ' F' → exOk e d H' → E (.ref e.1) d H') → tt σ H Q
/-- values in a row, each one's own -/
def AJ (E : XK) (ta : TA) (f : EM (List T)) : Prop := ∀ (Z : AS) (H : Hp) (σ : St) (ρ : Env) (F : AS) (r : Except Ex (List T)) (ρ' : Env), RepS K Z H σ ρ F → Ok B Z F H → f ρ = some (r, ρ') → ∀ Q : List V → Hp → Prop,
  (∀ ts, r = .ok ts → ∀ vs H' Z' G F', Stp B Z F H Z' (uni G F') H' → Dj G F' → RepL K Z' H' ts vs G → RepS K Z' H' σ ρ' F' → Q vs H') →
  (∀ e, r = .error e → ∀ d H' Z' F', Stp B Z F H Z' F' H' → RepS K Z' H' σ ρ' F' → exOk e d H' → E (.ref e.1) d H') → ta σ H Q
/-- values in a row that are looked at -/
def PAJ (ta : TA) (f : Env → Option (List T)) : Prop := ∀ (Z : AS) (H : Hp) (σ : St) (ρ : Env) (F : AS) (ts : List T), RepS K Z H σ ρ F → Ok B Z F H → f ρ = some ts → ∀ Q : List V → Hp → Prop,
  (∀ vs H' Z', Pst B Z H Z' H' → Paired (fun t v => ∃ G, Rep K Z' H' t v G ∧ Dj G Z' ∧ ∀ a, G a → F a ∨ H a = none) ts vs → Q vs H') → ta σ H Q
/-- a statement; the pinned slots are not given new values -/
def SJ (P : Nat → Prop) (E : XK) (ts : TS) (f : SM) : Prop := ∀ (Z : AS) (H : Hp) (σ : St) (ρ : Env) (F : AS) (o : Out) (ρ' : Env), RepS K Z H σ ρ F → Ok B Z F H → f ρ = some (o, ρ') → ∀ D : Ends,
  (∀ σ' H' Z' F', Sm P σ' σ → Stp B Z F H Z' F' H' → RepS K Z' H' σ' ρ' F' → (o = .nx → D.nx σ' H') ∧ (o = .bk → D.bk σ' H') ∧ (o = .ct → D.ct σ' H') ∧ ∀ e, o = .ex e → ∀ d, exOk e d H' → E (.ref e.1) d H') →
  (∀ t, o = .rt t → ∀ v σ' H' Z' G F', Sm P σ' σ → Stp B Z F H Z' (uni G F') H' → Dj G F' → Rep K Z' H' t v G → RepS K Z' H' σ' ρ' F' → D.rt v H') → ts D σ H
/-- a target is given a value of its own -/
def GJ (P : Nat → Prop) (g : TG) (f : T → Env → Option Env) : Prop := ∀ (Z : AS) (H : Hp) (σ : St) (ρ : Env) (F G : AS) (t : T) (v : V) (ρ' : Env), RepS K Z H σ ρ F → Ok B Z (uni G F) H → Dj G F → Rep K Z H t v G → f t ρ = some ρ' → ∀ Q : St → Hp → Prop,
  (∀ σ' H' Z' F', Sm P σ' σ → Stp B Z (uni G F) H Z' F' H' → RepS K Z' H' σ' ρ' F' → Q σ' H') → g v σ H Q
end
section
variable {K : PySem.W.Frag} {B : Tabs} {E : XK}
theorem Ok.non {Z F : AS} {H : Hp} (o : Ok B Z F H) : Ok B Z non H := o.sub fun _ z => z.elim
theorem Pst.env {Z Z' F : AS} {H H' : Hp} (a : Pst B Z H Z' H') (o : Ok B Z F H) (al : ∀ x, F x → H x ≠ none) : Stp B Z F H Z' F H' := by
  have q := (Stp.frame (R := F) a o.dj Dj.non al).1
  rw [non_uni] at q
  exact q
theorem Pst.more {Z Z' F G : AS} {H H' : Hp} (a : Pst B Z H Z' H') (o : Ok B Z F H) (al : ∀ x, F x → H x ≠ none) (gn : ∀ x, G x → H x = none) (gz : Dj G Z') : Stp B Z F H Z' (uni G F) H' ∧ Dj G F := by
  have q := a.env o al
  refine ⟨⟨q.fx, q.zz, q.zn, fun x z => z.elim (fun z => .inr (gn x z)) .inl, ⟨Dj.uni' gz q.ok.dj, q.ok.zal, q.ok.amb⟩⟩, fun x g f => al x f (gn x g)⟩
theorem RepS.pst {Z Z' F : AS} {H H' : Hp} {σ : St} {ρ : Env} (r : RepS K Z H σ ρ F) (o : Ok B Z F H) (a : Pst B Z H Z' H') : RepS K Z' H' σ ρ F := r.stp o.non a Dj.non
theorem Rep.pst {Z Z' F : AS} {H H' : Hp} {t : T} {v : V} (r : Rep K Z H t v F) (o : Ok B Z non H) (a : Pst B Z H Z' H') : Rep K Z' H' t v F := r.stp o a Dj.non
theorem FJ.pj {te : TE} {f : Env → Option T} (h : FJ K B te f) : PJ K B te f := fun Z H σ ρ F t r o e Q q => h Z H σ ρ F t r o e Q fun v H' Z' G a gn gz rt => q v H' Z' G a (fun x z => .inr (gn x z)) gz rt
def liftO {α : Type} (f : Env → Option α) : EM α := fun ρ => (f ρ).map fun t => (.ok t, ρ)
theorem FJ.vj {te : TE} {f : Env → Option T} (h : FJ K B te f) : VJ K B E te (liftO f) := fun Z H σ ρ F r ρ' rs o e Q q _ => by
  unfold liftO at e
  cases c : f ρ with
  | none => rw [c] at e; cases e
  | some t =>
    rw [c] at e
    cases e
    refine h Z H σ ρ F t rs o c Q fun v H' Z' G a gn gz rt => ?_
    obtain ⟨s, d⟩ := a.more o rs.no gn gz
    exact q t rfl v H' Z' G F s d rt (rs.pst o a)
/-- what is looked at and frozen may be kept -/
def keepF (f : Env → Option T) : Env → Option T := fun ρ => (f ρ).bind fun t => if frzd t = true then some t else none
theorem PJ.fj {te : TE} {f : Env → Option T} (h : PJ K B te f) : FJ K B te (keepF f) := fun Z H σ ρ F t rs o e Q q => by
  unfold keepF at e
  cases c : f ρ with
  | none => rw [c] at e; cases e
  | some u =>
    rw [c] at e
    have e : (if frzd u = true then some u else none) = some t := e
    split at e
    · rename_i z
      cases e
      refine h Z H σ ρ F _ rs o c Q fun v H' Z' G a gn gz rt => ?_
      have := rt.frzd_eq z
      subst this
      exact q v H' Z' non a (fun _ z => z.elim) Dj.non' rt
    · cases e
/-! slots, constants -/
def fVar (i : Nat) : Env → Option T := fun ρ => (ρ[i]?).bind fun t => if isHole t = true then none else some t
theorem pj_var {i : Nat} : PJ K B (tVar i) (fVar i) := fun Z H σ ρ F t rs o e Q q => by
  unfold fVar at e
  cases c : ρ[i]? with
  | none => rw [c] at e; cases e
  | some u =>
    rw [c] at e
    have e : (if isHole u = true then none else some u) = some t := e
    split at e
    · cases e
    · rename_i n
      cases e
      obtain ⟨v, G, hv, rt, sub⟩ := rs.get c (by simpa using n)
      exact ⟨v, hv, q v H Z G (Stp.refl o.non) (fun a g => .inl (sub a g)) (fun a g z => o.dj a (sub a g) z) rt⟩
theorem fj_const {x : V} (h : isRef x = false) : FJ K B (tC x) (fun _ => some (.at x)) := fun Z H σ ρ F t rs o e Q q => by
  cases e
  exact q x H Z non (Stp.refl o.non) (fun _ z => z.elim) Dj.non' (.at h)
/-- a slot's tree is frozen as it is kept elsewhere -/
def fTake (i : Nat) : EM T := fun ρ => (ρ[i]?).bind fun t => if frzd t = true then some (.ok t, ρ) else if canFrz t = true then some (.ok (frz t), ρ.set i (frz t)) else none
theorem canFrz_nh {t : T} (h : canFrz t = true) : isHole t = false := by
  cases t <;> first | rfl | cases h
theorem frzd_nh {t : T} (h : frzd t = true) : isHole t = false := by
  cases t <;> first | rfl | cases h
theorem vj_take {i : Nat} : VJ K B E (tVar i) (fTake i) := fun Z H σ ρ F r ρ' rs o e Q q _ => by
  unfold fTake at e
  cases c : ρ[i]? with
  | none => rw [c] at e; cases e
  | some t =>
    rw [c] at e
    have e : (if frzd t = true then some (Except.ok t, ρ) else if canFrz t = true then some (.ok (frz t), ρ.set i (frz t)) else none) = some (r, ρ') := e
    split at e
    · rename_i z
      cases e
      obtain ⟨v, G, hv, rt, sub⟩ := rs.get c (frzd_nh z)
      have := rt.frzd_eq z
      subst this
      refine ⟨v, hv, q t rfl v H Z non F ?_ Dj.non' rt rs⟩
      rw [non_uni]
      exact Stp.refl o
    · split at e
      · rename_i z
        cases e
        obtain ⟨v, G, R, hv, rt, dj, rfl, rs', rf⟩ := rs.freeze c z
        have st := Stp.freeze o dj rt.al
        refine ⟨v, hv, q _ rfl v H _ non R ?_ Dj.non' rf rs'⟩
        rw [non_uni]
        exact st
      · cases e
end
end TV
/-! Combinators: operators, rows, tests, statements. -/
namespace TV
open PySem L2
def bE {α β : Type} (f : EM α) (g : α → EM β) : EM β := fun ρ => (f ρ).bind fun r => match r with
  | (.ok a, ρ') => g a ρ'
  | (.error e, ρ') => some (.error e, ρ')
def rE {α : Type} (o : Option α) : EM α := fun ρ => o.map fun a => (.ok a, ρ)
theorem bE_ok {α β : Type} {f : EM α} {g : α → EM β} {ρ ρ' : Env} {r : Except Ex β} (h : bE f g ρ = some (r, ρ')) : (∃ a ρ1, f ρ = some (.ok a, ρ1) ∧ g a ρ1 = some (r, ρ')) ∨ ∃ e, f ρ = some (.error e, ρ') ∧ r = .error e := by
  unfold bE at h
  cases c : f ρ with
  | none => rw [c] at h; cases h
  | some x =>
    obtain ⟨a, ρ1⟩ := x
    rw [c] at h
    cases a with
    | ok a => exact .inl ⟨a, ρ1, rfl, h⟩
    | error e =>
      cases h
      exact .inr ⟨e, rfl, rfl⟩
theorem rE_ok {α : Type} {o : Option α} {ρ ρ' : Env} {r : Except Ex α} (h : rE o ρ = some (r, ρ')) : ∃ a, o = some a ∧ r = .ok a ∧ ρ' = ρ := by
  unfold rE at h
  cases o with
  | none => cases h
  | some a =>
    cases h
    exact ⟨a, rfl, rfl, rfl⟩
section
variable (K : PySem.W.Frag) (B : Tabs)
/-- a rule for two values: the result is new -/
def OpS (r : R2) (g : T → T → Option T) : Prop := ∀ (Z : AS) (H : Hp) (x y : V) (t u t' : T) (G1 G2 : AS), Ok B Z non H → Rep K Z H t x G1 → Rep K Z H u y G2 → g t u = some t' → ∀ Q : VK,
  (∀ v H' Z' G, Pst B Z H Z' H' → (∀ a, G a → H a = none) → Dj G Z' → Rep K Z' H' t' v G → Q v H') → r x y H Q
/-- a rule for two values: the result is a part of the first -/
def OpA (r : R2) (g : T → T → Option T) : Prop := ∀ (Z : AS) (H : Hp) (x y : V) (t u t' : T) (G1 G2 : AS), Ok B Z non H → Rep K Z H t x G1 → Rep K Z H u y G2 → g t u = some t' → ∀ Q : VK,
  (∀ v G, (∀ a, G a → G1 a) → Rep K Z H t' v G → Q v H) → r x y H Q
end
section
variable {K : PySem.W.Frag} {B : Tabs} {E : XK}
theorem Pst.trans {Z Z1 Z2 : AS} {H H1 H2 : Hp} (a : Pst B Z H Z1 H1) (b : Pst B Z1 H1 Z2 H2) : Pst B Z H Z2 H2 := Stp.trans a b
theorem Dj.pst {Z Z' G : AS} {H H' : Hp} (d : Dj G Z) (a : Pst B Z H Z' H') (al : ∀ x, G x → H x ≠ none) : Dj G Z' := fun x g z => by
  rcases a.zn x z with z | z | z
  · exact d x g z
  · exact z
  · exact al x g z
def f2 (fa fb : Env → Option T) (g : T → T → Option T) : Env → Option T := fun ρ => (fa ρ).bind fun t => (fb ρ).bind fun u => g t u
theorem f2_ok {fa fb : Env → Option T} {g : T → T → Option T} {ρ : Env} {t' : T} (h : f2 fa fb g ρ = some t') : ∃ t u, fa ρ = some t ∧ fb ρ = some u ∧ g t u = some t' := by
  unfold f2 at h
  cases c : fa ρ with
  | none => rw [c] at h; cases h
  | some t =>
    rw [c] at h
    have h : (fb ρ).bind (fun u => g t u) = some t' := h
    cases d : fb ρ with
    | none => rw [d] at h; cases h
    | some u =>
      rw [d] at h
      exact ⟨t, u, rfl, rfl, h⟩
theorem fj_op {r : R2} {g : T → T → Option T} {ta tb : TE} {fa fb : Env → Option T} (hr : OpS K B r g) (ha : PJ K B ta fa) (hb : PJ K B tb fb) : FJ K B (tOp r ta tb) (f2 fa fb g) := fun Z H σ ρ F t' rs o e Q q => by
  obtain ⟨t, u, e1, e2, e3⟩ := f2_ok e
  refine ha Z H σ ρ F t rs o e1 _ fun x H1 Z1 G1 a1 s1 d1 r1 => ?_
  have rs1 := rs.pst o a1
  have o1 := (a1.env o rs.no).ok
  refine hb Z1 H1 σ ρ F u rs1 o1 e2 _ fun y H2 Z2 G2 a2 s2 d2 r2 => ?_
  have r1' := r1.pst o1.non a2
  refine hr Z2 H2 x y t u t' G1 G2 a2.ok r1' r2 e3 _ fun v H3 Z3 G a3 gn dz rt => ?_
  exact q v H3 Z3 G (a1.trans (a2.trans a3)) (fun z g => a1.fx.al _ (a2.fx.al _ (gn z g))) dz rt
theorem pj_opA {r : R2} {g : T → T → Option T} {ta tb : TE} {fa fb : Env → Option T} (hr : OpA K B r g) (ha : PJ K B ta fa) (hb : PJ K B tb fb) : PJ K B (tOp r ta tb) (f2 fa fb g) := fun Z H σ ρ F t' rs o e Q q => by
  obtain ⟨t, u, e1, e2, e3⟩ := f2_ok e
  refine ha Z H σ ρ F t rs o e1 _ fun x H1 Z1 G1 a1 s1 d1 r1 => ?_
  have rs1 := rs.pst o a1
  have o1 := (a1.env o rs.no).ok
  refine hb Z1 H1 σ ρ F u rs1 o1 e2 _ fun y H2 Z2 G2 a2 s2 d2 r2 => ?_
  have r1' := r1.pst o1.non a2
  refine hr Z2 H2 x y t u t' G1 G2 a2.ok r1' r2 e3 _ fun v G sub rt => ?_
  refine q v H2 Z2 G (a1.trans a2) (fun z g => s1 z (sub z g)) (fun z g => ?_) rt
  exact d1.pst a2 (fun x g => r1.no g) z (sub z g)
/-- both may change the slots -/
def f2V (fa fb : EM T) (g : T → T → Option T) : EM T := bE fa fun t => bE fb fun u => rE (g t u)
theorem vj_op {r : R2} {g : T → T → Option T} {ta tb : TE} {fa fb : EM T} (hr : OpS K B r g) (ha : VJ K B E ta fa) (hb : VJ K B E tb fb) : VJ K B E (tOp r ta tb) (f2V fa fb g) := fun Z H σ ρ F r ρ' rs o e Q q qe => by
  rcases bE_ok e with ⟨t, ρ1, e1, e⟩ | ⟨x, e1, rfl⟩
  · refine ha Z H σ ρ F _ ρ1 rs o e1 _ (fun t1 et x H1 Z1 G1 F1 s1 d1 r1 rs1 => ?_) fun x ex => by cases ex
    cases et
    have o1 := s1.ok.sub (G := F1) fun a z => .inr z
    have sF := s1.less (G := F1) fun a z => .inr z
    rcases bE_ok e with ⟨u, ρ2, e2, e⟩ | ⟨x, e2, rfl⟩
    · refine hb Z1 H1 σ ρ1 F1 _ ρ2 rs1 o1 e2 _ (fun u1 eu y H2 Z2 G2 F2 s2 d2 r2 rs2 => ?_) fun x ex => by cases ex
      cases eu
      obtain ⟨t', e3, rfl, rfl⟩ := rE_ok e
      have r1' := r1.stp o1 s2 d1
      have o2 := s2.ok
      refine hr Z2 H2 x y t u t' G1 G2 o2.non r1' r2 e3 _ fun v H3 Z3 G a3 gn dz rt => ?_
      have o2' := o2.sub (G := F2) fun a z => .inr z
      obtain ⟨s3, d3⟩ := a3.more o2' rs2.no gn dz
      exact q t' rfl v H3 Z3 G F2 ((sF.trans (s2.less fun a z => .inr z)).trans s3) d3 rt (rs2.pst o2' a3)
    · refine hb Z1 H1 σ ρ1 F1 _ ρ' rs1 o1 e2 _ (fun u1 eu => by cases eu) fun x' ex d H2 Z2 F2 s2 rs2 xo => ?_
      cases ex
      exact qe x rfl d H2 Z2 F2 (sF.trans s2) rs2 xo
  · refine ha Z H σ ρ F _ ρ' rs o e1 _ (fun t1 et => by cases et) fun x' ex d H1 Z1 F1 s1 rs1 xo => ?_
    cases ex
    exact qe x rfl d H1 Z1 F1 s1 rs1 xo
/-- the second is looked at -/
def fVP (fa : EM T) (fb : Env → Option T) (g : T → T → Option T) : EM T := bE fa fun t ρ => (fb ρ).bind fun u => (g t u).map fun t' => (.ok t', ρ)
theorem vj_opP {r : R2} {g : T → T → Option T} {ta tb : TE} {fa : EM T} {fb : Env → Option T} (hr : OpS K B r g) (ha : VJ K B E ta fa) (hb : PJ K B tb fb) : VJ K B E (tOp r ta tb) (fVP fa fb g) := fun Z H σ ρ F r ρ' rs o e Q q qe => by
  rcases bE_ok e with ⟨t, ρ1, e1, e⟩ | ⟨x, e1, rfl⟩
  · refine ha Z H σ ρ F _ ρ1 rs o e1 _ (fun t1 et x H1 Z1 G1 F1 s1 d1 r1 rs1 => ?_) fun x ex => by cases ex
    cases et
    have o1 := s1.ok.sub (G := F1) fun a z => .inr z
    have sF := s1.less (G := F1) fun a z => .inr z
    cases e2 : fb ρ1 with
    | none => simp only [e2] at e; cases e
    | some u =>
      simp only [e2] at e
      have e : (g t u).map (fun t' => ((Except.ok t', ρ1) : Except Ex T × Env)) = some (r, ρ') := e
      cases e3 : g t u with
      | none => rw [e3] at e; cases e
      | some t' =>
        rw [e3] at e
        cases e
        refine hb Z1 H1 σ _ F1 u rs1 o1 e2 _ fun y H2 Z2 G2 a2 s2 d2 r2 => ?_
        have r1' := r1.pst o1.non a2
        have sp := a2.env o1 rs1.no
        refine hr Z2 H2 x y t u t' G1 G2 a2.ok r1' r2 e3 _ fun v H3 Z3 G a3 gn dz rt => ?_
        obtain ⟨s3, d3⟩ := a3.more sp.ok (rs1.pst o1 a2).no gn dz
        exact q t' rfl v H3 Z3 G F1 ((sF.trans sp).trans s3) d3 rt ((rs1.pst o1 a2).pst sp.ok a3)
  · refine ha Z H σ ρ F _ ρ' rs o e1 _ (fun t1 et => by cases et) fun x' ex d H1 Z1 F1 s1 rs1 xo => ?_
    cases ex
    exact qe x rfl d H1 Z1 F1 s1 rs1 xo
/-- the first is a slot, read as it stands behind the second -/
def fSV (i : Nat) (fb : EM T) (g : T → T → Option T) : EM T := fun ρ => (fVar i ρ).bind fun _ => bE fb (fun u ρ => (fVar i ρ).bind fun t => (g t u).map fun t' => (.ok t', ρ)) ρ
theorem fVar_get {i : Nat} {ρ : Env} {t : T} (h : fVar i ρ = some t) : ρ[i]? = some t ∧ isHole t = false := by
  unfold fVar at h
  cases c : ρ[i]? with
  | none => rw [c] at h; cases h
  | some u =>
    rw [c] at h
    have h : (if isHole u = true then none else some u) = some t := h
    split at h
    · cases h
    · rename_i n
      cases h
      exact ⟨rfl, by simpa using n⟩
theorem vj_opS {r : R2} {g : T → T → Option T} {i : Nat} {tb : TE} {fb : EM T} (hr : OpS K B r g) (hb : VJ K B E tb fb) : VJ K B E (tOp r (tVar i) tb) (fSV i fb g) := fun Z H σ ρ F r ρ' rs o e Q q qe => by
  unfold fSV at e
  cases c : fVar i ρ with
  | none => rw [c] at e; cases e
  | some t0 =>
    rw [c] at e
    obtain ⟨c1, c2⟩ := fVar_get c
    obtain ⟨x, G0, hx, _, _⟩ := rs.get c1 c2
    refine ⟨x, hx, ?_⟩
    rcases bE_ok e with ⟨u, ρ1, e1, e⟩ | ⟨x, e1, rfl⟩
    · refine hb Z H σ ρ F _ ρ1 rs o e1 _ (fun u1 eu y H1 Z1 G2 F1 s1 d1 r2 rs1 => ?_) fun x ex => by cases ex
      cases eu
      have o1 := s1.ok.sub (G := F1) fun a z => .inr z
      have sF := s1.less (G := F1) fun a z => .inr z
      cases e2 : fVar i ρ1 with
      | none => simp only [e2] at e; cases e
      | some t =>
        simp only [e2] at e
        have e : (g t u).map (fun t' => ((Except.ok t', ρ1) : Except Ex T × Env)) = some (r, ρ') := e
        cases e3 : g t u with
        | none => rw [e3] at e; cases e
        | some t' =>
          rw [e3] at e
          obtain ⟨c3, c4⟩ := fVar_get e2
          obtain ⟨x', G1, hx', r1, _⟩ := rs1.get c3 c4
          rw [hx] at hx'
          cases hx'
          cases e
          refine hr Z1 H1 x y t u t' G1 G2 o1.non r1 r2 e3 _ fun v H3 Z3 G a3 gn dz rt => ?_
          obtain ⟨s3, d3⟩ := a3.more o1 rs1.no gn dz
          exact q t' rfl v H3 Z3 G F1 (sF.trans s3) d3 rt (rs1.pst o1 a3)
    · refine hb Z H σ ρ F _ ρ' rs o e1 _ (fun u1 eu => by cases eu) fun x' ex d H2 Z2 F2 s2 rs2 xo => ?_
      cases ex
      exact qe _ rfl d H2 Z2 F2 s2 rs2 xo
/-- a part of the slot's tree, frozen -/
theorem vj_opAS {r : R2} {g : T → T → Option T} {i : Nat} {tb : TE} {fb : EM T} (hr : OpA K B r g) (hb : VJ K B E tb fb) : VJ K B E (tOp r (tVar i) tb) (fSV i fb fun t u => (g t u).bind fun t' => if frzd t' = true then some t' else none) :=
  vj_opS (fun Z H x y t u t' G1 G2 o r1 r2 e Q q => by
    cases c : g t u with
    | none => rw [c] at e; cases e
    | some t1 =>
      rw [c] at e
      have e : (if frzd t1 = true then some t1 else none) = some t' := e
      split at e
      · rename_i z
        cases e
        refine hr Z H x y t u _ G1 G2 o r1 r2 c Q fun v G sub rt => ?_
        have := rt.frzd_eq z
        subst this
        exact q v H Z non (Stp.refl o) (fun _ z => z.elim) Dj.non' rt
      · cases e) hb
/-- a part of what is new -/
theorem vj_opA {r : R2} {g : T → T → Option T} {ta tb : TE} {fa fb : EM T} (hr : OpA K B r g) (ha : VJ K B E ta fa) (hb : VJ K B E tb fb) : VJ K B E (tOp r ta tb) (f2V fa fb g) := fun Z H σ ρ F r ρ' rs o e Q q qe => by
  rcases bE_ok e with ⟨t, ρ1, e1, e⟩ | ⟨x, e1, rfl⟩
  · refine ha Z H σ ρ F _ ρ1 rs o e1 _ (fun t1 et x H1 Z1 G1 F1 s1 d1 r1 rs1 => ?_) fun x ex => by cases ex
    cases et
    have o1 := s1.ok.sub (G := F1) fun a z => .inr z
    have sF := s1.less (G := F1) fun a z => .inr z
    rcases bE_ok e with ⟨u, ρ2, e2, e⟩ | ⟨x, e2, rfl⟩
    · refine hb Z1 H1 σ ρ1 F1 _ ρ2 rs1 o1 e2 _ (fun u1 eu y H2 Z2 G2 F2 s2 d2 r2 rs2 => ?_) fun x ex => by cases ex
      cases eu
      obtain ⟨t', e3, rfl, rfl⟩ := rE_ok e
      have r1' := r1.stp o1 s2 d1
      have o2 := s2.ok
      refine hr Z2 H2 x y t u t' G1 G2 o2.non r1' r2 e3 _ fun v G sub rt => ?_
      obtain ⟨f1, f2, f3⟩ := Stp.frame (R := G1) s2 (fun a g z => s1.ok.dj a (.inl g) z) d1 (fun a g => r1.no g)
      have s12 : Stp B Z F H Z2 (uni (uni G2 F2) G1) H2 := by
        have z := s1
        rw [uni_comm] at z
        exact z.trans f1
      refine q t' rfl v H2 Z2 G F2 (s12.less fun a z => ?_) (fun a g f => f2 a (.inr f) (sub a g)) rt rs2
      rcases z with z | z
      · exact .inr (sub a z)
      · exact .inl (.inr z)
    · refine hb Z1 H1 σ ρ1 F1 _ ρ' rs1 o1 e2 _ (fun u1 eu => by cases eu) fun x' ex d H2 Z2 F2 s2 rs2 xo => ?_
      cases ex
      exact qe x rfl d H2 Z2 F2 (sF.trans s2) rs2 xo
  · refine ha Z H σ ρ F _ ρ' rs o e1 _ (fun t1 et => by cases et) fun x' ex d H1 Z1 F1 s1 rs1 xo => ?_
    cases ex
    exact qe x rfl d H1 Z1 F1 s1 rs1 xo
/-! rows of values -/
def fNil : EM (List T) := fun ρ => some (.ok [], ρ)
theorem aj_nil : AJ K B E tNil fNil := fun Z H σ ρ F r ρ' rs o e Q q _ => by
  cases e
  refine q [] rfl [] H Z non F ?_ Dj.non' .nil rs
  rw [non_uni]
  exact Stp.refl o
def fCons (fa : EM T) (fr : EM (List T)) : EM (List T) := bE fa fun t => bE fr fun ts => rE (some (t :: ts))
theorem aj_cons {ta : TE} {tr : TA} {fa : EM T} {fr : EM (List T)} (ha : VJ K B E ta fa) (hb : AJ K B E tr fr) : AJ K B E (tCons ta tr) (fCons fa fr) := fun Z H σ ρ F r ρ' rs o e Q q qe => by
  rcases bE_ok e with ⟨t, ρ1, e1, e⟩ | ⟨x, e1, rfl⟩
  · refine ha Z H σ ρ F _ ρ1 rs o e1 _ (fun t1 et x H1 Z1 G1 F1 s1 d1 r1 rs1 => ?_) fun x ex => by cases ex
    cases et
    have o1 := s1.ok.sub (G := F1) fun a z => .inr z
    have sF := s1.less (G := F1) fun a z => .inr z
    rcases bE_ok e with ⟨u, ρ2, e2, e⟩ | ⟨x, e2, rfl⟩
    · refine hb Z1 H1 σ ρ1 F1 _ ρ2 rs1 o1 e2 _ (fun u1 eu y H2 Z2 G2 F2 s2 d2 r2 rs2 => ?_) fun x ex => by cases ex
      cases eu
      obtain ⟨t', e3, rfl, rfl⟩ := rE_ok e
      cases e3
      have r1' := r1.stp o1 s2 d1
      obtain ⟨f1, f2, f3⟩ := Stp.frame (R := G1) s2 (fun a g z => s1.ok.dj a (.inl g) z) d1 (fun a g => r1.no g)
      have s12 : Stp B Z F H Z2 (uni (uni G2 F2) G1) H2 := by
        have z := s1
        rw [uni_comm] at z
        exact z.trans f1
      refine q _ rfl _ H2 Z2 (uni G1 G2) F2 (s12.less fun a z => ?_) (Dj.uni' (fun a g f => f2 a (.inr f) g) d2) (.cons r1' r2 fun a g f => f2 a (.inl f) g) rs2
      rcases z with (z | z) | z
      · exact .inr z
      · exact .inl (.inl z)
      · exact .inl (.inr z)
    · refine hb Z1 H1 σ ρ1 F1 _ ρ' rs1 o1 e2 _ (fun u1 eu => by cases eu) fun x' ex d H2 Z2 F2 s2 rs2 xo => ?_
      cases ex
      exact qe x rfl d H2 Z2 F2 (sF.trans s2) rs2 xo
  · refine ha Z H σ ρ F _ ρ' rs o e1 _ (fun t1 et => by cases et) fun x' ex d H1 Z1 F1 s1 rs1 xo => ?_
    cases ex
    exact qe x rfl d H1 Z1 F1 s1 rs1 xo
/-- what is owned is frozen as it is kept -/
def fFrz (f : EM T) : EM T := bE f fun t => rE (if canFrz t = true then some (frz t) else none)
theorem vj_frz {te : TE} {f : EM T} (h : VJ K B E te f) : VJ K B E te (fFrz f) := fun Z H σ ρ F r ρ' rs o e Q q qe => by
  rcases bE_ok e with ⟨t, ρ1, e1, e⟩ | ⟨x, e1, rfl⟩
  · refine h Z H σ ρ F _ ρ1 rs o e1 _ (fun t1 et x H1 Z1 G1 F1 s1 d1 r1 rs1 => ?_) fun x ex => by cases ex
    cases et
    obtain ⟨t', e3, rfl, rfl⟩ := rE_ok e
    split at e3
    · rename_i c
      cases e3
      have st := Stp.freeze s1.ok d1 r1.al
      have rf := r1.frz (Z' := uni Z1 G1) (fun _ z => .inl z) c fun a g => .inr g
      refine q _ rfl x H1 (uni Z1 G1) non F1 ?_ Dj.non' rf (rs1.st Fx.refl (fun _ z => .inl z) Dj.non Dj.non)
      rw [non_uni]
      exact s1.trans st
    · cases e3
  · refine h Z H σ ρ F _ ρ' rs o e1 _ (fun t1 et => by cases et) fun x' ex d H1 Z1 F1 s1 rs1 xo => ?_
    cases ex
    exact qe x rfl d H1 Z1 F1 s1 rs1 xo
def fTup (fs : EM (List T)) : EM T := bE fs fun ts => rE (if ts.length ≤ 1000 then some (.nd .tup ts) else none)
theorem vj_tup {ta : TA} {fs : EM (List T)} (h : AJ K B E ta fs) : VJ K B E (tTup ta) (fTup fs) := fun Z H σ ρ F r ρ' rs o e Q q qe => by
  rcases bE_ok e with ⟨ts, ρ1, e1, e⟩ | ⟨x, e1, rfl⟩
  · refine h Z H σ ρ F _ ρ1 rs o e1 _ (fun t1 et vs H1 Z1 G1 F1 s1 d1 r1 rs1 => ?_) fun x ex => by cases ex
    cases et
    obtain ⟨t', e3, rfl, rfl⟩ := rE_ok e
    split at e3
    · rename_i c
      cases e3
      refine ⟨by rw [← r1.length]; exact Nat.le_of_lt (small c), fun p np => ?_⟩
      have s2 := Stp.new0 (o := .tup vs) s1.ok np (fun x z => z.elim (fun z => r1.no z) (rs1.no x))
      have al : ∀ x, uni G1 F1 x → H1 x ≠ none := fun x z => z.elim (fun z => r1.no z) (rs1.no x)
      have f : Fx non H1 (upd H1 p (.tup vs)) := Fx.new np
      have r2 : RepL K Z1 (upd H1 p (.tup vs)) ts vs G1 := RepL.st f (fun _ z => z) Dj.non r1 Dj.non
      have r3 := Rep.nd (k := .tup) (a := p) (K := K) (Z := Z1) (H := upd H1 p (.tup vs)) upd_same r2 fun c => by cases c
      refine q _ rfl (.ref p) _ Z1 G1 F1 (s1.trans s2) d1 r3 ?_
      exact rs1.st f (fun _ z => z) Dj.non Dj.non
    · cases e3
  · refine h Z H σ ρ F _ ρ' rs o e1 _ (fun t1 et => by cases et) fun x' ex d H1 Z1 F1 s1 rs1 xo => ?_
    cases ex
    exact qe x rfl d H1 Z1 F1 s1 rs1 xo
def fLst (fs : EM (List T)) : EM T := bE fs fun ts => rE (if ts.length ≤ 1000 then some (.nd (.lst true) ts) else none)
theorem vj_lst {ta : TA} {fs : EM (List T)} (h : AJ K B E ta fs) : VJ K B E (tLst ta) (fLst fs) := fun Z H σ ρ F r ρ' rs o e Q q qe => by
  rcases bE_ok e with ⟨ts, ρ1, e1, e⟩ | ⟨x, e1, rfl⟩
  · refine h Z H σ ρ F _ ρ1 rs o e1 _ (fun t1 et vs H1 Z1 G1 F1 s1 d1 r1 rs1 => ?_) fun x ex => by cases ex
    cases et
    obtain ⟨t', e3, rfl, rfl⟩ := rE_ok e
    split at e3
    · rename_i c
      cases e3
      refine ⟨by rw [← r1.length]; exact Nat.le_of_lt (small c), fun p np => ?_⟩
      have al : ∀ x, uni G1 F1 x → H1 x ≠ none := fun x z => z.elim (fun z => r1.no z) (rs1.no x)
      have s2 := Stp.new (o := .lst vs) s1.ok np al
      have f : Fx non H1 (upd H1 p (.lst vs)) := Fx.new np
      have r2 : RepL K Z1 (upd H1 p (.lst vs)) ts vs G1 := RepL.st f (fun _ z => z) Dj.non r1 Dj.non
      have r3 := Rep.nd (k := .lst true) (a := p) (K := K) (Z := Z1) (H := upd H1 p (.lst vs)) upd_same r2 fun _ z => r1.no z np
      rw [show put (.lst true) p G1 = uni (one p) G1 from rfl] at r3
      refine q _ rfl (.ref p) _ Z1 (uni (one p) G1) F1 (by rw [uni_assoc]; exact s1.trans s2) (Dj.uni' (fun a g z => rs1.no a z (by rw [show a = p from g]; exact np)) d1) r3 ?_
      exact rs1.st f (fun _ z => z) Dj.non Dj.non
    · cases e3
  · refine h Z H σ ρ F _ ρ' rs o e1 _ (fun t1 et => by cases et) fun x' ex d H1 Z1 F1 s1 rs1 xo => ?_
    cases ex
    exact qe x rfl d H1 Z1 F1 s1 rs1 xo
end
end TV
/-! Tests, statements. -/
namespace TV
open PySem L2
section
variable {K : PySem.W.Frag} {B : Tabs} {E : XK} {P : Nat → Prop}
def asB : T → Option Bool
  | .at (.bl b) => some b
  | _ => none
theorem asB_eq {t : T} {b : Bool} (h : asB t = some b) : t = .at (.bl b) := by
  cases t with
  | «at» v => cases v <;> first | (cases h; rfl) | cases h
  | hole => cases h
  | nd k ts => cases h
theorem Rep.at_eq {Z F : AS} {H : Hp} {x v : V} (r : Rep K Z H (.at x) v F) : v = x ∧ F = non := by
  cases r
  exact ⟨rfl, rfl⟩
/-- an error goes on -/
theorem bE_er {α β : Type} {f : EM α} {g : α → EM β} {ρ ρ' : Env} {e : Ex} (h : f ρ = some (.error e, ρ')) : bE f g ρ = some (.error e, ρ') := by
  unfold bE
  rw [h]
  rfl
def fTest (f : EM T) : EM Bool := bE f fun t => rE (asB t)
theorem tj_B {te : TE} {f : EM T} (h : VJ K B E te f) : TJ K B E (tB te) (fTest f) := fun Z H σ ρ F r ρ' rs o e Q q qe => by
  rcases bE_ok e with ⟨t, ρ1, e1, e⟩ | ⟨x, e1, rfl⟩
  · obtain ⟨b, e3, rfl, rfl⟩ := rE_ok e
    cases asB_eq e3
    refine h Z H σ ρ F _ _ rs o e1 _ (fun t1 et v H1 Z1 G1 F1 s1 d1 r1 rs1 => ?_) fun x ex => by cases ex
    cases et
    obtain ⟨rfl, rfl⟩ := r1.at_eq
    rw [non_uni] at s1
    exact ⟨b, rfl, q b rfl H1 Z1 F1 s1 rs1⟩
  · refine h Z H σ ρ F _ ρ' rs o e1 _ (fun t1 et => by cases et) fun x' ex d H1 Z1 F1 s1 rs1 xo => ?_
    cases ex
    exact qe x rfl d H1 Z1 F1 s1 rs1 xo
theorem tj_test {te : TE} {f : EM T} (h : VJ K B E te f) : TJ K B E (tTest te) (fTest f) := tj_B h
/-- a test of a value's truth -/
def truT : T → Option Bool
  | .at .non => some false
  | .at (.bl b) => some b
  | .at (.int i) => some (i != 0)
  | .nd (.lst _) ts => some (!ts.isEmpty)
  | .nd (.dk true _) ts => some (!ts.isEmpty)
  | _ => none
theorem HasObj.sql {Z : AS} {H : Hp} {a : Addr} {m : Bool} {vs : List V} (h : HasObj K Z H a (.lst m) vs) : SqL K H a vs := by
  cases m with
  | true => exact .of h
  | false => exact .of h.2
theorem HasObj.sqs {Z : AS} {H : Hp} {a : Addr} {vs : List V} (h : HasObj K Z H a .scr vs) : SqL K H a vs := by
  rcases h with ⟨o, h⟩ | h
  · exact .inl (.inr ⟨o, h⟩)
  · exact .inr h
theorem HasObj.lst {Z : AS} {H : Hp} {a : Addr} {m : Bool} {vs : List V} (h : HasObj K Z H a (.lst m) vs) : H a = some (.lst vs) := by
  cases m with
  | true => exact h
  | false => exact h.2
theorem tru_ok {Z : AS} {H : Hp} {t : T} {v : V} {G : AS} {b : Bool} (r : Rep K Z H t v G) (h : truT t = some b) : TruV K v H b := by
  cases r with
  | «at» n =>
    cases v <;> first | (cases h; rfl) | cases h
  | hole => cases h
  | nd ho hl hn =>
    rename_i k ts a vs F
    have el : vs.isEmpty = ts.isEmpty := by
      have := hl.length
      cases ts <;> cases vs <;> first | rfl | (simp at this)
    cases k with
    | lst m =>
      cases h
      exact .inl ⟨vs, ho.sql, by rw [el]⟩
    | dk m ks =>
      cases m with
      | false => cases h
      | true =>
        cases h
        obtain ⟨h1, h2, _, _⟩ := ho
        refine .inr (.inr ⟨_, h2, ?_⟩)
        have := hl.length
        cases ts <;> cases vs <;> cases ks <;> first | rfl | (simp at h1 this)
    | tup => cases h
    | scr => cases h
    | dt _ _ => cases h
    | obj _ _ => cases h
def fTru (f : Env → Option T) : EM Bool := fun ρ => ((f ρ).bind truT).map fun b => (.ok b, ρ)
theorem tj_tru {te : TE} {f : Env → Option T} (h : PJ K B te f) : TJ K B E (fun σ H Q => te σ H fun x H' => ∃ k, TruV K x H' k ∧ Q k H') (fTru f) := fun Z H σ ρ F r ρ' rs o e Q q qe => by
  unfold fTru at e
  cases c : f ρ with
  | none => rw [c] at e; cases e
  | some t =>
    rw [c] at e
    have e : (truT t).map (fun b => ((Except.ok b, ρ) : Except Ex Bool × Env)) = some (r, ρ') := e
    cases e3 : truT t with
    | none => rw [e3] at e; cases e
    | some b =>
      rw [e3] at e
      cases e
      refine h Z H σ _ F t rs o c _ fun v H1 Z1 G a1 s1 d1 r1 => ⟨b, tru_ok r1 e3, ?_⟩
      have s := a1.env o rs.no
      exact q b rfl H1 Z1 F s (rs.pst o a1)
def fNot (f : EM Bool) : EM Bool := bE f fun b => rE (some !b)
theorem tj_not {tt : TT} {f : EM Bool} (h : TJ K B E tt f) : TJ K B E (tNot tt) (fNot f) := fun Z H σ ρ F r ρ' rs o e Q q qe => by
  rcases bE_ok e with ⟨t, ρ1, e1, e⟩ | ⟨x, e1, rfl⟩
  · obtain ⟨b, e3, rfl, rfl⟩ := rE_ok e
    cases e3
    exact h Z H σ ρ F _ _ rs o e1 _ (fun t1 et H1 Z1 F1 s1 rs1 => by cases et; exact q _ rfl H1 Z1 F1 s1 rs1) fun x ex => by cases ex
  · exact h Z H σ ρ F _ ρ' rs o e1 _ (fun t1 et => by cases et) fun x' ex d H1 Z1 F1 s1 rs1 xo => by
      cases ex
      exact qe x rfl d H1 Z1 F1 s1 rs1 xo
def fIf {α : Type} (c : EM Bool) (a b : EM α) : EM α := bE c fun k => if k = true then a else b
theorem tj_and {t u : TT} {f g : EM Bool} (ht : TJ K B E t f) (hu : TJ K B E u g) : TJ K B E (tAnd t u) (fIf f g (rE (some false))) := fun Z H σ ρ F r ρ' rs o e Q q qe => by
  rcases bE_ok e with ⟨k, ρ1, e1, e⟩ | ⟨x, e1, rfl⟩
  · refine ht Z H σ ρ F _ _ rs o e1 _ (fun t1 et H1 Z1 F1 s1 rs1 => ?_) fun x ex => by cases ex
    cases et
    cases k with
    | true => exact iteT (hu Z1 H1 σ ρ1 F1 r ρ' rs1 s1.ok e Q (fun b eb H2 Z2 F2 s2 rs2 => q b eb H2 Z2 F2 (s1.trans s2) rs2) fun x ex d H2 Z2 F2 s2 rs2 xo => qe x ex d H2 Z2 F2 (s1.trans s2) rs2 xo)
    | false =>
      obtain ⟨b, e3, rfl, rfl⟩ := rE_ok e
      cases e3
      exact iteF (q false rfl H1 Z1 F1 s1 rs1)
  · exact ht Z H σ ρ F _ ρ' rs o e1 _ (fun t1 et => by cases et) fun x' ex d H1 Z1 F1 s1 rs1 xo => by
      cases ex
      exact qe x rfl d H1 Z1 F1 s1 rs1 xo
theorem tj_or {t u : TT} {f g : EM Bool} (ht : TJ K B E t f) (hu : TJ K B E u g) : TJ K B E (tOr t u) (fIf f (rE (some true)) g) := fun Z H σ ρ F r ρ' rs o e Q q qe => by
  rcases bE_ok e with ⟨k, ρ1, e1, e⟩ | ⟨x, e1, rfl⟩
  · refine ht Z H σ ρ F _ _ rs o e1 _ (fun t1 et H1 Z1 F1 s1 rs1 => ?_) fun x ex => by cases ex
    cases et
    cases k with
    | false => exact iteF (hu Z1 H1 σ ρ1 F1 r ρ' rs1 s1.ok e Q (fun b eb H2 Z2 F2 s2 rs2 => q b eb H2 Z2 F2 (s1.trans s2) rs2) fun x ex d H2 Z2 F2 s2 rs2 xo => qe x ex d H2 Z2 F2 (s1.trans s2) rs2 xo)
    | true =>
      obtain ⟨b, e3, rfl, rfl⟩ := rE_ok e
      cases e3
      exact iteT (q true rfl H1 Z1 F1 s1 rs1)
  · exact ht Z H σ ρ F _ ρ' rs o e1 _ (fun t1 et => by cases et) fun x' ex d H1 Z1 F1 s1 rs1 xo => by
      cases ex
      exact qe x rfl d H1 Z1 F1 s1 rs1 xo
/-- a test as a value -/
def fVal (f : EM Bool) : EM T := bE f fun b => rE (some (.at (.bl b)))
theorem vj_if {tt : TT} {ta tb : TE} {c : EM Bool} {fa fb : EM T} (ht : TJ K B E tt c) (ha : VJ K B E ta fa) (hb : VJ K B E tb fb) : VJ K B E (tIf tt ta tb) (fIf c fa fb) := fun Z H σ ρ F r ρ' rs o e Q q qe => by
  rcases bE_ok e with ⟨k, ρ1, e1, e⟩ | ⟨x, e1, rfl⟩
  · refine ht Z H σ ρ F _ _ rs o e1 _ (fun t1 et H1 Z1 F1 s1 rs1 => ?_) fun x ex => by cases ex
    cases et
    cases k with
    | true => exact iteT (ha Z1 H1 σ ρ1 F1 r ρ' rs1 s1.ok e Q (fun b eb v H2 Z2 G2 F2 s2 d2 r2 rs2 => q b eb v H2 Z2 G2 F2 (s1.trans s2) d2 r2 rs2) fun x ex d H2 Z2 F2 s2 rs2 xo => qe x ex d H2 Z2 F2 (s1.trans s2) rs2 xo)
    | false => exact iteF (hb Z1 H1 σ ρ1 F1 r ρ' rs1 s1.ok e Q (fun b eb v H2 Z2 G2 F2 s2 d2 r2 rs2 => q b eb v H2 Z2 G2 F2 (s1.trans s2) d2 r2 rs2) fun x ex d H2 Z2 F2 s2 rs2 xo => qe x ex d H2 Z2 F2 (s1.trans s2) rs2 xo)
  · exact ht Z H σ ρ F _ ρ' rs o e1 _ (fun t1 et => by cases et) fun x' ex d H1 Z1 F1 s1 rs1 xo => by
      cases ex
      exact qe x rfl d H1 Z1 F1 s1 rs1 xo
/-- and, or of values that are bools -/
theorem vj_andV {ta tb : TE} {fa fb : EM T} (ha : VJ K B E ta fa) (hb : VJ K B E tb fb) : VJ K B E (tAndV ta tb) (fIf (fTest fa) fb (rE (some (.at (.bl false))))) := fun Z H σ ρ F r ρ' rs o e Q q qe => by
  rcases bE_ok e with ⟨k, ρ1, e1, e⟩ | ⟨x, e1, rfl⟩
  · refine tj_B ha Z H σ ρ F _ _ rs o e1 (fun c H1 => if c = true then tb σ H1 Q else Q (.bl false) H1) (fun t1 et H1 Z1 F1 s1 rs1 => ?_) fun x ex => by cases ex
    cases et
    cases k with
    | true => exact iteT (hb Z1 H1 σ ρ1 F1 r ρ' rs1 s1.ok e Q (fun b eb v H2 Z2 G2 F2 s2 d2 r2 rs2 => q b eb v H2 Z2 G2 F2 (s1.trans s2) d2 r2 rs2) fun x ex d H2 Z2 F2 s2 rs2 xo => qe x ex d H2 Z2 F2 (s1.trans s2) rs2 xo)
    | false =>
      obtain ⟨b, e3, rfl, rfl⟩ := rE_ok e
      cases e3
      exact iteF (q _ rfl _ H1 Z1 non F1 (by rw [non_uni]; exact s1) Dj.non' (.at rfl) rs1)
  · exact tj_B ha Z H σ ρ F _ ρ' rs o e1 _ (fun t1 et => by cases et) fun x' ex d H1 Z1 F1 s1 rs1 xo => by
      cases ex
      exact qe x rfl d H1 Z1 F1 s1 rs1 xo
theorem vj_orV {ta tb : TE} {fa fb : EM T} (ha : VJ K B E ta fa) (hb : VJ K B E tb fb) : VJ K B E (tOrV ta tb) (fIf (fTest fa) (rE (some (.at (.bl true)))) fb) := fun Z H σ ρ F r ρ' rs o e Q q qe => by
  rcases bE_ok e with ⟨k, ρ1, e1, e⟩ | ⟨x, e1, rfl⟩
  · refine tj_B ha Z H σ ρ F _ _ rs o e1 (fun c H1 => if c = true then Q (.bl true) H1 else tb σ H1 Q) (fun t1 et H1 Z1 F1 s1 rs1 => ?_) fun x ex => by cases ex
    cases et
    cases k with
    | false => exact iteF (hb Z1 H1 σ ρ1 F1 r ρ' rs1 s1.ok e Q (fun b eb v H2 Z2 G2 F2 s2 d2 r2 rs2 => q b eb v H2 Z2 G2 F2 (s1.trans s2) d2 r2 rs2) fun x ex d H2 Z2 F2 s2 rs2 xo => qe x ex d H2 Z2 F2 (s1.trans s2) rs2 xo)
    | true =>
      obtain ⟨b, e3, rfl, rfl⟩ := rE_ok e
      cases e3
      exact iteT (q _ rfl _ H1 Z1 non F1 (by rw [non_uni]; exact s1) Dj.non' (.at rfl) rs1)
  · exact tj_B ha Z H σ ρ F _ ρ' rs o e1 _ (fun t1 et => by cases et) fun x' ex d H1 Z1 F1 s1 rs1 xo => by
      cases ex
      exact qe x rfl d H1 Z1 F1 s1 rs1 xo
theorem vj_notV {ta : TE} {fa : EM T} (ha : VJ K B E ta fa) : VJ K B E (tNotV ta) (fVal (fNot (fTest fa))) := fun Z H σ ρ F r ρ' rs o e Q q qe => by
  rcases bE_ok e with ⟨k, ρ1, e1, e⟩ | ⟨x, e1, rfl⟩
  · obtain ⟨b, e3, rfl, rfl⟩ := rE_ok e
    cases e3
    refine tj_not (tj_B ha) Z H σ ρ F _ _ rs o e1 (fun c H1 => Q (.bl c) H1) (fun t1 et H1 Z1 F1 s1 rs1 => ?_) fun x ex => by cases ex
    cases et
    exact q _ rfl _ H1 Z1 non F1 (by rw [non_uni]; exact s1) Dj.non' (.at rfl) rs1
  · exact tj_not (tj_B ha) Z H σ ρ F _ ρ' rs o e1 (fun c H1 => Q (.bl c) H1) (fun t1 et => by cases et) fun x' ex d H1 Z1 F1 s1 rs1 xo => by
      cases ex
      exact qe x rfl d H1 Z1 F1 s1 rs1 xo
/-! ### statements -/
def sNx : SM := fun ρ => some (.nx, ρ)
def sSeq (f g : SM) : SM := fun ρ => (f ρ).bind fun r => match r with
  | (.nx, ρ') => g ρ'
  | x => some x
/-- an expression, then -/
def sE {α : Type} (f : EM α) (g : α → SM) : SM := fun ρ => (f ρ).bind fun r => match r with
  | (.ok a, ρ') => g a ρ'
  | (.error e, ρ') => some (.ex e, ρ')
theorem sE_ok {α : Type} {f : EM α} {g : α → SM} {ρ ρ' : Env} {r : Out} (h : sE f g ρ = some (r, ρ')) : (∃ a ρ1, f ρ = some (.ok a, ρ1) ∧ g a ρ1 = some (r, ρ')) ∨ ∃ e, f ρ = some (.error e, ρ') ∧ r = .ex e := by
  unfold sE at h
  cases c : f ρ with
  | none => rw [c] at h; cases h
  | some x =>
    obtain ⟨a, ρ1⟩ := x
    rw [c] at h
    cases a with
    | ok a => exact .inl ⟨a, ρ1, rfl, h⟩
    | error e =>
      cases h
      exact .inr ⟨e, rfl, rfl⟩
theorem sj_nx : SJ K B P E tNext sNx := fun Z H σ ρ F r ρ' rs o e D q qr => by
  cases e
  exact (q σ H Z F sm0 (Stp.refl o) rs).1 rfl
theorem sj_brk : SJ K B P E tBreak (fun ρ => some (.bk, ρ)) := fun Z H σ ρ F r ρ' rs o e D q qr => by
  cases e
  exact (q σ H Z F sm0 (Stp.refl o) rs).2.1 rfl
theorem sj_cont : SJ K B P E tCont (fun ρ => some (.ct, ρ)) := fun Z H σ ρ F r ρ' rs o e D q qr => by
  cases e
  exact (q σ H Z F sm0 (Stp.refl o) rs).2.2.1 rfl
theorem sj_seq {t u : TS} {f g : SM} (ht : SJ K B P E t f) (hu : SJ K B P E u g) : SJ K B P E (tSeq t u) (sSeq f g) := fun Z H σ ρ F r ρ' rs o e D q qr => by
  unfold sSeq at e
  cases c : f ρ with
  | none => rw [c] at e; cases e
  | some x =>
    obtain ⟨w, ρ1⟩ := x
    rw [c] at e
    refine ht Z H σ ρ F w ρ1 rs o c _ (fun σ1 H1 Z1 F1 k1 s1 rs1 => ?_) fun t et v σ1 H1 Z1 G1 F1 k1 s1 d1 r1 rs1 => ?_
    · refine ⟨fun ew => ?_, fun ew => ?_, fun ew => ?_, fun x ew d xo => ?_⟩
      · subst ew
        have e : g ρ1 = some (r, ρ') := e
        exact hu Z1 H1 σ1 ρ1 F1 r ρ' rs1 s1.ok e D (fun σ2 H2 Z2 F2 k2 s2 rs2 => q σ2 H2 Z2 F2 (k2.trans k1) (s1.trans s2) rs2) fun t et v σ2 H2 Z2 G2 F2 k2 s2 d2 r2 rs2 => qr t et v σ2 H2 Z2 G2 F2 (k2.trans k1) (s1.trans s2) d2 r2 rs2
      · subst ew
        cases e
        exact (q σ1 H1 Z1 F1 k1 s1 rs1).2.1 rfl
      · subst ew
        cases e
        exact (q σ1 H1 Z1 F1 k1 s1 rs1).2.2.1 rfl
      · subst ew
        cases e
        exact (q σ1 H1 Z1 F1 k1 s1 rs1).2.2.2 x rfl d xo
    · subst et
      cases e
      exact qr t rfl v σ1 H1 Z1 G1 F1 k1 s1 d1 r1 rs1
theorem sj_drop {te : TE} {f : EM T} (h : VJ K B E te f) : SJ K B P E (tDrop te) (sE f fun _ => sNx) := fun Z H σ ρ F r ρ' rs o e D q qr => by
  rcases sE_ok e with ⟨t, ρ1, e1, e⟩ | ⟨x, e1, rfl⟩
  · cases e
    refine h Z H σ ρ F _ _ rs o e1 _ (fun t1 et v H1 Z1 G1 F1 s1 d1 r1 rs1 => ?_) fun x ex => by cases ex
    exact (q σ H1 Z1 F1 sm0 (s1.less fun a z => .inr z) rs1).1 rfl
  · refine h Z H σ ρ F _ ρ' rs o e1 _ (fun t1 et => by cases et) fun x' ex d H1 Z1 F1 s1 rs1 xo => ?_
    cases ex
    exact (q σ H1 Z1 F1 sm0 s1 rs1).2.2.2 x rfl d xo
theorem sj_ret {te : TE} {f : EM T} (h : VJ K B E te f) : SJ K B P E (tRet te) (sE f fun t ρ => some (.rt t, ρ)) := fun Z H σ ρ F r ρ' rs o e D q qr => by
  rcases sE_ok e with ⟨t, ρ1, e1, e⟩ | ⟨x, e1, rfl⟩
  · cases e
    refine h Z H σ ρ F _ _ rs o e1 _ (fun t1 et v H1 Z1 G1 F1 s1 d1 r1 rs1 => ?_) fun x ex => by cases ex
    cases et
    exact qr t rfl v σ H1 Z1 G1 F1 sm0 s1 d1 r1 rs1
  · refine h Z H σ ρ F _ ρ' rs o e1 _ (fun t1 et => by cases et) fun x' ex d H1 Z1 F1 s1 rs1 xo => ?_
    cases ex
    exact (q σ H1 Z1 F1 sm0 s1 rs1).2.2.2 x rfl d xo
theorem sj_retN : SJ K B P E tRetN (fun ρ => some (.rt (.at .non), ρ)) := fun Z H σ ρ F r ρ' rs o e D q qr => by
  cases e
  exact qr _ rfl .non σ H Z non F sm0 (by rw [non_uni]; exact Stp.refl o) Dj.non' (.at rfl) rs
theorem sj_if {c : TT} {t u : TS} {fc : EM Bool} {f g : SM} (hc : TJ K B E c fc) (ht : SJ K B P E t f) (hu : SJ K B P E u g) : SJ K B P E (tIfS c t u) (sE fc fun b => if b = true then f else g) := fun Z H σ ρ F r ρ' rs o e D q qr => by
  rcases sE_ok e with ⟨b, ρ1, e1, e⟩ | ⟨x, e1, rfl⟩
  · refine hc Z H σ ρ F _ _ rs o e1 _ (fun t1 et H1 Z1 F1 s1 rs1 => ?_) fun x ex => by cases ex
    cases et
    cases b with
    | true => exact iteT (ht Z1 H1 σ ρ1 F1 r ρ' rs1 s1.ok e D (fun σ2 H2 Z2 F2 k2 s2 rs2 => q σ2 H2 Z2 F2 k2 (s1.trans s2) rs2) fun t et v σ2 H2 Z2 G2 F2 k2 s2 d2 r2 rs2 => qr t et v σ2 H2 Z2 G2 F2 k2 (s1.trans s2) d2 r2 rs2)
    | false => exact iteF (hu Z1 H1 σ ρ1 F1 r ρ' rs1 s1.ok e D (fun σ2 H2 Z2 F2 k2 s2 rs2 => q σ2 H2 Z2 F2 k2 (s1.trans s2) rs2) fun t et v σ2 H2 Z2 G2 F2 k2 s2 d2 r2 rs2 => qr t et v σ2 H2 Z2 G2 F2 k2 (s1.trans s2) d2 r2 rs2)
  · exact hc Z H σ ρ F _ ρ' rs o e1 _ (fun t1 et => by cases et) fun x' ex d H1 Z1 F1 s1 rs1 xo => by
      cases ex
      exact (q σ H1 Z1 F1 sm0 s1 rs1).2.2.2 x rfl d xo
/-! targets -/
def gN (i : Nat) : T → Env → Option Env := fun t ρ => if i < ρ.length then some (ρ.set i t) else none
theorem gj_name {i : Nat} (h : ¬ P i) : GJ K B P (gName i) (gN i) := fun Z H σ ρ F G t v ρ' rs o d rt e Q q => by
  unfold gN at e
  split at e
  · rename_i c
    cases e
    obtain ⟨F', rs', sub⟩ := rs.set c rt d
    exact q _ H Z F' (Sm.set h) (Stp.drop o sub) rs'
  · cases e
/-- parts in a row -/
def GsJ (K : PySem.W.Frag) (B : Tabs) (P : Nat → Prop) (g : TGs) (f : List T → Env → Option Env) : Prop := ∀ (Z : AS) (H : Hp) (σ : St) (ρ : Env) (F G : AS) (ts : List T) (vs : List V) (ρ' : Env), RepS K Z H σ ρ F → Ok B Z (uni G F) H → Dj G F → RepL K Z H ts vs G → f ts ρ = some ρ' → ∀ Q : St → Hp → Prop,
  (∀ σ' H' Z' F', Sm P σ' σ → Stp B Z (uni G F) H Z' F' H' → RepS K Z' H' σ' ρ' F' → Q σ' H') → g vs σ H Q
def gNil' : List T → Env → Option Env := fun ts ρ => if ts.isEmpty = true then some ρ else none
def gCons' (f : T → Env → Option Env) (fs : List T → Env → Option Env) : List T → Env → Option Env
  | [], _ => none
  | t :: ts, ρ => (f t ρ).bind fun ρ1 => fs ts ρ1
theorem gsj_nil : GsJ K B P gNil gNil' := fun Z H σ ρ F G ts vs ρ' rs o d rt e Q q => by
  unfold gNil' at e
  cases rt with
  | nil =>
    cases e
    exact ⟨rfl, q σ H Z F sm0 (Stp.drop o fun a z => .inr z) rs⟩
  | cons _ _ _ => cases e
theorem gsj_cons {g : TG} {gs : TGs} {f : T → Env → Option Env} {fs : List T → Env → Option Env} (hg : GJ K B P g f) (hs : GsJ K B P gs fs) : GsJ K B P (gCons g gs) (gCons' f fs) := fun Z H σ ρ F G ts vs ρ' rs o d rt e Q q => by
  cases rt with
  | nil => cases e
  | @cons t v ts vs G1 G2 r1 r2 d12 =>
    have e : (f t ρ).bind (fun ρ1 => fs ts ρ1) = some ρ' := e
    cases c : f t ρ with
    | none => rw [c] at e; cases e
    | some ρ1 =>
      rw [c] at e
      have e : fs ts ρ1 = some ρ' := e
      refine ⟨v, vs, rfl, hg Z H σ ρ F G1 t v ρ1 rs (o.sub fun a z => z.elim (fun z => .inl (.inl z)) .inr) d.l' r1 c _ fun σ1 H1 Z1 F1 k1 s1 rs1 => ?_⟩
      obtain ⟨f1, f2, f3⟩ := Stp.frame (R := G2) s1 (fun a g z => o.dj a (.inl (.inr g)) z) (Dj.uni d12.symm d.r') (fun a g => r2.no g)
      have r2' := r2.stp (o.sub fun a z => z.elim (fun z => .inl (.inl z)) .inr) s1 (Dj.uni d12.symm d.r')
      rw [uni_comm (F := F1)] at f1
      refine hs Z1 H1 σ1 ρ1 F1 G2 ts vs ρ' rs1 f1.ok f2.symm r2' e _ fun σ2 H2 Z2 F2 k2 s2 rs2 => q σ2 H2 Z2 F2 (k2.trans k1) ?_ rs2
      have z := f1.trans s2
      rw [show uni (uni G1 F) G2 = uni (uni G1 G2) F from by
        rw [uni_assoc, uni_assoc, uni_comm (F := F)]] at z
      exact z
def gTp (n : Nat) (fs : List T → Env → Option Env) : T → Env → Option Env
  | .nd .tup ts, ρ => if ts.length = n then fs ts ρ else none
  | _, _ => none
theorem gj_tup {n : Nat} {gs : TGs} {fs : List T → Env → Option Env} (hs : GsJ K B P gs fs) : GJ K B P (gTup K n gs) (gTp n fs) := fun Z H σ ρ F G t v ρ' rs o d rt e Q q => by
  cases rt with
  | «at» _ => cases e
  | hole => cases e
  | nd ho hl hn =>
    rename_i k ts a vs G0
    cases k with
    | tup =>
      have e : (if ts.length = n then fs ts ρ else none) = some ρ' := e
      split at e
      · rename_i c
        refine ⟨a, vs, rfl, .of ho, by rw [← hl.length]; exact c, ?_⟩
        exact hs Z H σ ρ F G0 ts vs ρ' rs o d hl e Q q
      · cases e
    | _ => cases e
def sAsg (f : EM T) (g : T → Env → Option Env) : SM := sE f fun t ρ => (g t ρ).map fun ρ' => (.nx, ρ')
theorem sj_asg {te : TE} {g : TG} {f : EM T} {fg : T → Env → Option Env} (h : VJ K B E te f) (hg : GJ K B P g fg) : SJ K B P E (tAsg te g) (sAsg f fg) := fun Z H σ ρ F r ρ' rs o e D q qr => by
  rcases sE_ok e with ⟨t, ρ1, e1, e⟩ | ⟨x, e1, rfl⟩
  · cases c : fg t ρ1 with
    | none => simp only [c] at e; cases e
    | some ρ2 =>
      simp only [c] at e
      cases e
      refine h Z H σ ρ F _ _ rs o e1 _ (fun t1 et v H1 Z1 G1 F1 s1 d1 r1 rs1 => ?_) fun x ex => by cases ex
      cases et
      exact hg Z1 H1 σ ρ1 F1 G1 t v _ rs1 s1.ok d1 r1 c _ fun σ2 H2 Z2 F2 k2 s2 rs2 => (q σ2 H2 Z2 F2 k2 (s1.trans s2) rs2).1 rfl
  · refine h Z H σ ρ F _ ρ' rs o e1 _ (fun t1 et => by cases et) fun x' ex d H1 Z1 F1 s1 rs1 xo => ?_
    cases ex
    exact (q σ H1 Z1 F1 sm0 s1 rs1).2.2.2 x rfl d xo
/-- a, b = x, y -/
def sPar (i j : Nat) (f : EM (List T)) : SM := sE f fun ts ρ => match ts with
  | [t, u] => ((gN i t ρ).bind fun ρ1 => gN j u ρ1).map fun ρ' => (.nx, ρ')
  | _ => none
theorem sj_par {i j : Nat} {ta : TA} {f : EM (List T)} (hi : ¬ P i) (hj : ¬ P j) (h : AJ K B E ta f) : SJ K B P E (tPar i j ta) (sPar i j f) := fun Z H σ ρ F r ρ' rs o e D q qr => by
  rcases sE_ok e with ⟨ts, ρ1, e1, e⟩ | ⟨x, e1, rfl⟩
  · match ts, e with
    | [], e => cases e
    | [_], e => cases e
    | _ :: _ :: _ :: _, e => cases e
    | [t, u], e =>
      have e : ((gN i t ρ1).bind fun ρ1 => gN j u ρ1).map (fun ρ' => (Out.nx, ρ')) = some (r, ρ') := e
      cases c : (gN i t ρ1).bind fun ρ1 => gN j u ρ1 with
      | none => rw [c] at e; cases e
      | some ρ2 =>
        rw [c] at e
        cases e
        refine h Z H σ ρ F _ _ rs o e1 _ (fun t1 et vs H1 Z1 G1 F1 s1 d1 r1 rs1 => ?_) fun x ex => by cases ex
        cases et
        have e3 : gCons' (gN i) (gCons' (gN j) gNil') [t, u] ρ1 = some ρ' := by
          show (gN i t ρ1).bind (fun ρ1 => gCons' (gN j) gNil' [u] ρ1) = some ρ'
          cases c1 : gN i t ρ1 with
          | none => rw [c1] at c; cases c
          | some ρ3 =>
            rw [c1] at c
            have c : gN j u ρ3 = some ρ' := c
            show (gCons' (gN j) gNil' [u] ρ3) = some ρ'
            show (gN j u ρ3).bind (fun ρ1 => gNil' [] ρ1) = some ρ'
            rw [c]
            rfl
        have z := gsj_cons (K := K) (B := B) (gj_name hi) (gsj_cons (gj_name hj) gsj_nil) Z1 H1 σ ρ1 F1 G1 [t, u] vs _ rs1 s1.ok d1 r1 e3 (fun σ' H' => D.nx σ' H') fun σ2 H2 Z2 F2 k2 s2 rs2 => (q σ2 H2 Z2 F2 k2 (s1.trans s2) rs2).1 rfl
        obtain ⟨v, r', rfl, w, r'', rfl, hn, z⟩ := z
        subst hn
        exact ⟨v, w, rfl, z⟩
  · refine h Z H σ ρ F _ ρ' rs o e1 _ (fun t1 et => by cases et) fun x' ex d H1 Z1 F1 s1 rs1 xo => ?_
    cases ex
    exact (q σ H1 Z1 F1 sm0 s1 rs1).2.2.2 x rfl d xo
end
end TV
/-! Loops. -/
namespace TV
open PySem L2
section
variable {K : PySem.W.Frag} {B : Tabs} {E : XK} {P : Nat → Prop}
/-- behind a turn -/
def lk (k : SM) : Out × Env → Option (Out × Env)
  | (.nx, ρ) => k ρ
  | (.ct, ρ) => k ρ
  | (.bk, ρ) => some (.nx, ρ)
  | x => some x
def fWh (c : EM Bool) (b : SM) : Nat → SM
  | 0 => fun _ => none
  | n + 1 => sE c fun w => if w = true then fun ρ => (b ρ).bind (lk (fWh c b n)) else sNx
theorem sj_while {c : TT} {tb : TS} {fc : EM Bool} {b : SM} (n : Nat) (hc : TJ K B E c fc) (hb : SJ K B P E tb b) : SJ K B P E (tWhile c tb) (fWh fc b n) := fun Z H σ ρ F r ρ' rs o e D q qr => by
  refine ⟨fun m σ1 H1 => ∃ Z1 F1 ρ1, Sm P σ1 σ ∧ Stp B Z F H Z1 F1 H1 ∧ RepS K Z1 H1 σ1 ρ1 F1 ∧ fWh fc b m ρ1 = some (r, ρ'), ⟨n, Z, F, ρ, sm0, Stp.refl o, rs, e⟩, ?_⟩
  rintro m σ1 H1 ⟨Z1, F1, ρ1, k1, s1, rs1, e1⟩
  cases m with
  | zero => cases e1
  | succ m =>
    rcases sE_ok e1 with ⟨w, ρ2, ec, e1⟩ | ⟨x, ec, rfl⟩
    · refine hc Z1 H1 σ1 ρ1 F1 _ _ rs1 s1.ok ec _ (fun b' eb H2 Z2 F2 s2 rs2 => ?_) fun x' ex => by cases ex
      cases eb
      have s12 := s1.trans s2
      cases w with
      | false =>
        cases e1
        exact iteF ((q σ1 H2 Z2 F2 k1 s12 rs2).1 rfl)
      | true =>
        refine iteT ⟨_, fun σ' H' h => ⟨m, Nat.lt_succ_self m, h⟩, ?_⟩
        have e1 : (b ρ2).bind (lk (fWh fc b m)) = some (r, ρ') := e1
        cases eb : b ρ2 with
        | none => rw [eb] at e1; cases e1
        | some y =>
          obtain ⟨w, ρ3⟩ := y
          rw [eb] at e1
          refine hb Z2 H2 σ1 ρ2 F2 w ρ3 rs2 s2.ok eb _ (fun σ3 H3 Z3 F3 k3 s3 rs3 => ⟨fun ew => ?_, fun ew => ?_, fun ew => ?_, fun x ew d xo => ?_⟩) fun t et v σ3 H3 Z3 G3 F3 k3 s3 d3 r3 rs3 => ?_
          · subst ew
            exact ⟨Z3, F3, ρ3, k3.trans k1, s12.trans s3, rs3, e1⟩
          · subst ew
            cases e1
            exact (q σ3 H3 Z3 F3 (k3.trans k1) (s12.trans s3) rs3).1 rfl
          · subst ew
            exact ⟨Z3, F3, ρ3, k3.trans k1, s12.trans s3, rs3, e1⟩
          · subst ew
            cases e1
            exact (q σ3 H3 Z3 F3 (k3.trans k1) (s12.trans s3) rs3).2.2.2 x rfl d xo
          · subst et
            cases e1
            exact qr t rfl v σ3 H3 Z3 G3 F3 (k3.trans k1) (s12.trans s3) d3 r3 rs3
    · exact hc Z1 H1 σ1 ρ1 F1 _ _ rs1 s1.ok ec _ (fun b eb => by cases eb) fun x' ex d H2 Z2 F2 s2 rs2 xo => by
        cases ex
        exact (q σ1 H2 Z2 F2 k1 (s1.trans s2) rs2).2.2.2 x rfl d xo
/-- what a loop walks: its items, what it owns -/
structure Src (K : PySem.W.Frag) (B : Tabs) (J : It) (ts : List T) (G : AS) (I : AS → Hp → Prop) : Prop where
  stop : ∀ Z H, I Z H → J.stop ts.length H
  go : ∀ Z H i t, I Z H → Ok B Z non H → ts[i]? = some t → J.go i H ∧ ∀ x H', J.yld i H x H' → ∃ Z', Pst B Z H Z' H' ∧ Rep K Z' H' t x non ∧ I Z' H'
  st : ∀ Z F H Z' F' H', I Z H → Ok B Z F H → Stp B Z F H Z' F' H' → Dj G F → I Z' H'
  al : ∀ Z H, I Z H → ∀ a, G a → H a ≠ none
def IJ (K : PySem.W.Frag) (B : Tabs) (E : XK) (wi : TI) (f : EM (List T)) : Prop := ∀ (Z : AS) (H : Hp) (σ : St) (ρ : Env) (F : AS) (r : Except Ex (List T)) (ρ' : Env), RepS K Z H σ ρ F → Ok B Z F H → f ρ = some (r, ρ') → ∀ R : It → Hp → Prop,
  (∀ ts, r = .ok ts → ∀ J H' Z' G F' I, Stp B Z F H Z' (uni G F') H' → Dj G F' → RepS K Z' H' σ ρ' F' → Src K B J ts G I → I Z' H' → R J H') →
  (∀ e, r = .error e → ∀ d H' Z' F', Stp B Z F H Z' F' H' → RepS K Z' H' σ ρ' F' → exOk e d H' → E (.ref e.1) d H') → wi σ H R
/-- the loop's turns -/
def fGo (g : T → Env → Option Env) (b : SM) : List T → SM
  | [], ρ => some (.nx, ρ)
  | t :: ts, ρ => (g t ρ).bind fun ρ1 => (b ρ1).bind (lk (fGo g b ts))
theorem sj_for {wi : TI} {g : TG} {tb : TS} {f : EM (List T)} {fg : T → Env → Option Env} {b : SM} (hi : IJ K B E wi f) (hg : GJ K B P g fg) (hb : SJ K B P E tb b) : SJ K B P E (tFor wi g tb) (sE f (fGo fg b)) := fun Z H σ ρ F r ρ' rs o e D q qr => by
  rcases sE_ok e with ⟨ts, ρ1, e1, e⟩ | ⟨x, e1, rfl⟩
  · refine hi Z H σ ρ F _ _ rs o e1 _ (fun t1 et J H1 Z1 G F1 I s1 d1 rs1 src i1 => ?_) fun x ex => by cases ex
    cases et
    refine ⟨fun i m σ2 H2 => ∃ Z2 F2 ρ2, i + m = ts.length ∧ Sm P σ2 σ ∧ Stp B Z F H Z2 (uni G F2) H2 ∧ Dj G F2 ∧ RepS K Z2 H2 σ2 ρ2 F2 ∧ I Z2 H2 ∧ fGo fg b (ts.drop i) ρ2 = some (r, ρ'), ⟨ts.length, Z1, F1, ρ1, by omega, sm0, s1, d1, rs1, i1, e⟩, ?_⟩
    rintro i m σ2 H2 ⟨Z2, F2, ρ2, im, k2, s2, d2, rs2, i2, e2⟩
    cases m with
    | zero =>
      have hl : i = ts.length := by omega
      rw [hl, List.drop_length] at e2
      cases e2
      refine .inl ⟨by rw [hl]; exact src.stop _ _ i2, ?_⟩
      exact (q σ2 H2 Z2 F2 k2 (s2.less fun a z => .inr z) rs2).1 rfl
    | succ m =>
      have hl : i < ts.length := by omega
      rw [List.drop_eq_getElem_cons hl] at e2
      obtain ⟨go, yl⟩ := src.go Z2 H2 i ts[i] i2 s2.ok.non (List.getElem?_eq_getElem hl)
      refine .inr ⟨go, _, fun σ' H' h => ⟨m, Nat.lt_succ_self m, h⟩, fun x H3 y => ?_⟩
      obtain ⟨Z3, a3, rx, i3⟩ := yl x H3 y
      have e2 : (fg ts[i] ρ2).bind (fun ρ1 => (b ρ1).bind (lk (fGo fg b (ts.drop (i + 1))))) = some (r, ρ') := e2
      cases ec : fg ts[i] ρ2 with
      | none => rw [ec] at e2; cases e2
      | some ρ3 =>
        rw [ec] at e2
        have o2 := s2.ok.sub (G := F2) fun a z => .inr z
        have rs3 := rs2.pst o2 a3
        have s3 := a3.env s2.ok fun x z => z.elim (src.al _ _ i2 x) (rs2.no x)
        have o3 := s3.ok.sub (G := F2) fun a z => .inr z
        refine hg Z3 H3 σ2 ρ2 F2 non _ x ρ3 rs3 (by rw [non_uni]; exact o3) Dj.non' rx ec _ fun σ4 H4 Z4 F4 k4 s4 rs4 => ?_
        rw [non_uni] at s4
        have G3 : ∀ a, G a → H3 a ≠ none := src.al _ _ i3
        obtain ⟨f4, g4, _⟩ := Stp.frame (R := G) s4 (fun a z y => s3.ok.dj a (.inl z) y) d2 G3
        have i4 := src.st _ _ _ _ _ _ i3 o3 s4 d2
        have s24 : Stp B Z F H Z4 (uni G F4) H4 := by
          rw [uni_comm (F := F2)] at f4
          have z := (s2.trans s3).trans f4
          rw [uni_comm (F := F4)] at z
          exact z
        have e2 : (b ρ3).bind (lk (fGo fg b (ts.drop (i + 1)))) = some (r, ρ') := e2
        cases eb : b ρ3 with
        | none => rw [eb] at e2; cases e2
        | some y =>
          obtain ⟨w, ρ5⟩ := y
          rw [eb] at e2
          refine hb Z4 H4 σ4 ρ3 F4 w ρ5 rs4 s4.ok eb _ (fun σ5 H5 Z5 F5 k5 s5 rs5 => ?_) fun t et v σ5 H5 Z5 G5 F5 k5 s5 d5 r5 rs5 => ?_
          · have G4 : ∀ a, G a → H4 a ≠ none := src.al _ _ i4
            obtain ⟨f5, g5, _⟩ := Stp.frame (R := G) s5 (fun a z y => s24.ok.dj a (.inl z) y) g4.symm G4
            have i5 := src.st _ _ _ _ _ _ i4 s4.ok s5 g4.symm
            have s25 : Stp B Z F H Z5 (uni G F5) H5 := by
              rw [uni_comm (F := F4)] at f5
              have z := s24.trans f5
              rw [uni_comm (F := F5)] at z
              exact z
            have k := (k5.trans k4).trans k2
            refine ⟨fun ew => ?_, fun ew => ?_, fun ew => ?_, fun x ew d xo => ?_⟩
            · subst ew
              exact ⟨Z5, F5, ρ5, by omega, k, s25, g5.symm, rs5, i5, e2⟩
            · subst ew
              cases e2
              exact (q σ5 H5 Z5 F5 k (s25.less fun a z => .inr z) rs5).1 rfl
            · subst ew
              exact ⟨Z5, F5, ρ5, by omega, k, s25, g5.symm, rs5, i5, e2⟩
            · subst ew
              cases e2
              exact (q σ5 H5 Z5 F5 k (s25.less fun a z => .inr z) rs5).2.2.2 x rfl d xo
          · subst et
            cases e2
            have G4 : ∀ a, G a → H4 a ≠ none := src.al _ _ i4
            exact qr t rfl v σ5 H5 Z5 G5 F5 ((k5.trans k4).trans k2) ((s24.less fun a z => .inr z).trans s5) d5 r5 rs5
  · refine hi Z H σ ρ F _ ρ' rs o e1 _ (fun t1 et => by cases et) fun x' ex d H1 Z1 F1 s1 rs1 xo => ?_
    cases ex
    exact (q σ H1 Z1 F1 sm0 s1 rs1).2.2.2 x rfl d xo
/-- an item as a loop's variable gets it: frozen, or unknown -/
def item (t : T) : T := if frzd t = true then t else .hole
theorem Rep.item {Z F : AS} {H : Hp} {t : T} {v : V} (r : Rep K Z H t v F) : Rep K Z H (TV.item t) v non := by
  unfold TV.item
  split
  · rename_i c
    have := r.frzd_eq c
    subst this
    exact r
  · exact .hole
def asL : T → Option (List T)
  | .nd (.lst _) ts => some (ts.map item)
  | .nd .scr ts => some (ts.map item)
  | _ => none
theorem sql_of {k : Nk} (hk : k = .scr ∨ ∃ m, k = .lst m) {Z : AS} {H : Hp} {a : Addr} {vs : List V} (h : HasObj K Z H a k vs) : SqL K H a vs := by
  rcases hk with rfl | ⟨m, rfl⟩
  · exact h.sqs
  · exact h.sql
theorem src_list {k : Nk} (hk : k = .scr ∨ ∃ m, k = .lst m) {ts : List T} {a : Addr} {G : AS} : Src K B (Itl K a) (ts.map item) G (fun Z H => Rep K Z H (.nd k ts) (.ref a) G) where
  stop := fun Z H h => by
    cases h with
    | nd ho hl hn => exact ⟨_, (sql_of hk ho), by rw [List.length_map, hl.length]; exact Nat.le_refl _⟩
  go := fun Z H i t h o e => by
    rw [List.getElem?_map] at e
    cases c : ts[i]? with
    | none => rw [c] at e; cases e
    | some u =>
      rw [c] at e
      have e : some (item u) = some t := e
      cases e
      cases id h with
      | nd ho hl hn =>
        obtain ⟨v, G1, hv, r1, _⟩ := hl.get c
        refine ⟨⟨_, v, (sql_of hk ho), hv⟩, fun x H' y => ?_⟩
        obtain ⟨rfl, y⟩ := y
        have := y _ (sql_of hk ho)
        rw [hv] at this
        cases this
        exact ⟨Z, Stp.refl o, r1.item, h⟩
  st := fun Z F H Z' F' H' h o s d => h.stp o s d
  al := fun Z H h a g => h.no g
theorem ij_list {tl : TE} {f : EM T} (h : VJ K B E tl f) : IJ K B E (iList K tl) (bE f fun t => rE (asL t)) := fun Z H σ ρ F r ρ' rs o e R q qe => by
  rcases bE_ok e with ⟨t, ρ1, e1, e⟩ | ⟨x, e1, rfl⟩
  · obtain ⟨ts, e3, rfl, rfl⟩ := rE_ok e
    refine h Z H σ ρ F _ _ rs o e1 _ (fun t1 et v H1 Z1 G1 F1 s1 d1 r1 rs1 => ?_) fun x ex => by cases ex
    cases et
    cases id r1 with
    | «at» _ => cases e3
    | hole => cases e3
    | nd ho hl hn =>
      rename_i k us a vs F0
      cases k with
      | lst m =>
        cases e3
        exact ⟨a, rfl, ⟨vs, ho.sql⟩, q _ rfl _ H1 Z1 _ F1 _ s1 d1 rs1 (src_list (.inr ⟨m, rfl⟩)) r1⟩
      | scr =>
        cases e3
        exact ⟨a, rfl, ⟨vs, ho.sqs⟩, q _ rfl _ H1 Z1 _ F1 _ s1 d1 rs1 (src_list (.inl rfl)) r1⟩
      | _ => cases e3
  · refine h Z H σ ρ F _ ρ' rs o e1 _ (fun t1 et => by cases et) fun x' ex d H1 Z1 F1 s1 rs1 xo => ?_
    cases ex
    exact qe x rfl d H1 Z1 F1 s1 rs1 xo
def asT : T → Option (List T)
  | .nd .tup ts => some (ts.map item)
  | _ => none
theorem src_tup {ts : List T} {a : Addr} {G : AS} : Src K B (Itt K a) (ts.map item) G (fun Z H => Rep K Z H (.nd .tup ts) (.ref a) G) where
  stop := fun Z H h => by
    cases h with
    | nd ho hl hn => exact ⟨_, .of ho, by rw [List.length_map, hl.length]; exact Nat.le_refl _⟩
  go := fun Z H i t h o e => by
    rw [List.getElem?_map] at e
    cases c : ts[i]? with
    | none => rw [c] at e; cases e
    | some u =>
      rw [c] at e
      have e : some (item u) = some t := e
      cases e
      cases id h with
      | nd ho hl hn =>
        obtain ⟨v, G1, hv, r1, _⟩ := hl.get c
        refine ⟨⟨_, v, .of ho, hv⟩, fun x H' y => ?_⟩
        obtain ⟨rfl, y⟩ := y
        have := y _ (.of ho)
        rw [hv] at this
        cases this
        exact ⟨Z, Stp.refl o, r1.item, h⟩
  st := fun Z F H Z' F' H' h o s d => h.stp o s d
  al := fun Z H h a g => h.no g
/-- range -/
def intsT (lo : Int) (n : Nat) : List T := (List.range n).map fun (j : Nat) => T.at (.int (lo + j))
theorem src_rng {lo : Int} {n : Nat} : Src K B (Itr lo n) (intsT lo n) non (fun Z H => True) where
  stop := fun Z H _ => by
    show n ≤ (intsT lo n).length
    unfold intsT
    rw [List.length_map, List.length_range]
    exact Nat.le_refl _
  go := fun Z H i t _ o e => by
    unfold intsT at e
    rw [List.getElem?_map] at e
    by_cases c : i < n
    · rw [List.getElem?_range c] at e
      cases e
      refine ⟨c, fun x H' y => ?_⟩
      obtain ⟨rfl, rfl⟩ := y
      exact ⟨Z, Stp.refl o, .at rfl, trivial⟩
    · rw [List.getElem?_eq_none (by rw [List.length_range]; omega)] at e
      cases e
  st := fun _ _ _ _ _ _ _ _ _ _ => trivial
  al := fun _ _ _ _ g => g.elim
def asI : T → Option Int
  | .at (.int i) => some i
  | _ => none
theorem asI_eq {t : T} {b : Int} (h : asI t = some b) : t = .at (.int b) := by
  cases t with
  | «at» v => cases v <;> first | (cases h; rfl) | cases h
  | hole => cases h
  | nd k ts => cases h
def bnd (i : Int) : Bool := decide (-1000000 ≤ i) && decide (i ≤ 1000000)
theorem bnd_ok {i : Int} (h : bnd i = true) : -1000000 ≤ i ∧ i ≤ 1000000 := by
  unfold bnd at h
  rw [Bool.and_eq_true, decide_eq_true_eq, decide_eq_true_eq] at h
  exact h
def fRg1 (f : EM T) : EM (List T) := bE f fun t => rE ((asI t).bind fun j => if bnd j = true then some (intsT 0 j.toNat) else none)
theorem ij_rng1 {ta : TE} {f : EM T} (h : VJ K B E ta f) : IJ K B E (iRng1 (tCons ta tNil)) (fRg1 f) := fun Z H σ ρ F r ρ' rs o e R q qe => by
  rcases bE_ok e with ⟨t, ρ1, e1, e⟩ | ⟨x, e1, rfl⟩
  · obtain ⟨ts, e3, rfl, rfl⟩ := rE_ok e
    refine h Z H σ ρ F _ _ rs o e1 _ (fun t1 et v H1 Z1 G1 F1 s1 d1 r1 rs1 => ?_) fun x ex => by cases ex
    cases et
    cases c : asI t with
    | none => rw [c] at e3; cases e3
    | some j =>
      rw [c] at e3
      have e3 : (if bnd j = true then some (intsT 0 j.toNat) else none) = some ts := e3
      split at e3
      · rename_i cb
        cases e3
        cases asI_eq c
        obtain ⟨rfl, rfl⟩ := r1.at_eq
        have := bnd_ok cb
        refine ⟨j, rfl, by omega, by omega, q _ rfl _ H1 Z1 non F1 _ s1 Dj.non' rs1 src_rng trivial⟩
      · cases e3
  · refine h Z H σ ρ F _ ρ' rs o e1 _ (fun t1 et => by cases et) fun x' ex d H1 Z1 F1 s1 rs1 xo => ?_
    cases ex
    exact qe x rfl d H1 Z1 F1 s1 rs1 xo
def fRg2 (f : EM (List T)) : EM (List T) := bE f fun t => rE (match t with
  | [t, u] => (asI t).bind fun i => (asI u).bind fun j => if (bnd i && bnd j) = true then some (intsT i (j - i).toNat) else none
  | _ => none)
theorem ij_rng2 {ta : TA} {f : EM (List T)} (h : AJ K B E ta f) : IJ K B E (iRng2 ta) (fRg2 f) := fun Z H σ ρ F r ρ' rs o e R q qe => by
  rcases bE_ok e with ⟨t, ρ1, e1, e⟩ | ⟨x, e1, rfl⟩
  · obtain ⟨ts, e3, rfl, rfl⟩ := rE_ok e
    refine h Z H σ ρ F _ _ rs o e1 _ (fun t1 et vs H1 Z1 G1 F1 s1 d1 r1 rs1 => ?_) fun x ex => by cases ex
    cases et
    match t, e3, r1 with
    | [], e3, _ => cases e3
    | [_], e3, _ => cases e3
    | _ :: _ :: _ :: _, e3, _ => cases e3
    | [t, u], e3, r1 =>
      cases r1 with
      | @cons _ v _ vs' Ga Gb ra rb db =>
        obtain ⟨w, rfl, rb'⟩ := rb.ofOne
        cases c : asI t with
        | none => simp only [c] at e3; cases e3
        | some i =>
          cases c2 : asI u with
          | none => simp only [c, c2] at e3; cases e3
          | some j =>
            simp only [c, c2] at e3
            have e3 : (if (bnd i && bnd j) = true then some (intsT i (j - i).toNat) else none) = some ts := e3
            split at e3
            · rename_i cb
              cases e3
              cases asI_eq c
              cases asI_eq c2
              obtain ⟨rfl, rfl⟩ := ra.at_eq
              obtain ⟨rfl, rfl⟩ := rb'.at_eq
              rw [Bool.and_eq_true] at cb
              have := bnd_ok cb.1
              have := bnd_ok cb.2
              rw [non_uni] at s1
              exact ⟨i, j, rfl, ⟨by omega, by omega, by omega, by omega⟩, q _ rfl _ H1 Z1 non F1 _ s1 Dj.non' rs1 src_rng trivial⟩
            · cases e3
  · refine h Z H σ ρ F _ ρ' rs o e1 _ (fun t1 et => by cases et) fun x' ex d H1 Z1 F1 s1 rs1 xo => ?_
    cases ex
    exact qe x rfl d H1 Z1 F1 s1 rs1 xo
end
end TV
/-! Comprehensions. -/
namespace TV
open PySem L2
def wipeT (ρ : Env) : List Nat → Env
  | [] => ρ
  | v :: vs => (wipeT ρ vs).set v .hole
/-- each of the slots holds something frozen, or nothing -/
def lent (ρ : Env) (vs : List Nat) : Bool := vs.all fun v => match ρ[v]? with
  | some t => isHole t || frzd t
  | none => false
/-- the slots hold what they held -/
def lend (ρ0 : Env) (ρ : Env) : List Nat → Env
  | [] => ρ
  | v :: vs => (lend ρ0 ρ vs).set v (ρ0.getD v .hole)
/-- no error is looked at -/
def oB {α β : Type} (f : EM α) (g : α → Env → Option β) : Env → Option β := fun ρ => (f ρ).bind fun r => match r with
  | (.ok a, ρ') => g a ρ'
  | (.error _, _) => none
theorem oB_ok {α β : Type} {f : EM α} {g : α → Env → Option β} {ρ : Env} {r : β} (h : oB f g ρ = some r) : ∃ a ρ1, f ρ = some (.ok a, ρ1) ∧ g a ρ1 = some r := by
  unfold oB at h
  cases c : f ρ with
  | none => rw [c] at h; cases h
  | some x =>
    obtain ⟨a, ρ1⟩ := x
    rw [c] at h
    cases a with
    | ok a => exact ⟨a, ρ1, rfl, h⟩
    | error e => cases h
def goLc (vs : List Nat) (g : T → Env → Option Env) (ft : EM Bool) (fe : EM T) : List T → List T → Env → Option (List T × Env)
  | [], acc, ρ => some (acc, ρ)
  | t :: ts, acc, ρ => (g t (wipeT ρ vs)).bind (oB ft fun b => if b = true then oB fe fun y ρ2 => if acc.length < 1000 then goLc vs g ft fe ts (acc ++ [y]) ρ2 else none else fun ρ2 => goLc vs g ft fe ts acc ρ2)
def fLc (src : EM (List T)) (vs : List Nat) (g : T → Env → Option Env) (ft : EM Bool) (fe : EM T) : EM T := bE src fun ts ρ =>
  if lent ρ vs = true then (goLc vs g ft fe ts [] ρ).map fun x => (.ok (.nd (.lst true) x.1), lend ρ x.2 vs) else none
section
variable {K : PySem.W.Frag} {B : Tabs} {E : XK}
theorem RepS.wipes {Z F : AS} {H : Hp} {σ : St} {ρ : Env} (r : RepS K Z H σ ρ F) : ∀ (vs : List Nat), ∃ F', RepS K Z H (L2.wipe σ vs) (wipeT ρ vs) F' ∧ ∀ a, F' a → F a
  | [] => ⟨F, r, fun _ z => z⟩
  | v :: vs => by
    obtain ⟨F1, r1, s1⟩ := r.wipes vs
    obtain ⟨F2, r2, s2⟩ := r1.wipe v none
    exact ⟨F2, r2, fun a z => s1 a (s2 a z)⟩
theorem wipe_get {σ : St} {i : Nat} : ∀ {vs : List Nat}, i ∉ vs → (wipe σ vs)[i]? = σ[i]?
  | [], _ => rfl
  | v :: vs, h => by
    show ((wipe σ vs).set v none)[i]? = σ[i]?
    rw [List.getElem?_set_ne (fun e => h (by rw [e]; exact List.mem_cons_self ..))]
    exact wipe_get fun z => h (List.mem_cons_of_mem _ z)
theorem wipe_in {σ : St} {i : Nat} : ∀ {vs : List Nat}, i ∈ vs → (wipe σ vs)[i]? = if i < σ.length then some none else none
  | [], h => absurd h (by simp)
  | v :: vs, h => by
    show ((wipe σ vs).set v none)[i]? = _
    by_cases c : v = i
    · subst c
      by_cases hl : v < σ.length
      · rw [List.getElem?_set_self (by rw [wipe_length]; exact hl), if_pos hl]
      · rw [List.getElem?_eq_none (by rw [List.length_set, wipe_length]; omega), if_neg hl]
    · rw [List.getElem?_set_ne c]
      exact wipe_in ((List.mem_cons.mp h).resolve_left fun e => c e.symm)
theorem wipe_same {σ σ' : St} {vs : List Nat} (h : Sm (fun i => i ∉ vs) σ' (wipe σ vs)) : wipe σ' vs = wipe σ vs := by
  have hl : σ'.length = σ.length := h.1.trans (wipe_length σ vs)
  refine List.ext_getElem? fun i => ?_
  by_cases c : i ∈ vs
  · rw [wipe_in c, wipe_in c, hl]
  · rw [wipe_get c, h.2 i c]
def backS (σ0 σ : St) : List Nat → St
  | [] => σ
  | v :: vs => (backS σ0 σ vs).set v (σ0.getD v none)
theorem backS_len {σ0 σ : St} : ∀ {vs : List Nat}, (backS σ0 σ vs).length = σ.length
  | [] => rfl
  | v :: vs => by
    unfold backS
    rw [List.length_set, backS_len]
theorem backS_same {σ0 σ : St} {vs : List Nat} (hl : σ.length = σ0.length) (h : ∀ i, i ∉ vs → σ[i]? = σ0[i]?) : backS σ0 σ vs = σ0 := by
  have key : ∀ us : List Nat, (∀ u ∈ us, u ∈ vs) → ∀ i, (backS σ0 σ us)[i]? = if i ∈ us then σ0[i]? else σ[i]? := fun us => by
    induction us with
    | nil => exact fun _ i => by simp [backS]
    | cons u us ih =>
      intro hu i
      have ih := ih fun z hz => hu z (List.mem_cons_of_mem _ hz)
      show ((backS σ0 σ us).set u (σ0.getD u none))[i]? = _
      by_cases c : u = i
      · subst c
        rw [if_pos (List.mem_cons_self ..)]
        by_cases hl2 : u < σ0.length
        · rw [List.getElem?_set_self (by rw [backS_len]; omega), List.getD_eq_getElem?_getD, List.getElem?_eq_getElem hl2]
          rfl
        · rw [List.getElem?_eq_none (by rw [List.length_set, backS_len]; omega), List.getElem?_eq_none (by omega)]
      · rw [List.getElem?_set_ne c, ih i]
        by_cases d : i ∈ us
        · rw [if_pos d, if_pos (List.mem_cons_of_mem _ d)]
        · rw [if_neg d, if_neg fun z => (List.mem_cons.mp z).elim (fun e => c e.symm) d]
  refine List.ext_getElem? fun i => ?_
  rw [key vs (fun _ z => z) i]
  by_cases c : i ∈ vs
  · rw [if_pos c]
  · rw [if_neg c]
    exact h i c
/-- behind a comprehension the slots hold what they held -/
def Kept (K : PySem.W.Frag) (σ : St) (ρ0 : Env) (vs : List Nat) (Z : AS) (H : Hp) : Prop := ∀ v ∈ vs, ρ0[v]? = some .hole ∨ ∃ t x, ρ0[v]? = some t ∧ σ[v]? = some (some x) ∧ Rep K Z H t x non
theorem Kept.of {Z F : AS} {H : Hp} {σ : St} {ρ0 : Env} (r : RepS K Z H σ ρ0 F) {vs : List Nat} (h : lent ρ0 vs = true) : Kept K σ ρ0 vs Z H := fun v hv => by
  have h1 := List.all_eq_true.mp h v hv
  cases c : ρ0[v]? with
  | none => rw [c] at h1; cases h1
  | some t =>
    rw [c] at h1
    have h1 : (isHole t || frzd t) = true := h1
    cases ht : isHole t with
    | true =>
      have : t = .hole := by cases t <;> first | rfl | cases ht
      rw [this]
      exact .inl rfl
    | false =>
      rw [ht, Bool.false_or] at h1
      obtain ⟨x, G, hx, rt, sub⟩ := r.get c ht
      have := rt.frzd_eq h1
      subst this
      exact .inr ⟨t, x, rfl, hx, rt⟩
theorem Kept.stp {Z F Z' F' : AS} {H H' : Hp} {σ : St} {ρ0 : Env} {vs : List Nat} (h : Kept K σ ρ0 vs Z H) (o : Ok B Z F H) (s : Stp B Z F H Z' F' H') : Kept K σ ρ0 vs Z' H' := fun v hv => (h v hv).imp id fun ⟨t, x, a, b, c⟩ => ⟨t, x, a, b, c.stp o s Dj.non'⟩
theorem RepS.lendTo {Z F : AS} {H : Hp} {σ σ' : St} {ρ0 ρ : Env} (r : RepS K Z H σ' ρ F) (hl : ρ.length = ρ0.length) : ∀ (vs : List Nat), Kept K σ ρ0 vs Z H → ∃ F', RepS K Z H (backS σ σ' vs) (lend ρ0 ρ vs) F' ∧ (∀ a, F' a → F a) ∧ (lend ρ0 ρ vs).length = ρ0.length
  | [], _ => ⟨F, r, fun _ z => z, hl⟩
  | v :: vs, hf => by
    obtain ⟨F1, r1, s1, l1⟩ := RepS.lendTo r hl vs fun u hu => hf u (List.mem_cons_of_mem _ hu)
    unfold lend backS
    rcases hf v (List.mem_cons_self ..) with c | ⟨t, x, c, hx, rt⟩
    · have gd : ρ0.getD v .hole = .hole := by rw [List.getD_eq_getElem?_getD, c]; rfl
      rw [gd]
      obtain ⟨F2, r2, s2⟩ := r1.wipe v (σ.getD v none)
      exact ⟨F2, r2, fun a z => s1 a (s2 a z), by rw [List.length_set, l1]⟩
    · have il : v < ρ0.length := (List.getElem?_eq_some_iff.mp c).1
      have gd : ρ0.getD v .hole = t := by rw [List.getD_eq_getElem?_getD, c]; rfl
      obtain ⟨F2, r2, s2⟩ := r1.set (by rw [l1]; exact il) rt Dj.non'
      have gs : σ.getD v none = some x := by rw [List.getD_eq_getElem?_getD, hx]; rfl
      rw [gd, gs]
      exact ⟨F2, r2, fun a z => (s2 a z).elim (fun z => z.elim) (s1 a), by rw [List.length_set, l1]⟩
theorem backS_wiped {σ σ' : St} {vs : List Nat} (h : L2.wipe σ' vs = L2.wipe σ vs) : backS σ σ' vs = σ := by
  refine backS_same ?_ fun i hi => ?_
  · have := congrArg List.length h
    rw [wipe_length, wipe_length] at this
    exact this
  · rw [← wipe_get (σ := σ') hi, h, wipe_get hi]
theorem wipeT_len {ρ : Env} : ∀ {vs : List Nat}, (wipeT ρ vs).length = ρ.length
  | [] => rfl
  | v :: vs => by
    unfold wipeT
    rw [List.length_set, wipeT_len]
theorem wipe_wipe {σ : St} {vs : List Nat} : L2.wipe (L2.wipe σ vs) vs = L2.wipe σ vs := wipe_same sm0
theorem vj_lc {E' : XK} {wi : TI} {g : TG} {tt : TT} {te : TE} {vs : List Nat} {src : EM (List T)} {fg : T → Env → Option Env} {ft : EM Bool} {fe : EM T} (hi : IJ K B E wi src) (hg : GJ K B (fun i => i ∉ vs) g fg) (ht : TJ K B E' tt ft) (he : VJ K B E' te fe) :
    VJ K B E (tLc wi g tt te vs) (fLc src vs fg ft fe) := fun Z H σ ρ F r ρ' rs o e Q q qe => by
  rcases bE_ok e with ⟨ts, ρ1, e1, e⟩ | ⟨x, e1, rfl⟩
  · split at e
    · rename_i hlent
      cases e2 : goLc vs fg ft fe ts [] ρ1 with
      | none => rw [e2] at e; cases e
      | some y =>
        obtain ⟨acc1, ρ2⟩ := y
        rw [e2] at e
        cases e
        refine hi Z H σ ρ F _ _ rs o e1 _ (fun t1 et J H1 Z1 G F1 I s1 d1 rs1 src i1 D nD => ?_) fun x ex => by cases ex
        cases et
        have o1 : Ok B Z1 F1 H1 := s1.ok.sub fun a z => .inr z
        have al1 : ∀ x, uni G F1 x → H1 x ≠ none := fun x z => z.elim (src.al _ _ i1 x) (rs1.no x)
        have sD := Stp.new (o := .lst []) s1.ok nD al1
        have s2 := s1.trans sD
        have fD : Fx non H1 (upd H1 D (.lst [])) := Fx.new nD
        have rs2 : RepS K Z1 (upd H1 D (.lst [])) σ ρ1 F1 := rs1.st fD (fun _ z => z) Dj.non Dj.non
        have nG : ¬ G D := fun z => src.al _ _ i1 D z nD
        have i2 : I Z1 (upd H1 D (.lst [])) := src.st Z1 F1 H1 Z1 (uni (one D) F1) _ i1 o1 (Stp.new o1 nD rs1.no) d1
        have rD0 : Rep K Z1 (upd H1 D (.lst [])) (.nd (.lst true) []) (.ref D) (one D) := by
          have z := Rep.nd (k := .lst true) (K := K) (Z := Z1) (H := upd H1 D (.lst [])) (a := D) upd_same .nil fun _ z => z
          rw [show put (.lst true) D non = uni (one D) non from rfl, uni_non] at z
          exact z
        have kp := Kept.stp (Kept.of rs1 hlent) o1 (Stp.new (o := .lst []) o1 nD rs1.no)
        generalize upd H1 D (.lst []) = H2 at s2 rs2 i2 rD0 kp ⊢
        refine ⟨fun i m H3 => ∃ Z3 GD F3 σ3 ρ3 acc, i + m = ts.length ∧ Stp B Z F H Z3 (uni (uni GD G) F3) H3 ∧ Dj GD G ∧ Dj (uni GD G) F3 ∧ RepS K Z3 H3 σ3 ρ3 F3 ∧ L2.wipe σ3 vs = L2.wipe σ vs ∧ I Z3 H3 ∧ Rep K Z3 H3 (.nd (.lst true) acc) (.ref D) GD ∧ Kept K σ ρ1 vs Z3 H3 ∧
          goLc vs fg ft fe (ts.drop i) acc ρ3 = some (acc1, ρ2), ⟨ts.length, Z1, one D, F1, σ, ρ1, [], by omega, by rw [uni_assoc]; exact s2, fun a e g => nG (by rw [← show a = D from e]; exact g), Dj.uni' (fun a e f => rs1.no a f (by rw [show a = D from e]; exact nD)) d1, rs2, rfl, i2, rD0, kp, e2⟩, ?_⟩
        rintro i m H3 ⟨Z3, GD, F3, σ3, ρ3, acc, im, s3, dG, dF, rs3, w3, i3, rD, kp3, e3⟩
        have GDal : ∀ a, GD a → H3 a ≠ none := fun a z => rD.no z
        have Gal : ∀ a, G a → H3 a ≠ none := src.al _ _ i3
        cases m with
        | zero =>
          have hl : i = ts.length := by omega
          rw [hl, List.drop_length] at e3
          cases e3
          refine .inl ⟨by rw [hl]; exact src.stop _ _ i3, ?_⟩
          obtain ⟨F4, rs4, sub4, _⟩ := RepS.lendTo (σ := σ) rs3 (by
            have z := congrArg List.length w3
            rw [wipe_length, wipe_length, rs3.len, rs1.len] at z
            exact z) vs kp3
          rw [backS_wiped w3] at rs4
          refine q _ rfl _ H3 Z3 GD F4 (s3.less fun a z => ?_) (fun a g f => dF a (.inl g) (sub4 a f)) rD rs4
          exact z.elim (fun z => .inl (.inl z)) fun z => .inr (sub4 a z)
        | succ m =>
          have hl : i < ts.length := by omega
          rw [List.drop_eq_getElem_cons hl] at e3
          obtain ⟨go, yl⟩ := src.go Z3 H3 i ts[i] i3 s3.ok.non (List.getElem?_eq_getElem hl)
          refine .inr ⟨go, _, fun H' h => ⟨m, Nat.lt_succ_self m, h⟩, fun x H4 y => ?_⟩
          obtain ⟨Z4, a4, rx, i4⟩ := yl x H4 y
          have e3 : (fg ts[i] (wipeT ρ3 vs)).bind (oB ft fun b => if b = true then oB fe fun y ρ2 => if acc.length < 1000 then goLc vs fg ft fe (ts.drop (i + 1)) (acc ++ [y]) ρ2 else none else fun ρ2 => goLc vs fg ft fe (ts.drop (i + 1)) acc ρ2) = some (acc1, ρ2) := e3
          cases ec : fg ts[i] (wipeT ρ3 vs) with
          | none => rw [ec] at e3; cases e3
          | some ρ5 =>
            rw [ec] at e3
            have o3 := s3.ok.sub (G := F3) fun a z => .inr z
            have rs4 := rs3.pst o3 a4
            have s4 := a4.env s3.ok fun x z => z.elim (fun z => z.elim (GDal x) (Gal x)) (rs3.no x)
            have s34 := s3.trans s4
            have rD4 := rD.pst s3.ok.non a4
            have kp4 := kp3.stp s3.ok.non a4
            obtain ⟨F4, rw4, sub4⟩ := rs4.wipes vs
            have o4 : Ok B Z4 F4 H4 := s4.ok.sub fun a z => .inr (sub4 a z)
            have dF4 : Dj (uni GD G) F4 := fun a z f => dF a z (sub4 a f)
            rw [w3] at rw4
            have s34' : Stp B Z F H Z4 (uni (uni GD G) F4) H4 := s34.less fun a z => z.imp id (sub4 a)
            refine hg Z4 H4 (L2.wipe σ vs) (wipeT ρ3 vs) F4 non _ x ρ5 rw4 (by rw [non_uni]; exact o4) Dj.non' rx ec _ fun σ5 H5 Z5 F5 k5 s5 rs5 => ?_
            rw [non_uni] at s5
            have w5 := wipe_same k5
            refine ⟨w5, ?_⟩
            have R4 : ∀ a, uni GD G a → H4 a ≠ none := fun a z => z.elim (fun z => rD4.no z) (src.al _ _ i4 a)
            obtain ⟨f5, g5, _⟩ := Stp.frame (R := uni GD G) s5 (fun a z y => s4.ok.dj a (.inl z) y) dF4 R4
            have i5 := src.st _ _ _ _ _ _ i4 o4 s5 dF4.r'
            have rD5 := rD4.stp o4 s5 dF4.l'
            have kp5 := kp4.stp o4 s5
            have s35 : Stp B Z F H Z5 (uni (uni GD G) F5) H5 := by
              rw [uni_comm (F := F4)] at f5
              have z := s34'.trans f5
              rw [uni_comm (F := F5)] at z
              exact z
            obtain ⟨b, ρ6, e6, e3⟩ := oB_ok e3
            refine ht Z5 H5 σ5 ρ5 F5 _ ρ6 rs5 s5.ok e6 _ (fun b' eb H6 Z6 F6 s6 rs6 => ?_) fun x ex => by cases ex
            cases eb
            have R5 : ∀ a, uni GD G a → H5 a ≠ none := fun a z => z.elim (fun z => rD5.no z) (src.al _ _ i5 a)
            obtain ⟨f6, g6, _⟩ := Stp.frame (R := uni GD G) s6 (fun a z y => s35.ok.dj a (.inl z) y) g5.symm R5
            have i6 := src.st _ _ _ _ _ _ i5 s5.ok s6 g5.symm.r'
            have rD6 := rD5.stp s5.ok s6 g5.symm.l'
            have kp6 := kp5.stp s5.ok s6
            have s36 : Stp B Z F H Z6 (uni (uni GD G) F6) H6 := by
              rw [uni_comm (F := F5)] at f6
              have z := s35.trans f6
              rw [uni_comm (F := F6)] at z
              exact z
            have w6 : L2.wipe σ5 vs = L2.wipe σ vs := w5
            cases b with
            | false =>
              exact iteF ⟨Z6, GD, F6, σ5, ρ6, acc, by omega, s36, dG, g6.symm, rs6, w6, i6, rD6, kp6, e3⟩
            | true =>
              obtain ⟨y, ρ7, e7, e3⟩ := oB_ok e3
              split at e3
              · rename_i hacc
                refine iteT (he Z6 H6 σ5 ρ6 F6 _ ρ7 rs6 s6.ok e7 _ (fun y' ey v H7 Z7 G7 F7 s7 d7 r7 rs7 => ?_) fun x ex => by cases ex)
                cases ey
                have R6 : ∀ a, uni GD G a → H6 a ≠ none := fun a z => z.elim (fun z => rD6.no z) (src.al _ _ i6 a)
                obtain ⟨f7, g7, _⟩ := Stp.frame (R := uni GD G) s7 (fun a z y => s36.ok.dj a (.inl z) y) g6.symm R6
                have i7 := src.st _ _ _ _ _ _ i6 s6.ok s7 g6.symm.r'
                have rD7 := rD6.stp s6.ok s7 g6.symm.l'
                have kp7 := kp6.stp s6.ok s7
                have s37 : Stp B Z F H Z7 (uni (uni GD G) (uni G7 F7)) H7 := by
                  rw [uni_comm (F := F6)] at f7
                  have z := s36.trans f7
                  rw [uni_comm (F := uni G7 F7)] at z
                  exact z
                have GD7 : Dj (uni G7 F7) GD := g7.l
                obtain ⟨us, hD7, rL, nDa, eGD⟩ : ∃ us, H7 D = some (.lst us) ∧ (∃ Fa, RepL K Z7 H7 acc us Fa ∧ ¬ Fa D ∧ GD = uni (one D) Fa) ∧ True ∧ True := by
                  cases rD7 with
                  | nd ho hl hn => exact ⟨_, ho, ⟨_, hl, hn rfl, rfl⟩, trivial, trivial⟩
                obtain ⟨Fa, rL, nDa, rfl⟩ := rL
                have la := rL.length
                refine ⟨us, hD7, by rw [← la]; exact small (by omega), ?_⟩
                have sw := Stp.wr (o := .lst (us ++ [v])) (s37.ok) hD7 (.inl (.inl (.inl rfl))) (by simp) (by simp) (by simp) (by simp)
                have fw : Fx (one D) H7 (upd H7 D (.lst (us ++ [v]))) := Fx.wr hD7 rfl (by simp) (by simp) (by simp)
                have dzD : Dj Z7 (one D) := fun a z e => s37.ok.dj a (.inl (.inl (.inl e))) z
                have nD7 : ¬ G7 D := fun z => GD7 D (.inl z) (.inl rfl)
                have nF7 : ¬ F7 D := fun z => GD7 D (.inr z) (.inl rfl)
                have jo : ∀ {X : AS}, ¬ X D → Dj X (one D) := fun {X} n a z e => n (by rw [← show a = D from e]; exact z)
                have rL8 := RepL.append (RepL.st fw (fun _ z => z) dzD rL (jo nDa)) (RepL.one (Rep.st fw (fun _ z => z) dzD r7 (jo nD7))) fun a z g => GD7 a (.inl g) (.inr z)
                have rD8 := Rep.nd (k := .lst true) (a := D) (K := K) (Z := Z7) (H := upd H7 D (.lst (us ++ [v]))) upd_same rL8 fun _ z => z.elim nDa nD7
                rw [show put (.lst true) D (uni Fa G7) = uni (one D) (uni Fa G7) from rfl] at rD8
                have dGG : Dj G7 G := fun a z g => g7 a (.inl z) (.inr g)
                have dGF : Dj G F7 := fun a g f => g7 a (.inr f) (.inr g)
                have nGD : ¬ G D := fun z => dG D (.inl rfl) z
                have sw1 : Stp B Z7 (uni (one D) Fa) H7 Z7 (uni (one D) Fa) (upd H7 D (.lst (us ++ [v]))) := Stp.wr (s37.ok.sub fun a z => .inl (.inl z)) hD7 (.inl rfl) (by simp) (by simp) (by simp) (by simp)
                have i8 := src.st _ _ _ _ _ _ i7 (s37.ok.sub fun a z => .inl (.inl z)) sw1 dG.symm
                have kp8 := kp7.stp (s37.ok.sub fun a z => .inl (.inl z)) sw1
                refine ⟨Z7, uni (one D) (uni Fa G7), F7, σ5, ρ7, acc ++ [y], by omega, (s37.trans sw).less fun a z => ?_, Dj.uni' (fun a e g => nGD (by rw [← show a = D from e]; exact g)) (Dj.uni' (fun a z g => dG a (.inr z) g) dGG), ?_, rs7.st fw (fun _ z => z) dzD (jo nF7), w6, i8, rD8, kp8, e3⟩
                · rcases z with ((z | z | z) | z) | z
                  · exact .inl (.inl (.inl z))
                  · exact .inl (.inl (.inr z))
                  · exact .inr (.inl z)
                  · exact .inl (.inr z)
                  · exact .inr (.inr z)
                · exact Dj.uni' (Dj.uni' (fun a e f => nF7 (by rw [← show a = D from e]; exact f)) (Dj.uni' (fun a z f => GD7 a (.inr f) (.inr z)) d7)) dGF
              · cases e3
    · cases e
  · refine hi Z H σ ρ F _ ρ' rs o e1 _ (fun t1 et => by cases et) fun x' ex d H1 Z1 F1 s1 rs1 xo => ?_
    cases ex
    exact qe x rfl d H1 Z1 F1 s1 rs1 xo
end
end TV
/-! Places that are changed; own defs that are called. -/
namespace TV
open PySem L2
def getE (ρ : Env) (i : Nat) (p : List Nat) : Option T := (ρ[i]?).bind fun t => if isHole t = true then none else getT t p
def setE (ρ : Env) (i : Nat) (p : List Nat) (t : T) : Env := ρ.set i (setT (ρ.getD i .hole) p t)
section
variable (K : PySem.W.Frag) (B : Tabs)
/-- an expression that is a place -/
def PlJ (te : TE) (pf : Env → Option (Nat × List Nat)) : Prop := ∀ (Z : AS) (H : Hp) (σ : St) (ρ : Env) (F : AS) (i : Nat) (p : List Nat) (u : T), RepS K Z H σ ρ F → Ok B Z F H → pf ρ = some (i, p) → getE ρ i p = some u → ∀ Q : VK,
  (∀ w H' Z', Pst B Z H Z' H' → PAt K Z' H' σ ρ i p w → Q w H') → te σ H Q
end
section
variable {K : PySem.W.Frag} {B : Tabs} {E : XK} {P : Nat → Prop}
theorem getE_ok {ρ : Env} {i : Nat} {p : List Nat} {u : T} (h : getE ρ i p = some u) : ∃ t, ρ[i]? = some t ∧ isHole t = false ∧ getT t p = some u ∧ ρ.getD i .hole = t := by
  unfold getE at h
  cases c : ρ[i]? with
  | none => rw [c] at h; cases h
  | some t =>
    rw [c] at h
    have h : (if isHole t = true then none else getT t p) = some u := h
    split at h
    · cases h
    · rename_i n
      exact ⟨t, rfl, by simpa using n, h, by rw [List.getD_eq_getElem?_getD, c]; rfl⟩
theorem VAt.uniq {Z : AS} {H : Hp} : ∀ {p : List Nat} {t : T} {v w w' : V}, VAt K Z H t v p w → VAt K Z H t v p w' → w = w'
  | [], _, _, _, _, .nil, .nil => rfl
  | _ :: _, _, _, _, _, .cons ho hk hu hv va, .cons ho' _ hu' hv' va' => by
    have := ho.uniq ho' hk
    subst this
    rw [hu] at hu'
    cases hu'
    rw [hv] at hv'
    cases hv'
    exact va.uniq va'
theorem VAt.holed {Z : AS} {H : Hp} : ∀ {p : List Nat} {t : T} {v w : V} (u : T), VAt K Z H t v p w → VAt K Z H (setT t p u) v p w
  | [], _, _, _, _, .nil => .nil
  | i :: p, _, _, _, u, .cons (ts := ts) (u := t1) ho hk hu hv va => by
    have il := (List.getElem?_eq_some_iff.mp hu).1
    have gd : ts.getD i .hole = t1 := by rw [List.getD_eq_getElem?_getD, hu]; rfl
    unfold setT
    rw [gd]
    exact .cons ho hk (List.getElem?_set_self il) hv (va.holed u)
/-- the object at a place, and how it is changed -/
theorem RepS.modify {Z F : AS} {H : Hp} {σ : St} {ρ : Env} (r : RepS K Z H σ ρ F) (o : Ok B Z F H) {i : Nat} {p : List Nat} {k : Nk} {ts : List T} {w : V} (e : getE ρ i p = some (.nd k ts)) (pa : PAt K Z H σ ρ i p w) :
    ∃ a vs Fc R, w = .ref a ∧ HasObj K Z H a k vs ∧ RepL K Z H ts vs Fc ∧ (own k = true → ¬ Fc a) ∧ F = uni (put k a Fc) R ∧ Dj (put k a Fc) R ∧
      ∀ {Z' F' : AS} {H' : Hp} {k' : Nk} {ts' : List T} {vs' : List V} {Fc' : AS}, Stp B Z F H Z' F' H' → Fx (one a) H H' → own k = true → own k' = true → HasObj K Z' H' a k' vs' → RepL K Z' H' ts' vs' Fc' → ¬ Fc' a → Dj Fc' R → RepS K Z' H' σ (setE ρ i p (.nd k' ts')) (uni (uni (one a) Fc') R) := by
  obtain ⟨t, ht, nh, hg, gd⟩ := getE_ok e
  obtain ⟨w', G, R, pa', ru, rs', dj, rfl⟩ := r.take ht nh hg
  have ew : w = w' := by
    obtain ⟨t1, v1, h1, h2, h3⟩ := pa
    obtain ⟨t2, v2, g1, g2, g3⟩ := pa'
    rw [ht] at h1
    cases h1
    have il := (List.getElem?_eq_some_iff.mp ht).1
    rw [List.getElem?_set_self il] at g1
    cases g1
    rw [h2] at g2
    cases g2
    exact (h3.holed .hole).uniq g3
  subst ew
  cases ru with
  | @nd _ _ a vs Fc ho hl hn =>
    refine ⟨a, vs, Fc, R, rfl, ho, hl, hn, rfl, dj, fun {Z' F' H' k' ts' vs' Fc'} s fx ok ok' ho' hl' hn' dR => ?_⟩
    have il := (List.getElem?_eq_some_iff.mp ht).1
    have Ra : ¬ R a := fun z => dj a (put_l ok) z
    have dRa : Dj R (one a) := fun x z y => Ra (by rw [← show x = a from y]; exact z)
    have dZa : Dj Z (one a) := fun x z y => o.dj x (.inl (by rw [show x = a from y]; exact put_l ok)) z
    have rs2 := rs'.st fx s.zz dZa dRa
    have pa2 : PAt K Z' H' σ (ρ.set i (setT t p .hole)) i p (.ref a) := by
      obtain ⟨t1, v1, h1, h2, h3⟩ := pa'
      refine ⟨t1, v1, h1, h2, ?_⟩
      cases h3 with
      | nil => exact .nil
      | cons x1 x2 x3 x4 x5 =>
        obtain ⟨v', G', g1, g2, g3⟩ := rs'.get h1 rfl
        rw [h2] at g1
        cases g1
        exact VAt.st fx s.zz dZa (.cons x1 x2 x3 x4 x5) g2 fun x z y => dRa x (g3 x z) y
    have rn := Rep.nd (k := k') ho' hl' fun _ => hn'
    have ep : put k' a Fc' = uni (one a) Fc' := by unfold put; rw [if_pos ok']
    rw [ep] at rn
    have hh : ∀ {p : List Nat} {t u : T}, getT t p = some u → getT (setT t p .hole) p = some .hole := fun {p} => by
      induction p with
      | nil =>
        intro t u _
        cases t <;> rfl
      | cons j p ih =>
        intro t u h
        cases t with
        | «at» _ => cases h
        | hole => cases h
        | nd k0 us =>
          unfold getT at h
          split at h
          · rename_i hk
            cases c : us[j]? with
            | none => rw [c] at h; cases h
            | some t1 =>
              rw [c] at h
              have h : getT t1 p = some u := h
              have jl := (List.getElem?_eq_some_iff.mp c).1
              have g2 : us.getD j .hole = t1 := by rw [List.getD_eq_getElem?_getD, c]; rfl
              unfold setT
              rw [g2]
              unfold getT
              rw [if_pos hk, List.getElem?_set_self jl]
              exact ih h
          · cases h
    have b := rs2.back (List.getElem?_set_self il) (hh hg) pa2 rn (Dj.uni' (fun x y z => Ra (by rw [← show x = a from y]; exact z)) dR)
    rw [List.set_set] at b
    unfold setE
    rw [gd]
    have ss : ∀ {p : List Nat} {t x y : T}, setT (setT t p x) p y = setT t p y := fun {p} => by
      induction p with
      | nil => intro t x y; cases t <;> rfl
      | cons j p ih =>
        intro t x y
        cases t with
        | «at» _ => rfl
        | hole => rfl
        | nd k0 us =>
          show T.nd k0 ((us.set j (setT (us.getD j .hole) p x)).set j (setT ((us.set j (setT (us.getD j .hole) p x)).getD j .hole) p y)) = T.nd k0 (us.set j (setT (us.getD j .hole) p y))
          rw [List.set_set]
          by_cases h : j < us.length
          · have e1 : (us.set j (setT (us.getD j .hole) p x)).getD j .hole = setT (us.getD j .hole) p x := by
              rw [List.getD_eq_getElem?_getD, List.getElem?_set_self h]
              rfl
            rw [e1, ih]
          · rw [List.set_eq_of_length_le (by omega), List.set_eq_of_length_le (by omega)]
    rw [ss] at b
    exact b
theorem pl_var {i : Nat} : PlJ K B (tVar i) (fun _ => some (i, [])) := fun Z H σ ρ F i' p u rs o e g Q q => by
  cases e
  obtain ⟨t, ht, nh, hg, _⟩ := getE_ok g
  obtain ⟨v, G, hv, rt, sub⟩ := rs.get ht nh
  exact ⟨v, hv, q v H Z (Stp.refl o.non) ⟨t, v, ht, hv, .nil⟩⟩
theorem getT_app : ∀ {p : List Nat} {t u : T} {j : Nat} {q : List Nat}, getT t (p ++ [j]) = some u → ∃ k ts, getT t p = some (.nd k ts) ∧ pas k = true ∧ ts[j]? = some u
  | [], .nd k ts, u, j, _, h => by
    have h : (if pas k = true then (ts[j]?).bind fun u => getT u [] else none) = some u := h
    split at h
    · rename_i c
      cases e : ts[j]? with
      | none => rw [e] at h; cases h
      | some t1 =>
        rw [e] at h
        have h : getT t1 [] = some u := h
        have : t1 = u := by cases t1 <;> exact Option.some.inj h
        subst this
        exact ⟨k, ts, rfl, c, e⟩
    · cases h
  | i :: p, .nd k ts, u, j, q, h => by
    have h : (if pas k = true then (ts[i]?).bind fun u => getT u (p ++ [j]) else none) = some u := h
    split at h
    · rename_i c
      cases e : ts[i]? with
      | none => rw [e] at h; cases h
      | some t1 =>
        rw [e] at h
        obtain ⟨k', ts', h1, h2, h3⟩ := getT_app (q := q) (show getT t1 (p ++ [j]) = some u from h)
        refine ⟨k', ts', ?_, h2, h3⟩
        show (if pas k = true then (ts[i]?).bind fun u => getT u p else none) = some (T.nd k' ts')
        rw [if_pos c, e]
        exact h1
    · cases h
  | [], .at _, _, _, _, h => by cases h
  | [], .hole, _, _, _, h => by cases h
  | _ :: _, .at _, _, _, _, h => by cases h
  | _ :: _, .hole, _, _, _, h => by cases h
theorem VAt.app {Z : AS} {H : Hp} : ∀ {p : List Nat} {t : T} {v : V} {a : Addr} {k : Nk} {ts : List T} {vs : List V} {j : Nat} {w : V}, VAt K Z H t v p (.ref a) → getT t p = some (.nd k ts) → HasObj K Z H a k vs → pas k = true → j < ts.length → vs[j]? = some w → VAt K Z H t v (p ++ [j]) w
  | [], t, _, _, k, ts, _, j, _, .nil, g, ho, hk, hj, hv => by
    have : t = .nd k ts := by cases t <;> exact Option.some.inj g
    subst this
    exact .cons ho hk (List.getElem?_eq_getElem hj) hv .nil
  | i :: p, _, _, _, k, ts, _, j, _, .cons (k := k0) (ts := us) (u := u) ho' hk' hu' hv' va, g, ho, hk, hj, hv => by
    have g : (if pas k0 = true then (us[i]?).bind fun u => getT u p else none) = some (T.nd k ts) := g
    rw [if_pos hk', hu'] at g
    exact .cons ho' hk' hu' hv' (va.app g ho hk hj hv)
/-- the object at a place that is read -/
theorem RepS.look {Z F : AS} {H : Hp} {σ : St} {ρ : Env} (r : RepS K Z H σ ρ F) {i : Nat} {p : List Nat} {u : T} {w : V} (e : getE ρ i p = some u) (pa : PAt K Z H σ ρ i p w) : ∃ G, Rep K Z H u w G ∧ ∀ a, G a → F a := by
  obtain ⟨t, ht, nh, hg, gd⟩ := getE_ok e
  obtain ⟨w', G, R, pa', ru, rs', dj, rfl⟩ := r.take ht nh hg
  have ew : w = w' := by
    obtain ⟨t1, v1, h1, h2, h3⟩ := pa
    obtain ⟨t2, v2, g1, g2, g3⟩ := pa'
    rw [ht] at h1
    cases h1
    have il := (List.getElem?_eq_some_iff.mp ht).1
    rw [List.getElem?_set_self il] at g1
    cases g1
    rw [h2] at g2
    cases g2
    exact (h3.holed .hole).uniq g3
  subst ew
  exact ⟨G, ru, fun a g => .inl g⟩
theorem pj_pl {te : TE} {pf : Env → Option (Nat × List Nat)} (h : PlJ K B te pf) : PJ K B te (fun ρ => (pf ρ).bind fun x => getE ρ x.1 x.2) := fun Z H σ ρ F t rs o e Q q => by
  cases c : pf ρ with
  | none => simp only [c] at e; cases e
  | some x =>
    simp only [c] at e
    have e : getE ρ x.1 x.2 = some t := e
    refine h Z H σ ρ F x.1 x.2 t rs o c e _ fun w H1 Z1 a1 pa => ?_
    obtain ⟨G, ru, sub⟩ := (rs.pst o a1).look e pa
    exact q w H1 Z1 G a1 (fun a g => .inl (sub a g)) (fun a g => (a1.env o rs.no).ok.dj a (sub a g)) ru
/-! attributes -/
def fldIx (C : Addr) (f : Str) : T → Option Nat
  | .nd (.obj C' fs) _ => if C' = C then fs.idxOf? f else none
  | _ => none
def fldT (C : Addr) (f : Str) (t : T) : Option T := (fldIx C f t).bind fun j => match t with
  | .nd _ ts => ts[j]?
  | _ => none
theorem fldIx_ok {C : Addr} {f : Str} {t : T} {j : Nat} (h : fldIx C f t = some j) : ∃ fs ts, t = .nd (.obj C fs) ts ∧ fs.idxOf? f = some j := by
  cases t with
  | «at» _ => cases h
  | hole => cases h
  | nd k ts =>
    cases k with
    | obj C' fs =>
      have h : (if C' = C then fs.idxOf? f else none) = some j := h
      split at h
      · rename_i e
        exact ⟨fs, ts, by rw [e], h⟩
      · cases h
    | _ => cases h
theorem idxOf_lookup {f : Str} : ∀ {fs : List Str} {vs : List V} {j : Nat}, fs.idxOf? f = some j → vs.length = fs.length → (fs.zip vs).lookup f = vs[j]?
  | [], _, _, h, _ => by cases h
  | g :: fs, [], _, _, e => by simp at e
  | g :: fs, v :: vs, j, h, e => by
    rw [List.idxOf?_cons] at h
    rw [List.zip_cons_cons, List.lookup_cons]
    by_cases c : g = f
    · subst c
      simp at h
      subst h
      simp
    · have c1 : (g == f) = false := by simpa using c
      have c2 : (f == g) = false := by simpa using fun z : f = g => c z.symm
      rw [c1] at h
      rw [c2]
      cases q : fs.idxOf? f with
      | none => rw [q] at h; cases h
      | some j' =>
        rw [q] at h
        cases h
        rw [idxOf_lookup q (by simpa using e)]
        rfl
theorem pj_fld {te : TE} {f : Env → Option T} {C : Addr} {x : Str} (hC : Cls K C) (hn : NoAttr K C x) (h : PJ K B te f) : PJ K B (tFld K te x) (fun ρ => (f ρ).bind (fldT C x)) := fun Z H σ ρ F t rs o e Q q => by
  cases c : f ρ with
  | none => simp only [c] at e; cases e
  | some u =>
    simp only [c] at e
    have e : fldT C x u = some t := e
    unfold fldT at e
    cases c2 : fldIx C x u with
    | none => rw [c2] at e; cases e
    | some j =>
      rw [c2] at e
      obtain ⟨fs, ts, rfl, ix⟩ := fldIx_ok c2
      have e : ts[j]? = some t := e
      refine h Z H σ ρ F _ rs o c _ fun v H1 Z1 G a1 sub d1 r1 => ?_
      cases r1 with
      | @nd _ _ a vs Fc ho hl hno =>
        obtain ⟨hl2, dx, ha⟩ := ho
        obtain ⟨w, Gw, hw, rw, sw⟩ := hl.get e
        have lk := idxOf_lookup ix hl2
        exact ⟨a, _, dx, _, w, rfl, ha, hC, hn, lk.trans hw, q w H1 Z1 Gw a1 (fun b g => sub b (put_r b (sw b g))) (fun b g => d1 b (put_r b (sw b g))) rw⟩
def plFld (C : Addr) (x : Str) (pf : Env → Option (Nat × List Nat)) : Env → Option (Nat × List Nat) := fun ρ => (pf ρ).bind fun y => (getE ρ y.1 y.2).bind fun u => (fldIx C x u).map fun j => (y.1, y.2 ++ [j])
theorem pl_fld {te : TE} {pf : Env → Option (Nat × List Nat)} {C : Addr} {x : Str} (hC : Cls K C) (hn : NoAttr K C x) (h : PlJ K B te pf) : PlJ K B (tFld K te x) (plFld C x pf) := fun Z H σ ρ F i p u rs o e g Q q => by
  unfold plFld at e
  cases c : pf ρ with
  | none => rw [c] at e; cases e
  | some y =>
    rw [c] at e
    have e : ((getE ρ y.1 y.2).bind fun u => (fldIx C x u).map fun j => (y.1, y.2 ++ [j])) = some (i, p) := e
    cases c1 : getE ρ y.1 y.2 with
    | none => rw [c1] at e; cases e
    | some t =>
      rw [c1] at e
      have e : ((fldIx C x t).map fun j => (y.1, y.2 ++ [j])) = some (i, p) := e
      cases c2 : fldIx C x t with
      | none => rw [c2] at e; cases e
      | some j =>
        rw [c2] at e
        cases e
        refine h Z H σ ρ F y.1 y.2 t rs o c c1 _ fun w H1 Z1 a1 pa => ?_
        obtain ⟨t0, ht, nh, hg, gd⟩ := getE_ok c1
        obtain ⟨t0', ht', nh', hg', gd'⟩ := getE_ok g
        rw [ht] at ht'
        cases ht'
        obtain ⟨k, ts, g1, g2, g3⟩ := getT_app (q := []) hg'
        obtain ⟨fs, ts', rfl, ix⟩ := fldIx_ok c2
        rw [hg] at g1
        cases g1
        obtain ⟨G, ru, sub⟩ := (rs.pst o a1).look c1 pa
        cases ru with
        | @nd _ _ a vs Fc ho hl hno =>
          obtain ⟨hl2, dx, ha⟩ := id ho
          obtain ⟨w, Gw, hw, rw, sw⟩ := hl.get g3
          have lk := idxOf_lookup ix hl2
          refine ⟨a, _, dx, _, w, rfl, ha, hC, hn, lk.trans hw, q w H1 Z1 a1 ?_⟩
          obtain ⟨t1, v1, h1, h2, h3⟩ := pa
          rw [ht] at h1
          cases h1
          exact ⟨t0, v1, ht, h2, h3.app hg ho rfl (List.getElem?_eq_some_iff.mp g3).1 hw⟩
end
end TV
/-! Own defs that are called. -/
namespace TV
open PySem L2
abbrev Fn := List T → Option (Except Ex T × List T)
section
variable (K : PySem.W.Frag) (B : Tabs)
/-- a def that does what a plain function does -/
def spOf (G : Fn) : Sp := fun vs H Q E => ∃ (Z : AS) (ts : List T) (F : AS) (r : Except Ex T) (ts' : List T), RepL K Z H ts vs F ∧ Ok B Z F H ∧ G ts = some (r, ts') ∧
  (∀ t, r = .ok t → ∀ v H' Z' Gr F', Stp B Z F H Z' (uni Gr F') H' → Dj Gr F' → Rep K Z' H' t v Gr → RepL K Z' H' ts' vs F' → Q v H') ∧
  (∀ e, r = .error e → ∀ d H' Z' F', Stp B Z F H Z' F' H' → RepL K Z' H' ts' vs F' → exOk e d H' → E (.ref e.1) d H')
/-- arguments: slots, or values of their own -/
inductive RepA (Z : AS) (H : Hp) (σ : St) : List (Sum Nat T) → List V → AS → Prop
  | nil : RepA Z H σ [] [] non
  | slot {i : Nat} {v : V} {as : List (Sum Nat T)} {vs : List V} {G : AS} : σ[i]? = some (some v) → RepA Z H σ as vs G → RepA Z H σ (.inl i :: as) (v :: vs) G
  | val {t : T} {v : V} {as : List (Sum Nat T)} {vs : List V} {F G : AS} : Rep K Z H t v F → RepA Z H σ as vs G → Dj F G → RepA Z H σ (.inr t :: as) (v :: vs) (uni F G)
def XJ (E : XK) (ta : TA) (f : EM (List (Sum Nat T))) : Prop := ∀ (Z : AS) (H : Hp) (σ : St) (ρ : Env) (F : AS) (r : Except Ex (List (Sum Nat T))) (ρ' : Env), RepS K Z H σ ρ F → Ok B Z F H → f ρ = some (r, ρ') → ∀ Q : List V → Hp → Prop,
  (∀ as, r = .ok as → ∀ vs H' Z' G F', Stp B Z F H Z' (uni G F') H' → Dj G F' → RepA K Z' H' σ as vs G → RepS K Z' H' σ ρ' F' → Q vs H') →
  (∀ e, r = .error e → ∀ d H' Z' F', Stp B Z F H Z' F' H' → RepS K Z' H' σ ρ' F' → exOk e d H' → E (.ref e.1) d H') → ta σ H Q
end
section
variable {K : PySem.W.Frag} {B : Tabs} {E : XK} {P : Nat → Prop}
theorem RepA.al {Z : AS} {H : Hp} {σ : St} {as : List (Sum Nat T)} {vs : List V} {G : AS} (r : RepA K Z H σ as vs G) : ∀ a, G a → ∃ o, H a = some o ∧ ∀ ps, o ≠ .tbl ps := by
  induction r with
  | nil => exact fun _ z => z.elim
  | slot _ _ ih => exact ih
  | val h _ _ ih => exact fun a z => z.elim (h.al a) (ih a)
theorem RepA.no {Z : AS} {H : Hp} {σ : St} {as : List (Sum Nat T)} {vs : List V} {G : AS} (r : RepA K Z H σ as vs G) {a : Addr} (h : G a) : H a ≠ none := fun e => by
  obtain ⟨o, z, _⟩ := r.al a h
  rw [e] at z; cases z
theorem RepA.stp {Z F Z' F' : AS} {H H' : Hp} {σ : St} {as : List (Sum Nat T)} {vs : List V} {G : AS} (r : RepA K Z H σ as vs G) (o : Ok B Z F H) (s : Stp B Z F H Z' F' H') (d : Dj G F) : RepA K Z' H' σ as vs G := by
  induction r with
  | nil => exact .nil
  | slot h _ ih => exact .slot h (ih d)
  | val h _ dj ih => exact .val (h.stp o s d.l') (ih d.r') dj
def xNil : EM (List (Sum Nat T)) := fun ρ => some (.ok [], ρ)
theorem xj_nil : XJ K B E tNil xNil := fun Z H σ ρ F r ρ' rs o e Q q _ => by
  cases e
  refine q [] rfl [] H Z non F ?_ Dj.non' .nil rs
  rw [non_uni]
  exact Stp.refl o
def xSlot (i : Nat) (fr : EM (List (Sum Nat T))) : EM (List (Sum Nat T)) := fun ρ => (fVar i ρ).bind fun _ => bE fr (fun as => rE (some (.inl i :: as))) ρ
theorem xj_slot {i : Nat} {tr : TA} {fr : EM (List (Sum Nat T))} (hb : XJ K B E tr fr) : XJ K B E (tCons (tVar i) tr) (xSlot i fr) := fun Z H σ ρ F r ρ' rs o e Q q qe => by
  unfold xSlot at e
  cases c : fVar i ρ with
  | none => rw [c] at e; cases e
  | some t0 =>
    rw [c] at e
    obtain ⟨c1, c2⟩ := fVar_get c
    obtain ⟨x, G0, hx, _, _⟩ := rs.get c1 c2
    refine ⟨x, hx, ?_⟩
    rcases bE_ok e with ⟨as, ρ1, e1, e⟩ | ⟨x, e1, rfl⟩
    · obtain ⟨t', e3, rfl, rfl⟩ := rE_ok e
      cases e3
      refine hb Z H σ ρ F _ _ rs o e1 _ (fun a1 ea vs H1 Z1 G1 F1 s1 d1 r1 rs1 => ?_) fun x ex => by cases ex
      cases ea
      exact q _ rfl _ H1 Z1 G1 F1 s1 d1 (.slot hx r1) rs1
    · exact hb Z H σ ρ F _ ρ' rs o e1 _ (fun u1 eu => by cases eu) fun x' ex d H2 Z2 F2 s2 rs2 xo => by
        cases ex
        exact qe _ rfl d H2 Z2 F2 s2 rs2 xo
def xVal (fa : EM T) (fr : EM (List (Sum Nat T))) : EM (List (Sum Nat T)) := bE fa fun t => bE fr fun as => rE (some (.inr t :: as))
theorem xj_val {ta : TE} {tr : TA} {fa : EM T} {fr : EM (List (Sum Nat T))} (ha : VJ K B E ta fa) (hb : XJ K B E tr fr) : XJ K B E (tCons ta tr) (xVal fa fr) := fun Z H σ ρ F r ρ' rs o e Q q qe => by
  rcases bE_ok e with ⟨t, ρ1, e1, e⟩ | ⟨x, e1, rfl⟩
  · refine ha Z H σ ρ F _ ρ1 rs o e1 _ (fun t1 et x H1 Z1 G1 F1 s1 d1 r1 rs1 => ?_) fun x ex => by cases ex
    cases et
    have o1 := s1.ok.sub (G := F1) fun a z => .inr z
    have sF := s1.less (G := F1) fun a z => .inr z
    rcases bE_ok e with ⟨u, ρ2, e2, e⟩ | ⟨x, e2, rfl⟩
    · refine hb Z1 H1 σ ρ1 F1 _ ρ2 rs1 o1 e2 _ (fun u1 eu y H2 Z2 G2 F2 s2 d2 r2 rs2 => ?_) fun x ex => by cases ex
      cases eu
      obtain ⟨t', e3, rfl, rfl⟩ := rE_ok e
      cases e3
      have r1' := r1.stp o1 s2 d1
      obtain ⟨f1, f2, f3⟩ := Stp.frame (R := G1) s2 (fun a g z => s1.ok.dj a (.inl g) z) d1 (fun a g => r1.no g)
      have s12 : Stp B Z F H Z2 (uni (uni G2 F2) G1) H2 := by
        have z := s1
        rw [uni_comm] at z
        exact z.trans f1
      refine q _ rfl _ H2 Z2 (uni G1 G2) F2 (s12.less fun a z => ?_) (Dj.uni' (fun a g f => f2 a (.inr f) g) d2) (.val r1' r2 fun a g f => f2 a (.inl f) g) rs2
      rcases z with (z | z) | z
      · exact .inr z
      · exact .inl (.inl z)
      · exact .inl (.inr z)
    · refine hb Z1 H1 σ ρ1 F1 _ ρ' rs1 o1 e2 _ (fun u1 eu => by cases eu) fun x' ex d H2 Z2 F2 s2 rs2 xo => ?_
      cases ex
      exact qe x rfl d H2 Z2 F2 (sF.trans s2) rs2 xo
  · refine ha Z H σ ρ F _ ρ' rs o e1 _ (fun t1 et => by cases et) fun x' ex d H1 Z1 F1 s1 rs1 xo => ?_
    cases ex
    exact qe x rfl d H1 Z1 F1 s1 rs1 xo
/-- the slots are taken for the call -/
def fill : List (Sum Nat T) → Env → Option (List T × Env)
  | [], ρ => some ([], ρ)
  | .inl i :: as, ρ => (fVar i ρ).bind fun t => (fill as (if frzd t = true then ρ else ρ.set i .hole)).map fun x => (t :: x.1, x.2)
  | .inr t :: as, ρ => (fill as ρ).map fun x => (t :: x.1, x.2)
/-- and given back -/
def unfill : List (Sum Nat T) → List T → Env → Option Env
  | [], [], ρ => some ρ
  | .inl i :: as, t :: ts, ρ => unfill as ts (if ((ρ[i]?).map isHole) = some true then ρ.set i t else ρ)
  | .inr _ :: as, _ :: ts, ρ => unfill as ts ρ
  | _, _, _ => none
theorem fill_ok {Z : AS} {H : Hp} {σ : St} : ∀ {as : List (Sum Nat T)} {vs : List V} {G F : AS} {ρ ρ' : Env} {ts : List T}, RepA K Z H σ as vs G → RepS K Z H σ ρ F → Dj G F → fill as ρ = some (ts, ρ') →
    ∃ G' F', RepL K Z H ts vs G' ∧ RepS K Z H σ ρ' F' ∧ Dj G' F' ∧ (∀ a, G' a → G a ∨ F a) ∧ ∀ a, F' a → F a
  | [], _, _, F, _, _, _, .nil, rs, d, e => by
    cases e
    exact ⟨non, F, .nil, rs, Dj.non', fun _ z => z.elim, fun _ z => z⟩
  | .inl i :: as, _, G, F, ρ, ρ', ts, .slot (v := v) hv ra, rs, d, e => by
    have e : ((fVar i ρ).bind fun t => (fill as (if frzd t = true then ρ else ρ.set i .hole)).map fun x => (t :: x.1, x.2)) = some (ts, ρ') := e
    cases c : fVar i ρ with
    | none => rw [c] at e; cases e
    | some t =>
      rw [c] at e
      obtain ⟨c1, c2⟩ := fVar_get c
      have e : (fill as (if frzd t = true then ρ else ρ.set i .hole)).map (fun x => (t :: x.1, x.2)) = some (ts, ρ') := e
      cases c3 : fill as (if frzd t = true then ρ else ρ.set i .hole) with
      | none => rw [c3] at e; cases e
      | some y =>
        rw [c3] at e
        cases e
        split at c3
        · rename_i fz
          obtain ⟨v', G0, hv', rt, _⟩ := rs.get c1 c2
          rw [hv] at hv'
          cases hv'
          have := rt.frzd_eq fz
          subst this
          obtain ⟨G', F', h1, h2, h3, h4, h5⟩ := fill_ok ra rs d c3
          have z := RepL.cons rt h1 Dj.non'
          rw [non_uni] at z
          exact ⟨G', F', z, h2, h3, h4, h5⟩
        · obtain ⟨w, G0, R, pa, ru, rs', dj, rfl⟩ := rs.take (p := []) (u := t) c1 c2 (by cases t <;> rfl)
          have e1 : setT t [] .hole = .hole := by cases t <;> rfl
          rw [e1] at pa rs'
          obtain ⟨t1, v1, h1, h2, h3⟩ := pa
          rw [hv] at h2
          cases h2
          cases h3
          obtain ⟨G', F', g1, g2, g3, g4, g5⟩ := fill_ok ra rs' d.r c3
          refine ⟨uni G0 G', F', .cons ru g1 (fun a z y => (g4 a y).elim (fun y => d a y (.inl z)) (dj a z)), g2, Dj.uni' (fun a z y => dj a z (g5 a y)) g3, fun a z => ?_, fun a z => .inr (g5 a z)⟩
          rcases z with z | z
          · exact .inr (.inl z)
          · exact (g4 a z).imp id .inr
  | .inr t :: as, _, _, F, ρ, ρ', ts, .val (v := v) (F := Ft) (G := Ga) rt ra dj, rs, d, e => by
    have e : (fill as ρ).map (fun x => (t :: x.1, x.2)) = some (ts, ρ') := e
    cases c3 : fill as ρ with
    | none => rw [c3] at e; cases e
    | some y =>
      rw [c3] at e
      cases e
      obtain ⟨G', F', h1, h2, h3, h4, h5⟩ := fill_ok ra rs d.r' c3
      refine ⟨uni Ft G', F', .cons rt h1 (fun a z y => (h4 a y).elim (dj a z) (d a (.inl z))), h2, Dj.uni' (fun a z y => d a (.inl z) (h5 a y)) h3, fun a z => ?_, h5⟩
      rcases z with z | z
      · exact .inl (.inl z)
      · exact (h4 a z).imp .inr id
theorem unfill_ok {Z Z0 : AS} {H H0 : Hp} {σ : St} : ∀ {as : List (Sum Nat T)} {vs : List V} {G0 G F : AS} {ρ ρ' : Env} {ts : List T}, RepA K Z0 H0 σ as vs G0 → RepL K Z H ts vs G → RepS K Z H σ ρ F → Dj G F → unfill as ts ρ = some ρ' →
    ∃ F', RepS K Z H σ ρ' F' ∧ ∀ a, F' a → G a ∨ F a
  | [], _, _, _, F, _, _, _, .nil, .nil, rs, d, e => by
    cases e
    exact ⟨F, rs, fun _ z => .inr z⟩
  | .inl i :: as, _, _, _, F, ρ, ρ', _, .slot (v := v) hv ra, .cons (t := t) (ts := ts) (F := Ft) (G := Ga) rt rl dj, rs, d, e => by
    have e : unfill as ts (if ((ρ[i]?).map isHole) = some true then ρ.set i t else ρ) = some ρ' := e
    split at e
    · rename_i ch
      have il : i < ρ.length := by
        by_cases c : i < ρ.length
        · exact c
        · rw [List.getElem?_eq_none (by omega)] at ch
          cases ch
      obtain ⟨F1, rs1, s1⟩ := rs.set il rt d.l'
      have es : σ.set i (some v) = σ := by
        have hl := (List.getElem?_eq_some_iff.mp hv).1
        rw [← (List.getElem?_eq_some_iff.mp hv).2]
        exact List.set_getElem_self hl
      rw [es] at rs1
      obtain ⟨F2, rs2, s2⟩ := unfill_ok ra rl rs1 (fun a z y => (s1 a y).elim (fun y => dj a y z) (d a (.inr z))) e
      refine ⟨F2, rs2, fun a z => ?_⟩
      rcases s2 a z with z | z
      · exact .inl (.inr z)
      · exact (s1 a z).imp .inl id
    · obtain ⟨F2, rs2, s2⟩ := unfill_ok ra rl rs d.r' e
      exact ⟨F2, rs2, fun a z => (s2 a z).imp .inr id⟩
  | .inr _ :: as, _, _, _, F, ρ, ρ', _, .val _ ra _, .cons (ts := ts) rt rl dj, rs, d, e => by
    obtain ⟨F2, rs2, s2⟩ := unfill_ok ra rl rs d.r' e
    exact ⟨F2, rs2, fun a z => (s2 a z).imp .inr id⟩
def callG (G : Fn) (as : List (Sum Nat T)) : EM T := fun ρ => (fill as ρ).bind fun x => (G x.1).bind fun y => (unfill as y.2 x.2).map fun ρ' => (y.1, ρ')
theorem callG_ok {G : Fn} {as : List (Sum Nat T)} {ρ ρ' : Env} {r : Except Ex T} (h : callG G as ρ = some (r, ρ')) : ∃ ts ρ1 ts', fill as ρ = some (ts, ρ1) ∧ G ts = some (r, ts') ∧ unfill as ts' ρ1 = some ρ' := by
  unfold callG at h
  cases c : fill as ρ with
  | none => rw [c] at h; cases h
  | some x =>
    rw [c] at h
    have h : ((G x.1).bind fun y => (unfill as y.2 x.2).map fun ρ' => (y.1, ρ')) = some (r, ρ') := h
    cases c2 : G x.1 with
    | none => rw [c2] at h; cases h
    | some y =>
      rw [c2] at h
      have h : (unfill as y.2 x.2).map (fun ρ' => (y.1, ρ')) = some (r, ρ') := h
      cases c3 : unfill as y.2 x.2 with
      | none => rw [c3] at h; cases h
      | some z =>
        rw [c3] at h
        cases h
        exact ⟨x.1, x.2, y.2, rfl, c2, c3⟩
/-- the promise is used -/
theorem use_sp {G : Fn} {as : List (Sum Nat T)} {ρ ρ' : Env} {r : Except Ex T} {Z Gx F : AS} {H : Hp} {σ : St} {vs : List V} (h : callG G as ρ = some (r, ρ')) (ra : RepA K Z H σ as vs Gx) (rs : RepS K Z H σ ρ F) (o : Ok B Z (uni Gx F) H) (d : Dj Gx F) {Q : VK}
    (q : ∀ t, r = .ok t → ∀ v H' Z' G' F', Stp B Z (uni Gx F) H Z' (uni G' F') H' → Dj G' F' → Rep K Z' H' t v G' → RepS K Z' H' σ ρ' F' → Q v H')
    (qe : ∀ e, r = .error e → ∀ d H' Z' F', Stp B Z (uni Gx F) H Z' F' H' → RepS K Z' H' σ ρ' F' → exOk e d H' → E (.ref e.1) d H') : spOf K B G vs H Q E := by
  obtain ⟨ts, ρ1, ts', e1, e2, e3⟩ := callG_ok h
  obtain ⟨G', F', rl, rs1, dj, sG, sF⟩ := fill_ok ra rs d e1
  have o0 : Ok B Z G' H := o.sub fun a z => sG a z
  have al : ∀ a, F' a → H a ≠ none := fun a z => rs1.no a z
  have dz : Dj F' Z := fun a z y => o.dj a (.inr (sF a z)) y
  have drop : Stp B Z (uni Gx F) H Z (uni G' F') H := Stp.drop o fun a z => z.elim (fun z => (sG a z)) fun z => .inr (sF a z)
  refine ⟨Z, ts, G', r, ts', rl, o0, e2, fun t et v H' Z' Gr Fr s dr rt rl' => ?_, fun x ex dd H' Z' Fr s rl' xo => ?_⟩
  · obtain ⟨f1, f2, f3⟩ := Stp.frame (R := F') s dz dj.symm al
    have rs2 := rs1.stp o0 s dj.symm
    obtain ⟨F2, rs3, s3⟩ := unfill_ok ra rl' rs2 f2.r' e3
    refine q t et v H' Z' Gr F2 ((drop.trans f1).less fun a z => ?_) (fun a z y => (s3 a y).elim (dr a z) (f2 a (.inl z))) rt rs3
    rcases z with z | z
    · exact .inl (.inl z)
    · exact (s3 a z).imp .inr id
  · obtain ⟨f1, f2, f3⟩ := Stp.frame (R := F') s dz dj.symm al
    have rs2 := rs1.stp o0 s dj.symm
    obtain ⟨F2, rs3, s3⟩ := unfill_ok ra rl' rs2 f2 e3
    exact qe x ex dd H' Z' F2 ((drop.trans f1).less fun a z => s3 a z) rs3 xo
theorem vj_call {G : Fn} {ta : TA} {fa : EM (List (Sum Nat T))} (ha : XJ K B E ta fa) : VJ K B E (tCall (spOf K B G) [] E ta) (bE fa (callG G)) := fun Z H σ ρ F r ρ' rs o e Q q qe => by
  rcases bE_ok e with ⟨as, ρ1, e1, e⟩ | ⟨x, e1, rfl⟩
  · refine ha Z H σ ρ F _ ρ1 rs o e1 _ (fun a1 ea vs H1 Z1 G1 F1 s1 d1 r1 rs1 => ?_) fun x ex => by cases ex
    cases ea
    rw [List.append_nil]
    exact use_sp e r1 rs1 s1.ok d1 (fun t et v H2 Z2 G2 F2 s2 d2 r2 rs2 => q t et v H2 Z2 G2 F2 (s1.trans s2) d2 r2 rs2) fun x ex d H2 Z2 F2 s2 rs2 xo => qe x ex d H2 Z2 F2 (s1.trans s2) rs2 xo
  · refine ha Z H σ ρ F _ ρ' rs o e1 _ (fun t1 et => by cases et) fun x' ex d H1 Z1 F1 s1 rs1 xo => ?_
    cases ex
    exact qe x rfl d H1 Z1 F1 s1 rs1 xo
/-- an object of the class C, without an attribute m -/
def isObj (C : Addr) (m : Str) : T → Bool
  | .nd (.obj C' fs) _ => decide (C' = C) && !(fs.contains m)
  | _ => false
theorem isObj_ok {C : Addr} {m : Str} {t : T} (h : isObj C m t = true) : ∃ fs ts, t = .nd (.obj C fs) ts ∧ m ∉ fs := by
  cases t with
  | «at» _ => cases h
  | hole => cases h
  | nd k ts =>
    cases k with
    | obj C' fs =>
      have h : (decide (C' = C) && !(fs.contains m)) = true := h
      rw [Bool.and_eq_true, decide_eq_true_eq, Bool.not_eq_true'] at h
      obtain ⟨e, h2⟩ := h
      exact ⟨fs, ts, by rw [e], fun z => by rw [List.contains_iff_mem.mpr z] at h2; cases h2⟩
    | _ => cases h
theorem lookup_no {m : Str} : ∀ {fs : List Str} {vs : List V}, m ∉ fs → (fs.zip vs).lookup m = none
  | [], _, _ => rfl
  | f :: fs, [], _ => rfl
  | f :: fs, v :: vs, h => by
    rw [List.zip_cons_cons, List.lookup_cons]
    have c : (m == f) = false := by simpa using fun z : m = f => h (by rw [z]; exact List.mem_cons_self ..)
    rw [c]
    exact lookup_no fun z => h (List.mem_cons_of_mem _ z)
/-- o.m(..), o a slot -/
def fMeth (C : Addr) (m : Str) (i : Nat) (G : Fn) (fa : EM (List (Sum Nat T))) : EM T := fun ρ => (fVar i ρ).bind fun t => if isObj C m t = true then bE fa (fun as => callG G (.inl i :: as)) ρ else none
theorem vj_meth {C : Addr} {m : Str} {i : Nat} {G : Fn} {ta : TA} {fa : EM (List (Sum Nat T))} (ha : XJ K B E ta fa) : VJ K B E (tMeth C m (spOf K B G) [] E (tVar i) ta) (fMeth C m i G fa) := fun Z H σ ρ F r ρ' rs o e Q q qe => by
  unfold fMeth at e
  cases c : fVar i ρ with
  | none => rw [c] at e; cases e
  | some t =>
    rw [c] at e
    obtain ⟨c1, c2⟩ := fVar_get c
    have e2 : (if isObj C m t = true then bE fa (fun as => callG G (.inl i :: as)) ρ else none) = some (r, ρ') := e
    clear e
    split at e2
    · rename_i ck
      obtain ⟨fs, us, rfl, hm⟩ := isObj_ok ck
      obtain ⟨x, G0, hx, rt, _⟩ := rs.get c1 c2
      cases rt with
      | @nd _ _ a vs Fc ho hl hno =>
        obtain ⟨hl2, dx, hA⟩ := ho
        refine ⟨.ref a, hx, a, dx, _, rfl, hA, lookup_no hm, ?_⟩
        rcases bE_ok e2 with ⟨as, ρ1, e1, e⟩ | ⟨x, e1, rfl⟩
        · refine ha Z H σ ρ F _ ρ1 rs o e1 _ (fun a1 ea vs H1 Z1 G1 F1 s1 d1 r1 rs1 => ?_) fun x ex => by cases ex
          cases ea
          rw [List.append_nil]
          exact use_sp e (.slot hx r1) rs1 s1.ok d1 (fun t et v H2 Z2 G2 F2 s2 d2 r2 rs2 => q t et v H2 Z2 G2 F2 (s1.trans s2) d2 r2 rs2) fun x ex d H2 Z2 F2 s2 rs2 xo => qe x ex d H2 Z2 F2 (s1.trans s2) rs2 xo
        · exact ha Z H σ ρ F _ ρ' rs o e1 _ (fun t1 et => by cases et) fun x' ex d H1 Z1 F1 s1 rs1 xo => by
            cases ex
            exact qe x rfl d H1 Z1 F1 s1 rs1 xo
    · cases e2
/-- C(..): the new object -/
def fMake (C : Addr) (G : Fn) (as : List (Sum Nat T)) : EM T := fun ρ => (fill as ρ).bind fun x => (G (.nd (.obj C []) [] :: x.1)).bind fun y => match y with
  | (.ok (.at .non), s :: ts) => (unfill as ts x.2).map fun ρ' => (.ok s, ρ')
  | (.error e, _ :: ts) => (unfill as ts x.2).map fun ρ' => (.error e, ρ')
  | _ => none
theorem vj_make {C : Addr} {G : Fn} {ta : TA} {fa : EM (List (Sum Nat T))} (ha : XJ K B E ta fa) : VJ K B E (tMake C (spOf K B G) [] E ta) (bE fa (fMake C G)) := fun Z H σ ρ F r ρ' rs o e Q q qe => by
  rcases bE_ok e with ⟨as, ρ1, e1, e⟩ | ⟨x, e1, rfl⟩
  · refine ha Z H σ ρ F _ ρ1 rs o e1 _ (fun a1 ea vs H1 Z1 G1 F1 s1 d1 r1 rs1 => ?_) fun x ex => by cases ex
    cases ea
    refine fun x dx nx ndx ne => ?_
    rw [List.append_nil]
    unfold fMake at e
    cases c : fill as ρ1 with
    | none => rw [c] at e; cases e
    | some y =>
      obtain ⟨ts, ρ2⟩ := y
      rw [c] at e
      have e : ((G (.nd (.obj C []) [] :: ts)).bind fun y => match y with
        | (.ok (.at .non), s :: ts) => (unfill as ts ρ2).map fun ρ' => (Except.ok s, ρ')
        | (.error e, _ :: ts) => (unfill as ts ρ2).map fun ρ' => (Except.error e, ρ')
        | _ => none) = some (r, ρ') := e
      cases c2 : G (.nd (.obj C []) [] :: ts) with
      | none => rw [c2] at e; cases e
      | some y =>
        obtain ⟨w, ts'⟩ := y
        rw [c2] at e
        obtain ⟨G', F', rl, rs2, dj, sG, sF⟩ := fill_ok r1 rs1 d1 c
        have al1 : ∀ a, uni G1 F1 a → H1 a ≠ none := fun a z => z.elim (fun z => r1.no z) (rs1.no a)
        have f0 : Fx non H1 (upd (upd H1 dx (.own x)) x (.ins C dx [])) := by
          have h1 : Fx non H1 (upd H1 dx (.own x)) := Fx.new ndx
          have h2 : upd H1 dx (.own x) x = none := by rw [upd_ne (Ne.symm ne)]; exact nx
          exact h1.trans (Fx.new h2) fun a z => .inl z
        have hx2 : (upd (upd H1 dx (.own x)) x (.ins C dx [])) x = some (.ins C dx []) := upd_same
        generalize upd (upd H1 dx (.own x)) x (.ins C dx []) = H2 at f0 hx2 ⊢
        have rl2 : RepL K Z1 H2 ts _ G' := RepL.st f0 (fun _ z => z) Dj.non rl Dj.non
        have rs3 : RepS K Z1 H2 σ ρ2 F' := rs2.st f0 (fun _ z => z) Dj.non Dj.non
        have nz : ∀ {X : AS}, (∀ a, X a → H1 a ≠ none) → ¬ X x := fun h z => h x z nx
        have nG : ¬ G' x := nz fun a z => al1 a (sG a z)
        have nF : ¬ F' x := nz fun a z => rs2.no a z
        have nZ : ¬ Z1 x := fun z => by
          obtain ⟨u, hu, _⟩ := s1.ok.zal x z
          rw [nx] at hu; cases hu
        have ro : Rep K Z1 H2 (.nd (.obj C []) []) (.ref x) (one x) := by
          have z := Rep.nd (k := .obj C []) (a := x) (K := K) (Z := Z1) (H := H2) (vs := []) ⟨rfl, dx, hx2⟩ .nil fun _ z => z
          rw [show put (.obj C []) x non = uni (one x) non from rfl, uni_non] at z
          exact z
        have rl3 : RepL K Z1 H2 (.nd (.obj C []) [] :: ts) (.ref x :: _) (uni (one x) G') := .cons ro rl2 fun a z g => nG (by rw [← show a = x from z]; exact g)
        have s2 : Stp B Z1 (uni G1 F1) H1 Z1 (uni (uni (one x) G') F') H2 := by
          refine ⟨f0.mono fun a z => z.elim, fun _ z => z, fun _ z => .inl z, fun a z => ?_, ⟨?_, fun a z => ?_, s1.ok.amb.fx f0 Dj.non⟩⟩
          · rcases z with (z | z) | z
            · rw [show a = x from z]; exact .inr nx
            · exact .inl (sG a z)
            · exact .inl (.inr (sF a z))
          · exact Dj.uni' (Dj.uni' (fun a z y => nZ (by rw [← show a = x from z]; exact y)) fun a z y => s1.ok.dj a (sG a z) y) fun a z y => s1.ok.dj a (.inr (sF a z)) y
          · obtain ⟨u, hu, n⟩ := s1.ok.zal a z
            exact ⟨u, f0.keep _ _ id hu, n⟩
        have o2 : Ok B Z1 (uni (one x) G') H2 := s2.ok.sub fun a z => .inl z
        have dFx : Dj F' (uni (one x) G') := Dj.uni (fun a z y => nF (by rw [← show a = x from y]; exact z)) dj.symm
        refine ⟨Z1, _, uni (one x) G', w, ts', rl3, o2, c2, fun t et v H3 Z3 Gr Fr s3 dr rt rl' => ?_, fun x' ex dd H3 Z3 Fr s3 rl' xo => ?_⟩
        · subst et
          obtain ⟨f1, f2, f3⟩ := Stp.frame (R := F') s3 (fun a z y => s2.ok.dj a (.inr z) y) dFx rs3.no
          have rs4 := rs3.stp o2 s3 dFx
          cases rl' with
          | @cons s0 _ ts2 _ Fs Fg rS rG dSG =>
            cases t with
            | «at» v0 =>
              cases v0 with
              | non =>
                obtain ⟨rfl, rfl⟩ := rt.at_eq
                refine ⟨rfl, ?_⟩
                have e : (unfill as ts2 ρ2).map (fun ρ' => ((Except.ok s0, ρ') : Except Ex T × Env)) = some (r, ρ') := e
                cases c4 : unfill as ts2 ρ2 with
                | none => rw [c4] at e; cases e
                | some z =>
                  rw [c4] at e
                  cases e
                  obtain ⟨F2, rs5, s5⟩ := unfill_ok r1 rG rs4 (fun a z y => f2 a (.inr (.inr z)) y) c4
                  refine q s0 rfl (.ref x) H3 Z3 Fs F2 (((s1.trans s2).trans f1).less fun a z => ?_) (fun a z y => (s5 a y).elim (dSG a z) (f2 a (.inr (.inl z)))) rS rs5
                  rcases z with z | z
                  · exact .inl (.inr (.inl z))
                  · exact (s5 a z).imp (fun z => .inr (.inr z)) id
              | _ => cases e
            | _ => cases e
        · subst ex
          obtain ⟨f1, f2, f3⟩ := Stp.frame (R := F') s3 (fun a z y => s2.ok.dj a (.inr z) y) dFx rs3.no
          have rs4 := rs3.stp o2 s3 dFx
          cases rl' with
          | @cons s0 _ ts2 _ Fs Fg rS rG dSG =>
            have e : (unfill as ts2 ρ2).map (fun ρ' => ((Except.error x', ρ') : Except Ex T × Env)) = some (r, ρ') := e
            cases c4 : unfill as ts2 ρ2 with
            | none => rw [c4] at e; cases e
            | some z =>
              rw [c4] at e
              cases e
              obtain ⟨F2, rs5, s5⟩ := unfill_ok r1 rG rs4 (fun a z y => f2 a (.inr z) y) c4
              refine qe x' rfl dd H3 Z3 F2 (((s1.trans s2).trans f1).less fun a z => ?_) rs5 xo
              exact (s5 a z).imp (fun z => .inr z) id
  · refine ha Z H σ ρ F _ ρ' rs o e1 _ (fun t1 et => by cases et) fun x' ex d H1 Z1 F1 s1 rs1 xo => ?_
    cases ex
    exact qe x rfl d H1 Z1 F1 s1 rs1 xo
end
end TV
/-! Changes: attributes, items, methods of lists and dicts. -/
namespace TV
open PySem L2
section
variable (K : PySem.W.Frag) (B : Tabs)
/-- new values in a row -/
def FAJ (ta : TA) (f : Env → Option (List T)) : Prop := ∀ (Z : AS) (H : Hp) (σ : St) (ρ : Env) (F : AS) (ts : List T), RepS K Z H σ ρ F → Ok B Z F H → f ρ = some ts → ∀ Q : List V → Hp → Prop,
  (∀ vs H' Z' G, Pst B Z H Z' H' → (∀ a, G a → H a = none) → Dj G Z' → RepL K Z' H' ts vs G → Q vs H') → ta σ H Q
/-- a method that changes its list or dict alone -/
structure MtS (r : V → List V → Hp → VK → Prop) (g : Nk → List T → List T → Option (T × Nk × List T)) : Prop where
  ow : ∀ k ts us x, g k ts us = some x → own k = true ∧ own x.2.1 = true
  run : ∀ (Z : AS) (H : Hp) (a : Addr) (k : Nk) (ts : List T) (vs : List V) (Fc : AS) (us : List T) (ws : List V) (Ga : AS) (res : T) (k' : Nk) (ts' : List T),
    HasObj K Z H a k vs → RepL K Z H ts vs Fc → ¬ Fc a → RepL K Z H us ws Ga → ¬ Ga a → Dj Ga Fc → ¬ Z a → g k ts us = some (res, k', ts') → ∀ Q : VK,
    (∀ v o' vs' Fc' Gr, HasObj K Z (upd H a o') a k' vs' → RepL K Z (upd H a o') ts' vs' Fc' → Rep K Z (upd H a o') res v Gr → Dj Fc' Gr → (∀ b, Fc' b → Fc b ∨ Ga b) → (∀ b, Gr b → Fc b ∨ Ga b) → Q v (upd H a o')) → r (.ref a) ws H Q
end
section
variable {K : PySem.W.Frag} {B : Tabs} {E : XK} {P : Nat → Prop}
def pNil : Env → Option (List T) := fun _ => some []
theorem faj_nil : FAJ K B tNil pNil := fun Z H σ ρ F ts rs o e Q q => by
  cases e
  exact q [] H Z non (Stp.refl o.non) (fun _ z => z.elim) Dj.non' .nil
def pCons (fa : Env → Option T) (fr : Env → Option (List T)) : Env → Option (List T) := fun ρ => (fa ρ).bind fun t => (fr ρ).map fun ts => t :: ts
theorem faj_cons {ta : TE} {tr : TA} {fa : Env → Option T} {fr : Env → Option (List T)} (ha : FJ K B ta fa) (hb : FAJ K B tr fr) : FAJ K B (tCons ta tr) (pCons fa fr) := fun Z H σ ρ F ts rs o e Q q => by
  unfold pCons at e
  cases c : fa ρ with
  | none => rw [c] at e; cases e
  | some t =>
    rw [c] at e
    have e : (fr ρ).map (fun ts => t :: ts) = some ts := e
    cases c2 : fr ρ with
    | none => rw [c2] at e; cases e
    | some us =>
      rw [c2] at e
      cases e
      refine ha Z H σ ρ F t rs o c _ fun v H1 Z1 G1 a1 n1 d1 r1 => ?_
      have rs1 := rs.pst o a1
      have o1 := (a1.env o rs.no).ok
      refine hb Z1 H1 σ ρ F us rs1 o1 c2 _ fun vs H2 Z2 G2 a2 n2 d2 r2 => ?_
      have r1' := r1.pst o1.non a2
      have dj : Dj G1 G2 := fun a z y => r1.no z (n2 a y)
      refine q _ H2 Z2 (uni G1 G2) (a1.trans a2) (fun a z => z.elim (n1 a) fun z => a1.fx.al _ (n2 a z)) (Dj.uni' (d1.pst a2 fun x g => r1.no g) d2) (.cons r1' r2 dj)
def pTup (fs : Env → Option (List T)) : Env → Option T := fun ρ => (fs ρ).bind fun ts => if ts.length ≤ 1000 then some (.nd .tup ts) else none
theorem fj_tup {ta : TA} {fs : Env → Option (List T)} (h : FAJ K B ta fs) : FJ K B (tTup ta) (pTup fs) := fun Z H σ ρ F t rs o e Q q => by
  unfold pTup at e
  cases c : fs ρ with
  | none => rw [c] at e; cases e
  | some ts =>
    rw [c] at e
    have e : (if ts.length ≤ 1000 then some (T.nd .tup ts) else none) = some t := e
    split at e
    · rename_i hl
      cases e
      refine h Z H σ ρ F ts rs o c _ fun vs H1 Z1 G1 a1 n1 d1 r1 => ⟨by rw [← r1.length]; exact Nat.le_of_lt (small hl), fun p np => ?_⟩
      have s2 : Pst B Z1 H1 Z1 (upd H1 p (.tup vs)) := Stp.new0 a1.ok np fun _ z => z.elim
      have f : Fx non H1 (upd H1 p (.tup vs)) := Fx.new np
      have r2 : RepL K Z1 (upd H1 p (.tup vs)) ts vs G1 := RepL.st f (fun _ z => z) Dj.non r1 Dj.non
      have r3 := Rep.nd (k := .tup) (a := p) (K := K) (Z := Z1) (H := upd H1 p (.tup vs)) upd_same r2 fun c => by cases c
      exact q (.ref p) _ Z1 G1 (a1.trans s2) n1 d1 r3
    · cases e
def pLst (fs : Env → Option (List T)) : Env → Option T := fun ρ => (fs ρ).bind fun ts => if ts.length ≤ 1000 then some (.nd (.lst true) ts) else none
theorem fj_lst {ta : TA} {fs : Env → Option (List T)} (h : FAJ K B ta fs) : FJ K B (tLst ta) (pLst fs) := fun Z H σ ρ F t rs o e Q q => by
  unfold pLst at e
  cases c : fs ρ with
  | none => rw [c] at e; cases e
  | some ts =>
    rw [c] at e
    have e : (if ts.length ≤ 1000 then some (T.nd (.lst true) ts) else none) = some t := e
    split at e
    · rename_i hl
      cases e
      refine h Z H σ ρ F ts rs o c _ fun vs H1 Z1 G1 a1 n1 d1 r1 => ⟨by rw [← r1.length]; exact Nat.le_of_lt (small hl), fun p np => ?_⟩
      have s2 : Pst B Z1 H1 Z1 (upd H1 p (.lst vs)) := Stp.new0 a1.ok np fun _ z => z.elim
      have f : Fx non H1 (upd H1 p (.lst vs)) := Fx.new np
      have r2 : RepL K Z1 (upd H1 p (.lst vs)) ts vs G1 := RepL.st f (fun _ z => z) Dj.non r1 Dj.non
      have r3 := Rep.nd (k := .lst true) (a := p) (K := K) (Z := Z1) (H := upd H1 p (.lst vs)) upd_same r2 fun _ z => r1.no z np
      rw [show put (.lst true) p G1 = uni (one p) G1 from rfl] at r3
      have zp : ¬ Z1 p := fun z => by
        obtain ⟨u, hu, _⟩ := a1.ok.zal p z
        rw [np] at hu; cases hu
      exact q (.ref p) _ Z1 (uni (one p) G1) (a1.trans s2) (fun a z => z.elim (fun z => by rw [show a = p from z]; exact a1.fx.al _ np) (n1 a)) (Dj.uni' (fun a z y => zp (by rw [← show a = p from z]; exact y)) d1) r3
    · cases e
theorem FAJ.aj {ta : TA} {f : Env → Option (List T)} (h : FAJ K B ta f) : AJ K B E ta (liftO f) := fun Z H σ ρ F r ρ' rs o e Q q _ => by
  unfold liftO at e
  cases c : f ρ with
  | none => rw [c] at e; cases e
  | some t =>
    rw [c] at e
    cases e
    refine h Z H σ ρ F t rs o c Q fun v H' Z' G a gn gz rt => ?_
    obtain ⟨s, d⟩ := a.more o rs.no gn gz
    exact q t rfl v H' Z' G F s d rt (rs.pst o a)
/-! the change of a place -/
def chg (g : Nk → List T → List T → Option (T × Nk × List T)) (i : Nat) (p : List Nat) (us : List T) : EM T := fun ρ => (getE ρ i p).bind fun u => match u with
  | .nd k ts => (g k ts us).map fun x => (.ok x.1, setE ρ i p (.nd x.2.1 x.2.2))
  | _ => none
theorem use_chg {r : V → List V → Hp → VK → Prop} {g : Nk → List T → List T → Option (T × Nk × List T)} (hm : MtS K r g) {Z F Ga : AS} {H : Hp} {σ : St} {ρ ρ' : Env} {i : Nat} {p : List Nat} {us : List T} {ws : List V} {w : V} {res : Except Ex T}
    (rs : RepS K Z H σ ρ F) (o : Ok B Z (uni Ga F) H) (ra : RepL K Z H us ws Ga) (d : Dj Ga F) (pa : PAt K Z H σ ρ i p w) (e : chg g i p us ρ = some (res, ρ')) {Q : VK}
    (q : ∀ t, res = .ok t → ∀ v H' Z' G' F', Stp B Z (uni Ga F) H Z' (uni G' F') H' → Dj G' F' → Rep K Z' H' t v G' → RepS K Z' H' σ ρ' F' → Q v H') : r w ws H Q := by
  unfold chg at e
  cases c : getE ρ i p with
  | none => rw [c] at e; cases e
  | some u =>
    rw [c] at e
    cases u with
    | «at» _ => cases e
    | hole => cases e
    | nd k ts =>
      have e : (g k ts us).map (fun x => ((Except.ok x.1, setE ρ i p (.nd x.2.1 x.2.2)) : Except Ex T × Env)) = some (res, ρ') := e
      cases c2 : g k ts us with
      | none => rw [c2] at e; cases e
      | some x =>
        obtain ⟨t, k', ts'⟩ := x
        rw [c2] at e
        cases e
        have oF : Ok B Z F H := o.sub fun a z => .inr z
        obtain ⟨a, vs, Fc, R, rfl, ho, hl, hn, rfl, dR, back⟩ := rs.modify oF c pa
        obtain ⟨ok, ok'⟩ := hm.ow k ts us _ c2
        have nFc := hn ok
        have pk : put k a Fc = uni (one a) Fc := by unfold put; rw [if_pos ok]
        rw [pk] at dR d o back oF q
        have nGa : ¬ Ga a := fun z => d a z (.inl (.inl rfl))
        have nZ : ¬ Z a := fun z => o.dj a (.inr (.inl (.inl rfl))) z
        have dGF : Dj Ga Fc := fun b g f => d b g (.inl (.inr f))
        have dGR : Dj Ga R := fun b g f => d b g (.inr f)
        refine hm.run Z H a k ts vs Fc us ws Ga t k' ts' ho hl nFc ra nGa dGF nZ c2 Q fun v o' vs' Fc' Gr ho' hl' rr dj s1 s2 => ?_
        obtain ⟨ob, hob, n1, n2, n3, n4⟩ := ho.owned ok
        have sw : Stp B Z (uni Ga (uni (uni (one a) Fc) R)) H Z (uni Ga (uni (uni (one a) Fc) R)) (upd H a o') := Stp.wr o hob (.inr (.inl (.inl rfl))) n1 n2 n3 n4
        have swF : Stp B Z (uni (uni (one a) Fc) R) H Z (uni (uni (one a) Fc) R) (upd H a o') := Stp.wr oF hob (.inl (.inl rfl)) n1 n2 n3 n4
        have fx : Fx (one a) H (upd H a o') := Fx.wr hob rfl n1 n2 n3
        have nFc' : ¬ Fc' a := fun z => (s1 a z).elim nFc nGa
        have nGr : ¬ Gr a := fun z => (s2 a z).elim nFc nGa
        have dFR : Dj Fc' R := fun b z y => (s1 b z).elim (fun z => dR b (.inr z) y) fun z => dGR b z y
        have dGrR : Dj Gr R := fun b z y => (s2 b z).elim (fun z => dR b (.inr z) y) fun z => dGR b z y
        have rs2 := back swF fx ok ok' ho' hl' nFc' dFR
        refine q _ rfl v _ Z Gr (uni (uni (one a) Fc') R) (sw.less fun b z => ?_) (Dj.uni (Dj.uni (fun b z y => nGr (by rw [← show b = a from y]; exact z)) dj.symm) dGrR) rr rs2
        rcases z with z | (z | z) | z
        · exact (s2 b z).elim (fun z => .inr (.inl (.inr z))) .inl
        · exact .inr (.inl (.inl z))
        · exact (s1 b z).elim (fun z => .inr (.inl (.inr z))) .inl
        · exact .inr (.inr z)
def isTy (ty : String) : T → Bool
  | .nd (.lst _) _ => ty == "list"
  | .nd (.dk true _) _ => ty == "dict"
  | .nd (.dt true _) _ => ty == "dict"
  | _ => false
theorem tyV_of {Z G : AS} {H : Hp} {t : T} {v : V} {ty : String} (r : Rep K Z H t v G) (h : isTy ty t = true) : tyV K ty v H := by
  cases r with
  | «at» _ => cases h
  | hole => cases h
  | @nd k ts a vs F ho hl hn =>
    cases k with
    | tup => cases h
    | scr => cases h
    | lst m => exact .inl ⟨eq_of_beq (show (ty == "list") = true from h), vs, ho.sql⟩
    | dk m ks =>
      cases m with
      | false => cases h
      | true => exact .inr (.inr (.inl ⟨eq_of_beq (show (ty == "dict") = true from h), .inl ⟨_, ho.2.1⟩⟩))
    | dt m ks =>
      cases m with
      | false => cases h
      | true => exact .inr (.inr (.inl ⟨eq_of_beq (show (ty == "dict") = true from h), .inr ⟨_, ho.2.1⟩⟩))
    | obj _ _ => cases h
/-- x.m(..), x a slot -/
def fBm (ty : String) (g : Nk → List T → List T → Option (T × Nk × List T)) (i : Nat) (fa : EM (List T)) : EM T := fun ρ => (fVar i ρ).bind fun t => if isTy ty t = true then bE fa (fun us => chg g i [] us) ρ else none
theorem vj_bm {ty : String} {r : V → List V → Hp → VK → Prop} {g : Nk → List T → List T → Option (T × Nk × List T)} {i : Nat} {ta : TA} {fa : EM (List T)} (hm : MtS K r g) (ha : AJ K B E ta fa) : VJ K B E (tBM K ty r (tVar i) ta) (fBm ty g i fa) := fun Z H σ ρ F res ρ' rs o e Q q qe => by
  unfold fBm at e
  cases c : fVar i ρ with
  | none => rw [c] at e; cases e
  | some t =>
    rw [c] at e
    have e2 : (if isTy ty t = true then bE fa (fun us => chg g i [] us) ρ else none) = some (res, ρ') := e
    clear e
    split at e2
    · rename_i ht
      obtain ⟨c1, c2⟩ := fVar_get c
      obtain ⟨x, G0, hx, rt, _⟩ := rs.get c1 c2
      refine ⟨x, hx, tyV_of rt ht, ?_⟩
      rcases bE_ok e2 with ⟨us, ρ1, e1, e⟩ | ⟨y, e1, rfl⟩
      · refine ha Z H σ ρ F _ ρ1 rs o e1 _ (fun a1 ea vs H1 Z1 G1 F1 s1 d1 r1 rs1 => ?_) fun x ex => by cases ex
        cases ea
        have pa : PAt K Z1 H1 σ ρ1 i [] x := by
          have e' := e
          unfold chg at e'
          cases c3 : getE ρ1 i [] with
          | none => rw [c3] at e'; cases e'
          | some u =>
            obtain ⟨t2, h2, n2, g2, _⟩ := getE_ok c3
            exact ⟨t2, x, h2, hx, .nil⟩
        exact use_chg hm rs1 s1.ok r1 d1 pa e fun t et v H2 Z2 G2 F2 s2 d2 r2 rs2 => q t et v H2 Z2 G2 F2 (s1.trans s2) d2 r2 rs2
      · exact ha Z H σ ρ F _ ρ' rs o e1 _ (fun t1 et => by cases et) fun x' ex d H1 Z1 F1 s1 rs1 xo => by
          cases ex
          exact qe y rfl d H1 Z1 F1 s1 rs1 xo
    · cases e2
theorem vj_bm0 {ty : String} {r : V → List V → Hp → VK → Prop} {g : Nk → List T → List T → Option (T × Nk × List T)} {i : Nat} (hm : MtS K r g) : VJ K B E (tBM0 K ty r (tVar i)) (fBm ty g i fNil) := fun Z H σ ρ F res ρ' rs o e Q q qe => by
  have z := vj_bm (E := E) (ty := ty) (i := i) hm aj_nil Z H σ ρ F res ρ' rs o e Q q qe
  obtain ⟨x, hx, ht, hr⟩ := z
  exact ⟨x, hx, ht, hr⟩
/-- .. a place -/
def fBmP (ty : String) (g : Nk → List T → List T → Option (T × Nk × List T)) (pf : Env → Option (Nat × List Nat)) (fa : Env → Option (List T)) : EM T := fun ρ => (pf ρ).bind fun x => (getE ρ x.1 x.2).bind fun t => if isTy ty t = true then (fa ρ).bind fun us => chg g x.1 x.2 us ρ else none
theorem vj_bmP {ty : String} {r : V → List V → Hp → VK → Prop} {g : Nk → List T → List T → Option (T × Nk × List T)} {tp : TE} {pf : Env → Option (Nat × List Nat)} {ta : TA} {fa : Env → Option (List T)} (hm : MtS K r g) (hp : PlJ K B tp pf) (ha : FAJ K B ta fa) : VJ K B E (tBM K ty r tp ta) (fBmP ty g pf fa) := fun Z H σ ρ F res ρ' rs o e Q q qe => by
  unfold fBmP at e
  cases c : pf ρ with
  | none => rw [c] at e; cases e
  | some x =>
    rw [c] at e
    have e : ((getE ρ x.1 x.2).bind fun t => if isTy ty t = true then (fa ρ).bind fun us => chg g x.1 x.2 us ρ else none) = some (res, ρ') := e
    cases c2 : getE ρ x.1 x.2 with
    | none => rw [c2] at e; cases e
    | some t =>
      rw [c2] at e
      have e : (if isTy ty t = true then (fa ρ).bind fun us => chg g x.1 x.2 us ρ else none) = some (res, ρ') := e
      split at e
      · rename_i ht
        cases c3 : fa ρ with
        | none => rw [c3] at e; cases e
        | some us =>
          rw [c3] at e
          have e : chg g x.1 x.2 us ρ = some (res, ρ') := e
          refine hp Z H σ ρ F x.1 x.2 t rs o c c2 _ fun w H1 Z1 a1 pa => ?_
          have rs1 := rs.pst o a1
          have s1 := a1.env o rs.no
          obtain ⟨G, ru, sub⟩ := rs1.look c2 pa
          refine ⟨tyV_of ru ht, ha Z1 H1 σ ρ F us rs1 s1.ok c3 _ fun vs H2 Z2 G2 a2 n2 d2 r2 => ?_⟩
          have rs2 := rs1.pst s1.ok a2
          obtain ⟨s2, dj⟩ := a2.more s1.ok rs1.no n2 d2
          have pa2 := pa.stp rs1 s1.ok.non a2 Dj.non
          exact use_chg hm rs2 s2.ok r2 dj pa2 e fun t et v H3 Z3 G3 F3 s3 d3 r3 rs3 => q t et v H3 Z3 G3 F3 ((s1.trans s2).trans s3) d3 r3 rs3
      · cases e
theorem vj_bmP0 {ty : String} {r : V → List V → Hp → VK → Prop} {g : Nk → List T → List T → Option (T × Nk × List T)} {tp : TE} {pf : Env → Option (Nat × List Nat)} (hm : MtS K r g) (hp : PlJ K B tp pf) : VJ K B E (tBM0 K ty r tp) (fBmP ty g pf pNil) := fun Z H σ ρ F res ρ' rs o e Q q qe => vj_bmP (E := E) (ty := ty) hm hp faj_nil Z H σ ρ F res ρ' rs o e Q q qe
/-! methods of lists -/
def mAppend : Nk → List T → List T → Option (T × Nk × List T)
  | .lst true, ts, [u] => if ts.length < 1000 then some (.at .non, .lst true, ts ++ [u]) else none
  | _, _, _ => none
theorem RepL.wr {Z G : AS} {H : Hp} {a : Addr} {o u : HO} {ts : List T} {vs : List V} (r : RepL K Z H ts vs G) (h : H a = some u) (n1 : ∀ xs, u ≠ .tup xs) (n2 : ∀ ob w, u ≠ .frz ob w) (n3 : ∀ φ, u ≠ .ext φ) (nG : ¬ G a) (nZ : ¬ Z a) : RepL K Z (upd H a o) ts vs G :=
  RepL.st (Fx.wr (M := TV.one a) h rfl n1 n2 n3) (fun _ z => z) (fun b z e => nZ (by rw [← show b = a from e]; exact z)) r fun b z e => nG (by rw [← show b = a from e]; exact z)
theorem Rep.wr {Z G : AS} {H : Hp} {a : Addr} {o u : HO} {t : T} {v : V} (r : Rep K Z H t v G) (h : H a = some u) (n1 : ∀ xs, u ≠ .tup xs) (n2 : ∀ ob w, u ≠ .frz ob w) (n3 : ∀ φ, u ≠ .ext φ) (nG : ¬ G a) (nZ : ¬ Z a) : Rep K Z (upd H a o) t v G :=
  Rep.st (Fx.wr (M := TV.one a) h rfl n1 n2 n3) (fun _ z => z) (fun b z e => nZ (by rw [← show b = a from e]; exact z)) r fun b z e => nG (by rw [← show b = a from e]; exact z)
theorem m_append : MtS K rAppend mAppend where
  ow := fun k ts us x e => by
    match k, us, e with
    | .lst true, [u], e =>
      have e : (if ts.length < 1000 then some ((T.at .non, Nk.lst true, ts ++ [u]) : T × Nk × List T) else none) = some x := e
      split at e
      · cases e; exact ⟨rfl, rfl⟩
      · cases e
  run := fun Z H a k ts vs Fc us ws Ga res k' ts' ho hl nF ra nG dj nZ e Q q => by
    match k, us, e, ho with
    | .lst true, [u], e, ho =>
      have e : (if ts.length < 1000 then some ((T.at .non, Nk.lst true, ts ++ [u]) : T × Nk × List T) else none) = some (res, k', ts') := e
      split at e
      · rename_i c
        cases e
        obtain ⟨w, rfl, ru⟩ := ra.ofOne
        have ho : H a = some (.lst vs) := ho
        refine ⟨a, vs, w, rfl, rfl, ho, by rw [← hl.length]; exact small (by omega), ?_⟩
        refine q .non _ (vs ++ [w]) (uni Fc Ga) non (upd_same) (RepL.append (hl.wr ho (by simp) (by simp) (by simp) nF nZ) (RepL.one (ru.wr ho (by simp) (by simp) (by simp) nG nZ)) dj.symm) (.at rfl) Dj.non (fun _ z => z) fun _ z => z.elim
      · cases e
def mInsert : Nk → List T → List T → Option (T × Nk × List T)
  | .lst true, ts, [.at (.int i), u] => if ts.length < 1000 ∧ 0 ≤ i ∧ i ≤ 1000 then some (.at .non, .lst true, ts.take i.toNat ++ [u] ++ ts.drop i.toNat) else none
  | _, _, _ => none
theorem RepL.cut {Z F : AS} {H : Hp} {ts : List T} {vs : List V} (n : Nat) (r : RepL K Z H ts vs F) : ∃ F1 F2, RepL K Z H (ts.take n) (vs.take n) F1 ∧ RepL K Z H (ts.drop n) (vs.drop n) F2 ∧ Dj F1 F2 ∧ F = uni F1 F2 := by
  have e := r
  rw [← List.take_append_drop n ts] at e
  obtain ⟨v1, v2, F1, F2, rfl, a, b, dj, rfl⟩ := RepL.split e
  have l1 := a.length
  rw [List.length_take] at l1
  by_cases c : n ≤ ts.length
  · rw [Nat.min_eq_left c] at l1
    subst l1
    refine ⟨F1, F2, ?_, ?_, dj, rfl⟩
    · rw [List.take_left]
      exact a
    · rw [List.drop_left]
      exact b
  · have l2 := b.length
    rw [List.length_drop] at l2
    have : v2 = [] := List.eq_nil_of_length_eq_zero (by omega)
    subst this
    have l3 := r.length
    rw [List.append_nil] at l3 ⊢
    refine ⟨F1, F2, ?_, ?_, dj, rfl⟩
    · rw [List.take_of_length_le (l := v1) (by omega)]
      exact a
    · rw [List.drop_of_length_le (l := v1) (by omega)]
      exact b
theorem m_insert : MtS K (fun x vs H Q => ∃ (l : Addr) (xs : List V) (i : Int) (y : V), x = .ref l ∧ vs = [.int i, y] ∧ H l = some (.lst xs) ∧ xs.length < sizeLine ∧ 0 ≤ i ∧ i < 2 ^ 63 ∧
    Q .non (upd H l (.lst (xs.take i.toNat ++ [y] ++ xs.drop i.toNat)))) mInsert where
  ow := fun k ts us x e => by
    match k, us, e with
    | .lst true, [.at (.int i), u], e =>
      have e : (if ts.length < 1000 ∧ 0 ≤ i ∧ i ≤ 1000 then some ((T.at .non, Nk.lst true, ts.take i.toNat ++ [u] ++ ts.drop i.toNat) : T × Nk × List T) else none) = some x := e
      split at e
      · cases e; exact ⟨rfl, rfl⟩
      · cases e
  run := fun Z H a k ts vs Fc us ws Ga res k' ts' ho hl nF ra nG dj nZ e Q q => by
    match k, us, e, ho with
    | .lst true, [.at (.int i), u], e, ho =>
      have e : (if ts.length < 1000 ∧ 0 ≤ i ∧ i ≤ 1000 then some ((T.at .non, Nk.lst true, ts.take i.toNat ++ [u] ++ ts.drop i.toNat) : T × Nk × List T) else none) = some (res, k', ts') := e
      split at e
      · rename_i c
        cases e
        cases ra with
        | cons r1 r2 d12 =>
          obtain ⟨rfl, rfl⟩ := r1.at_eq
          rw [non_uni] at dj nG
          obtain ⟨w, rfl, ru⟩ := r2.ofOne
          have ho : H a = some (.lst vs) := ho
          refine ⟨a, vs, i, w, rfl, rfl, ho, by rw [← hl.length]; exact small (by omega), c.2.1, by omega, ?_⟩
          obtain ⟨F1, F2, c1, c2, d12, rfl⟩ := (hl.wr (o := .lst (vs.take i.toNat ++ [w] ++ vs.drop i.toNat)) ho (by simp) (by simp) (by simp) nF nZ).cut i.toNat
          have ru' := ru.wr (o := .lst (vs.take i.toNat ++ [w] ++ vs.drop i.toNat)) ho (by simp) (by simp) (by simp) nG nZ
          refine q .non _ _ _ non upd_same (RepL.append (RepL.append c1 (RepL.one ru') dj.l.symm) c2 (Dj.uni' d12 dj.r)) (.at rfl) Dj.non (fun b z => ?_) fun _ z => z.elim
          rw [non_uni]
          rcases z with (z | z) | z
          · exact .inl (.inl z)
          · exact .inr z
          · exact .inl (.inr z)
      · cases e
def mPopAt : Nk → List T → List T → Option (T × Nk × List T)
  | .lst true, ts, [.at (.int i)] => if 0 ≤ i ∧ i ≤ 1000 then (ts[i.toNat]?).map fun t => (t, .lst true, ts.eraseIdx i.toNat) else none
  | _, _, _ => none
theorem RepL.erase {Z F : AS} {H : Hp} {ts : List T} {vs : List V} (r : RepL K Z H ts vs F) {i : Nat} {t : T} (e : ts[i]? = some t) : ∃ v G R, vs[i]? = some v ∧ Rep K Z H t v G ∧ RepL K Z H (ts.eraseIdx i) (vs.eraseIdx i) R ∧ Dj R G ∧ F = uni R G := by
  obtain ⟨F1, F2, c1, c2, d12, rfl⟩ := r.cut i
  have il := (List.getElem?_eq_some_iff.mp e).1
  have lv := r.length
  have e1 := List.drop_eq_getElem_cons il
  rw [(List.getElem?_eq_some_iff.mp e).2] at e1
  rw [e1] at c2
  have e2 := List.drop_eq_getElem_cons (l := vs) (i := i) (by omega)
  rw [e2] at c2
  cases c2 with
  | @cons _ _ _ _ G R h1 h2 dj =>
    refine ⟨vs[i], G, uni F1 R, List.getElem?_eq_getElem (by omega), h1, ?_, Dj.uni' d12.l dj.symm, ?_⟩
    · rw [List.eraseIdx_eq_take_drop_succ, List.eraseIdx_eq_take_drop_succ]
      exact RepL.append c1 h2 d12.r
    · rw [uni_assoc, uni_comm (F := G)]
theorem m_popAt : MtS K rPopAt mPopAt where
  ow := fun k ts us x e => by
    match k, us, e with
    | .lst true, [.at (.int i)], e =>
      have e : (if 0 ≤ i ∧ i ≤ 1000 then (ts[i.toNat]?).map fun t => ((t, Nk.lst true, ts.eraseIdx i.toNat) : T × Nk × List T) else none) = some x := e
      split at e
      · cases c : ts[i.toNat]? with
        | none => rw [c] at e; cases e
        | some t => rw [c] at e; cases e; exact ⟨rfl, rfl⟩
      · cases e
  run := fun Z H a k ts vs Fc us ws Ga res k' ts' ho hl nF ra nG dj nZ e Q q => by
    match k, us, e, ho with
    | .lst true, [.at (.int i)], e, ho =>
      have e : (if 0 ≤ i ∧ i ≤ 1000 then (ts[i.toNat]?).map fun t => ((t, Nk.lst true, ts.eraseIdx i.toNat) : T × Nk × List T) else none) = some (res, k', ts') := e
      split at e
      · rename_i ci
        cases c : ts[i.toNat]? with
        | none => rw [c] at e; cases e
        | some t =>
          rw [c] at e
          cases e
          obtain ⟨w, rfl, ru⟩ := ra.ofOne
          obtain ⟨rfl, rfl⟩ := ru.at_eq
          have ho : H a = some (.lst vs) := ho
          have hl' := hl.wr (o := .lst (vs.eraseIdx i.toNat)) ho (by simp) (by simp) (by simp) nF nZ
          obtain ⟨v, G, R, hv, r1, r2, d12, rfl⟩ := hl'.erase c
          have il := (List.getElem?_eq_some_iff.mp hv).1
          refine ⟨a, vs, i, i.toNat, v, rfl, rfl, ho, by omega, by omega, ?_, hv, q v _ _ R G upd_same r2 r1 d12 (fun b z => .inl (.inl z)) fun b z => .inl (.inr z)⟩
          exact LT.seqIx ci.1 (by omega)
      · cases e
def mPop : Nk → List T → List T → Option (T × Nk × List T)
  | .lst true, ts, [] => (ts[ts.length - 1]?).map fun t => (t, .lst true, ts.dropLast)
  | _, _, _ => none
theorem m_pop : MtS K rPop mPop where
  ow := fun k ts us x e => by
    match k, us, e with
    | .lst true, [], e =>
      have e : ((ts[ts.length - 1]?).map fun t => ((t, Nk.lst true, ts.dropLast) : T × Nk × List T)) = some x := e
      cases c : ts[ts.length - 1]? with
      | none => rw [c] at e; cases e
      | some t => rw [c] at e; cases e; exact ⟨rfl, rfl⟩
  run := fun Z H a k ts vs Fc us ws Ga res k' ts' ho hl nF ra nG dj nZ e Q q => by
    match k, us, e, ho with
    | .lst true, [], e, ho =>
      have e : ((ts[ts.length - 1]?).map fun t => ((t, Nk.lst true, ts.dropLast) : T × Nk × List T)) = some (res, k', ts') := e
      cases c : ts[ts.length - 1]? with
      | none => rw [c] at e; cases e
      | some t =>
        rw [c] at e
        cases e
        cases ra
        have ho : H a = some (.lst vs) := ho
        have hl' := hl.wr (o := .lst vs.dropLast) ho (by simp) (by simp) (by simp) nF nZ
        obtain ⟨v, G, R, hv, r1, r2, d12, rfl⟩ := hl'.erase c
        have lv := hl.length
        rw [lv] at hv
        have e1 : ∀ {α : Type} (l : List α), l.eraseIdx (l.length - 1) = l.dropLast := fun l => by
          rw [List.eraseIdx_length_sub_one]
        rw [e1] at r2
        have r2 : RepL K Z (upd H a (.lst vs.dropLast)) ts.dropLast (vs.eraseIdx (ts.length - 1)) R := r2
        rw [lv, e1] at r2
        exact ⟨a, vs, v, rfl, rfl, ho, hv, q v _ _ R G upd_same r2 r1 d12 (fun b z => .inl (.inl z)) fun b z => .inl (.inr z)⟩
def mClear : Nk → List T → List T → Option (T × Nk × List T)
  | .lst true, _, [] => some (.at .non, .lst true, [])
  | _, _, _ => none
theorem m_clear : MtS K rClear mClear where
  ow := fun k ts us x e => by
    match k, us, e with
    | .lst true, [], e => cases e; exact ⟨rfl, rfl⟩
  run := fun Z H a k ts vs Fc us ws Ga res k' ts' ho hl nF ra nG dj nZ e Q q => by
    match k, us, e, ho with
    | .lst true, [], e, ho =>
      cases e
      cases ra
      exact ⟨a, vs, rfl, rfl, ho, q .non _ [] non non upd_same .nil (.at rfl) Dj.non (fun _ z => z.elim) fun _ z => z.elim⟩
end
end TV
/-! A def as a plain function. -/
namespace TV
open PySem L2
/-- a def's body as a plain function of its arguments: n slots, np of them parameters -/
def bodyG (raises : Bool) (n np : Nat) (f : SM) : Fn := fun ts => if ts.length = np then (f (ts ++ List.replicate (n - np) .hole)).bind fun x => match x with
  | (.rt t, ρ) => some (.ok t, ρ.take np)
  | (.nx, ρ) => some (.ok (.at .non), ρ.take np)
  | (.ex e, ρ) => if raises = true then some (.error e, ρ.take np) else none
  | _ => none else none
section
variable {K : PySem.W.Frag} {B : Tabs}
theorem RepL.swap {Z : AS} {H : Hp} : ∀ {ts : List T} {us vs : List V} {F : AS}, RepL K Z H ts us F → us.length = vs.length → (∀ (i : Nat), ts[i]? = some .hole ∨ us[i]? = vs[i]?) → RepL K Z H ts vs F
  | _, _, [], _, .nil, _, _ => .nil
  | _, _, _ :: _, _, .nil, e, _ => by cases e
  | _, _, [], _, .cons _ _ _, e, _ => by cases e
  | t :: ts, u :: us, v :: vs, _, .cons h1 h2 d, e, h => by
    have h2' := RepL.swap h2 (by simpa using e) fun i => h (i + 1)
    rcases h 0 with z | z
    · have : t = .hole := by simpa using z
      subst this
      cases h1
      exact .cons .hole h2' d
    · have : u = v := by simpa using z
      subst this
      exact .cons h1 h2' d
theorem RepS.start {Z F : AS} {H : Hp} {ts : List T} {vs : List V} {N : List Str} (r : RepL K Z H ts vs F) (h : vs.length ≤ N.length) : RepS K Z H (L2.start N vs) (ts ++ List.replicate (N.length - vs.length) .hole) F := by
  have rep : ∀ n : Nat, RepL K Z H (List.replicate n .hole) (List.replicate n .non) non := fun n => by
    induction n with
    | zero => exact .nil
    | succ n ih =>
      have z := RepL.cons (Rep.hole (v := .non)) ih Dj.non
      rw [non_uni] at z
      exact z
  have q := RepL.append r (rep (N.length - vs.length)) Dj.non
  rw [uni_non] at q
  have hl := r.length
  refine ⟨by simp [L2.start, hl], _, q, fun i v t hv ht => ?_⟩
  by_cases c : i < vs.length
  · right
    rw [List.getElem?_append_left c] at hv
    show (vs.map some ++ _)[i]? = _
    rw [List.getElem?_append_left (by rw [List.length_map]; exact c), List.getElem?_map, hv]
    rfl
  · left
    rw [List.getElem?_append_right (by omega)] at ht
    have := List.mem_of_getElem? ht
    exact (List.mem_replicate.mp this).2
theorem RepS.finish {Z F : AS} {H : Hp} {σ : St} {ρ : Env} {vs : List V} {N : List Str} (r : RepS K Z H σ ρ F) (h : vs.length ≤ N.length) (sm : Sm (fun i => i < vs.length) σ (L2.start N vs)) : ∃ F', RepL K Z H (ρ.take vs.length) vs F' ∧ ∀ a, F' a → F a := by
  obtain ⟨us, hl, e⟩ := r.ex
  obtain ⟨F1, F2, h1, h2, dj, rfl⟩ := hl.cut vs.length
  have lσ := sm.1
  have ls : (L2.start N vs).length = N.length := by
    unfold L2.start
    rw [List.length_append, List.length_map, List.length_replicate]
    omega
  have lu := hl.length
  have lr := r.len
  refine ⟨F1, h1.swap (by rw [List.length_take]; omega) fun i => ?_, fun a z => .inl z⟩
  by_cases c : i < vs.length
  · rw [List.getElem?_take_of_lt c, List.getElem?_take_of_lt c]
    have iu : i < us.length := by omega
    have ir : i < ρ.length := by omega
    rcases e i us[i] ρ[i] (List.getElem?_eq_getElem iu) (List.getElem?_eq_getElem ir) with z | z
    · left
      rw [List.getElem?_eq_getElem ir, z]
    · right
      rw [sm.2 i c] at z
      have z : (vs.map some ++ _)[i]? = some (some us[i]) := z
      rw [List.getElem?_append_left (by rw [List.length_map]; exact c), List.getElem?_map, List.getElem?_eq_getElem c] at z
      rw [List.getElem?_eq_getElem iu, List.getElem?_eq_getElem c]
      exact (Option.some.inj z).symm
  · right
    rw [List.getElem?_eq_none (by rw [List.length_take]; omega), List.getElem?_eq_none (by omega)]
theorem run_def {E E' : XK} {raises : Bool} {N : List Str} {np : Nat} {ts : TS} {f : SM} (h : SJ K B (fun i => i < np) E' ts f) (hE : raises = true → E' = E) (hn : np ≤ N.length) {vs : List V} {H : Hp} {Q : VK} (hv : vs.length = np) (sp : spOf K B (bodyG raises N.length np f) vs H Q E) :
    ts { nx := fun _ H' => Q .non H', rt := Q } (L2.start N vs) H := by
  obtain ⟨Z, us, F, r, ts', rl, o, e, q, qe⟩ := sp
  unfold bodyG at e
  split at e
  · rename_i hl
    have rs := RepS.start (N := N) rl (by omega)
    rw [hv] at rs
    cases c : f (us ++ List.replicate (N.length - np) .hole) with
    | none => rw [c] at e; cases e
    | some x =>
      obtain ⟨w, ρ'⟩ := x
      rw [c] at e
      refine h Z H _ _ F w ρ' rs o c _ (fun σ' H' Z' F' sm s rs' => ?_) fun t et v σ' H' Z' G F' sm s d rt rs' => ?_
      · rw [← hv] at sm
        obtain ⟨F2, rl2, s2⟩ := RepS.finish rs' (by omega) sm
        rw [hv] at rl2
        refine ⟨fun ew => ?_, fun ew => ?_, fun ew => ?_, fun x ew d xo => ?_⟩
        · subst ew
          cases e
          exact q _ rfl .non H' Z' non F2 (by rw [non_uni]; exact s.less s2) Dj.non' (.at rfl) rl2
        · subst ew
          cases e
        · subst ew
          cases e
        · subst ew
          have e : (if raises = true then some ((Except.error x, ρ'.take np) : Except Ex T × List T) else none) = some (r, ts') := e
          split at e
          · rename_i hr
            cases e
            rw [hE hr]
            exact qe x rfl d H' Z' F2 (s.less s2) rl2 xo
          · cases e
      · subst et
        cases e
        rw [← hv] at sm
        obtain ⟨F2, rl2, s2⟩ := RepS.finish rs' (by omega) sm
        rw [hv] at rl2
        exact q t rfl v H' Z' G F2 (s.less fun a z => z.imp id (s2 a)) (fun a z y => d a z (s2 a y)) rt rl2
  · cases e
theorem spOf_len {E : XK} {raises : Bool} {n np : Nat} {f : SM} {vs : List V} {H : Hp} {Q : VK} (sp : spOf K B (bodyG raises n np f) vs H Q E) : vs.length = np := by
  obtain ⟨Z, us, F, r, ts', rl, o, e, q, qe⟩ := sp
  unfold bodyG at e
  split at e
  · rename_i hl
    rw [← rl.length, hl]
  · cases e
end
end TV
/-! Operators and built-in functions over trees. -/
namespace TV
open PySem L2
section
variable {K : PySem.W.Frag} {B : Tabs} {E : XK} {P : Nat → Prop}
/-- the result is an atom -/
theorem atom {Z : AS} {H : Hp} {v : V} (o : Ok B Z non H) (h : isRef v = false) {Q : VK} (q : ∀ v' H' Z' G, Pst B Z H Z' H' → (∀ a, G a → H a = none) → Dj G Z' → Rep K Z' H' (.at v) v' G → Q v' H') : Q v H :=
  q v H Z non (Stp.refl o) (fun _ z => z.elim) Dj.non' (.at h)
def gI (C : Int → Int → Bool) (f : Int → Int → V) : T → T → Option T := fun t u => (asI t).bind fun i => (asI u).bind fun j => if C i j = true then some (.at (f i j)) else none
theorem gI_ok {C : Int → Int → Bool} {f : Int → Int → V} {t u t' : T} (h : gI C f t u = some t') : ∃ i j, t = .at (.int i) ∧ u = .at (.int j) ∧ C i j = true ∧ t' = .at (f i j) := by
  unfold gI at h
  cases c : asI t with
  | none => rw [c] at h; cases h
  | some i =>
    cases c2 : asI u with
    | none => rw [c] at h; simp only [Option.bind_some, c2] at h; cases h
    | some j =>
      rw [c] at h
      simp only [Option.bind_some, c2] at h
      split at h
      · rename_i k
        cases h
        exact ⟨i, j, asI_eq c, asI_eq c2, k, rfl⟩
      · cases h
theorem os_I0 {f : Int → Int → V} (h : ∀ i j, isRef (f i j) = false) : OpS K B (rI0 f) (gI (fun _ _ => true) f) := fun Z H x y t u t' G1 G2 o r1 r2 e Q q => by
  obtain ⟨i, j, rfl, rfl, _, rfl⟩ := gI_ok e
  obtain ⟨rfl, _⟩ := r1.at_eq
  obtain ⟨rfl, _⟩ := r2.at_eq
  exact ⟨i, j, rfl, rfl, atom o (h i j) q⟩
theorem os_I {C : Int → Int → Prop} {c : Int → Int → Bool} {f : Int → Int → V} (hc : ∀ i j, c i j = true → C i j) (h : ∀ i j, isRef (f i j) = false) : OpS K B (rI C f) (gI c f) := fun Z H x y t u t' G1 G2 o r1 r2 e Q q => by
  obtain ⟨i, j, rfl, rfl, k, rfl⟩ := gI_ok e
  obtain ⟨rfl, _⟩ := r1.at_eq
  obtain ⟨rfl, _⟩ := r2.at_eq
  exact ⟨i, j, rfl, rfl, hc i j k, atom o (h i j) q⟩
def mulB (i j : Int) : Bool := decide (i.natAbs < 2 ^ 62) || decide (j.natAbs < 2 ^ 62)
theorem mulB_ok (i j : Int) (h : mulB i j = true) : CMul i j := by
  unfold mulB at h
  rw [Bool.or_eq_true, decide_eq_true_eq, decide_eq_true_eq] at h
  unfold CMul
  omega
def modB (_ j : Int) : Bool := decide (0 < j)
def divB (_ j : Int) : Bool := decide (0 < j ∧ j < 1073741824)
def powB (i j : Int) : Bool := decide (0 ≤ j ∧ j ≤ 1000 ∧ i.natAbs < 2 ^ 62)
theorem powB_ok (i j : Int) (h : powB i j = true) : CPow i j := by
  have h := of_decide_eq_true h
  unfold CPow
  omega
abbrev gAdd := gI (fun _ _ => true) fun i j => V.int (i + j)
abbrev gMinus := gI (fun _ _ => true) fun i j => V.int (i - j)
abbrev gMul := gI mulB fun i j => V.int (i * j)
abbrev gMod := gI modB fun i j => V.int (i % j)
abbrev gDiv := gI divB fun i j => V.int (i / j)
abbrev gPow := gI powB fun i j => V.int (i ^ j.toNat)
abbrev gLt := gI (fun _ _ => true) fun i j => V.bl (decide (i < j))
abbrev gLe := gI (fun _ _ => true) fun i j => V.bl (decide (i ≤ j))
abbrev gGt := gI (fun _ _ => true) fun i j => V.bl (decide (j < i))
abbrev gGe := gI (fun _ _ => true) fun i j => V.bl (decide (j ≤ i))
theorem os_add : OpS K B (rI0 fun i j => V.int (i + j)) gAdd := os_I0 fun _ _ => rfl
theorem os_sub : OpS K B (rI0 fun i j => V.int (i - j)) gMinus := os_I0 fun _ _ => rfl
theorem os_mul : OpS K B (rI CMul fun i j => V.int (i * j)) gMul := os_I mulB_ok fun _ _ => rfl
theorem os_mod : OpS K B (rI (fun _ j => 0 < j) fun i j => V.int (i % j)) gMod := os_I (fun _ _ h => of_decide_eq_true h) fun _ _ => rfl
theorem os_div : OpS K B (rI CDiv fun i j => V.int (i / j)) gDiv := os_I (fun i j h => (of_decide_eq_true (p := 0 < j ∧ j < 1073741824) h)) fun _ _ => rfl
theorem os_pow : OpS K B (rI CPow fun i j => V.int (i ^ j.toNat)) gPow := os_I powB_ok fun _ _ => rfl
theorem os_lt : OpS K B (rI0 fun i j => V.bl (decide (i < j))) gLt := os_I0 fun _ _ => rfl
theorem os_le : OpS K B (rI0 fun i j => V.bl (decide (i ≤ j))) gLe := os_I0 fun _ _ => rfl
theorem os_gt : OpS K B (rI0 fun i j => V.bl (decide (j < i))) gGt := os_I0 fun _ _ => rfl
theorem os_ge : OpS K B (rI0 fun i j => V.bl (decide (j ≤ i))) gGe := os_I0 fun _ _ => rfl
/-! == of atoms -/
def gEq (neg : Bool) : T → T → Option T
  | .at x, .at y => if scal x y = true then some (.at (.bl (if neg = true then !decide (x = y) else decide (x = y)))) else none
  | _, _ => none
theorem os_eq : OpS K B rEq (gEq false) := fun Z H x y t u t' G1 G2 o r1 r2 e Q q => by
  cases t with
  | «at» a =>
    cases u with
    | «at» b =>
      have e : (if scal a b = true then some (T.at (.bl (decide (a = b)))) else none) = some t' := e
      split at e
      · rename_i c
        cases e
        obtain ⟨rfl, _⟩ := r1.at_eq
        obtain ⟨rfl, _⟩ := r2.at_eq
        exact ⟨c, atom o rfl q⟩
      · cases e
    | _ => cases e
  | _ => cases e
theorem os_ne : OpS K B rNe (gEq true) := fun Z H x y t u t' G1 G2 o r1 r2 e Q q => by
  cases t with
  | «at» a =>
    cases u with
    | «at» b =>
      have e : (if scal a b = true then some (T.at (.bl (!decide (a = b)))) else none) = some t' := e
      split at e
      · rename_i c
        cases e
        obtain ⟨rfl, _⟩ := r1.at_eq
        obtain ⟨rfl, _⟩ := r2.at_eq
        exact ⟨c, atom o rfl q⟩
      · cases e
    | _ => cases e
  | _ => cases e
/-! trees as data -/
mutual
def datT : T → Option PyData
  | .at .non => some .none
  | .at (.bl b) => some (.bool b)
  | .at (.int i) => some (.int i)
  | .at (.str x) => some (.str x)
  | .at _ => none
  | .hole => none
  | .nd .tup ts => (datL ts).map .tuple
  | .nd .scr ts => (datL ts).map .list
  | .nd (.lst _) ts => (datL ts).map .list
  | .nd _ _ => none
def datL : List T → Option (List PyData)
  | [] => some []
  | t :: ts => (datT t).bind fun d => (datL ts).map fun ds => d :: ds
end
mutual
theorem Rep.dat {Z : AS} {H : Hp} : ∀ {t : T} {v : V} {F : AS} {d : PyData}, Rep K Z H t v F → datT t = some d → Dp K H v d
  | .at x, _, _, d, .at h, e => by
    cases x <;> first | (cases e; constructor) | cases e
  | .hole, _, _, _, .hole, e => by cases e
  | .nd k ts, _, _, d, .nd (vs := vs) ho hl hn, e => by
    match k, ho, e with
    | .tup, ho, e =>
      have e : (datL ts).map PyData.tuple = some d := by
        unfold datT at e
        exact e
      cases c : datL ts with
      | none => rw [c] at e; cases e
      | some ds => rw [c] at e; cases e; exact .tup (.of ho) (RepL.dat hl c)
    | .scr, ho, e =>
      have e : (datL ts).map PyData.list = some d := by
        unfold datT at e
        exact e
      cases c : datL ts with
      | none => rw [c] at e; cases e
      | some ds => rw [c] at e; cases e; exact .lst ho.sqs (RepL.dat hl c)
    | .lst m, ho, e =>
      have e : (datL ts).map PyData.list = some d := by
        unfold datT at e
        exact e
      cases c : datL ts with
      | none => rw [c] at e; cases e
      | some ds => rw [c] at e; cases e; exact .lst ho.sql (RepL.dat hl c)
    | .dk _ _, _, e => unfold datT at e; cases e
    | .dt _ _, _, e => unfold datT at e; cases e
    | .obj _ _, _, e => unfold datT at e; cases e
theorem RepL.dat {Z : AS} {H : Hp} : ∀ {ts : List T} {vs : List V} {F : AS} {ds : List PyData}, RepL K Z H ts vs F → datL ts = some ds → DpAll K H vs ds
  | [], _, _, _, .nil, e => by
    cases e
    exact .nil
  | t :: ts, _, _, ds, .cons h1 h2 _, e => by
    have e : ((datT t).bind fun d => (datL ts).map fun ds => d :: ds) = some ds := by
      unfold datL at e
      exact e
    cases c : datT t with
    | none => rw [c] at e; cases e
    | some d =>
      rw [c] at e
      have e : (datL ts).map (fun ds => d :: ds) = some ds := e
      cases c2 : datL ts with
      | none => rw [c2] at e; cases e
      | some ds' => rw [c2] at e; cases e; exact .cons (Rep.dat h1 c) (RepL.dat h2 c2)
end
def gEqD (neg : Bool) (t u : T) : Option T := (datT t).bind fun d => (datT u).bind fun e => if (SeqAt.shaped d && SeqAt.shaped e) = true then some (.at (.bl (if neg = true then !PyData.eqv d e else PyData.eqv d e))) else none
theorem gEqD_ok {neg : Bool} {t u t' : T} (h : gEqD neg t u = some t') : ∃ d e, datT t = some d ∧ datT u = some e ∧ SeqAt.shaped d = true ∧ SeqAt.shaped e = true ∧ t' = .at (.bl (if neg = true then !PyData.eqv d e else PyData.eqv d e)) := by
  unfold gEqD at h
  cases c : datT t with
  | none => rw [c] at h; cases h
  | some d =>
    cases c2 : datT u with
    | none => rw [c] at h; simp only [Option.bind_some, c2] at h; cases h
    | some e =>
      rw [c] at h
      simp only [Option.bind_some, c2] at h
      split at h
      · rename_i k
        rw [Bool.and_eq_true] at k
        cases h
        exact ⟨d, e, rfl, rfl, k.1, k.2, rfl⟩
      · cases h
theorem os_eqD : OpS K B (rEqD K) (gEqD false) := fun Z H x y t u t' G1 G2 o r1 r2 e Q q => by
  obtain ⟨d, d2, h1, h2, s1, s2, rfl⟩ := gEqD_ok e
  exact ⟨d, d2, r1.dat h1, r2.dat h2, s1, s2, atom o rfl q⟩
theorem os_neD : OpS K B (rNeD K) (gEqD true) := fun Z H x y t u t' G1 G2 o r1 r2 e Q q => by
  obtain ⟨d, d2, h1, h2, s1, s2, rfl⟩ := gEqD_ok e
  exact ⟨d, d2, r1.dat h1, r2.dat h2, s1, s2, atom o rfl q⟩
/-! is None -/
def isN : T → Option Bool
  | .at .non => some true
  | .at _ => some false
  | .nd _ _ => some false
  | .hole => none
theorem isN_ok {Z G : AS} {H : Hp} {t : T} {v : V} {b : Bool} (r : Rep K Z H t v G) (h : isN t = some b) : decide (v = .non) = b := by
  cases r with
  | «at» n => cases v <;> first | (cases h; rfl) | cases h
  | hole => cases h
  | nd _ _ _ => cases h; rfl
def gIs (neg : Bool) (t u : T) : Option T := match u with
  | .at .non => (isN t).map fun b => .at (.bl (if neg = true then !b else b))
  | _ => none
theorem gIs_ok {neg : Bool} {t u t' : T} (h : gIs neg t u = some t') : ∃ b, u = .at .non ∧ isN t = some b ∧ t' = .at (.bl (if neg = true then !b else b)) := by
  unfold gIs at h
  split at h
  · cases c : isN t with
    | none => rw [c] at h; cases h
    | some b => rw [c] at h; cases h; exact ⟨b, rfl, rfl, rfl⟩
  · cases h
theorem os_isN : OpS K B (fun x y H Q => y = V.non ∧ Q (.bl (decide (x = V.non))) H) (gIs false) := fun Z H x y t u t' G1 G2 o r1 r2 e Q q => by
  obtain ⟨b, rfl, hb, rfl⟩ := gIs_ok e
  obtain ⟨rfl, _⟩ := r2.at_eq
  refine ⟨rfl, ?_⟩
  rw [isN_ok r1 hb]
  exact atom o rfl q
theorem os_notN : OpS K B (fun x y H Q => y = V.non ∧ Q (.bl (!decide (x = V.non))) H) (gIs true) := fun Z H x y t u t' G1 G2 o r1 r2 e Q q => by
  obtain ⟨b, rfl, hb, rfl⟩ := gIs_ok e
  obtain ⟨rfl, _⟩ := r2.at_eq
  refine ⟨rfl, ?_⟩
  rw [isN_ok r1 hb]
  exact atom o rfl q
/-! in -/
def flats : List T → Option (List V)
  | [] => some []
  | .at v :: ts => if flatV v = true then (flats ts).map fun vs => v :: vs else none
  | _ :: _ => none
theorem flats_ok {Z : AS} {H : Hp} : ∀ {ts : List T} {vs ws : List V} {F : AS}, RepL K Z H ts vs F → flats ts = some ws → vs = ws ∧ vs.all flatV = true
  | [], _, _, _, .nil, e => by
    cases e
    exact ⟨rfl, rfl⟩
  | .at v :: ts, _, ws, _, .cons h1 h2 _, e => by
    have e : (if flatV v = true then (flats ts).map fun vs => v :: vs else none) = some ws := e
    split at e
    · rename_i c
      cases q : flats ts with
      | none => rw [q] at e; cases e
      | some us =>
        rw [q] at e
        cases e
        obtain ⟨rfl, h⟩ := flats_ok h2 q
        obtain ⟨rfl, _⟩ := h1.at_eq
        refine ⟨rfl, ?_⟩
        rw [List.all_cons, c, h]
        rfl
    · cases e
  | .hole :: _, _, _, _, .cons _ _ _, e => by cases e
  | .nd _ _ :: _, _, _, _, .cons _ _ _, e => by cases e
/-- a list's, a tuple's items -/
def seqT : T → Option (List T)
  | .nd .tup ts => some ts
  | .nd .scr ts => some ts
  | .nd (.lst _) ts => some ts
  | _ => none
theorem seqT_ok {Z G : AS} {H : Hp} {t : T} {v : V} {ts : List T} (r : Rep K Z H t v G) (h : seqT t = some ts) : ∃ a vs F, v = .ref a ∧ (SqL K H a vs ∨ SqT K H a vs) ∧ RepL K Z H ts vs F ∧ (∀ b, F b → G b) := by
  cases r with
  | «at» _ => cases h
  | hole => cases h
  | @nd k us a vs F ho hl hn =>
    cases k with
    | tup => cases h; exact ⟨a, vs, F, rfl,   .inr (.of ho), hl, fun b => put_r b⟩
    | scr => cases h; exact ⟨a, vs, F, rfl, .inl ho.sqs, hl, fun b => put_r b⟩
    | lst m => cases h; exact ⟨a, vs, F, rfl, .inl ho.sql, hl, fun b => put_r b⟩
    | _ => cases h
def gIn (neg : Bool) (t u : T) : Option T := (flats [t]).bind fun x => (seqT u).bind fun ts => (flats ts).map fun ws => .at (.bl (if neg = true then !inV (x.getD 0 .non) ws else inV (x.getD 0 .non) ws))
theorem gIn_ok {neg : Bool} {t u t' : T} (h : gIn neg t u = some t') : ∃ v ts ws, flats [t] = some [v] ∧ seqT u = some ts ∧ flats ts = some ws ∧ t' = .at (.bl (if neg = true then !inV v ws else inV v ws)) := by
  unfold gIn at h
  cases c : flats [t] with
  | none => rw [c] at h; cases h
  | some x =>
    rw [c] at h
    cases c2 : seqT u with
    | none => simp only [Option.bind_some, c2] at h; cases h
    | some ts =>
      cases c3 : flats ts with
      | none => simp only [Option.bind_some, c2, c3] at h; cases h
      | some ws =>
        simp only [Option.bind_some, c2, c3] at h
        cases h
        cases t with
        | «at» v =>
          have c : (if flatV v = true then (flats []).map fun vs => v :: vs else none) = some x := c
          split at c
          · cases c
            exact ⟨v, ts, ws, rfl, rfl, c3, rfl⟩
          · cases c
        | _ => cases c
theorem os_in {neg : Bool} : OpS K B (rIn K neg) (gIn neg) := fun Z H x y t u t' G1 G2 o r1 r2 e Q q => by
  obtain ⟨v, ts, ws, h1, h2, h3, rfl⟩ := gIn_ok e
  obtain ⟨e1, f1⟩ := flats_ok (RepL.one r1) h1
  cases e1
  obtain ⟨a, vs, F, rfl, hs, hl, _⟩ := seqT_ok r2 h2
  obtain ⟨rfl, f2⟩ := flats_ok hl h3
  exact ⟨a, vs, rfl, hs, by simpa using f1, f2, atom o rfl q⟩
/-- x in a list of rows -/
def gInD (neg : Bool) (t u : T) : Option T := (datT t).bind fun d => (datT u).bind fun e => match e with
  | .list ds => if (SeqAt.shaped d && SeqAt.shaped (.list ds)) = true then some (.at (.bl (if neg = true then !(ds.any fun z => PyData.eqv z d) else ds.any fun z => PyData.eqv z d))) else none
  | _ => none
theorem gInD_ok {neg : Bool} {t u t' : T} (h : gInD neg t u = some t') : ∃ d ds, datT t = some d ∧ datT u = some (.list ds) ∧ SeqAt.shaped d = true ∧ SeqAt.shaped (.list ds) = true ∧ t' = .at (.bl (if neg = true then !(ds.any fun z => PyData.eqv z d) else ds.any fun z => PyData.eqv z d)) := by
  unfold gInD at h
  cases c : datT t with
  | none => rw [c] at h; cases h
  | some d =>
    cases c2 : datT u with
    | none => rw [c] at h; simp only [Option.bind_some, c2] at h; cases h
    | some e =>
      rw [c] at h
      simp only [Option.bind_some, c2] at h
      split at h
      · split at h
        · rename_i k
          rw [Bool.and_eq_true] at k
          cases h
          exact ⟨d, _, rfl, rfl, k.1, k.2, rfl⟩
        · cases h
      · cases h
theorem os_inD : OpS K B (rInD K) (gInD false) := fun Z H x y t u t' G1 G2 o r1 r2 e Q q => by
  obtain ⟨d, ds, h1, h2, s1, s2, rfl⟩ := gInD_ok e
  exact ⟨d, ds, r1.dat h1, r2.dat h2, s1, s2, atom o rfl q⟩
theorem os_notInD : OpS K B (rNotInD K) (gInD true) := fun Z H x y t u t' G1 G2 o r1 r2 e Q q => by
  obtain ⟨d, ds, h1, h2, s1, s2, rfl⟩ := gInD_ok e
  exact ⟨d, ds, r1.dat h1, r2.dat h2, s1, s2, atom o rfl q⟩
/-! items -/
def gIx (t u : T) : Option T := (seqT t).bind fun ts => (asI u).bind fun i => atI ts i
theorem gIx_ok {t u t' : T} (h : gIx t u = some t') : ∃ ts i, seqT t = some ts ∧ u = .at (.int i) ∧ atI ts i = some t' := by
  unfold gIx at h
  cases c : seqT t with
  | none => rw [c] at h; cases h
  | some ts =>
    cases c2 : asI u with
    | none => rw [c] at h; simp only [Option.bind_some, c2] at h; cases h
    | some i =>
      rw [c] at h
      simp only [Option.bind_some, c2] at h
      exact ⟨ts, i, rfl, asI_eq c2, h⟩
theorem atI_get {α : Type} {xs : List α} {i : Int} {x : α} (h : atI xs i = some x) : ∃ j, ixN xs.length i = some j ∧ xs[j]? = some x := by
  unfold atI at h
  cases c : ixN xs.length i with
  | none => rw [c] at h; cases h
  | some j => rw [c] at h; exact ⟨j, rfl, h⟩
theorem atI_of {α : Type} {xs : List α} {i : Int} {j : Nat} {x : α} (h : ixN xs.length i = some j) (g : xs[j]? = some x) : atI xs i = some x := by
  unfold atI
  rw [h]
  exact g
theorem gIx_at {Z G : AS} {H : Hp} {ts : List T} {vs : List V} (hl : RepL K Z H ts vs G) {i : Int} {t' : T} (e : atI ts i = some t') : ∃ v G1, atI vs i = some v ∧ Rep K Z H t' v G1 ∧ ∀ a, G1 a → G a := by
  obtain ⟨j, h1, h2⟩ := atI_get e
  obtain ⟨v, G1, hv, r, sub⟩ := hl.get h2
  exact ⟨v, G1, atI_of (by rw [← hl.length]; exact h1) hv, r, sub⟩
def gIxL (t u : T) : Option T := match t with
  | .nd .tup _ => none
  | _ => gIx t u
def gIxT (t u : T) : Option T := match t with
  | .nd .tup _ => gIx t u
  | _ => none
theorem oa_ixL : OpA K B (rIxL K) gIxL := fun Z H x y t u t' G1 G2 o r1 r2 e Q q => by
  unfold gIxL at e
  split at e
  · cases e
  · rename_i nt
    obtain ⟨ts, i, h1, rfl, h3⟩ := gIx_ok e
    obtain ⟨rfl, _⟩ := r2.at_eq
    obtain ⟨a, vs, F, rfl, hs, hl, sub⟩ := seqT_ok r1 h1
    obtain ⟨v, G, hv, rv, sv⟩ := gIx_at hl h3
    cases r1 with
    | «at» _ => cases h1
    | hole => cases h1
    | @nd k us _ ws F' ho hl' hn =>
      cases k with
      | tup => exact absurd rfl (nt _)
      | scr =>
        cases h1
        obtain ⟨v, G, hv, rv, sv⟩ := gIx_at hl' h3
        exact ⟨a, ws, i, v, rfl, rfl, ho.sqs, hv, q v G (fun b g => put_r b (sv b g)) rv⟩
      | lst m =>
        cases h1
        obtain ⟨v, G, hv, rv, sv⟩ := gIx_at hl' h3
        exact ⟨a, ws, i, v, rfl, rfl, ho.sql, hv, q v G (fun b g => put_r b (sv b g)) rv⟩
      | _ => cases h1
theorem oa_ixT : OpA K B (rIxT K) gIxT := fun Z H x y t u t' G1 G2 o r1 r2 e Q q => by
  unfold gIxT at e
  split at e
  · obtain ⟨ts, i, h1, rfl, h3⟩ := gIx_ok e
    cases h1
    obtain ⟨rfl, _⟩ := r2.at_eq
    cases r1 with
    | @nd k us a ws F' ho hl' hn =>
      obtain ⟨v, G, hv, rv, sv⟩ := gIx_at hl' h3
      exact ⟨a, ws, i, v, rfl, rfl, .of ho, hv, q v G (fun b g => put_r b (sv b g)) rv⟩
  · cases e
end
end TV
/-! Lists joined and cut, built-in functions. -/
namespace TV
open PySem L2
section
variable (K : PySem.W.Frag) (B : Tabs)
def CallS (r : List V → Hp → VK → Prop) (g : List T → Option T) : Prop := ∀ (Z : AS) (H : Hp) (ts : List T) (vs : List V) (t' : T), Ok B Z non H → Paired (fun t v => ∃ G, Rep K Z H t v G) ts vs → g ts = some t' → ∀ Q : VK,
  (∀ v H' Z' G, Pst B Z H Z' H' → (∀ a, G a → H a = none) → Dj G Z' → Rep K Z' H' t' v G → Q v H') → r vs H Q
end
section
variable {K : PySem.W.Frag} {B : Tabs} {E : XK} {P : Nat → Prop}
theorem paj_nil : PAJ K B tNil pNil := fun Z H σ ρ F ts rs o e Q q => by
  cases e
  exact q [] H Z (Stp.refl o.non) .nil
def qCons (fa : Env → Option T) (fr : Env → Option (List T)) : Env → Option (List T) := fun ρ => (fa ρ).bind fun t => (fr ρ).map fun ts => t :: ts
theorem paj_cons {ta : TE} {tr : TA} {fa : Env → Option T} {fr : Env → Option (List T)} (ha : PJ K B ta fa) (hb : PAJ K B tr fr) : PAJ K B (tCons ta tr) (qCons fa fr) := fun Z H σ ρ F ts rs o e Q q => by
  unfold qCons at e
  cases c : fa ρ with
  | none => rw [c] at e; cases e
  | some t =>
    rw [c] at e
    have e : (fr ρ).map (fun ts => t :: ts) = some ts := e
    cases c2 : fr ρ with
    | none => rw [c2] at e; cases e
    | some us =>
      rw [c2] at e
      cases e
      refine ha Z H σ ρ F t rs o c _ fun v H1 Z1 G1 a1 n1 d1 r1 => ?_
      have rs1 := rs.pst o a1
      have o1 := (a1.env o rs.no).ok
      refine hb Z1 H1 σ ρ F us rs1 o1 c2 _ fun vs H2 Z2 a2 pr => ?_
      refine q _ H2 Z2 (a1.trans a2) (.cons ⟨G1, r1.pst o1.non a2, d1.pst a2 fun x g => r1.no g, n1⟩ (Paired.mapP pr fun t v ⟨G, h1, h2, h3⟩ => ⟨G, h1, h2, fun a g => (h3 a g).imp id (a1.fx.al a)⟩))
def fCB (fs : Env → Option (List T)) (g : List T → Option T) : Env → Option T := fun ρ => (fs ρ).bind g
theorem fj_cb {r : List V → Hp → VK → Prop} {g : List T → Option T} {ta : TA} {fs : Env → Option (List T)} (hr : CallS K B r g) (ha : PAJ K B ta fs) : FJ K B (tCB r ta) (fCB fs g) := fun Z H σ ρ F t' rs o e Q q => by
  unfold fCB at e
  cases c : fs ρ with
  | none => rw [c] at e; cases e
  | some ts =>
    rw [c] at e
    refine ha Z H σ ρ F ts rs o c _ fun vs H1 Z1 a1 pr => ?_
    exact hr Z1 H1 ts vs t' a1.ok (Paired.mapP pr fun t v ⟨G, h, _⟩ => ⟨G, h⟩) e Q fun v H2 Z2 G a2 n2 d2 r2 => q v H2 Z2 G (a1.trans a2) (fun a g => a1.fx.al a (n2 a g)) d2 r2
theorem RepL.pr {Z : AS} {H : Hp} : ∀ {ts : List T} {vs : List V} {F : AS}, RepL K Z H ts vs F → Paired (fun t v => ∃ G, Rep K Z H t v G) ts vs
  | _, _, _, .nil => .nil
  | _, _, _, .cons h1 h2 _ => .cons ⟨_, h1⟩ (RepL.pr h2)
def vCB (fs : EM (List T)) (g : List T → Option T) : EM T := bE fs fun ts => rE (g ts)
theorem vj_cb {r : List V → Hp → VK → Prop} {g : List T → Option T} {ta : TA} {fs : EM (List T)} (hr : CallS K B r g) (ha : AJ K B E ta fs) : VJ K B E (tCB r ta) (vCB fs g) := fun Z H σ ρ F res ρ' rs o e Q q qe => by
  rcases bE_ok e with ⟨ts, ρ1, e1, e⟩ | ⟨x, e1, rfl⟩
  · refine ha Z H σ ρ F _ ρ1 rs o e1 _ (fun t1 et vs H1 Z1 G1 F1 s1 d1 r1 rs1 => ?_) fun x ex => by cases ex
    cases et
    obtain ⟨t', e3, rfl, rfl⟩ := rE_ok e
    have o1 := s1.ok.sub (G := F1) fun a z => .inr z
    have sF := s1.less (G := F1) fun a z => .inr z
    refine hr Z1 H1 ts vs t' s1.ok.non r1.pr e3 Q fun v H2 Z2 G a2 n2 d2 r2 => ?_
    obtain ⟨s3, d3⟩ := a2.more o1 rs1.no n2 d2
    exact q t' rfl v H2 Z2 G F1 (sF.trans s3) d3 r2 (rs1.pst o1 a2)
  · refine ha Z H σ ρ F _ ρ' rs o e1 _ (fun t1 et => by cases et) fun x' ex d H1 Z1 F1 s1 rs1 xo => ?_
    cases ex
    exact qe x rfl d H1 Z1 F1 s1 rs1 xo
/-- a new list of frozen items -/
theorem newList {Z : AS} {H : Hp} {ts : List T} {vs : List V} (o : Ok B Z non H) (h : RepL K Z H ts vs non) {p : Addr} (np : H p = none) {Q : VK}
    (q : ∀ v H' Z' G, Pst B Z H Z' H' → (∀ a, G a → H a = none) → Dj G Z' → Rep K Z' H' (.nd (.lst true) ts) v G → Q v H') : Q (.ref p) (upd H p (.lst vs)) := by
  have s2 : Pst B Z H Z (upd H p (.lst vs)) := Stp.new0 o np fun _ z => z.elim
  have f : Fx non H (upd H p (.lst vs)) := Fx.new np
  have r2 : RepL K Z (upd H p (.lst vs)) ts vs non := RepL.st f (fun _ z => z) Dj.non h Dj.non
  have r3 := Rep.nd (k := .lst true) (a := p) (K := K) (Z := Z) (H := upd H p (.lst vs)) upd_same r2 fun _ z => z
  rw [show put (.lst true) p non = uni (one p) non from rfl, uni_non] at r3
  have zp : ¬ Z p := fun z => by
    obtain ⟨u, hu, _⟩ := o.zal p z
    rw [np] at hu; cases hu
  exact q (.ref p) _ Z (one p) s2 (fun a z => by rw [show a = p from z]; exact np) (fun a z y => zp (by rw [← show a = p from z]; exact y)) r3
theorem newTup {Z : AS} {H : Hp} {ts : List T} {vs : List V} (o : Ok B Z non H) (h : RepL K Z H ts vs non) {p : Addr} (np : H p = none) {Q : VK}
    (q : ∀ v H' Z' G, Pst B Z H Z' H' → (∀ a, G a → H a = none) → Dj G Z' → Rep K Z' H' (.nd .tup ts) v G → Q v H') : Q (.ref p) (upd H p (.tup vs)) := by
  have s2 : Pst B Z H Z (upd H p (.tup vs)) := Stp.new0 o np fun _ z => z.elim
  have f : Fx non H (upd H p (.tup vs)) := Fx.new np
  have r2 : RepL K Z (upd H p (.tup vs)) ts vs non := RepL.st f (fun _ z => z) Dj.non h Dj.non
  have r3 := Rep.nd (k := .tup) (a := p) (K := K) (Z := Z) (H := upd H p (.tup vs)) upd_same r2 fun z => by cases z
  exact q (.ref p) _ Z non s2 (fun _ z => z.elim) Dj.non' r3
/-- frozen items -/
def frL (ts : List T) : Option (List T) := if frzdL ts = true then some ts else none
theorem RepL.fz {Z F : AS} {H : Hp} {ts us : List T} {vs : List V} (r : RepL K Z H ts vs F) (h : frL ts = some us) : us = ts ∧ RepL K Z H ts vs non := by
  unfold frL at h
  split at h
  · rename_i c
    cases h
    have := r.frzd_eq c
    subst this
    exact ⟨rfl, r⟩
  · cases h
def lstT : T → Option (List T)
  | .nd (.lst _) ts => some ts
  | _ => none
def gCat (t u : T) : Option T := (lstT t).bind fun ts => (lstT u).bind fun us => if frzdL ts = true ∧ frzdL us = true ∧ ts.length + us.length ≤ 1000 then some (.nd (.lst true) (ts ++ us)) else none
theorem lstT_ok {Z G : AS} {H : Hp} {t : T} {v : V} {ts : List T} (r : Rep K Z H t v G) (h : lstT t = some ts) (f : frzdL ts = true) : ∃ a vs, v = .ref a ∧ H a = some (.lst vs) ∧ RepL K Z H ts vs non := by
  cases r with
  | «at» _ => cases h
  | hole => cases h
  | @nd k us a vs F ho hl hn =>
    cases k with
    | lst m =>
      cases h
      have := hl.frzd_eq f
      subst this
      exact ⟨a, vs, rfl, ho.lst, hl⟩
    | _ => cases h
theorem os_cat : OpS K B rCat gCat := fun Z H x y t u t' G1 G2 o r1 r2 e Q q => by
  unfold gCat at e
  cases c : lstT t with
  | none => rw [c] at e; cases e
  | some ts =>
    cases c2 : lstT u with
    | none => rw [c] at e; simp only [Option.bind_some, c2] at e; cases e
    | some us =>
      rw [c] at e
      simp only [Option.bind_some, c2] at e
      split at e
      · rename_i k
        cases e
        obtain ⟨a, vs, rfl, h1, l1⟩ := lstT_ok r1 c k.1
        obtain ⟨b, ws, rfl, h2, l2⟩ := lstT_ok r2 c2 k.2.1
        have z := RepL.append l1 l2 Dj.non
        rw [non_uni] at z
        refine ⟨a, b, vs, ws, rfl, rfl, h1, h2, by rw [← l1.length, ← l2.length]; exact Nat.le_of_lt (small k.2.2), fun p np => newList o z np q⟩
      · cases e
def tupT : T → Option (List T)
  | .nd .tup ts => some ts
  | _ => none
def gCatT (t u : T) : Option T := (tupT t).bind fun ts => (tupT u).bind fun us => if frzdL ts = true ∧ frzdL us = true ∧ ts.length + us.length ≤ 1000 ∧ ts ≠ [] ∧ us ≠ [] then some (.nd .tup (ts ++ us)) else none
/-! slices -/
/-- a part's bound -/
def OJ (K : PySem.W.Frag) (B : Tabs) (to : TO) (f : Env → Option (Option Int)) : Prop := ∀ (Z : AS) (H : Hp) (σ : St) (ρ : Env) (F : AS) (t : Option Int), RepS K Z H σ ρ F → Ok B Z F H → f ρ = some t → ∀ Q : Option Int → Hp → Prop,
  (∀ H' Z', Pst B Z H Z' H' → Q t H') → to σ H Q
theorem oj_no : OJ K B tNoPart (fun _ => some none) := fun Z H σ ρ F t rs o e Q q => by
  cases e
  exact q H Z (Stp.refl o.non)
def fPart (f : Env → Option T) : Env → Option (Option Int) := fun ρ => ((f ρ).bind asI).map some
theorem oj_part {te : TE} {f : Env → Option T} (h : PJ K B te f) : OJ K B (tPart te) (fPart f) := fun Z H σ ρ F t rs o e Q q => by
  unfold fPart at e
  cases c : f ρ with
  | none => rw [c] at e; cases e
  | some u =>
    rw [c] at e
    cases c2 : asI u with
    | none => simp only [Option.bind_some, c2] at e; cases e
    | some i =>
      simp only [Option.bind_some, c2] at e
      cases e
      cases asI_eq c2
      refine h Z H σ ρ F _ rs o c _ fun v H1 Z1 G a1 _ _ r1 => ?_
      obtain ⟨rfl, _⟩ := r1.at_eq
      exact ⟨i, rfl, q H1 Z1 a1⟩
def cutT (ts : List T) (lo hi : Option Int) : List T := (ts.drop (HT.sIx ts.length 0 lo)).take (HT.sIx ts.length ts.length hi - HT.sIx ts.length 0 lo)
theorem frzdL_iff : ∀ {ts : List T}, frzdL ts = true ↔ ∀ t ∈ ts, frzd t = true
  | [] => by simp [frzdL]
  | t :: ts => by
    have := frzdL_iff (ts := ts)
    simp [frzdL, this]
theorem RepL.cutTo {Z : AS} {H : Hp} {ts : List T} {vs : List V} (r : RepL K Z H ts vs non) (lo hi : Option Int) : RepL K Z H (cutT ts lo hi) (cutV vs lo hi) non := by
  unfold cutT cutV
  rw [r.length]
  obtain ⟨F1, F2, _, h2, _, e⟩ := r.cut (HT.sIx vs.length 0 lo)
  have : F2 = non := by
    funext a
    exact propext ⟨fun z => (show non a from by rw [e]; exact .inr z), fun z => z.elim⟩
  subst this
  obtain ⟨F3, F4, h3, _, _, e2⟩ := h2.cut (HT.sIx vs.length vs.length hi - HT.sIx vs.length 0 lo)
  have : F3 = non := by
    funext a
    exact propext ⟨fun z => (show non a from by rw [e2]; exact .inl z), fun z => z.elim⟩
  subst this
  exact h3
def gSl (t : T) (lo hi : Option Int) : Option T := match t with
  | .nd (.lst _) ts => if frzdL ts = true then some (.nd (.lst true) (cutT ts lo hi)) else none
  | .nd .scr ts => if frzdL ts = true then some (.nd (.lst true) (cutT ts lo hi)) else none
  | _ => none
def fSl (fe : Env → Option T) (fl fh : Env → Option (Option Int)) : Env → Option T := fun ρ => (fe ρ).bind fun t => (fl ρ).bind fun lo => (fh ρ).bind fun hi => gSl t lo hi
theorem fj_sl {te : TE} {tl th : TO} {fe : Env → Option T} {fl fh : Env → Option (Option Int)} (he : PJ K B te fe) (hl : OJ K B tl fl) (hh : OJ K B th fh) : FJ K B (tSl (rSlL K) te tl th) (fSl fe fl fh) := fun Z H σ ρ F t' rs o e Q q => by
  unfold fSl at e
  cases c : fe ρ with
  | none => rw [c] at e; cases e
  | some t =>
    cases c2 : fl ρ with
    | none => rw [c] at e; simp only [Option.bind_some, c2] at e; cases e
    | some lo =>
      cases c3 : fh ρ with
      | none => rw [c] at e; simp only [Option.bind_some, c2, c3] at e; cases e
      | some hi =>
        rw [c] at e
        simp only [Option.bind_some, c2, c3] at e
        refine he Z H σ ρ F t rs o c _ fun v H1 Z1 G a1 n1 d1 r1 => ?_
        have rs1 := rs.pst o a1
        have s1 := a1.env o rs.no
        refine hl Z1 H1 σ ρ F lo rs1 s1.ok c2 _ fun H2 Z2 a2 => ?_
        have rs2 := rs1.pst s1.ok a2
        have s2 := a2.env s1.ok rs1.no
        refine hh Z2 H2 σ ρ F hi rs2 s2.ok c3 _ fun H3 Z3 a3 => ?_
        have r3 := (r1.pst s1.ok.non a2).pst s2.ok.non a3
        have fin : ∀ {p : Addr} {vs : List V} {ts : List T}, H3 p = none → RepL K Z3 H3 ts vs non → some (T.nd (.lst true) (cutT ts lo hi)) = some t' → Q (.ref p) (upd H3 p (.lst (cutV vs lo hi))) := fun {p vs ts} np hl e => by
          cases e
          exact newList a3.ok (hl.cutTo lo hi) np fun v H' Z' G a4 n4 d4 r4 => q v H' Z' G (a1.trans (a2.trans (a3.trans a4))) (fun a g => a1.fx.al a (a2.fx.al a (a3.fx.al a (n4 a g)))) d4 r4
        cases r3 with
        | «at» _ => cases e
        | hole => cases e
        | @nd k us a vs F' ho hl' hn =>
          cases k with
          | lst m =>
            have e : (if frzdL us = true then some (T.nd (.lst true) (cutT us lo hi)) else none) = some t' := e
            split at e
            · rename_i k
              have := hl'.frzd_eq k
              subst this
              exact ⟨a, vs, rfl, ho.sql, fun p np => fin np hl' e⟩
            · cases e
          | scr =>
            have e : (if frzdL us = true then some (T.nd (.lst true) (cutT us lo hi)) else none) = some t' := e
            split at e
            · rename_i k
              have := hl'.frzd_eq k
              subst this
              exact ⟨a, vs, rfl, ho.sqs, fun p np => fin np hl' e⟩
            · cases e
          | _ => cases e
/-! built-in functions -/
def gLen : List T → Option T
  | [t] => (seqT t).map fun ts => .at (.int ts.length)
  | _ => none
theorem Paired.one' {Z : AS} {H : Hp} {t : T} {vs : List V} (h : Paired (fun t v => ∃ G, Rep K Z H t v G) [t] vs) : ∃ v G, vs = [v] ∧ Rep K Z H t v G := by
  cases h with
  | cons h1 h2 =>
    cases h2
    obtain ⟨G, h1⟩ := h1
    exact ⟨_, G, rfl, h1⟩
theorem Paired.two' {Z : AS} {H : Hp} {t u : T} {vs : List V} (h : Paired (fun t v => ∃ G, Rep K Z H t v G) [t, u] vs) : ∃ v w G G', vs = [v, w] ∧ Rep K Z H t v G ∧ Rep K Z H u w G' := by
  cases h with
  | cons h1 h2 =>
    obtain ⟨w, G', rfl, h3⟩ := Paired.one' h2
    obtain ⟨G, h1⟩ := h1
    exact ⟨_, w, G, G', rfl, h1, h3⟩
theorem cs_len : CallS K B (fun xs H Q => ∃ (p : Addr) (ys : List V), xs = [V.ref p] ∧ (SqL K H p ys ∨ SqT K H p ys) ∧ Q (V.int ↑ys.length) H) gLen := fun Z H ts vs t' o pr e Q q => by
  match ts, e with
  | [t], e =>
    obtain ⟨v, G, rfl, r⟩ := Paired.one' pr
    have e : (seqT t).map (fun ts => T.at (.int ts.length)) = some t' := e
    cases c : seqT t with
    | none => rw [c] at e; cases e
    | some us =>
      rw [c] at e
      cases e
      obtain ⟨a, ws, F, rfl, hs, hl, _⟩ := seqT_ok r c
      refine ⟨a, ws, rfl, hs, ?_⟩
      rw [← hl.length]
      exact atom o rfl q
def gInt : List T → Option T
  | [.at (.int i)] => some (.at (.int i))
  | [.at (.bl k)] => some (.at (.int (if k = true then 1 else 0)))
  | _ => none
theorem cs_int : CallS K B (fun xs H Q => (∃ i, xs = [V.int i] ∧ Q (V.int i) H) ∨ ∃ k, xs = [V.bl k] ∧ Q (V.int (if k = true then 1 else 0)) H) gInt := fun Z H ts vs t' o pr e Q q => by
  match ts, e with
  | [.at (.int i)], e =>
    obtain ⟨v, G, rfl, r⟩ := Paired.one' pr
    obtain ⟨rfl, _⟩ := r.at_eq
    cases e
    exact .inl ⟨i, rfl, atom o rfl q⟩
  | [.at (.bl k)], e =>
    obtain ⟨v, G, rfl, r⟩ := Paired.one' pr
    obtain ⟨rfl, _⟩ := r.at_eq
    cases e
    exact .inr ⟨k, rfl, atom o rfl q⟩
def intsOf : List T → Option (List Int)
  | [] => some []
  | .at (.int i) :: ts => (intsOf ts).map fun l => i :: l
  | _ :: _ => none
def TI (l : List Int) : List T := l.map fun i => T.at (.int i)
theorem intsOf_ok : ∀ {ts : List T} {l : List Int}, intsOf ts = some l → ts = TI l
  | [], _, e => by cases e; rfl
  | .at (.int i) :: ts, l, e => by
    have e : (intsOf ts).map (fun l => i :: l) = some l := e
    cases c : intsOf ts with
    | none => rw [c] at e; cases e
    | some m =>
      rw [c] at e
      cases e
      rw [intsOf_ok c]
      rfl
  | .at (.non) :: _, _, e => by cases e
  | .at (.bl _) :: _, _, e => by cases e
  | .at (.str _) :: _, _, e => by cases e
  | .at (.byt _) :: _, _, e => by cases e
  | .at (.flt _) :: _, _, e => by cases e
  | .at (.ref _) :: _, _, e => by cases e
  | .at (.ty _) :: _, _, e => by cases e
  | .hole :: _, _, e => by cases e
  | .nd _ _ :: _, _, e => by cases e
theorem intsOf_TI : ∀ l : List Int, intsOf (TI l) = some l
  | [] => rfl
  | i :: l => by
    show (intsOf (TI l)).map (fun m => i :: m) = _
    rw [intsOf_TI l]
    rfl
theorem RepL.ints {Z : AS} {H : Hp} : ∀ {l : List Int} {vs : List V} {F : AS}, RepL K Z H (TI l) vs F → vs = l.map V.int
  | [], _, _, .nil => rfl
  | i :: l, _, _, .cons h1 h2 _ => by
    obtain ⟨rfl, _⟩ := h1.at_eq
    rw [RepL.ints h2]
    rfl
theorem RepL.ofInts {Z : AS} {H : Hp} : ∀ l : List Int, RepL K Z H (TI l) (l.map V.int) non
  | [] => .nil
  | i :: l => by
    have z := RepL.cons (Rep.at (K := K) (Z := Z) (H := H) (v := .int i) rfl) (RepL.ofInts l) Dj.non
    rw [non_uni] at z
    exact z
def sortI (l : List Int) : List Int := l.mergeSort fun a b => decide (a ≤ b)
/-- a list's items -/
def lsT : T → Option (List T)
  | .nd .scr ts => some ts
  | .nd (.lst _) ts => some ts
  | _ => none
theorem lsT_ok {Z G : AS} {H : Hp} {t : T} {v : V} {ts : List T} (r : Rep K Z H t v G) (h : lsT t = some ts) : ∃ a vs F, v = .ref a ∧ SqL K H a vs ∧ RepL K Z H ts vs F := by
  cases r with
  | «at» _ => cases h
  | hole => cases h
  | @nd k us a vs F ho hl hn =>
    cases k with
    | scr => cases h; exact ⟨a, vs, F, rfl, ho.sqs, hl⟩
    | lst m => cases h; exact ⟨a, vs, F, rfl, ho.sql, hl⟩
    | _ => cases h
def gSort : List T → Option T
  | [t] => (lsT t).bind fun ts => (intsOf ts).bind fun l => if l.length < 64 then some (.nd (.lst true) (TI (sortI l))) else none
  | _ => none
theorem bind2 {α β γ : Type} {x : Option α} {f : α → Option β} {g : β} (h : x.bind f = some g) : ∃ a, x = some a ∧ f a = some g := by
  cases x with
  | none => cases h
  | some a => exact ⟨a, rfl, h⟩
theorem cs_sorted : CallS K B (rSorted K) gSort := fun Z H ts vs t' o pr e Q q => by
  match ts, e with
  | [t], e =>
    obtain ⟨v, G, rfl, r⟩ := Paired.one' pr
    have e : ((lsT t).bind fun ts => (intsOf ts).bind fun l => if l.length < 64 then some (T.nd (.lst true) (TI (sortI l))) else none) = some t' := e
    obtain ⟨us, c1, e⟩ := bind2 (γ := Unit) e
    obtain ⟨l, c2, e⟩ := bind2 (γ := Unit) e
    split at e
    · rename_i k
      cases e
      obtain ⟨a, ws, F, rfl, hs, hl⟩ := lsT_ok r c1
      cases intsOf_ok c2
      cases hl.ints
      refine ⟨a, l, rfl, hs, k, fun ns p pm pw np => ?_⟩
      have : ns = sortI l := LT.rising_unique pm pw
      subst this
      exact newList o (RepL.ofInts _) np q
    · cases e
def gList : List T → Option T
  | [t] => (seqT t).bind fun ts => if frzdL ts = true then some (.nd (.lst true) ts) else none
  | _ => none
theorem cs_list : CallS K B (fun xs H Q => ∃ (p : Addr) (ys : List V), xs = [V.ref p] ∧ (SqL K H p ys ∨ SqT K H p ys) ∧ ∀ (l : Addr), H l = none → Q (V.ref l) (upd H l (HO.lst ys))) gList := fun Z H ts vs t' o pr e Q q => by
  match ts, e with
  | [t], e =>
    obtain ⟨v, G, rfl, r⟩ := Paired.one' pr
    have e : ((seqT t).bind fun ts => if frzdL ts = true then some (T.nd (.lst true) ts) else none) = some t' := e
    obtain ⟨us, c1, e⟩ := bind2 (γ := Unit) e
    split at e
    · rename_i k
      cases e
      obtain ⟨a, ws, F, rfl, hs, hl, _⟩ := seqT_ok r c1
      have := hl.frzd_eq k
      subst this
      exact ⟨a, ws, rfl, hs, fun p np => newList o hl np q⟩
    · cases e
def gTuple : List T → Option T
  | [t] => (lsT t).bind fun ts => if frzdL ts = true then some (.nd .tup ts) else none
  | _ => none
theorem cs_tuple : CallS K B (fun xs H Q => ∃ (p : Addr) (ys : List V), xs = [V.ref p] ∧ ((SqL K H p ys ∧ ∀ (l : Addr), H l = none → Q (V.ref l) (upd H l (HO.tup ys))) ∨ SqT K H p ys ∧ Q (V.ref p) H)) gTuple := fun Z H ts vs t' o pr e Q q => by
  match ts, e with
  | [t], e =>
    obtain ⟨v, G, rfl, r⟩ := Paired.one' pr
    have e : ((lsT t).bind fun ts => if frzdL ts = true then some (T.nd .tup ts) else none) = some t' := e
    obtain ⟨us, c1, e⟩ := bind2 (γ := Unit) e
    split at e
    · rename_i k
      cases e
      obtain ⟨a, ws, F, rfl, hs, hl⟩ := lsT_ok r c1
      have := hl.frzd_eq k
      subst this
      exact ⟨a, ws, rfl, .inl ⟨hs, fun p np => newTup o hl np q⟩⟩
    · cases e
def gSum : List T → Option T
  | [t] => (lsT t).bind fun ts => (intsOf ts).map fun l => .at (.int l.sum)
  | _ => none
theorem cs_sum : CallS K B (rSum K) gSum := fun Z H ts vs t' o pr e Q q => by
  match ts, e with
  | [t], e =>
    obtain ⟨v, G, rfl, r⟩ := Paired.one' pr
    have e : ((lsT t).bind fun ts => (intsOf ts).map fun l => T.at (.int l.sum)) = some t' := e
    obtain ⟨us, c1, e⟩ := bind2 (γ := Unit) e
    cases c2 : intsOf us with
    | none => rw [c2] at e; cases e
    | some l =>
      rw [c2] at e
      cases e
      obtain ⟨a, ws, F, rfl, hs, hl⟩ := lsT_ok r c1
      cases intsOf_ok c2
      cases hl.ints
      exact ⟨a, l, rfl, hs, atom o rfl q⟩
def gMin2 : List T → Option T
  | [.at (.int i), .at (.int j)] => some (.at (.int (if j < i then j else i)))
  | _ => none
theorem cs_min2 : CallS K B (fun xs H Q => ∃ i j, xs = [V.int i, V.int j] ∧ Q (V.int (if j < i then j else i)) H) gMin2 := fun Z H ts vs t' o pr e Q q => by
  match ts, e with
  | [.at (.int i), .at (.int j)], e =>
    obtain ⟨v, w, G, G', rfl, r1, r2⟩ := Paired.two' pr
    obtain ⟨rfl, _⟩ := r1.at_eq
    obtain ⟨rfl, _⟩ := r2.at_eq
    cases e
    exact ⟨i, j, rfl, atom o rfl q⟩
/-- list(range(n)) -/
def fLR (f : Env → Option T) : Env → Option T := fun ρ => ((f ρ).bind asI).bind fun n => if n ≤ 1000 ∧ -1000 ≤ n then some (.nd (.lst true) (intsT 0 n.toNat)) else none
theorem intsT_TI {lo : Int} {n : Nat} : intsT lo n = TI ((List.range n).map fun (j : Nat) => lo + (j : Int)) := by
  unfold intsT TI
  rw [List.map_map]
  rfl
end
end TV
/-! Items and attributes that are given values; chains; dicts. -/
namespace TV
open PySem L2
section
variable {K : PySem.W.Frag} {B : Tabs} {E : XK} {P : Nat → Prop}
theorem fj_listRg {ta : TE} {f : Env → Option T} (h : PJ K B ta f) : FJ K B (tLstRg (tRg1 ta)) (fLR f) := fun Z H σ ρ F t' rs o e Q q => by
  unfold fLR at e
  obtain ⟨n, c, e⟩ := bind2 (γ := Unit) e
  obtain ⟨t, c1, c2⟩ := bind2 (γ := Unit) c
  cases asI_eq c2
  split at e
  · rename_i k
    cases e
    refine h Z H σ ρ F _ rs o c1 _ fun v H1 Z1 G a1 _ _ r1 => ?_
    obtain ⟨rfl, _⟩ := r1.at_eq
    refine ⟨n, rfl, ⟨by omega, by omega, by omega, by omega, by omega⟩, fun p np => ?_⟩
    have e : (List.range n.toNat).map (fun (j : Nat) => (0 : Int) + (j : Int)) = (List.range n.toNat).map fun (j : Nat) => (j : Int) := List.map_congr_left fun j _ => by omega
    rw [LT.rgV_ints]
    rw [intsT_TI, e] at q
    exact newList a1.ok (RepL.ofInts _) np fun v H' Z' G a4 n4 d4 r4 => q v H' Z' G (a1.trans a4) (fun a g => a1.fx.al a (n4 a g)) d4 r4
  · cases e
/-! x[i] = v of a list -/
def ownL : T → Option (List T)
  | .nd (.lst true) ts => some ts
  | _ => none
theorem ownL_ok {t : T} {ts : List T} (h : ownL t = some ts) : t = .nd (.lst true) ts := by
  unfold ownL at h
  split at h
  · cases h; rfl
  · cases h
def gSt (pf : Env → Option (Nat × List Nat)) (fi : Env → Option T) : T → Env → Option Env := fun t ρ => (pf ρ).bind fun x => (getE ρ x.1 x.2).bind fun u => (fi ρ).bind fun j => (asI j).bind fun j => (ownL u).bind fun ts => (ixN ts.length j).map fun k => setE ρ x.1 x.2 (.nd (.lst true) (ts.set k t))
theorem gj_sub {to ti : TE} {pf : Env → Option (Nat × List Nat)} {fi : Env → Option T} (hp : PlJ K B to pf) (hi : PJ K B ti fi) : GJ K B P (gSub to ti rSetL) (gSt pf fi) := fun Z H σ ρ F G t v ρ' rs o d rt e Q q => by
  unfold gSt at e
  obtain ⟨x, c1, e⟩ := bind2 (γ := Unit) e
  obtain ⟨u, c2, e⟩ := bind2 (γ := Unit) e
  obtain ⟨j0, c3, e⟩ := bind2 (γ := Unit) e
  obtain ⟨j, c4, e⟩ := bind2 (γ := Unit) e
  obtain ⟨ts, c6, e6⟩ := bind2 (γ := Unit) e
  cases asI_eq c4
  cases ownL_ok c6
  · skip
    cases c5 : ixN ts.length j with
    | none => rw [c5] at e6; cases e6
    | some k =>
      rw [c5] at e6
      cases e6
      have oF : Ok B Z F H := o.sub fun a z => .inr z
      refine hp Z H σ ρ F x.1 x.2 _ rs oF c1 c2 _ fun w H1 Z1 a1 pa => ?_
      have rs1 := rs.pst oF a1
      have s1 := a1.env o fun a z => z.elim (fun z => rt.no z) (rs.no a)
      have rt1 := rt.pst o.non a1
      have o1F := s1.ok.sub (G := F) fun a z => .inr z
      refine hi Z1 H1 σ ρ F _ rs1 o1F c3 _ fun y H2 Z2 G2 a2 _ _ r2 => ?_
      obtain ⟨rfl, _⟩ := r2.at_eq
      have rs2 := rs1.pst o1F a2
      have s2 := a2.env s1.ok fun a z => z.elim (fun z => rt1.no z) (rs1.no a)
      have rt2 := rt1.pst s1.ok.non a2
      have pa2 := pa.stp rs1 o1F.non a2 Dj.non
      have o2F := s2.ok.sub (G := F) fun a z => .inr z
      obtain ⟨a, vs, Fc, R, rfl, ho, hl, hn, rfl, dR, back⟩ := rs2.modify o2F c2 pa2
      have ho' : H2 a = some (.lst vs) := ho
      have nFc := hn rfl
      have kl := (ixN_seq c5).2.1
      have hl2 := hl.length
      rw [show put (.lst true) a Fc = uni (one a) Fc from rfl] at dR d back q s1 s2 o
      refine ⟨a, vs, j, k, rfl, rfl, ho', by rw [← hl2]; exact c5, ?_⟩
      have nG : ¬ G a := fun z => d a z (.inl (.inl rfl))
      have nZ : ¬ Z2 a := fun z => s2.ok.dj a (.inr (.inl (.inl rfl))) z
      have sw := Stp.wr (o := .lst (vs.set k v)) s2.ok ho' (.inr (.inl (.inl rfl))) (by simp) (by simp) (by simp) (by simp)
      have swF := Stp.wr (o := .lst (vs.set k v)) (s2.ok.sub (G := uni (uni (one a) Fc) R) fun a z => .inr z) ho' (.inl (.inl rfl)) (by simp) (by simp) (by simp) (by simp)
      have fx : Fx (one a) H2 (upd H2 a (.lst (vs.set k v))) := Fx.wr ho' rfl (by simp) (by simp) (by simp)
      have hl3 := hl.wr (o := .lst (vs.set k v)) ho' (by simp) (by simp) (by simp) nFc nZ
      have rt3 := rt2.wr (o := .lst (vs.set k v)) ho' (by simp) (by simp) (by simp) nG nZ
      obtain ⟨w', G1, R1, hw, r1, d1, rfl, bk⟩ := hl3.at (List.getElem?_eq_getElem kl)
      have dGR1 : Dj G R1 := fun b g z => d b g (.inl (.inr (.inr z)))
      have dGR : Dj G R := fun b g z => d b g (.inr z)
      have hl4 := bk (Z' := Z2) (M := non) Fx.refl (fun _ z => z) Dj.non Dj.non rt3 dGR1
      have nn : ¬ uni G R1 a := fun z => z.elim nG fun z => nFc (.inr z)
      have rs4 := back (k' := .lst true) (vs' := vs.set k v) swF fx rfl rfl upd_same hl4 nn (Dj.uni' dGR fun b z y => dR b (.inr (.inr z)) y)
      refine q σ _ Z2 _ sm0 (((s1.trans s2).trans sw).less fun b z => ?_) rs4
      rcases z with (z | z | z) | z
      · exact .inr (.inl (.inl z))
      · exact .inl z
      · exact .inr (.inl (.inr (.inr z)))
      · exact .inr (.inr z)
/-! a < b < c -/
def fCh (fa fb fc : Env → Option T) (g g' : T → T → Option T) : Env → Option T := fun ρ => (fa ρ).bind fun t => (fb ρ).bind fun u => (g t u).bind fun z => (asB z).bind fun k => if k = true then (fc ρ).bind fun w => g' u w else some (.at (.bl false))
theorem fj_chain {r r' : R2} {g g' : T → T → Option T} {ta tb tc : TE} {fa fb fc : Env → Option T} (h1 : OpS K B r g) (h2 : OpS K B r' g') (ha : PJ K B ta fa) (hb : PJ K B tb fb) (hc : PJ K B tc fc) : FJ K B (tChain r r' ta tb tc) (fCh fa fb fc g g') := fun Z H σ ρ F t' rs o e Q q => by
  unfold fCh at e
  obtain ⟨t, c1, e⟩ := bind2 (γ := Unit) e
  obtain ⟨u, c2, e⟩ := bind2 (γ := Unit) e
  obtain ⟨z, c3, e⟩ := bind2 (γ := Unit) e
  obtain ⟨k, c4, e⟩ := bind2 (γ := Unit) e
  cases asB_eq c4
  refine ha Z H σ ρ F t rs o c1 _ fun x H1 Z1 G1 a1 _ _ r1 => ?_
  have rs1 := rs.pst o a1
  have o1 := (a1.env o rs.no).ok
  refine hb Z1 H1 σ ρ F u rs1 o1 c2 _ fun y H2 Z2 G2 a2 _ _ r2 => ?_
  have r1' := r1.pst o1.non a2
  have rs2 := rs1.pst o1 a2
  have o2 := (a2.env o1 rs1.no).ok
  refine h1 Z2 H2 x y t u _ G1 G2 a2.ok r1' r2 c3 _ fun v H3 Z3 G a3 gn dz rt => ?_
  obtain ⟨rfl, _⟩ := rt.at_eq
  have rs3 := rs2.pst o2 a3
  have o3 := (a3.env o2 rs2.no).ok
  refine ⟨k, rfl, ?_⟩
  cases k with
  | false =>
    cases e
    refine iteF (q _ H3 Z3 non (a1.trans (a2.trans a3)) (fun _ z => z.elim) Dj.non' (.at rfl))
  | true =>
    have e : ((fc ρ).bind fun w => g' u w) = some t' := e
    obtain ⟨w, c5, e⟩ := bind2 (γ := Unit) e
    refine iteT (hc Z3 H3 σ ρ F w rs3 o3 c5 _ fun y2 H4 Z4 G4 a4 _ _ r4 => ?_)
    have r2' := (r2.pst a2.ok a3).pst a3.ok a4
    refine h2 Z4 H4 y y2 u w t' G2 G4 a4.ok r2' r4 e _ fun v H5 Z5 G5 a5 gn5 dz5 r5 => ?_
    exact q v H5 Z5 G5 (a1.trans (a2.trans (a3.trans (a4.trans a5)))) (fun b g => a1.fx.al _ (a2.fx.al _ (a3.fx.al _ (a4.fx.al _ (gn5 b g))))) dz5 r5
abbrev fC (v : V) : Env → Option T := fun _ => some (.at v)
theorem fj_un {g : Int → V} {ta : TE} {fa : Env → Option T} (hg : ∀ i, isRef (g i) = false) (h : PJ K B ta fa) : FJ K B (tUn (rU g) ta) (fun ρ => ((fa ρ).bind asI).map fun i => .at (g i)) := fun Z H σ ρ F t' rs o e Q q => by
  cases c : (fa ρ).bind asI with
  | none => simp only [c] at e; cases e
  | some i =>
    simp only [c] at e
    cases e
    obtain ⟨t, c1, c2⟩ := bind2 (γ := Unit) c
    cases asI_eq c2
    refine h Z H σ ρ F _ rs o c1 _ fun v H1 Z1 G a1 _ _ r1 => ?_
    obtain ⟨rfl, _⟩ := r1.at_eq
    exact ⟨i, rfl, q _ H1 Z1 non a1 (fun _ z => z.elim) Dj.non' (.at (hg i))⟩
theorem tj_yes : TJ K B E tYes (rE (some true)) := fun Z H σ ρ F r ρ' rs o e Q q qe => by
  obtain ⟨b, e3, rfl, rfl⟩ := rE_ok e
  cases e3
  exact q true rfl H Z F (Stp.refl o) rs
end
end TV
/-! Names for the printed functions. -/
namespace TV
open PySem L2
abbrev fUn (f : Env → Option T) : Env → Option T := fun ρ => ((f ρ).bind asI).map fun i => .at (.int (-i))
abbrev plV (i : Nat) : Env → Option (Nat × List Nat) := fun _ => some (i, [])
abbrev fFld (C : Addr) (x : Str) (f : Env → Option T) : Env → Option T := fun ρ => (f ρ).bind (fldT C x)
abbrev fIt (f : EM T) : EM (List T) := bE f fun t => rE (asL t)
abbrev frzG (g : T → T → Option T) : T → T → Option T := fun t u => (g t u).bind fun t' => if frzd t' = true then some t' else none
end TV
/-! Rules to reckon a plain function: what it comes to. -/
namespace TV
open PySem L2
def Rn (f : SM) (ρ : Env) (Φ : Out → Env → Prop) : Prop := ∃ o ρ', f ρ = some (o, ρ') ∧ Φ o ρ'
def Re {α : Type} (f : EM α) (ρ : Env) (Φ : α → Env → Prop) : Prop := ∃ a ρ', f ρ = some (.ok a, ρ') ∧ Φ a ρ'
def Rg (G : Fn) (ts : List T) (Φ : T → List T → Prop) : Prop := ∃ t ts', G ts = some (.ok t, ts') ∧ Φ t ts'
section
variable {α β : Type} {ρ : Env} {Φ : Out → Env → Prop}
theorem Rn.mono {f : SM} {Ψ : Out → Env → Prop} (h : Rn f ρ Φ) (m : ∀ o ρ', Φ o ρ' → Ψ o ρ') : Rn f ρ Ψ := by
  obtain ⟨o, ρ', e, q⟩ := h
  exact ⟨o, ρ', e, m o ρ' q⟩
theorem Re.mono {f : EM α} {Ψ Φ : α → Env → Prop} (h : Re f ρ Φ) (m : ∀ o ρ', Φ o ρ' → Ψ o ρ') : Re f ρ Ψ := by
  obtain ⟨o, ρ', e, q⟩ := h
  exact ⟨o, ρ', e, m o ρ' q⟩
theorem Rg.mono {G : Fn} {ts : List T} {Ψ Φ : T → List T → Prop} (h : Rg G ts Φ) (m : ∀ o ρ', Φ o ρ' → Ψ o ρ') : Rg G ts Ψ := by
  obtain ⟨o, ρ', e, q⟩ := h
  exact ⟨o, ρ', e, m o ρ' q⟩
/-- behind a statement of a block -/
def thenR (g : SM) (Φ : Out → Env → Prop) : Out → Env → Prop
  | .nx, ρ => Rn g ρ Φ
  | o, ρ => Φ o ρ
theorem Rn_seq {f g : SM} (h : Rn f ρ (thenR g Φ)) : Rn (sSeq f g) ρ Φ := by
  obtain ⟨o, ρ1, e, h⟩ := h
  cases o with
  | nx =>
    obtain ⟨o2, ρ2, e2, q⟩ := h
    refine ⟨o2, ρ2, ?_, q⟩
    unfold sSeq
    rw [e]
    exact e2
  | _ =>
    refine ⟨_, ρ1, ?_, h⟩
    unfold sSeq
    rw [e]
    rfl
theorem Rn_nx (h : Φ .nx ρ) : Rn sNx ρ Φ := ⟨_, _, rfl, h⟩
theorem Rn_E {f : EM α} {g : α → SM} (h : Re f ρ fun a ρ1 => Rn (g a) ρ1 Φ) : Rn (sE f g) ρ Φ := by
  obtain ⟨a, ρ1, e, o, ρ2, e2, q⟩ := h
  refine ⟨o, ρ2, ?_, q⟩
  unfold sE
  rw [e]
  exact e2
theorem Rn_asg {f : EM T} {g : T → Env → Option Env} (h : Re f ρ fun t ρ1 => ∃ ρ2, g t ρ1 = some ρ2 ∧ Φ .nx ρ2) : Rn (sAsg f g) ρ Φ := by
  obtain ⟨a, ρ1, e, ρ2, e2, q⟩ := h
  refine ⟨.nx, ρ2, ?_, q⟩
  unfold sAsg sE
  rw [e]
  show (g a ρ1).map (fun ρ' => (Out.nx, ρ')) = _
  rw [e2]
  rfl
theorem Rn_ret {f : EM T} (h : Re f ρ fun t ρ1 => Φ (.rt t) ρ1) : Rn (sE f fun t ρ => some (.rt t, ρ)) ρ Φ := by
  obtain ⟨a, ρ1, e, q⟩ := h
  refine ⟨.rt a, ρ1, ?_, q⟩
  unfold sE
  rw [e]
  rfl
theorem Rn_drop {f : EM T} (h : Re f ρ fun t ρ1 => Φ .nx ρ1) : Rn (sE f fun _ => sNx) ρ Φ := by
  obtain ⟨a, ρ1, e, q⟩ := h
  refine ⟨.nx, ρ1, ?_, q⟩
  unfold sE
  rw [e]
  rfl
theorem Rn_if {c : EM Bool} {f g : SM} (h : Re c ρ fun b ρ1 => (b = true → Rn f ρ1 Φ) ∧ (b = false → Rn g ρ1 Φ)) : Rn (sE c fun b => if b = true then f else g) ρ Φ := by
  obtain ⟨b, ρ1, e, q1, q2⟩ := h
  refine Rn_E ⟨b, ρ1, e, ?_⟩
  cases b with
  | true => exact q1 rfl
  | false => exact q2 rfl
theorem Rn_par {i j : Nat} {f : EM (List T)} (h : Re f ρ fun ts ρ1 => ∃ t u ρ2 ρ3, ts = [t, u] ∧ gN i t ρ1 = some ρ2 ∧ gN j u ρ2 = some ρ3 ∧ Φ .nx ρ3) : Rn (sPar i j f) ρ Φ := by
  obtain ⟨ts, ρ1, e, t, u, ρ2, ρ3, rfl, e2, e3, q⟩ := h
  refine ⟨.nx, ρ3, ?_, q⟩
  unfold sPar sE
  rw [e]
  show ((gN i t ρ1).bind fun ρ1 => gN j u ρ1).map (fun ρ' => (Out.nx, ρ')) = _
  rw [e2]
  show (gN j u ρ2).map (fun ρ' => (Out.nx, ρ')) = _
  rw [e3]
  rfl
/-- behind a turn -/
def turnR (I : Env → Prop) (Φ : Out → Env → Prop) : Out → Env → Prop
  | .nx, ρ => I ρ
  | .ct, ρ => I ρ
  | .bk, ρ => Φ .nx ρ
  | o, ρ => Φ o ρ
theorem Rn_go {g : T → Env → Option Env} {b : SM} : ∀ {ts : List T} (I : Nat → Env → Prop) {ρ : Env} (n : Nat), I n ρ →
    (∀ i t ρ, ts[i]? = some t → I (n + i) ρ → ∃ ρ1, g t ρ = some ρ1 ∧ Rn b ρ1 (turnR (I (n + i + 1)) Φ)) → (∀ ρ, I (n + ts.length) ρ → Φ .nx ρ) → Rn (fGo g b ts) ρ Φ
  | [], I, ρ, n, h0, _, h2 => ⟨.nx, ρ, rfl, h2 ρ h0⟩
  | t :: ts, I, ρ, n, h0, h1, h2 => by
    obtain ⟨ρ1, e1, o, ρ2, e2, q⟩ := h1 0 t ρ rfl h0
    have next : I (n + 1) ρ2 → Rn (fGo g b ts) ρ2 Φ := fun h => Rn_go I (n + 1) h (fun i u ρ hu hi => by
      have := h1 (i + 1) u ρ (by simpa using hu) (by rw [show n + (i + 1) = n + 1 + i from by omega]; exact hi)
      rw [show n + (i + 1) = n + 1 + i from by omega] at this
      exact this) fun ρ h => h2 ρ (by rw [List.length_cons, show n + (ts.length + 1) = n + 1 + ts.length from by omega]; exact h)
    have un : fGo g b (t :: ts) ρ = lk (fGo g b ts) (o, ρ2) := by
      show (g t ρ).bind (fun ρ1 => (b ρ1).bind (lk (fGo g b ts))) = _
      rw [e1]
      show (b ρ1).bind (lk (fGo g b ts)) = _
      rw [e2]
      rfl
    cases o with
    | nx =>
      obtain ⟨o3, ρ3, e3, q3⟩ := next q
      exact ⟨o3, ρ3, un.trans e3, q3⟩
    | ct =>
      obtain ⟨o3, ρ3, e3, q3⟩ := next q
      exact ⟨o3, ρ3, un.trans e3, q3⟩
    | bk => exact ⟨.nx, ρ2, un, q⟩
    | rt t => exact ⟨_, ρ2, un, q⟩
    | ex e => exact ⟨_, ρ2, un, q⟩
theorem Rn_for {src : EM (List T)} {g : T → Env → Option Env} {b : SM} (I : List T → Nat → Env → Prop) (h : Re src ρ fun ts ρ1 => I ts 0 ρ1 ∧
    (∀ i t ρ, ts[i]? = some t → I ts i ρ → ∃ ρ1, g t ρ = some ρ1 ∧ Rn b ρ1 (turnR (I ts (i + 1)) Φ)) ∧ (∀ ρ, I ts ts.length ρ → Φ .nx ρ)) : Rn (sE src (fGo g b)) ρ Φ := by
  obtain ⟨ts, ρ1, e, h0, h1, h2⟩ := h
  refine Rn_E ⟨ts, ρ1, e, ?_⟩
  exact Rn_go (I ts) 0 h0 (fun i t ρ ht hi => by
    rw [Nat.zero_add] at hi ⊢
    exact h1 i t ρ ht hi) fun ρ h => h2 ρ (by rw [Nat.zero_add] at h; exact h)
theorem Rn_wh {c : EM Bool} {b : SM} : ∀ (n : Nat) (I : Nat → Env → Prop) {m : Nat} {ρ : Env}, m < n → I m ρ →
    (∀ m ρ, I m ρ → Re c ρ fun k ρ1 => (k = false → Φ .nx ρ1) ∧ (k = true → Rn b ρ1 (turnR (fun ρ2 => ∃ m', m' < m ∧ I m' ρ2) Φ))) → Rn (fWh c b n) ρ Φ
  | 0, I, m, ρ, hm, _, _ => absurd hm (by omega)
  | n + 1, I, m, ρ, hm, h0, h => by
    obtain ⟨k, ρ1, e, q1, q2⟩ := h m ρ h0
    refine Rn_E ⟨k, ρ1, e, ?_⟩
    cases k with
    | false => exact ⟨.nx, ρ1, rfl, q1 rfl⟩
    | true =>
      obtain ⟨o, ρ2, e2, q⟩ := q2 rfl
      have un : (fun ρ => (b ρ).bind (lk (fWh c b n))) ρ1 = lk (fWh c b n) (o, ρ2) := by
        show (b ρ1).bind (lk (fWh c b n)) = _
        rw [e2]
        rfl
      have next : (∃ m', m' < m ∧ I m' ρ2) → Rn (fWh c b n) ρ2 Φ := fun ⟨m', hm', hi⟩ => Rn_wh n I (by omega) hi h
      show Rn (fun ρ => (b ρ).bind (lk (fWh c b n))) ρ1 Φ
      cases o with
      | nx =>
        obtain ⟨o3, ρ3, e3, q3⟩ := next q
        exact ⟨o3, ρ3, un.trans e3, q3⟩
      | ct =>
        obtain ⟨o3, ρ3, e3, q3⟩ := next q
        exact ⟨o3, ρ3, un.trans e3, q3⟩
      | bk => exact ⟨.nx, ρ2, un, q⟩
      | rt t => exact ⟨_, ρ2, un, q⟩
      | ex e => exact ⟨_, ρ2, un, q⟩
theorem Re_lift {f : Env → Option α} {Φ : α → Env → Prop} {a : α} (e : f ρ = some a) (q : Φ a ρ) : Re (liftO f) ρ Φ := ⟨a, ρ, by unfold liftO; rw [e]; rfl, q⟩
theorem Re_b {f : EM α} {g : α → EM β} {Φ : β → Env → Prop} (h : Re f ρ fun a ρ1 => Re (g a) ρ1 Φ) : Re (bE f g) ρ Φ := by
  obtain ⟨a, ρ1, e, b, ρ2, e2, q⟩ := h
  refine ⟨b, ρ2, ?_, q⟩
  unfold bE
  rw [e]
  exact e2
theorem Re_r {o : Option α} {Φ : α → Env → Prop} {a : α} (e : o = some a) (q : Φ a ρ) : Re (rE o) ρ Φ := ⟨a, ρ, by unfold rE; rw [e]; rfl, q⟩
theorem Re_is {f : EM α} {Φ : α → Env → Prop} {a : α} {ρ1 : Env} (e : f ρ = some (.ok a, ρ1)) (q : Φ a ρ1) : Re f ρ Φ := ⟨a, ρ1, e, q⟩
theorem Re_test {f : EM T} {Φ : Bool → Env → Prop} (h : Re f ρ fun t ρ1 => ∃ b, t = .at (.bl b) ∧ Φ b ρ1) : Re (fTest f) ρ Φ := Re_b (h.mono fun t ρ1 ⟨b, e, q⟩ => Re_r (by rw [e]; rfl) q)
theorem Re_not {f : EM Bool} {Φ : Bool → Env → Prop} (h : Re f ρ fun b ρ1 => Φ (!b) ρ1) : Re (fNot f) ρ Φ := Re_b (h.mono fun t ρ1 q => Re_r rfl q)
theorem Re_val {f : EM Bool} {Φ : T → Env → Prop} (h : Re f ρ fun b ρ1 => Φ (.at (.bl b)) ρ1) : Re (fVal f) ρ Φ := Re_b (h.mono fun t ρ1 q => Re_r rfl q)
theorem Re_if {c : EM Bool} {f g : EM α} {Φ : α → Env → Prop} (h : Re c ρ fun b ρ1 => (b = true → Re f ρ1 Φ) ∧ (b = false → Re g ρ1 Φ)) : Re (fIf c f g) ρ Φ := Re_b (h.mono fun b ρ1 q => by
  cases b with
  | true => exact q.1 rfl
  | false => exact q.2 rfl)
theorem Re_2V {fa fb : EM T} {g : T → T → Option T} {Φ : T → Env → Prop} (h : Re fa ρ fun t ρ1 => Re fb ρ1 fun u ρ2 => ∃ x, g t u = some x ∧ Φ x ρ2) : Re (f2V fa fb g) ρ Φ := Re_b (h.mono fun t ρ1 h => Re_b (h.mono fun u ρ2 ⟨x, e, q⟩ => Re_r e q))
theorem Re_VP {fa : EM T} {fb : Env → Option T} {g : T → T → Option T} {Φ : T → Env → Prop} (h : Re fa ρ fun t ρ1 => ∃ u x, fb ρ1 = some u ∧ g t u = some x ∧ Φ x ρ1) : Re (fVP fa fb g) ρ Φ := Re_b (h.mono fun t ρ1 ⟨u, x, e1, e2, q⟩ => ⟨x, ρ1, by
  show ((fb ρ1).bind fun u => (g t u).map fun t' => ((Except.ok t', ρ1) : Except Ex T × Env)) = _
  rw [e1]
  show (g t u).map (fun t' => ((Except.ok t', ρ1) : Except Ex T × Env)) = _
  rw [e2]
  rfl, q⟩)
theorem Re_SV {i : Nat} {fb : EM T} {g : T → T → Option T} {Φ : T → Env → Prop} {t0 : T} (e0 : fVar i ρ = some t0) (h : Re fb ρ fun u ρ1 => ∃ t x, fVar i ρ1 = some t ∧ g t u = some x ∧ Φ x ρ1) : Re (fSV i fb g) ρ Φ := by
  obtain ⟨u, ρ1, e, t, x, e1, e2, q⟩ := h
  refine ⟨x, ρ1, ?_, q⟩
  unfold fSV
  rw [e0]
  show bE fb (fun u ρ => (fVar i ρ).bind fun t => (g t u).map fun t' => (.ok t', ρ)) ρ = _
  unfold bE
  rw [e]
  show ((fVar i ρ1).bind fun t => (g t u).map fun t' => ((Except.ok t', ρ1) : Except Ex T × Env)) = _
  rw [e1]
  show (g t u).map (fun t' => ((Except.ok t', ρ1) : Except Ex T × Env)) = _
  rw [e2]
  rfl
theorem Re_nil {Φ : List T → Env → Prop} (q : Φ [] ρ) : Re fNil ρ Φ := ⟨[], ρ, rfl, q⟩
theorem Re_cons {fa : EM T} {fr : EM (List T)} {Φ : List T → Env → Prop} (h : Re fa ρ fun t ρ1 => Re fr ρ1 fun ts ρ2 => Φ (t :: ts) ρ2) : Re (fCons fa fr) ρ Φ := Re_b (h.mono fun t ρ1 h => Re_b (h.mono fun ts ρ2 q => Re_r rfl q))
theorem Re_frz {f : EM T} {Φ : T → Env → Prop} (h : Re f ρ fun t ρ1 => canFrz t = true ∧ Φ (frz t) ρ1) : Re (fFrz f) ρ Φ := Re_b (h.mono fun t ρ1 ⟨c, q⟩ => Re_r (if_pos c) q)
theorem Re_tup {fs : EM (List T)} {Φ : T → Env → Prop} (h : Re fs ρ fun ts ρ1 => ts.length ≤ 1000 ∧ Φ (.nd .tup ts) ρ1) : Re (fTup fs) ρ Φ := Re_b (h.mono fun t ρ1 ⟨c, q⟩ => Re_r (if_pos c) q)
theorem Re_lst {fs : EM (List T)} {Φ : T → Env → Prop} (h : Re fs ρ fun ts ρ1 => ts.length ≤ 1000 ∧ Φ (.nd (.lst true) ts) ρ1) : Re (fLst fs) ρ Φ := Re_b (h.mono fun t ρ1 ⟨c, q⟩ => Re_r (if_pos c) q)
theorem Re_vCB {fs : EM (List T)} {g : List T → Option T} {Φ : T → Env → Prop} (h : Re fs ρ fun ts ρ1 => ∃ x, g ts = some x ∧ Φ x ρ1) : Re (vCB fs g) ρ Φ := Re_b (h.mono fun t ρ1 ⟨x, c, q⟩ => Re_r c q)
theorem Re_xnil {Φ : List (Sum Nat T) → Env → Prop} (q : Φ [] ρ) : Re xNil ρ Φ := ⟨[], ρ, rfl, q⟩
theorem Re_xslot {i : Nat} {fr : EM (List (Sum Nat T))} {Φ : List (Sum Nat T) → Env → Prop} {t : T} (e : fVar i ρ = some t) (h : Re fr ρ fun as ρ1 => Φ (.inl i :: as) ρ1) : Re (xSlot i fr) ρ Φ := by
  obtain ⟨as, ρ1, e1, q⟩ := h
  refine ⟨_, ρ1, ?_, q⟩
  unfold xSlot
  rw [e]
  show bE fr (fun as => rE (some (Sum.inl i :: as))) ρ = _
  unfold bE
  rw [e1]
  rfl
theorem Re_xval {fa : EM T} {fr : EM (List (Sum Nat T))} {Φ : List (Sum Nat T) → Env → Prop} (h : Re fa ρ fun t ρ1 => Re fr ρ1 fun as ρ2 => Φ (.inr t :: as) ρ2) : Re (xVal fa fr) ρ Φ := Re_b (h.mono fun t ρ1 h => Re_b (h.mono fun ts ρ2 q => Re_r rfl q))
theorem Re_call {fa : EM (List (Sum Nat T))} {G : Fn} {Φ : T → Env → Prop} (h : Re fa ρ fun as ρ1 => ∃ ts ρ2, fill as ρ1 = some (ts, ρ2) ∧ Rg G ts fun t ts' => ∃ ρ3, unfill as ts' ρ2 = some ρ3 ∧ Φ t ρ3) : Re (bE fa (callG G)) ρ Φ := Re_b (h.mono fun as ρ1 ⟨ts, ρ2, e1, t, ts', e2, ρ3, e3, q⟩ => ⟨t, ρ3, by
  unfold callG
  rw [e1]
  show ((G ts).bind fun y => (unfill as y.2 ρ2).map fun ρ' => (y.1, ρ')) = _
  rw [e2]
  show (unfill as ts' ρ2).map (fun ρ' => ((Except.ok t, ρ') : Except Ex T × Env)) = _
  rw [e3]
  rfl, q⟩)
theorem Re_bm {ty : String} {g : Nk → List T → List T → Option (T × Nk × List T)} {i : Nat} {fa : EM (List T)} {Φ : T → Env → Prop} {t0 : T} (e0 : fVar i ρ = some t0) (h0 : isTy ty t0 = true) (h : Re fa ρ fun us ρ1 => ∃ k ts x, getE ρ1 i [] = some (.nd k ts) ∧ g k ts us = some x ∧ Φ x.1 (setE ρ1 i [] (.nd x.2.1 x.2.2))) : Re (fBm ty g i fa) ρ Φ := by
  obtain ⟨us, ρ1, e, k, ts, x, e1, e2, q⟩ := h
  refine ⟨_, _, ?_, q⟩
  unfold fBm
  rw [e0]
  show (if isTy ty t0 = true then bE fa (fun us => chg g i [] us) ρ else none) = _
  rw [if_pos h0]
  unfold bE
  rw [e]
  show chg g i [] us ρ1 = _
  unfold chg
  rw [e1]
  show (g k ts us).map (fun x => ((Except.ok x.1, setE ρ1 i [] (.nd x.2.1 x.2.2)) : Except Ex T × Env)) = _
  rw [e2]
  rfl
/-- a comprehension, by what holds of what is made so far -/
theorem Re_golc {vs : List Nat} {g : T → Env → Option Env} {ft : EM Bool} {fe : EM T} {Φ : List T → Env → Prop} : ∀ {ts acc : List T} {ρ : Env} (I : Nat → List T → Env → Prop) (n : Nat), I n acc ρ →
    (∀ i t acc ρ, ts[i]? = some t → I (n + i) acc ρ → ∃ ρ1, g t (wipeT ρ vs) = some ρ1 ∧ Re ft ρ1 fun b ρ2 => (b = false → I (n + i + 1) acc ρ2) ∧ (b = true → Re fe ρ2 fun y ρ3 => acc.length < 1000 ∧ I (n + i + 1) (acc ++ [y]) ρ3)) →
    (∀ acc ρ, I (n + ts.length) acc ρ → Φ acc ρ) → ∃ acc' ρ', goLc vs g ft fe ts acc ρ = some (acc', ρ') ∧ Φ acc' ρ'
  | [], acc, ρ, I, n, h0, _, h2 => ⟨acc, ρ, rfl, h2 acc ρ h0⟩
  | t :: ts, acc, ρ, I, n, h0, h1, h2 => by
    obtain ⟨ρ1, e1, b, ρ2, e2, q1, q2⟩ := h1 0 t acc ρ rfl h0
    have step : ∀ acc2 ρ3, I (n + 0 + 1) acc2 ρ3 → ∃ acc' ρ', goLc vs g ft fe ts acc2 ρ3 = some (acc', ρ') ∧ Φ acc' ρ' := fun acc2 ρ3 h => Re_golc I (n + 1) h (fun i u acc ρ hu hi => by
      have := h1 (i + 1) u acc ρ (by simpa using hu) (by rw [show n + (i + 1) = n + 1 + i from by omega]; exact hi)
      rw [show n + (i + 1) = n + 1 + i from by omega] at this
      exact this) fun acc ρ h => h2 acc ρ (by rw [List.length_cons, show n + (ts.length + 1) = n + 1 + ts.length from by omega]; exact h)
    have un : goLc vs g ft fe (t :: ts) acc ρ = (if b = true then oB fe (fun y ρ2 => if acc.length < 1000 then goLc vs g ft fe ts (acc ++ [y]) ρ2 else none) else fun ρ2 => goLc vs g ft fe ts acc ρ2) ρ2 := by
      show (g t (wipeT ρ vs)).bind (oB ft fun b => if b = true then oB fe fun y ρ2 => if acc.length < 1000 then goLc vs g ft fe ts (acc ++ [y]) ρ2 else none else fun ρ2 => goLc vs g ft fe ts acc ρ2) = _
      rw [e1]
      show oB ft _ ρ1 = _
      unfold oB
      rw [e2]
      rfl
    rw [un]
    cases b with
    | false => exact step acc ρ2 (q1 rfl)
    | true =>
      obtain ⟨y, ρ3, e3, hl, q3⟩ := q2 rfl
      show ∃ acc' ρ', oB fe (fun y ρ2 => if acc.length < 1000 then goLc vs g ft fe ts (acc ++ [y]) ρ2 else none) ρ2 = some (acc', ρ') ∧ Φ acc' ρ'
      unfold oB
      rw [e3]
      show ∃ acc' ρ', (if acc.length < 1000 then goLc vs g ft fe ts (acc ++ [y]) ρ3 else none) = some (acc', ρ') ∧ Φ acc' ρ'
      rw [if_pos hl]
      exact step _ ρ3 q3
theorem Re_lc {src : EM (List T)} {vs : List Nat} {g : T → Env → Option Env} {ft : EM Bool} {fe : EM T} {Φ : T → Env → Prop} (I : List T → Nat → List T → Env → Prop) (h : Re src ρ fun ts ρ1 => lent ρ1 vs = true ∧ I ts 0 [] ρ1 ∧
    (∀ i t acc ρ, ts[i]? = some t → I ts i acc ρ → ∃ ρ1, g t (wipeT ρ vs) = some ρ1 ∧ Re ft ρ1 fun b ρ2 => (b = false → I ts (i + 1) acc ρ2) ∧ (b = true → Re fe ρ2 fun y ρ3 => acc.length < 1000 ∧ I ts (i + 1) (acc ++ [y]) ρ3)) ∧
    (∀ acc ρ, I ts ts.length acc ρ → Φ (.nd (.lst true) acc) (lend ρ1 ρ vs))) : Re (fLc src vs g ft fe) ρ Φ := Re_b (h.mono fun ts ρ1 ⟨hl, h0, h1, h2⟩ => by
  obtain ⟨acc, ρ2, e, q⟩ := Re_golc (Φ := fun acc ρ => Φ (.nd (.lst true) acc) (lend ρ1 ρ vs)) (I ts) 0 h0 (fun i t acc ρ ht hi => by
    rw [Nat.zero_add] at hi ⊢
    exact h1 i t acc ρ ht hi) fun acc ρ h => h2 acc ρ (by rw [Nat.zero_add] at h; exact h)
  refine ⟨_, _, ?_, q⟩
  show (if lent ρ1 vs = true then (goLc vs g ft fe ts [] ρ1).map fun x => ((Except.ok (T.nd (.lst true) x.1), lend ρ1 x.2 vs) : Except Ex T × Env) else none) = _
  rw [if_pos hl, e]
  rfl)
theorem Rg_of {n np : Nat} {ra : Bool} {f : SM} {ts : List T} {Φ : T → List T → Prop} (hl : ts.length = np) (h : Rn f (ts ++ List.replicate (n - np) .hole) fun o ρ => match o with
  | .rt t => Φ t (ρ.take np)
  | .nx => Φ (.at .non) (ρ.take np)
  | _ => False) : Rg (bodyG ra n np f) ts Φ := by
  obtain ⟨o, ρ, e, q⟩ := h
  unfold Rg bodyG
  rw [if_pos hl, e]
  cases o with
  | nx => exact ⟨_, _, rfl, q⟩
  | rt t => exact ⟨_, _, rfl, q⟩
  | bk => exact q.elim
  | ct => exact q.elim
  | ex _ => exact q.elim
end
end TV
/-! Dicts. -/
namespace TV
open PySem L2
section
variable {K : PySem.W.Frag} {B : Tabs} {E : XK} {P : Nat → Prop}
def keyT : T → Option Key
  | .at (.int i) => some (.inl i)
  | .at (.str s) => some (.inr s)
  | _ => none
theorem keyT_ok {t : T} {k : Key} (h : keyT t = some k) : t = .at (kV k) := by
  cases t with
  | «at» v => cases v <;> first | (cases h; rfl) | cases h
  | hole => cases h
  | nd k ts => cases h
def keysT : List T → Option (List Key)
  | [] => some []
  | t :: ts => (keyT t).bind fun k => (keysT ts).map fun ks => k :: ks
theorem keysT_ok : ∀ {ts : List T} {ks : List Key}, keysT ts = some ks → ts = ks.map fun k => T.at (kV k)
  | [], _, h => by cases h; rfl
  | t :: ts, ks, h => by
    have h : ((keyT t).bind fun k => (keysT ts).map fun ks => k :: ks) = some ks := h
    obtain ⟨k, c, h⟩ := bind2 (γ := Unit) h
    cases c2 : keysT ts with
    | none => rw [c2] at h; cases h
    | some us =>
      rw [c2] at h
      cases h
      rw [keyT_ok c, keysT_ok c2]
      rfl
theorem RepL.keys {Z : AS} {H : Hp} : ∀ {ks : List Key} {vs : List V} {F : AS}, RepL K Z H (ks.map fun k => T.at (kV k)) vs F → vs = ks.map kV
  | [], _, _, .nil => rfl
  | k :: ks, _, _, .cons h1 h2 _ => by
    obtain ⟨rfl, _⟩ := h1.at_eq
    rw [RepL.keys h2]
    rfl
section
variable {κ : Type} [DecidableEq κ]
def ixk : List κ → κ → Option Nat
  | [], _ => none
  | k' :: ks, k => if k' = k then some 0 else (ixk ks k).map (· + 1)
theorem valV_zip {k : κ} : ∀ {ks : List κ} {vs : List V}, vs.length = ks.length → valV (ks.zip vs) k = (ixk ks k).bind fun j => vs[j]?
  | [], [], _ => rfl
  | [], _ :: _, e => by simp at e
  | _ :: _, [], e => by simp at e
  | k' :: ks, v :: vs, e => by
    rw [List.zip_cons_cons]
    unfold ixk
    by_cases c : k' = k
    · rw [valV_pos c, if_pos c]
      rfl
    · rw [valV_neg c, if_neg c, valV_zip (by simpa using e)]
      cases ixk ks k <;> rfl
theorem ixk_none {k : κ} : ∀ {ks : List κ}, ixk ks k = none → k ∉ ks
  | [], _ => by simp
  | k' :: ks, h => by
    unfold ixk at h
    split at h
    · cases h
    · rename_i c
      cases q : ixk ks k with
      | none => exact fun z => (List.mem_cons.mp z).elim (fun e => c e.symm) (ixk_none q)
      | some i => rw [q] at h; cases h
theorem idxOf_some {k : κ} : ∀ {ks : List κ} {j : Nat}, ixk ks k = some j → ks[j]? = some k
  | [], _, h => by cases h
  | k' :: ks, j, h => by
    unfold ixk at h
    split at h
    · rename_i c
      cases h
      rw [c]
      rfl
    · cases q : ixk ks k with
      | none => rw [q] at h; cases h
      | some i =>
        rw [q] at h
        cases h
        simpa using idxOf_some q
theorem putK_old {k : κ} {v : V} : ∀ {ks : List κ} {vs : List V} {j : Nat}, vs.length = ks.length → ks.Nodup → ixk ks k = some j → putK (ks.zip vs) k v = ks.zip (vs.set j v) := fun {ks vs j} hl nd h => by
  have hm : k ∈ ks := List.mem_of_getElem? (idxOf_some h)
  have ha : ((ks.zip vs).any fun kv => decide (kv.1 = k)) = true := by
    rw [List.any_eq_true]
    have : k ∈ (ks.zip vs).map Prod.fst := by rw [List.map_fst_zip (by omega)]; exact hm
    obtain ⟨p, hp, e⟩ := List.mem_map.mp this
    exact ⟨p, hp, decide_eq_true e⟩
  unfold putK
  rw [if_pos ha]
  clear ha hm
  induction ks generalizing vs j with
  | nil => cases h
  | cons k' ks ih =>
    cases vs with
    | nil => simp at hl
    | cons x vs =>
      unfold ixk at h
      obtain ⟨n1, n2⟩ := List.nodup_cons.mp nd
      by_cases c : k' = k
      · subst c
        rw [if_pos rfl] at h
        cases h
        rw [List.zip_cons_cons, List.map_cons, if_pos rfl]
        show _ = (k', v) :: ks.zip vs
        congr 1
        have : ∀ {l : List (κ × V)}, k' ∉ l.map Prod.fst → (l.map fun kv => if kv.1 = k' then (kv.1, v) else kv) = l := fun {l} hn => by
          induction l with
          | nil => rfl
          | cons y l ih2 =>
            rw [List.map_cons, List.mem_cons, not_or] at hn
            rw [List.map_cons, if_neg (fun z => hn.1 z.symm), ih2 hn.2]
        refine this ?_
        rw [List.map_fst_zip (by simp at hl; omega)]
        exact n1
      · rw [if_neg c] at h
        cases q : ixk ks k with
        | none => rw [q] at h; cases h
        | some i =>
          rw [q] at h
          cases h
          rw [List.zip_cons_cons, List.map_cons, if_neg c, ih (by simpa using hl) n2 q]
          rfl
theorem putK_fresh {k : κ} {v : V} {ks : List κ} {vs : List V} (hl : vs.length = ks.length) (h : ixk ks k = none) : putK (ks.zip vs) k v = (ks ++ [k]).zip (vs ++ [v]) := by
  have hm := ixk_none h
  have ha : ¬ ((ks.zip vs).any fun kv => decide (kv.1 = k)) = true := fun z => by
    rw [List.any_eq_true] at z
    obtain ⟨p, hp, e⟩ := z
    exact hm (by rw [← of_decide_eq_true e]; exact (List.of_mem_zip hp).1)
  unfold putK
  rw [if_neg ha, List.zip_append hl.symm]
  rfl
end
/-- the dict's entry of a key -/
theorem dget_ok {Z G1 G2 : AS} {H : Hp} {t k : T} {x y : V} {r : Option T} (rt : Rep K Z H t x G1) (rk : Rep K Z H k y G2)
    (h : (∃ m ks ts k', t = .nd (.dk m ks) ts ∧ keyT k = some k' ∧ r = (ixk ks k').bind fun j => ts[j]?) ∨ ∃ m ks ts us k', t = .nd (.dt m ks) ts ∧ k = .nd .tup us ∧ keysT us = some k' ∧ r = (ixk ks k').bind fun j => ts[j]?) :
    ∃ a o, x = .ref a ∧ DGet H a y o ∧ ((r = none ∧ o = none) ∨ ∃ u v G, r = some u ∧ o = some v ∧ Rep K Z H u v G ∧ ∀ b, G b → G1 b) := by
  rcases h with ⟨m, ks, ts, k', rfl, hk, rfl⟩ | ⟨m, ks, ts, us, k', rfl, rfl, hk, rfl⟩
  · cases rt with
    | @nd _ _ a vs Fc ho hl hn =>
      obtain ⟨hl2, ha, _, nd⟩ := ho
      cases keyT_ok hk
      obtain ⟨rfl, _⟩ := rk.at_eq
      refine ⟨a, (ixk ks k').bind fun j => vs[j]?, rfl, .inl ⟨_, k', .inl ha, rfl, (valV_zip hl2).symm⟩, ?_⟩
      cases c : ixk ks k' with
      | none => exact .inl ⟨rfl, rfl⟩
      | some j =>
        right
        have jl := (List.getElem?_eq_some_iff.mp (idxOf_some c)).1
        have tl : j < ts.length := by rw [hl.length, hl2]; exact jl
        obtain ⟨v, G, hv, rv, sv⟩ := hl.get (List.getElem?_eq_getElem tl)
        exact ⟨_, v, G, List.getElem?_eq_getElem tl, hv, rv, fun b g => put_r b (sv b g)⟩
  · cases rt with
    | @nd _ _ a vs Fc ho hl hn =>
      obtain ⟨hl2, ha, _, nd⟩ := ho
      cases rk with
      | @nd _ _ b ws Fk hob hlk hnk =>
        cases keysT_ok hk
        have ew := hlk.keys
        subst ew
        refine ⟨a, (ixk ks k').bind fun j => vs[j]?, rfl, .inr ⟨_, k', b, .inl ha, rfl, hob, (valV_zip hl2).symm⟩, ?_⟩
        cases c : ixk ks k' with
        | none => exact .inl ⟨rfl, rfl⟩
        | some j =>
          right
          have jl := (List.getElem?_eq_some_iff.mp (idxOf_some c)).1
          have tl : j < ts.length := by rw [hl.length, hl2]; exact jl
          obtain ⟨v, G, hv, rv, sv⟩ := hl.get (List.getElem?_eq_getElem tl)
          exact ⟨_, v, G, List.getElem?_eq_getElem tl, hv, rv, fun b g => put_r b (sv b g)⟩
/-- the entry's tree, if there is one -/
def entT (t k : T) : Option (Option T) := match t with
  | .nd (.dk _ ks) ts => (keyT k).map fun k => (ixk ks k).bind fun j => ts[j]?
  | .nd (.dt _ ks) ts => match k with
    | .nd .tup us => (keysT us).map fun k => (ixk ks k).bind fun j => ts[j]?
    | _ => none
  | _ => none
theorem entT_ok {t k : T} {r : Option T} (h : entT t k = some r) : (∃ m ks ts k', t = .nd (.dk m ks) ts ∧ keyT k = some k' ∧ r = (ixk ks k').bind fun j => ts[j]?) ∨ ∃ m ks ts us k', t = .nd (.dt m ks) ts ∧ k = .nd .tup us ∧ keysT us = some k' ∧ r = (ixk ks k').bind fun j => ts[j]? := by
  unfold entT at h
  split at h
  · rename_i m ks ts
    cases c : keyT k with
    | none => rw [c] at h; cases h
    | some k' => rw [c] at h; cases h; exact .inl ⟨_, _, _, k', rfl, rfl, rfl⟩
  · rename_i m ks ts
    split at h
    · rename_i us
      cases c : keysT us with
      | none => rw [c] at h; cases h
      | some k' => rw [c] at h; cases h; exact .inr ⟨_, _, _, _, k', rfl, rfl, c, rfl⟩
    · cases h
  · cases h
def gDG (t k : T) : Option T := (entT t k).bind id
theorem pj_dget {td tk : TE} {fd fk : Env → Option T} (hd : PJ K B td fd) (hk : PJ K B tk fk) : PJ K B (tDGet td tk) (f2 fd fk gDG) := fun Z H σ ρ F t' rs o e Q q => by
  obtain ⟨t, u, e1, e2, e3⟩ := f2_ok e
  refine hd Z H σ ρ F t rs o e1 _ fun x H1 Z1 G1 a1 s1 d1 r1 => ?_
  have rs1 := rs.pst o a1
  have o1 := (a1.env o rs.no).ok
  refine hk Z1 H1 σ ρ F u rs1 o1 e2 _ fun y H2 Z2 G2 a2 s2 d2 r2 => ?_
  have r1' := r1.pst o1.non a2
  unfold gDG at e3
  obtain ⟨r, c, e3⟩ := bind2 (γ := Unit) e3
  have e3 : r = some t' := e3
  subst e3
  obtain ⟨a, ov, rfl, dg, h | ⟨u', v, G, h1, h2, h3, h4⟩⟩ := dget_ok r1' r2 (entT_ok c)
  · cases h.1
  · cases h1
    subst h2
    exact ⟨a, v, rfl, dg, q v H2 Z2 G (a1.trans a2) (fun b g => s1 b (h4 b g)) (fun b g => d1.pst a2 (fun x g => r1.no g) b (h4 b g)) h3⟩
/-- of a new dict -/
theorem vj_dget {td tk : TE} {fd : EM T} {fk : Env → Option T} (hd : VJ K B E td fd) (hk : PJ K B tk fk) : VJ K B E (tDGet td tk) (fVP fd fk gDG) := fun Z H σ ρ F r ρ' rs o e Q q qe => by
  rcases bE_ok e with ⟨t, ρ1, e1, e⟩ | ⟨x, e1, rfl⟩
  · refine hd Z H σ ρ F _ ρ1 rs o e1 _ (fun t1 et x H1 Z1 G1 F1 s1 d1 r1 rs1 => ?_) fun x ex => by cases ex
    cases et
    have o1 := s1.ok.sub (G := F1) fun a z => .inr z
    obtain ⟨u, c2, e⟩ := bind2 (γ := Unit) e
    cases c3 : gDG t u with
    | none => simp only [c3] at e; cases e
    | some t' =>
      simp only [c3] at e
      cases e
      refine hk Z1 H1 σ _ F1 u rs1 o1 c2 _ fun y H2 Z2 G2 a2 s2 d2 r2 => ?_
      have r1' := r1.pst o1.non a2
      have sp := a2.env s1.ok fun a z => z.elim (fun z => r1.no z) (rs1.no a)
      unfold gDG at c3
      obtain ⟨r, c, e3⟩ := bind2 (γ := Unit) c3
      have e3 : r = some t' := e3
      subst e3
      obtain ⟨a, ov, rfl, dg, h | ⟨u', v, G, h1, h2, h3, h4⟩⟩ := dget_ok r1' r2 (entT_ok c)
      · cases h.1
      · cases h1
        subst h2
        exact ⟨a, v, rfl, dg, q _ rfl v H2 Z2 G F1 ((s1.trans sp).less fun b z => z.imp (h4 b) id) (fun b g f => d1 b (h4 b g) f) h3 (rs1.pst o1 a2)⟩
  · refine hd Z H σ ρ F _ ρ' rs o e1 _ (fun t1 et => by cases et) fun x' ex d H1 Z1 F1 s1 rs1 xo => ?_
    cases ex
    exact qe x rfl d H1 Z1 F1 s1 rs1 xo
/-- k in d -/
def gDIn (neg : Bool) (k t : T) : Option T := (entT t k).map fun r => .at (.bl (if neg = true then !r.isSome else r.isSome))
theorem fj_din {td tk : TE} {fd fk : Env → Option T} (hk : PJ K B tk fk) (hd : PJ K B td fd) : FJ K B (tDIn tk td) (f2 fk fd (gDIn false)) := fun Z H σ ρ F t' rs o e Q q => by
  obtain ⟨u, t, e1, e2, e3⟩ := f2_ok e
  refine hk Z H σ ρ F u rs o e1 _ fun x H1 Z1 G1 a1 s1 d1 r1 => ?_
  have rs1 := rs.pst o a1
  have o1 := (a1.env o rs.no).ok
  refine hd Z1 H1 σ ρ F t rs1 o1 e2 _ fun y H2 Z2 G2 a2 s2 d2 r2 => ?_
  have r1' := r1.pst o1.non a2
  unfold gDIn at e3
  cases c : entT t u with
  | none => rw [c] at e3; cases e3
  | some r =>
    rw [c] at e3
    cases e3
    obtain ⟨a, ov, rfl, dg, h⟩ := dget_ok r2 r1' (entT_ok c)
    refine ⟨a, ov, rfl, dg, ?_⟩
    have es : ov.isSome = r.isSome := by
      rcases h with ⟨rfl, rfl⟩ | ⟨u', v, G, rfl, rfl, _⟩ <;> rfl
    rw [es]
    exact q _ H2 Z2 non (a1.trans a2) (fun _ z => z.elim) Dj.non' (.at rfl)
theorem fj_dinN {td tk : TE} {fd fk : Env → Option T} (hk : PJ K B tk fk) (hd : PJ K B td fd) : FJ K B (tDNotIn tk td) (f2 fk fd (gDIn true)) := fun Z H σ ρ F t' rs o e Q q => by
  obtain ⟨u, t, e1, e2, e3⟩ := f2_ok e
  refine hk Z H σ ρ F u rs o e1 _ fun x H1 Z1 G1 a1 s1 d1 r1 => ?_
  have rs1 := rs.pst o a1
  have o1 := (a1.env o rs.no).ok
  refine hd Z1 H1 σ ρ F t rs1 o1 e2 _ fun y H2 Z2 G2 a2 s2 d2 r2 => ?_
  have r1' := r1.pst o1.non a2
  unfold gDIn at e3
  cases c : entT t u with
  | none => rw [c] at e3; cases e3
  | some r =>
    rw [c] at e3
    cases e3
    obtain ⟨a, ov, rfl, dg, h⟩ := dget_ok r2 r1' (entT_ok c)
    refine ⟨a, ov, rfl, dg, ?_⟩
    have es : ov.isSome = r.isSome := by
      rcases h with ⟨rfl, rfl⟩ | ⟨u', v, G, rfl, rfl, _⟩ <;> rfl
    rw [es]
    exact q _ H2 Z2 non (a1.trans a2) (fun _ z => z.elim) Dj.non' (.at rfl)
/-- new dicts -/
theorem newDict {Z : AS} {H : Hp} {k : Nk} {o : HO} (ob : Ok B Z non H) {p : Addr} (np : H p = none) (hk : own k = true) (ho : HasObj K Z (upd H p o) p k []) {Q : VK}
    (q : ∀ v H' Z' G, Pst B Z H Z' H' → (∀ a, G a → H a = none) → Dj G Z' → Rep K Z' H' (.nd k []) v G → Q v H') : Q (.ref p) (upd H p o) := by
  have s2 : Pst B Z H Z (upd H p o) := Stp.new0 ob np fun _ z => z.elim
  have r3 := Rep.nd (k := k) (a := p) (K := K) (Z := Z) (H := upd H p o) ho .nil fun _ z => z
  have ep : put k p non = one p := by unfold put; rw [if_pos hk, uni_non]
  rw [ep] at r3
  have zp : ¬ Z p := fun z => by
    obtain ⟨u, hu, _⟩ := ob.zal p z
    rw [np] at hu; cases hu
  exact q (.ref p) _ Z (one p) s2 (fun a z => by rw [show a = p from z]; exact np) (fun a z y => zp (by rw [← show a = p from z]; exact y)) r3
abbrev fDnew : Env → Option T := fun _ => some (.nd (.dk true []) [])
abbrev fDnewT : Env → Option T := fun _ => some (.nd (.dt true []) [])
theorem fj_dnew : FJ K B tDNewK fDnew := fun Z H σ ρ F t' rs o e Q q => by
  cases e
  exact fun p np => newDict (k := .dk true []) o.non np rfl ⟨rfl, upd_same, (fun z => by cases z), List.nodup_nil⟩ q
theorem fj_dnewT : FJ K B tDNewT fDnewT := fun Z H σ ρ F t' rs o e Q q => by
  cases e
  exact fun p np => newDict (k := .dt true []) o.non np rfl ⟨rfl, upd_same, (fun z => by cases z), List.nodup_nil⟩ q
end
end TV
/-! More of dicts; attributes given values; tuples joined; numbered walks; errors raised. -/
namespace TV
open PySem L2
section
variable {K : PySem.W.Frag} {B : Tabs} {E : XK} {P : Nat → Prop}
/-- d.get(k, e) -/
def fDGet2 (fd fk fe : Env → Option T) : Env → Option T := fun ρ => (fd ρ).bind fun t => (fk ρ).bind fun k => (fe ρ).bind fun e => (entT t k).map fun r => r.getD e
theorem pj_dget2 {td tk te : TE} {fd fk fe : Env → Option T} (hd : PJ K B td fd) (hk : PJ K B tk fk) (he : FJ K B te fe) : PJ K B (tDGet2 td tk te) (fDGet2 fd fk fe) := fun Z H σ ρ F t' rs o e Q q => by
  unfold fDGet2 at e
  obtain ⟨t, e1, e⟩ := bind2 (γ := Unit) e
  obtain ⟨k, e2, e⟩ := bind2 (γ := Unit) e
  obtain ⟨d, e3, e⟩ := bind2 (γ := Unit) e
  cases c : entT t k with
  | none => rw [c] at e; cases e
  | some r =>
    rw [c] at e
    cases e
    refine hd Z H σ ρ F t rs o e1 _ fun x H1 Z1 G1 a1 s1 d1 r1 => ?_
    have rs1 := rs.pst o a1
    have o1 := (a1.env o rs.no).ok
    have isd : ∃ a, x = .ref a ∧ IsD H1 a := by
      have z := entT_ok c
      rcases z with ⟨m, ks, ts, k', rfl, _⟩ | ⟨m, ks, ts, us, k', rfl, _⟩
      · cases id r1 with
        | @nd _ _ a vs Fc ho _ _ => exact ⟨a, rfl, .inl ⟨_, .inl ho.2.1⟩⟩
      · cases id r1 with
        | @nd _ _ a vs Fc ho _ _ => exact ⟨a, rfl, .inr ⟨_, .inl ho.2.1⟩⟩
    obtain ⟨a, rfl, hisd⟩ := isd
    refine ⟨a, rfl, hisd, hk Z1 H1 σ ρ F k rs1 o1 e2 _ fun y H2 Z2 G2 a2 s2 d2 r2 => ?_⟩
    have r1' := r1.pst o1.non a2
    have rs2 := rs1.pst o1 a2
    have o2 := (a2.env o1 rs1.no).ok
    refine he Z2 H2 σ ρ F d rs2 o2 e3 _ fun z H3 Z3 G3 a3 s3 d3 r3 => ?_
    have r1'' := r1'.pst o2.non a3
    have r2' := r2.pst o2.non a3
    obtain ⟨a', ov, ea, dg, h⟩ := dget_ok r1'' r2' (entT_ok c)
    cases ea
    refine ⟨ov, dg, ?_⟩
    rcases h with ⟨rfl, rfl⟩ | ⟨u, v, G, rfl, rfl, rv, sv⟩
    · exact q z H3 Z3 G3 (a1.trans (a2.trans a3)) (fun b g => .inr (a1.fx.al _ (a2.fx.al _ (s3 b g)))) d3 r3
    · exact q v H3 Z3 G (a1.trans (a2.trans a3)) (fun b g => s1 b (sv b g)) (fun b g => (d1.pst a2 fun x g => r1.no g).pst a3 (fun x g => r1'.no g) b (sv b g)) rv
def gLenD : List T → Option T
  | [.nd (.dk _ _) ts] => some (.at (.int ts.length))
  | _ => none
theorem cs_lenD : CallS K B (fun xs H Q => ∃ (a : Addr) (kvs : List (Key × V)), xs = [V.ref a] ∧ H a = some (HO.dK kvs) ∧ Q (V.int ↑kvs.length) H) gLenD := fun Z H ts vs t' o pr e Q q => by
  match ts, e with
  | [.nd (.dk m ks) us], e =>
    obtain ⟨v, G, rfl, r⟩ := Paired.one' pr
    cases e
    cases r with
    | @nd _ _ a ws Fc ho hl hn =>
      obtain ⟨h1, h2, _⟩ := ho
      refine ⟨a, _, rfl, h2, ?_⟩
      have : (ks.zip ws).length = us.length := by rw [List.length_zip, hl.length, h1, Nat.min_self]
      rw [this]
      exact atom o rfl q
/-- {k: v} -/
def fDis1 (fk fv : Env → Option T) : Env → Option T := fun ρ => (fk ρ).bind fun k => (fv ρ).bind fun v => (keyT k).map fun k => .nd (.dk true [k]) [v]
theorem fj_dis1 {tk tv : TE} {fk fv : Env → Option T} (hk : PJ K B tk fk) (hv : FJ K B tv fv) : FJ K B (tDisp [(tk, tv)]) (fDis1 fk fv) := fun Z H σ ρ F t' rs o e Q q => by
  unfold fDis1 at e
  obtain ⟨k, e1, e⟩ := bind2 (γ := Unit) e
  obtain ⟨v, e2, e⟩ := bind2 (γ := Unit) e
  cases c : keyT k with
  | none => rw [c] at e; cases e
  | some k' =>
    rw [c] at e
    cases e
    intro p np
    have a0 : Pst B Z H Z (upd H p (.dK [])) := Stp.new0 o.non np fun _ z => z.elim
    have rs0 := rs.pst o a0
    have o0 := (a0.env o rs.no).ok
    have hp0 : upd H p (.dK []) p = some (.dK []) := upd_same
    have zp : ¬ Z p := fun z => by
      obtain ⟨u, hu, _⟩ := o.zal p z
      rw [np] at hu; cases hu
    generalize upd H p (.dK []) = H0 at a0 rs0 o0 hp0 ⊢
    have kp : ∀ {Z' H'}, Pst B Z H0 Z' H' → H' p = some (.dK []) := fun {Z' H'} a => a.fx.keep _ _ (fun z => z.elim id fun z => o0.amb.no z hp0 (by simp)) hp0
    show tk σ H0 _
    refine hk Z H0 σ ρ F k rs0 o0 e1 _ fun x H1 Z1 G1 a1 s1 d1 r1 => ?_
    have rs1 := rs0.pst o0 a1
    have o1 := (a1.env o0 rs0.no).ok
    cases keyT_ok c
    obtain ⟨rfl, _⟩ := r1.at_eq
    show tv σ H1 _
    refine hv Z1 H1 σ ρ F v rs1 o1 e2 _ fun y H2 Z2 G2 a2 s2 d2 r2 => ?_
    have a12 := a1.trans a2
    have hp2 := kp a12
    refine ⟨hp2, [(k', y)], rfl, by show 1 ≤ 15; decide, ?_⟩
    have em : mergeK ([] : List (Key × V)) [(k', y)] = [(k', y)] := by
      unfold mergeK
      rfl
    rw [em]
    have nG : ¬ G2 p := fun z => by
      have := a1.fx.al _ (s2 p z)
      rw [hp0] at this; cases this
    have nZ2 : ¬ Z2 p := fun z => by
      rcases a12.zn p z with z | z | z
      · exact zp z
      · exact z
      · rw [hp0] at z; cases z
    have fx : Fx (one p) H2 (upd H2 p (.dK [(k', y)])) := Fx.wr hp2 rfl (by simp) (by simp) (by simp)
    have r3 := r2.wr (o := .dK [(k', y)]) hp2 (by simp) (by simp) (by simp) nG nZ2
    have rl := RepL.one r3
    have r4 := Rep.nd (k := .dk true [k']) (a := p) (K := K) (Z := Z2) (H := upd H2 p (.dK [(k', y)])) ⟨rfl, upd_same, (fun z => by cases z), by simp⟩ rl fun _ => nG
    rw [show put (.dk true [k']) p G2 = uni (one p) G2 from rfl] at r4
    have st : Stp B Z2 (one p) H2 Z2 (one p) (upd H2 p (.dK [(k', y)])) := Stp.wr ⟨fun a e z => nZ2 (by rw [← show a = p from e]; exact z), a2.ok.zal, a2.ok.amb⟩ hp2 rfl (by simp) (by simp) (by simp) (by simp)
    have s0 : Pst B Z H Z2 (upd H2 p (.dK [(k', y)])) := by
      have z := a0.trans a12
      refine ⟨⟨fun b ob n e => ?_, fun b xs e => st.fx.tup b xs (z.fx.tup b xs e), fun b ob u e => st.fx.frz b ob u (z.fx.frz b ob u e), fun b φ e => st.fx.ext b φ (z.fx.ext b φ e), fun b e => z.fx.al b (st.fx.al b e)⟩, z.zz, z.zn, z.fn, st.ok.sub fun _ z => z.elim⟩
      rw [upd_ne (ne_of_none e np)]
      exact z.fx.keep b ob n e
    exact q (.ref p) _ Z2 (uni (one p) G2) s0 (fun a z => z.elim (fun z => by rw [show a = p from z]; exact np) fun z => a0.fx.al _ (a1.fx.al _ (s2 a z))) (Dj.uni' (fun a z y => nZ2 (by rw [← show a = p from z]; exact y)) d2) r4
/-- d[k] = v -/
def putT (t k v : T) : Option T := match t with
  | .nd (.dk true ks) ts => (keyT k).bind fun k => if ks.length < 1000 then (match ixk ks k with
    | some j => some (.nd (.dk true ks) (ts.set j v))
    | none => some (.nd (.dk true (ks ++ [k])) (ts ++ [v]))) else none
  | .nd (.dt true ks) ts => match k with
    | .nd .tup us => (keysT us).bind fun k => if ks.length < 1000 then (match ixk ks k with
      | some j => some (.nd (.dt true ks) (ts.set j v))
      | none => some (.nd (.dt true (ks ++ [k])) (ts ++ [v]))) else none
    | _ => none
  | _ => none
def sDPutT (fv : EM T) (pf : Env → Option (Nat × List Nat)) (fk : Env → Option T) : SM := sE fv fun v ρ => (pf ρ).bind fun x => (getE ρ x.1 x.2).bind fun t => (fk ρ).bind fun k => (putT t k v).map fun t' => (.nx, setE ρ x.1 x.2 t')
/-- what is put: the heap and the trees -/
theorem put_ok {Z Fc Gv : AS} {H : Hp} {a : Addr} {k : Nk} {ts : List T} {vs : List V} {v t' kt : T} {y kx : V} {Gk : AS} (ho : HasObj K Z H a k vs) (hl : RepL K Z H ts vs Fc) (nF : ¬ Fc a) (rv : Rep K Z H v y Gv) (nG : ¬ Gv a) (dj : Dj Gv Fc) (nZ : ¬ Z a) (rk : Rep K Z H kt kx Gk) (e : putT (.nd k ts) kt v = some t') :
    own k = true ∧ ∃ k' ts' vs' Fc' o', t' = .nd k' ts' ∧ own k' = true ∧ DPut H a kx y (upd H a o') ∧ HasObj K Z (upd H a o') a k' vs' ∧ RepL K Z (upd H a o') ts' vs' Fc' ∧ ∀ b, Fc' b → Fc b ∨ Gv b := by
  have core : ∀ (o' : HO) (vs2 : List V) (j : Nat), own k = true → j < ts.length → vs2 = vs.set j y → ∃ Fc', RepL K Z (upd H a o') (ts.set j v) vs2 Fc' ∧ ∀ b, Fc' b → Fc b ∨ Gv b := fun o' vs2 j ok jl e2 => by
    obtain ⟨ob, hob, n1, n2, n3, n4⟩ := ho.owned ok
    have hl' := hl.wr (o := o') hob n1 n2 n3 nF nZ
    have rv' := rv.wr (o := o') hob n1 n2 n3 nG nZ
    obtain ⟨w, G, R, hw, r1, d1, rfl, bk⟩ := hl'.at (List.getElem?_eq_getElem jl)
    have := bk (Z' := Z) (M := non) Fx.refl (fun _ z => z) Dj.non Dj.non rv' dj.r
    rw [e2]
    exact ⟨_, this, fun b z => z.elim .inr fun z => .inl (.inr z)⟩
  have core2 : ∀ (o' : HO), own k = true → ∃ Fc', RepL K Z (upd H a o') (ts ++ [v]) (vs ++ [y]) Fc' ∧ ∀ b, Fc' b → Fc b ∨ Gv b := fun o' ok => by
    obtain ⟨ob, hob, n1, n2, n3, n4⟩ := ho.owned ok
    exact ⟨_, RepL.append (hl.wr hob n1 n2 n3 nF nZ) (RepL.one (rv.wr hob n1 n2 n3 nG nZ)) dj.symm, fun b z => z⟩
  have hlen := hl.length
  cases k with
  | dk m ks =>
    cases m with
    | false => cases e
    | true =>
      have e : ((keyT kt).bind fun k => if ks.length < 1000 then (match ixk ks k with
        | some j => some (T.nd (.dk true ks) (ts.set j v))
        | none => some (.nd (.dk true (ks ++ [k])) (ts ++ [v]))) else none) = some t' := e
      obtain ⟨k', c, e9⟩ := bind2 (γ := Unit) e
      clear e
      cases keyT_ok c
      obtain ⟨rfl, _⟩ := rk.at_eq
      obtain ⟨h1, h2, _, nd⟩ := id ho
      split at e9
      · rename_i hk
        have hz : (ks.zip vs).length < sizeLine := by rw [List.length_zip, h1, Nat.min_self]; exact small (by omega)
        cases c2 : ixk ks k' with
        | some j =>
          rw [c2] at e9
          cases e9
          have jl : j < ks.length := (List.getElem?_eq_some_iff.mp (idxOf_some c2)).1
          obtain ⟨Fc', r, s⟩ := core (.dK (putK (ks.zip vs) k' y)) _ j rfl (by omega) rfl
          exact ⟨rfl, _, _, _, Fc', _, rfl, rfl, .inl ⟨_, k', h2, rfl, hz, rfl⟩, ⟨by rw [List.length_set]; exact h1, by rw [upd_same, putK_old h1 nd c2], (fun z => by cases z), nd⟩, r, s⟩
        | none =>
          rw [c2] at e9
          cases e9
          obtain ⟨Fc', r, s⟩ := core2 (.dK (putK (ks.zip vs) k' y)) rfl
          refine ⟨rfl, _, _, _, Fc', _, rfl, rfl, .inl ⟨_, k', h2, rfl, hz, rfl⟩, ⟨by simp [h1], by rw [upd_same, putK_fresh h1 c2], (fun z => by cases z), ?_⟩, r, s⟩
          rw [List.nodup_append]
          exact ⟨nd, by simp, fun x hx z hz e => ixk_none c2 (by rw [← List.mem_singleton.mp hz, ← e]; exact hx)⟩
      · cases e9
  | dt m ks =>
    cases m with
    | false => cases e
    | true =>
      cases kt with
      | nd kk us =>
        cases kk with
        | tup =>
          have e : ((keysT us).bind fun k => if ks.length < 1000 then (match ixk ks k with
            | some j => some (T.nd (.dt true ks) (ts.set j v))
            | none => some (.nd (.dt true (ks ++ [k])) (ts ++ [v]))) else none) = some t' := e
          obtain ⟨k', c, e9⟩ := bind2 (γ := Unit) e
          clear e
          cases keysT_ok c
          cases rk with
          | @nd _ _ b ws Fk hob hlk hnk =>
            have ew := hlk.keys
            subst ew
            have hob : H b = some (.tup (k'.map kV)) := hob
            obtain ⟨h1, h2, _, nd⟩ := id ho
            split at e9
            · rename_i hk
              have hz : (ks.zip vs).length < sizeLine := by rw [List.length_zip, h1, Nat.min_self]; exact small (by omega)
              cases c2 : ixk ks k' with
              | some j =>
                rw [c2] at e9
                cases e9
                have jl : j < ks.length := (List.getElem?_eq_some_iff.mp (idxOf_some c2)).1
                obtain ⟨Fc', r, s⟩ := core (.dT (putK (ks.zip vs) k' y)) _ j rfl (by omega) rfl
                exact ⟨rfl, _, _, _, Fc', _, rfl, rfl, .inr ⟨_, k', b, h2, rfl, hob, hz, rfl⟩, ⟨by rw [List.length_set]; exact h1, by rw [upd_same, putK_old h1 nd c2], (fun z => by cases z), nd⟩, r, s⟩
              | none =>
                rw [c2] at e9
                cases e9
                obtain ⟨Fc', r, s⟩ := core2 (.dT (putK (ks.zip vs) k' y)) rfl
                refine ⟨rfl, _, _, _, Fc', _, rfl, rfl, .inr ⟨_, k', b, h2, rfl, hob, hz, rfl⟩, ⟨by simp [h1], by rw [upd_same, putK_fresh h1 c2], (fun z => by cases z), ?_⟩, r, s⟩
                rw [List.nodup_append]
                exact ⟨nd, by simp, fun x hx z hz e => ixk_none c2 (by rw [← List.mem_singleton.mp hz, ← e]; exact hx)⟩
            · cases e9
        | _ => cases e
      | _ => cases e
  | _ => cases e
theorem sj_dput {tv td tk : TE} {fv : EM T} {pf : Env → Option (Nat × List Nat)} {fk : Env → Option T} (hv : VJ K B E tv fv) (hp : PlJ K B td pf) (hk : PJ K B tk fk) : SJ K B P E (sDPut td tk tv) (sDPutT fv pf fk) := fun Z H σ ρ F r ρ' rs o e D q qr => by
  rcases sE_ok e with ⟨v, ρ1, e1, e⟩ | ⟨x, e1, rfl⟩
  · obtain ⟨x, c1, e⟩ := bind2 (γ := Unit) e
    obtain ⟨u, c2, e⟩ := bind2 (γ := Unit) e
    obtain ⟨k, c3, e⟩ := bind2 (γ := Unit) e
    cases c4 : putT u k v with
    | none => simp only [c4] at e; cases e
    | some t' =>
      simp only [c4] at e
      cases e
      refine hv Z H σ ρ F _ _ rs o e1 _ (fun t1 et y H1 Z1 G F1 s1 d1 r1 rs1 => ?_) fun x ex => by cases ex
      cases et
      have o1F := s1.ok.sub (G := F1) fun a z => .inr z
      refine hp Z1 H1 σ ρ1 F1 x.1 x.2 _ rs1 o1F c1 c2 _ fun w H2 Z2 a2 pa => ?_
      have rs2 := rs1.pst o1F a2
      have s2 := a2.env s1.ok fun a z => z.elim (fun z => r1.no z) (rs1.no a)
      have r2 := r1.pst s1.ok.non a2
      have o2F := s2.ok.sub (G := F1) fun a z => .inr z
      refine hk Z2 H2 σ ρ1 F1 _ rs2 o2F c3 _ fun kx H3 Z3 Gk a3 _ _ rk => ?_
      have rs3 := rs2.pst o2F a3
      have s3 := a3.env s2.ok fun a z => z.elim (fun z => r2.no z) (rs2.no a)
      have r3 := r2.pst s2.ok.non a3
      have pa3 := pa.stp rs2 o2F.non a3 Dj.non
      have o3F := s3.ok.sub (G := F1) fun a z => .inr z
      cases u with
      | nd k0 ts =>
        obtain ⟨a, vs, Fc, R, rfl, ho, hl, hn, rfl, dR, back⟩ := rs3.modify o3F c2 pa3
        have ok : own k0 = true := by
          cases hh : own k0 with
          | true => rfl
          | false =>
            exfalso
            cases k0 with
            | dk m ks => cases m <;> first | (cases hh; done) | (cases c4; done)
            | dt m ks => cases m <;> first | (cases hh; done) | (cases c4; done)
            | _ => cases c4
        have pk : put k0 a Fc = uni (one a) Fc := by unfold put; rw [if_pos ok]
        rw [pk] at dR d1 back o3F s3 s2 s1
        have nF := hn ok
        have nG : ¬ G a := fun z => d1 a z (.inl (.inl rfl))
        have nZ : ¬ Z3 a := fun z => s3.ok.dj a (.inr (.inl (.inl rfl))) z
        have dG : Dj G Fc := fun b g z => d1 b g (.inl (.inr z))
        have dGR : Dj G R := fun b g z => d1 b g (.inr z)
        obtain ⟨_, k', ts', vs', Fc', o', rfl, ok', dp, ho', hl', sub⟩ := put_ok ho hl nF r3 nG dG nZ rk c4
        obtain ⟨ob, hob, n1, n2, n3, n4⟩ := ho.owned ok
        refine ⟨a, _, rfl, dp, ?_⟩
        have sw := Stp.wr (o := o') s3.ok hob (.inr (.inl (.inl rfl))) n1 n2 n3 n4
        have swF := Stp.wr (o := o') o3F hob (.inl (.inl rfl)) n1 n2 n3 n4
        have fx : Fx (one a) H3 (upd H3 a o') := Fx.wr hob rfl n1 n2 n3
        have nF' : ¬ Fc' a := fun z => (sub a z).elim nF nG
        have rs4 := back swF fx ok ok' ho' hl' nF' fun b z y => (sub b z).elim (fun z => dR b (.inr z) y) fun z => dGR b z y
        refine (q σ _ Z3 _ sm0 ((((s1.trans s2).trans s3).trans sw).less fun b z => ?_) rs4).1 rfl
        rcases z with (z | z) | z
        · exact .inr (.inl (.inl z))
        · exact (sub b z).elim (fun z => .inr (.inl (.inr z))) .inl
        · exact .inr (.inr z)
      | _ => cases c4
  · refine hv Z H σ ρ F _ ρ' rs o e1 _ (fun t1 et => by cases et) fun x' ex d H1 Z1 F1 s1 rs1 xo => ?_
    cases ex
    exact (q σ H1 Z1 F1 sm0 s1 rs1).2.2.2 x rfl d xo
end
end TV
/-! Attributes given values; tuples joined, cut; numbered walks; errors raised. -/
namespace TV
open PySem L2
section
variable {K : PySem.W.Frag} {B : Tabs} {E : XK} {P : Nat → Prop}
theorem putF_old {f : Str} {v : V} : ∀ {fs : List Str} {vs : List V} {j : Nat}, vs.length = fs.length → fs.idxOf? f = some j → putF f v (fs.zip vs) = fs.zip (vs.set j v)
  | [], _, _, _, h => by cases h
  | g :: fs, [], _, e, _ => by simp at e
  | g :: fs, x :: vs, j, e, h => by
    rw [List.idxOf?_cons] at h
    show (if g = f then (g, v) :: fs.zip vs else (g, x) :: putF f v (fs.zip vs)) = _
    by_cases c : g = f
    · subst c
      simp at h
      subst h
      rw [if_pos rfl]
      rfl
    · have c1 : (g == f) = false := by simpa using c
      rw [c1] at h
      cases q : fs.idxOf? f with
      | none => rw [q] at h; cases h
      | some i =>
        rw [q] at h
        cases h
        rw [if_neg c, putF_old (by simpa using e) q]
        rfl
theorem putF_new {f : Str} {v : V} : ∀ {fs : List Str} {vs : List V}, vs.length = fs.length → fs.idxOf? f = none → putF f v (fs.zip vs) = (fs ++ [f]).zip (vs ++ [v])
  | [], [], _, _ => rfl
  | [], _ :: _, e, _ => by simp at e
  | g :: fs, [], e, _ => by simp at e
  | g :: fs, x :: vs, e, h => by
    rw [List.idxOf?_cons] at h
    show (if g = f then (g, v) :: fs.zip vs else (g, x) :: putF f v (fs.zip vs)) = _
    by_cases c : g = f
    · subst c
      simp at h
    · have c1 : (g == f) = false := by simpa using c
      rw [c1] at h
      cases q : fs.idxOf? f with
      | some i => rw [q] at h; cases h
      | none =>
        rw [if_neg c, putF_new (by simpa using e) q]
        rfl
/-- o.f = v -/
def attT (C : Addr) (f : Str) (v : T) : T → Option T
  | .nd (.obj C' fs) ts => if C' = C ∧ fs.length < 900 then (match fs.idxOf? f with
    | some j => some (.nd (.obj C' fs) (ts.set j v))
    | none => some (.nd (.obj C' (fs ++ [f])) (ts ++ [v]))) else none
  | _ => none
def sFldT (C : Addr) (f : Str) (fv : EM T) (pf : Env → Option (Nat × List Nat)) : SM := sE fv fun v ρ => (pf ρ).bind fun x => (getE ρ x.1 x.2).bind fun t => (attT C f v t).map fun t' => (.nx, setE ρ x.1 x.2 t')
theorem sj_fld {ta tv : TE} {fv : EM T} {pf : Env → Option (Nat × List Nat)} {C : Addr} {f : Str} (hC : Cls K C) (hn : NoAttr K C f) (hv : VJ K B E tv fv) (hp : PlJ K B ta pf) : SJ K B P E (sFld K ta tv f) (sFldT C f fv pf) := fun Z H σ ρ F r ρ' rs o e D q qr => by
  rcases sE_ok e with ⟨v, ρ1, e1, e⟩ | ⟨x, e1, rfl⟩
  · obtain ⟨x, c1, e⟩ := bind2 (γ := Unit) e
    obtain ⟨u, c2, e⟩ := bind2 (γ := Unit) e
    cases c4 : attT C f v u with
    | none => simp only [c4] at e; cases e
    | some t' =>
      simp only [c4] at e
      cases e
      refine hv Z H σ ρ F _ _ rs o e1 _ (fun t1 et y H1 Z1 G F1 s1 d1 r1 rs1 => ?_) fun x ex => by cases ex
      cases et
      have o1F := s1.ok.sub (G := F1) fun a z => .inr z
      refine hp Z1 H1 σ ρ1 F1 x.1 x.2 _ rs1 o1F c1 c2 _ fun w H2 Z2 a2 pa => ?_
      have rs2 := rs1.pst o1F a2
      have s2 := a2.env s1.ok fun a z => z.elim (fun z => r1.no z) (rs1.no a)
      have r2 := r1.pst s1.ok.non a2
      have o2F := s2.ok.sub (G := F1) fun a z => .inr z
      cases u with
      | nd k0 ts =>
        cases k0 with
        | obj C' fs =>
          obtain ⟨a, vs, Fc, R, rfl, ho, hl, hno, rfl, dR, back⟩ := rs2.modify o2F c2 pa
          obtain ⟨h1, dx, h2⟩ := id ho
          rw [show put (.obj C' fs) a Fc = uni (one a) Fc from rfl] at dR d1 back o2F s2 s1
          have nF := hno rfl
          have nG : ¬ G a := fun z => d1 a z (.inl (.inl rfl))
          have nZ : ¬ Z2 a := fun z => s2.ok.dj a (.inr (.inl (.inl rfl))) z
          have dG : Dj G Fc := fun b g z => d1 b g (.inl (.inr z))
          have dGR : Dj G R := fun b g z => d1 b g (.inr z)
          have hlen := hl.length
          have e4 : (if C' = C ∧ fs.length < 900 then (match fs.idxOf? f with
            | some j => some (T.nd (.obj C' fs) (ts.set j v))
            | none => some (.nd (.obj C' (fs ++ [f])) (ts ++ [v]))) else none) = some t' := c4
          split at e4
          · rename_i hc
            obtain ⟨ec, hsz⟩ := hc
            subst ec
            have fin : ∀ (fs' : List Str) (ts' : List T) (vs' : List V) (Fc' : AS), putF f y (fs.zip vs) = fs'.zip vs' → vs'.length = fs'.length → RepL K Z2 (upd H2 a (.ins C' dx (fs'.zip vs'))) ts' vs' Fc' → (∀ b, Fc' b → Fc b ∨ G b) → t' = .nd (.obj C' fs') ts' →
                D.nx σ (upd H2 a (.ins C' dx (putF f y (fs.zip vs)))) := fun fs' ts' vs' Fc' ep el hl' sub et => by
              subst et
              rw [ep]
              have sw := Stp.wr (o := .ins C' dx (fs'.zip vs')) s2.ok h2 (.inr (.inl (.inl rfl))) (by simp) (by simp) (by simp) (by simp)
              have swF := Stp.wr (o := .ins C' dx (fs'.zip vs')) o2F h2 (.inl (.inl rfl)) (by simp) (by simp) (by simp) (by simp)
              have fx : Fx (one a) H2 (upd H2 a (.ins C' dx (fs'.zip vs'))) := Fx.wr h2 rfl (by simp) (by simp) (by simp)
              have nF' : ¬ Fc' a := fun z => (sub a z).elim nF nG
              have rs4 := back (k' := .obj C' fs') swF fx rfl rfl ⟨el, dx, upd_same⟩ hl' nF' fun b z y => (sub b z).elim (fun z => dR b (.inr z) y) fun z => dGR b z y
              refine (q σ _ Z2 _ sm0 (((s1.trans s2).trans sw).less fun b z => ?_) rs4).1 rfl
              rcases z with (z | z) | z
              · exact .inr (.inl (.inl z))
              · exact (sub b z).elim (fun z => .inr (.inl (.inr z))) .inl
              · exact .inr (.inr z)
            refine ⟨a, C', dx, _, rfl, h2, hC, hn, by rw [List.length_zip, h1, Nat.min_self]; omega, ?_⟩
            cases c5 : fs.idxOf? f with
            | some j =>
              rw [c5] at e4
              cases e4
              have jl : j < fs.length := by
                have hf : ∀ {l : List Str} {j : Nat}, l.idxOf? f = some j → j < l.length := fun {l} => by
                  induction l with
                  | nil => intro j h; cases h
                  | cons g l ih =>
                    intro j h
                    rw [List.idxOf?_cons] at h
                    split at h
                    · cases h
                      simp
                    · cases q : l.idxOf? f with
                      | none => rw [q] at h; cases h
                      | some i =>
                        rw [q] at h
                        cases h
                        have := ih q
                        simp
                        omega
                exact hf c5
              have hl' := hl.wr (o := .ins C' dx (fs.zip (vs.set j y))) h2 (by simp) (by simp) (by simp) nF nZ
              have rv' := r2.wr (o := .ins C' dx (fs.zip (vs.set j y))) h2 (by simp) (by simp) (by simp) nG nZ
              obtain ⟨w, G1, R1, hw, rr, dd, eF, bk⟩ := hl'.at (i := j) (List.getElem?_eq_getElem (by omega))
              subst eF
              have hl2 := bk (Z' := Z2) (M := non) Fx.refl (fun _ z => z) Dj.non Dj.non rv' dG.r
              exact fin fs _ (vs.set j y) _ (putF_old h1 c5) (by rw [List.length_set]; exact h1) hl2 (fun b z => z.elim .inr fun z => .inl (.inr z)) rfl
            | none =>
              rw [c5] at e4
              cases e4
              have hl' := hl.wr (o := .ins C' dx ((fs ++ [f]).zip (vs ++ [y]))) h2 (by simp) (by simp) (by simp) nF nZ
              have rv' := r2.wr (o := .ins C' dx ((fs ++ [f]).zip (vs ++ [y]))) h2 (by simp) (by simp) (by simp) nG nZ
              exact fin (fs ++ [f]) _ (vs ++ [y]) _ (putF_new h1 c5) (by simp [h1]) (RepL.append hl' (RepL.one rv') dG.symm) (fun b z => z) rfl
          · cases e4
        | _ => cases c4
      | _ => cases c4
  · refine hv Z H σ ρ F _ ρ' rs o e1 _ (fun t1 et => by cases et) fun x' ex d H1 Z1 F1 s1 rs1 xo => ?_
    cases ex
    exact (q σ H1 Z1 F1 sm0 s1 rs1).2.2.2 x rfl d xo
/-! tuples -/
theorem tupT_ok {Z G : AS} {H : Hp} {t : T} {v : V} {ts : List T} (r : Rep K Z H t v G) (h : tupT t = some ts) (f : frzdL ts = true) : ∃ a vs, v = .ref a ∧ SqT K H a vs ∧ RepL K Z H ts vs non := by
  cases r with
  | «at» _ => cases h
  | hole => cases h
  | @nd k us a vs F ho hl hn =>
    cases k with
    | tup =>
      cases h
      have := hl.frzd_eq f
      subst this
      exact ⟨a, vs, rfl, .of ho, hl⟩
    | _ => cases h
theorem os_catT : OpS K B (rCatT K) gCatT := fun Z H x y t u t' G1 G2 o r1 r2 e Q q => by
  unfold gCatT at e
  obtain ⟨ts, c1, e⟩ := bind2 (γ := Unit) e
  obtain ⟨us, c2, e⟩ := bind2 (γ := Unit) e
  split at e
  · rename_i k
    cases e
    obtain ⟨a, vs, rfl, h1, l1⟩ := tupT_ok r1 c1 k.1
    obtain ⟨b, ws, rfl, h2, l2⟩ := tupT_ok r2 c2 k.2.1
    have z := RepL.append l1 l2 Dj.non
    rw [non_uni] at z
    have e1 := l1.length
    have e2 := l2.length
    refine ⟨a, b, vs, ws, rfl, rfl, h1, h2, fun z => k.2.2.2.1 (List.eq_nil_of_length_eq_zero (by rw [e1, z]; rfl)), by rw [← e1, ← e2]; exact Nat.le_of_lt (small k.2.2.1), fun z => absurd (List.eq_nil_of_length_eq_zero (by rw [e2, z]; rfl)) k.2.2.2.2, fun _ p np => newTup o z np q⟩
  · cases e
def gSlT (t : T) (lo hi : Option Int) : Option T := match t with
  | .nd .tup ts => if frzdL ts = true ∧ ¬ (HT.sIx ts.length 0 lo = 0 ∧ HT.sIx ts.length ts.length hi = ts.length) then some (.nd .tup (cutT ts lo hi)) else none
  | _ => none
def fSlT (fe : Env → Option T) (fl fh : Env → Option (Option Int)) : Env → Option T := fun ρ => (fe ρ).bind fun t => (fl ρ).bind fun lo => (fh ρ).bind fun hi => gSlT t lo hi
theorem fj_slT {te : TE} {tl th : TO} {fe : Env → Option T} {fl fh : Env → Option (Option Int)} (he : PJ K B te fe) (hl : OJ K B tl fl) (hh : OJ K B th fh) : FJ K B (tSl (rSlT K) te tl th) (fSlT fe fl fh) := fun Z H σ ρ F t' rs o e Q q => by
  unfold fSlT at e
  obtain ⟨t, c, e⟩ := bind2 (γ := Unit) e
  obtain ⟨lo, c2, e⟩ := bind2 (γ := Unit) e
  obtain ⟨hi, c3, e⟩ := bind2 (γ := Unit) e
  refine he Z H σ ρ F t rs o c _ fun v H1 Z1 G a1 n1 d1 r1 => ?_
  have rs1 := rs.pst o a1
  have s1 := a1.env o rs.no
  refine hl Z1 H1 σ ρ F lo rs1 s1.ok c2 _ fun H2 Z2 a2 => ?_
  have rs2 := rs1.pst s1.ok a2
  have s2 := a2.env s1.ok rs1.no
  refine hh Z2 H2 σ ρ F hi rs2 s2.ok c3 _ fun H3 Z3 a3 => ?_
  have r3 := (r1.pst s1.ok.non a2).pst s2.ok.non a3
  cases r3 with
  | «at» _ => cases e
  | hole => cases e
  | @nd k us a vs F' ho hl' hn =>
    cases k with
    | tup =>
      have e : (if frzdL us = true ∧ ¬ (HT.sIx us.length 0 lo = 0 ∧ HT.sIx us.length us.length hi = us.length) then some (T.nd .tup (cutT us lo hi)) else none) = some t' := e
      split at e
      · rename_i k
        cases e
        have := hl'.frzd_eq k.1
        subst this
        refine ⟨a, vs, rfl, .of ho, by rw [← hl'.length]; exact k.2, fun p np => ?_⟩
        exact newTup a3.ok (hl'.cutTo lo hi) np fun v H' Z' G a4 n4 d4 r4 => q v H' Z' G (a1.trans (a2.trans (a3.trans a4))) (fun a g => a1.fx.al a (a2.fx.al a (a3.fx.al a (n4 a g)))) d4 r4
      · cases e
    | _ => cases e
/-! a < b < c < d -/
def fCh3 (fa fb fc fd : Env → Option T) (g g' g'' : T → T → Option T) : EM Bool := fun ρ => ((fa ρ).bind fun t => (fb ρ).bind fun u => (g t u).bind fun z => (asB z).bind fun k => if k = true then (fc ρ).bind fun w => (g' u w).bind fun z2 => (asB z2).bind fun k2 => if k2 = true then (fd ρ).bind fun x => (g'' w x).bind asB else some false else some false).map fun b => (.ok b, ρ)
theorem tj_chain3 {r r' r'' : R2} {g g' g'' : T → T → Option T} {ta tb tc td : TE} {fa fb fc fd : Env → Option T} (h1 : OpS K B r g) (h2 : OpS K B r' g') (h3 : OpS K B r'' g'') (ha : PJ K B ta fa) (hb : PJ K B tb fb) (hc : PJ K B tc fc) (hd : PJ K B td fd) : TJ K B E (LT.tChain3 r r' r'' ta tb tc td) (fCh3 fa fb fc fd g g' g'') := fun Z H σ ρ F res ρ' rs o e Q q qe => by
  unfold fCh3 at e
  cases ce : ((fa ρ).bind fun t => (fb ρ).bind fun u => (g t u).bind fun z => (asB z).bind fun k => if k = true then (fc ρ).bind fun w => (g' u w).bind fun z2 => (asB z2).bind fun k2 => if k2 = true then (fd ρ).bind fun x => (g'' w x).bind asB else some false else some false) with
  | none => rw [ce] at e; cases e
  | some bb =>
    rw [ce] at e
    cases e
    obtain ⟨t, c1, e⟩ := bind2 (γ := Unit) ce
    obtain ⟨u, c2, e⟩ := bind2 (γ := Unit) e
    obtain ⟨z, c3, e⟩ := bind2 (γ := Unit) e
    obtain ⟨k, c4, e4⟩ := bind2 (γ := Unit) e
    clear e
    cases asB_eq c4
    refine ha Z H σ ρ F t rs o c1 _ fun x H1 Z1 G1 a1 _ _ r1 => ?_
    have rs1 := rs.pst o a1
    have o1 := (a1.env o rs.no).ok
    refine hb Z1 H1 σ ρ F u rs1 o1 c2 _ fun y H2 Z2 G2 a2 _ _ r2 => ?_
    have r1' := r1.pst o1.non a2
    have rs2 := rs1.pst o1 a2
    have o2 := (a2.env o1 rs1.no).ok
    refine h1 Z2 H2 x y t u _ G1 G2 a2.ok r1' r2 c3 _ fun v H3 Z3 G a3 gn dz rt => ?_
    obtain ⟨rfl, _⟩ := rt.at_eq
    have rs3 := rs2.pst o2 a3
    have o3 := (a3.env o2 rs2.no).ok
    have a13 := a1.trans (a2.trans a3)
    refine ⟨k, rfl, ?_⟩
    cases k with
    | false =>
      cases e4
      exact iteF (q _ rfl H3 Z3 F (a13.env o rs.no) rs3)
    | true =>
      rw [if_pos rfl] at e4
      obtain ⟨w, c5, e⟩ := bind2 (γ := Unit) e4
      obtain ⟨z2, c6, e⟩ := bind2 (γ := Unit) e
      obtain ⟨k2, c7, e7⟩ := bind2 (γ := Unit) e
      clear e
      cases asB_eq c7
      refine iteT (hc Z3 H3 σ ρ F w rs3 o3 c5 _ fun y2 H4 Z4 G4 a4 _ _ r4 => ?_)
      have r2' := (r2.pst a2.ok a3).pst a3.ok a4
      have rs4 := rs3.pst o3 a4
      have o4 := (a4.env o3 rs3.no).ok
      refine h2 Z4 H4 y y2 u w _ G2 G4 a4.ok r2' r4 c6 _ fun v H5 Z5 G5 a5 gn5 dz5 r5 => ?_
      obtain ⟨rfl, _⟩ := r5.at_eq
      have rs5 := rs4.pst o4 a5
      have o5 := (a5.env o4 rs4.no).ok
      have a15 := a13.trans (a4.trans a5)
      refine ⟨k2, rfl, ?_⟩
      cases k2 with
      | false =>
        cases e7
        exact iteF (q _ rfl H5 Z5 F (a15.env o rs.no) rs5)
      | true =>
        rw [if_pos rfl] at e7
        obtain ⟨x3, c8, e⟩ := bind2 (γ := Unit) e7
        obtain ⟨z3, c9, e⟩ := bind2 (γ := Unit) e
        cases asB_eq e
        refine iteT (hd Z5 H5 σ ρ F x3 rs5 o5 c8 _ fun y3 H6 Z6 G6 a6 _ _ r6 => ?_)
        have r4' := (r4.pst a4.ok a5).pst a5.ok a6
        have rs6 := rs5.pst o5 a6
        have o6 := (a6.env o5 rs5.no).ok
        refine h3 Z6 H6 y2 y3 w x3 _ G4 G6 a6.ok r4' r6 c9 _ fun v H7 Z7 G7 a7 gn7 dz7 r7 => ?_
        obtain ⟨rfl, _⟩ := r7.at_eq
        exact ⟨bb, rfl, q _ rfl H7 Z7 F ((a15.trans (a6.trans a7)).env o rs.no) (rs6.pst o6 a7)⟩
/-! enumerate -/
def numbered : Nat → List T → List T
  | _, [] => []
  | n, t :: ts => .nd .tup [.at (.int n), item t] :: numbered (n + 1) ts
theorem numbered_get : ∀ {ts : List T} {n i : Nat}, (numbered n ts)[i]? = (ts[i]?).map fun t => T.nd .tup [.at (.int ((n + i : Nat) : Int)), item t]
  | [], _, _ => by simp [numbered]
  | t :: ts, n, 0 => by simp [numbered]
  | t :: ts, n, i + 1 => by
    show (numbered (n + 1) ts)[i]? = _
    rw [numbered_get]
    simp
    rw [show (n : Int) + 1 + (i : Int) = n + (i + 1) from by omega]
theorem numbered_len : ∀ {ts : List T} {n : Nat}, (numbered n ts).length = ts.length
  | [], _ => rfl
  | _ :: ts, n => by
    show (numbered (n + 1) ts).length + 1 = ts.length + 1
    rw [numbered_len]
theorem src_enum {k : Nk} (hk : k = .scr ∨ ∃ m, k = .lst m) {ts : List T} {a : Addr} {G : AS} : Src K B (Ite K a) (numbered 0 ts) G (fun Z H => Rep K Z H (.nd k ts) (.ref a) G) where
  stop := fun Z H h => by
    cases h with
    | nd ho hl hn => exact ⟨_, (sql_of hk ho), by rw [numbered_len, hl.length]; exact Nat.le_refl _⟩
  go := fun Z H i t h o e => by
    rw [numbered_get, Nat.zero_add] at e
    cases c : ts[i]? with
    | none => rw [c] at e; cases e
    | some u =>
      rw [c] at e
      cases e
      cases id h with
      | nd ho hl hn =>
        obtain ⟨v, G1, hv, r1, _⟩ := hl.get c
        refine ⟨⟨_, v, (sql_of hk ho), hv⟩, fun x H' y => ?_⟩
        obtain ⟨T1, x1, rfl, nT, rfl, y⟩ := y
        have := y _ (sql_of hk ho)
        rw [hv] at this
        cases this
        have a1 : Pst B Z H Z (upd H T1 (.tup [.int i, v])) := Stp.new0 o nT fun _ z => z.elim
        have ri := (r1.item).pst o a1
        have rl : RepL K Z (upd H T1 (.tup [.int i, v])) [.at (.int i), item u] [.int i, v] non := by
          have z := RepL.cons (Rep.at (K := K) (Z := Z) (H := upd H T1 (.tup [.int i, v])) (v := .int i) rfl) (RepL.one ri) Dj.non
          rw [non_uni] at z
          exact z
        have rt := Rep.nd (k := .tup) (a := T1) (K := K) (Z := Z) (H := upd H T1 (.tup [.int i, v])) upd_same rl fun z => by cases z
        exact ⟨Z, a1, rt, Rep.pst h o a1⟩
  st := fun Z F H Z' F' H' h o s d => h.stp o s d
  al := fun Z H h a g => h.no g
def asE : T → Option (List T)
  | .nd (.lst _) ts => some (numbered 0 ts)
  | .nd .scr ts => some (numbered 0 ts)
  | _ => none
abbrev fEnum (f : EM T) : EM (List T) := bE f fun t => rE (asE t)
theorem ij_enum {ta : TE} {f : EM T} (h : VJ K B E ta f) : IJ K B E (iEnum K (tCons ta tNil)) (fEnum f) := fun Z H σ ρ F r ρ' rs o e R q qe => by
  rcases bE_ok e with ⟨t, ρ1, e1, e⟩ | ⟨x, e1, rfl⟩
  · obtain ⟨ts, e3, rfl, rfl⟩ := rE_ok e
    refine h Z H σ ρ F _ _ rs o e1 _ (fun t1 et v H1 Z1 G1 F1 s1 d1 r1 rs1 => ?_) fun x ex => by cases ex
    cases et
    cases id r1 with
    | «at» _ => cases e3
    | hole => cases e3
    | nd ho hl hn =>
      rename_i k us a vs F0
      cases k with
      | lst m =>
        cases e3
        exact ⟨a, vs, rfl, ho.sql, q _ rfl _ H1 Z1 _ F1 _ s1 d1 rs1 (src_enum (.inr ⟨m, rfl⟩)) r1⟩
      | scr =>
        cases e3
        exact ⟨a, vs, rfl, ho.sqs, q _ rfl _ H1 Z1 _ F1 _ s1 d1 rs1 (src_enum (.inl rfl)) r1⟩
      | _ => cases e3
  · refine h Z H σ ρ F _ ρ' rs o e1 _ (fun t1 et => by cases et) fun x' ex d H1 Z1 F1 s1 rs1 xo => ?_
    cases ex
    exact qe x rfl d H1 Z1 F1 s1 rs1 xo
end
end TV
/-! Texts put together; errors raised. -/
namespace TV
open PySem L2
section
variable {K : PySem.W.Frag} {B : Tabs} {E : XK} {P : Nat → Prop}
/-! f-strings -/
def JsJ (K : PySem.W.Frag) (B : Tabs) (ts : List TE) (f : Env → Str → Option Str) : Prop := ∀ (Z : AS) (H : Hp) (σ : St) (ρ : Env) (F : AS) (acc out : Str), RepS K Z H σ ρ F → Ok B Z F H → f ρ acc = some out → ∀ Q : Str → Hp → Prop, (∀ H' Z', Pst B Z H Z' H' → Q out H') → tJs ts acc σ H Q
def jNil : Env → Str → Option Str := fun _ acc => some acc
theorem js_nil : JsJ K B [] jNil := fun Z H σ ρ F acc out rs o e Q q => by
  cases e
  exact q H Z (Stp.refl o.non)
def asS : T → Option Str
  | .at (.str x) => some x
  | _ => none
theorem asS_eq {t : T} {b : Str} (h : asS t = some b) : t = .at (.str b) := by
  cases t with
  | «at» v => cases v <;> first | (cases h; rfl) | cases h
  | hole => cases h
  | nd k ts => cases h
def jCons (fa : Env → Option T) (fr : Env → Str → Option Str) : Env → Str → Option Str := fun ρ acc => (fa ρ).bind fun t => (asS t).bind fun y => if (acc ++ y).length ≤ 100000 then fr ρ (acc ++ y) else none
theorem js_cons {t : TE} {ts : List TE} {fa : Env → Option T} {fr : Env → Str → Option Str} (ha : PJ K B t fa) (hr : JsJ K B ts fr) : JsJ K B (t :: ts) (jCons fa fr) := fun Z H σ ρ F acc out rs o e Q q => by
  unfold jCons at e
  obtain ⟨u, c1, e⟩ := bind2 (γ := Unit) e
  obtain ⟨y, c2, e9⟩ := bind2 (γ := Unit) e
  clear e
  split at e9
  · rename_i hk
    refine ha Z H σ ρ F u rs o c1 _ fun v H1 Z1 G a1 _ _ r1 => ?_
    cases asS_eq c2
    obtain ⟨rfl, _⟩ := r1.at_eq
    exact ⟨y, rfl, Nat.le_trans hk (by rw [sizeLine_eq]; decide), hr Z1 H1 σ ρ F _ out (rs.pst o a1) (a1.env o rs.no).ok e9 Q fun H2 Z2 a2 => q H2 Z2 (a1.trans a2)⟩
  · cases e9
def fJoined (f : Env → Str → Option Str) : Env → Option T := fun ρ => (f ρ Str.empty).map fun s => .at (.str s)
theorem fj_joined {ts : List TE} {f : Env → Str → Option Str} (h : JsJ K B ts f) : FJ K B (fun σ H Q => tJs ts Str.empty σ H fun out H1 => Q (.str out) H1) (fJoined f) := fun Z H σ ρ F t' rs o e Q q => by
  unfold fJoined at e
  cases c : f ρ Str.empty with
  | none => rw [c] at e; cases e
  | some out =>
    rw [c] at e
    cases e
    exact h Z H σ ρ F _ out rs o c _ fun H1 Z1 a1 => q _ H1 Z1 non a1 (fun _ z => z.elim) Dj.non' (.at rfl)
/-- {x} -/
def fmtT : T → Option T
  | .at (.str y) => if y.length ≤ 100000 then some (.at (.str y)) else none
  | .at (.int i) => if i.natAbs.log2 < 1920 then some (.at (.str (Str.ofString (toString i)))) else none
  | _ => none
def fFmt (f : Env → Option T) : Env → Option T := fun ρ => (f ρ).bind fmtT
theorem fj_fmt {te : TE} {f : Env → Option T} (h : PJ K B te f) : FJ K B (tFmt te) (fFmt f) := fun Z H σ ρ F t' rs o e Q q => by
  unfold fFmt at e
  obtain ⟨u, c1, e⟩ := bind2 (γ := Unit) e
  refine h Z H σ ρ F u rs o c1 _ fun v H1 Z1 G a1 _ _ r1 => ?_
  have fin : ∀ s : Str, t' = .at (.str s) → Q (.str s) H1 := fun s et => by
    subst et
    exact q _ H1 Z1 non a1 (fun _ z => z.elim) Dj.non' (.at rfl)
  cases u with
  | «at» x =>
    obtain ⟨ev, _⟩ := r1.at_eq
    subst ev
    cases v with
    | str y =>
      have e : (if y.length ≤ 100000 then some (T.at (.str y)) else none) = some t' := e
      split at e
      · rename_i k
        cases e
        exact .inl ⟨y, rfl, Nat.le_trans k (by rw [sizeLine_eq]; decide), fin y rfl⟩
      · cases e
    | int i =>
      have e : (if i.natAbs.log2 < 1920 then some (T.at (.str (Str.ofString (toString i)))) else none) = some t' := e
      split at e
      · rename_i k
        cases e
        exact .inr ⟨i, rfl, k, fin _ rfl⟩
      · cases e
    | _ => cases e
  | _ => cases e
def gAddS (t u : T) : Option T := (asS t).bind fun x => (asS u).bind fun y => if x.length + y.length ≤ 100000 then some (.at (.str (x ++ y))) else none
theorem os_addS : OpS K B (fun x y H Q => ∃ i j, x = V.str i ∧ y = V.str j ∧ i.length + j.length ≤ sizeLine ∧ Q (V.str (i ++ j)) H) gAddS := fun Z H x y t u t' G1 G2 o r1 r2 e Q q => by
  unfold gAddS at e
  obtain ⟨a, c1, e⟩ := bind2 (γ := Unit) e
  obtain ⟨b, c2, e⟩ := bind2 (γ := Unit) e
  split at e
  · rename_i k
    cases e
    cases asS_eq c1
    cases asS_eq c2
    obtain ⟨rfl, _⟩ := r1.at_eq
    obtain ⟨rfl, _⟩ := r2.at_eq
    exact ⟨a, b, rfl, rfl, Nat.le_trans k (by rw [sizeLine_eq]; decide), atom o rfl q⟩
  · cases e
/-! raise -/
def sRaise1 (C : Addr) (fs : Env → Option (List T)) : SM := fun ρ => (fs ρ).bind fun ts => if ts.length = 1 then some (.ex (C, none), ρ) else none
theorem sj_raise1 {C : Addr} {ta : TA} {fs : Env → Option (List T)} (ha : FAJ K B ta fs) : SJ K B P E (fun _ σ H => ta σ H fun vs H1 => (∃ v, vs = [v]) ∧ E (.ref C) none H1) (sRaise1 C fs) := fun Z H σ ρ F r ρ' rs o e D q qr => by
  unfold sRaise1 at e
  obtain ⟨ts, c1, e⟩ := bind2 (γ := Unit) e
  split at e
  · rename_i hl
    cases e
    refine ha Z H σ ρ F ts rs o c1 _ fun vs H1 Z1 G a1 n1 d1 r1 => ⟨?_, ?_⟩
    · have := r1.length
      match vs, this with
      | [v], _ => exact ⟨v, rfl⟩
      | [], h => rw [hl] at h; cases h
      | _ :: _ :: _, h => rw [hl] at h; simp at h
    · exact (q σ H1 Z1 F sm0 (a1.env o rs.no) (rs.pst o a1)).2.2.2 _ rfl none rfl
  · cases e
/-- what an error's own __init__ of one field, of two fields keeps -/
def spI1 (C : Addr) (f : Str) : Sp := fun vs H Q _ => ∃ (a : Addr) (x : V), vs = [.ref a, x] ∧ H a = some (exo a C none) ∧ ∀ dx, H dx = none → dx ≠ a → Q .non (upd (upd H dx (exd dx [(f, x)])) a (exo a C (some dx)))
def spI2 (C : Addr) (f g : Str) : Sp := fun vs H Q _ => ∃ (a : Addr) (x y : V), vs = [.ref a, x, y] ∧ H a = some (exo a C none) ∧ ∀ dx, H dx = none → dx ≠ a → Q .non (upd (upd (upd H dx (exd dx [(f, x)])) a (exo a C (some dx))) dx (exd dx [(g, y), (f, x)]))
def atV : T → Option V
  | .at v => some v
  | _ => none
theorem atV_eq {t : T} {v : V} (h : atV t = some v) : t = .at v := by
  cases t <;> first | (cases h; rfl) | cases h
theorem exo_ne {a C : Addr} {d : Option Addr} : (∀ ps, exo a C d ≠ .tbl ps) := fun ps z => by
  unfold exo at z
  cases z
/-- the heap behind an error that was made: its dict alone is new -/
theorem err_step {Z F : AS} {H Hf : Hp} {σ : St} {ρ : Env} {a d : Addr} {l : List (Str × V)} (o : Ok B Z F H) (rs : RepS K Z H σ ρ F) (na : H a = none) (nd : H d = none) (h1 : Hf d = some (.xd l)) (h2 : ∀ b, b ≠ d → b ≠ a → Hf b = H b) (h3 : a ≠ d → Hf a = none) : Stp B Z F H Z F Hf ∧ RepS K Z Hf σ ρ F := by
  have k : ∀ b ob, H b = some ob → Hf b = some ob := fun b ob e => by
    rw [h2 b (fun z => by rw [z, nd] at e; cases e) (fun z => by rw [z, na] at e; cases e)]
    exact e
  have fx : Fx non H Hf := ⟨fun b ob _ e => k b ob e, fun b xs e => k b _ e, fun b ob u e => k b _ e, fun b φ e => k b _ e, fun b e => by
    by_cases c1 : b = d
    · rw [c1]; exact nd
    · by_cases c2 : b = a
      · rw [c2]; exact na
      · rw [h2 b c1 c2] at e; exact e⟩
  exact ⟨⟨fx.mono fun _ z => z.elim, fun _ z => z, fun _ z => .inl z, fun _ z => .inl z, ⟨o.dj, fun b z => by
    obtain ⟨u, hu, n⟩ := o.zal b z
    exact ⟨u, k b u hu, n⟩, o.amb.fx fx Dj.non⟩⟩, rs.st fx (fun _ z => z) Dj.non Dj.non⟩
def sRaiseF1 (C : Addr) (f : Str) (fs : Env → Option (List T)) : SM := fun ρ => (fs ρ).bind fun ts => match ts with
  | [t] => (atV t).map fun x => (.ex (C, some [(f, x)]), ρ)
  | _ => none
theorem sj_raiseF1 {C : Addr} {f : Str} {ta : TA} {fs : Env → Option (List T)} (ha : FAJ K B ta fs) : SJ K B P E (fun _ σ H => tMkO C (spI1 C f) [] ta σ H fun cls d H' => E cls d H') (sRaiseF1 C f fs) := fun Z H σ ρ F r ρ' rs o e D q qr => by
  unfold sRaiseF1 at e
  obtain ⟨ts, c1, e⟩ := bind2 (γ := Unit) e
  match ts, c1, e with
  | [t], c1, e =>
    have e : (atV t).map (fun x => (Out.ex (C, some [(f, x)]), ρ)) = some (r, ρ') := e
    cases c2 : atV t with
    | none => rw [c2] at e; cases e
    | some x =>
      rw [c2] at e
      cases e
      cases atV_eq c2
      refine ha Z H σ ρ F _ rs o c1 _ fun vs H1 Z1 G a1 n1 d1 r1 => ?_
      obtain ⟨v, rfl, r1'⟩ := r1.ofOne
      obtain ⟨ev, _⟩ := r1'.at_eq
      have ev := ev.symm
      subst ev
      have s1 := a1.env o rs.no
      have rs1 := rs.pst o a1
      refine ⟨by show 1 ≤ 1000; decide, fun a na => ⟨a, x, rfl, upd_same, fun dx ndx ne => ⟨rfl, dx, [(f, x)], upd_same, ?_, ?_, ?_⟩⟩⟩
      · rw [upd_ne ne, upd_same]
      · rw [upd_ne ne] at ndx
        exact ndx
      · rw [upd_ne ne] at ndx
        obtain ⟨st, rs2⟩ := err_step (Hf := upd (del (upd (upd (upd H1 a (exo a C none)) dx (exd dx [(f, x)])) a (exo a C (some dx))) a) dx (.xd [(f, x)])) s1.ok rs1 na ndx upd_same (fun b b1 b2 => by
          rw [upd_ne b1, del_ne b2, upd_ne b2, upd_ne b1, upd_ne b2]) (fun h => by rw [upd_ne h, del_same])
        exact (q σ _ Z1 F sm0 (s1.trans st) rs2).2.2.2 _ rfl (some dx) ⟨dx, rfl, upd_same⟩
def sRaiseF2 (C : Addr) (f g : Str) (fs : Env → Option (List T)) : SM := fun ρ => (fs ρ).bind fun ts => match ts with
  | [t, u] => (atV t).bind fun x => (atV u).map fun y => (.ex (C, some [(g, y), (f, x)]), ρ)
  | _ => none
theorem sj_raiseF2 {C : Addr} {f g : Str} {ta : TA} {fs : Env → Option (List T)} (ha : FAJ K B ta fs) : SJ K B P E (fun _ σ H => tMkO C (spI2 C f g) [] ta σ H fun cls d H' => E cls d H') (sRaiseF2 C f g fs) := fun Z H σ ρ F r ρ' rs o e D q qr => by
  unfold sRaiseF2 at e
  obtain ⟨ts, c1, e⟩ := bind2 (γ := Unit) e
  match ts, c1, e with
  | [t, u], c1, e =>
    obtain ⟨x, c2, e⟩ := bind2 (γ := Unit) e
    cases c3 : atV u with
    | none => rw [c3] at e; cases e
    | some y =>
      rw [c3] at e
      cases e
      cases atV_eq c2
      cases atV_eq c3
      refine ha Z H σ ρ F _ rs o c1 _ fun vs H1 Z1 G a1 n1 d1 r1 => ?_
      cases r1 with
      | cons ra rb _ =>
        obtain ⟨w, rfl, rb'⟩ := rb.ofOne
        obtain ⟨ev, _⟩ := ra.at_eq
        have ev := ev.symm
        subst ev
        obtain ⟨ew, _⟩ := rb'.at_eq
        have ew := ew.symm
        subst ew
        have s1 := a1.env o rs.no
        have rs1 := rs.pst o a1
        refine ⟨by show 2 ≤ 1000; decide, fun a na => ⟨a, x, y, rfl, upd_same, fun dx ndx ne => ⟨rfl, dx, [(g, y), (f, x)], ?_, upd_same, ?_, ?_⟩⟩⟩
        · rw [upd_ne (Ne.symm ne), upd_same]
        · rw [upd_ne ne] at ndx
          exact ndx
        · rw [upd_ne ne] at ndx
          obtain ⟨st, rs2⟩ := err_step (Hf := upd (del (upd (upd (upd (upd H1 a (exo a C none)) dx (exd dx [(f, x)])) a (exo a C (some dx))) dx (exd dx [(g, y), (f, x)])) a) dx (.xd [(g, y), (f, x)])) s1.ok rs1 na ndx upd_same (fun b b1 b2 => by
            rw [upd_ne b1, del_ne b2, upd_ne b1, upd_ne b2, upd_ne b1, upd_ne b2]) (fun h => by rw [upd_ne h, del_same])
          exact (q σ _ Z1 F sm0 (s1.trans st) rs2).2.2.2 _ rfl (some dx) ⟨dx, rfl, upd_same⟩
end
end TV
/-! sorted by a lambda's key; sorted pairs. -/
namespace TV
open PySem L2
section
variable (K : PySem.W.Frag) (B : Tabs)
/-- what is looked at without a new object -/
def NJ (te : TE) (f : Env → Option T) : Prop := ∀ (Z : AS) (H : Hp) (σ : St) (ρ : Env) (F : AS) (t : T), RepS K Z H σ ρ F → Ok B Z F H → f ρ = some t → ∀ Q : VK, (∀ v G, (∀ a, G a → F a) → Rep K Z H t v G → Q v H) → te σ H Q
end
section
variable {K : PySem.W.Frag} {B : Tabs} {E : XK} {P : Nat → Prop}
theorem nj_var {i : Nat} : NJ K B (tVar i) (fVar i) := fun Z H σ ρ F t rs o e Q q => by
  obtain ⟨c1, c2⟩ := fVar_get e
  obtain ⟨v, G, hv, rt, sub⟩ := rs.get c1 c2
  exact ⟨v, hv, q v G sub rt⟩
theorem nj_const {x : V} (h : isRef x = false) : NJ K B (tC x) (fC x) := fun Z H σ ρ F t rs o e Q q => by
  cases e
  exact q x non (fun _ z => z.elim) (.at h)
theorem nj_opA {r : R2} {g : T → T → Option T} {ta tb : TE} {fa fb : Env → Option T} (hr : OpA K B r g) (ha : NJ K B ta fa) (hb : NJ K B tb fb) : NJ K B (tOp r ta tb) (f2 fa fb g) := fun Z H σ ρ F t' rs o e Q q => by
  obtain ⟨t, u, e1, e2, e3⟩ := f2_ok e
  refine ha Z H σ ρ F t rs o e1 _ fun x G1 s1 r1 => ?_
  refine hb Z H σ ρ F u rs o e2 _ fun y G2 s2 r2 => ?_
  exact hr Z H x y t u t' G1 G2 o.non r1 r2 e3 Q fun v G sub rt => q v G (fun a g => s1 a (sub a g)) rt
theorem nj_fld {te : TE} {f : Env → Option T} {C : Addr} {x : Str} (hC : Cls K C) (hn : NoAttr K C x) (h : NJ K B te f) : NJ K B (tFld K te x) (fFld C x f) := fun Z H σ ρ F t rs o e Q q => by
  obtain ⟨u, c, e⟩ := bind2 (γ := Unit) e
  obtain ⟨j, c2, e⟩ := bind2 (γ := Unit) e
  obtain ⟨fs, ts, rfl, ix⟩ := fldIx_ok c2
  have e : ts[j]? = some t := e
  refine h Z H σ ρ F _ rs o c _ fun v G sub r1 => ?_
  cases r1 with
  | @nd _ _ a vs Fc ho hl hno =>
    obtain ⟨hl2, dx, ha⟩ := ho
    obtain ⟨w, Gw, hw, rw, sw⟩ := hl.get e
    have lk := idxOf_lookup ix hl2
    exact ⟨a, _, dx, _, w, rfl, ha, hC, hn, lk.trans hw, q w Gw (fun b g => sub b (put_r b (sw b g))) rw⟩
theorem nj_dget {td tk : TE} {fd fk : Env → Option T} (hd : NJ K B td fd) (hk : NJ K B tk fk) : NJ K B (tDGet td tk) (f2 fd fk gDG) := fun Z H σ ρ F t' rs o e Q q => by
  obtain ⟨t, u, e1, e2, e3⟩ := f2_ok e
  refine hd Z H σ ρ F t rs o e1 _ fun x G1 s1 r1 => ?_
  refine hk Z H σ ρ F u rs o e2 _ fun y G2 s2 r2 => ?_
  unfold gDG at e3
  obtain ⟨r, c, e3⟩ := bind2 (γ := Unit) e3
  have e3 : r = some t' := e3
  subst e3
  obtain ⟨a, ov, rfl, dg, h | ⟨u', v, G, h1, h2, h3, h4⟩⟩ := dget_ok r1 r2 (entT_ok c)
  · cases h.1
  · cases h1
    subst h2
    exact ⟨a, v, rfl, dg, q v G (fun b g => s1 b (h4 b g)) h3⟩
/-- the keys of the numbers -/
def keysBy (fb : Env → Option T) (cap : List T) : List Int → Option (List Int)
  | [] => some []
  | k :: ks => ((fb (.at (.int k) :: cap)).bind asI).bind fun g => (keysBy fb cap ks).map fun gs => g :: gs
theorem keysBy_get {fb : Env → Option T} {cap : List T} : ∀ {ks gs : List Int}, keysBy fb cap ks = some gs → gs.length = ks.length ∧ ∀ (i : Nat) (k : Int), ks[i]? = some k → ∃ g, gs[i]? = some g ∧ fb (.at (.int k) :: cap) = some (.at (.int g))
  | [], _, h => by
    cases h
    exact ⟨rfl, fun i k h => by simp at h⟩
  | k :: ks, gs, h => by
    have h : (((fb (.at (.int k) :: cap)).bind asI).bind fun g => (keysBy fb cap ks).map fun gs => g :: gs) = some gs := h
    obtain ⟨g, c, h⟩ := bind2 (γ := Unit) h
    obtain ⟨t, c1, c2⟩ := bind2 (γ := Unit) c
    cases asI_eq c2
    cases c3 : keysBy fb cap ks with
    | none => rw [c3] at h; cases h
    | some us =>
      rw [c3] at h
      cases h
      obtain ⟨l, f⟩ := keysBy_get c3
      refine ⟨by simp [l], fun i k' hk => ?_⟩
      cases i with
      | zero =>
        cases hk
        exact ⟨g, rfl, c1⟩
      | succ i => exact f i k' (by simpa using hk)
/-- the numbers below n by their keys -/
def byKeys (n : Nat) (gs : List Int) : List Int := (LT.numbers n).mergeSort fun a b => decide (gs.getD a.toNat 0 ≤ gs.getD b.toNat 0)
theorem byKeys_unique {n : Nat} {gs : List Int} (hl : gs.length = n) (nd : gs.Nodup) {ks : List Int} (p : ks.Perm (LT.numbers n)) (w : ks.Pairwise fun a b => gs.getD a.toNat 0 ≤ gs.getD b.toNat 0) : ks = byKeys n gs := by
  have lt : ∀ {a b : Int}, a ∈ LT.numbers n → b ∈ LT.numbers n → a ≠ b → gs.getD a.toNat 0 ≤ gs.getD b.toNat 0 → gs.getD a.toNat 0 < gs.getD b.toNat 0 := fun {a b} ha hb ne h => by
    obtain ⟨a0, a1⟩ := LT.numbers_mem.mp ha
    obtain ⟨b0, b1⟩ := LT.numbers_mem.mp hb
    have la : a.toNat < gs.length := by omega
    have lb : b.toNat < gs.length := by omega
    rw [List.getD_eq_getElem?_getD, List.getD_eq_getElem?_getD, List.getElem?_eq_getElem la, List.getElem?_eq_getElem lb] at h ⊢
    have h : gs[a.toNat] ≤ gs[b.toNat] := h
    show gs[a.toNat] < gs[b.toNat]
    have hne : gs[a.toNat] ≠ gs[b.toNat] := fun e => ne (by
      have pw := List.pairwise_iff_getElem.mp nd
      rcases Nat.lt_trichotomy a.toNat b.toNat with z | z | z
      · exact (pw _ _ la lb z e).elim
      · omega
      · exact (pw _ _ lb la z e.symm).elim)
    omega
  have strict : ∀ {l : List Int}, l.Perm (LT.numbers n) → (l.Pairwise fun a b => gs.getD a.toNat 0 ≤ gs.getD b.toNat 0) → l.Pairwise fun a b => gs.getD a.toNat 0 < gs.getD b.toNat 0 := fun {l} p w => by
    have nd : l.Nodup := p.nodup_iff.mpr LT.numbers_nodup
    exact (w.and nd).imp_of_mem fun {a b} ma mb z => lt (p.mem_iff.mp ma) (p.mem_iff.mp mb) z.2 z.1
  have p2 : (byKeys n gs).Perm (LT.numbers n) := List.mergeSort_perm ..
  have w2 : (byKeys n gs).Pairwise fun a b => gs.getD a.toNat 0 ≤ gs.getD b.toNat 0 := by
    have q := List.pairwise_mergeSort (le := fun a b => decide (gs.getD a.toNat 0 ≤ gs.getD b.toNat 0)) (fun a b c h1 h2 => by simp at h1 h2 ⊢; omega) (fun a b => by simp; omega) (LT.numbers n)
    exact q.imp fun {a b} z => of_decide_eq_true z
  exact LT.ordered_unique (r := fun a b => gs.getD a.toNat 0 < gs.getD b.toNat 0) (fun a b h1 h2 => by omega) (p.trans p2.symm) (strict p w) (strict p2 w2)
/-- sorted(range(..), key=lambda x: ..), the lambda of one slot j -/
def fSortLam (fa : Env → Option T) (j : Nat) (fb : Env → Option T) : Env → Option T := fun ρ => ((fa ρ).bind asI).bind fun n => (fVar j ρ).bind fun cap => if 0 ≤ n ∧ n < 64 then (keysBy fb [cap] (LT.numbers n.toNat)).bind fun gs => if gs.Nodup then some (.nd (.lst true) (TI (byKeys n.toNat gs))) else none else none
theorem fj_sortLam {p : Addr} {qn : Str} (hB : (p, qn) ∈ B) (hu : ∀ a q', (a, q') ∈ B → a = p → q' = qn) {ta tb : TE} {N : List Str} {j : Nat} {fa fb : Env → Option T} (hN : N.length = 2) (ha : PJ K B ta fa) (hb : NJ K B tb fb) : FJ K B (LT.tSortLam p qn ta N [j] tb) (fSortLam fa j fb) := fun Z H σ ρ F t' rs o e Q q => by
  unfold fSortLam at e
  obtain ⟨n, c, e⟩ := bind2 (γ := Unit) e
  obtain ⟨t, c1, c2⟩ := bind2 (γ := Unit) c
  obtain ⟨cap, c3, e⟩ := bind2 (γ := Unit) e
  split at e
  · rename_i hn
    obtain ⟨gs, c4, e⟩ := bind2 (γ := Unit) e
    split at e
    · rename_i hnd
      cases e
      refine ha Z H σ ρ F t rs o c1 _ fun v H1 Z1 G a1 _ _ r1 => ?_
      cases asI_eq c2
      obtain ⟨rfl, _⟩ := r1.at_eq
      have rs1 := rs.pst o a1
      have s1 := a1.env o rs.no
      obtain ⟨kl, kg⟩ := keysBy_get c4
      rw [LT.numbers_len] at kl
      refine ⟨n.toNat, fun k => gs.getD k.toNat 0, by rw [Int.toNat_of_nonneg hn.1], by omega, s1.ok.amb p qn hB, fun H2 fr tb2 => ?_⟩
      have fx : Fx (bs B) H1 H2 := ⟨fun b ob nb eb => fr.keep b ob (fun z => nb ⟨qn, by rw [List.mem_singleton.mp z]; exact hB⟩) eb, fr.tup, fr.frz, fr.ext, fun b eb => by
        cases eh : H1 b with
        | none => rfl
        | some ob =>
          by_cases cb : b = p
          · rw [cb] at eb
            obtain ⟨ps, z, _⟩ := tb2
            rw [eb] at z; cases z
          · rw [fr.keep b ob (by simp [cb]) eh] at eb
            cases eb⟩
      have am2 : Amb B H2 := fun a q' hq => by
        by_cases ca : a = p
        · rw [ca, hu a q' hq ca]
          exact tb2
        · exact LT.tab_fr (s1.ok.amb a q' hq) fr (by simp [ca])
      have a2 : Pst B Z1 H1 Z1 H2 := ⟨fx.mono fun b z => .inr z, fun _ z => z, fun _ z => .inl z, fun _ z => z.elim, ⟨fun _ z => z.elim, fun a z => by
        obtain ⟨u, hu', n'⟩ := s1.ok.zal a z
        exact ⟨u, fx.keep a u (s1.ok.zb a z) hu', n'⟩, am2⟩⟩
      have rs2 := rs1.pst s1.ok a2
      have s2 := a2.env s1.ok rs1.no
      obtain ⟨d1, d2⟩ := fVar_get c3
      obtain ⟨x, Gx, hx, rx, sx⟩ := rs2.get d1 d2
      have sl : NdefX.slotAt σ j = some x := by
        unfold NdefX.slotAt
        rw [hx]
      refine ⟨fun k hk => ?_, fun ns D pm pw nD => ?_⟩
      · have st : NdefX.startF N [.int k] ([j].map (NdefX.slotAt σ)) = [some (.int k), some x] := by
          unfold NdefX.startF
          rw [hN]
          show [some (V.int k)] ++ ([NdefX.slotAt σ j] ++ []) = _
          rw [sl]
          rfl
        rw [st]
        have rl : RepL K Z1 H2 [.at (.int k), cap] [.int k, x] Gx := by
          have z := RepL.cons (Rep.at (K := K) (Z := Z1) (H := H2) (v := .int k) rfl) (RepL.one rx) Dj.non'
          rw [non_uni] at z
          exact z
        have rsk : RepS K Z1 H2 [some (.int k), some x] [.at (.int k), cap] Gx := ⟨rfl, _, rl, fun i v t hv ht => by
          right
          match i with
          | 0 => cases hv; rfl
          | 1 => cases hv; rfl
          | i + 2 => simp at hv⟩
        obtain ⟨g, hg, fk⟩ := kg k k (by
          unfold LT.numbers
          rw [List.getElem?_map, List.getElem?_range hk]
          rfl)
        refine hb Z1 H2 _ _ Gx _ rsk (s2.ok.sub sx) fk _ fun v Gv _ rv => ?_
        obtain ⟨rfl, _⟩ := rv.at_eq
        refine ⟨?_, rfl⟩
        show V.int g = V.int (gs.getD ((k : Nat) : Int).toNat 0)
        rw [List.getD_eq_getElem?_getD, Int.toNat_natCast, hg]
        rfl
      · have : ns = byKeys n.toNat gs := byKeys_unique kl hnd pm pw
        subst this
        exact newList a2.ok (RepL.ofInts _) nD fun v H' Z' G a4 n4 d4 r4 => q v H' Z' G (a1.trans (a2.trans a4)) (fun a g => a1.fx.al _ (a2.fx.al _ (n4 a g))) d4 r4
    · cases e
  · cases e
end
end TV
/-! sorted pairs; sorted keys. -/
namespace TV
open PySem L2
section
variable {K : PySem.W.Frag} {B : Tabs} {E : XK} {P : Nat → Prop}
def pairT (p : Int × Int) : T := .nd .tup [.at (.int p.1), .at (.int p.2)]
def pairOf : T → Option (Int × Int)
  | .nd .tup [.at (.int i), .at (.int j)] => some (i, j)
  | _ => none
theorem pairOf_eq {t : T} {p : Int × Int} (h : pairOf t = some p) : t = pairT p := by
  unfold pairOf at h
  split at h
  · cases h; rfl
  · cases h
def pairsOf : List T → Option (List (Int × Int))
  | [] => some []
  | t :: ts => (pairOf t).bind fun p => (pairsOf ts).map fun ps => p :: ps
theorem pairsOf_eq : ∀ {ts : List T} {ps : List (Int × Int)}, pairsOf ts = some ps → ts = ps.map pairT
  | [], _, h => by cases h; rfl
  | t :: ts, ps, h => by
    have h : ((pairOf t).bind fun p => (pairsOf ts).map fun ps => p :: ps) = some ps := h
    obtain ⟨p, c, h⟩ := bind2 (γ := Unit) h
    cases c2 : pairsOf ts with
    | none => rw [c2] at h; cases h
    | some us =>
      rw [c2] at h
      cases h
      rw [pairOf_eq c, pairsOf_eq c2]
      rfl
def lexLE (a b : Int × Int) : Bool := decide (a.1 < b.1) || (decide (a.1 = b.1) && decide (a.2 ≤ b.2))
theorem lexLE_iff {a b : Int × Int} : lexLE a b = true ↔ a.1 < b.1 ∨ (a.1 = b.1 ∧ a.2 ≤ b.2) := by
  unfold lexLE
  rw [Bool.or_eq_true, Bool.and_eq_true, decide_eq_true_eq, decide_eq_true_eq, decide_eq_true_eq]
def sortP (ps : List (Int × Int)) : List (Int × Int) := ps.mergeSort lexLE
theorem sortP_unique {ps qs : List (Int × Int)} (p : qs.Perm ps) (w : qs.Pairwise fun a b => lexLE a b = true) : qs = sortP ps := by
  have p2 : (sortP ps).Perm ps := List.mergeSort_perm ..
  have w2 : (sortP ps).Pairwise fun a b => lexLE a b = true := by
    refine List.pairwise_mergeSort (fun a b c h1 h2 => ?_) (fun a b => ?_) ps
    · rw [lexLE_iff] at h1 h2 ⊢
      omega
    · rw [Bool.or_eq_true, lexLE_iff, lexLE_iff]
      omega
  have q := p.trans p2.symm
  clear p p2
  generalize sortP ps = rs at q w2
  induction qs generalizing rs with
  | nil => exact (List.Perm.eq_nil q.symm).symm
  | cons a qs ih =>
    cases rs with
    | nil => exact absurd q.length_eq (by simp)
    | cons b rs =>
      have h1 : lexLE a b = true := by
        rcases List.mem_cons.mp (q.mem_iff.mpr (List.mem_cons_self (a := b) (l := rs))) with e | h
        · rw [e, lexLE_iff]; omega
        · exact (List.pairwise_cons.mp w).1 b h
      have h2 : lexLE b a = true := by
        rcases List.mem_cons.mp (q.mem_iff.mp (List.mem_cons_self (a := a) (l := qs))) with e | h
        · rw [e, lexLE_iff]; omega
        · exact (List.pairwise_cons.mp w2).1 a h
      have e : a = b := by
        rw [lexLE_iff] at h1 h2
        obtain ⟨a1, a2⟩ := a
        obtain ⟨b1, b2⟩ := b
        have : a1 = b1 ∧ a2 = b2 := by
          dsimp only at h1 h2
          omega
        rw [this.1, this.2]
      subst e
      rw [ih (List.pairwise_cons.mp w).2 rs q.cons_inv (List.pairwise_cons.mp w2).2]
/-- the two ints of a tuple at a reference -/
def kAt (H : Hp) : V → Int × Int
  | .ref t => match H t with
    | some (.tup [.int i, .int j]) => (i, j)
    | _ => (0, 0)
  | _ => (0, 0)
theorem pair_at {Z F : AS} {H : Hp} {p : Int × Int} {v : V} (r : Rep K Z H (pairT p) v F) : ∃ t, v = .ref t ∧ H t = some (.tup [.int p.1, .int p.2]) ∧ kAt H v = p := by
  cases r with
  | @nd _ _ a vs Fc ho hl hn =>
    cases hl with
    | cons h1 h2 _ =>
      obtain ⟨w, rfl, h3⟩ := h2.ofOne
      obtain ⟨rfl, _⟩ := h1.at_eq
      obtain ⟨rfl, _⟩ := h3.at_eq
      have ho : H a = some (.tup [.int p.1, .int p.2]) := ho
      refine ⟨a, rfl, ho, ?_⟩
      show (match H a with | some (.tup [.int i, .int j]) => (i, j) | _ => (0, 0)) = p
      rw [ho]
theorem pair_rep {Z : AS} {H : Hp} {p : Int × Int} {t : Addr} (h : H t = some (.tup [.int p.1, .int p.2])) : Rep K Z H (pairT p) (.ref t) non := by
  have rl : RepL K Z H [.at (.int p.1), .at (.int p.2)] [.int p.1, .int p.2] non := by
    have z := RepL.cons (Rep.at (K := K) (Z := Z) (H := H) (v := .int p.1) rfl) (RepL.one (Rep.at (v := .int p.2) rfl)) Dj.non
    rw [non_uni] at z
    exact z
  exact Rep.nd (k := .tup) h rl fun z => by cases z
def gSortP : List T → Option T
  | [t] => (lsT t).bind fun ts => (pairsOf ts).map fun ps => .nd (.lst true) ((sortP ps).map pairT)
  | _ => none
theorem cs_sortP : CallS K B (rSortedPO K) gSortP := fun Z H ts vs t' o pr e Q q => by
  match ts, e with
  | [t], e =>
    obtain ⟨v, G, rfl, r⟩ := Paired.one' pr
    have e : ((lsT t).bind fun ts => (pairsOf ts).map fun ps => T.nd (.lst true) ((sortP ps).map pairT)) = some t' := e
    obtain ⟨us, c1, e⟩ := bind2 (γ := Unit) e
    cases c2 : pairsOf us with
    | none => rw [c2] at e; cases e
    | some ps =>
      rw [c2] at e
      cases e
      obtain ⟨a, ws, F, rfl, hs, hl⟩ := lsT_ok r c1
      cases pairsOf_eq c2
      have all : ∀ {qs : List (Int × Int)} {xs : List V} {F : AS}, RepL K Z H (qs.map pairT) xs F → xs.map (kAt H) = qs ∧ ∀ x ∈ xs, ∃ t, x = .ref t ∧ H t = some (.tup [.int (kAt H x).1, .int (kAt H x).2]) := fun {qs} => by
        induction qs with
        | nil =>
          intro xs F h
          cases h
          exact ⟨rfl, fun x hx => absurd hx (by simp)⟩
        | cons p qs ih =>
          intro xs F h
          cases h with
          | cons h1 h2 _ =>
            obtain ⟨e1, e2⟩ := ih h2
            obtain ⟨t, rfl, ht, hk⟩ := pair_at h1
            refine ⟨by rw [List.map_cons, hk, e1], fun x hx => ?_⟩
            rcases List.mem_cons.mp hx with rfl | hx
            · exact ⟨t, rfl, by rw [hk]; exact ht⟩
            · exact e2 x hx
      obtain ⟨ek, ea⟩ := all hl
      refine ⟨a, ws, kAt H, rfl, hs, ea, fun ys p srt stb np => ?_⟩
      have pm := stb.perm
      have ey : ys.map (kAt H) = sortP ps := by
        refine sortP_unique ?_ ?_
        · have := pm.map (kAt H)
          rw [ek] at this
          exact this
        · rw [List.pairwise_map]
          refine srt.imp fun {x y} z => ?_
          have z : (if (kAt H y).1 = (kAt H x).1 then decide ((kAt H y).2 < (kAt H x).2) else decide ((kAt H y).1 < (kAt H x).1)) = false := z
          rw [lexLE_iff]
          split at z
          · have := of_decide_eq_false z
            omega
          · have := of_decide_eq_false z
            omega
      have rep : ∀ {ys : List V}, (∀ y ∈ ys, y ∈ ws) → RepL K Z H ((ys.map (kAt H)).map pairT) ys non := fun {ys} => by
        induction ys with
        | nil => exact fun _ => .nil
        | cons y ys ih =>
          intro hy
          obtain ⟨t, rfl, ht⟩ := ea y (hy y (List.mem_cons_self ..))
          have z := RepL.cons (pair_rep (K := K) (Z := Z) ht) (ih fun u hu => hy u (List.mem_cons_of_mem _ hu)) Dj.non
          rw [non_uni] at z
          exact z
      have rl := rep (ys := ys) fun y hy => pm.mem_iff.mp hy
      rw [ey] at rl
      exact newList o rl np q
end
end TV
/-! max and min of data. -/
namespace TV
open PySem L2
open PySem.W (maxD minD AlikeAll readsAll_at dataLt alike alikeAll dataLt_ii)
def maxL : List PyData → PyData
  | [] => .none
  | x :: xs => maxD x xs
def minL : List PyData → PyData
  | [] => .none
  | x :: xs => minD x xs
section
variable {X : Cx}
def rMaxO (K : PySem.W.Frag) : List V → Hp → VK → Prop := fun vs H Q => ∃ (a : Addr) (xs : List V) (ds : List PyData), vs = [V.ref a] ∧ SqL K H a xs ∧ DpAll K H xs ds ∧ AlikeAll ds ∧ PyData.depthAll ds < 40 ∧ ds ≠ [] ∧ ∀ (i : Nat) (x : V), xs[i]? = some x → ds[i]? = some (maxL ds) → Q x H
def rMinO (K : PySem.W.Frag) : List V → Hp → VK → Prop := fun vs H Q => ∃ (a : Addr) (xs : List V) (ds : List PyData), vs = [V.ref a] ∧ SqL K H a xs ∧ DpAll K H xs ds ∧ AlikeAll ds ∧ PyData.depthAll ds < 40 ∧ ds ≠ [] ∧ ∀ (i : Nat) (x : V), xs[i]? = some x → ds[i]? = some (minL ds) → Q x H
theorem item_back {H : Hp} {pins : List (Addr × Obj)} {σ : St} {s : Shared} (I : Inv X pins σ H s) {xs : List V} {us : List Value} {ds : List PyData} {as : List Addr} (rv : Vals xs us) (hr : ReadsAll s.heap us ds as) {i : Nat} {v : Value} (hv : us[i]? = some v) {h' : Heap} (hk : ∀ b o, s.heap.get? b = some o → h'.get? b = some o) {d : PyData} {bs : List Addr} (r : Reads h' v d bs) : ∃ x, xs[i]? = some x ∧ RelV x v ∧ ds[i]? = some d := by
  obtain ⟨cs, r1, l1, _, _⟩ := readsAll_at hr i v hv
  have e := (PySem.Reads.unique (PySem.W.reads_keeps hk r1) d bs r).1
  have hx : i < xs.length := by
    rw [rv.length]
    exact (List.getElem?_eq_some_iff.mp hv).1
  have ex : xs[i]? = some xs[i] := List.getElem?_eq_getElem hx
  refine ⟨xs[i], ex, ?_, ?_⟩
  · obtain ⟨u, hu, ru⟩ := rv.get ex
    rw [hv] at hu
    cases hu
    exact ru
  · rw [← e, List.getElem?_eq_getElem l1, List.getD_eq_getElem?_getD, List.getElem?_eq_getElem l1]
    rfl
theorem cr_maxO (hc : X.calm = true) (hu : X.A.units + 64 < cLine) : CallR X (.builtin "max") (rMaxO X.K) := by
  intro pins s σ H vs us Q I r h
  obtain ⟨a, xs, ds, rfl, hs, hd, ha, h4, hne, q⟩ := h
  obtain ⟨its, rv, hl, _⟩ := I.list hs
  rw [Vals.ref1 r]
  obtain ⟨as, hr⟩ := Dp.readsAll I ds _ its hd rv
  cases ds with
  | nil => exact absurd rfl hne
  | cons d ds =>
    refine PySem.W.max_list_data (I.ok.hd hc) hl.isList (by exact hr) ha (by omega) fun i v h' tk bs hv rd hk => ?_
    obtain ⟨x, hx, rx, hdx⟩ := item_back I rv hr (i := i) (v := v) (by simpa using hv) hk rd
    exact ⟨x, H, I.kept hk, rx, q i x hx hdx⟩
theorem cr_minO (hc : X.calm = true) (hu : X.A.units + 64 < cLine) : CallR X (.builtin "min") (rMinO X.K) := by
  intro pins s σ H vs us Q I r h
  obtain ⟨a, xs, ds, rfl, hs, hd, ha, h4, hne, q⟩ := h
  obtain ⟨its, rv, hl, _⟩ := I.list hs
  rw [Vals.ref1 r]
  obtain ⟨as, hr⟩ := Dp.readsAll I ds _ its hd rv
  cases ds with
  | nil => exact absurd rfl hne
  | cons d ds =>
    refine PySem.W.min_list_data (I.ok.hd hc) hl.isList (by exact hr) ha (by omega) fun i v h' tk bs hv rd hk => ?_
    obtain ⟨x, hx, rx, hdx⟩ := item_back I rv hr (i := i) (v := v) (by simpa using hv) hk rd
    exact ⟨x, H, I.kept hk, rx, q i x hx hdx⟩
end
section
variable {K : PySem.W.Frag} {B : Tabs} {E : XK} {P : Nat → Prop}
def datP (p : Int × Int) : PyData := .tuple [.int p.1, .int p.2]
theorem datP_inj {p q : Int × Int} (h : datP p = datP q) : p = q := by
  obtain ⟨a, b⟩ := p
  obtain ⟨c, d⟩ := q
  unfold datP at h
  injection h with h
  injection h with h1 h2
  injection h2 with h2 _
  injection h1 with h1
  injection h2 with h2
  exact Prod.ext h1 h2
theorem datP_lt (p q : Int × Int) : dataLt (datP p) (datP q) = !lexLE q p := by
  unfold datP
  rw [dataLt_ii]
  cases c : lexLE q p with
  | true =>
    rw [lexLE_iff] at c
    exact decide_eq_false (by omega)
  | false =>
    have c2 : ¬ (lexLE q p = true) := by rw [c]; decide
    rw [lexLE_iff] at c2
    exact decide_eq_true (by omega)
def maxPs (p : Int × Int) (ps : List (Int × Int)) : Int × Int := ps.foldl (fun a y => if lexLE y a = true then a else y) p
theorem maxPs_dat : ∀ (ps : List (Int × Int)) (p : Int × Int), maxD (datP p) (ps.map datP) = datP (maxPs p ps)
  | [], _ => rfl
  | q :: ps, p => by
    have e : (if dataLt (datP p) (datP q) = true then datP q else datP p) = datP (if lexLE q p = true then p else q) := by
      rw [datP_lt]
      cases lexLE q p <;> rfl
    show maxD (if dataLt (datP p) (datP q) = true then datP q else datP p) (ps.map datP) = datP (maxPs (if lexLE q p = true then p else q) ps)
    rw [e]
    exact maxPs_dat ps _
theorem maxPs_ok : ∀ (ps : List (Int × Int)) (p : Int × Int), maxPs p ps ∈ p :: ps ∧ ∀ y ∈ p :: ps, lexLE y (maxPs p ps) = true
  | [], p => ⟨List.mem_cons_self .., fun y hy => by
    rw [List.mem_singleton.mp hy]
    show lexLE p p = true
    rw [lexLE_iff]
    omega⟩
  | q :: ps, p => by
    have ih := maxPs_ok ps (if lexLE q p = true then p else q)
    have e : maxPs p (q :: ps) = maxPs (if lexLE q p = true then p else q) ps := rfl
    rw [e]
    generalize maxPs (if lexLE q p = true then p else q) ps = m at ih
    obtain ⟨i1, i2⟩ := ih
    cases c : lexLE q p with
    | true =>
      rw [c] at i1 i2
      have i1 : m ∈ p :: ps := i1
      have i2 : ∀ y ∈ p :: ps, lexLE y m = true := i2
      refine ⟨?_, fun y hy => ?_⟩
      · rcases List.mem_cons.mp i1 with h | h
        · rw [h]; exact List.mem_cons_self ..
        · exact List.mem_cons_of_mem _ (List.mem_cons_of_mem _ h)
      · rcases List.mem_cons.mp hy with h | h
        · rw [h]; exact i2 p (List.mem_cons_self ..)
        · rcases List.mem_cons.mp h with h | h
          · have := i2 p (List.mem_cons_self ..)
            rw [lexLE_iff] at this c
            rw [h, lexLE_iff]
            omega
          · exact i2 y (List.mem_cons_of_mem _ h)
    | false =>
      rw [c] at i1 i2
      have i1 : m ∈ q :: ps := i1
      have i2 : ∀ y ∈ q :: ps, lexLE y m = true := i2
      have c2 : ¬ (lexLE q p = true) := by rw [c]; decide
      refine ⟨List.mem_cons_of_mem _ i1, fun y hy => ?_⟩
      rcases List.mem_cons.mp hy with h | h
      · have := i2 q (List.mem_cons_self ..)
        rw [lexLE_iff] at this c2
        rw [h, lexLE_iff]
        omega
      · exact i2 y h
def gMaxP : List T → Option T
  | [t] => (lsT t).bind fun ts => (pairsOf ts).bind fun ps => match ps with
    | [] => none
    | p :: ps => some (pairT (maxPs p ps))
  | _ => none
theorem datP_alike (ps : List (Int × Int)) : AlikeAll (ps.map datP) := by
  refine ⟨fun x hx y hy => ?_, fun x hx => ?_⟩
  · obtain ⟨p, _, rfl⟩ := List.mem_map.mp hx
    obtain ⟨q, _, rfl⟩ := List.mem_map.mp hy
    unfold datP
    simp [alike, alikeAll]
  · obtain ⟨p, _, rfl⟩ := List.mem_map.mp hx
    exact fun h => by cases h
theorem datP_depth : ∀ ps : List (Int × Int), PyData.depthAll (ps.map datP) < 40
  | [] => by decide
  | p :: ps => by
    have := datP_depth ps
    have e : PyData.depthAll ((p :: ps).map datP) = max (datP p).depth (PyData.depthAll (ps.map datP)) := rfl
    rw [e]
    have e2 : (datP p).depth < 40 := by
      unfold datP
      simp [PyData.depth, PyData.depthAll]
    exact Nat.max_lt.mpr ⟨e2, this⟩
theorem cs_maxP : CallS K B (rMaxO K) gMaxP := fun Z H ts vs t' o pr e Q q => by
  match ts, e with
  | [t], e =>
    obtain ⟨v, G, rfl, r⟩ := Paired.one' pr
    have e : ((lsT t).bind fun ts => (pairsOf ts).bind fun ps => match ps with
      | [] => none
      | p :: ps => some (pairT (maxPs p ps))) = some t' := e
    obtain ⟨us, c1, e⟩ := bind2 (γ := Unit) e
    obtain ⟨ps, c2, e3⟩ := bind2 (γ := Unit) e
    clear e
    obtain ⟨a, ws, F, rfl, hs, hl⟩ := lsT_ok r c1
    cases pairsOf_eq c2
    have all : ∀ {qs : List (Int × Int)} {xs : List V} {F : AS}, RepL K Z H (qs.map pairT) xs F → DpAll K H xs (qs.map datP) ∧ ∀ (i : Nat) (x : V) (q : Int × Int), xs[i]? = some x → qs[i]? = some q → Rep K Z H (pairT q) x non := fun {qs} => by
      induction qs with
      | nil =>
        intro xs F h
        cases h
        exact ⟨.nil, fun i x q h => by cases h⟩
      | cons p qs ih =>
        intro xs F h
        cases h with
        | cons h1 h2 _ =>
          obtain ⟨e1, e2⟩ := ih h2
          refine ⟨.cons (h1.dat rfl) e1, fun i x q hx hq => ?_⟩
          cases i with
          | zero =>
            cases hx
            cases hq
            obtain ⟨t, rfl, ht, hk⟩ := pair_at h1
            exact pair_rep ht
          | succ i => exact e2 i x q hx hq
    obtain ⟨hd, rep⟩ := all hl
    cases ps with
    | nil => cases e3
    | cons p ps =>
      cases e3
      refine ⟨a, ws, (p :: ps).map datP, rfl, hs, hd, datP_alike _, datP_depth _, (by simp), fun i x hx hm => ?_⟩
      have em : maxL ((p :: ps).map datP) = datP (maxPs p ps) := maxPs_dat ps p
      rw [em, List.getElem?_map] at hm
      cases c : (p :: ps)[i]? with
      | none => rw [c] at hm; cases hm
      | some w =>
        rw [c] at hm
        have hw : w = maxPs p ps := datP_inj (Option.some.inj hm)
        rw [hw] at c
        exact q x H Z non (Stp.refl o) (fun _ z => z.elim) Dj.non' (rep i x _ hx c)
end
end TV
/-! a, b, c = x, y, z -/
namespace TV
open PySem L2
section
variable {K : PySem.W.Frag} {B : Tabs} {E : XK} {P : Nat → Prop}
def sPar3 (i j l : Nat) (f : EM (List T)) : SM := sE f fun ts ρ => (gCons' (gN i) (gCons' (gN j) (gCons' (gN l) gNil')) ts ρ).map fun ρ' => (.nx, ρ')
theorem sj_par3 {i j l : Nat} {ta : TA} {f : EM (List T)} (hi : ¬ P i) (hj : ¬ P j) (hl : ¬ P l) (h : AJ K B E ta f) : SJ K B P E (tPar3 i j l ta) (sPar3 i j l f) := fun Z H σ ρ F r ρ' rs o e D q qr => by
  rcases sE_ok e with ⟨ts, ρ1, e1, e⟩ | ⟨x, e1, rfl⟩
  · cases c : gCons' (gN i) (gCons' (gN j) (gCons' (gN l) gNil')) ts ρ1 with
    | none => simp only [c] at e; cases e
    | some ρ2 =>
      simp only [c] at e
      cases e
      refine h Z H σ ρ F _ _ rs o e1 _ (fun t1 et vs H1 Z1 G1 F1 s1 d1 r1 rs1 => ?_) fun x ex => by cases ex
      cases et
      have z := gsj_cons (K := K) (B := B) (gj_name hi) (gsj_cons (gj_name hj) (gsj_cons (gj_name hl) gsj_nil)) Z1 H1 σ ρ1 F1 G1 ts vs _ rs1 s1.ok d1 r1 c (fun σ' H' => D.nx σ' H') fun σ2 H2 Z2 F2 k2 s2 rs2 => (q σ2 H2 Z2 F2 k2 (s1.trans s2) rs2).1 rfl
      obtain ⟨v, r', rfl, w, r'', rfl, u, r3, rfl, hn, z⟩ := z
      subst hn
      exact ⟨v, w, u, rfl, z⟩
  · refine h Z H σ ρ F _ ρ' rs o e1 _ (fun t1 et => by cases et) fun x' ex d H1 Z1 F1 s1 rs1 xo => ?_
    cases ex
    exact (q σ H1 Z1 F1 sm0 s1 rs1).2.2.2 x rfl d xo
end
end TV
/-! What is new is frozen as it is kept. -/
namespace TV
open PySem L2
section
variable {K : PySem.W.Frag} {B : Tabs}
def frzF (f : Env → Option T) : Env → Option T := fun ρ => (f ρ).bind fun t => if canFrz t = true then some (frz t) else none
theorem fj_frz {te : TE} {f : Env → Option T} (h : FJ K B te f) : FJ K B te (frzF f) := fun Z H σ ρ F t' rs o e Q q => by
  unfold frzF at e
  obtain ⟨t, c1, e⟩ := bind2 (γ := Unit) e
  split at e
  · rename_i c
    cases e
    refine h Z H σ ρ F t rs o c1 _ fun v H1 Z1 G a1 gn d1 r1 => ?_
    have k : Ok B Z1 (uni G non) H1 := ⟨by rw [uni_non]; exact d1, a1.ok.zal, a1.ok.amb⟩
    have st := Stp.freeze (F := non) k Dj.non r1.al
    have rf := r1.frz (Z' := uni Z1 G) (fun _ z => .inl z) c fun a g => .inr g
    have s2 : Pst B Z H (uni Z1 G) H1 := by
      refine ⟨a1.fx, fun a z => .inl (a1.zz a z), fun a z => ?_, fun a z => z.elim, st.ok⟩
      rcases z with z | z
      · exact a1.zn a z
      · exact .inr (.inr (gn a z))
    exact q v H1 (uni Z1 G) non s2 (fun _ z => z.elim) Dj.non' rf
  · cases e
end
end TV
/-! What the printed proofs name besides. -/
namespace TV
open PySem L2
theorem roomB {k : Nat} {A : Around} (hr : Room (k + 1) A) : Room k A.in1.in1 := by
  refine ⟨hr.hd, ?_, ?_⟩
  · have := hr.dp
    show A.depth + 3 * k + 5 < recursionLimit
    omega
  · have := hr.un
    show A.units + 1 + 1 + 16 * k + 200 < cLine
    omega
theorem passLN {X : Cx} : Passes (L2N.CX X.prog X.w) X E0 := fun _ _ _ _ _ _ _ h => by
  obtain ⟨_, _, _, _, _, _, _, _, _, _, _, _, q⟩ := h
  exact q.elim
section
variable {K : PySem.W.Frag} {B : Tabs} {E : XK} {P : Nat → Prop}
def vLR (f : EM T) : EM T := bE f fun t => rE ((asI t).bind fun n => if n ≤ 1000 ∧ -1000 ≤ n then some (.nd (.lst true) (intsT 0 n.toNat)) else none)
theorem vj_listRg {ta : TE} {f : EM T} (h : VJ K B E ta f) : VJ K B E (tLstRg (tRg1 ta)) (vLR f) := fun Z H σ ρ F r ρ' rs o e Q q qe => by
  rcases bE_ok e with ⟨t, ρ1, e1, e⟩ | ⟨x, e1, rfl⟩
  · obtain ⟨t', e3, rfl, rfl⟩ := rE_ok e
    obtain ⟨n, c2, e4⟩ := bind2 (γ := Unit) e3
    split at e4
    · rename_i k
      cases e4
      cases asI_eq c2
      refine h Z H σ ρ F _ _ rs o e1 _ (fun t1 et v H1 Z1 G1 F1 s1 d1 r1 rs1 => ?_) fun x ex => by cases ex
      cases et
      obtain ⟨rfl, _⟩ := r1.at_eq
      have o1 := s1.ok.sub (G := F1) fun a z => .inr z
      have sF := s1.less (G := F1) fun a z => .inr z
      refine ⟨n, rfl, ⟨by omega, by omega, by omega, by omega, by omega⟩, fun p np => ?_⟩
      have e : (List.range n.toNat).map (fun (j : Nat) => (0 : Int) + (j : Int)) = (List.range n.toNat).map fun (j : Nat) => (j : Int) := List.map_congr_left fun j _ => by omega
      rw [LT.rgV_ints]
      rw [intsT_TI, e] at q
      exact newList s1.ok.non (RepL.ofInts _) np fun v H' Z' G a4 n4 d4 r4 => by
        obtain ⟨s3, d3⟩ := a4.more o1 rs1.no n4 d4
        exact q _ rfl v H' Z' G F1 (sF.trans s3) d3 r4 (rs1.pst o1 a4)
    · cases e4
  · refine h Z H σ ρ F _ ρ' rs o e1 _ (fun t1 et => by cases et) fun x' ex d H1 Z1 F1 s1 rs1 xo => ?_
    cases ex
    exact qe x rfl d H1 Z1 F1 s1 rs1 xo
/-- a < b < c, c may change the slots -/
def vCh (fa fb : Env → Option T) (fc : EM T) (g g' : T → T → Option T) : EM T := fun ρ => (fa ρ).bind fun t => (fb ρ).bind fun u => (g t u).bind fun z => (asB z).bind fun k => if frzd u = true then (if k = true then bE fc (fun w => rE (g' u w)) ρ else some (.ok (.at (.bl false)), ρ)) else none
theorem vj_chain {r r' : R2} {g g' : T → T → Option T} {ta tb tc : TE} {fa fb : Env → Option T} {fc : EM T} (h1 : OpS K B r g) (h2 : OpS K B r' g') (ha : PJ K B ta fa) (hb : PJ K B tb fb) (hc : VJ K B E tc fc) : VJ K B E (tChain r r' ta tb tc) (vCh fa fb fc g g') := fun Z H σ ρ F res ρ' rs o e Q q qe => by
  unfold vCh at e
  obtain ⟨t, c1, e⟩ := bind2 (γ := Unit) e
  obtain ⟨u, c2, e⟩ := bind2 (γ := Unit) e
  obtain ⟨z, c3, e⟩ := bind2 (γ := Unit) e
  obtain ⟨k, c4, e4⟩ := bind2 (γ := Unit) e
  clear e
  cases asB_eq c4
  split at e4
  · rename_i hz
    refine ha Z H σ ρ F t rs o c1 _ fun x H1 Z1 G1 a1 _ _ r1 => ?_
    have rs1 := rs.pst o a1
    have o1 := (a1.env o rs.no).ok
    refine hb Z1 H1 σ ρ F u rs1 o1 c2 _ fun y H2 Z2 G2 a2 _ _ r2 => ?_
    have r1' := r1.pst o1.non a2
    have rs2 := rs1.pst o1 a2
    have o2 := (a2.env o1 rs1.no).ok
    refine h1 Z2 H2 x y t u _ G1 G2 a2.ok r1' r2 c3 _ fun v H3 Z3 G a3 gn dz rt => ?_
    obtain ⟨rfl, _⟩ := rt.at_eq
    have rs3 := rs2.pst o2 a3
    have a13 := a1.trans (a2.trans a3)
    have s3 := a13.env o rs.no
    refine ⟨k, rfl, ?_⟩
    cases k with
    | false =>
      cases e4
      exact iteF (q _ rfl _ H3 Z3 non F (by rw [non_uni]; exact s3) Dj.non' (.at rfl) rs3)
    | true =>
      rw [if_pos rfl] at e4
      have r2' := r2.pst a2.ok a3
      have := r2'.frzd_eq hz
      subst this
      rcases bE_ok e4 with ⟨w, ρ1, e1, e⟩ | ⟨x, e1, rfl⟩
      · refine iteT (hc Z3 H3 σ ρ F _ ρ1 rs3 s3.ok e1 _ (fun w1 ew y2 H4 Z4 G4 F4 s4 d4 r4 rs4 => ?_) fun x ex => by cases ex)
        cases ew
        obtain ⟨t', e5, rfl, rfl⟩ := rE_ok e
        have r2'' := r2'.stp s3.ok s4 Dj.non'
        have o4 := s4.ok.sub (G := F4) fun a z => .inr z
        refine h2 Z4 H4 y y2 u w t' non G4 s4.ok.non r2'' r4 e5 _ fun v H5 Z5 G5 a5 gn5 dz5 r5 => ?_
        obtain ⟨s5, d5⟩ := a5.more o4 rs4.no gn5 dz5
        exact q t' rfl v H5 Z5 G5 F4 ((s3.trans (s4.less fun a z => .inr z)).trans s5) d5 r5 (rs4.pst o4 a5)
      · refine iteT (hc Z3 H3 σ ρ F _ ρ' rs3 s3.ok e1 _ (fun w1 ew => by cases ew) fun x' ex d H4 Z4 F4 s4 rs4 xo => ?_)
        cases ex
        exact qe x rfl d H4 Z4 F4 (s3.trans s4) rs4 xo
  · cases e4
/-- list(range(a, b)) -/
def fLR2 (fa fb : Env → Option T) : Env → Option T := fun ρ => ((fa ρ).bind asI).bind fun a => ((fb ρ).bind asI).bind fun b => if 0 ≤ a ∧ a ≤ 1000 ∧ 0 ≤ b ∧ b ≤ 1000 then some (.nd (.lst true) (intsT a (b - a).toNat)) else none
theorem fj_listRg2 {ta tb : TE} {fa fb : Env → Option T} (ha : PJ K B ta fa) (hb : PJ K B tb fb) : FJ K B (tLstRg (tRg2 ta tb)) (fLR2 fa fb) := fun Z H σ ρ F t' rs o e Q q => by
  unfold fLR2 at e
  obtain ⟨a, c, e⟩ := bind2 (γ := Unit) e
  obtain ⟨t, c1, c2⟩ := bind2 (γ := Unit) c
  obtain ⟨b, d, e9⟩ := bind2 (γ := Unit) e
  obtain ⟨u, d1, d2⟩ := bind2 (γ := Unit) d
  clear e c d
  cases asI_eq c2
  cases asI_eq d2
  split at e9
  · rename_i k
    cases e9
    refine ha Z H σ ρ F _ rs o c1 _ fun v H1 Z1 G a1 _ _ r1 => ?_
    obtain ⟨rfl, _⟩ := r1.at_eq
    have rs1 := rs.pst o a1
    have o1 := (a1.env o rs.no).ok
    refine hb Z1 H1 σ ρ F _ rs1 o1 d1 _ fun v H2 Z2 G2 a2 _ _ r2 => ?_
    obtain ⟨rfl, _⟩ := r2.at_eq
    refine ⟨a, b, rfl, rfl, ⟨by omega, by omega, by omega, by omega, by omega⟩, fun p np => ?_⟩
    rw [LT.rgV_from]
    rw [intsT_TI] at q
    exact newList a2.ok (RepL.ofInts _) np fun v H' Z' G a4 n4 d4 r4 => q v H' Z' G (a1.trans (a2.trans a4)) (fun a g => a1.fx.al a (a2.fx.al a (n4 a g))) d4 r4
  · cases e9
/-- no error comes of it -/
def nE {α : Type} (f : EM α) : EM α := fun ρ => (f ρ).bind fun r => match r with
  | (.ok a, ρ') => some (.ok a, ρ')
  | _ => none
theorem vj_e0 {te : TE} {f : EM T} (h : VJ K B E0 te f) : VJ K B E te (nE f) := fun Z H σ ρ F r ρ' rs o e Q q qe => by
  unfold nE at e
  obtain ⟨x, c, e⟩ := bind2 (γ := Unit) e
  obtain ⟨w, ρ1⟩ := x
  cases w with
  | error e' => cases e
  | ok t =>
    cases e
    exact h Z H σ ρ F _ _ rs o c Q q fun x ex => by cases ex
theorem Re_nE {α : Type} {f : EM α} {ρ : Env} {Φ : α → Env → Prop} (h : Re f ρ Φ) : Re (nE f) ρ Φ := by
  obtain ⟨a, ρ1, e, q⟩ := h
  exact ⟨a, ρ1, by unfold nE; rw [e]; rfl, q⟩
/-- sorted(d), its keys ints -/
def intKeys : List Key → Option (List Int)
  | [] => some []
  | .inl i :: ks => (intKeys ks).map fun l => i :: l
  | _ :: _ => none
theorem intKeys_eq : ∀ {ks : List Key} {l : List Int}, intKeys ks = some l → ks = l.map Sum.inl
  | [], _, h => by cases h; rfl
  | .inl i :: ks, l, h => by
    have h : (intKeys ks).map (fun l => i :: l) = some l := h
    cases c : intKeys ks with
    | none => rw [c] at h; cases h
    | some m =>
      rw [c] at h
      cases h
      rw [intKeys_eq c]
      rfl
  | .inr _ :: _, _, h => by cases h
def gSortD : List T → Option T
  | [.nd (.dk _ ks) _] => (intKeys ks).bind fun l => if l.length < 64 then some (.nd (.lst true) (TI (sortI l))) else none
  | _ => none
theorem cs_sortD : CallS K B (fun xs H Q => ∃ (a : Addr) (kvs : List (Key × V)) (ks : List Int), xs = [V.ref a] ∧ Rd H a (HO.dK kvs) ∧ List.map (fun x => x.fst) kvs = List.map Sum.inl ks ∧ ks.length < 64 ∧
    ∀ (ys : List Int) (p : Addr), ys.Perm ks → List.Pairwise (fun x1 x2 => x1 ≤ x2) ys → H p = none → Q (V.ref p) (upd H p (HO.lst (List.map V.int ys)))) gSortD := fun Z H ts vs t' o pr e Q q => by
  match ts, e with
  | [.nd (.dk m ks) us], e =>
    obtain ⟨v, G, rfl, r⟩ := Paired.one' pr
    have e : ((intKeys ks).bind fun l => if l.length < 64 then some (T.nd (.lst true) (TI (sortI l))) else none) = some t' := e
    obtain ⟨l, c, e⟩ := bind2 (γ := Unit) e
    split at e
    · rename_i k
      cases e
      cases r with
      | @nd _ _ a ws Fc ho hl hn =>
        obtain ⟨h1, h2, _⟩ := ho
        refine ⟨a, _, l, rfl, .inl h2, ?_, k, fun ys p pm pw np => ?_⟩
        · rw [← intKeys_eq c]
          show List.map Prod.fst (ks.zip ws) = ks
          rw [List.map_fst_zip (by omega)]
        · have : ys = sortI l := LT.rising_unique pm pw
          subst this
          exact newList o (RepL.ofInts _) np q
    · cases e
end
def qLam (f : Str) : Str := f ++ ".<locals>." ++ "<lambda>"
end TV
/-! The end of a law: its plain function answers True at every script. -/
namespace TV
open PySem L2 LT
theorem run_of {K : PySem.W.Frag} {B : Tabs} {G : Fn} (h : ∀ ns : List Int, ns.length ≤ 63 → Rg G [.nd .scr (TI ns)] fun t _ => t = .at (.bl true)) (vs : List V) (H : Hp) (Q : VK) (E : XK) (hs : spRun (Scr K) B vs H Q E) : spOf K B G vs H Q E := by
  obtain ⟨a, ns, rfl, hS, hl, ht, q⟩ := hs
  obtain ⟨t, ts', e, rfl⟩ := h ns hl
  have r : Rep K non H (.nd .scr (TI ns)) (.ref a) non := Rep.nd (k := .scr) hS (RepL.ofInts _) fun z => by cases z
  have rl := RepL.one r
  refine ⟨non, _, non, _, ts', rl, ⟨Dj.non', fun _ z => z.elim, fun a q m => ht (a, q) m⟩, e, fun t et v H' Z' Gr F' s d r _ => ?_, fun e ee => by cases ee⟩
  cases et
  obtain ⟨rfl, _⟩ := r.at_eq
  exact q H'
end TV
namespace TV
open PySem L2
theorem tab_mk {K : PySem.W.Frag} {x : Str} {f c P : Addr} {o1 o2 : Value} {d1 d2 : Option Addr} {fd : FuncData} {s1 s2 : Array (Option Value)} {vs : Array Value} (a : PySem.W.nsIn K mainGlobals x = some (some (.ref f))) (l : K.lookup f = some ⟨o1, d1, .func fd, s1⟩) (hc : fd.code = .ref c)
    (lc : K.lookup c = some ⟨o2, d2, .fields vs, s2⟩) (hv : vs[11]? = some (.ref P)) : PySem.W.tabIn K x = some (c, P) := by
  unfold PySem.W.tabIn
  simp only [a, l, hc, lc, hv]
end TV
/-! Trees of the program's own values. -/
namespace TV
open PySem L2 LT
def intT (i : Int) : T := .at (.int i)
def roadT (r : Rd3) : T := .nd .tup [.at (.int r.1), .at (.int r.2.1), .at (.int r.2.2)]
def rsT (rs : List Rd3) : List T := rs.map roadT
def lT (m : Bool) (l : List Int) : T := .nd (.lst m) (TI l)
def rT (m : Bool) (l : List Rd3) : T := .nd (.lst m) (rsT l)
def oT : Option Int → T
  | none => .at .non
  | some i => .at (.int i)
def webT (C : Addr) (n : Int) (rs : List Rd3) : T := .nd (.obj C ["_hands", "_roads"]) [.at (.int n), rT false rs]
def acr (r : Rd3) (h : Int) : Option Int := if h = r.1 then some r.2.1 else if h = r.2.1 then some r.1 else none
theorem ixN_nat {n i : Nat} (h : i < n) : ixN n (i : Int) = some i := by
  unfold ixN
  rw [if_pos (by omega), if_pos (by omega)]
  simp
theorem ixN_pos {n : Nat} {i : Int} (h0 : 0 ≤ i) (h1 : i < n) : ixN n i = some i.toNat := by
  unfold ixN
  rw [if_pos h0, if_pos (by omega)]
theorem at_pos {α : Type} {xs : List α} {i : Int} {x : α} (h0 : 0 ≤ i) (h : xs[i.toNat]? = some x) : atI xs i = some x := by
  have := (List.getElem?_eq_some_iff.mp h).1
  exact atI_of (ixN_pos h0 (by omega)) h
theorem ix_lst {m : Bool} {ts : List T} {i : Int} {t : T} (h0 : 0 ≤ i) (h : ts[i.toNat]? = some t) : gIxL (.nd (.lst m) ts) (.at (.int i)) = some t := at_pos h0 h
theorem rsT_get {rs : List Rd3} {k : Int} {r : Rd3} (h : rs[k.toNat]? = some r) : (rsT rs)[k.toNat]? = some (roadT r) := by
  unfold rsT
  rw [List.getElem?_map, h]
  rfl
theorem rsT_len {rs : List Rd3} : (rsT rs).length = rs.length := List.length_map ..
theorem TI_get' {l : List Int} {k : Int} {r : Int} (h : l[k.toNat]? = some r) : (TI l)[k.toNat]? = some (.at (.int r)) := by
  unfold TI
  rw [List.getElem?_map, h]
  rfl
theorem frzdL_TI : ∀ l : List Int, frzdL (TI l) = true
  | [] => rfl
  | i :: l => by
    show (frzd (.at (.int i)) && frzdL (TI l)) = true
    rw [frzdL_TI l]
    rfl
theorem frzdL_rsT : ∀ l : List Rd3, frzdL (rsT l) = true
  | [] => rfl
  | i :: l => by
    show (frzd (roadT i) && frzdL (rsT l)) = true
    rw [frzdL_rsT l]
    rfl
theorem eqi {a b : Int} (e : decide (V.int a = V.int b) = true) : a = b := V.int.inj (of_decide_eq_true e)
theorem nei {a b : Int} (e : decide (V.int a = V.int b) = false) : a ≠ b := fun h => of_decide_eq_false e (by rw [h])
/-- a list of ints, or of roads, is looked at -/
theorem len_TI {l : List Int} : (TI l).length = l.length := List.length_map ..
theorem ix_TI {m : Bool} {l : List Int} {i x : Int} (h0 : 0 ≤ i) (h : l[i.toNat]? = some x) : gIxL (.nd (.lst m) (TI l)) (.at (.int i)) = some (.at (.int x)) := ix_lst h0 (TI_get' h)
theorem ix_rsT {m : Bool} {l : List Rd3} {i : Int} {x : Rd3} (h0 : 0 ≤ i) (h : l[i.toNat]? = some x) : gIxL (.nd (.lst m) (rsT l)) (.at (.int i)) = some (roadT x) := ix_lst h0 (rsT_get h)
theorem keep_some {f : Env → Option T} {ρ : Env} {t : T} (h : f ρ = some t) (z : frzd t = true) : keepF f ρ = some t := by
  unfold keepF
  rw [h]
  show (if frzd t = true then some t else none) = _
  rw [if_pos z]
theorem f2_some {fa fb : Env → Option T} {g : T → T → Option T} {ρ : Env} {t u x : T} (h1 : fa ρ = some t) (h2 : fb ρ = some u) (h3 : g t u = some x) : f2 fa fb g ρ = some x := by
  unfold f2
  rw [h1]
  show (fb ρ).bind _ = _
  rw [h2]
  exact h3
theorem Re_ch3 {fa fb fc fd : Env → Option T} {g g' g'' : T → T → Option T} {ρ : Env} {Φ : Bool → Env → Prop} {t u w x : T} {p q r : Bool} (ha : fa ρ = some t) (hb : fb ρ = some u) (hc : fc ρ = some w) (hd : fd ρ = some x)
    (h1 : g t u = some (.at (.bl p))) (h2 : g' u w = some (.at (.bl q))) (h3 : g'' w x = some (.at (.bl r))) (k : Φ (p && q && r) ρ) : Re (fCh3 fa fb fc fd g g' g'') ρ Φ := by
  refine ⟨_, ρ, ?_, k⟩
  unfold fCh3
  simp only [ha, hb, hc, hd, h1, h2, h3, Option.bind_some, asB]
  cases p <;> cases q <;> rfl
theorem ch_some {fa fb fc : Env → Option T} {g g' : T → T → Option T} {ρ : Env} {t u w : T} {p q : Bool} (ha : fa ρ = some t) (hb : fb ρ = some u) (hc : fc ρ = some w)
    (h1 : g t u = some (.at (.bl p))) (h2 : g' u w = some (.at (.bl q))) : fCh fa fb fc g g' ρ = some (.at (.bl (p && q))) := by
  unfold fCh
  simp only [ha, hb, hc, h1, h2, Option.bind_some, asB]
  cases p <;> rfl
def isBadT (n : Int) (r : Rd3) (as : List Rd3) : Bool :=
  !(decide (0 ≤ r.1) && decide (r.1 < r.2.1) && decide (r.2.1 < n)) || !(decide (1 ≤ r.2.2) && decide (r.2.2 ≤ 99)) || as.any fun q => decide (pr q = pr r) || decide (cst q = cst r)
theorem any_take_succ {α : Type} {l : List α} {f : α → Bool} {i : Nat} {x : α} (h : l[i]? = some x) : (l.take (i + 1)).any f = ((l.take i).any f || f x) := by
  rw [List.take_succ, h, List.any_append]
  simp
theorem rsT_at {rs : List Rd3} {i : Nat} {t : T} (h : (rsT rs)[i]? = some t) : ∃ r, rs[i]? = some r ∧ t = roadT r := by
  unfold rsT at h
  rw [List.getElem?_map] at h
  cases c : rs[i]? with
  | none => rw [c] at h; cases h
  | some r => rw [c] at h; cases h; exact ⟨r, rfl, rfl⟩
theorem TI_at {rs : List Int} {i : Nat} {t : T} (h : (TI rs)[i]? = some t) : ∃ r, rs[i]? = some r ∧ t = .at (.int r) := by
  unfold TI at h
  rw [List.getElem?_map] at h
  cases c : rs[i]? with
  | none => rw [c] at h; cases h
  | some r => rw [c] at h; cases h; exact ⟨r, rfl, rfl⟩
theorem ints_eqv : ∀ l k : List Int, PyData.eqvAll (l.map .int) (k.map .int) = decide (l = k)
  | [], [] => by simp [PyData.eqvAll]
  | [], _ :: _ => by simp [PyData.eqvAll]
  | _ :: _, [] => by simp [PyData.eqvAll]
  | a :: l, b :: k => by
    have ih := ints_eqv l k
    simp only [List.map_cons, PyData.eqvAll, ih, PyData.eqv, List.cons.injEq]
    by_cases h : a = b <;> simp [h]
theorem datL_TI : ∀ l : List Int, datL (TI l) = some (l.map .int)
  | [] => by simp [TI, datL]
  | a :: l => by
    have ih := datL_TI l
    have e : TI (a :: l) = .at (.int a) :: TI l := rfl
    rw [e, datL, ih]
    simp [datT]
theorem lay_ints : ∀ l : List Int, PyData.canLayAll0 (l.map .int) = true ∧ PyData.depthAll (l.map .int) ≤ 1
  | [] => by simp [PyData.canLayAll0, PyData.depthAll]
  | a :: l => by
    obtain ⟨h1, h2⟩ := lay_ints l
    simp [PyData.canLayAll0, PyData.canLay0, PyData.depthAll, PyData.depth, h1, h2]
theorem shaped_tup (l : List Int) : SeqAt.shaped (.tuple (l.map .int)) = true := by
  obtain ⟨h1, h2⟩ := lay_ints l
  have : (PyData.tuple (l.map .int)).depth ≤ 64 := by
    simp only [PyData.depth]
    omega
  simp [SeqAt.shaped, PyData.canLay0, h1, this]
theorem shaped_lst (l : List Int) : SeqAt.shaped (.list (l.map .int)) = true := by
  obtain ⟨h1, h2⟩ := lay_ints l
  have : (PyData.list (l.map .int)).depth ≤ 64 := by
    simp only [PyData.depth]
    omega
  simp [SeqAt.shaped, PyData.canLay0, h1, this]
theorem pairD {a b x y : Int} : gEqD false (.nd .tup [.at (.int a), .at (.int b)]) (.nd .tup [.at (.int x), .at (.int y)]) = some (.at (.bl (decide ((a, b) = (x, y))))) := by
  have e1 := datL_TI [a, b]
  have e2 := datL_TI [x, y]
  have e3 := ints_eqv [a, b] [x, y]
  have s1 := shaped_tup [a, b]
  have s2 := shaped_tup [x, y]
  have t1 : datT (.nd .tup [.at (.int a), .at (.int b)]) = some (.tuple ([a, b].map .int)) := by
    rw [datT]
    show (datL (TI [a, b])).map _ = _
    rw [e1]
    rfl
  have t2 : datT (.nd .tup [.at (.int x), .at (.int y)]) = some (.tuple ([x, y].map .int)) := by
    rw [datT]
    show (datL (TI [x, y])).map _ = _
    rw [e2]
    rfl
  unfold gEqD
  rw [t1, t2]
  simp only [Option.bind_some, s1, s2, PyData.eqv, e3]
  simp
theorem lstD {m m' neg : Bool} {l k : List Int} : gEqD neg (lT m l) (lT m' k) = some (.at (.bl (if neg = true then !decide (l = k) else decide (l = k)))) := by
  have t1 : datT (lT m l) = some (.list (l.map .int)) := by
    unfold lT
    rw [datT, datL_TI]
    rfl
  have t2 : datT (lT m' k) = some (.list (k.map .int)) := by
    unfold lT
    rw [datT, datL_TI]
    rfl
  unfold gEqD
  rw [t1, t2]
  simp only [Option.bind_some, shaped_lst, PyData.eqv, ints_eqv]
  simp
theorem frzL_rsT : ∀ rs : List Rd3, frzL (rsT rs) = rsT rs
  | [] => rfl
  | r :: rs => by
    show frz (roadT r) :: frzL (rsT rs) = _
    rw [frzL_rsT rs]
    rfl
theorem canFrzL_rsT : ∀ rs : List Rd3, canFrzL (rsT rs) = true
  | [] => rfl
  | r :: rs => by
    show (canFrz (roadT r) && canFrzL (rsT rs)) = true
    rw [canFrzL_rsT rs]
    rfl
theorem frzL_TI : ∀ rs : List Int, frzL (TI rs) = TI rs
  | [] => rfl
  | r :: rs => by
    show frz (.at (.int r)) :: frzL (TI rs) = _
    rw [frzL_TI rs]
    rfl
theorem canFrzL_TI : ∀ rs : List Int, canFrzL (TI rs) = true
  | [] => rfl
  | r :: rs => by
    show (canFrz (.at (.int r)) && canFrzL (TI rs)) = true
    rw [canFrzL_TI rs]
    rfl
theorem set_same {ρ : Env} {i : Nat} {t : T} (h : ρ[i]? = some t) : ρ.set i t = ρ := by
  refine List.ext_getElem? fun j => ?_
  rw [List.getElem?_set]
  split
  · rename_i e
    subst e
    rw [h, if_pos (List.getElem?_eq_some_iff.mp h).1]
  · rfl
theorem Re_takeL' {ρ : Env} {i : Nat} {m : Bool} {ts : List T} (h1 : frzL ts = ts) (h2 : canFrzL ts = true) (h3 : frzdL ts = true) {Φ : T → Env → Prop} (h : ρ[i]? = some (.nd (.lst m) ts)) (k : Φ (.nd (.lst false) ts) (ρ.set i (.nd (.lst false) ts))) : Re (fTake i) ρ Φ := by
  cases m with
  | false =>
    refine ⟨_, ρ, ?_, by rw [set_same h] at k; exact k⟩
    unfold fTake
    rw [h]
    show (if frzd (.nd (.lst false) ts) = true then _ else _) = _
    have : frzd (.nd (.lst false) ts) = true := h3
    rw [if_pos this]
  | true =>
    refine ⟨_, _, ?_, k⟩
    unfold fTake
    rw [h]
    show (if frzd (.nd (.lst true) ts) = true then some (Except.ok (T.nd (.lst true) ts), ρ) else if canFrz (.nd (.lst true) ts) = true then some (Except.ok (frz (.nd (.lst true) ts)), ρ.set i (frz (.nd (.lst true) ts))) else none) = _
    have c : canFrz (.nd (.lst true) ts) = true := h2
    have e : frz (.nd (.lst true) ts) = .nd (.lst false) ts := by
      show T.nd (.lst false) (frzL ts) = _
      rw [h1]
    rw [if_neg (by exact fun z => by cases z), if_pos c, e]
theorem Re_takeR {ρ : Env} {i : Nat} {m : Bool} {rs : List Rd3} {Φ : T → Env → Prop} (h : ρ[i]? = some (rT m rs)) (k : Φ (rT false rs) (ρ.set i (rT false rs))) : Re (fTake i) ρ Φ := Re_takeL' (frzL_rsT rs) (canFrzL_rsT rs) (frzdL_rsT rs) h k
theorem Re_takeI {ρ : Env} {i : Nat} {m : Bool} {rs : List Int} {Φ : T → Env → Prop} (h : ρ[i]? = some (lT m rs)) (k : Φ (lT false rs) (ρ.set i (lT false rs))) : Re (fTake i) ρ Φ := Re_takeL' (frzL_TI rs) (canFrzL_TI rs) (frzdL_TI rs) h k
theorem item_rsT : ∀ rs : List Rd3, (rsT rs).map item = rsT rs
  | [] => rfl
  | r :: rs => by
    show item (roadT r) :: (rsT rs).map item = _
    rw [item_rsT rs]
    rfl
theorem item_TI : ∀ rs : List Int, (TI rs).map item = TI rs
  | [] => rfl
  | r :: rs => by
    show item (.at (.int r)) :: (TI rs).map item = _
    rw [item_TI rs]
    rfl
theorem Re_itR {ρ : Env} {i : Nat} {m : Bool} {rs : List Rd3} {Φ : List T → Env → Prop} (h : ρ[i]? = some (rT m rs)) (k : Φ (rsT rs) (ρ.set i (rT false rs))) : Re (fIt (fTake i)) ρ Φ := Re_b (Re_takeR h (Re_r (by show some ((rsT rs).map item) = _; rw [item_rsT]) k))
theorem Re_itI {ρ : Env} {i : Nat} {m : Bool} {rs : List Int} {Φ : List T → Env → Prop} (h : ρ[i]? = some (lT m rs)) (k : Φ (TI rs) (ρ.set i (lT false rs))) : Re (fIt (fTake i)) ρ Φ := Re_b (Re_takeI h (Re_r (by show some ((TI rs).map item) = _; rw [item_TI]) k))
theorem TI_app (l k : List Int) : TI (l ++ k) = TI l ++ TI k := List.map_append ..
theorem mpop_last (l : List Int) (x : Int) : mPop (.lst true) (TI (l ++ [x])) [] = some (.at (.int x), .lst true, TI l) := by
  have e : TI (l ++ [x]) = TI l ++ [.at (.int x)] := TI_app l [x]
  show ((TI (l ++ [x]))[(TI (l ++ [x])).length - 1]?).map (fun t => ((t, Nk.lst true, (TI (l ++ [x])).dropLast) : T × Nk × List T)) = _
  rw [e]
  simp
theorem mapp_I {l : List Int} {x : Int} (h : l.length < 1000) : mAppend (.lst true) (TI l) [.at (.int x)] = some (.at .non, .lst true, TI (l ++ [x])) := by
  rw [TI_app]
  exact if_pos (by rw [len_TI]; exact h)
theorem cat_I {m m' : Bool} {l k : List Int} (h : l.length + k.length ≤ 1000) : gCat (lT m l) (lT m' k) = some (lT true (l ++ k)) := by
  show (if frzdL (TI l) = true ∧ frzdL (TI k) = true ∧ (TI l).length + (TI k).length ≤ 1000 then some (T.nd (.lst true) (TI l ++ TI k)) else none) = _
  rw [if_pos ⟨frzdL_TI l, frzdL_TI k, by rw [len_TI, len_TI]; exact h⟩, ← TI_app]
  rfl
theorem Rn_dput {ρ : Env} {Φ : Out → Env → Prop} {fv : EM T} {pf : Env → Option (Nat × List Nat)} {fk : Env → Option T} (h : Re fv ρ fun v ρ1 => ∃ x t k t', pf ρ1 = some x ∧ getE ρ1 x.1 x.2 = some t ∧ fk ρ1 = some k ∧ putT t k v = some t' ∧ Φ .nx (setE ρ1 x.1 x.2 t')) : Rn (sDPutT fv pf fk) ρ Φ :=
  Rn_E (h.mono fun v ρ1 ⟨x, t, k, t', e1, e2, e3, e4, q⟩ => ⟨.nx, _, by
    show ((pf ρ1).bind fun x => (getE ρ1 x.1 x.2).bind fun t => (fk ρ1).bind fun k => (putT t k v).map fun t' => (Out.nx, setE ρ1 x.1 x.2 t')) = _
    simp only [e1, e2, e3, e4, Option.bind_some, Option.map_some], q⟩)
theorem Rn_fld {C : Addr} {f : Str} {ρ : Env} {Φ : Out → Env → Prop} {fv : EM T} {pf : Env → Option (Nat × List Nat)} (h : Re fv ρ fun v ρ1 => ∃ x t t', pf ρ1 = some x ∧ getE ρ1 x.1 x.2 = some t ∧ attT C f v t = some t' ∧ Φ .nx (setE ρ1 x.1 x.2 t')) : Rn (sFldT C f fv pf) ρ Φ :=
  Rn_E (h.mono fun v ρ1 ⟨x, t, t', e1, e2, e4, q⟩ => ⟨.nx, _, by
    show ((pf ρ1).bind fun x => (getE ρ1 x.1 x.2).bind fun t => (attT C f v t).map fun t' => (Out.nx, setE ρ1 x.1 x.2 t')) = _
    simp only [e1, e2, e4, Option.bind_some, Option.map_some], q⟩)
end TV
/-! The dict of ways. -/
namespace TV
open PySem L2 LT
abbrev EntT := Int × List Int
def keysD (es : List EntT) : List Key := es.map fun e => Sum.inl e.1
def valsD (m : Bool) (es : List EntT) : List T := es.map fun e => lT m e.2
def dictT (m : Bool) (es : List EntT) : T := .nd (.dk m (keysD es)) (valsD m es)
theorem ixk_none' : ∀ {es : List EntT} {h : Int}, h ∉ es.map (·.1) → ixk (keysD es) (Sum.inl h) = none
  | [], _, _ => rfl
  | e :: es, h, n => by
    rw [List.map_cons, List.mem_cons, not_or] at n
    show (if (Sum.inl e.1 : Key) = Sum.inl h then some 0 else (ixk (keysD es) (Sum.inl h)).map (· + 1)) = none
    rw [if_neg (fun z => n.1 (Sum.inl.inj z).symm), ixk_none' n.2]
    rfl
theorem ixk_some' : ∀ {es : List EntT} {h : Int} {ns : List Int}, (es.map (·.1)).Nodup → (h, ns) ∈ es → ∃ j, ixk (keysD es) (Sum.inl h) = some j ∧ es[j]? = some (h, ns)
  | e :: es, h, ns, nd, m => by
    rw [List.map_cons, List.nodup_cons] at nd
    by_cases c : e.1 = h
    · refine ⟨0, ?_, ?_⟩
      · show (if (Sum.inl e.1 : Key) = Sum.inl h then some 0 else (ixk (keysD es) (Sum.inl h)).map (· + 1)) = some 0
        rw [c, if_pos rfl]
      · rcases List.mem_cons.mp m with m | m
        · rw [m]
          rfl
        · exact absurd (List.mem_map.mpr ⟨_, m, c.symm⟩) nd.1
    · rcases List.mem_cons.mp m with m | m
      · exact absurd (by rw [← m]) c
      · obtain ⟨j, h1, h2⟩ := ixk_some' nd.2 m
        refine ⟨j + 1, ?_, h2⟩
        show (if (Sum.inl e.1 : Key) = Sum.inl h then some 0 else (ixk (keysD es) (Sum.inl h)).map (· + 1)) = _
        rw [if_neg (fun z => c (Sum.inl.inj z)), h1]
        rfl
theorem dict_in {m : Bool} {es : List EntT} (nd : (es.map (·.1)).Nodup) {h : Int} : gDIn true (.at (.int h)) (dictT m es) = some (.at (.bl (!decide (h ∈ es.map (·.1))))) := by
  have e : entT (dictT m es) (.at (.int h)) = some ((ixk (keysD es) (Sum.inl h)).bind fun j => (valsD m es)[j]?) := rfl
  unfold gDIn
  rw [e]
  by_cases c : h ∈ es.map (·.1)
  · obtain ⟨x, hx, e1⟩ := List.mem_map.mp c
    have e1 : x = (h, x.2) := by rw [← e1]
    rw [e1] at hx
    obtain ⟨j, h1, h2⟩ := ixk_some' nd hx
    have : (valsD m es)[j]? = some (lT m x.2) := by
      unfold valsD
      rw [List.getElem?_map, h2]
      rfl
    rw [h1, decide_eq_true c]
    simp [this]
  · rw [ixk_none' c, decide_eq_false c]
    rfl
theorem dict_get {m : Bool} {es : List EntT} (nd : (es.map (·.1)).Nodup) {h : Int} {ns : List Int} (hm : (h, ns) ∈ es) : gDG (dictT m es) (.at (.int h)) = some (lT m ns) := by
  have e : entT (dictT m es) (.at (.int h)) = some ((ixk (keysD es) (Sum.inl h)).bind fun j => (valsD m es)[j]?) := rfl
  unfold gDG
  rw [e]
  obtain ⟨j, h1, h2⟩ := ixk_some' nd hm
  have : (valsD m es)[j]? = some (lT m ns) := by
    unfold valsD
    rw [List.getElem?_map, h2]
    rfl
  rw [h1]
  simp [this]
theorem dict_put {es : List EntT} {h : Int} {ns : List Int} (n : h ∉ es.map (·.1)) (l : es.length < 1000) : putT (dictT true es) (.at (.int h)) (lT true ns) = some (dictT true (es ++ [(h, ns)])) := by
  have e : putT (dictT true es) (.at (.int h)) (lT true ns) = if (keysD es).length < 1000 then (match ixk (keysD es) (Sum.inl h) with
    | some j => some (.nd (.dk true (keysD es)) ((valsD true es).set j (lT true ns)))
    | none => some (.nd (.dk true (keysD es ++ [Sum.inl h])) (valsD true es ++ [lT true ns]))) else none := rfl
  rw [e, if_pos (by unfold keysD; rw [List.length_map]; exact l), ixk_none' n]
  unfold dictT keysD valsD
  rw [List.map_append, List.map_append]
  rfl
theorem acr_edge {rs : List Rd3} {r : Rd3} {k h : Int} (lt : r.1 < r.2.1) (k0 : 0 ≤ k) (hr : rs[k.toNat]? = some r) :
    (acr r h = none ∧ ∀ c, ¬ Edge rs k h c) ∨ ∃ c, acr r h = some c ∧ (c = r.1 ∨ c = r.2.1) ∧ Edge rs k h c ∧ ∀ c', Edge rs k h c' → c' = c := by
  have un : ∀ c, Edge rs k h c → (h = r.1 ∧ c = r.2.1) ∨ (h = r.2.1 ∧ c = r.1) := fun c hc => by
    obtain ⟨_, r', hr', hc⟩ := hc
    rw [hr] at hr'
    cases hr'
    exact hc
  unfold acr
  by_cases e1 : h = r.1
  · rw [if_pos e1]
    refine .inr ⟨r.2.1, rfl, .inr rfl, ⟨k0, r, hr, .inl ⟨e1, rfl⟩⟩, fun c' hc => ?_⟩
    rcases un c' hc with ⟨_, h2⟩ | ⟨h1, _⟩
    · exact h2
    · omega
  · rw [if_neg e1]
    by_cases e2 : h = r.2.1
    · rw [if_pos e2]
      refine .inr ⟨r.1, rfl, .inl rfl, ⟨k0, r, hr, .inr ⟨e2, rfl⟩⟩, fun c' hc => ?_⟩
      rcases un c' hc with ⟨h1, _⟩ | ⟨_, h2⟩
      · exact absurd h1 e1
      · exact h2
    · rw [if_neg e2]
      refine .inl ⟨rfl, fun c hc => ?_⟩
      rcases un c hc with ⟨h1, _⟩ | ⟨h1, _⟩
      · exact e1 h1
      · exact e2 h1
structure MetT (rs : List Rd3) (ks : List Int) (n start : Int) (es : List EntT) : Prop where
  nd : (es.map (·.1)).Nodup
  rg : ∀ h ∈ es.map (·.1), 0 ≤ h ∧ h < n
  st : start ∈ es.map (·.1)
  way : ∀ e ∈ es, ∃ vs, Pth rs ks start e.2 vs e.1 ∧ ∀ v ∈ vs, v ∈ es.map (·.1)
theorem MetT.len {rs : List Rd3} {ks : List Int} {n start : Int} {es : List EntT} (m : MetT rs ks n start es) (h8 : n ≤ 8) (h0 : 0 ≤ n) : es.length ≤ 8 := by
  have := nodup_bound n.toNat (es.map (·.1)) m.nd fun x hx => by
    have := m.rg x hx
    omega
  rw [List.length_map] at this
  omega
theorem MetT.add {rs : List Rd3} {ks : List Int} {n start : Int} {es : List EntT} (m : MetT rs ks n start es) {b c k : Int} {ns : List Int} (hb : (b, ns) ∈ es) (hc : c ∉ es.map (·.1)) (rc : 0 ≤ c ∧ c < n) (hk : k ∈ ks) (ed : Edge rs k b c) :
    MetT rs ks n start (es ++ [(c, ns ++ [k])]) := by
  have inc : ∀ v ∈ es.map (·.1), v ∈ (es ++ [(c, ns ++ [k])]).map (·.1) := fun v hv => by
    rw [List.map_append]
    exact List.mem_append_left _ hv
  refine ⟨?_, fun h hh => ?_, inc _ m.st, fun e he => ?_⟩
  · rw [List.map_append, List.nodup_append]
    refine ⟨m.nd, by simp, fun x hx y hy e => ?_⟩
    have : y = c := by simpa using hy
    rw [this] at e
    exact hc (e ▸ hx)
  · rw [List.map_append] at hh
    rcases List.mem_append.mp hh with hh | hh
    · exact m.rg h hh
    · have : h = c := by simpa using hh
      rw [this]
      exact rc
  · rcases List.mem_append.mp he with he | he
    · obtain ⟨vs, h1, h2⟩ := m.way e he
      exact ⟨vs, h1, fun v hv => inc v (h2 v hv)⟩
    · have : e = (c, ns ++ [k]) := by simpa using he
      rw [this]
      obtain ⟨vs, h1, h2⟩ := m.way _ hb
      refine ⟨vs ++ [c], .snoc h1 hk ed fun z => hc (h2 c z), fun v hv => ?_⟩
      rcases List.mem_append.mp hv with hv | hv
      · exact inc v (h2 v hv)
      · rw [List.mem_singleton.mp hv, List.map_append]
        exact List.mem_append_right _ (by simp)
/-- what _paths hands back -/
structure PathsT (rs : List Rd3) (ks : List Int) (n start : Int) (es : List EntT) : Prop where
  met : MetT rs ks n start es
  closed : ∀ h ∈ es.map (·.1), ∀ k ∈ ks, ∀ c, Edge rs k h c → c ∈ es.map (·.1)
theorem frz_vals : ∀ es : List EntT, frzL (valsD true es) = valsD false es
  | [] => rfl
  | e :: es => by
    show T.nd (.lst false) (frzL (TI e.2)) :: frzL (valsD true es) = lT false e.2 :: valsD false es
    rw [frz_vals es, frzL_TI]
    rfl
theorem canFrz_vals : ∀ es : List EntT, canFrzL (valsD true es) = true
  | [] => rfl
  | e :: es => by
    show (canFrz (lT true e.2) && canFrzL (valsD true es)) = true
    rw [canFrz_vals es, Bool.and_true]
    exact canFrzL_TI e.2
theorem Re_takeD {ρ : Env} {i : Nat} {es : List EntT} {Φ : T → Env → Prop} (h : ρ[i]? = some (dictT true es)) (k : Φ (dictT false es) (ρ.set i (dictT false es))) : Re (fTake i) ρ Φ := by
  refine ⟨_, _, ?_, k⟩
  unfold fTake
  rw [h]
  show (if frzd (dictT true es) = true then some (Except.ok (dictT true es), ρ) else if canFrz (dictT true es) = true then some (Except.ok (frz (dictT true es)), ρ.set i (frz (dictT true es))) else none) = _
  have c : canFrz (dictT true es) = true := canFrz_vals es
  have e : frz (dictT true es) = dictT false es := by
    show T.nd (.dk false (keysD es)) (frzL (valsD true es)) = _
    rw [frz_vals]
    rfl
  rw [if_neg (by exact fun z => by cases z), if_pos c, e]
theorem mem_key {es : List EntT} {h : Int} (m : h ∈ es.map (·.1)) : ∃ ns, (h, ns) ∈ es := by
  obtain ⟨x, hx, e⟩ := List.mem_map.mp m
  exact ⟨x.2, by rw [← e]; exact hx⟩
end TV
/-! Webs that are webs; enumerate, slices, ranges of trees. -/
namespace TV
open PySem L2 LT
theorem nodup_take {α β : Type} {f : α → β} : ∀ {l : List α}, (∀ (j : Nat) (q : α), l[j]? = some q → ∀ p ∈ l.take j, f p ≠ f q) → (l.map f).Nodup := by
  intro l
  induction l with
  | nil => intro _; exact List.nodup_nil
  | cons x l ih =>
    intro h
    refine List.nodup_cons.mpr ⟨fun hm => ?_, ih fun j q hq p hp => h (j + 1) q (by simpa using hq) p (by simp [hp])⟩
    obtain ⟨y, hy, e⟩ := List.mem_map.mp hm
    obtain ⟨i, hi⟩ := List.getElem?_of_mem hy
    exact h (i + 1) y (by simpa using hi) x (by simp) e.symm
theorem take_nodup {α β : Type} {f : α → β} {l : List α} (h : (l.map f).Nodup) {j : Nat} {q p : α} (hq : l[j]? = some q) (hp : p ∈ l.take j) : f p ≠ f q := by
  intro e
  rw [← List.take_append_drop j l, List.map_append] at h
  have h2 := (List.nodup_append.mp h).2.2
  have hj : j < l.length := (List.getElem?_eq_some_iff.mp hq).1
  refine h2 _ (List.mem_map_of_mem hp) _ (List.mem_map_of_mem (a := q) ?_) e
  refine List.mem_of_getElem? (i := 0) ?_
  rw [List.getElem?_drop]
  simpa using hq
theorem notBadT {n : Int} {rs : List Rd3} (w : WebOk n rs) (j : Nat) (q : Rd3) (hq : rs[j]? = some q) : isBadT n q (rs.take j) = false := by
  have z := w.rng q (List.mem_of_getElem? hq)
  unfold isBadT
  simp only [Bool.or_eq_false_iff, Bool.not_eq_false', Bool.and_eq_true, decide_eq_true_eq, List.any_eq_false]
  refine ⟨⟨⟨⟨z.1, z.2.1⟩, z.2.2.1⟩, z.2.2.2⟩, fun p hp => ?_⟩
  have a := take_nodup w.pairs hq hp
  have b := take_nodup w.costs hq hp
  simp [a, b]
theorem len_sub : ∀ {l1 l2 : List Int}, l1.Nodup → (∀ x ∈ l1, x ∈ l2) → l1.length ≤ l2.length := by
  intro l1
  induction l1 with
  | nil => intro _ _ _; exact Nat.zero_le _
  | cons x l ih =>
    intro l2 nd h
    obtain ⟨h1, h2⟩ := List.nodup_cons.mp nd
    have hx : x ∈ l2 := h x (List.mem_cons_self ..)
    have := ih (l2 := l2.erase x) h2 fun y hy => (List.mem_erase_of_ne (fun e => h1 (by rw [← e]; exact hy))).mpr (h y (List.mem_cons_of_mem _ hy))
    rw [List.length_erase_of_mem hx] at this
    have := List.length_pos_of_mem hx
    simp
    omega
theorem toWay {rs : List Rd3} {ks : List Int} {a : Int} {ns vs : List Int} {b : Int} (h : Pth rs ks a ns vs b) : Way (rs.map pr) a b := by
  induction h with
  | nil => exact .refl
  | snoc _ _ ed _ ih =>
    obtain ⟨_, r, hr, hc⟩ := ed
    have hm := List.mem_map_of_mem (f := pr) (List.mem_of_getElem? hr)
    refine .step ih ?_
    rcases hc with ⟨h1, h2⟩ | ⟨h1, h2⟩
    · refine .inl ?_
      rw [h1, h2]
      exact hm
    · refine .inr ?_
      rw [h1, h2]
      exact hm
theorem met_allT {rs : List Rd3} {n : Int} {es : List EntT} (n1 : 1 ≤ n) (m : MetT rs ((List.range rs.length).map fun (j : Nat) => (j : Int)) n 0 es)
    (cl : ∀ h ∈ es.map (·.1), ∀ k ∈ (List.range rs.length).map (fun (j : Nat) => (j : Int)), ∀ c, Edge rs k h c → c ∈ es.map (·.1)) :
    (∀ h : Int, 0 ≤ h → h < n → Way (rs.map pr) 0 h) ↔ n ≤ es.length := by
  constructor
  · intro hw
    have wm : ∀ h, Way (rs.map pr) 0 h → h ∈ es.map (·.1) := fun h w => by
      induction w with
      | refl => exact m.st
      | @step b c _ e ih =>
        rcases e with e | e
        · obtain ⟨r, hr, er⟩ := List.mem_map.mp e
          obtain ⟨i, hi⟩ := List.getElem?_of_mem hr
          have hl := (List.getElem?_eq_some_iff.mp hi).1
          refine cl b ih i (List.mem_map.mpr ⟨i, List.mem_range.mpr hl, rfl⟩) c ⟨by omega, r, by simpa using hi, .inl ?_⟩
          have := Prod.mk.inj er
          exact ⟨this.1.symm, this.2.symm⟩
        · obtain ⟨r, hr, er⟩ := List.mem_map.mp e
          obtain ⟨i, hi⟩ := List.getElem?_of_mem hr
          have hl := (List.getElem?_eq_some_iff.mp hi).1
          refine cl b ih i (List.mem_map.mpr ⟨i, List.mem_range.mpr hl, rfl⟩) c ⟨by omega, r, by simpa using hi, .inr ?_⟩
          have := Prod.mk.inj er
          exact ⟨this.2.symm, this.1.symm⟩
    have := len_sub (l1 := (List.range n.toNat).map fun (j : Nat) => (j : Int)) (l2 := es.map (·.1)) (List.nodup_range.map_of_inj fun a b e => Int.ofNat.inj e) fun x hx => by
      obtain ⟨j, hj, rfl⟩ := List.mem_map.mp hx
      have := List.mem_range.mp hj
      exact wm _ (hw _ (by omega) (by omega))
    simp at this
    omega
  · intro hl h h0 h1
    by_cases hm : h ∈ es.map (·.1)
    · obtain ⟨e, he, rfl⟩ := List.mem_map.mp hm
      obtain ⟨vs, p, _⟩ := m.way e he
      exact toWay p
    · have := nodup_bound n.toNat (h :: es.map (·.1)) (List.nodup_cons.mpr ⟨hm, m.nd⟩) fun x hx => by
        rcases List.mem_cons.mp hx with rfl | hx
        · omega
        · have := m.rg x hx
          omega
      simp at this
      omega

theorem Re_enR {ρ : Env} {i : Nat} {m : Bool} {rs : List Rd3} {Φ : List T → Env → Prop} (h : ρ[i]? = some (rT m rs)) (k : Φ (numbered 0 (rsT rs)) (ρ.set i (rT false rs))) : Re (fEnum (fTake i)) ρ Φ := Re_b (Re_takeR h (Re_r rfl k))
theorem en_at {rs : List Rd3} {i : Nat} {t : T} (h : (numbered 0 (rsT rs))[i]? = some t) : ∃ r, rs[i]? = some r ∧ t = .nd .tup [.at (.int (i : Nat)), roadT r] := by
  rw [numbered_get] at h
  cases c : (rsT rs)[i]? with
  | none => rw [c] at h; cases h
  | some u =>
    rw [c] at h
    obtain ⟨r, hr, rfl⟩ := rsT_at c
    cases h
    refine ⟨r, hr, ?_⟩
    rw [Nat.zero_add]
    rfl
theorem sl_to {m : Bool} {rs : List Rd3} {i : Nat} (h : i ≤ rs.length) : gSl (rT m rs) none (some (i : Int)) = some (rT true (rs.take i)) := by
  have e : cutT (rsT rs) none (some (i : Int)) = rsT (rs.take i) := by
    unfold cutT
    rw [HT.sIx_nat, HT.sIx_none, rsT_len, Nat.min_eq_left h]
    unfold rsT
    rw [List.drop_zero, List.map_take, Nat.sub_zero]
  show (if frzdL (rsT rs) = true then some (T.nd (.lst true) (cutT (rsT rs) none (some (i : Int)))) else none) = _
  rw [if_pos (frzdL_rsT rs), e]
  rfl
theorem rg_nums {n : Nat} : intsT 0 n = TI (numbers n) := by
  unfold intsT TI numbers
  rw [List.map_map]
  refine List.map_congr_left fun j _ => ?_
  show T.at (.int (0 + (j : Int))) = T.at (.int (j : Int))
  rw [Int.zero_add]
theorem fill_fz {i : Nat} {as : List (Sum Nat T)} {ρ ρ' : Env} {t : T} {ts : List T} (h : fVar i ρ = some t) (z : frzd t = true) (k : fill as ρ = some (ts, ρ')) : fill (.inl i :: as) ρ = some (t :: ts, ρ') := by
  show ((fVar i ρ).bind fun t => (fill as (if frzd t = true then ρ else ρ.set i .hole)).map fun x => (t :: x.1, x.2)) = _
  rw [h]
  show (fill as (if frzd t = true then ρ else ρ.set i .hole)).map _ = _
  rw [if_pos z, k]
  rfl
theorem fill_own {i : Nat} {as : List (Sum Nat T)} {ρ ρ' : Env} {t : T} {ts : List T} (h : fVar i ρ = some t) (z : frzd t = false) (k : fill as (ρ.set i .hole) = some (ts, ρ')) : fill (.inl i :: as) ρ = some (t :: ts, ρ') := by
  show ((fVar i ρ).bind fun t => (fill as (if frzd t = true then ρ else ρ.set i .hole)).map fun x => (t :: x.1, x.2)) = _
  rw [h]
  show (fill as (if frzd t = true then ρ else ρ.set i .hole)).map _ = _
  rw [if_neg (by rw [z]; decide), k]
  rfl
theorem att_new {C : Addr} {f : Str} {v : T} {fs : List Str} {ts : List T} (h : fs.idxOf? f = none) (l : fs.length < 900) : attT C f v (.nd (.obj C fs) ts) = some (.nd (.obj C (fs ++ [f])) (ts ++ [v])) := by
  show (if C = C ∧ fs.length < 900 then (match fs.idxOf? f with
    | some j => some (T.nd (.obj C fs) (ts.set j v))
    | none => some (T.nd (.obj C (fs ++ [f])) (ts ++ [v]))) else none) = _
  rw [if_pos ⟨rfl, l⟩, h]
theorem att_old {C : Addr} {f : Str} {v : T} {fs : List Str} {ts : List T} {j : Nat} (h : fs.idxOf? f = some j) (l : fs.length < 900) : attT C f v (.nd (.obj C fs) ts) = some (.nd (.obj C fs) (ts.set j v)) := by
  show (if C = C ∧ fs.length < 900 then (match fs.idxOf? f with
    | some j => some (T.nd (.obj C fs) (ts.set j v))
    | none => some (T.nd (.obj C (fs ++ [f])) (ts ++ [v]))) else none) = _
  rw [if_pos ⟨rfl, l⟩, h]
theorem Re_meth {C : Addr} {m : Str} {i : Nat} {G : Fn} {fa : EM (List (Sum Nat T))} {ρ : Env} {Φ : T → Env → Prop} {t : T} (e : fVar i ρ = some t) (h0 : isObj C m t = true) (h : Re fa ρ fun as ρ1 => ∃ ts ρ2, fill (.inl i :: as) ρ1 = some (ts, ρ2) ∧ Rg G ts fun t ts' => ∃ ρ3, unfill (.inl i :: as) ts' ρ2 = some ρ3 ∧ Φ t ρ3) : Re (fMeth C m i G fa) ρ Φ := by
  obtain ⟨as, ρ1, e1, ts, ρ2, e2, r, ts', e3, ρ3, e4, q⟩ := h
  refine ⟨r, ρ3, ?_, q⟩
  unfold fMeth
  rw [e]
  show (if isObj C m t = true then bE fa (fun as => callG G (.inl i :: as)) ρ else none) = _
  rw [if_pos h0]
  unfold bE
  rw [e1]
  show callG G (.inl i :: as) ρ1 = _
  unfold callG
  rw [e2]
  show ((G ts).bind fun y => (unfill (.inl i :: as) y.2 ρ2).map fun ρ' => (y.1, ρ')) = _
  rw [e3]
  show (unfill (.inl i :: as) ts' ρ2).map _ = _
  rw [e4]
  rfl
theorem Re_make {C : Addr} {G : Fn} {fa : EM (List (Sum Nat T))} {ρ : Env} {Φ : T → Env → Prop} (h : Re fa ρ fun as ρ1 => ∃ ts ρ2, fill as ρ1 = some (ts, ρ2) ∧ Rg G (.nd (.obj C []) [] :: ts) fun t ts' => ∃ s us ρ3, t = .at .non ∧ ts' = s :: us ∧ unfill as us ρ2 = some ρ3 ∧ Φ s ρ3) : Re (bE fa (fMake C G)) ρ Φ := by
  obtain ⟨as, ρ1, e1, ts, ρ2, e2, t, ts', e3, s, us, ρ3, rfl, rfl, e4, q⟩ := h
  refine ⟨s, ρ3, ?_, q⟩
  unfold bE
  rw [e1]
  show fMake C G as ρ1 = _
  unfold fMake
  rw [e2]
  show ((G (.nd (.obj C []) [] :: ts)).bind _) = _
  rw [e3]
  show (unfill as us ρ2).map _ = _
  rw [e4]
  rfl
theorem isObj_web {C : Addr} {n : Int} {rs : List Rd3} {m : Str} (h : (["_hands", "_roads"] : List Str).contains m = false) : isObj C m (webT C n rs) = true := by
  show (decide (C = C) && !((["_hands", "_roads"] : List Str).contains m)) = true
  rw [h, decide_eq_true rfl]
  rfl
theorem fld_obj {C : Addr} {fs : List Str} {ts : List T} {f : Str} {j : Nat} (h : fs.idxOf? f = some j) : fldT C f (.nd (.obj C fs) ts) = ts[j]? := by
  have e : fldIx C f (.nd (.obj C fs) ts) = some j := by
    show (if C = C then fs.idxOf? f else none) = _
    rw [if_pos rfl, h]
  unfold fldT
  rw [e]
  rfl
theorem ixT_3 {r : Rd3} : gIxT (roadT r) (.at (.int 2)) = some (.at (.int r.2.2)) := rfl
theorem keys_cost {rs : List Rd3} : ∀ {ks : List Int}, (∀ k ∈ ks, 0 ≤ k ∧ k < rs.length) → keysBy (f2 (f2 (fVar 1) (fVar 0) gIxL) (fC (.int 2)) gIxT) [rT true rs] ks = some (ks.map fun k => costAt rs k)
  | [], _ => rfl
  | k :: ks, h => by
    have hk := h k (List.mem_cons_self ..)
    have hr : rs[k.toNat]? = some rs[k.toNat] := List.getElem?_eq_getElem (by omega)
    have e : f2 (f2 (fVar 1) (fVar 0) gIxL) (fC (.int 2)) gIxT (.at (.int k) :: [rT true rs]) = some (.at (.int (costAt rs k))) := by
      refine f2_some (f2_some rfl rfl (ix_rsT hk.1 hr)) rfl ?_
      unfold costAt roadAt
      rw [List.getD_eq_getElem?_getD, hr]
      rfl
    show ((f2 (f2 (fVar 1) (fVar 0) gIxL) (fC (.int 2)) gIxT (.at (.int k) :: [rT true rs])).bind asI).bind (fun g => (keysBy _ [rT true rs] ks).map fun gs => g :: gs) = _
    rw [e, keys_cost fun k hk => h k (List.mem_cons_of_mem _ hk)]
    rfl
theorem costs_nd {rs : List Rd3} (w : (rs.map cst).Nodup) : ((numbers rs.length).map fun k => costAt rs k) = rs.map cst := by
  refine List.ext_getElem? fun i => ?_
  rw [List.getElem?_map, List.getElem?_map]
  unfold numbers
  rw [List.getElem?_map]
  by_cases h : i < rs.length
  · rw [List.getElem?_eq_getElem (by simpa using h), List.getElem?_eq_getElem h]
    simp [costAt, roadAt, cst, h]
  · rw [List.getElem?_eq_none (by simpa using h), List.getElem?_eq_none (by omega)]
    rfl
theorem sort_cost {rs : List Rd3} (w : (rs.map cst).Nodup) (l : rs.length < 64) {ρ : Env} (h : fVar 1 ρ = some (rT true rs)) : fSortLam (fCB (qCons (fVar 1) pNil) gLen) 1 (f2 (f2 (fVar 1) (fVar 0) gIxL) (fC (.int 2)) gIxT) ρ = some (lT true (byCost rs)) := by
  have e1 : fCB (qCons (fVar 1) pNil) gLen ρ = some (.at (.int rs.length)) := by
    unfold fCB qCons pNil
    rw [h]
    show some (T.at (.int ((rsT rs).length : Nat))) = _
    rw [rsT_len]
  unfold fSortLam
  rw [e1]
  show ((fVar 1 ρ).bind fun cap => if 0 ≤ ((rs.length : Nat) : Int) ∧ ((rs.length : Nat) : Int) < 64 then (keysBy _ [cap] (numbers ((rs.length : Nat) : Int).toNat)).bind fun gs => if gs.Nodup then some (T.nd (.lst true) (TI (byKeys ((rs.length : Nat) : Int).toNat gs))) else none else none) = _
  rw [h]
  show (if 0 ≤ ((rs.length : Nat) : Int) ∧ ((rs.length : Nat) : Int) < 64 then (keysBy _ [rT true rs] (numbers rs.length)).bind fun gs => if gs.Nodup then some (T.nd (.lst true) (TI (byKeys rs.length gs))) else none else none) = _
  rw [if_pos (by omega), keys_cost fun k hk => by have := numbers_mem.mp hk; omega]
  show (if ((numbers rs.length).map fun k => costAt rs k).Nodup then some (T.nd (.lst true) (TI (byKeys rs.length ((numbers rs.length).map fun k => costAt rs k)))) else none) = _
  rw [costs_nd w, if_pos w]
  have : byKeys rs.length (rs.map cst) = byCost rs := by
    unfold byKeys byCost
    have e : (fun a b : Int => decide ((rs.map cst).getD a.toNat 0 ≤ (rs.map cst).getD b.toNat 0)) = fun a b => decide (costAt rs a ≤ costAt rs b) := by
      have g : ∀ a : Int, (rs.map cst).getD a.toNat 0 = costAt rs a := fun a => by
        unfold costAt roadAt
        rw [List.getD_eq_getElem?_getD, List.getD_eq_getElem?_getD, List.getElem?_map]
        cases rs[a.toNat]? <;> rfl
      funext a b
      rw [g, g]
    rw [e]
  rw [this]
  rfl
theorem road_get {rs : List Rd3} {k : Int} (k0 : 0 ≤ k) (k1 : k < rs.length) : rs[k.toNat]? = some (roadAt rs k) := by
  unfold roadAt
  rw [List.getD_eq_getElem?_getD, List.getElem?_eq_getElem (by omega)]
  rfl
theorem piece_get {ps : List Int} {h : Int} (h0 : 0 ≤ h) (h1 : h < ps.length) : ps[h.toNat]? = some (pieceAt ps h) := by
  unfold pieceAt
  rw [List.getD_eq_getElem?_getD, List.getElem?_eq_getElem (by omega)]
  rfl
theorem gSort_I {m : Bool} {l : List Int} (h : l.length < 64) : gSort [lT m l] = some (lT true (sortI l)) := by
  show ((intsOf (TI l)).bind fun l => if l.length < 64 then some (T.nd (.lst true) (TI (sortI l))) else none) = _
  rw [intsOf_TI]
  show (if l.length < 64 then some (T.nd (.lst true) (TI (sortI l))) else none) = _
  rw [if_pos h]
  rfl
theorem take_snoc {α : Type} {l : List α} {i : Nat} {x : α} (h : l[i]? = some x) : l.take (i + 1) = l.take i ++ [x] := by
  rw [List.take_succ, h]
  rfl
theorem flats_TI : ∀ l : List Int, flats (TI l) = some (l.map V.int)
  | [] => rfl
  | a :: l => by
    show (flats (TI l)).map (fun vs => V.int a :: vs) = _
    rw [flats_TI l]
    rfl
theorem gIn_I {neg m : Bool} {k : Int} {l : List Int} : gIn neg (.at (.int k)) (lT m l) = some (.at (.bl (if neg = true then !decide (k ∈ l) else decide (k ∈ l)))) := by
  show (flats (TI l)).map (fun ws => T.at (.bl (if neg = true then !inV (V.int k) ws else inV (V.int k) ws))) = _
  rw [flats_TI]
  show some (T.at (.bl (if neg = true then !inV (V.int k) (l.map V.int) else inV (V.int k) (l.map V.int)))) = _
  rw [LT.inV_int]
theorem Re_vCh {fa fb : Env → Option T} {fc : EM T} {g g' : T → T → Option T} {ρ : Env} {Φ : T → Env → Prop} {t u : T} {p : Bool} (ha : fa ρ = some t) (hb : fb ρ = some u) (z : frzd u = true) (h1 : g t u = some (.at (.bl p)))
    (h : p = true → Re fc ρ fun w ρ1 => ∃ x, g' u w = some x ∧ Φ x ρ1) (h' : p = false → Φ (.at (.bl false)) ρ) : Re (vCh fa fb fc g g') ρ Φ := by
  cases p with
  | true =>
    obtain ⟨w, ρ1, e, x, e2, q⟩ := h rfl
    refine ⟨x, ρ1, ?_, q⟩
    unfold vCh
    simp only [ha, hb, h1, Option.bind_some, asB, if_pos z, if_true]
    unfold bE
    rw [e]
    show rE (g' u w) ρ1 = _
    rw [e2]
    rfl
  | false =>
    refine ⟨_, ρ, ?_, h' rfl⟩
    unfold vCh
    simp only [ha, hb, h1, Option.bind_some, asB, if_pos z]
    rfl
theorem intKeys_D (es : List EntT) : intKeys (keysD es) = some (es.map (·.1)) := by
  induction es with
  | nil => rfl
  | cons e es ih =>
    show (intKeys (keysD es)).map (fun l => e.1 :: l) = _
    rw [ih]
    rfl
theorem sort_D {m : Bool} {es : List EntT} (h : es.length < 64) : gSortD [dictT m es] = some (lT true (sortI (es.map (·.1)))) := by
  show ((intKeys (keysD es)).bind fun l => if l.length < 64 then some (T.nd (.lst true) (TI (sortI l))) else none) = _
  rw [intKeys_D]
  show (if (es.map (·.1)).length < 64 then some (T.nd (.lst true) (TI (sortI (es.map (·.1))))) else none) = _
  rw [if_pos (by rw [List.length_map]; exact h)]
  rfl
theorem pth_connT {rs : List Rd3} {ks : List Int} {a b : Int} {ns vs : List Int} (h : Pth rs ks a ns vs b) : Conn rs ks a b := by
  induction h with
  | nil => exact .refl
  | snoc _ hk e _ ih => exact ih.step hk e
theorem paths_conn {rs : List Rd3} {ks : List Int} {n start : Int} {es : List EntT} (p : PathsT rs ks n start es) {h : Int} : h ∈ es.map (·.1) ↔ Conn rs ks start h := by
  constructor
  · intro hh
    obtain ⟨ns, m⟩ := mem_key hh
    obtain ⟨vs, w, _⟩ := p.met.way _ m
    exact pth_connT w
  · intro c
    induction c with
    | refl => exact p.met.st
    | step _ hk e ih => exact p.closed _ ih _ hk _ e
theorem sortI_perm {l : List Int} : (sortI l).Perm l := List.mergeSort_perm ..
theorem sortI_sorted {l : List Int} : (sortI l).Pairwise fun a b => a ≤ b := by
  have q := List.pairwise_mergeSort (le := fun a b : Int => decide (a ≤ b)) (fun a b c h1 h2 => by simp at h1 h2 ⊢; omega) (fun a b => by simp; omega) l
  exact q.imp fun {a b} z => of_decide_eq_true z
theorem Re_takeS {ρ : Env} {i : Nat} {ns : List Int} {Φ : T → Env → Prop} (h : ρ[i]? = some (.nd .scr (TI ns))) (k : Φ (.nd .scr (TI ns)) ρ) : Re (fTake i) ρ Φ := by
  refine ⟨_, ρ, ?_, k⟩
  unfold fTake
  rw [h]
  show (if frzd (.nd .scr (TI ns)) = true then some (Except.ok (T.nd .scr (TI ns)), ρ) else if canFrz (.nd .scr (TI ns)) = true then some (Except.ok (frz (.nd .scr (TI ns))), ρ.set i (frz (.nd .scr (TI ns)))) else none) = _
  rw [if_pos (by exact frzdL_TI ns)]
theorem mulR {a b : Int} (h : b.natAbs < 2 ^ 62) : gMul (.at (.int a)) (.at (.int b)) = some (.at (.int (a * b))) := by
  refine if_pos ?_
  unfold mulB
  rw [Bool.or_eq_true]
  exact .inr (decide_eq_true h)
theorem mulL {a b : Int} (h : a.natAbs < 2 ^ 62) : gMul (.at (.int a)) (.at (.int b)) = some (.at (.int (a * b))) := by
  refine if_pos ?_
  unfold mulB
  rw [Bool.or_eq_true]
  exact .inl (decide_eq_true h)
/-- dice: the script, how many are taken, the mixed number, the rest of a great one -/
def DiceT (d : T) : Prop := ∃ (ns : List Int) (i m r : Int), d = .nd (.lst true) [.nd .scr (TI ns), .at (.int i), .at (.int m), .at (.int r)] ∧ ns.length ≤ 63 ∧ 0 ≤ i ∧ 0 ≤ m ∧ m < 2147483647 ∧ 0 ≤ r
theorem DiceT.frz {d : T} (h : DiceT d) : frzd d = false := by
  obtain ⟨_, _, _, _, rfl, _⟩ := h
  rfl
theorem DiceT.hole {d : T} (h : DiceT d) : isHole d = false := by
  obtain ⟨_, _, _, _, rfl, _⟩ := h
  rfl
theorem var_get {ρ : Env} {i : Nat} {t : T} (h : ρ[i]? = some t) (z : isHole t = false) : fVar i ρ = some t := by
  unfold fVar
  rw [h]
  show (if isHole t = true then none else some t) = _
  rw [if_neg (by rw [z]; decide)]
theorem TI_get {l : List Int} {i : Nat} {t : T} (h : (TI l)[i]? = some t) : ∃ u, l[i]? = some u ∧ t = .at (.int u) := TI_at h
theorem TI_len {l : List Int} : (TI l).length = l.length := len_TI
theorem mpopat_I {l : List Int} {r : Int} {x : Int} (r0 : 0 ≤ r) (r1 : r ≤ 1000) (h : l[r.toNat]? = some x) : mPopAt (.lst true) (TI l) [.at (.int r)] = some (.at (.int x), .lst true, TI (l.eraseIdx r.toNat)) := by
  show (if 0 ≤ r ∧ r ≤ 1000 then ((TI l)[r.toNat]?).map (fun t => ((t, Nk.lst true, (TI l).eraseIdx r.toNat) : T × Nk × List T)) else none) = _
  rw [if_pos ⟨r0, r1⟩, TI_get' h]
  have er : ∀ (l : List Int) (i : Nat), (TI l).eraseIdx i = TI (l.eraseIdx i) := fun l => by
    induction l with
    | nil => intro i; rfl
    | cons a l ih =>
      intro i
      cases i with
      | zero => rfl
      | succ i =>
        show T.at (.int a) :: (TI l).eraseIdx i = _
        rw [ih]
        rfl
  have := er l r.toNat
  rw [this]
  rfl
end TV
/-! Pairs in lists. -/
namespace TV
open PySem L2 LT
def psT (m : Bool) (ps : List (Int × Int)) : T := .nd (.lst m) (ps.map pairT)
theorem ins_P {ps : List (Int × Int)} {p : Int × Int} {j : Int} (l : ps.length < 1000) (j0 : 0 ≤ j) (j1 : j ≤ 1000) : mInsert (.lst true) (ps.map pairT) [.at (.int j), pairT p] = some (.at .non, .lst true, (ps.take j.toNat ++ [p] ++ ps.drop j.toNat).map pairT) := by
  show (if (ps.map pairT).length < 1000 ∧ 0 ≤ j ∧ j ≤ 1000 then some ((.at .non, Nk.lst true, (ps.map pairT).take j.toNat ++ [pairT p] ++ (ps.map pairT).drop j.toNat) : T × Nk × List T) else none) = _
  rw [if_pos ⟨by rw [List.length_map]; exact l, j0, j1⟩]
  simp [List.map_take, List.map_drop]
theorem datL_P : ∀ ps : List (Int × Int), datL (ps.map pairT) = some (ps.map datP)
  | [] => by simp [datL]
  | p :: ps => by
    have e : datT (pairT p) = some (datP p) := by
      unfold pairT
      rw [datT]
      show (datL (TI [p.1, p.2])).map _ = _
      rw [datL_TI]
      rfl
    rw [List.map_cons, datL, e, datL_P ps]
    rfl
theorem eqv_P (p q : Int × Int) : PyData.eqv (datP p) (datP q) = decide (p = q) := by
  have := ints_eqv [p.1, p.2] [q.1, q.2]
  unfold datP
  show PyData.eqv (.tuple ([p.1, p.2].map .int)) (.tuple ([q.1, q.2].map .int)) = _
  rw [PyData.eqv, this]
  obtain ⟨a, b⟩ := p
  obtain ⟨c, d⟩ := q
  simp
theorem lay_P : ∀ ps : List (Int × Int), PyData.canLayAll0 (ps.map datP) = true ∧ PyData.depthAll (ps.map datP) ≤ 2
  | [] => by simp [PyData.canLayAll0, PyData.depthAll]
  | p :: ps => by
    obtain ⟨h1, h2⟩ := lay_P ps
    obtain ⟨h3, h4⟩ := lay_ints [p.1, p.2]
    have e : datP p = .tuple ([p.1, p.2].map .int) := rfl
    rw [List.map_cons, e]
    refine ⟨?_, ?_⟩
    · simp only [PyData.canLayAll0, PyData.canLay0, h3, h1]
      rfl
    · simp only [PyData.depthAll, PyData.depth]
      omega
theorem in_P {m : Bool} {p : Int × Int} {ps : List (Int × Int)} : gInD true (pairT p) (psT m ps) = some (.at (.bl (!decide (p ∈ ps)))) := by
  have t1 : datT (pairT p) = some (datP p) := by
    unfold pairT
    rw [datT]
    show (datL (TI [p.1, p.2])).map _ = _
    rw [datL_TI]
    rfl
  have t2 : datT (psT m ps) = some (.list (ps.map datP)) := by
    unfold psT
    rw [datT, datL_P]
    rfl
  have s1 : SeqAt.shaped (datP p) = true := shaped_tup [p.1, p.2]
  have s2 : SeqAt.shaped (.list (ps.map datP)) = true := by
    obtain ⟨h1, h2⟩ := lay_P ps
    have : (PyData.list (ps.map datP)).depth ≤ 64 := by
      simp only [PyData.depth]
      omega
    simp [SeqAt.shaped, PyData.canLay0, h1, this]
  have an : ((ps.map datP).any fun z => PyData.eqv z (datP p)) = decide (p ∈ ps) := by
    induction ps with
    | nil => simp
    | cons q ps ih =>
      have := lay_P ps
      rw [List.map_cons, List.any_cons, eqv_P]
      rw [show ((ps.map datP).any fun z => PyData.eqv z (datP p)) = decide (p ∈ ps) from ?_]
      · by_cases h : q = p <;> simp [h, eq_comm]
        intro h2
        exact absurd h2.symm h
      · clear ih t2 s2
        induction ps with
        | nil => simp
        | cons q ps ih =>
          rw [List.map_cons, List.any_cons, eqv_P, ih (lay_P ps)]
          by_cases h : q = p <;> simp [h, eq_comm]
          intro h2
          exact absurd h2.symm h
  unfold gInD
  rw [t1]
  simp only [Option.bind_some, t2, s1, s2, an]
  rfl
theorem sort_pair {a b : Int} : gSort [lT true [a, b]] = some (lT true [min a b, max a b]) := by
  rw [gSort_I (by show 2 < 64; decide), sort2 sortI_perm sortI_sorted]
theorem tup_pair {a b : Int} : gTuple [lT true [a, b]] = some (pairT (a, b)) := rfl
theorem ps_len {ps : List (Int × Int)} : (ps.map pairT).length = ps.length := List.length_map ..
theorem intsT_at {lo : Int} {k i : Nat} {t : T} (h : (intsT lo k)[i]? = some t) : i < k ∧ t = .at (.int (lo + i)) := by
  unfold intsT at h
  rw [List.getElem?_map] at h
  cases c : (List.range k)[i]? with
  | none => rw [c] at h; cases h
  | some j =>
    rw [c] at h
    have il := (List.getElem?_eq_some_iff.mp c).1
    rw [List.length_range] at il
    rw [List.getElem?_range il] at c
    cases c
    cases h
    exact ⟨il, rfl⟩
theorem intsT_len {lo : Int} {k : Nat} : (intsT lo k).length = k := by
  unfold intsT
  rw [List.length_map, List.length_range]
theorem len1_P {ps : List (Int × Int)} {ρ : Env} {i : Nat} (h : fVar i ρ = some (psT true ps)) : f2 (fCB (qCons (fVar i) pNil) gLen) (fC (.int 1)) gAdd ρ = some (.at (.int ((ps.length : Nat) + 1))) := by
  refine f2_some (t := .at (.int (ps.length : Nat))) ?_ rfl rfl
  unfold fCB qCons pNil
  rw [h]
  show some (T.at (.int ((ps.map pairT).length : Nat))) = _
  rw [ps_len]
theorem ixfrz {m : Bool} {l : List Int} {i x : Int} (h0 : 0 ≤ i) (h : l[i.toNat]? = some x) : frzG gIxL (lT m l) (.at (.int i)) = some (.at (.int x)) := by
  show (gIxL (lT m l) (.at (.int i))).bind _ = _
  rw [show gIxL (lT m l) (.at (.int i)) = some (.at (.int x)) from ix_TI h0 h]
  rfl
theorem frzL_P : ∀ rs : List (Int × Int), frzL (rs.map pairT) = rs.map pairT
  | [] => rfl
  | r :: rs => by
    show frz (pairT r) :: frzL (rs.map pairT) = _
    rw [frzL_P rs]
    rfl
theorem canFrzL_P : ∀ rs : List (Int × Int), canFrzL (rs.map pairT) = true
  | [] => rfl
  | r :: rs => by
    show (canFrz (pairT r) && canFrzL (rs.map pairT)) = true
    rw [canFrzL_P rs]
    rfl
theorem frzdL_P : ∀ rs : List (Int × Int), frzdL (rs.map pairT) = true
  | [] => rfl
  | r :: rs => by
    show (frzd (pairT r) && frzdL (rs.map pairT)) = true
    rw [frzdL_P rs]
    rfl
theorem item_P : ∀ rs : List (Int × Int), (rs.map pairT).map item = rs.map pairT
  | [] => rfl
  | r :: rs => by
    show item (pairT r) :: (rs.map pairT).map item = _
    rw [item_P rs]
    rfl
theorem Re_itP {ρ : Env} {i : Nat} {m : Bool} {rs : List (Int × Int)} {Φ : List T → Env → Prop} (h : ρ[i]? = some (psT m rs)) (k : Φ (rs.map pairT) (ρ.set i (psT false rs))) : Re (fIt (fTake i)) ρ Φ :=
  Re_b (Re_takeL' (frzL_P rs) (canFrzL_P rs) (frzdL_P rs) h (Re_r (by show some ((rs.map pairT).map item) = _; rw [item_P]) k))
theorem catT_pair {p : Int × Int} {x : Int} : gCatT (pairT p) (.nd .tup [.at (.int x)]) = some (roadT (p.1, p.2, x)) := by
  simp [gCatT, tupT, frzdL, frzd, pairT, roadT]
theorem P_at {ps : List (Int × Int)} {i : Nat} {t : T} (h : (ps.map pairT)[i]? = some t) : ∃ p, ps[i]? = some p ∧ t = pairT p := by
  rw [List.getElem?_map] at h
  cases c : ps[i]? with
  | none => rw [c] at h; cases h
  | some r => rw [c] at h; cases h; exact ⟨r, rfl, rfl⟩
theorem rsT_app (l k : List Rd3) : rsT (l ++ k) = rsT l ++ rsT k := List.map_append ..
def cs0 : List Int := (List.range 99).map fun (j : Nat) => 1 + (j : Int)
theorem cs0_mem {x : Int} (h : x ∈ cs0) : 1 ≤ x ∧ x ≤ 99 := by
  obtain ⟨j, hj, rfl⟩ := List.mem_map.mp h
  have := List.mem_range.mp hj
  omega
theorem cs0_nd : cs0.Nodup := (List.nodup_range.map_of_inj fun a b e => by
  have e : (1 : Int) + (a : Int) = 1 + (b : Int) := e
  omega)
def okV (v : T) : Prop := (isHole v || frzd v) = true
theorem web_made {n : Int} {ps : List (Int × Int)} {rs : List Rd3} {left : List Int} (n1 : 1 ≤ n) (n8 : n ≤ 8) (l20 : ps.length ≤ 20) (pok : PairsOk n ps) (cn : ∀ x, 0 ≤ x → x < n → Way ps 0 x) (hp : rs.map pr = ps) (hc : (rs.map cst ++ left).Perm cs0) : WebOk n rs := by
  have nd := (List.nodup_append.mp (hc.nodup_iff.mpr cs0_nd)).1
  refine ⟨n1, n8, ?_, fun r hr => ?_, by rw [hp]; exact pok.nd, nd, fun h h0 h1 => by rw [hp]; exact cn h h0 h1⟩
  · rw [← hp, List.length_map] at l20
    exact l20
  · have h1 := pok.rng (pr r) (by rw [← hp]; exact List.mem_map_of_mem hr)
    have h2 := cs0_mem (hc.mem_iff.mp (List.mem_append_left _ (List.mem_map_of_mem (f := cst) hr)))
    exact ⟨h1.1, h1.2.1, h1.2.2, h2.1, h2.2⟩
end TV
/-! A dict of lists that stand frozen; pieces by it. -/
namespace TV
open PySem L2 LT
def look (es : List EntT) (h : Int) : List Int := match es.find? (fun e => decide (e.1 = h)) with
  | some e => e.2
  | none => [h]
def putE : List EntT → Int → List Int → List EntT
  | [], h, v => [(h, v)]
  | e :: es, h, v => if e.1 = h then (h, v) :: es else e :: putE es h v
def dictF (es : List EntT) : T := .nd (.dk true (keysD es)) (valsD false es)
theorem ent_find (m : Bool) (h : Int) : ∀ es : List EntT, ((ixk (keysD es) (Sum.inl h)).bind fun j => (valsD m es)[j]?) = (es.find? fun e => decide (e.1 = h)).map fun e => lT m e.2
  | [] => rfl
  | e :: es => by
    have ih := ent_find m h es
    have u : ixk (keysD (e :: es)) (Sum.inl h) = if (Sum.inl e.1 : Key) = Sum.inl h then some 0 else (ixk (keysD es) (Sum.inl h)).map (· + 1) := rfl
    rw [u, List.find?_cons]
    by_cases c : e.1 = h
    · rw [if_pos (by rw [c]), decide_eq_true c]
      rfl
    · rw [if_neg (fun z => c (Sum.inl.inj z)), decide_eq_false c]
      rw [← ih]
      cases ixk (keysD es) (Sum.inl h) with
      | none => rfl
      | some j => rfl
theorem ent_F {es : List EntT} {h : Int} : (entT (dictF es) (.at (.int h))).map (fun r => r.getD (lT false [h])) = some (lT false (look es h)) := by
  have e : entT (dictF es) (.at (.int h)) = some ((ixk (keysD es) (Sum.inl h)).bind fun j => (valsD false es)[j]?) := rfl
  rw [e, ent_find]
  unfold look
  cases es.find? fun e => decide (e.1 = h) with
  | none => rfl
  | some e => rfl
theorem put_ix (h : Int) (v : List Int) : ∀ es : List EntT, (match ixk (keysD es) (Sum.inl h) with
    | some j => (keysD es, (valsD false es).set j (lT false v))
    | none => (keysD es ++ [Sum.inl h], valsD false es ++ [lT false v])) = (keysD (putE es h v), valsD false (putE es h v))
  | [] => rfl
  | e :: es => by
    have ih := put_ix h v es
    have u : ixk (keysD (e :: es)) (Sum.inl h) = if (Sum.inl e.1 : Key) = Sum.inl h then some 0 else (ixk (keysD es) (Sum.inl h)).map (· + 1) := rfl
    rw [u]
    by_cases c : e.1 = h
    · rw [if_pos (by rw [c])]
      unfold putE
      rw [if_pos c]
      show ((Sum.inl e.1 : Key) :: keysD es, lT false v :: valsD false es) = (Sum.inl h :: keysD es, lT false v :: valsD false es)
      rw [c]
    · rw [if_neg (fun z => c (Sum.inl.inj z))]
      unfold putE
      rw [if_neg c]
      show _ = ((Sum.inl e.1 : Key) :: keysD (putE es h v), lT false e.2 :: valsD false (putE es h v))
      cases q : ixk (keysD es) (Sum.inl h) with
      | none =>
        rw [q] at ih
        obtain ⟨i1, i2⟩ := Prod.mk.inj ih
        rw [← i1, ← i2]
        rfl
      | some j =>
        rw [q] at ih
        obtain ⟨i1, i2⟩ := Prod.mk.inj ih
        rw [← i1, ← i2]
        rfl
theorem put_F {es : List EntT} {h : Int} {v : List Int} (l : es.length < 1000) : putT (dictF es) (.at (.int h)) (lT false v) = some (dictF (putE es h v)) := by
  have e : putT (dictF es) (.at (.int h)) (lT false v) = if (keysD es).length < 1000 then (match ixk (keysD es) (Sum.inl h) with
    | some j => some (.nd (.dk true (keysD es)) ((valsD false es).set j (lT false v)))
    | none => some (.nd (.dk true (keysD es ++ [Sum.inl h])) (valsD false es ++ [lT false v]))) else none := rfl
  rw [e, if_pos (by unfold keysD; rw [List.length_map]; exact l)]
  have q := put_ix h v es
  unfold dictF
  cases c : ixk (keysD es) (Sum.inl h) with
  | none =>
    rw [c] at q
    obtain ⟨i1, i2⟩ := Prod.mk.inj q
    rw [← i1, ← i2]
  | some j =>
    rw [c] at q
    obtain ⟨i1, i2⟩ := Prod.mk.inj q
    rw [← i1, ← i2]
theorem look_put {h : Int} {v : List Int} {x : Int} : ∀ {es : List EntT}, look (putE es h v) x = if x = h then v else look es x
  | [] => by
    unfold putE look
    by_cases c : x = h
    · rw [if_pos c, List.find?_cons, decide_eq_true (show (h, v).1 = x from c.symm)]
    · rw [if_neg c, List.find?_cons, decide_eq_false (show ¬ (h, v).1 = x from fun z => c z.symm)]
  | e :: es => by
    have ih := look_put (h := h) (v := v) (x := x) (es := es)
    unfold putE
    by_cases c : e.1 = h
    · rw [if_pos c]
      unfold look
      rw [List.find?_cons, List.find?_cons]
      by_cases d : x = h
      · rw [if_pos d, decide_eq_true (show (h, v).1 = x from d.symm)]
      · rw [if_neg d, decide_eq_false (show ¬ (h, v).1 = x from fun z => d z.symm), decide_eq_false (show ¬ e.1 = x from fun z => d (by rw [← z, c]))]
    · rw [if_neg c]
      unfold look at ih ⊢
      rw [List.find?_cons, List.find?_cons]
      by_cases d : e.1 = x
      · rw [decide_eq_true d, if_neg (fun z => c (by rw [d, z]))]
      · rw [decide_eq_false d]
        exact ih
theorem key_put {h x : Int} {v : List Int} : ∀ {es : List EntT}, x ∈ (putE es h v).map (·.1) ↔ x = h ∨ x ∈ es.map (·.1)
  | [] => by simp [putE]
  | e :: es => by
    have ih := key_put (h := h) (v := v) (x := x) (es := es)
    unfold putE
    by_cases c : e.1 = h
    · rw [if_pos c, List.map_cons, List.mem_cons, List.map_cons, List.mem_cons, c]
      constructor
      · rintro (z | z)
        · exact .inl z
        · exact .inr (.inr z)
      · rintro (z | z | z)
        · exact .inl z
        · exact .inl z
        · exact .inr z
    · rw [if_neg c, List.map_cons, List.mem_cons, List.map_cons, List.mem_cons, ih]
      constructor
      · rintro (z | z | z)
        · exact .inr (.inl z)
        · exact .inl z
        · exact .inr (.inr z)
      · rintro (z | z | z)
        · exact .inr (.inl z)
        · exact .inl z
        · exact .inr (.inr z)
theorem nd_put {h : Int} {v : List Int} : ∀ {es : List EntT}, (es.map (·.1)).Nodup → ((putE es h v).map (·.1)).Nodup
  | [], _ => by simp [putE]
  | e :: es, nd => by
    obtain ⟨n1, n2⟩ := List.nodup_cons.mp nd
    unfold putE
    by_cases c : e.1 = h
    · rw [if_pos c]
      exact List.nodup_cons.mpr ⟨by rw [← c]; exact n1, n2⟩
    · rw [if_neg c]
      refine List.nodup_cons.mpr ⟨fun z => ?_, nd_put n2⟩
      rcases key_put.mp z with z | z
      · exact c z
      · exact n1 z
structure PiecesOk (n : Int) (ps : List Int) (es : List EntT) : Prop where
  nd : (es.map (·.1)).Nodup
  rg : ∀ h ∈ es.map (·.1), 0 ≤ h ∧ h < n
  lk : ∀ h : Int, 0 ≤ h → h < n → (look es h).Nodup ∧ ∀ x, x ∈ look es h ↔ (0 ≤ x ∧ x < n) ∧ pieceAt ps x = pieceAt ps h
theorem PiecesOk.len {n : Int} {ps : List Int} {es : List EntT} (h : PiecesOk n ps es) (n8 : n ≤ 8) : es.length ≤ 8 := by
  have := nodup_bound 8 _ h.nd fun x hx => by
    have := h.rg x hx
    omega
  rwa [List.length_map] at this
theorem PiecesOk.llen {n : Int} {ps : List Int} {es : List EntT} (h : PiecesOk n ps es) (n8 : n ≤ 8) {a : Int} (a0 : 0 ≤ a) (a1 : a < n) : (look es a).length ≤ 8 := by
  obtain ⟨h1, h2⟩ := h.lk a a0 a1
  exact nodup_bound 8 _ h1 fun x hx => by
    have := ((h2 x).mp hx).1
    omega
theorem piece_num {n : Int} {h : Int} (h0 : 0 ≤ h) (h1 : h < n) : pieceAt (numbers n.toNat) h = h := by
  unfold pieceAt numbers
  rw [List.getD_eq_getElem?_getD, List.getElem?_map, List.getElem?_range (by omega)]
  show ((h.toNat : Nat) : Int) = h
  omega
theorem pieces_nil {n : Int} : PiecesOk n (numbers n.toNat) [] := by
  refine ⟨List.nodup_nil, fun h hh => (by cases hh), fun h h0 h1 => ⟨List.nodup_cons.mpr ⟨by simp, List.nodup_nil⟩, fun x => ?_⟩⟩
  show x ∈ [h] ↔ _
  rw [List.mem_singleton, piece_num h0 h1]
  constructor
  · rintro rfl
    exact ⟨⟨h0, h1⟩, piece_num h0 h1⟩
  · rintro ⟨⟨x0, x1⟩, e⟩
    rw [piece_num x0 x1] at e
    exact e
theorem PiecesOk.join {n : Int} {ps : List Int} {es es' : List EntT} (h : PiecesOk n ps es) (pl : ps.length = n.toNat) {a b : Int} (a0 : 0 ≤ a) (a1 : a < n) (b0 : 0 ≤ b) (b1 : b < n) (ne : pieceAt ps a ≠ pieceAt ps b)
    (nd : (es'.map (·.1)).Nodup) (rg : ∀ h ∈ es'.map (·.1), 0 ≤ h ∧ h < n) (lk : ∀ x, look es' x = if x ∈ look es a ++ look es b then look es a ++ look es b else look es x) : PiecesOk n (joinP (pieceAt ps a) (pieceAt ps b) ps) es' := by
  obtain ⟨na, ma⟩ := h.lk a a0 a1
  obtain ⟨nb, mb⟩ := h.lk b b0 b1
  have mem : ∀ x, x ∈ look es a ++ look es b ↔ (0 ≤ x ∧ x < n) ∧ (pieceAt ps x = pieceAt ps a ∨ pieceAt ps x = pieceAt ps b) := fun x => by
    rw [List.mem_append, ma, mb]
    constructor
    · rintro (⟨z1, z2⟩ | ⟨z1, z2⟩)
      · exact ⟨z1, .inl z2⟩
      · exact ⟨z1, .inr z2⟩
    · rintro ⟨z1, z2 | z2⟩
      · exact .inl ⟨z1, z2⟩
      · exact .inr ⟨z1, z2⟩
  have pj : ∀ x : Int, 0 ≤ x → x < n → pieceAt (joinP (pieceAt ps a) (pieceAt ps b) ps) x = if pieceAt ps x = pieceAt ps b then pieceAt ps a else pieceAt ps x := fun x x0 x1 => piece_join (by omega)
  refine ⟨nd, rg, fun x x0 x1 => ?_⟩
  rw [lk, pj x x0 x1]
  by_cases c : x ∈ look es a ++ look es b
  · rw [if_pos c]
    have cx := ((mem x).mp c).2
    have e : (if pieceAt ps x = pieceAt ps b then pieceAt ps a else pieceAt ps x) = pieceAt ps a := by
      split
      · rfl
      · rename_i z
        exact cx.resolve_right z
    rw [e]
    refine ⟨?_, fun y => ?_⟩
    · rw [List.nodup_append]
      refine ⟨na, nb, fun u hu v hv e => ?_⟩
      have h1 := ((ma u).mp hu).2
      have h2 := ((mb v).mp hv).2
      rw [← e] at h2
      exact ne (h1.symm.trans h2)
    · rw [mem]
      constructor
      · rintro ⟨⟨y0, y1⟩, z⟩
        refine ⟨⟨y0, y1⟩, ?_⟩
        rw [pj y y0 y1]
        split
        · rfl
        · rename_i k
          exact z.resolve_right k
      · rintro ⟨⟨y0, y1⟩, z⟩
        refine ⟨⟨y0, y1⟩, ?_⟩
        rw [pj y y0 y1] at z
        split at z
        · rename_i k
          exact .inr k
        · exact .inl z
  · rw [if_neg c]
    have cx : ¬ (pieceAt ps x = pieceAt ps a ∨ pieceAt ps x = pieceAt ps b) := fun z => c ((mem x).mpr ⟨⟨x0, x1⟩, z⟩)
    have ca : pieceAt ps x ≠ pieceAt ps a := fun z => cx (.inl z)
    have cb : pieceAt ps x ≠ pieceAt ps b := fun z => cx (.inr z)
    rw [if_neg cb]
    obtain ⟨nx, mx⟩ := h.lk x x0 x1
    refine ⟨nx, fun y => ?_⟩
    rw [mx]
    constructor
    · rintro ⟨⟨y0, y1⟩, z⟩
      refine ⟨⟨y0, y1⟩, ?_⟩
      rw [pj y y0 y1, if_neg (by rw [z]; exact cb)]
      exact z
    · rintro ⟨⟨y0, y1⟩, z⟩
      refine ⟨⟨y0, y1⟩, ?_⟩
      rw [pj y y0 y1] at z
      split at z
      · exact (ca z.symm).elim
      · exact z
/-- sorted by cost and number -/
theorem sort_costs {rs : List Rd3} (w : (rs.map cst).Nodup) : sortP ((numbers rs.length).map fun k => (costAt rs k, k)) = (byCost rs).map fun k => (costAt rs k, k) := by
  refine (sortP_unique (byCost_perm.map _) ?_).symm
  refine List.pairwise_map.mpr ((byCost_sorted.and (byCost_perm.nodup_iff.mpr numbers_nodup)).imp_of_mem fun {a b} ha hb z => ?_)
  have ra := numbers_mem.mp (byCost_perm.mem_iff.mp ha)
  have rb := numbers_mem.mp (byCost_perm.mem_iff.mp hb)
  have := cost_lt w ra rb z.2 z.1
  exact lexLE_iff.mpr (.inl this)
theorem pairsOf_P : ∀ ps : List (Int × Int), pairsOf (ps.map pairT) = some ps
  | [] => rfl
  | p :: ps => by
    show (pairOf (pairT p)).bind (fun p => (pairsOf (ps.map pairT)).map fun ps => p :: ps) = _
    rw [pairsOf_P ps]
    rfl
theorem gSortP_P {m : Bool} {ps : List (Int × Int)} : gSortP [psT m ps] = some (psT true (sortP ps)) := by
  show ((lsT (psT m ps)).bind fun ts => (pairsOf ts).map fun ps => T.nd (.lst true) ((sortP ps).map pairT)) = _
  show ((pairsOf (ps.map pairT)).map fun ps => T.nd (.lst true) ((sortP ps).map pairT)) = _
  rw [pairsOf_P]
  rfl
end TV
/-! More of roads and numbers as trees. -/
namespace TV
open PySem L2 LT
def withoutT (ts : List Int) (k : Int) : List Int := ts.filter fun m => decide (m ≠ k)
theorem side_cv {rs : List Rd3} (hc : (rs.map cst).Nodup) {ts : List Int} (rg : ∀ k ∈ ts, 0 ≤ k ∧ k < rs.length) {k : Int} (hk : 0 ≤ k ∧ k < rs.length) {a b : Int} : Conn rs (withoutT ts k) a b ↔ CV (wo (vals rs ts) (roadAt rs k)) a b := by
  constructor
  · intro h
    exact (conn_cv h).mono fun x hx => (vals_wo hc rg hk).mp hx
  · intro h
    exact cv_conn (fun m hm => rg m (List.mem_filter.mp hm).1) (h.mono fun x hx => (vals_wo hc rg hk).mpr hx)
theorem tree_len {n : Int} {rows : List Rd3} (w : WebOk n rows) : (treeL n rows).length ≤ 20 := by
  have tok := LT.tree_ok w
  have := nodup_bound rows.length _ tok.nd fun k hk => by
    have := tok.rg k hk
    omega
  have := w.len
  omega
theorem Rn_par3 {ρ : Env} {Φ : Out → Env → Prop} {i j l : Nat} {f : EM (List T)} (h : Re f ρ fun ts ρ1 => ∃ ρ2, gCons' (gN i) (gCons' (gN j) (gCons' (gN l) gNil')) ts ρ1 = some ρ2 ∧ Φ .nx ρ2) : Rn (sPar3 i j l f) ρ Φ := by
  unfold sPar3
  refine Rn_E (h.mono fun ts ρ1 ⟨ρ2, e, q⟩ => ⟨.nx, ρ2, ?_, q⟩)
  show (gCons' (gN i) (gCons' (gN j) (gCons' (gN l) gNil')) ts ρ1).map (fun ρ' => (Out.nx, ρ')) = _
  rw [e]
  rfl
theorem cat_R {m m' : Bool} {l k : List Rd3} (h : l.length + k.length ≤ 1000) : gCat (rT m l) (rT m' k) = some (rT true (l ++ k)) := by
  show (if frzdL (rsT l) = true ∧ frzdL (rsT k) = true ∧ (rsT l).length + (rsT k).length ≤ 1000 then some (T.nd (.lst true) (rsT l ++ rsT k)) else none) = _
  rw [if_pos ⟨frzdL_rsT l, frzdL_rsT k, by rw [rsT_len, rsT_len]; exact h⟩, ← rsT_app]
  rfl
theorem vals_snoc {rs : List Rd3} {ks : List Int} {k : Int} : vals rs (ks ++ [k]) = vals rs ks ++ [roadAt rs k] := by
  unfold vals
  rw [List.map_append]
  rfl
theorem vals_len {rs : List Rd3} {ks : List Int} : (vals rs ks).length = ks.length := List.length_map ..
theorem sl_road {r : Rd3} : gSlT (roadT r) none (some 2) = some (.nd .tup [.at (.int r.1), .at (.int r.2.1)]) := by
  show (if frzdL [.at (.int r.1), .at (.int r.2.1), .at (.int r.2.2)] = true ∧ ¬ (HT.sIx 3 0 none = 0 ∧ HT.sIx 3 3 (some 2) = 3) then some (T.nd .tup (cutT [.at (.int r.1), .at (.int r.2.1), .at (.int r.2.2)] none (some 2))) else none) = _
  rw [if_pos ⟨rfl, by decide⟩]
  rfl
theorem pTup2 {fa fb : Env → Option T} {ρ : Env} {t u : T} (h1 : fa ρ = some t) (h2 : fb ρ = some u) : pTup (pCons fa (pCons fb pNil)) ρ = some (.nd .tup [t, u]) := by
  unfold pTup pCons pNil
  simp only [h1, h2, Option.bind_some, Option.map_some]
  rfl
theorem max_W {rows : List Rd3} : ∀ {W : List Int}, W ≠ [] → ∃ d, d ∈ W ∧ gMaxP [.nd (.lst true) (W.map fun k => pairT (costAt rows k, k))] = some (pairT (costAt rows d, d)) ∧ ∀ k ∈ W, costAt rows k ≤ costAt rows d
  | [], h => (h rfl).elim
  | a :: W, _ => by
    have e1 : ((a :: W).map fun k => pairT (costAt rows k, k)) = ((a :: W).map fun k => (costAt rows k, k)).map pairT := by
      rw [List.map_map]
      rfl
    have e2 : gMaxP [.nd (.lst true) ((a :: W).map fun k => pairT (costAt rows k, k))] = some (pairT (maxPs (costAt rows a, a) (W.map fun k => (costAt rows k, k)))) := by
      rw [e1]
      show ((pairsOf (((a :: W).map fun k => (costAt rows k, k)).map pairT)).bind fun ps => match ps with
        | [] => none
        | p :: ps => some (pairT (maxPs p ps))) = _
      rw [pairsOf_P]
      rfl
    obtain ⟨m1, m2⟩ := maxPs_ok (W.map fun k => (costAt rows k, k)) (costAt rows a, a)
    rw [e2]
    have m1 : maxPs (costAt rows a, a) (W.map fun k => (costAt rows k, k)) ∈ (a :: W).map fun k => (costAt rows k, k) := m1
    obtain ⟨d, hd, e⟩ := List.mem_map.mp m1
    rw [← e]
    refine ⟨d, hd, rfl, fun k hk => ?_⟩
    have := m2 (costAt rows k, k) (by
      have : (costAt rows k, k) ∈ (a :: W).map fun k => (costAt rows k, k) := List.mem_map.mpr ⟨k, hk, rfl⟩
      exact this)
    rw [← e, lexLE_iff] at this
    have this : costAt rows k < costAt rows d ∨ (costAt rows k = costAt rows d ∧ k ≤ d) := this
    omega
end TV
/-! set(list of ints): how many, and sorted. -/
namespace TV
open PySem L2
theorem set_list_ints {P : Program} {w : World} {A : Around} {E : Value → Shared → Prop} {s : Shared} {l : Addr} {items : Array Value} (ns : List Int) {Q : Value → Shared → Prop}
    (hA : A.handled = none) (hl : s.heap.IsList l items) (ia : PyProof.Rows.IntsAre items.toList ns) (hb : ns.length + 1 < scanBound)
    (k : ∀ (h' : Heap) (tk c : Nat), SetR w h' s.heap.objs.size (fun j => decide (j ∈ ns)) c → c ≤ ns.length → (∀ (b : Addr) (o : Obj), s.heap.get? b = some o → h'.get? b = some o) →
      Q (.ref s.heap.objs.size) { heap := h', gens := s.gens, drawn := s.drawn, toks := tk, os := s.os }) : wpAny (model P w) A (call (.type "set") [.ref l]) Q E s := by
  obtain ⟨mc, mt, hmro⟩ := F.called_set.mro
  refine wpAny_call (codeAny_of_tree ?_)
  refine wpAny_of_eq (a := Fin.again (Code.builtin "type.__call__" { pos := [.type "set", .ref l] })) rfl ⟨Code.quiet_builtin _ (by decide +kernel), codeAny_builtin F.entry_type_call ?_⟩
  unfold Builtin.«type.__call__»
  refine wpAny_ite_false rfl ?_
  refine wpAny_ite_false (by rw [F.called_set.canCreate]; rfl) ?_
  refine wpAny_bind (wpAny_of_eq (F.typeCall_set_1 _) ?_)
  refine wpAny_bind (wpAny_of_eq hmro ?_)
  refine wpAny_ite_false rfl ?_
  refine wpAny_bind (wpAny_of_eq F.called_set.made ?_)
  refine wpAny_bind (wpAny_pure ?_)
  refine wpAny_bind (wpAny_holding (wpAny_call (codeAny_mono (code_set_led1 (Q₁ := fun v s₁ => v = .ref s.heap.objs.size ∧ s₁ = { heap := s.heap.push { cls := Value.type "set", data := Data.set #[] 0 (SetTable.fresh 0 0 !w.params.followText "set-order") }, gens := s.gens, drawn := s.drawn, toks := s.toks, os := s.os }) (E := fun _ _ => False) _ ⟨rfl, rfl⟩) fun r s1 h => ?_)))
  match r, h with
  | .ok (.ret v), h => ?_
  | .ok .next, h => exact h.elim
  | .ok .brk, h => exact h.elim
  | .ok .cont, h => exact h.elim
  | .error e, h => exact h.elim
  obtain ⟨e1, e2⟩ := h
  subst e1 e2
  have og : (s.heap.push { cls := Value.type "set", data := Data.set #[] 0 (SetTable.fresh 0 0 !w.params.followText "set-order") }).get? s.heap.objs.size = some { cls := Value.type "set", data := Data.set #[] 0 (SetTable.fresh 0 0 !w.params.followText "set-order") } := Heap.get?_push_size _ rfl
  have kp : ∀ (b : Addr) (o : Obj), s.heap.get? b = some o → (s.heap.push { cls := Value.type "set", data := Data.set #[] 0 (SetTable.fresh 0 0 !w.params.followText "set-order") }).get? b = some o := fun b o h => Heap.get?_push_of_some _ h
  have hso0 : Obj.data { cls := Value.type "set", data := Data.set #[] 0 (SetTable.fresh 0 0 !w.params.followText "set-order") } = Data.set #[] 0 (SetTable.fresh 0 0 !w.params.followText "set-order") := rfl
  have nw := fun (h : Heap) (z : h.get? s.heap.objs.size = some { cls := Value.type "set", data := Data.set #[] 0 (SetTable.fresh 0 0 !w.params.followText "set-order") }) => setR_new_at (w := w) (ns := ns) z
  have cl : Obj.cls { cls := Value.type "set", data := Data.set #[] 0 (SetTable.fresh 0 0 !w.params.followText "set-order") } = Value.type "set" := rfl
  generalize hso : ({ cls := Value.type "set", data := Data.set #[] 0 (SetTable.fresh 0 0 !w.params.followText "set-order") } : Obj) = so at og kp hso0 nw cl ⊢
  have ti : Shared.TypeIs { heap := s.heap.push so, gens := s.gens, drawn := s.drawn, toks := s.toks, os := s.os } (.ref s.heap.objs.size) "set" := ⟨so, og, cl⟩
  have hl2 : (s.heap.push so).IsList l items := by
    obtain ⟨o, h1, h2⟩ := hl
    exact ⟨o, kp _ _ h1, h2⟩
  have tl : Shared.TypeIs { heap := s.heap.push so, gens := s.gens, drawn := s.drawn, toks := s.toks, os := s.os } (.ref l) "list" := by
    obtain ⟨o, h1, h2, _⟩ := hl2
    exact ⟨o, h1, h2⟩
  refine wpAny_bind (wpAny_isInstance ti F.called_set.sub ?_)
  refine wpAny_ite_false rfl ?_
  refine wpAny_bind (wpAny_holding (wpAny_callSpecial?_slot ti F.called_set.init (wpAny_call (codeAny_call_builtin (by decide +kernel) F.entry_set_init (check_set_init_1 ti ?_)))))
  unfold Builtin.«set.__init__»
  refine wpAny_bind ?_
  unfold noKeywords
  refine wpAny_ite_true rfl ?_
  refine wpAny_pure ?_
  refine wpAny_bind ?_
  unfold typeNameOfCut
  refine wpAny_bind ?_
  unfold shownTypeOf
  refine wpAny_bind (wpAny_typeOf ti ?_)
  refine wpAny_ite_false (by decide) ?_
  refine wpAny_pure ?_
  refine wpAny_of_eq (a := "set") rfl ?_
  refine wpAny_bind ?_
  unfold checkCount
  refine wpAny_ite_false rfl ?_
  refine wpAny_ite_false rfl ?_
  refine wpAny_ite_false rfl ?_
  refine wpAny_pure ?_
  refine wpAny_bind (wpAny_pure ?_)
  refine wpAny_bind ?_
  unfold setUsed
  refine wpAny_bind ?_
  unfold setState
  refine wpAny_bind (wpAny_load' og ?_)
  rw [hso0]
  refine wpAny_ite_false rfl ?_
  refine wpAny_pure ?_
  refine wpAny_pure ?_
  refine wpAny_ite_false rfl ?_
  refine wpAny_bind ?_
  unfold Builtin.Frozenset.updateFrom
  refine wpAny_bind ?_
  unfold Builtin.Frozenset.isAnySet
  unfold orM
  refine wpAny_bind (wpAny_isInstance tl F.sub_list_set ?_)
  refine wpAny_isInstance tl F.sub_list_frozenset ?_
  refine wpAny_ite_false rfl ?_
  refine wpAny_bind (wpAny_typeOf tl ?_)
  refine wpAny_ite_false (by decide) ?_
  refine wpAny_bind (wpAny_pyIter_list hl2 ?_)
  refine wpAny_bind (wpAny_runValue ?_)
  have nsz : items.size = ns.length := by rw [← ia.length, Array.length_toList]
  have lz : l < s.heap.objs.size := by
    obtain ⟨o, h1, _⟩ := hl
    exact Heap.lt_size h1
  have ps : (s.heap.push so).objs.size = s.heap.objs.size + 1 := Heap.size_push ..
  have nI : ∀ {a : Addr}, a ≤ s.heap.objs.size → a ≠ (s.heap.push so).objs.size := fun {a} z e => by
    rw [e, ps] at z
    exact Nat.not_succ_le_self _ z
  have kp2 : ∀ (x : Obj) (b : Addr) (o : Obj), (s.heap.push so).get? b = some o → ((s.heap.push so).push x).get? b = some o := fun x b o h => Heap.get?_push_of_some x h
  refine set_update_ints (Walks.toS (Walks.list (A := (A.under (Code.builtin "type.__call__" { pos := [.type "set", .ref l] })).in1.in1) hA (s.heap.push so).objs.size l (nI (Nat.le_of_lt lz)) items)) s.heap.objs.size ?_ ns nsz hb ?_ items.size 0 _ rfl (Nat.zero_le _) ⟨⟨_, Heap.get?_push_size _ rfl, rfl, rfl⟩, ?_⟩ ⟨0, Nat.le_refl _, nw _ (kp2 _ _ _ og)⟩ fun s' c mv cn sr => ?_
  · intro z
    rcases List.mem_cons.mp z with z | z
    · exact nI (Nat.le_refl _) z
    · have z := List.mem_singleton.mp z
      exact Nat.lt_irrefl _ (by rw [← z] at lz; exact lz)
  · intro i v hv
    obtain ⟨t, et⟩ := ia.int_at i v (by rw [Array.getElem?_toList]; exact hv)
    have il : i < ns.length := by
      rw [← nsz]
      exact (Array.getElem?_eq_some_iff.mp hv).1
    exact ⟨_, t, by rw [List.getD_eq_getElem?_getD, List.getElem?_eq_getElem il]; rfl, et⟩
  · obtain ⟨o, h1, h2⟩ := hl2
    exact ⟨o, kp2 _ _ _ h1, h2⟩
  · obtain ⟨h', g', d', t', os'⟩ := s'
    have e1 : g' = s.gens := mv.gens
    have e2 : d' = s.drawn := mv.drawn
    have e3 : os' = s.os := mv.os
    subst e1 e2 e3
    refine wpAny_pure (wpAny_pure ?_)
    refine wpAny_ite_false rfl ?_
    refine wpAny_pure ?_
    refine k h' t' c sr (by omega) fun b o hb2 => ?_
    have bz := Heap.lt_size hb2
    refine mv.heap b o (fun z => ?_) (kp2 _ _ _ (kp _ _ hb2))
    rcases List.mem_cons.mp z with z | z
    · rw [z] at bz
      exact Nat.lt_irrefl _ bz
    · have := List.mem_singleton.mp z
      exact nI (Nat.le_of_lt bz) this
section
variable {X : Cx}
def rSetL (K : PySem.W.Frag) (w : World) : List V → Hp → VK → Prop := fun vs H Q => ∃ (l : Addr) (ns : List Int), vs = [V.ref l] ∧ SqL K H l (ns.map V.int) ∧ ns.length ≤ 1000 ∧
  ∀ (p : Addr) (c : Nat), H p = none → c ≤ ns.length → Q (.ref p) (upd H p (SetO w p (fun j => decide (j ∈ ns)) c))
def rLenS (w : World) : List V → Hp → VK → Prop := fun vs H Q => ∃ (a : Addr) (S : Int → Bool) (n : Nat), vs = [V.ref a] ∧ H a = some (SetO w a S n) ∧ n ≤ 1000 ∧
  ((∀ ds : List Int, ds.Nodup → (∀ k, k ∈ ds ↔ S k = true) → ds.length = n) → Q (.int n) H)
theorem cr_setL (hc : X.calm = true) : CallR X (.type "set") (rSetL X.K X.w) := by
  intro pins s σ H vs us Q I r h
  obtain ⟨l, ns, rfl, hs, hl, q⟩ := h
  obtain ⟨its, rv, pl, _⟩ := I.list hs
  rw [Vals.ref1 r]
  have ia := Vals.ints rv
  refine set_list_ints ns (I.ok.hd hc) pl.isList (by simpa using ia) (by show ns.length + 1 < scanBound; unfold scanBound; omega) fun h' tk c sr cn kp => ?_
  have np : H s.heap.objs.size = none := I.fresh
  exact ⟨.ref s.heap.objs.size, _, I.laid kp (Nat.le_refl _) (setO_new sr), rfl, q _ c np cn⟩
theorem setR_count {w : World} {h : Heap} {a : Addr} {S : Int → Bool} {n : Nat} (r : SetR w h a S n) {ds : List Int} (nd : ds.Nodup) (m : ∀ k, k ∈ ds ↔ S k = true) : ds.length = n := by
  obtain ⟨o, es, ep, t, _, _, _, _, ks, sk, _, _, en, _⟩ := r
  have p : ds.Perm (es.toList.map keyOf) := (List.perm_ext_iff_of_nodup nd ks).mpr fun k => (m k).trans (sk k)
  rw [p.length_eq, List.length_map, Array.length_toList, en]
theorem cr_lenS : CallR X (.builtin "len") (rLenS X.w) := by
  intro pins s σ H vs us Q I r h
  obtain ⟨a, S, n, rfl, ha, hn, q⟩ := h
  rw [Vals.ref1 r]
  have sr := setO_get I ha
  have cn := fun ds nd m => setR_count sr (ds := ds) nd m
  obtain ⟨o, es, ep, t, h1, h2, h3, _, ks, sk, _, ft, en, _⟩ := sr
  refine call_len_set h1 h2 h3 ft (by rw [en]; omega) ?_
  rw [en]
  exact ⟨.int n, H, I.tok _, ⟨_, rfl⟩, q cn⟩
end
/-- a list's numbers, each once -/
def dd : List Int → List Int
  | [] => []
  | x :: xs => if x ∈ xs then dd xs else x :: dd xs
theorem dd_mem : ∀ {l : List Int} {k : Int}, k ∈ dd l ↔ k ∈ l
  | [], _ => Iff.rfl
  | x :: xs, k => by
    have ih := dd_mem (l := xs) (k := k)
    unfold dd
    split
    · rename_i h
      rw [ih, List.mem_cons]
      exact ⟨.inr, fun z => z.elim (fun e => by rw [e]; exact h) id⟩
    · rw [List.mem_cons, List.mem_cons, ih]
theorem dd_nd : ∀ l : List Int, (dd l).Nodup
  | [] => List.nodup_nil
  | x :: xs => by
    unfold dd
    split
    · exact dd_nd xs
    · rename_i h
      exact List.nodup_cons.mpr ⟨fun z => h (dd_mem.mp z), dd_nd xs⟩
theorem dd_self : ∀ {l : List Int}, l.Nodup → dd l = l
  | [], _ => rfl
  | x :: xs, h => by
    obtain ⟨h1, h2⟩ := List.nodup_cons.mp h
    unfold dd
    rw [if_neg h1, dd_self h2]
section
variable {K : PySem.W.Frag} {B : Tabs} {w : World}
def fLenSet (f : Env → Option T) : Env → Option T := fun ρ => (f ρ).bind fun t => (lsT t).bind fun ts => (intsOf ts).bind fun l => if l.length ≤ 1000 then some (.at (.int (dd l).length)) else none
def fSortSet (f : Env → Option T) : Env → Option T := fun ρ => (f ρ).bind fun t => (lsT t).bind fun ts => (intsOf ts).bind fun l => if l.length < 64 then some (.nd (.lst true) (TI (sortI (dd l)))) else none
theorem fj_lenSet {ta : TE} {f : Env → Option T} (h : PJ K B ta f) : FJ K B (tCB (rLenS w) (tCons (tCB (rSetL K w) (tCons ta tNil)) tNil)) (fLenSet f) := fun Z H σ ρ F t' rs o e Q q => by
  unfold fLenSet at e
  obtain ⟨t, c1, e⟩ := bind2 (γ := Unit) e
  obtain ⟨ts, c2, e⟩ := bind2 (γ := Unit) e
  obtain ⟨l, c3, e⟩ := bind2 (γ := Unit) e
  split at e
  · rename_i hl
    cases e
    refine h Z H σ ρ F t rs o c1 _ fun v H1 Z1 G a1 _ _ r1 => ?_
    obtain ⟨a, vs, F', rfl, hs, rl⟩ := lsT_ok r1 c2
    cases intsOf_ok c3
    cases rl.ints
    refine ⟨a, l, rfl, hs, hl, fun p c np cl => ?_⟩
    refine ⟨p, _, c, rfl, upd_same, by omega, fun hc => ?_⟩
    have e := hc (dd l) (dd_nd l) fun k => by rw [dd_mem]; simp
    rw [← e]
    refine q (.int (dd l).length) _ Z1 non (a1.trans (Stp.new0 a1.ok np fun _ z => z.elim)) (fun _ z => z.elim) Dj.non' (Rep.at rfl)
  · cases e
theorem fj_sortSet {ta : TE} {f : Env → Option T} (h : PJ K B ta f) : FJ K B (tCB (rSortedSet w) (tCons (tCB (rSetL K w) (tCons ta tNil)) tNil)) (fSortSet f) := fun Z H σ ρ F t' rs o e Q q => by
  unfold fSortSet at e
  obtain ⟨t, c1, e⟩ := bind2 (γ := Unit) e
  obtain ⟨ts, c2, e⟩ := bind2 (γ := Unit) e
  obtain ⟨l, c3, e⟩ := bind2 (γ := Unit) e
  split at e
  · rename_i hl
    cases e
    refine h Z H σ ρ F t rs o c1 _ fun v H1 Z1 G a1 _ _ r1 => ?_
    obtain ⟨a, vs, F', rfl, hs, rl⟩ := lsT_ok r1 c2
    cases intsOf_ok c3
    cases rl.ints
    refine ⟨a, l, rfl, hs, by omega, fun p c np cl => ?_⟩
    refine ⟨p, _, c, rfl, upd_same, by omega, fun ns p2 srt mem len np2 => ?_⟩
    have s2 := a1.trans (Stp.new0 a1.ok np (o := SetO w p (fun j => decide (j ∈ l)) c) fun _ z => z.elim)
    have nd : ns.Nodup := srt.imp fun {x y} z => by omega
    have pm : ns.Perm (dd l) := (List.perm_ext_iff_of_nodup nd (dd_nd l)).mpr fun k => by
      rw [mem, dd_mem]
      simp
    have es : ns = sortI (dd l) := LT.rising_unique pm (srt.imp fun {x y} z => by omega)
    subst es
    refine newList (K := K) s2.ok (RepL.ofInts _) np2 fun v H' Z' G a4 n4 d4 r4 => q v H' Z' G (s2.trans a4) (fun a g => s2.fx.al a (n4 a g)) d4 r4
  · cases e
end
end TV
/-! min of (int, list of ints), where one int is the least alone. -/
namespace TV
open PySem L2 LT
open PySem.W (maxD minD AlikeAll readsAll_at dataLt alike alikeAll)
abbrev PL := Int × List Int
def datPL (p : PL) : PyData := .tuple [.int p.1, .list (p.2.map .int)]
def pairLT (p : PL) : T := .nd .tup [.at (.int p.1), lT false p.2]
theorem dataLt_i (x x' : Int) (d d' : PyData) (h : x ≠ x') : dataLt (.tuple [.int x, d]) (.tuple [.int x', d']) = decide (x < x') := by
  unfold PySem.W.dataLt
  simp [PySem.W.keyToks, PySem.W.keyToksAll, PyProof.Rows.lexLt, PyProof.Rows.itemLt]
  by_cases c : x < x'
  · simp [c]
  · have : x' < x := by omega
    simp [c, this]
    intro z
    omega
theorem alikeAll_ints : ∀ l l' : List Int, alikeAll (l.map .int) (l'.map .int) = true
  | [], [] => by simp [alikeAll]
  | [], _ :: _ => by simp [alikeAll]
  | _ :: _, [] => by simp [alikeAll]
  | _ :: l, _ :: l' => by
    have ih := alikeAll_ints l l'
    simp [alikeAll, alike, ih]
theorem datPL_alike (ps : List PL) : AlikeAll (ps.map datPL) := by
  refine ⟨fun x hx y hy => ?_, fun x hx => ?_⟩
  · obtain ⟨p, _, rfl⟩ := List.mem_map.mp hx
    obtain ⟨q, _, rfl⟩ := List.mem_map.mp hy
    unfold datPL
    simp [alike, alikeAll, alikeAll_ints]
  · obtain ⟨p, _, rfl⟩ := List.mem_map.mp hx
    exact fun h => by cases h
theorem depth_ints : ∀ l : List Int, PyData.depthAll (l.map .int) ≤ 1 := fun l => (lay_ints l).2
theorem datPL_depth : ∀ ps : List PL, PyData.depthAll (ps.map datPL) < 40
  | [] => by decide
  | p :: ps => by
    have := datPL_depth ps
    have e : PyData.depthAll ((p :: ps).map datPL) = max (datPL p).depth (PyData.depthAll (ps.map datPL)) := rfl
    rw [e]
    have e2 : (datPL p).depth < 40 := by
      have := depth_ints p.2
      unfold datPL
      simp only [PyData.depth, PyData.depthAll]
      omega
    exact Nat.max_lt.mpr ⟨e2, this⟩
theorem minD_PL {m : PL} : ∀ (ps : List PL) (p : PL), m ∈ p :: ps → (∀ y ∈ p :: ps, y = m ∨ m.1 < y.1) → minD (datPL p) (ps.map datPL) = datPL m
  | [], p, hm, _ => by
    rw [List.mem_singleton.mp hm]
    rfl
  | q :: ps, p, hm, h => by
    show minD (if dataLt (datPL q) (datPL p) = true then datPL q else datPL p) (ps.map datPL) = datPL m
    have hp := h p (List.mem_cons_self ..)
    have hq := h q (List.mem_cons_of_mem _ (List.mem_cons_self ..))
    have hr : ∀ y ∈ ps, y = m ∨ m.1 < y.1 := fun y hy => h y (List.mem_cons_of_mem _ (List.mem_cons_of_mem _ hy))
    have goP : m ∈ p :: ps → minD (datPL p) (ps.map datPL) = datPL m := fun z => minD_PL ps p z fun y hy => by
      rcases List.mem_cons.mp hy with e | e
      · rw [e]; exact hp
      · exact hr y e
    have goQ : m ∈ q :: ps → minD (datPL q) (ps.map datPL) = datPL m := fun z => minD_PL ps q z fun y hy => by
      rcases List.mem_cons.mp hy with e | e
      · rw [e]; exact hq
      · exact hr y e
    by_cases ep : p = m
    · rcases hq with eq | lt
      · split
        · exact goQ (by rw [eq]; exact List.mem_cons_self ..)
        · exact goP (by rw [ep]; exact List.mem_cons_self ..)
      · have e : dataLt (datPL q) (datPL p) = false := by
          rw [ep]
          unfold datPL
          rw [dataLt_i _ _ _ _ (by omega)]
          exact decide_eq_false (by omega)
        rw [e, if_neg (by decide)]
        exact goP (by rw [ep]; exact List.mem_cons_self ..)
    · have lp : m.1 < p.1 := hp.resolve_left ep
      by_cases eq : q = m
      · have e : dataLt (datPL q) (datPL p) = true := by
          rw [eq]
          unfold datPL
          rw [dataLt_i _ _ _ _ (by omega)]
          exact decide_eq_true (by omega)
        rw [e, if_pos rfl]
        exact goQ (by rw [eq]; exact List.mem_cons_self ..)
      · have hm2 : m ∈ ps := by
          rcases List.mem_cons.mp hm with e | e
          · exact (ep e.symm).elim
          · rcases List.mem_cons.mp e with e | e
            · exact (eq e.symm).elim
            · exact e
        split
        · exact goQ (List.mem_cons_of_mem _ hm2)
        · exact goP (List.mem_cons_of_mem _ hm2)
def plOf : T → Option PL
  | .nd .tup [.at (.int i), .nd (.lst false) ts] => (intsOf ts).map fun l => (i, l)
  | _ => none
theorem plOf_eq {t : T} {p : PL} (h : plOf t = some p) : t = pairLT p := by
  unfold plOf at h
  split at h
  · rename_i i ts
    cases c : intsOf ts with
    | none => rw [c] at h; cases h
    | some l =>
      rw [c] at h
      cases h
      cases intsOf_ok c
      rfl
  · cases h
def plsOf : List T → Option (List PL)
  | [] => some []
  | t :: ts => (plOf t).bind fun p => (plsOf ts).map fun ps => p :: ps
theorem plsOf_eq : ∀ {ts : List T} {ps : List PL}, plsOf ts = some ps → ts = ps.map pairLT
  | [], _, h => by cases h; rfl
  | t :: ts, ps, h => by
    have h : ((plOf t).bind fun p => (plsOf ts).map fun ps => p :: ps) = some ps := h
    obtain ⟨p, c, h⟩ := bind2 (γ := Unit) h
    cases c2 : plsOf ts with
    | none => rw [c2] at h; cases h
    | some us =>
      rw [c2] at h
      cases h
      rw [plOf_eq c, plsOf_eq c2]
      rfl
theorem plsOf_PL : ∀ ps : List PL, plsOf (ps.map pairLT) = some ps
  | [] => rfl
  | p :: ps => by
    have e : plOf (pairLT p) = some p := by
      show (intsOf (TI p.2)).map (fun l => (p.1, l)) = _
      rw [intsOf_TI]
      rfl
    show (plOf (pairLT p)).bind (fun p => (plsOf (ps.map pairLT)).map fun ps => p :: ps) = _
    rw [e, plsOf_PL ps]
    rfl
/-- the one that is the least alone -/
def leastPL (ps : List PL) : Option PL := ps.find? fun m => ps.all fun y => decide (y = m) || decide (m.1 < y.1)
def gMinPL : List T → Option T
  | [t] => (lsT t).bind fun ts => (plsOf ts).bind fun ps => (leastPL ps).map pairLT
  | _ => none
theorem frzd_PL (p : PL) : frzd (pairLT p) = true := by
  have e : frzdL (TI p.2) = true := frzdL_TI p.2
  show (frzd (.at (.int p.1)) && (frzd (lT false p.2) && true)) = true
  have e2 : frzd (lT false p.2) = true := e
  rw [e2]
  rfl
section
variable {K : PySem.W.Frag} {B : Tabs} {E : XK}
abbrev fItT (f : EM T) : EM (List T) := bE f fun t => rE (asT t)
theorem ij_tup {tl : TE} {f : EM T} (h : VJ K B E tl f) : IJ K B E (iTup K tl) (fItT f) := fun Z H σ ρ F r ρ' rs o e R q qe => by
  rcases bE_ok e with ⟨t, ρ1, e1, e⟩ | ⟨x, e1, rfl⟩
  · obtain ⟨ts, e3, rfl, rfl⟩ := rE_ok e
    refine h Z H σ ρ F _ _ rs o e1 _ (fun t1 et v H1 Z1 G1 F1 s1 d1 r1 rs1 => ?_) fun x ex => by cases ex
    cases et
    cases id r1 with
    | «at» _ => cases e3
    | hole => cases e3
    | nd ho hl hn =>
      rename_i k us a vs F0
      cases k with
      | tup =>
        cases e3
        exact ⟨a, rfl, ⟨vs, .of ho⟩, q _ rfl _ H1 Z1 _ F1 _ s1 d1 rs1 src_tup r1⟩
      | _ => cases e3
  · refine h Z H σ ρ F _ ρ' rs o e1 _ (fun t1 et => by cases et) fun x' ex d H1 Z1 F1 s1 rs1 xo => ?_
    cases ex
    exact qe x rfl d H1 Z1 F1 s1 rs1 xo
theorem cs_minPL : CallS K B (rMinO K) gMinPL := fun Z H ts vs t' o pr e Q q => by
  match ts, e with
  | [t], e =>
    obtain ⟨v, G, rfl, r⟩ := Paired.one' pr
    have e : ((lsT t).bind fun ts => (plsOf ts).bind fun ps => (leastPL ps).map pairLT) = some t' := e
    obtain ⟨us, c1, e⟩ := bind2 (γ := Unit) e
    obtain ⟨ps, c2, e3⟩ := bind2 (γ := Unit) e
    clear e
    obtain ⟨a, ws, F, rfl, hs, hl⟩ := lsT_ok r c1
    cases plsOf_eq c2
    have all : ∀ {qs : List PL} {xs : List V} {F : AS}, RepL K Z H (qs.map pairLT) xs F → DpAll K H xs (qs.map datPL) ∧ ∀ (i : Nat) (x : V) (q : PL), xs[i]? = some x → qs[i]? = some q → Rep K Z H (pairLT q) x non := fun {qs} => by
      induction qs with
      | nil =>
        intro xs F h
        cases h
        exact ⟨.nil, fun i x q h => by cases h⟩
      | cons p qs ih =>
        intro xs F h
        cases h with
        | cons h1 h2 _ =>
          obtain ⟨e1, e2⟩ := ih h2
          have ed : datT (pairLT p) = some (datPL p) := by
            have := datL_TI p.2
            unfold pairLT lT datPL
            simp [datT, datL, this]
          have ez := h1.frzd_eq (frzd_PL p)
          subst ez
          refine ⟨.cons (h1.dat ed) e1, fun i x q hx hq => ?_⟩
          cases i with
          | zero =>
            cases hx
            cases hq
            exact h1
          | succ i => exact e2 i x q hx hq
    obtain ⟨hd, rep⟩ := all hl
    cases hm : leastPL ps with
    | none => rw [hm] at e3; cases e3
    | some m =>
      rw [hm] at e3
      cases e3
      have h1 := List.mem_of_find?_eq_some hm
      have h2 := List.find?_some hm
      have h3 : ∀ y ∈ ps, y = m ∨ m.1 < y.1 := fun y hy => by
        have := List.all_eq_true.mp h2 y hy
        simpa using this
      cases ps with
      | nil => cases h1
      | cons p ps =>
        refine ⟨a, ws, (p :: ps).map datPL, rfl, hs, hd, datPL_alike _, datPL_depth _, (by simp), fun i x hx hm2 => ?_⟩
        have em : minL ((p :: ps).map datPL) = datPL m := minD_PL ps p h1 h3
        rw [em, List.getElem?_map] at hm2
        cases c : (p :: ps)[i]? with
        | none => rw [c] at hm2; cases hm2
        | some w =>
          rw [c] at hm2
          have inj : ∀ {p q : PL}, datPL p = datPL q → p = q := fun {p q} h => by
            obtain ⟨a, b⟩ := p
            obtain ⟨c, d⟩ := q
            unfold datPL at h
            injection h with h
            injection h with h1 h2
            injection h2 with h2 _
            injection h1 with h1
            injection h2 with h2
            have : b = d := by
              have := congrArg (List.map fun x => match x with | PyData.int i => i | _ => 0) h2
              rw [List.map_map, List.map_map] at this
              have e1 : ∀ l : List Int, l.map ((fun x => match x with | PyData.int i => i | _ => 0) ∘ PyData.int) = l := fun l => (List.map_congr_left fun _ _ => rfl).trans (List.map_id l)
              rw [e1, e1] at this
              exact this
            exact Prod.ext h1 this
          have hw : w = m := inj (Option.some.inj hm2)
          rw [hw] at c
          exact q x H Z non (Stp.refl o) (fun _ z => z.elim) Dj.non' (rep i x _ hx c)
end
end TV
/-! Texts: their methods; all; lists taken apart; what is alike. -/
namespace TV
open PySem L2
def sT (s : Str) : T := .at (.str s)
def TS' (l : List Str) : List T := l.map sT
def strsOf : List T → Option (List Str)
  | [] => some []
  | t :: ts => (asS t).bind fun s => (strsOf ts).map fun ss => s :: ss
theorem strsOf_eq : ∀ {ts : List T} {l : List Str}, strsOf ts = some l → ts = TS' l
  | [], _, h => by cases h; rfl
  | t :: ts, l, h => by
    have h : ((asS t).bind fun s => (strsOf ts).map fun ss => s :: ss) = some l := h
    obtain ⟨s, c, h⟩ := bind2 (γ := Unit) h
    cases c2 : strsOf ts with
    | none => rw [c2] at h; cases h
    | some us =>
      rw [c2] at h
      cases h
      rw [asS_eq c, strsOf_eq c2]
      rfl
theorem strsOf_TS : ∀ l : List Str, strsOf (TS' l) = some l
  | [] => rfl
  | s :: l => by
    show (strsOf (TS' l)).map (fun ss => s :: ss) = _
    rw [strsOf_TS l]
    rfl
section
variable {K : PySem.W.Frag} {B : Tabs} {E : XK} {P : Nat → Prop}
theorem RepL.strs {Z : AS} {H : Hp} : ∀ {l : List Str} {vs : List V} {F : AS}, RepL K Z H (TS' l) vs F → vs = l.map V.str
  | [], _, _, h => by cases h; rfl
  | s :: l, _, _, h => by
    cases h with
    | cons h1 h2 _ =>
      obtain ⟨rfl, _⟩ := h1.at_eq
      rw [RepL.strs h2]
      rfl
theorem RepL.ofStrs {Z : AS} {H : Hp} : ∀ l : List Str, RepL K Z H (TS' l) (l.map V.str) non
  | [] => .nil
  | s :: l => by
    have z := RepL.cons (K := K) (Z := Z) (H := H) (Rep.at (v := .str s) rfl) (RepL.ofStrs l) Dj.non
    rw [non_uni] at z
    exact z
/-- a text's method without arguments -/
def f1S (g : Str → V) (f : Env → Option T) : Env → Option T := fun ρ => (f ρ).bind fun t => (asS t).map fun s => .at (g s)
theorem fj_m0 {g : Str → V} (hg : ∀ s, isRef (g s) = false) {to : TE} {f : Env → Option T} (h : PJ K B to f) : FJ K B (tM0 (fun x xs H Q => ∃ a, x = V.str a ∧ xs = [] ∧ True ∧ Q (g a) H) to) (f1S g f) := fun Z H σ ρ F t' rs o e Q q => by
  unfold f1S at e
  obtain ⟨t, c1, e⟩ := bind2 (γ := Unit) e
  cases c2 : asS t with
  | none => rw [c2] at e; cases e
  | some s =>
    rw [c2] at e
    cases e
    refine h Z H σ ρ F t rs o c1 _ fun v H1 Z1 G a1 _ _ r1 => ?_
    cases asS_eq c2
    obtain ⟨rfl, _⟩ := r1.at_eq
    exact ⟨⟨s, rfl⟩, s, rfl, rfl, trivial, q _ H1 Z1 non a1 (fun _ z => z.elim) Dj.non' (.at (hg s))⟩
def gSplit (t u : T) : Option T := (asS t).bind fun a => (asS u).bind fun b => if (b.length == 0) = false ∧ a.length ≤ 100000 then some (.nd (.lst true) (TS' (Txt.split a b))) else none
theorem fj_split {to te : TE} {fo fe : Env → Option T} (ho : PJ K B to fo) (he : PJ K B te fe) : FJ K B (tM1 (fun x xs H Q => ∃ a b, x = V.str a ∧ xs = [V.str b] ∧ (b.length == 0) = false ∧ a.length + 2 ≤ sizeLine ∧ rNewStrs (Txt.split a b) H Q) to te) (f2 fo fe gSplit) := fun Z H σ ρ F t' rs o e Q q => by
  unfold f2 gSplit at e
  obtain ⟨t, c1, e⟩ := bind2 (γ := Unit) e
  obtain ⟨u, c2, e⟩ := bind2 (γ := Unit) e
  obtain ⟨a, c3, e⟩ := bind2 (γ := Unit) e
  obtain ⟨b, c4, e⟩ := bind2 (γ := Unit) e
  split at e
  · rename_i k
    cases e
    refine ho Z H σ ρ F t rs o c1 _ fun v H1 Z1 G a1 _ _ r1 => ?_
    cases asS_eq c3
    obtain ⟨rfl, _⟩ := r1.at_eq
    have rs1 := rs.pst o a1
    have o1 := (a1.env o rs.no).ok
    refine ⟨⟨a, rfl⟩, he Z1 H1 σ ρ F u rs1 o1 c2 _ fun w H2 Z2 G2 a2 _ _ r2 => ?_⟩
    cases asS_eq c4
    obtain ⟨rfl, _⟩ := r2.at_eq
    refine ⟨a, b, rfl, rfl, k.1, Nat.le_trans (Nat.add_le_add_right k.2 2) (by rw [sizeLine_eq]; decide), fun p np => ?_⟩
    exact newList (K := K) a2.ok (RepL.ofStrs _) np fun v H' Z' G a4 n4 d4 r4 => q v H' Z' G (a1.trans (a2.trans a4)) (fun x g => a1.fx.al x (a2.fx.al x (n4 x g))) d4 r4
  · cases e
def gJoin (t u : T) : Option T := (asS t).bind fun a => (lsT u).bind fun ts => (strsOf ts).bind fun ys => if (ys.map (·.length)).sum + ys.length * a.length ≤ 16777216 then some (sT (Txt.join a ys)) else none
theorem fj_join {to te : TE} {fo fe : Env → Option T} (ho : PJ K B to fo) (he : PJ K B te fe) : FJ K B (tM1 (fun x xs H Q => ∃ a p, ∃ ys : List Str, x = V.str a ∧ xs = [V.ref p] ∧ (SqL K H p (ys.map V.str) ∨ SqT K H p (ys.map V.str)) ∧ (ys.map (·.length)).sum + ys.length * a.length ≤ 16777216 ∧ Q (V.str (Txt.join a ys)) H) to te) (f2 fo fe gJoin) := fun Z H σ ρ F t' rs o e Q q => by
  unfold f2 gJoin at e
  obtain ⟨t, c1, e⟩ := bind2 (γ := Unit) e
  obtain ⟨u, c2, e⟩ := bind2 (γ := Unit) e
  obtain ⟨a, c3, e⟩ := bind2 (γ := Unit) e
  obtain ⟨ts, c4, e⟩ := bind2 (γ := Unit) e
  obtain ⟨ys, c5, e⟩ := bind2 (γ := Unit) e
  split at e
  · rename_i k
    cases e
    refine ho Z H σ ρ F t rs o c1 _ fun v H1 Z1 G a1 _ _ r1 => ?_
    cases asS_eq c3
    obtain ⟨rfl, _⟩ := r1.at_eq
    have rs1 := rs.pst o a1
    have o1 := (a1.env o rs.no).ok
    refine ⟨⟨a, rfl⟩, he Z1 H1 σ ρ F u rs1 o1 c2 _ fun w H2 Z2 G2 a2 _ _ r2 => ?_⟩
    obtain ⟨p, vs, F', rfl, hs, rl⟩ := lsT_ok r2 c4
    cases strsOf_eq c5
    cases rl.strs
    exact ⟨a, p, ys, rfl, rfl, .inl hs, k, q _ H2 Z2 non (a1.trans a2) (fun _ z => z.elim) Dj.non' (.at rfl)⟩
  · cases e
def gIxS (t u : T) : Option T := (asS t).bind fun z => (asI u).bind fun i => (atI z.cps.toList i).bind fun c => if z.length ≤ 100000 then some (sT ⟨#[c]⟩) else none
theorem os_ixS : OpS K B rIxS gIxS := fun Z H x y t u t' G1 G2 o r1 r2 e Q q => by
  unfold gIxS at e
  obtain ⟨z, c1, e⟩ := bind2 (γ := Unit) e
  obtain ⟨i, c2, e⟩ := bind2 (γ := Unit) e
  obtain ⟨c, c3, e⟩ := bind2 (γ := Unit) e
  split at e
  · rename_i k
    cases e
    cases asS_eq c1
    cases asI_eq c2
    obtain ⟨rfl, _⟩ := r1.at_eq
    obtain ⟨rfl, _⟩ := r2.at_eq
    exact ⟨z, i, c, rfl, rfl, Nat.le_trans k (by rw [sizeLine_eq]; decide), c3, atom o rfl q⟩
  · cases e
/-! built-in calls -/
def boolsOf : List T → Option (List Bool)
  | [] => some []
  | t :: ts => (asB t).bind fun s => (boolsOf ts).map fun ss => s :: ss
def TB' (l : List Bool) : List T := l.map fun b => T.at (.bl b)
theorem boolsOf_eq : ∀ {ts : List T} {l : List Bool}, boolsOf ts = some l → ts = TB' l
  | [], _, h => by cases h; rfl
  | t :: ts, l, h => by
    have h : ((asB t).bind fun s => (boolsOf ts).map fun ss => s :: ss) = some l := h
    obtain ⟨s, c, h⟩ := bind2 (γ := Unit) h
    cases c2 : boolsOf ts with
    | none => rw [c2] at h; cases h
    | some us =>
      rw [c2] at h
      cases h
      rw [asB_eq c, boolsOf_eq c2]
      rfl
theorem boolsOf_TB : ∀ l : List Bool, boolsOf (TB' l) = some l
  | [] => rfl
  | s :: l => by
    show (boolsOf (TB' l)).map (fun ss => s :: ss) = _
    rw [boolsOf_TB l]
    rfl
theorem RepL.bools {Z : AS} {H : Hp} : ∀ {l : List Bool} {vs : List V} {F : AS}, RepL K Z H (TB' l) vs F → vs = l.map V.bl
  | [], _, _, h => by cases h; rfl
  | s :: l, _, _, h => by
    cases h with
    | cons h1 h2 _ =>
      obtain ⟨rfl, _⟩ := h1.at_eq
      rw [RepL.bools h2]
      rfl
def gAll : List T → Option T
  | [t] => (lsT t).bind fun ts => (boolsOf ts).map fun l => .at (.bl (l.all id))
  | _ => none
theorem cs_all : CallS K B (rAll K) gAll := fun Z H ts vs t' o pr e Q q => by
  match ts, e with
  | [t], e =>
    obtain ⟨v, G, rfl, r⟩ := Paired.one' pr
    have e : ((lsT t).bind fun ts => (boolsOf ts).map fun l => T.at (.bl (l.all id))) = some t' := e
    obtain ⟨us, c1, e3⟩ := bind2 (γ := Unit) e
    cases c2 : boolsOf us with
    | none => rw [c2] at e3; cases e3
    | some l =>
      rw [c2] at e3
      cases e3
      obtain ⟨a, ws, F, rfl, hs, hl⟩ := lsT_ok r c1
      cases boolsOf_eq c2
      cases hl.bools
      exact ⟨a, l, rfl, hs, q _ H Z non (Stp.refl o) (fun _ z => z.elim) Dj.non' (.at rfl)⟩
def gIntS : List T → Option T
  | [t] => (asS t).bind fun a => (intText? a).bind fun n => if a.length ≤ 640 then some (.at (.int n)) else none
  | _ => none
theorem cs_intS : CallS K B (fun xs H Q => ∃ a n, xs = [V.str a] ∧ intText? a = some n ∧ a.length ≤ 640 ∧ Q (V.int n) H) gIntS := fun Z H ts vs t' o pr e Q q => by
  match ts, e with
  | [t], e =>
    obtain ⟨v, G, rfl, r⟩ := Paired.one' pr
    have e : ((asS t).bind fun a => (intText? a).bind fun n => if a.length ≤ 640 then some (T.at (.int n)) else none) = some t' := e
    obtain ⟨a, c1, e⟩ := bind2 (γ := Unit) e
    obtain ⟨n, c2, e⟩ := bind2 (γ := Unit) e
    split at e
    · rename_i k
      cases e
      cases asS_eq c1
      obtain ⟨rfl, _⟩ := r.at_eq
      exact ⟨a, n, rfl, c2, k, q _ H Z non (Stp.refl o) (fun _ z => z.elim) Dj.non' (.at rfl)⟩
    · cases e
def gStr : List T → Option T
  | [.at (.int i)] => if i.natAbs.log2 < 1920 then some (sT (Str.ofString (toString i))) else none
  | _ => none
theorem cs_str : CallS K B (fun xs H Q => ∃ i : Int, xs = [V.int i] ∧ i.natAbs.log2 < 1920 ∧ Q (V.str (Str.ofString (toString i))) H) gStr := fun Z H ts vs t' o pr e Q q => by
  match ts, e with
  | [.at (.int i)], e =>
    obtain ⟨v, G, rfl, r⟩ := Paired.one' pr
    have e : (if i.natAbs.log2 < 1920 then some (sT (Str.ofString (toString i))) else none) = some t' := e
    split at e
    · rename_i k
      cases e
      obtain ⟨rfl, _⟩ := r.at_eq
      exact ⟨i, rfl, k, q _ H Z non (Stp.refl o) (fun _ z => z.elim) Dj.non' (.at rfl)⟩
    · cases e
def gLenS : List T → Option T
  | [t] => (asS t).bind fun a => if a.length ≤ 100000 then some (.at (.int a.length)) else none
  | _ => none
theorem cs_lenStr : CallS K B (fun xs H Q => ∃ z : Str, xs = [V.str z] ∧ z.length ≤ sizeLine ∧ Q (V.int ↑z.length) H) gLenS := fun Z H ts vs t' o pr e Q q => by
  match ts, e with
  | [t], e =>
    obtain ⟨v, G, rfl, r⟩ := Paired.one' pr
    have e : ((asS t).bind fun a => if a.length ≤ 100000 then some (T.at (.int a.length)) else none) = some t' := e
    obtain ⟨a, c1, e⟩ := bind2 (γ := Unit) e
    split at e
    · rename_i k
      cases e
      cases asS_eq c1
      obtain ⟨rfl, _⟩ := r.at_eq
      exact ⟨a, rfl, Nat.le_trans k (by rw [sizeLine_eq]; decide), q _ H Z non (Stp.refl o) (fun _ z => z.elim) Dj.non' (.at rfl)⟩
    · cases e
/-! a list taken apart -/
theorem pg_unlK (K : PySem.W.Frag) {X : Cx} {es : List Expr} {k : Nat} {t : TGs} {n : Nat} (h : X.K = K) (hc : X.calm = true) (g : PGs X es t) (hn : (assignEach es X.env).length = n := by rfl)
    (hst : (assignEach es X.env).findIdx? (·.1) = none := by rfl) {pos : Pos} : PG X (.Tuple es k pos) (gUnl K n t) := by subst h; exact pg_unl hc g hn hst
def gUn (n : Nat) (fs : List T → Env → Option Env) : T → Env → Option Env
  | .nd (.lst _) ts, ρ => if ts.length = n then fs ts ρ else none
  | _, _ => none
theorem gj_unl {n : Nat} {gs : TGs} {fs : List T → Env → Option Env} (hs : GsJ K B P gs fs) : GJ K B P (gUnl K n gs) (gUn n fs) := fun Z H σ ρ F G t v ρ' rs o d rt e Q q => by
  cases rt with
  | «at» _ => cases e
  | hole => cases e
  | nd ho hl hn =>
    rename_i k ts a vs G0
    cases k with
    | lst m =>
      have e : (if ts.length = n then fs ts ρ else none) = some ρ' := e
      split at e
      · rename_i c
        refine ⟨a, vs, rfl, ho.sql, by rw [← hl.length]; exact c, ?_⟩
        have sub : ∀ x, G0 x → put (.lst m) a G0 x := fun x z => by
          cases m with
          | true => exact .inr z
          | false => exact z
        exact hs Z H σ ρ F G0 ts vs ρ' rs (o.sub fun x z => z.elim (fun y => .inl (sub x y)) .inr) (fun x z => d x (sub x z)) hl e Q fun σ' H' Z' F' m s rs' => q σ' H' Z' F' m ⟨s.fx.mono fun x z => z.elim (fun y => .inl (y.elim (fun y => .inl (sub x y)) .inr)) .inr, s.zz, fun x z => (s.zn x z).imp id fun y => y.imp (fun y => y.elim (fun y => .inl (sub x y)) .inr) id, fun x z => (s.fn x z).imp (fun y => y.elim (fun y => .inl (sub x y)) .inr) id, s.ok⟩ rs'
      · cases e
    | _ => cases e
end
end TV
/-! f-strings with calls; a new list cleared. -/
namespace TV
open PySem L2
section
variable {K : PySem.W.Frag} {B : Tabs} {E : XK} {P : Nat → Prop}
def JvJ (K : PySem.W.Frag) (B : Tabs) (E : XK) (ts : List TE) (f : Str → EM Str) : Prop := ∀ (Z : AS) (H : Hp) (σ : St) (ρ : Env) (F : AS) (acc : Str) (r : Except Ex Str) (ρ' : Env), RepS K Z H σ ρ F → Ok B Z F H → f acc ρ = some (r, ρ') → ∀ Q : Str → Hp → Prop,
  (∀ out, r = .ok out → ∀ H' Z' F', Stp B Z F H Z' F' H' → RepS K Z' H' σ ρ' F' → Q out H') →
  (∀ e, r = .error e → ∀ d H' Z' F', Stp B Z F H Z' F' H' → RepS K Z' H' σ ρ' F' → exOk e d H' → E (.ref e.1) d H') → tJs ts acc σ H Q
def jvNil : Str → EM Str := fun acc => rE (some acc)
theorem jv_nil : JvJ K B E [] jvNil := fun Z H σ ρ F acc r ρ' rs o e Q q qe => by
  cases e
  exact q acc rfl H Z F (Stp.refl o) rs
def jvCons (fa : EM T) (fr : Str → EM Str) : Str → EM Str := fun acc => bE fa fun t ρ => (asS t).bind fun y => if (acc ++ y).length ≤ 100000 then fr (acc ++ y) ρ else none
theorem jv_cons {t : TE} {ts : List TE} {fa : EM T} {fr : Str → EM Str} (ha : VJ K B E t fa) (hr : JvJ K B E ts fr) : JvJ K B E (t :: ts) (jvCons fa fr) := fun Z H σ ρ F acc r ρ' rs o e Q q qe => by
  rcases bE_ok e with ⟨u, ρ1, e1, e⟩ | ⟨x, e1, rfl⟩
  · refine ha Z H σ ρ F _ ρ1 rs o e1 _ (fun t1 et v H1 Z1 G1 F1 s1 d1 r1 rs1 => ?_) fun x ex => by cases ex
    cases et
    have o1 := s1.ok.sub (G := F1) fun a z => .inr z
    have sF := s1.less (G := F1) fun a z => .inr z
    obtain ⟨y, c2, e9⟩ := bind2 (γ := Unit) e
    split at e9
    · rename_i hk
      cases asS_eq c2
      obtain ⟨rfl, _⟩ := r1.at_eq
      refine ⟨y, rfl, Nat.le_trans hk (by rw [sizeLine_eq]; decide), hr Z1 H1 σ ρ1 F1 _ r ρ' rs1 o1 e9 Q (fun out eo H2 Z2 F2 s2 rs2 => q out eo H2 Z2 F2 (sF.trans s2) rs2) fun x ex d H2 Z2 F2 s2 rs2 xo => qe x ex d H2 Z2 F2 (sF.trans s2) rs2 xo⟩
    · cases e9
  · refine ha Z H σ ρ F _ ρ' rs o e1 _ (fun t1 et => by cases et) fun x' ex d H1 Z1 F1 s1 rs1 xo => ?_
    cases ex
    exact qe x rfl d H1 Z1 F1 s1 rs1 xo
def vJoined (f : Str → EM Str) : EM T := bE (f Str.empty) fun s => rE (some (.at (.str s)))
theorem vj_joined {ts : List TE} {f : Str → EM Str} (h : JvJ K B E ts f) : VJ K B E (fun σ H Q => tJs ts Str.empty σ H fun out H1 => Q (.str out) H1) (vJoined f) := fun Z H σ ρ F r ρ' rs o e Q q qe => by
  rcases bE_ok e with ⟨u, ρ1, e1, e⟩ | ⟨x, e1, rfl⟩
  · cases e
    refine h Z H σ ρ F _ _ ρ' rs o e1 _ (fun out eo H1 Z1 F1 s1 rs1 => ?_) fun x ex => by cases ex
    cases eo
    refine q _ rfl (.str u) H1 Z1 non F1 ?_ Dj.non' (.at rfl) rs1
    rw [show uni non F1 = F1 from by funext a; exact propext ⟨fun z => z.elim (fun y => y.elim) id, .inr⟩]
    exact s1
  · refine h Z H σ ρ F _ _ ρ' rs o e1 _ (fun out eo => by cases eo) fun x' ex d H1 Z1 F1 s1 rs1 xo => ?_
    cases ex
    exact qe x rfl d H1 Z1 F1 s1 rs1 xo
def vFmt (f : EM T) : EM T := bE f fun t => rE (fmtT t)
theorem vj_fmt {te : TE} {f : EM T} (h : VJ K B E te f) : VJ K B E (tFmt te) (vFmt f) := fun Z H σ ρ F r ρ' rs o e Q q qe => by
  rcases bE_ok e with ⟨u, ρ1, e1, e⟩ | ⟨x, e1, rfl⟩
  · obtain ⟨t', e3, rfl, rfl⟩ := rE_ok e
    refine h Z H σ ρ F _ _ rs o e1 _ (fun t1 et v H1 Z1 G1 F1 s1 d1 r1 rs1 => ?_) fun x ex => by cases ex
    cases et
    have fin : ∀ s : Str, t' = .at (.str s) → Q (.str s) H1 := fun s et => by
      subst et
      refine q _ rfl _ H1 Z1 non F1 (s1.less fun a z => z.elim (fun y => y.elim) .inr) Dj.non' (.at rfl) rs1
    cases u with
    | «at» x =>
      obtain ⟨ev, _⟩ := r1.at_eq
      subst ev
      cases v with
      | str y =>
        have e : (if y.length ≤ 100000 then some (T.at (.str y)) else none) = some t' := e3
        split at e
        · rename_i k
          cases e
          exact .inl ⟨y, rfl, Nat.le_trans k (by rw [sizeLine_eq]; decide), fin y rfl⟩
        · cases e
      | int i =>
        have e : (if i.natAbs.log2 < 1920 then some (T.at (.str (Str.ofString (toString i)))) else none) = some t' := e3
        split at e
        · rename_i k
          cases e
          exact .inr ⟨i, rfl, k, fin _ rfl⟩
        · cases e
      | _ => cases e3
    | _ => cases e3
  · refine h Z H σ ρ F _ ρ' rs o e1 _ (fun t1 et => by cases et) fun x' ex d H1 Z1 F1 s1 rs1 xo => ?_
    cases ex
    exact qe x rfl d H1 Z1 F1 s1 rs1 xo
theorem vj_split {to te : TE} {fo : EM T} {fe : Env → Option T} (ho : VJ K B E to fo) (he : PJ K B te fe) : VJ K B E (tM1 (fun x xs H Q => ∃ a b, x = V.str a ∧ xs = [V.str b] ∧ (b.length == 0) = false ∧ a.length + 2 ≤ sizeLine ∧ rNewStrs (Txt.split a b) H Q) to te) (fVP fo fe gSplit) := fun Z H σ ρ F r ρ' rs o e Q q qe => by
  rcases bE_ok e with ⟨t, ρ1, e1, e⟩ | ⟨x, e1, rfl⟩
  · refine ho Z H σ ρ F _ ρ1 rs o e1 _ (fun t1 et x H1 Z1 G1 F1 s1 d1 r1 rs1 => ?_) fun x ex => by cases ex
    cases et
    have o1 := s1.ok.sub (G := F1) fun a z => .inr z
    have sF := s1.less (G := F1) fun a z => .inr z
    cases e2 : fe ρ1 with
    | none => simp only [e2] at e; cases e
    | some u =>
      simp only [e2] at e
      have e : (gSplit t u).map (fun t' => ((Except.ok t', ρ1) : Except Ex T × Env)) = some (r, ρ') := e
      cases e3 : gSplit t u with
      | none => rw [e3] at e; cases e
      | some t' =>
        rw [e3] at e
        cases e
        unfold gSplit at e3
        obtain ⟨a, c3, e3⟩ := bind2 (γ := Unit) e3
        obtain ⟨b, c4, e3⟩ := bind2 (γ := Unit) e3
        split at e3
        · rename_i k
          cases e3
          cases asS_eq c3
          obtain ⟨rfl, _⟩ := r1.at_eq
          refine ⟨⟨a, rfl⟩, he Z1 H1 σ _ F1 u rs1 o1 e2 _ fun y H2 Z2 G2 a2 s2 d2 r2 => ?_⟩
          cases asS_eq c4
          obtain ⟨rfl, _⟩ := r2.at_eq
          refine ⟨a, b, rfl, rfl, k.1, Nat.le_trans (Nat.add_le_add_right k.2 2) (by rw [sizeLine_eq]; decide), fun p np => ?_⟩
          have sp := a2.env o1 rs1.no
          refine newList (K := K) a2.ok (RepL.ofStrs _) np fun v H3 Z3 G a3 gn dz rt => ?_
          obtain ⟨s3, d3⟩ := a3.more sp.ok (rs1.pst o1 a2).no gn dz
          exact q _ rfl v H3 Z3 G F1 ((sF.trans sp).trans s3) d3 rt ((rs1.pst o1 a2).pst sp.ok a3)
        · cases e3
  · refine ho Z H σ ρ F _ ρ' rs o e1 _ (fun t1 et => by cases et) fun x' ex d H1 Z1 F1 s1 rs1 xo => ?_
    cases ex
    exact qe x rfl d H1 Z1 F1 s1 rs1 xo
def gRep (t u : T) : Option T := (lstT t).bind fun ts => (asI u).bind fun k => if frzdL ts = true ∧ -1000 ≤ k ∧ k ≤ 1000 ∧ ts.length * k.toNat ≤ 1000 then some (.nd (.lst true) (List.replicate k.toNat ts).flatten) else none
theorem RepL.rep {Z : AS} {H : Hp} {ts : List T} {vs : List V} (h : RepL K Z H ts vs non) : ∀ n : Nat, RepL K Z H (List.replicate n ts).flatten (List.replicate n vs).flatten non
  | 0 => .nil
  | n + 1 => by
    have z := RepL.append h (RepL.rep h n) Dj.non
    rw [non_uni] at z
    rw [List.replicate_succ, List.replicate_succ, List.flatten_cons, List.flatten_cons]
    exact z
theorem os_rep : OpS K B rRep gRep := fun Z H x y t u t' G1 G2 o r1 r2 e Q q => by
  unfold gRep at e
  obtain ⟨ts, c1, e⟩ := bind2 (γ := Unit) e
  obtain ⟨k, c2, e⟩ := bind2 (γ := Unit) e
  split at e
  · rename_i c
    cases e
    cases asI_eq c2
    obtain ⟨rfl, _⟩ := r2.at_eq
    obtain ⟨a, vs, rfl, ho, hl⟩ := lstT_ok r1 c1 c.1
    have ln := hl.length
    refine ⟨a, k, vs, rfl, rfl, ho, by omega, by omega, ?_, fun p np => ?_⟩
    · rw [← ln]
      exact Nat.le_trans c.2.2.2 (by rw [sizeLine_eq]; decide)
    · exact newList (K := K) o (RepL.rep hl _) np q
  · cases e
def vClear (f : EM T) : EM T := bE f fun t => rE (match t with
  | .nd (.lst true) _ => some (.at .non)
  | _ => none)
theorem vj_clear {te : TE} {f : EM T} (h : VJ K B E te f) : VJ K B E (tBM0 K "list" rClear te) (vClear f) := fun Z H σ ρ F r ρ' rs o e Q q qe => by
  rcases bE_ok e with ⟨u, ρ1, e1, e⟩ | ⟨x, e1, rfl⟩
  · obtain ⟨t', e3, rfl, rfl⟩ := rE_ok e
    refine h Z H σ ρ F _ _ rs o e1 _ (fun t1 et v H1 Z1 G1 F1 s1 d1 r1 rs1 => ?_) fun x ex => by cases ex
    cases et
    cases r1 with
    | «at» _ => cases e3
    | hole => cases e3
    | @nd k ts a vs Fc ho hl hn =>
      match k, e3, ho, hn, s1, d1 with
      | .lst true, e3, ho, hn, s1, d1 =>
        cases e3
        obtain ⟨ob, hob, n1, n2, n3, n4⟩ := ho.owned rfl
        refine ⟨.inl ⟨rfl, vs, ho.sql⟩, a, vs, rfl, rfl, ho, ?_⟩
        have sw : Stp B Z1 (uni (put (.lst true) a Fc) F1) H1 Z1 (uni (put (.lst true) a Fc) F1) (upd H1 a (.lst [])) := Stp.wr s1.ok hob (.inl (.inl rfl)) n1 n2 n3 n4
        have fx : Fx (one a) H1 (upd H1 a (.lst [])) := Fx.wr hob rfl n1 n2 n3
        have nZ : ¬ Z1 a := fun z => s1.ok.dj a (.inl (.inl rfl)) z
        have nF : ¬ F1 a := fun z => d1 a (.inl rfl) z
        refine q _ rfl .non _ Z1 non F1 ((s1.trans sw).less fun x z => z.elim (fun y => y.elim) .inr) Dj.non' (.at rfl) (rs1.st fx (fun _ z => z) (fun x z y => nZ (by rw [← show x = a from y]; exact z)) fun x z y => nF (by rw [← show x = a from y]; exact z))
  · refine h Z H σ ρ F _ ρ' rs o e1 _ (fun t1 et => by cases et) fun x' ex d H1 Z1 F1 s1 rs1 xo => ?_
    cases ex
    exact qe x rfl d H1 Z1 F1 s1 rs1 xo
end
end TV
/-! Values alike. -/
namespace TV
open PySem L2
def all2 (f : T → T → Bool) : List T → List T → Bool
  | [], [] => true
  | t :: ts, u :: us => f t u && all2 f ts us
  | _, _ => false
def plainV : V → Bool
  | .bl _ => true
  | .str _ => true
  | .int _ => true
  | .non => true
  | _ => false
def likeT : Nat → T → T → Bool
  | 0, _, _ => false
  | _ + 1, .at x, .at y => decide (x = y) && plainV x
  | n + 1, .nd (.lst _) ts, .nd (.lst _) us => decide (ts.length ≤ 1000) && all2 (likeT n) ts us
  | n + 1, .nd .tup ts, .nd .tup us => decide (ts.length ≤ 1000) && all2 (likeT n) ts us
  | _ + 1, _, _ => false
theorem all2_ints (n : Nat) : ∀ l : List Int, all2 (likeT (n + 1)) (TI l) (TI l) = true
  | [] => rfl
  | i :: l => by
    show (likeT (n + 1) (.at (.int i)) (.at (.int i)) && all2 (likeT (n + 1)) (TI l) (TI l)) = true
    rw [all2_ints n l]
    simp [likeT, plainV]
theorem like_I {n : Nat} {m m' : Bool} {l : List Int} (h : l.length ≤ 1000) : likeT (n + 2) (lT m l) (lT m' l) = true := by
  show (decide ((TI l).length ≤ 1000) && all2 (likeT (n + 1)) (TI l) (TI l)) = true
  rw [all2_ints, decide_eq_true (by rw [len_TI]; exact h)]
  rfl
theorem all2_roads (n : Nat) : ∀ l : List LT.Rd3, all2 (likeT (n + 2)) (rsT l) (rsT l) = true
  | [] => rfl
  | r :: l => by
    have e : likeT (n + 2) (roadT r) (roadT r) = true := by
      show (decide ((TI [r.1, r.2.1, r.2.2]).length ≤ 1000) && all2 (likeT (n + 1)) (TI [r.1, r.2.1, r.2.2]) (TI [r.1, r.2.1, r.2.2])) = true
      rw [all2_ints, decide_eq_true (show (TI [r.1, r.2.1, r.2.2]).length ≤ 1000 from by rw [len_TI]; exact Nat.le_of_ble_eq_true rfl)]
      rfl
    show (likeT (n + 2) (roadT r) (roadT r) && all2 (likeT (n + 2)) (rsT l) (rsT l)) = true
    rw [all2_roads n l, e]
    rfl
theorem like_R {n : Nat} {m m' : Bool} {l : List LT.Rd3} (h : l.length ≤ 1000) : likeT (n + 3) (rT m l) (rT m' l) = true := by
  show (decide ((rsT l).length ≤ 1000) && all2 (likeT (n + 2)) (rsT l) (rsT l)) = true
  rw [all2_roads, decide_eq_true (by rw [rsT_len]; exact h)]
  rfl
end TV
/-! A web's text. -/
namespace TV
open PySem L2 LT
def S (i : Int) : Str := Str.ofString (toString i)
def lit (x : String) : Str := Str.ofString x
theorem tl_S {i : Int} (h : 0 ≤ i) : TL.tl (S i) = TL.numL i.toNat := by
  have := TL.tl_num i.toNat
  rw [show ((i.toNat : Nat) : Int) = i from by omega] at this
  exact this
theorem numL_two : ∀ n < 100, (TL.numL n).length ≤ 2 := by decide +kernel
theorem numL_head : ∀ n < 100, TL.numL n = [48] ∨ ∃ c ∈ (TL.numL n)[0]?, c ≠ 48 := by decide +kernel
theorem len_tl (s : Str) : s.length = (TL.tl s).length := (Array.length_toList ..).symm
theorem S_len {i : Int} (h0 : 0 ≤ i) (h1 : i < 100) : (S i).length ≤ 2 := by
  rw [len_tl, tl_S h0]
  exact numL_two _ (by omega)
theorem S_free {i : Int} (h0 : 0 ≤ i) {s : Nat} (hs : s < 48) : s ∉ TL.tl (S i) := by
  rw [tl_S h0]
  exact TL.numL_free (.inl hs)
theorem S_int {i : Int} (h0 : 0 ≤ i) (h1 : i < 100) : intText? (S i) = some i := by
  have l := numL_two i.toNat (by omega)
  have := TL.int_num (n := i.toNat) (by omega)
  rw [show ((i.toNat : Nat) : Int) = i from by omega] at this
  exact this
structure NumOk (s : Str) : Prop where
  ascii : Txt.isascii s = true
  digit : Txt.isdigit s = true
  len : s.length ≤ 3
  head : s = lit "0" ∨ ∃ ch, atI s.cps.toList 0 = some ch ∧ (⟨#[ch]⟩ : Str) ≠ lit "0"
theorem tl_0 : TL.tl (lit "0") = [48] := by decide +kernel
theorem digs_ok : ∀ n < 100, ((TL.numL n).all fun x => decide (x < 128)) = true ∧ ((TL.numL n).all Unicode.isDigit) = true ∧ 0 < (TL.numL n).length := by decide +kernel
theorem S_num {i : Int} (h0 : 0 ≤ i) (h1 : i < 100) : NumOk (S i) := by
  have e := tl_S h0
  have l := S_len h0 h1
  obtain ⟨d1, d2, d3⟩ := digs_ok i.toNat (by omega)
  rw [← e] at d1 d2 d3
  refine ⟨?_, ?_, by omega, ?_⟩
  · unfold Txt.isascii
    rw [← Array.all_toList]
    exact d1
  · unfold Txt.isdigit
    rw [← Array.all_toList, Bool.and_eq_true]
    exact ⟨decide_eq_true (by rw [len_tl]; exact d3), d2⟩
  · rcases numL_head i.toNat (by omega) with h | ⟨ch, hc, ne⟩
    · left
      refine TL.ext_tl ?_
      rw [e, h, tl_0]
    · right
      refine ⟨ch, ?_, fun z => ne ?_⟩
      · rw [← e] at hc
        exact atI_of (j := 0) (ixN_nat (i := 0) (by
          have := (List.getElem?_eq_some_iff.mp hc).1
          exact this)) hc
      · have := congrArg TL.tl z
        rw [tl_0] at this
        exact List.head_eq_of_cons_eq this
def roadS (r : Rd3) : Str := lit "road " ++ S r.1 ++ lit " " ++ S r.2.1 ++ lit " " ++ S r.2.2
def handsS (n : Int) : Str := lit "hands " ++ S n
def wordsR (r : Rd3) : List Str := [lit "road", S r.1, S r.2.1, S r.2.2]
def wordsH (n : Int) : List Str := [lit "hands", S n]
def rowsL (n : Int) (rs : List Rd3) : List Str := handsS n :: rs.map roadS
def textS (n : Int) (rs : List Rd3) : Str := Txt.join (lit "\n") (rowsL n rs)
theorem tl_sp : TL.tl (lit " ") = [32] := by decide +kernel
theorem tl_nl : TL.tl (lit "\n") = [10] := by decide +kernel
theorem tl_rd : TL.tl (lit "road ") = TL.tl (lit "road") ++ [32] := by decide +kernel
theorem tl_hd : TL.tl (lit "hands ") = TL.tl (lit "hands") ++ [32] := by decide +kernel
theorem tl_rd0 : TL.tl (lit "road") = [114, 111, 97, 100] := by decide +kernel
theorem tl_hd0 : TL.tl (lit "hands") = [104, 97, 110, 100, 115] := by decide +kernel
theorem road_join (r : Rd3) : roadS r = Txt.join (lit " ") (wordsR r) := by
  refine TL.ext_tl ?_
  have e : TL.tl (Txt.join (lit " ") (wordsR r)) = TL.joinL (TL.tl (lit " ")) ((wordsR r).map TL.tl) := by
    rw [show Txt.join _ _ = _ from TL.join_eq _ _]
    exact TL.tl_join _ _
  rw [e]
  unfold roadS wordsR
  rw [TL.tl_append, TL.tl_append, TL.tl_append, TL.tl_append, TL.tl_append, tl_rd, tl_sp]
  simp [TL.joinL, tl_rd0]
theorem hands_join (n : Int) : handsS n = Txt.join (lit " ") (wordsH n) := by
  refine TL.ext_tl ?_
  have e : TL.tl (Txt.join (lit " ") (wordsH n)) = TL.joinL (TL.tl (lit " ")) ((wordsH n).map TL.tl) := by
    rw [show Txt.join _ _ = _ from TL.join_eq _ _]
    exact TL.tl_join _ _
  rw [e]
  unfold handsS wordsH
  rw [TL.tl_append, tl_hd, tl_sp]
  simp [TL.joinL, tl_hd0]
theorem sp_small : ((lit " ").cps.all fun x => decide (x < 256)) = true := by decide +kernel
theorem nl_small : ((lit "\n").cps.all fun x => decide (x < 256)) = true := by decide +kernel
theorem split_road {r : Rd3} (h0 : 0 ≤ r.1) (h1 : 0 ≤ r.2.1) (h2 : 0 ≤ r.2.2) : Txt.split (roadS r) (lit " ") = wordsR r := by
  rw [road_join]
  refine TL.split_join tl_sp sp_small (by simp [wordsR]) fun p hp => ?_
  unfold wordsR at hp
  simp only [List.mem_cons, List.not_mem_nil, or_false] at hp
  rcases hp with rfl | rfl | rfl | rfl
  · rw [tl_rd0]; decide
  · exact S_free h0 (by decide)
  · exact S_free h1 (by decide)
  · exact S_free h2 (by decide)
theorem split_hands {n : Int} (h0 : 0 ≤ n) : Txt.split (handsS n) (lit " ") = wordsH n := by
  rw [hands_join]
  refine TL.split_join tl_sp sp_small (by simp [wordsH]) fun p hp => ?_
  unfold wordsH at hp
  simp only [List.mem_cons, List.not_mem_nil, or_false] at hp
  rcases hp with rfl | rfl
  · rw [tl_hd0]; decide
  · exact S_free h0 (by decide)
theorem nl_hands {n : Int} (h0 : 0 ≤ n) : 10 ∉ TL.tl (handsS n) := by
  unfold handsS
  rw [TL.tl_append, tl_hd, tl_hd0, List.mem_append]
  rintro (z | z)
  · revert z; decide
  · exact S_free h0 (by decide) z
theorem nl_road {r : Rd3} (h0 : 0 ≤ r.1) (h1 : 0 ≤ r.2.1) (h2 : 0 ≤ r.2.2) : 10 ∉ TL.tl (roadS r) := by
  unfold roadS
  simp only [TL.tl_append, tl_rd, tl_rd0, tl_sp, List.mem_append]
  rintro ((((((z | z) | z) | z) | z) | z) | z)
  · revert z; decide
  · revert z; decide
  · exact S_free h0 (by decide) z
  · revert z; decide
  · exact S_free h1 (by decide) z
  · revert z; decide
  · exact S_free h2 (by decide) z
theorem split_text {n : Int} {rs : List Rd3} (w : WebOk n rs) : Txt.split (textS n rs) (lit "\n") = rowsL n rs := by
  have := w.lo
  refine TL.split_join tl_nl nl_small (by simp [rowsL]) fun p hp => ?_
  unfold rowsL at hp
  rcases List.mem_cons.mp hp with rfl | hp
  · exact nl_hands (by omega)
  · obtain ⟨r, hr, rfl⟩ := List.mem_map.mp hp
    have q := w.rng r hr
    exact nl_road (by omega) (by omega) (by omega)
theorem road_len {r : Rd3} (h0 : 0 ≤ r.1 ∧ r.1 < 100) (h1 : 0 ≤ r.2.1 ∧ r.2.1 < 100) (h2 : 0 ≤ r.2.2 ∧ r.2.2 < 100) : (roadS r).length ≤ 13 := by
  have a := S_len h0.1 h0.2
  have b := S_len h1.1 h1.2
  have c := S_len h2.1 h2.2
  rw [len_tl] at a b c ⊢
  unfold roadS
  simp only [TL.tl_append, tl_rd, tl_rd0, tl_sp, List.length_append, List.length_cons, List.length_nil]
  omega
theorem hands_len {n : Int} (h0 : 0 ≤ n ∧ n < 100) : (handsS n).length ≤ 8 := by
  have a := S_len h0.1 h0.2
  rw [len_tl] at a ⊢
  unfold handsS
  simp only [TL.tl_append, tl_hd, tl_hd0, List.length_append, List.length_cons, List.length_nil]
  omega
theorem sum_le : ∀ (l : List Str) (k : Nat), (∀ s ∈ l, s.length ≤ k) → (l.map (·.length)).sum ≤ l.length * k
  | [], _, _ => by simp
  | s :: l, k, h => by
    have ih := sum_le l k fun x hx => h x (List.mem_cons_of_mem _ hx)
    have := h s (List.mem_cons_self ..)
    rw [List.map_cons, List.sum_cons, List.length_cons, Nat.succ_mul]
    omega
theorem joinL_len (S : List Nat) : ∀ (ps : List (List Nat)), (TL.joinL S ps).length ≤ (ps.map (·.length)).sum + ps.length * S.length
  | [] => by simp [TL.joinL]
  | [p] => by simp [TL.joinL]
  | p :: q :: ps => by
    have ih := joinL_len S (q :: ps)
    have e : TL.joinL S (p :: q :: ps) = p ++ (S ++ TL.joinL S (q :: ps)) := by
      simp [TL.joinL]
    rw [e, List.length_append, List.length_append, List.map_cons, List.sum_cons, List.length_cons, Nat.succ_mul]
    omega
theorem rows_len {n : Int} {rs : List Rd3} (w : WebOk n rs) : ((rowsL n rs).map (·.length)).sum + (rowsL n rs).length * (lit "\n").length ≤ 294 := by
  have := w.lo
  have := w.hi
  have l20 := w.len
  have h := sum_le (rowsL n rs) 13 fun s hs => by
    unfold rowsL at hs
    rcases List.mem_cons.mp hs with rfl | hs
    · have := hands_len (n := n) (by omega)
      omega
    · obtain ⟨r, hr, rfl⟩ := List.mem_map.mp hs
      have q := w.rng r hr
      exact road_len (by omega) (by omega) (by omega)
  have l : (rowsL n rs).length = rs.length + 1 := by
    unfold rowsL
    rw [List.length_cons, List.length_map]
  have e : (lit "\n").length = 1 := by decide +kernel
  rw [l] at h ⊢
  rw [e]
  omega
theorem text_len {n : Int} {rs : List Rd3} (w : WebOk n rs) : (textS n rs).length ≤ 294 := by
  have h := rows_len w
  have e : TL.tl (textS n rs) = TL.joinL (TL.tl (lit "\n")) ((rowsL n rs).map TL.tl) := by
    unfold textS
    rw [show Txt.join _ _ = _ from TL.join_eq _ _]
    exact TL.tl_join _ _
  rw [len_tl, e]
  have q := joinL_len (TL.tl (lit "\n")) ((rowsL n rs).map TL.tl)
  rw [List.map_map, List.length_map] at q
  have m : (rowsL n rs).map ((fun l : List Nat => l.length) ∘ TL.tl) = (rowsL n rs).map (·.length) := List.map_congr_left fun s _ => (len_tl s).symm
  rw [m, ← len_tl] at q
  omega
/-- a text put in brackets -/
theorem fmt_S {i : Int} (h0 : 0 ≤ i) (h1 : i < 100) : fmtT (.at (.int i)) = some (sT (S i)) := by
  show (if i.natAbs.log2 < 1920 then some (T.at (.str (Str.ofString (toString i)))) else none) = _
  have : i.natAbs.log2 < 1920 := by
    have : i.natAbs.log2 ≤ i.natAbs := Nat.log2_le_self _
    omega
  rw [if_pos this]
  rfl
theorem str_S {i : Int} (h0 : 0 ≤ i) (h1 : i < 100) : gStr [.at (.int i)] = some (sT (S i)) := by
  show (if i.natAbs.log2 < 1920 then some (sT (Str.ofString (toString i))) else none) = _
  have : i.natAbs.log2 < 1920 := by
    have : i.natAbs.log2 ≤ i.natAbs := Nat.log2_le_self _
    omega
  rw [if_pos this]
  rfl
theorem add_S {a b : Str} (h : a.length + b.length ≤ 100000) : gAddS (sT a) (sT b) = some (sT (a ++ b)) := by
  show (if a.length + b.length ≤ 100000 then some (T.at (.str (a ++ b))) else none) = _
  rw [if_pos h]
  rfl
theorem app_len (a b : Str) : (a ++ b).length = a.length + b.length := by
  rw [len_tl, TL.tl_append, List.length_append, ← len_tl, ← len_tl]
theorem empty_app (a : Str) : Str.empty ++ a = a := TL.ext_tl (by rw [TL.tl_append]; rfl)
theorem frzL_TS : ∀ l : List Str, frzL (TS' l) = TS' l
  | [] => rfl
  | s :: l => by
    show frz (sT s) :: frzL (TS' l) = _
    rw [frzL_TS l]
    rfl
theorem canFrzL_TS : ∀ l : List Str, canFrzL (TS' l) = true
  | [] => rfl
  | s :: l => by
    show (canFrz (sT s) && canFrzL (TS' l)) = true
    rw [canFrzL_TS l]
    rfl
theorem frzdL_TS : ∀ l : List Str, frzdL (TS' l) = true
  | [] => rfl
  | s :: l => by
    show (frzd (sT s) && frzdL (TS' l)) = true
    rw [frzdL_TS l]
    rfl
theorem item_TS : ∀ l : List Str, (TS' l).map item = TS' l
  | [] => rfl
  | s :: l => by
    show item (sT s) :: (TS' l).map item = _
    rw [item_TS l]
    rfl
theorem TS_at {l : List Str} {i : Nat} {t : T} (h : (TS' l)[i]? = some t) : ∃ s, l[i]? = some s ∧ t = sT s := by
  unfold TS' at h
  rw [List.getElem?_map] at h
  cases c : l[i]? with
  | none => rw [c] at h; cases h
  | some r => rw [c] at h; cases h; exact ⟨r, rfl, rfl⟩
theorem TS_len {l : List Str} : (TS' l).length = l.length := List.length_map ..
/-- rows of words -/
def slT (m : Bool) (l : List Str) : T := .nd (.lst m) (TS' l)
def wsT (ws : List (List Str)) : List T := ws.map (slT false)
theorem frz_slf (s : List Str) : frz (slT false s) = slT false s := by
  show T.nd (.lst false) (frzL (TS' s)) = _
  rw [frzL_TS]
  rfl
theorem frzL_ws : ∀ ss, frzL (wsT ss) = wsT ss
  | [] => rfl
  | s :: ss => by
    show frz (slT false s) :: frzL (wsT ss) = _
    rw [frz_slf, frzL_ws ss]
    rfl
theorem canFrzL_ws : ∀ ss, canFrzL (wsT ss) = true
  | [] => rfl
  | s :: ss => by
    have e : canFrz (slT false s) = true := canFrzL_TS s
    show (canFrz (slT false s) && canFrzL (wsT ss)) = true
    rw [e, canFrzL_ws ss]
    rfl
theorem frzdL_ws : ∀ ss, frzdL (wsT ss) = true
  | [] => rfl
  | s :: ss => by
    have e : frzd (slT false s) = true := frzdL_TS s
    show (frzd (slT false s) && frzdL (wsT ss)) = true
    rw [e, frzdL_ws ss]
    rfl
theorem item_ws : ∀ ss, (wsT ss).map item = wsT ss
  | [] => rfl
  | s :: ss => by
    have e : item (slT false s) = slT false s := if_pos (frzdL_TS s)
    show item (slT false s) :: (wsT ss).map item = _
    rw [item_ws ss, e]
    rfl
theorem ws_at {ss : List (List Str)} {i : Nat} {t : T} (h : (wsT ss)[i]? = some t) : ∃ s, ss[i]? = some s ∧ t = slT false s := by
  unfold wsT at h
  rw [List.getElem?_map] at h
  cases c : ss[i]? with
  | none => rw [c] at h; cases h
  | some r => rw [c] at h; cases h; exact ⟨r, rfl, rfl⟩
theorem ws_len {ss : List (List Str)} : (wsT ss).length = ss.length := List.length_map ..
end TV
/-! A lambda handed to a def that calls it under a try. -/
namespace TV
open PySem L2
section
variable {K : PySem.W.Frag} {B : Tabs} {E : XK} {P : Nat → Prop}
theorem frS {Z F : AS} {H H' : Hp} (o : Ok B Z F H) (f : LT.Fr [] H H') : Pst B Z H Z H' := by
  have fx : Fx non H H' := ⟨fun b x _ e => f.keep b x (by simp) e, f.tup, f.frz, f.ext, fun b e => by
    cases c : H b with
    | none => rfl
    | some x => rw [f.keep b x (by simp) c] at e; cases e⟩
  exact ⟨fx.mono fun _ z => z.elim, fun _ z => z, fun a z => .inl z, fun a z => z.elim, fun a z => z.elim, fun a z => by
    obtain ⟨x, h1, h2⟩ := o.zal a z
    exact ⟨x, f.keep _ _ (by simp) h1, h2⟩, o.amb.fx fx fun _ _ z => z.elim⟩
/-- a table may grow -/
theorem tabS {Z F : AS} {H H2 : Hp} {p : Addr} {qn : Str} (hB : (p, qn) ∈ B) (hu : ∀ a q', (a, q') ∈ B → a = p → q' = qn) (o : Ok B Z F H) (fr : LT.Fr [p] H H2) (tb2 : LamX.TabS H2 p qn) : Pst B Z H Z H2 := by
  have fx : Fx (bs B) H H2 := ⟨fun b ob nb eb => fr.keep b ob (fun z => nb ⟨qn, by rw [List.mem_singleton.mp z]; exact hB⟩) eb, fr.tup, fr.frz, fr.ext, fun b eb => by
    cases eh : H b with
    | none => rfl
    | some ob =>
      by_cases cb : b = p
      · rw [cb] at eb
        obtain ⟨ps, z, _⟩ := tb2
        rw [eb] at z; cases z
      · rw [fr.keep b ob (by simp [cb]) eh] at eb
        cases eb⟩
  have am2 : Amb B H2 := fun a q' hq => by
    by_cases ca : a = p
    · rw [ca, hu a q' hq ca]
      exact tb2
    · exact LT.tab_fr (o.amb a q' hq) fr (by simp [ca])
  exact ⟨fx.mono fun b z => .inr z, fun _ z => z, fun _ z => .inl z, fun _ z => z.elim, ⟨fun _ z => z.elim, fun a z => by
    obtain ⟨u, hu', n'⟩ := o.zal a z
    exact ⟨u, fx.keep a u (o.zb a z) hu', n'⟩, am2⟩⟩
def fLamR (CN : Addr) (G : Fn) (i j : Nat) : EM T := fun ρ => (fVar i ρ).bind fun _ => (fVar j ρ).bind fun _ => (callG G [.inl i, .inl j] ρ).bind fun x => match x with
  | (.ok _, ρ') => some (.ok (.at (.bl false)), ρ')
  | (.error (C, none), ρ') => if C = CN then some (.ok (.at (.bl true)), ρ') else none
  | _ => none
theorem vj_lamR {p CN : Addr} {qn : Str} (hB : (p, qn) ∈ B) (hu : ∀ a q', (a, q') ∈ B → a = p → q' = qn) {N : List Str} {vs : List V} {G : Fn} {i j a b : Nat} (ha : ∀ x y : V, (NdefX.startF N vs [some x, some y])[a]? = some (some x)) (hb : ∀ x y : V, (NdefX.startF N vs [some x, some y])[b]? = some (some y)) :
    VJ K B E (LT.tLamR p qn N vs [i, j] (LT.TTref CN) fun Ex => tCallS (spOf K B G) (fun _ => Ex) (tCons (tVar a) (tCons (tVar b) tNil))) (fLamR CN G i j) := fun Z H σ ρ F r ρ' rs o e Q q qe => by
  unfold fLamR at e
  obtain ⟨t1, c1, e⟩ := bind2 (γ := Unit) e
  obtain ⟨t2, c2, e⟩ := bind2 (γ := Unit) e
  obtain ⟨⟨x, ρ1⟩, c3, e⟩ := bind2 (γ := Unit) e
  refine ⟨o.amb p qn hB, fun H2 fr tb2 => ?_⟩
  have a2 := tabS hB hu o fr tb2
  have rs2 := rs.pst o a2
  have s2 := a2.env o rs.no
  obtain ⟨x1, G1, hx1, _, _⟩ := rs.get (fVar_get c1).1 (fVar_get c1).2
  obtain ⟨x2, G2, hx2, _, _⟩ := rs.get (fVar_get c2).1 (fVar_get c2).2
  have sl : [i, j].map (NdefX.slotAt σ) = [some x1, some x2] := by
    show [NdefX.slotAt σ i, NdefX.slotAt σ j] = _
    unfold NdefX.slotAt
    rw [hx1, hx2]
  rw [sl]
  have ok2 : Ok B Z (uni non F) H2 := by rw [non_uni]; exact s2.ok
  refine ⟨x1, ha _ _, x2, hb _ _, ?_⟩
  show spOf K B G [x1, x2] H2 (fun _ H' => Q (.bl false) H') (fun cls d H' => cls = .ref CN ∧ d = none ∧ ∀ H'', LT.Fr [] H' H'' → Q (.bl true) H'')
  refine use_sp c3 (.slot hx1 (.slot hx2 .nil)) rs2 ok2 Dj.non' (fun t et v H' Z' G' F' s d rt rs3 => ?_) fun x ex d H' Z' F' s rs3 xo => ?_
  · subst et
    cases e
    rw [non_uni] at s
    exact q _ rfl (.bl false) H' Z' non F' (by rw [non_uni]; exact (s2.trans s).less fun a z => .inr z) Dj.non' (.at rfl) rs3
  · subst ex
    obtain ⟨C, l⟩ := x
    match l, e with
    | none, e =>
      have e2 : (if C = CN then some ((Except.ok (T.at (.bl true)) : Except Ex T), ρ1) else none) = some (r, ρ') := e
      clear e
      split at e2
      · rename_i hc
        cases e2
        refine ⟨by rw [hc], xo, fun H'' f => ?_⟩
        rw [non_uni] at s
        have a3 := frS s.ok f
        exact q _ rfl (.bl true) H'' Z' non F' (by rw [non_uni]; exact (s2.trans s).trans (a3.env s.ok rs3.no)) Dj.non' (.at rfl) (rs3.pst s.ok a3)
      · cases e2
    | some _, e => cases e
def gIsi : List T → Option T
  | [.nd (.lst true) _, .at (.ty n)] => if n = "list" then some (.at (.bl true)) else none
  | _ => none
theorem cs_isi : CallS K B (rIsi K) gIsi := fun Z H ts vs t' o pr e Q q => by
  match ts, e with
  | [.nd (.lst true) us, .at (.ty n)], e =>
    have e2 : (if n = "list" then some (T.at (.bl true)) else none) = some t' := e
    clear e
    split at e2
    case isFalse => cases e2
    rename_i en
    subst en
    cases e2
    cases pr with
    | cons h1 h2 =>
      obtain ⟨G1, r1⟩ := h1
      cases h2 with
      | cons h3 h4 =>
        cases h4
        obtain ⟨G2, r2⟩ := h3
        obtain ⟨rfl, _⟩ := r2.at_eq
        cases r1 with
        | nd ho hl hn =>
          exact ⟨_, _, .type "list", .type "list", true, rfl, .ty "list", .base (.lst ho), kit_ty (by decide +kernel), atom o rfl q⟩
/-- a slot's value, moved out -/
def fMove (i : Nat) : EM T := fun ρ => (fVar i ρ).map fun t => (.ok t, ρ.set i .hole)
theorem vj_move {i : Nat} : VJ K B E (tVar i) (fMove i) := fun Z H σ ρ F r ρ' rs o e Q q _ => by
  unfold fMove at e
  cases c : fVar i ρ with
  | none => rw [c] at e; cases e
  | some t =>
    rw [c] at e
    cases e
    obtain ⟨c1, c2⟩ := fVar_get c
    obtain ⟨w, G, R, pa, rt, rs', dj, rfl⟩ := rs.take (p := []) (u := t) c1 c2 rfl
    obtain ⟨_, v, _, hv, va⟩ := pa
    cases va
    exact ⟨w, hv, q t rfl w H Z G R (Stp.refl o) dj rt rs'⟩
theorem Re_move {i : Nat} {ρ : Env} {t : T} {Φ : T → Env → Prop} (h : fVar i ρ = some t) (k : Φ t (ρ.set i .hole)) : Re (fMove i) ρ Φ := ⟨t, ρ.set i .hole, by unfold fMove; rw [h]; rfl, k⟩
end
end TV
/-! Loops over a slot's list that stays the slot's own. -/
namespace TV
open PySem L2
section
variable {K : PySem.W.Frag} {B : Tabs} {E : XK} {P : Nat → Prop}
/-- the turns of a for, what is walked kept -/
theorem for_core {J : It} {ts : List T} {G : AS} {I : AS → Hp → Prop} {g : TG} {tb : TS} {fg : T → Env → Option Env} {b : SM} (src : Src K B J ts G I) (hg : GJ K B P g fg) (hb : SJ K B P E tb b) {Z F Z1 F1 : AS} {H H1 : Hp} {σ : St} {ρ1 ρ' : Env} {r : Out}
    (s1 : Stp B Z F H Z1 (uni G F1) H1) (d1 : Dj G F1) (rs1 : RepS K Z1 H1 σ ρ1 F1) (i1 : I Z1 H1) (e : fGo fg b ts ρ1 = some (r, ρ')) {D : Ends}
    (q : ∀ σ' H' Z' F', Sm P σ' σ → Stp B Z F H Z' (uni G F') H' → Dj G F' → I Z' H' → RepS K Z' H' σ' ρ' F' → (r = .nx → D.nx σ' H') ∧ (r = .bk → D.bk σ' H') ∧ (r = .ct → D.ct σ' H') ∧ ∀ e, r = .ex e → ∀ d, exOk e d H' → E (.ref e.1) d H')
    (qr : ∀ t, r = .rt t → ∀ v σ' H' Z' G' F', Sm P σ' σ → Stp B Z F H Z' (uni G' (uni G F')) H' → Dj G' (uni G F') → Dj G F' → I Z' H' → Rep K Z' H' t v G' → RepS K Z' H' σ' ρ' F' → D.rt v H') : tFor (fun _ H R => R J H) g tb D σ H1 := by
  refine ⟨fun i m σ2 H2 => ∃ Z2 F2 ρ2, i + m = ts.length ∧ Sm P σ2 σ ∧ Stp B Z F H Z2 (uni G F2) H2 ∧ Dj G F2 ∧ RepS K Z2 H2 σ2 ρ2 F2 ∧ I Z2 H2 ∧ fGo fg b (ts.drop i) ρ2 = some (r, ρ'), ⟨ts.length, Z1, F1, ρ1, by omega, sm0, s1, d1, rs1, i1, e⟩, ?_⟩
  rintro i m σ2 H2 ⟨Z2, F2, ρ2, im, k2, s2, d2, rs2, i2, e2⟩
  cases m with
  | zero =>
    have hl : i = ts.length := by omega
    rw [hl, List.drop_length] at e2
    cases e2
    refine .inl ⟨by rw [hl]; exact src.stop _ _ i2, ?_⟩
    exact (q σ2 H2 Z2 F2 k2 s2 d2 i2 rs2).1 rfl
  | succ m =>
    have hl : i < ts.length := by omega
    rw [List.drop_eq_getElem_cons hl] at e2
    obtain ⟨go, yl⟩ := src.go Z2 H2 i ts[i] i2 s2.ok.non (List.getElem?_eq_getElem hl)
    refine .inr ⟨go, _, fun σ' H' h => ⟨m, Nat.lt_succ_self m, h⟩, fun x H3 y => ?_⟩
    obtain ⟨Z3, a3, rx, i3⟩ := yl x H3 y
    have e2 : (fg ts[i] ρ2).bind (fun ρ1 => (b ρ1).bind (lk (fGo fg b (ts.drop (i + 1))))) = some (r, ρ') := e2
    cases ec : fg ts[i] ρ2 with
    | none => rw [ec] at e2; cases e2
    | some ρ3 =>
      rw [ec] at e2
      have o2 := s2.ok.sub (G := F2) fun a z => .inr z
      have rs3 := rs2.pst o2 a3
      have s3 := a3.env s2.ok fun x z => z.elim (src.al _ _ i2 x) (rs2.no x)
      have o3 := s3.ok.sub (G := F2) fun a z => .inr z
      refine hg Z3 H3 σ2 ρ2 F2 non _ x ρ3 rs3 (by rw [non_uni]; exact o3) Dj.non' rx ec _ fun σ4 H4 Z4 F4 k4 s4 rs4 => ?_
      rw [non_uni] at s4
      have G3 : ∀ a, G a → H3 a ≠ none := src.al _ _ i3
      obtain ⟨f4, g4, _⟩ := Stp.frame (R := G) s4 (fun a z y => s3.ok.dj a (.inl z) y) d2 G3
      have i4 := src.st _ _ _ _ _ _ i3 o3 s4 d2
      have s24 : Stp B Z F H Z4 (uni G F4) H4 := by
        rw [uni_comm (F := F2)] at f4
        have z := (s2.trans s3).trans f4
        rw [uni_comm (F := F4)] at z
        exact z
      have e2 : (b ρ3).bind (lk (fGo fg b (ts.drop (i + 1)))) = some (r, ρ') := e2
      cases eb : b ρ3 with
      | none => rw [eb] at e2; cases e2
      | some y =>
        obtain ⟨w, ρ5⟩ := y
        rw [eb] at e2
        refine hb Z4 H4 σ4 ρ3 F4 w ρ5 rs4 s4.ok eb _ (fun σ5 H5 Z5 F5 k5 s5 rs5 => ?_) fun t et v σ5 H5 Z5 G5 F5 k5 s5 d5 r5 rs5 => ?_
        · have G4 : ∀ a, G a → H4 a ≠ none := src.al _ _ i4
          obtain ⟨f5, g5, _⟩ := Stp.frame (R := G) s5 (fun a z y => s24.ok.dj a (.inl z) y) g4.symm G4
          have i5 := src.st _ _ _ _ _ _ i4 s4.ok s5 g4.symm
          have s25 : Stp B Z F H Z5 (uni G F5) H5 := by
            rw [uni_comm (F := F4)] at f5
            have z := s24.trans f5
            rw [uni_comm (F := F5)] at z
            exact z
          have k := (k5.trans k4).trans k2
          refine ⟨fun ew => ?_, fun ew => ?_, fun ew => ?_, fun x ew d xo => ?_⟩
          · subst ew
            exact ⟨Z5, F5, ρ5, by omega, k, s25, g5.symm, rs5, i5, e2⟩
          · subst ew
            cases e2
            exact (q σ5 H5 Z5 F5 k s25 g5.symm i5 rs5).1 rfl
          · subst ew
            exact ⟨Z5, F5, ρ5, by omega, k, s25, g5.symm, rs5, i5, e2⟩
          · subst ew
            cases e2
            exact (q σ5 H5 Z5 F5 k s25 g5.symm i5 rs5).2.2.2 x rfl d xo
        · subst et
          cases e2
          have G4 : ∀ a, G a → H4 a ≠ none := src.al _ _ i4
          obtain ⟨f5, g5, _⟩ := Stp.frame (R := G) s5 (fun a z y => s24.ok.dj a (.inl z) y) g4.symm G4
          have i5 := src.st _ _ _ _ _ _ i4 s4.ok s5 g4.symm
          rw [uni_comm (F := F4)] at f5
          have z5 := s24.trans f5
          rw [uni_assoc, uni_comm (F := F5)] at z5
          exact qr t rfl v σ5 H5 Z5 G5 F5 ((k5.trans k4).trans k2) z5 (Dj.uni (fun a z y => g5 a (.inl z) y) d5) (fun a z y => g5 a (.inr y) z) i5 r5 rs5
/-- the turns of a comprehension, what is walked kept -/
theorem lc_core {E' : XK} {J : It} {ts : List T} {G : AS} {I : AS → Hp → Prop} {g : TG} {tt : TT} {te : TE} {vs : List Nat} {fg : T → Env → Option Env} {ft : EM Bool} {fe : EM T} (src : Src K B J ts G I) (hg : GJ K B (fun i => i ∉ vs) g fg) (ht : TJ K B E' tt ft) (he : VJ K B E' te fe)
    {Z F Z1 F1 : AS} {H H1 : Hp} {σ : St} {ρ1 ρ2 : Env} {acc1 : List T} (s1 : Stp B Z F H Z1 (uni G F1) H1) (d1 : Dj G F1) (rs1 : RepS K Z1 H1 σ ρ1 F1) (i1 : I Z1 H1) (hlent : lent ρ1 vs = true) (e2 : goLc vs fg ft fe ts [] ρ1 = some (acc1, ρ2)) {Q : VK}
    (q : ∀ v H' Z' GD F', Stp B Z F H Z' (uni (uni GD G) F') H' → Dj GD G → Dj (uni GD G) F' → I Z' H' → Rep K Z' H' (.nd (.lst true) acc1) v GD → RepS K Z' H' σ (lend ρ1 ρ2 vs) F' → Q v H') : tLc (fun _ H R => R J H) g tt te vs σ H1 Q := by
  refine fun D nD => ?_
  have o1 : Ok B Z1 F1 H1 := s1.ok.sub fun a z => .inr z
  have al1 : ∀ x, uni G F1 x → H1 x ≠ none := fun x z => z.elim (src.al _ _ i1 x) (rs1.no x)
  have sD := Stp.new (o := .lst []) s1.ok nD al1
  have s2 := s1.trans sD
  have fD : Fx non H1 (upd H1 D (.lst [])) := Fx.new nD
  have rs2 : RepS K Z1 (upd H1 D (.lst [])) σ ρ1 F1 := rs1.st fD (fun _ z => z) Dj.non Dj.non
  have nG : ¬ G D := fun z => src.al _ _ i1 D z nD
  have i2 : I Z1 (upd H1 D (.lst [])) := src.st Z1 F1 H1 Z1 (uni (one D) F1) _ i1 o1 (Stp.new o1 nD rs1.no) d1
  have rD0 : Rep K Z1 (upd H1 D (.lst [])) (.nd (.lst true) []) (.ref D) (one D) := by
    have z := Rep.nd (k := .lst true) (K := K) (Z := Z1) (H := upd H1 D (.lst [])) (a := D) upd_same .nil fun _ z => z
    rw [show put (.lst true) D non = uni (one D) non from rfl, uni_non] at z
    exact z
  have kp := Kept.stp (Kept.of rs1 hlent) o1 (Stp.new (o := .lst []) o1 nD rs1.no)
  generalize upd H1 D (.lst []) = H2 at s2 rs2 i2 rD0 kp ⊢
  refine ⟨fun i m H3 => ∃ Z3 GD F3 σ3 ρ3 acc, i + m = ts.length ∧ Stp B Z F H Z3 (uni (uni GD G) F3) H3 ∧ Dj GD G ∧ Dj (uni GD G) F3 ∧ RepS K Z3 H3 σ3 ρ3 F3 ∧ L2.wipe σ3 vs = L2.wipe σ vs ∧ I Z3 H3 ∧ Rep K Z3 H3 (.nd (.lst true) acc) (.ref D) GD ∧ Kept K σ ρ1 vs Z3 H3 ∧
    goLc vs fg ft fe (ts.drop i) acc ρ3 = some (acc1, ρ2), ⟨ts.length, Z1, one D, F1, σ, ρ1, [], by omega, by rw [uni_assoc]; exact s2, fun a e g => nG (by rw [← show a = D from e]; exact g), Dj.uni' (fun a e f => rs1.no a f (by rw [show a = D from e]; exact nD)) d1, rs2, rfl, i2, rD0, kp, e2⟩, ?_⟩
  rintro i m H3 ⟨Z3, GD, F3, σ3, ρ3, acc, im, s3, dG, dF, rs3, w3, i3, rD, kp3, e3⟩
  have GDal : ∀ a, GD a → H3 a ≠ none := fun a z => rD.no z
  have Gal : ∀ a, G a → H3 a ≠ none := src.al _ _ i3
  cases m with
  | zero =>
    have hl : i = ts.length := by omega
    rw [hl, List.drop_length] at e3
    cases e3
    refine .inl ⟨by rw [hl]; exact src.stop _ _ i3, ?_⟩
    obtain ⟨F4, rs4, sub4, _⟩ := RepS.lendTo (σ := σ) rs3 (by
      have z := congrArg List.length w3
      rw [wipe_length, wipe_length, rs3.len, rs1.len] at z
      exact z) vs kp3
    rw [backS_wiped w3] at rs4
    refine q _ H3 Z3 GD F4 (s3.less fun a z => ?_) dG (fun a g f => dF a g (sub4 a f)) i3 rD rs4
    exact z.elim (fun z => .inl z) fun z => .inr (sub4 a z)
  | succ m =>
    have hl : i < ts.length := by omega
    rw [List.drop_eq_getElem_cons hl] at e3
    obtain ⟨go, yl⟩ := src.go Z3 H3 i ts[i] i3 s3.ok.non (List.getElem?_eq_getElem hl)
    refine .inr ⟨go, _, fun H' h => ⟨m, Nat.lt_succ_self m, h⟩, fun x H4 y => ?_⟩
    obtain ⟨Z4, a4, rx, i4⟩ := yl x H4 y
    have e3 : (fg ts[i] (wipeT ρ3 vs)).bind (oB ft fun b => if b = true then oB fe fun y ρ2 => if acc.length < 1000 then goLc vs fg ft fe (ts.drop (i + 1)) (acc ++ [y]) ρ2 else none else fun ρ2 => goLc vs fg ft fe (ts.drop (i + 1)) acc ρ2) = some (acc1, ρ2) := e3
    cases ec : fg ts[i] (wipeT ρ3 vs) with
    | none => rw [ec] at e3; cases e3
    | some ρ5 =>
      rw [ec] at e3
      have o3 := s3.ok.sub (G := F3) fun a z => .inr z
      have rs4 := rs3.pst o3 a4
      have s4 := a4.env s3.ok fun x z => z.elim (fun z => z.elim (GDal x) (Gal x)) (rs3.no x)
      have s34 := s3.trans s4
      have rD4 := rD.pst s3.ok.non a4
      have kp4 := kp3.stp s3.ok.non a4
      obtain ⟨F4, rw4, sub4⟩ := rs4.wipes vs
      have o4 : Ok B Z4 F4 H4 := s4.ok.sub fun a z => .inr (sub4 a z)
      have dF4 : Dj (uni GD G) F4 := fun a z f => dF a z (sub4 a f)
      rw [w3] at rw4
      have s34' : Stp B Z F H Z4 (uni (uni GD G) F4) H4 := s34.less fun a z => z.imp id (sub4 a)
      refine hg Z4 H4 (L2.wipe σ vs) (wipeT ρ3 vs) F4 non _ x ρ5 rw4 (by rw [non_uni]; exact o4) Dj.non' rx ec _ fun σ5 H5 Z5 F5 k5 s5 rs5 => ?_
      rw [non_uni] at s5
      have w5 := wipe_same k5
      refine ⟨w5, ?_⟩
      have R4 : ∀ a, uni GD G a → H4 a ≠ none := fun a z => z.elim (fun z => rD4.no z) (src.al _ _ i4 a)
      obtain ⟨f5, g5, _⟩ := Stp.frame (R := uni GD G) s5 (fun a z y => s4.ok.dj a (.inl z) y) dF4 R4
      have i5 := src.st _ _ _ _ _ _ i4 o4 s5 dF4.r'
      have rD5 := rD4.stp o4 s5 dF4.l'
      have kp5 := kp4.stp o4 s5
      have s35 : Stp B Z F H Z5 (uni (uni GD G) F5) H5 := by
        rw [uni_comm (F := F4)] at f5
        have z := s34'.trans f5
        rw [uni_comm (F := F5)] at z
        exact z
      obtain ⟨b, ρ6, e6, e3⟩ := oB_ok e3
      refine ht Z5 H5 σ5 ρ5 F5 _ ρ6 rs5 s5.ok e6 _ (fun b' eb H6 Z6 F6 s6 rs6 => ?_) fun x ex => by cases ex
      cases eb
      have R5 : ∀ a, uni GD G a → H5 a ≠ none := fun a z => z.elim (fun z => rD5.no z) (src.al _ _ i5 a)
      obtain ⟨f6, g6, _⟩ := Stp.frame (R := uni GD G) s6 (fun a z y => s35.ok.dj a (.inl z) y) g5.symm R5
      have i6 := src.st _ _ _ _ _ _ i5 s5.ok s6 g5.symm.r'
      have rD6 := rD5.stp s5.ok s6 g5.symm.l'
      have kp6 := kp5.stp s5.ok s6
      have s36 : Stp B Z F H Z6 (uni (uni GD G) F6) H6 := by
        rw [uni_comm (F := F5)] at f6
        have z := s35.trans f6
        rw [uni_comm (F := F6)] at z
        exact z
      have w6 : L2.wipe σ5 vs = L2.wipe σ vs := w5
      cases b with
      | false =>
        exact iteF ⟨Z6, GD, F6, σ5, ρ6, acc, by omega, s36, dG, g6.symm, rs6, w6, i6, rD6, kp6, e3⟩
      | true =>
        obtain ⟨y, ρ7, e7, e3⟩ := oB_ok e3
        split at e3
        · rename_i hacc
          refine iteT (he Z6 H6 σ5 ρ6 F6 _ ρ7 rs6 s6.ok e7 _ (fun y' ey v H7 Z7 G7 F7 s7 d7 r7 rs7 => ?_) fun x ex => by cases ex)
          cases ey
          have R6 : ∀ a, uni GD G a → H6 a ≠ none := fun a z => z.elim (fun z => rD6.no z) (src.al _ _ i6 a)
          obtain ⟨f7, g7, _⟩ := Stp.frame (R := uni GD G) s7 (fun a z y => s36.ok.dj a (.inl z) y) g6.symm R6
          have i7 := src.st _ _ _ _ _ _ i6 s6.ok s7 g6.symm.r'
          have rD7 := rD6.stp s6.ok s7 g6.symm.l'
          have kp7 := kp6.stp s6.ok s7
          have s37 : Stp B Z F H Z7 (uni (uni GD G) (uni G7 F7)) H7 := by
            rw [uni_comm (F := F6)] at f7
            have z := s36.trans f7
            rw [uni_comm (F := uni G7 F7)] at z
            exact z
          have GD7 : Dj (uni G7 F7) GD := g7.l
          obtain ⟨us, hD7, rL, nDa, eGD⟩ : ∃ us, H7 D = some (.lst us) ∧ (∃ Fa, RepL K Z7 H7 acc us Fa ∧ ¬ Fa D ∧ GD = uni (one D) Fa) ∧ True ∧ True := by
            cases rD7 with
            | nd ho hl hn => exact ⟨_, ho, ⟨_, hl, hn rfl, rfl⟩, trivial, trivial⟩
          obtain ⟨Fa, rL, nDa, rfl⟩ := rL
          have la := rL.length
          refine ⟨us, hD7, by rw [← la]; exact small (by omega), ?_⟩
          have sw := Stp.wr (o := .lst (us ++ [v])) (s37.ok) hD7 (.inl (.inl (.inl rfl))) (by simp) (by simp) (by simp) (by simp)
          have fw : Fx (one D) H7 (upd H7 D (.lst (us ++ [v]))) := Fx.wr hD7 rfl (by simp) (by simp) (by simp)
          have dzD : Dj Z7 (one D) := fun a z e => s37.ok.dj a (.inl (.inl (.inl e))) z
          have nD7 : ¬ G7 D := fun z => GD7 D (.inl z) (.inl rfl)
          have nF7 : ¬ F7 D := fun z => GD7 D (.inr z) (.inl rfl)
          have jo : ∀ {X : AS}, ¬ X D → Dj X (one D) := fun {X} n a z e => n (by rw [← show a = D from e]; exact z)
          have rL8 := RepL.append (RepL.st fw (fun _ z => z) dzD rL (jo nDa)) (RepL.one (Rep.st fw (fun _ z => z) dzD r7 (jo nD7))) fun a z g => GD7 a (.inl g) (.inr z)
          have rD8 := Rep.nd (k := .lst true) (a := D) (K := K) (Z := Z7) (H := upd H7 D (.lst (us ++ [v]))) upd_same rL8 fun _ z => z.elim nDa nD7
          rw [show put (.lst true) D (uni Fa G7) = uni (one D) (uni Fa G7) from rfl] at rD8
          have dGG : Dj G7 G := fun a z g => g7 a (.inl z) (.inr g)
          have dGF : Dj G F7 := fun a g f => g7 a (.inr f) (.inr g)
          have nGD : ¬ G D := fun z => dG D (.inl rfl) z
          have sw1 : Stp B Z7 (uni (one D) Fa) H7 Z7 (uni (one D) Fa) (upd H7 D (.lst (us ++ [v]))) := Stp.wr (s37.ok.sub fun a z => .inl (.inl z)) hD7 (.inl rfl) (by simp) (by simp) (by simp) (by simp)
          have i8 := src.st _ _ _ _ _ _ i7 (s37.ok.sub fun a z => .inl (.inl z)) sw1 dG.symm
          have kp8 := kp7.stp (s37.ok.sub fun a z => .inl (.inl z)) sw1
          refine ⟨Z7, uni (one D) (uni Fa G7), F7, σ5, ρ7, acc ++ [y], by omega, (s37.trans sw).less fun a z => ?_, Dj.uni' (fun a e g => nGD (by rw [← show a = D from e]; exact g)) (Dj.uni' (fun a z g => dG a (.inr z) g) dGG), ?_, rs7.st fw (fun _ z => z) dzD (jo nF7), w6, i8, rD8, kp8, e3⟩
          · rcases z with ((z | z | z) | z) | z
            · exact .inl (.inl (.inl z))
            · exact .inl (.inl (.inr z))
            · exact .inr (.inl z)
            · exact .inl (.inr z)
            · exact .inr (.inr z)
          · exact Dj.uni' (Dj.uni' (fun a e f => nF7 (by rw [← show a = D from e]; exact f)) (Dj.uni' (fun a z f => GD7 a (.inr f) (.inr z)) d7)) dGF
        · cases e3
/-- for x in a slot's list of plain values: the list stays the slot's own -/
def heldL : T → Option (List T)
  | .nd (.lst true) ts => if frzdL ts = true then some ts else none
  | _ => none
def fForH (i : Nat) (fg : T → Env → Option Env) (b : SM) : SM := fun ρ => (fVar i ρ).bind fun t => (heldL t).bind fun ts => (fGo fg b ts (ρ.set i .hole)).bind fun x => match x.2[i]? with
  | some .hole => some (x.1, x.2.set i t)
  | _ => none
def fLcH (i : Nat) (vs : List Nat) (fg : T → Env → Option Env) (ft : EM Bool) (fe : EM T) : EM T := fun ρ => (fVar i ρ).bind fun t => (heldL t).bind fun ts => if lent (ρ.set i .hole) vs = true then (goLc vs fg ft fe ts [] (ρ.set i .hole)).bind fun x => match (lend (ρ.set i .hole) x.2 vs)[i]? with
  | some .hole => some (.ok (.nd (.lst true) x.1), (lend (ρ.set i .hole) x.2 vs).set i t)
  | _ => none else none
theorem heldL_ok {t : T} {ts : List T} (h : heldL t = some ts) : t = .nd (.lst true) ts ∧ frzdL ts = true := by
  unfold heldL at h
  split at h
  · split at h
    · rename_i c
      cases h
      exact ⟨rfl, c⟩
    · cases h
  · cases h
theorem item_all : ∀ {ts : List T}, frzdL ts = true → ts.map item = ts
  | [], _ => rfl
  | t :: ts, h => by
    have h : (frzd t && frzdL ts) = true := h
    rw [Bool.and_eq_true] at h
    rw [List.map_cons, item_all h.2]
    unfold item
    rw [if_pos h.1]
/-- put back -/
theorem put_back {Z G F : AS} {H : Hp} {σ : St} {ρ : Env} {i : Nat} {t : T} {v : V} (r : RepS K Z H σ ρ F) (e : ρ[i]? = some .hole) (hv : σ[i]? = some (some v)) (rt : Rep K Z H t v G) (d : Dj G F) : RepS K Z H σ (ρ.set i t) (uni G F) :=
  r.back (p := []) e rfl ⟨.hole, v, e, hv, .nil⟩ rt d
theorem sj_forH {i : Nat} {g : TG} {tb : TS} {fg : T → Env → Option Env} {b : SM} (hg : GJ K B (fun n => P n ∨ n = i) g fg) (hb : SJ K B (fun n => P n ∨ n = i) E tb b) : SJ K B P E (tFor (iList K (tVar i)) g tb) (fForH i fg b) := fun Z H σ ρ F r ρ' rs o e D q qr => by
  unfold fForH at e
  obtain ⟨t, c1, e⟩ := bind2 (γ := Unit) e
  obtain ⟨ts, c2, e⟩ := bind2 (γ := Unit) e
  obtain ⟨⟨r1, ρ1⟩, c3, e⟩ := bind2 (γ := Unit) e
  obtain ⟨rfl, c4⟩ := heldL_ok c2
  obtain ⟨g1, g2⟩ := fVar_get c1
  obtain ⟨w, G, R, pa, rt, rs', dj, rfl⟩ := rs.take (p := []) g1 g2 rfl
  obtain ⟨_, v, _, hv, va⟩ := pa
  cases va
  cases id rt with
  | nd ho hl hn =>
    rename_i a us F0
    refine ⟨.ref a, hv, a, rfl, ⟨us, HasObj.sql (m := true) ho⟩, ?_⟩
    have src : Src K B (Itl K a) (ts.map item) (put (.lst true) a F0) (fun Z H => Rep K Z H (.nd (.lst true) ts) (.ref a) (put (.lst true) a F0)) := src_list (.inr ⟨true, rfl⟩)
    rw [item_all c4] at src
    have e' : (match ρ1[i]? with
      | some .hole => some (r1, ρ1.set i (.nd (.lst true) ts))
      | _ => none) = some (r, ρ') := e
    clear e
    split at e'
    case h_2 => cases e'
    rename_i eh
    cases e'
    have sm : ∀ {σ' : St}, Sm (fun n => P n ∨ n = i) σ' σ → Sm P σ' σ ∧ σ'[i]? = some (some (.ref a)) := fun {σ'} h => ⟨⟨h.1, fun n p => h.2 n (.inl p)⟩, (h.2 i (.inr rfl)).trans hv⟩
    refine for_core (P := fun n => P n ∨ n = i) src hg hb (Stp.refl o) dj rs' rt c3 (fun σ' H' Z' F' k s d i' rs2 => ?_) fun t et v σ' H' Z' G' F' k s d1 d2 i' r2 rs2 => ?_
    · exact q σ' H' Z' (uni _ F') (sm k).1 s (put_back rs2 eh (sm k).2 i' d)
    · exact qr t et v σ' H' Z' G' (uni _ F') (sm k).1 s d1 r2 (put_back rs2 eh (sm k).2 i' d2)
theorem vj_lcH {E' : XK} {i : Nat} {g : TG} {tt : TT} {te : TE} {vs : List Nat} {fg : T → Env → Option Env} {ft : EM Bool} {fe : EM T} (hg : GJ K B (fun i => i ∉ vs) g fg) (ht : TJ K B E' tt ft) (he : VJ K B E' te fe) : VJ K B E (tLc (iList K (tVar i)) g tt te vs) (fLcH i vs fg ft fe) := fun Z H σ ρ F r ρ' rs o e Q q qe => by
  unfold fLcH at e
  obtain ⟨t, c1, e⟩ := bind2 (γ := Unit) e
  obtain ⟨ts, c2, e⟩ := bind2 (γ := Unit) e
  obtain ⟨rfl, c4⟩ := heldL_ok c2
  obtain ⟨g1, g2⟩ := fVar_get c1
  obtain ⟨w, G, R, pa, rt, rs', dj, rfl⟩ := rs.take (p := []) g1 g2 rfl
  obtain ⟨_, v, _, hv, va⟩ := pa
  cases va
  split at e
  · rename_i hlent
    obtain ⟨⟨acc, ρ1⟩, c3, e⟩ := bind2 (γ := Unit) e
    cases id rt with
    | nd ho hl hn =>
      rename_i a us F0
      refine ⟨.ref a, hv, a, rfl, ⟨us, HasObj.sql (m := true) ho⟩, ?_⟩
      have src : Src K B (Itl K a) (ts.map item) (put (.lst true) a F0) (fun Z H => Rep K Z H (.nd (.lst true) ts) (.ref a) (put (.lst true) a F0)) := src_list (.inr ⟨true, rfl⟩)
      rw [item_all c4] at src
      have e' : (match (lend (ρ.set i .hole) ρ1 vs)[i]? with
        | some .hole => some ((Except.ok (T.nd (.lst true) acc) : Except Ex T), (lend (ρ.set i .hole) ρ1 vs).set i (.nd (.lst true) ts))
        | _ => none) = some (r, ρ') := e
      clear e
      split at e'
      case h_2 => cases e'
      rename_i eh
      cases e'
      refine lc_core src hg ht he (Stp.refl o) dj rs' rt hlent c3 fun v2 H' Z' GD F' s d1 d2 i' r2 rs2 => ?_
      rw [uni_assoc] at s
      exact q _ rfl v2 H' Z' GD (uni _ F') s (Dj.uni d1 d2.l') r2 (put_back rs2 eh hv i' d2.r')
  · cases e
end
end TV
namespace LT
open PySem L2
def topS (i : Nat) : Stmt := PySem.Challenge.pw_lettertree_k02_least_trees.main.body.getD i (.Pass ⟨0, 0, 0, 0⟩)
abbrev s_BadWeb___init__ : Stmt := inClass (topS 2) 0
theorem sc_BadWeb___init__ : FnScope ["self", "why", "number"] ["self", "why", "number"] (defScope s_BadWeb___init__) := ⟨rfl, rfl, rfl, by decide +kernel, rfl, by decide +kernel, by decide +kernel⟩
abbrev s_Web___init__ : Stmt := inClass (topS 11) 0
theorem sc_Web___init__ : FnScope ["self", "hands", "roads", "kept"] ["self", "hands", "roads"] (defScope s_Web___init__) := ⟨rfl, rfl, rfl, by decide +kernel, rfl, by decide +kernel, by decide +kernel⟩
abbrev s_Web_hands : Stmt := inClass (topS 11) 1
theorem sc_Web_hands : FnScope ["self"] ["self"] (defScope s_Web_hands) := ⟨rfl, rfl, rfl, by decide +kernel, rfl, by decide +kernel, by decide +kernel⟩
abbrev s_Web_roads : Stmt := inClass (topS 11) 2
theorem sc_Web_roads : FnScope ["self"] ["self"] (defScope s_Web_roads) := ⟨rfl, rfl, rfl, by decide +kernel, rfl, by decide +kernel, by decide +kernel⟩
abbrev s_tree : Stmt := topS 12
theorem sc_tree : FnScope ["web", "roads", "pieces", "chosen", "number", "one", "other", "_", "kept", "joined", "piece"] ["web"] (defScope s_tree) := ⟨rfl, rfl, rfl, by decide +kernel, rfl, by decide +kernel, by decide +kernel⟩
abbrev s_instead : Stmt := topS 13
theorem sc_instead : FnScope ["web", "number", "chosen", "roads", "one", "other", "_"] ["web", "number"] (defScope s_instead) := ⟨rfl, rfl, rfl, by decide +kernel, rfl, by decide +kernel, by decide +kernel⟩
abbrev s_side : Stmt := topS 14
theorem sc_side : FnScope ["web", "number", "chosen", "roads", "rest", "at"] ["web", "number"] (defScope s_side) := ⟨rfl, rfl, rfl, by decide +kernel, rfl, by decide +kernel, by decide +kernel⟩
abbrev s__check_web : Stmt := topS 15
theorem sc__check_web : FnScope ["hands", "roads", "number", "road"] ["hands", "roads"] (defScope s__check_web) := ⟨rfl, rfl, rfl, by decide +kernel, rfl, by decide +kernel, by decide +kernel⟩
abbrev s__is_bad : Stmt := topS 16
theorem sc__is_bad : FnScope ["hands", "road", "ahead", "one", "other", "cost", "near", "far", "price"] ["hands", "road", "ahead"] (defScope s__is_bad) := ⟨rfl, rfl, rfl, by decide +kernel, rfl, by decide +kernel, by decide +kernel⟩
abbrev s__check_road : Stmt := topS 17
theorem sc__check_road : FnScope ["web", "number"] ["web", "number"] (defScope s__check_road) := ⟨rfl, rfl, rfl, by decide +kernel, rfl, by decide +kernel, by decide +kernel⟩
abbrev s__paths : Stmt := topS 18
theorem sc__paths : FnScope ["roads", "numbers", "start", "paths", "waiting", "here", "number", "there"] ["roads", "numbers", "start"] (defScope s__paths) := ⟨rfl, rfl, rfl, by decide +kernel, rfl, by decide +kernel, by decide +kernel⟩
abbrev s__across : Stmt := topS 19
theorem sc__across : FnScope ["road", "hand", "one", "other", "_"] ["road", "hand"] (defScope s__across) := ⟨rfl, rfl, rfl, by decide +kernel, rfl, by decide +kernel, by decide +kernel⟩
abbrev s__law_dice : Stmt := topS 21
theorem sc__law_dice : FnScope ["_law_script", "_law_mixed", "_law_cell"] ["_law_script"] (defScope s__law_dice) := ⟨rfl, rfl, rfl, by decide +kernel, rfl, by decide +kernel, by decide +kernel⟩
abbrev s__law_next : Stmt := topS 22
theorem sc__law_next : FnScope ["_law_dice_here", "_law_many", "_law_found", "_law_cell"] ["_law_dice_here", "_law_many"] (defScope s__law_next) := ⟨rfl, rfl, rfl, by decide +kernel, rfl, by decide +kernel, by decide +kernel⟩
abbrev s__law_like : Stmt := topS 23
theorem sc__law_like : FnScope ["_law_found", "_law_due", "_law_key", "_law_k"] ["_law_found", "_law_due"] (defScope s__law_like) := ⟨rfl, rfl, rfl, by decide +kernel, rfl, by decide +kernel, by decide +kernel⟩
abbrev s__law_web : Stmt := topS 24
theorem sc__law_web : FnScope ["_law_d", "_law_most", "_law_hands", "_law_left", "_law_order", "_law_k", "_law_pairs", "_law_pair", "_law_j", "_law_costs"] ["_law_d", "_law_most"] (defScope s__law_web) := ⟨rfl, rfl, rfl, by decide +kernel, rfl, by decide +kernel, by decide +kernel⟩
abbrev s__law_tree : Stmt := topS 25
theorem sc__law_tree : FnScope ["_law_roads", "_law_pieces", "_law_found", "_law_cost", "_law_number", "_law_one", "_law_other", "_law_hand"] ["_law_roads"] (defScope s__law_tree) := ⟨rfl, rfl, rfl, by decide +kernel, rfl, by decide +kernel, by decide +kernel⟩
abbrev s__law_is : Stmt := topS 26
theorem sc__law_is : FnScope ["_law_e", "_law_word", "_law_kinds", "_law_words", "_law_one"] ["_law_e", "_law_word"] (defScope s__law_is) := ⟨rfl, rfl, rfl, by decide +kernel, rfl, by decide +kernel, by decide +kernel⟩
abbrev s__law_refused : Stmt := topS 27
theorem sc__law_refused : FnScope ["_law_work", "_law_e"] ["_law_work"] (defScope s__law_refused) := ⟨rfl, rfl, rfl, by decide +kernel, rfl, by decide +kernel, by decide +kernel⟩
abbrev s__law_reach : Stmt := topS 28
theorem sc__law_reach : FnScope ["_law_roads", "_law_numbers", "_law_begin", "_law_found", "_law_turn", "_law_number", "_law_one", "_law_other", "_law_cost"] ["_law_roads", "_law_numbers", "_law_begin"] (defScope s__law_reach) := ⟨rfl, rfl, rfl, by decide +kernel, rfl, by decide +kernel, by decide +kernel⟩
abbrev s__law_leads : Stmt := topS 29
theorem sc__law_leads : FnScope ["_law_roads", "_law_numbers", "_law_begin", "_law_end", "_law_met", "_law_number"] ["_law_roads", "_law_numbers", "_law_begin", "_law_end"] (defScope s__law_leads) := ⟨rfl, rfl, rfl, by decide +kernel, rfl, by decide +kernel, by decide +kernel⟩
abbrev s_law : Stmt := topS 30
theorem sc_law : FnScope ["_law_script", "_law_d", "_law_hands", "_law_roads", "_law_web_here", "_law_due", "_law_turn", "_law_found", "_law_number", "_law_one", "_law_other", "_law_cost", "_law_left", "_law_at", "_law_told", "_law_kept", "_law_bad"] ["_law_script"] (defScope s_law) := ⟨rfl, rfl, rfl, by decide +kernel, rfl, by decide +kernel, by decide +kernel⟩
structure Txt (K : PySem.W.Frag) (mg : Str → Option Value) where
  a_BadWeb___init__ : Addr
  d_BadWeb___init__ : FuncData
  F_BadWeb___init__ : Fun K "__init__" "BadWeb.__init__" s_BadWeb___init__ a_BadWeb___init__ d_BadWeb___init__
  b_BadWeb___init__ : Binds K d_BadWeb___init__ ["self", "why", "number"] []
  a_Web___init__ : Addr
  d_Web___init__ : FuncData
  F_Web___init__ : Fun K "__init__" "Web.__init__" s_Web___init__ a_Web___init__ d_Web___init__
  b_Web___init__ : Binds K d_Web___init__ ["self", "hands", "roads"] []
  a_Web_hands : Addr
  d_Web_hands : FuncData
  F_Web_hands : Fun K "hands" "Web.hands" s_Web_hands a_Web_hands d_Web_hands
  b_Web_hands : Binds K d_Web_hands ["self"] []
  a_Web_roads : Addr
  d_Web_roads : FuncData
  F_Web_roads : Fun K "roads" "Web.roads" s_Web_roads a_Web_roads d_Web_roads
  b_Web_roads : Binds K d_Web_roads ["self"] []
  a_tree : Addr
  d_tree : FuncData
  F_tree : Fun K "tree" "tree" s_tree a_tree d_tree
  c_tree : Addr
  p_tree : Addr
  FC_tree : FunC K "tree" "tree" s_tree a_tree d_tree c_tree
  g_tree : mg "tree" = some (.ref a_tree)
  b_tree : Binds K d_tree ["web"] []
  a_instead : Addr
  d_instead : FuncData
  F_instead : Fun K "instead" "instead" s_instead a_instead d_instead
  g_instead : mg "instead" = some (.ref a_instead)
  b_instead : Binds K d_instead ["web", "number"] []
  a_side : Addr
  d_side : FuncData
  F_side : Fun K "side" "side" s_side a_side d_side
  g_side : mg "side" = some (.ref a_side)
  b_side : Binds K d_side ["web", "number"] []
  a__check_web : Addr
  d__check_web : FuncData
  F__check_web : Fun K "_check_web" "_check_web" s__check_web a__check_web d__check_web
  g__check_web : mg "_check_web" = some (.ref a__check_web)
  b__check_web : Binds K d__check_web ["hands", "roads"] []
  a__is_bad : Addr
  d__is_bad : FuncData
  F__is_bad : Fun K "_is_bad" "_is_bad" s__is_bad a__is_bad d__is_bad
  g__is_bad : mg "_is_bad" = some (.ref a__is_bad)
  b__is_bad : Binds K d__is_bad ["hands", "road", "ahead"] []
  a__check_road : Addr
  d__check_road : FuncData
  F__check_road : Fun K "_check_road" "_check_road" s__check_road a__check_road d__check_road
  g__check_road : mg "_check_road" = some (.ref a__check_road)
  b__check_road : Binds K d__check_road ["web", "number"] []
  a__paths : Addr
  d__paths : FuncData
  F__paths : Fun K "_paths" "_paths" s__paths a__paths d__paths
  g__paths : mg "_paths" = some (.ref a__paths)
  b__paths : Binds K d__paths ["roads", "numbers", "start"] []
  a__across : Addr
  d__across : FuncData
  F__across : Fun K "_across" "_across" s__across a__across d__across
  g__across : mg "_across" = some (.ref a__across)
  b__across : Binds K d__across ["road", "hand"] []
  a__law_dice : Addr
  d__law_dice : FuncData
  F__law_dice : Fun K "_law_dice" "_law_dice" s__law_dice a__law_dice d__law_dice
  g__law_dice : mg "_law_dice" = some (.ref a__law_dice)
  b__law_dice : Binds K d__law_dice ["_law_script"] []
  a__law_next : Addr
  d__law_next : FuncData
  F__law_next : Fun K "_law_next" "_law_next" s__law_next a__law_next d__law_next
  g__law_next : mg "_law_next" = some (.ref a__law_next)
  b__law_next : Binds K d__law_next ["_law_dice_here", "_law_many"] []
  a__law_like : Addr
  d__law_like : FuncData
  F__law_like : Fun K "_law_like" "_law_like" s__law_like a__law_like d__law_like
  g__law_like : mg "_law_like" = some (.ref a__law_like)
  b__law_like : Binds K d__law_like ["_law_found", "_law_due"] []
  a__law_web : Addr
  d__law_web : FuncData
  F__law_web : Fun K "_law_web" "_law_web" s__law_web a__law_web d__law_web
  g__law_web : mg "_law_web" = some (.ref a__law_web)
  b__law_web : Binds K d__law_web ["_law_d", "_law_most"] []
  a__law_tree : Addr
  d__law_tree : FuncData
  F__law_tree : Fun K "_law_tree" "_law_tree" s__law_tree a__law_tree d__law_tree
  g__law_tree : mg "_law_tree" = some (.ref a__law_tree)
  b__law_tree : Binds K d__law_tree ["_law_roads"] []
  a__law_is : Addr
  d__law_is : FuncData
  F__law_is : Fun K "_law_is" "_law_is" s__law_is a__law_is d__law_is
  g__law_is : mg "_law_is" = some (.ref a__law_is)
  b__law_is : Binds K d__law_is ["_law_e", "_law_word"] []
  a__law_refused : Addr
  d__law_refused : FuncData
  F__law_refused : Fun K "_law_refused" "_law_refused" s__law_refused a__law_refused d__law_refused
  g__law_refused : mg "_law_refused" = some (.ref a__law_refused)
  b__law_refused : Binds K d__law_refused ["_law_work"] []
  a__law_reach : Addr
  d__law_reach : FuncData
  F__law_reach : Fun K "_law_reach" "_law_reach" s__law_reach a__law_reach d__law_reach
  g__law_reach : mg "_law_reach" = some (.ref a__law_reach)
  b__law_reach : Binds K d__law_reach ["_law_roads", "_law_numbers", "_law_begin"] []
  a__law_leads : Addr
  d__law_leads : FuncData
  F__law_leads : Fun K "_law_leads" "_law_leads" s__law_leads a__law_leads d__law_leads
  g__law_leads : mg "_law_leads" = some (.ref a__law_leads)
  b__law_leads : Binds K d__law_leads ["_law_roads", "_law_numbers", "_law_begin", "_law_end"] []
  a_law : Addr
  d_law : FuncData
  F_law : Fun K "law" "law" s_law a_law d_law
  c_law : Addr
  p_law : Addr
  FC_law : FunC K "law" "law" s_law a_law d_law c_law
  g_law : mg "law" = some (.ref a_law)
  b_law : Binds K d_law ["_law_script"] []
  C_WebError : Addr
  g_WebError : mg "WebError" = some (.ref C_WebError)
  C_BadWeb : Addr
  g_BadWeb : mg "BadWeb" = some (.ref C_BadWeb)
  C_NoHand : Addr
  g_NoHand : mg "NoHand" = some (.ref C_NoHand)
  C_NoRoad : Addr
  g_NoRoad : mg "NoRoad" = some (.ref C_NoRoad)
  C_NoLetter : Addr
  g_NoLetter : mg "NoLetter" = some (.ref C_NoLetter)
  C_BadText : Addr
  g_BadText : mg "BadText" = some (.ref C_BadText)
  C_Web : Addr
  g_Web : mg "Web" = some (.ref C_Web)
  exc_BadWeb : ExcC K C_BadWeb
  xf_BadWeb : XfC K C_BadWeb
  o_BadWeb : OexC K C_BadWeb
  i_BadWeb : PySem.W.findIn K (.ref C_BadWeb) "__init__" = some (some (.ref a_BadWeb___init__))
  t_BadWeb : PySem.W.typeIn K (.ref a_BadWeb___init__) = some (.type "function")
  no_BadWeb_why : PySem.W.findIn K (.ref C_BadWeb) "why" = some none
  no_BadWeb_number : PySem.W.findIn K (.ref C_BadWeb) "number" = some none
  ex_BadWeb_WebError : PySem.W.exmOne K (.ref C_BadWeb) (.ref C_WebError) = some true
  ki_BadWeb_BadText : PySem.W.kitOne K (.ref C_BadWeb) (.ref C_BadText) = some false
  ki_BadWeb_BadWeb : PySem.W.kitOne K (.ref C_BadWeb) (.ref C_BadWeb) = some true
  ki_BadWeb_NoHand : PySem.W.kitOne K (.ref C_BadWeb) (.ref C_NoHand) = some false
  ki_BadWeb_NoLetter : PySem.W.kitOne K (.ref C_BadWeb) (.ref C_NoLetter) = some false
  ki_BadWeb_NoRoad : PySem.W.kitOne K (.ref C_BadWeb) (.ref C_NoRoad) = some false
  ki_BadWeb_ValueError : PySem.W.kitOne K (.ref C_BadWeb) (.type "ValueError") = some true
  exc_NoRoad : ExcC K C_NoRoad
  xf_NoRoad : XfC K C_NoRoad
  xo_NoRoad : PySem.W.excIn K C_NoRoad [.type "ValueError", .type "Exception", .type "BaseException", .type "object"] "ValueError.__new__" = true
  kc_NoRoad : PySem.W.keepIn K (.ref C_NoRoad) = true
  ty_NoRoad : PySem.W.typeIn K (.ref C_NoRoad) = some (.type "type")
  ex_NoRoad_WebError : PySem.W.exmOne K (.ref C_NoRoad) (.ref C_WebError) = some true
  ki_NoRoad_BadText : PySem.W.kitOne K (.ref C_NoRoad) (.ref C_BadText) = some false
  ki_NoRoad_BadWeb : PySem.W.kitOne K (.ref C_NoRoad) (.ref C_BadWeb) = some false
  ki_NoRoad_NoHand : PySem.W.kitOne K (.ref C_NoRoad) (.ref C_NoHand) = some false
  ki_NoRoad_NoLetter : PySem.W.kitOne K (.ref C_NoRoad) (.ref C_NoLetter) = some false
  ki_NoRoad_NoRoad : PySem.W.kitOne K (.ref C_NoRoad) (.ref C_NoRoad) = some true
  ki_NoRoad_ValueError : PySem.W.kitOne K (.ref C_NoRoad) (.type "ValueError") = some true
  cl_Web : Cls K C_Web
  mk_Web : Mk K C_Web a_Web___init__
  m_Web_hands : Meth K C_Web "hands" a_Web_hands
  m_Web_roads : Meth K C_Web "roads" a_Web_roads
  na_Web__hands : NoAttr K C_Web "_hands"
  na_Web__roads : NoAttr K C_Web "_roads"
  nb_ValueError : mg "ValueError" = none
  nb_bool : mg "bool" = none
  nb_dict : mg "dict" = none
  nb_enumerate : mg "enumerate" = none
  nb_int : mg "int" = none
  nb_isinstance : mg "isinstance" = none
  nb_len : mg "len" = none
  nb_list : mg "list" = none
  nb_min : mg "min" = none
  nb_range : mg "range" = none
  nb_set : mg "set" = none
  nb_sorted : mg "sorted" = none
  nb_str : mg "str" = none
  nb_tuple : mg "tuple" = none
  g_MOST_HANDS : ∃ t, mg "MOST_HANDS" = some (.int 8 t)
  g_MOST_ROADS : ∃ t, mg "MOST_ROADS" = some (.int 20 t)
  g_MOST_COST : ∃ t, mg "MOST_COST" = some (.int 99 t)
end LT
namespace LT
open PySem L2
/-- two values alike, at most n deep -/
def Lk (H : Hp) : Nat → V → V → Prop
  | 0, _, _ => False
  | n + 1, x, y => ((∃ b, x = .bl b) ∨ (∃ s, x = .str s) ∨ (∃ i, x = .int i) ∨ x = .non) ∧ x = y ∨
      ∃ (a b : Addr) (xs ys : List V), x = .ref a ∧ y = .ref b ∧ ((H a = some (.lst xs) ∧ H b = some (.lst ys)) ∨ (H a = some (.tup xs) ∧ H b = some (.tup ys))) ∧
        xs.length = ys.length ∧ xs.length ≤ 1000 ∧ ∀ (i : Nat) (u v : V), xs[i]? = some u → ys[i]? = some v → Lk H n u v
theorem Lk.int {H : Hp} {n : Nat} (i : Int) : Lk H (n + 1) (.int i) (.int i) := .inl ⟨.inr (.inr (.inl ⟨i, rfl⟩)), rfl⟩
theorem Lk.str {H : Hp} {n : Nat} (i : Str) : Lk H (n + 1) (.str i) (.str i) := .inl ⟨.inr (.inl ⟨i, rfl⟩), rfl⟩
theorem Lk.non {H : Hp} {n : Nat} : Lk H (n + 1) .non .non := .inl ⟨.inr (.inr (.inr rfl)), rfl⟩
theorem Lk.bl {H : Hp} {n : Nat} (b : Bool) : Lk H (n + 1) (.bl b) (.bl b) := .inl ⟨.inl ⟨b, rfl⟩, rfl⟩
theorem Lk.ints {H : Hp} {n : Nat} {a b : Addr} {l : List Int} (ha : H a = some (.lst (l.map V.int)) ∧ H b = some (.lst (l.map V.int)) ∨ H a = some (.tup (l.map V.int)) ∧ H b = some (.tup (l.map V.int))) (hl : l.length ≤ 1000) : Lk H (n + 2) (.ref a) (.ref b) := by
  refine .inr ⟨a, b, _, _, rfl, rfl, ha, rfl, by rw [List.length_map]; exact hl, fun i u v hu hv => ?_⟩
  rw [hu] at hv
  cases hv
  obtain ⟨x, _, rfl⟩ := ints_get hu
  exact Lk.int x
theorem Lk.rows {H : Hp} {n : Nat} {a b : Addr} {us ts : List Addr} {α : Type} {r : α → List Int} {rs : List α} (ha : H a = some (.lst (us.map V.ref))) (hb : H b = some (.lst (ts.map V.ref))) (tu : Tup (fun x => (r x).map V.int) H us rs)
    (tt : Tup (fun x => (r x).map V.int) H ts rs) (hl : rs.length ≤ 1000) (hr : ∀ x, (r x).length ≤ 1000) : Lk H (n + 3) (.ref a) (.ref b) := by
  refine .inr ⟨a, b, _, _, rfl, rfl, .inl ⟨ha, hb⟩, ?_, ?_, fun i u v hu hv => ?_⟩
  · rw [List.length_map, List.length_map, tu.length, tt.length]
  · rw [List.length_map, tu.length]
    exact hl
  · obtain ⟨t1, h1, rfl⟩ := refs_get hu
    obtain ⟨t2, h2, rfl⟩ := refs_get hv
    obtain ⟨x, hx, e1⟩ := pgetL tu h1
    obtain ⟨y, hy, e2⟩ := pgetL tt h2
    rw [hx] at hy
    cases hy
    exact Lk.ints (.inr ⟨e1, e2⟩) (hr x)
section
variable {P : Program} {w : World} {K : PySem.W.Frag} {mg : Str → Option Value} {base : Heap}
def spLike (n : Nat) : Sp := fun vs H Q _ => ∃ x y : V, vs = [x, y] ∧ Lk H n x y ∧ Q (.bl true) H
theorem kt (a b : String) (r : Bool) (h : kitB a b = some r) : PySem.W.kitOne K (.type a) (.type b) = some r := kit_ty h
theorem ok_law_like (T : Txt K mg) : ∀ n, FnOk P w K mg base CX0 (n + 1) T.a__law_like T.d__law_like ["_law_found", "_law_due"] (spLike n)
  | 0 => by
    refine T.F__law_like.ok sc__law_like (fun vs H Q E h => ?_) (fun cdv A outer s H vs Q E hr h => ?_)
    · obtain ⟨x, y, rfl, _⟩ := h
      rfl
    · obtain ⟨x, y, rfl, l, _⟩ := h
      exact l.elim
  | n + 1 => by
    have G__law_like := ok_law_like T n
    refine T.F__law_like.ok sc__law_like (fun vs H Q E h => ?_) (fun cdv A outer s H vs Q E hr h => ?_)
    · obtain ⟨x, y, rfl, _⟩ := h
      rfl
    · obtain ⟨x, y, rfl, l, k⟩ := h
      refine ⟨_, (pss_cons (ps_if (pt_val (pe_callB call_isi (by rfl) T.nb_isinstance (by decide +kernel) (pa_cons (pv 1) (pa_cons (pe_bltn (v := .ty "bool") (u := .type "bool") (by rfl) T.nb_bool (by decide +kernel) rfl) pa_nil)))) (pss_one (ps_ret (pe_and (pe_callB call_isi (by rfl) T.nb_isinstance (by decide +kernel) (pa_cons (pv 0) (pa_cons (pe_bltn (v := .ty "bool") (u := .type "bool") (by rfl) T.nb_bool (by decide +kernel) rfl) pa_nil))) (pe_one (pe_cmpR op_eq (pv 0) (pv 1) (nomark _)))))) pss_nil)
 (pss_cons (ps_if (pt_val (pe_callB call_isi (by rfl) T.nb_isinstance (by decide +kernel) (pa_cons (pv 1) (pa_cons (pe_bltn (v := .ty "str") (u := .type "str") (by rfl) T.nb_str (by decide +kernel) rfl) pa_nil)))) (pss_one (ps_ret (pe_and (pe_callB call_isi (by rfl) T.nb_isinstance (by decide +kernel) (pa_cons (pv 0) (pa_cons (pe_bltn (v := .ty "str") (u := .type "str") (by rfl) T.nb_str (by decide +kernel) rfl) pa_nil))) (pe_one (pe_cmpR op_eq (pv 0) (pv 1) (nomark _)))))) pss_nil)
 (pss_cons (ps_if (pt_val (pe_callB call_isi (by rfl) T.nb_isinstance (by decide +kernel) (pa_cons (pv 1) (pa_cons (pe_bltn (v := .ty "int") (u := .type "int") (by rfl) T.nb_int (by decide +kernel) rfl) pa_nil)))) (pss_one (ps_ret (pe_and (pe_callB call_isi (by rfl) T.nb_isinstance (by decide +kernel) (pa_cons (pv 0) (pa_cons (pe_bltn (v := .ty "int") (u := .type "int") (by rfl) T.nb_int (by decide +kernel) rfl) pa_nil))) (pe_and (pe_not (pe_callB call_isi (by rfl) T.nb_isinstance (by decide +kernel) (pa_cons (pv 0) (pa_cons (pe_bltn (v := .ty "bool") (u := .type "bool") (by rfl) T.nb_bool (by decide +kernel) rfl) pa_nil)))) (pe_one (pe_cmpR op_eq (pv 0) (pv 1) (nomark _))))))) pss_nil)
 (pss_cons (ps_if (pt_cmpR op_isN (pv 1) pe_non (nomark _)) (pss_one (ps_ret (pe_cmpR op_isN (pv 0) pe_non (nomark _)))) pss_nil)
 (pss_cons (ps_if (pt_val (pe_callB call_isi (by rfl) T.nb_isinstance (by decide +kernel) (pa_cons (pv 1) (pa_cons (pe_bltn (v := .ty "dict") (u := .type "dict") (by rfl) T.nb_dict (by decide +kernel) rfl) pa_nil)))) pss_never pss_nil)
 (pss_cons (ps_if (PW.pt (pw_or (pt_cmpR op_ne (pe_callB call_isi (by rfl) T.nb_isinstance (by decide +kernel) (pa_cons (pv 1) (pa_cons (pe_bltn (v := .ty "tuple") (u := .type "tuple") (by rfl) T.nb_tuple (by decide +kernel) rfl) pa_nil))) (pe_callB call_isi (by rfl) T.nb_isinstance (by decide +kernel) (pa_cons (pv 0) (pa_cons (pe_bltn (v := .ty "tuple") (u := .type "tuple") (by rfl) T.nb_tuple (by decide +kernel) rfl) pa_nil))) (nomark _)) (pw_or1 (pt_cmpR op_ne (pe_callB call_isi (by rfl) T.nb_isinstance (by decide +kernel) (pa_cons (pv 1) (pa_cons (pe_bltn (v := .ty "list") (u := .type "list") (by rfl) T.nb_list (by decide +kernel) rfl) pa_nil))) (pe_callB call_isi (by rfl) T.nb_isinstance (by decide +kernel) (pa_cons (pv 0) (pa_cons (pe_bltn (v := .ty "list") (u := .type "list") (by rfl) T.nb_list (by decide +kernel) rfl) pa_nil))) (nomark _))))) (pss_one (ps_ret pe_bl)) pss_nil)
 (pss_cons (ps_if (pt_cmpR op_ne (pe_callB call_len_seq (by rfl) T.nb_len (by decide +kernel) (pa_cons (pv 0) pa_nil)) (pe_callB call_len_seq (by rfl) T.nb_len (by decide +kernel) (pa_cons (pv 1) pa_nil)) (nomark _)) (pss_one (ps_ret pe_bl)) pss_nil)
 (pss_cons (ps_for PassesOwn.never rfl (pi_range1 (by rfl) T.nb_range (pa_cons (pe_callB call_len_seq (by rfl) T.nb_len (by decide +kernel) (pa_cons (pv 1) pa_nil)) pa_nil)) (pg_name (i := 3) sc__law_like.nd rfl (Or.inl rfl))
  (pss_one (ps_if (pt_not (pt_val (pe_call G__law_like (hr.mono (Nat.le_refl _)) rfl T.g__law_like T.F__law_like.kp T.b__law_like .nil pass0 (pa_cons (pe_ix ix_seq (pv 0) (pv 3) (fun _ _ => rfl)) (pa_cons (pe_ix ix_seq (pv 1) (pv 3) (fun _ _ => rfl)) pa_nil))))) (pss_one (ps_ret pe_bl)) pss_nil)))
 (pss_one (ps_ret pe_bl)))))))))), ?_⟩
      rcases l with ⟨⟨b, rfl⟩ | ⟨z, rfl⟩ | ⟨i, rfl⟩ | rfl, rfl⟩ | ⟨a, b, xs, ys, rfl, rfl, hab, hl, hz, hrec⟩
      · refine ⟨_, rfl, _, _, _, _, true, rfl, .ty _, .base (.bl b), kt _ _ _ (by decide +kernel), true, rfl, iteT ?_⟩
        refine ⟨_, rfl, _, _, _, _, true, rfl, .ty _, .base (.bl b), kt _ _ _ (by decide +kernel), true, rfl, iteT ?_⟩
        refine ⟨_, rfl, _, rfl, rfl, ?_⟩
        show Q (.bl (decide (V.bl b = V.bl b))) H
        rw [decide_eq_true rfl]
        exact k
      · refine ⟨_, rfl, _, _, _, _, false, rfl, .ty _, .base (.str z), kt _ _ _ (by decide +kernel), false, rfl, iteF ?_⟩
        refine ⟨_, rfl, _, _, _, _, true, rfl, .ty _, .base (.str z), kt _ _ _ (by decide +kernel), true, rfl, iteT ?_⟩
        refine ⟨_, rfl, _, _, _, _, true, rfl, .ty _, .base (.str z), kt _ _ _ (by decide +kernel), true, rfl, iteT ?_⟩
        refine ⟨_, rfl, _, rfl, rfl, ?_⟩
        show Q (.bl (decide (V.str z = V.str z))) H
        rw [decide_eq_true rfl]
        exact k
      · refine ⟨_, rfl, _, _, _, _, false, rfl, .ty _, .base (.int i), kt _ _ _ (by decide +kernel), false, rfl, iteF ?_⟩
        refine ⟨_, rfl, _, _, _, _, false, rfl, .ty _, .base (.int i), kt _ _ _ (by decide +kernel), false, rfl, iteF ?_⟩
        refine ⟨_, rfl, _, _, _, _, true, rfl, .ty _, .base (.int i), kt _ _ _ (by decide +kernel), true, rfl, iteT ?_⟩
        refine ⟨_, rfl, _, _, _, _, true, rfl, .ty _, .base (.int i), kt _ _ _ (by decide +kernel), true, rfl, iteT ?_⟩
        refine ⟨_, rfl, _, _, _, _, false, rfl, .ty _, .base (.int i), kt _ _ _ (by decide +kernel), false, rfl, true, rfl, iteT ?_⟩
        refine ⟨_, rfl, _, rfl, rfl, ?_⟩
        show Q (.bl (decide (V.int i = V.int i))) H
        rw [decide_eq_true rfl]
        exact k
      · refine ⟨_, rfl, _, _, _, _, false, rfl, .ty _, .base .non, kt _ _ _ (by decide +kernel), false, rfl, iteF ?_⟩
        refine ⟨_, rfl, _, _, _, _, false, rfl, .ty _, .base .non, kt _ _ _ (by decide +kernel), false, rfl, iteF ?_⟩
        refine ⟨_, rfl, _, _, _, _, false, rfl, .ty _, .base .non, kt _ _ _ (by decide +kernel), false, rfl, iteF ?_⟩
        refine ⟨_, rfl, rfl, _, rfl, iteT ?_⟩
        exact ⟨_, rfl, rfl, k⟩
      · have both : ∃ nm : String, (nm = "list" ∨ nm = "tuple") ∧ TyX K H (.ref a) (.type nm) ∧ TyX K H (.ref b) (.type nm) ∧ (SqL K H a xs ∨ SqT K H a xs) ∧ (SqL K H b ys ∨ SqT K H b ys) := by
          rcases hab with ⟨h1, h2⟩ | ⟨h1, h2⟩
          · exact ⟨_, .inl rfl, .base (.lst h1), .base (.lst h2), .inl (SqL.of h1), .inl (SqL.of h2)⟩
          · exact ⟨_, .inr rfl, .base (.tup h1), .base (.tup h2), .inr (SqT.of h1), .inr (SqT.of h2)⟩
        obtain ⟨nm, hnm, ta, tb, sa, sb⟩ := both
        have kb : PySem.W.kitOne K (.type nm) (.type "bool") = some false := by rcases hnm with rfl | rfl <;> exact kt _ _ _ (by decide +kernel)
        have ks : PySem.W.kitOne K (.type nm) (.type "str") = some false := by rcases hnm with rfl | rfl <;> exact kt _ _ _ (by decide +kernel)
        have ki : PySem.W.kitOne K (.type nm) (.type "int") = some false := by rcases hnm with rfl | rfl <;> exact kt _ _ _ (by decide +kernel)
        have kd : PySem.W.kitOne K (.type nm) (.type "dict") = some false := by rcases hnm with rfl | rfl <;> exact kt _ _ _ (by decide +kernel)
        have kT : ∃ c, PySem.W.kitOne K (.type nm) (.type "tuple") = some c := by
          rcases hnm with rfl | rfl
          · exact ⟨false, kt _ _ _ (by decide +kernel)⟩
          · exact ⟨true, kt _ _ _ (by decide +kernel)⟩
        have kL : ∃ c, PySem.W.kitOne K (.type nm) (.type "list") = some c := by
          rcases hnm with rfl | rfl
          · exact ⟨true, kt _ _ _ (by decide +kernel)⟩
          · exact ⟨false, kt _ _ _ (by decide +kernel)⟩
        obtain ⟨ct, kT⟩ := kT
        obtain ⟨cl, kL⟩ := kL
        refine ⟨_, rfl, _, _, _, _, false, rfl, .ty _, tb, kb, false, rfl, iteF ?_⟩
        refine ⟨_, rfl, _, _, _, _, false, rfl, .ty _, tb, ks, false, rfl, iteF ?_⟩
        refine ⟨_, rfl, _, _, _, _, false, rfl, .ty _, tb, ki, false, rfl, iteF ?_⟩
        refine ⟨_, rfl, rfl, _, rfl, iteF ?_⟩
        refine ⟨_, rfl, _, _, _, _, false, rfl, .ty _, tb, kd, false, rfl, iteF ?_⟩
        refine ⟨_, rfl, _, _, _, _, ct, rfl, .ty _, tb, kT, _, rfl, _, _, _, _, ct, rfl, .ty _, ta, kT, rfl, false, by rw [decide_eq_true rfl]; rfl, iteF ?_⟩
        refine ⟨_, rfl, _, _, _, _, cl, rfl, .ty _, tb, kL, _, rfl, _, _, _, _, cl, rfl, .ty _, ta, kL, rfl, false, by rw [decide_eq_true rfl]; rfl, iteF ?_⟩
        refine ⟨_, rfl, a, _, rfl, sa, _, rfl, b, _, rfl, sb, rfl, false, by rw [decide_eq_true (by rw [hl])]; rfl, iteF ?_⟩
        refine ⟨_, rfl, b, _, rfl, sb, _, rfl, by omega, by omega, ?_⟩
        refine for_range (lo := 0) (n := ys.length) (fun i σ H' => H' = H ∧ ∃ u v, σ = [some (.ref a), some (.ref b), u, v]) ⟨rfl, _, _, rfl⟩ ?_ ?_
        · rintro i σ H' hi ⟨rfl, u, v, rfl⟩
          have hx : xs[i]? = some xs[i] := List.getElem?_eq_getElem (by omega)
          have hy : ys[i]? = some ys[i] := List.getElem?_eq_getElem hi
          have e0 : (0 : Int) + (i : Nat) = (i : Nat) := by omega
          rw [e0]
          have ix : ∀ {c : Addr} {zs : List V} {v : V} {Q' : VK}, (SqL K H' c zs ∨ SqT K H' c zs) → zs[i]? = some v → Q' v H' → rIx K (.ref c) (.int (i : Nat)) H' Q' := by
            intro c zs v Q' hs hv q
            rcases hs with hs | hs
            · exact .inl ⟨_, _, _, _, rfl, rfl, hs, atI_nat hv, q⟩
            · exact .inr (.inl ⟨_, _, _, _, rfl, rfl, hs, atI_nat hv, q⟩)
          refine ⟨_, rfl, _, rfl, ix sa hx ?_⟩
          refine ⟨_, rfl, _, rfl, ix sb hy ?_⟩
          refine ⟨_, _, rfl, hrec i _ _ hx hy, true, rfl, iteF ?_⟩
          exact ⟨rfl, _, _, rfl⟩
        · rintro σ H' ⟨rfl, u, v, rfl⟩
          exact k
end
end LT
namespace LT
open PySem L2 L2H
section
variable {P : Program} {w : World} {K : PySem.W.Frag} {mg : Str → Option Value} {base : Heap}
theorem unitsH {k : Nat} {A : Around} (r : RoomH k A) : A.units + 64 < cLine := by
  have := r.un
  omega
/-- the five words -/
def words5 : List Str := ["web", "hand", "road", "letter", "text"]
def spIsR (a : Addr) (dd : Option Addr) (word : Str) (r : Bool) : Sp := fun vs H Q _ => vs = [.ref a, .str word] ∧ (∀ d, dd = some d → ∃ o, H d = some o) ∧ ∀ H', Fr [] H H' → Q (.bl r) H'
theorem ok_is_r (T : Txt K mg) {px : Addr × Obj} {D : Addr} {word : Str} (C : ExcC K D) (cls : px.2.cls = .ref D) (dat : ∃ vs, px.2.data = .fields vs) {b1 b2 b3 b4 b5 c1 c2 c3 c4 c5 r : Bool}
    (k1 : PySem.W.kitOne K (.ref D) (.ref T.C_BadWeb) = some b1) (k2 : PySem.W.kitOne K (.ref D) (.ref T.C_NoHand) = some b2) (k3 : PySem.W.kitOne K (.ref D) (.ref T.C_NoRoad) = some b3)
    (k4 : PySem.W.kitOne K (.ref D) (.ref T.C_NoLetter) = some b4) (k5 : PySem.W.kitOne K (.ref D) (.ref T.C_BadText) = some b5) (kv : PySem.W.kitOne K (.ref D) (.type "ValueError") = some true)
    (hw : words5.map (fun z => decide (V.str word = V.str z)) = [c1, c2, c3, c4, c5]) (hq : PyData.eqv (.list [.bool b1, .bool b2, .bool b3, .bool b4, .bool b5]) (.list [.bool c1, .bool c2, .bool c3, .bool c4, .bool c5]) = r) : FnP P w K mg base CX0 1 T.a__law_is T.d__law_is ["_law_e", "_law_word"] px (spIsR px.1 px.2.dict word r) := by
  refine fnP_of T.F__law_is sc__law_is (fun vs H Q E h => ?_) (fun cdv A outer s H vs Q E hot hr h => ?_)
  · obtain ⟨rfl, _⟩ := h
    rfl
  · obtain ⟨rfl, hd, k⟩ := h
    have mem : px ∈ ([px] : List (Addr × Obj)) := by simp
    refine ⟨_, (pss_cons (ps_set (i := 2) sc__law_is.nd rfl (Or.inl rfl) (pe_lst (pa_cons (pe_callB (call_isHot C mem cls dat) (by rfl) T.nb_isinstance (by decide +kernel) (pa_cons (pv 0) (pa_cons (pe_glob (v := .ref T.C_BadWeb) rfl T.g_BadWeb rfl) pa_nil))) (pa_cons (pe_callB (call_isHot C mem cls dat) (by rfl) T.nb_isinstance (by decide +kernel) (pa_cons (pv 0) (pa_cons (pe_glob (v := .ref T.C_NoHand) rfl T.g_NoHand rfl) pa_nil))) (pa_cons (pe_callB (call_isHot C mem cls dat) (by rfl) T.nb_isinstance (by decide +kernel) (pa_cons (pv 0) (pa_cons (pe_glob (v := .ref T.C_NoRoad) rfl T.g_NoRoad rfl) pa_nil))) (pa_cons (pe_callB (call_isHot C mem cls dat) (by rfl) T.nb_isinstance (by decide +kernel) (pa_cons (pv 0) (pa_cons (pe_glob (v := .ref T.C_NoLetter) rfl T.g_NoLetter rfl) pa_nil))) pa_nil))))))
 (pss_cons (ps_set (i := 2) sc__law_is.nd rfl (Or.inl rfl) (pe_op op_cat (pv 2) (pe_lst (pa_cons (pe_callB (call_isHot C mem cls dat) (by rfl) T.nb_isinstance (by decide +kernel) (pa_cons (pv 0) (pa_cons (pe_glob (v := .ref T.C_BadText) rfl T.g_BadText rfl) pa_nil))) pa_nil))))
 (pss_cons (ps_set (i := 3) sc__law_is.nd rfl (Or.inl rfl) (pe_lst (pa_cons pe_str (pa_cons pe_str (pa_cons pe_str (pa_cons pe_str (pa_cons pe_str pa_nil)))))))
 (pss_one (ps_ret (pe_and (pe_callB (call_isHot C mem cls dat) (by rfl) T.nb_isinstance (by decide +kernel) (pa_cons (pv 0) (pa_cons (pe_bltn (v := .ty "ValueError") (u := .type "ValueError") (by rfl) T.nb_ValueError (by decide +kernel) rfl) pa_nil))) (pe_one (pe_cmpR (op_eqD (unitsH hr)) (pv 2) (pe_lcHot (own := [("_law_one", 4)]) (g := gName 4) hot mem sc__law_is.nd (pv 3) (blkOk_by (own := [("_law_one", 4)]) (N := ["_law_e", "_law_word", "_law_kinds", "_law_words", "_law_one"]) (sc := defScope s__law_is) (by decide +kernel)) (fun _ _ _ _ _ => by exact (pg_name (i := 4) sc__law_is.nd rfl (Or.inl rfl))) (fun _ _ _ _ _ => by exact (pe_cmpR op_eq (pv 1) (pv 4) (nomark _)))) (nomark _))))))))), ?_⟩
    have ex : ∀ {H'}, Fr [] H H' → ∀ d, px.2.dict = some d → ∃ o, H' d = some o := fun {H'} f d e => by
      obtain ⟨o, ho⟩ := hd d e
      exact ⟨o, f.keep _ _ (by simp) ho⟩
    refine ⟨_, rfl, _, _, b1, rfl, fun u r => r, k1, ex (Fr.refl _ _), ?_⟩
    refine ⟨_, rfl, _, _, b2, rfl, fun u r => r, k2, ex (Fr.refl _ _), ?_⟩
    refine ⟨_, rfl, _, _, b3, rfl, fun u r => r, k3, ex (Fr.refl _ _), ?_⟩
    refine ⟨_, rfl, _, _, b4, rfl, fun u r => r, k4, ex (Fr.refl _ _), ?_⟩
    refine ⟨by show 4 ≤ sizeLine; decide, fun A1 nA1 => ?_⟩
    have f1 : Fr [] H (upd H A1 (.lst [.bl b1, .bl b2, .bl b3, .bl b4])) := Fr.new nA1
    refine ⟨_, rfl, _, rfl, _, _, b5, rfl, fun u r => r, k5, ex f1, by show 1 ≤ sizeLine; decide, fun A2 nA2 => ?_⟩
    have f2 : Fr [] (upd H A1 (.lst [.bl b1, .bl b2, .bl b3, .bl b4])) (upd (upd H A1 (.lst [.bl b1, .bl b2, .bl b3, .bl b4])) A2 (.lst [.bl b5])) := Fr.new nA2
    refine ⟨A1, A2, _, _, rfl, rfl, f2.keep _ _ (by simp) upd_same, upd_same, by show 5 ≤ sizeLine; decide, fun A3 nA3 => ?_⟩
    have f3 := (f1.trans f2).trans (Fr.new nA3 : Fr [] _ (upd _ A3 (.lst ([V.bl b1, .bl b2, .bl b3, .bl b4] ++ [V.bl b5]))))
    refine ⟨by show 5 ≤ sizeLine; decide, fun A4 nA4 => ?_⟩
    have f4 := f3.trans (Fr.new nA4 : Fr [] _ (upd _ A4 (.lst [V.str "web", .str "hand", .str "road", .str "letter", .str "text"])))
    have h3 := (Fr.new nA4 : Fr [] _ (upd _ A4 (.lst [V.str "web", .str "hand", .str "road", .str "letter", .str "text"]))).keep A3 _ (by simp) upd_same
    refine ⟨_, rfl, _, _, true, rfl, fun u r => r, kv, ex f4, true, rfl, iteT ?_⟩
    refine ⟨_, rfl, _, rfl, A4, rfl, ⟨_, SqL.of upd_same⟩, fun D5 nD5 => ?_⟩
    refine lc_list (K := K) (a := A4) (xs := words5.map V.str) (fun i H' => Fr [] _ H' ∧ H' D5 = some (.lst ((words5.take i).map fun z => V.bl (decide (V.str word = V.str z))))) ⟨Fr.new nD5, upd_same⟩ (fun i H' _ hh => SqL.of (hh.1.keep _ _ (by simp) upd_same)) ?_ ?_
    · rintro i x H' hx ⟨f5, hD⟩
      obtain ⟨z, hz, rfl⟩ : ∃ z, words5[i]? = some z ∧ x = .str z := by
        rw [List.getElem?_map] at hx
        cases e : words5[i]? with
        | none => rw [e] at hx; cases hx
        | some u => rw [e] at hx; exact ⟨u, rfl, (Option.some.inj hx).symm⟩
      refine ⟨rfl, ?_⟩
      refine ⟨_, rfl, _, rfl, rfl, ?_⟩
      refine ⟨_, hD, ?_, f5.put nD5, ?_⟩
      · rw [List.length_map]
        refine small1000 ?_
        rw [List.length_take]
        show min i 5 ≤ 1000
        omega
      · rw [upd_same, List.take_succ, hz, List.map_append]
        rfl
    · rintro H' ⟨f5, hD⟩
      have e : (words5.take (words5.map V.str).length).map (fun z => V.bl (decide (V.str word = V.str z))) = [c1, c2, c3, c4, c5].map V.bl := by
        rw [← hw, List.map_map]
        rfl
      rw [e] at hD
      have h3' := f5.keep A3 _ (by simp) h3
      refine ⟨.list [.bool b1, .bool b2, .bool b3, .bool b4, .bool b5], .list [.bool c1, .bool c2, .bool c3, .bool c4, .bool c5], .lst (SqL.of h3') ?_, .lst (SqL.of hD) ?_, rfl, rfl, ?_⟩
      · exact .cons (.bl _) (.cons (.bl _) (.cons (.bl _) (.cons (.bl _) (.cons (.bl _) .nil))))
      · exact .cons (.bl _) (.cons (.bl _) (.cons (.bl _) (.cons (.bl _) (.cons (.bl _) .nil))))
      · rw [hq]
        exact k _ (f4.trans f5)
end
end LT
namespace LT
open PySem L2 L2H LamX PySem.Spec
section
variable {P : Program} {w : World} {K : PySem.W.Frag} {mg : Str → Option Value} {base : Heap}
theorem roomM' {k : Nat} {A : Around} (r : Room k A) (h : Option Value) : RoomH k (A.mark h) := ⟨r.dp, r.un⟩
theorem refused_gives (T : Txt K mg) {A : Around} {stk : List Env} {cdg : Value} {q : Str} {k : Nat} : GivesG P w K mg base A stk ["_law_work", "_law_e"] "_law_refused" (defScope s__law_refused) T.a__law_refused cdg (defBody s__law_refused) "_law_work" q (k + 1) (TTref T.C_NoRoad) := by
  intro f c' s H Q tl hr act hc h
  refine ⟨_, (pss_cons (L2N.ps_try_as (i := 1) (tb := fun W D σ H => ∃ Ech : XK, (∀ cls d H', Ech cls d H' → W cls d σ H') ∧ σ[0]? = some (some (.ref f)) ∧ H c' = some (CodeO c' q) ∧ tl Ech H fun _ H' => D.nx σ H')
      (ts := fun a cls d D σ H => cls = .ref T.C_NoRoad ∧ d = none ∧ tRet (tCallS (spIsR a none "road" true) (fun _ => E0) (tCons (tVar 1) (tCons (tC (.str "road")) tNil))) D σ H) (Wout := fun _ _ _ _ => False) rfl rfl sc__law_refused.nd rfl rfl
        ⟨rfl, by decide, .inl T.g_WebError⟩ takesN0
        (fun W pn xe tk _ => ?_)
        (fun a oe cls d pn hz hf => pss_when (c := cls = .ref T.C_NoRoad) fun hc => pss_when (c := d = none) fun hd => by
          obtain ⟨z1, z2, z3⟩ := hz
          subst hd
          have hot : Hot1 ((A.deeper (PyProof.Rows.envOfC "_law_refused" (defScope s__law_refused) s.heap.objs.size T.a__law_refused cdg)).mark (some (.ref a))) (a, oe) := by
            obtain ⟨vs, hv⟩ := hf
            exact ⟨rfl, vs, hv, z3 vs hv⟩
          have mem : (a, oe) ∈ ((a, oe) :: pn) := List.mem_cons_self ..
          have e := ok_is_r (P := P) (w := w) (base := base) T T.exc_NoRoad (px := (a, oe)) (z1.trans hc) hf T.ki_NoRoad_BadWeb T.ki_NoRoad_NoHand T.ki_NoRoad_NoRoad T.ki_NoRoad_NoLetter T.ki_NoRoad_BadText T.ki_NoRoad_ValueError (word := "road") (c1 := false) (c2 := false) (c3 := true) (c4 := false) (c5 := false) (r := true) (by decide +kernel) (by decide +kernel)
          have ed : oe.dict = none := z2
          rw [show (a, oe).2.dict = none from ed] at e
          exact pss_one (ps_ret (pe_callP (px := (a, oe)) (E := E0) e (roomM' (hr.mono (by omega)) _) hot mem rfl T.g__law_is T.F__law_is.kp T.b__law_is pass0 (by exact (pa_cons (pv 1) (pa_cons pe_str pa_nil)))))))
      (pss_one (ps_ret pe_bl))), ?_⟩
  · exact pss_one (ps_expr (act W pn xe _ _ tk))
  · refine ⟨fun cls d H' => cls = .ref T.C_NoRoad ∧ d = none ∧ ∀ H'', Fr [] H' H'' → Q (.bl true) H'', ?_, rfl, hc, h⟩
    rintro cls d H' ⟨rfl, rfl, hq⟩
    refine ⟨true, T.ex_NoRoad_WebError, fun _ a na => ?_, fun z => by cases z⟩
    exact ⟨rfl, rfl, _, rfl, rfl, (fun d' hd' => by cases hd'), fun H3 f4 => hq H3 f4⟩
end
end LT
namespace TV
open PySem L2 LT
section
variable {P : Program} {w : World} {K : PySem.W.Frag} {mg : Str → Option Value} {base : Heap} {B : Tabs}
theorem like_items {Z : AS} {H : Hp} {n : Nat} (ih : ∀ {t u : T} {v w : V} {F G : AS}, Rep K Z H t v F → Rep K Z H u w G → likeT n t u = true → Lk H n v w) : ∀ {ts us : List T} {vs ws : List V} {F G : AS}, RepL K Z H ts vs F → RepL K Z H us ws G → all2 (likeT n) ts us = true →
    vs.length = ws.length ∧ ∀ (i : Nat) (u v : V), vs[i]? = some u → ws[i]? = some v → Lk H n u v
  | [], [], _, _, _, _, h1, h2, _ => by
    cases h1
    cases h2
    exact ⟨rfl, fun i u v h => by cases h⟩
  | t :: ts, u :: us, _, _, _, _, h1, h2, e => by
    cases h1 with
    | cons a1 b1 _ =>
      cases h2 with
      | cons a2 b2 _ =>
        have e : (likeT n t u && all2 (likeT n) ts us) = true := e
        rw [Bool.and_eq_true] at e
        obtain ⟨l1, l2⟩ := like_items ih b1 b2 e.2
        refine ⟨by rw [List.length_cons, List.length_cons, l1], fun i x y hx hy => ?_⟩
        cases i with
        | zero =>
          cases hx
          cases hy
          exact ih a1 a2 e.1
        | succ i => exact l2 i x y hx hy
  | [], _ :: _, _, _, _, _, _, _, e => by cases e
  | _ :: _, [], _, _, _, _, _, _, e => by cases e
theorem like_lk {Z : AS} {H : Hp} : ∀ (n : Nat) {t u : T} {v w : V} {F G : AS}, Rep K Z H t v F → Rep K Z H u w G → likeT n t u = true → Lk H n v w
  | 0, _, _, _, _, _, _, _, _, e => by cases e
  | n + 1, t, u, v, w, F, G, h1, h2, e => by
    have it := @like_items K Z H n (fun {t u v w F G} => like_lk n)
    cases t with
    | hole => cases u <;> cases e
    | «at» x =>
      cases u with
      | hole => cases e
      | nd _ _ => cases e
      | «at» y =>
        have e : (decide (x = y) && plainV x) = true := e
        rw [Bool.and_eq_true] at e
        have exy := of_decide_eq_true e.1
        subst exy
        obtain ⟨rfl, _⟩ := h1.at_eq
        obtain ⟨rfl, _⟩ := h2.at_eq
        refine .inl ⟨?_, rfl⟩
        cases w with
        | bl b => exact .inl ⟨b, rfl⟩
        | str s => exact .inr (.inl ⟨s, rfl⟩)
        | int i => exact .inr (.inr (.inl ⟨i, rfl⟩))
        | non => exact .inr (.inr (.inr rfl))
        | _ => cases e.2
    | nd k ts =>
      cases u with
      | hole => cases k <;> cases e
      | «at» _ => cases k <;> cases e
      | nd k' us =>
        cases h1 with
        | @nd _ _ a vs F1 ho1 hl1 _ =>
          cases h2 with
          | @nd _ _ b ws F2 ho2 hl2 _ =>
            cases k with
            | lst m =>
              cases k' with
              | lst m' =>
                have e : (decide (ts.length ≤ 1000) && all2 (likeT n) ts us) = true := e
                rw [Bool.and_eq_true] at e
                obtain ⟨l1, l2⟩ := it hl1 hl2 e.2
                have o1 : H a = some (.lst vs) := by
                  cases m with
                  | true => exact ho1
                  | false => exact ho1.2
                have o2 : H b = some (.lst ws) := by
                  cases m' with
                  | true => exact ho2
                  | false => exact ho2.2
                exact .inr ⟨a, b, vs, ws, rfl, rfl, .inl ⟨o1, o2⟩, l1, by rw [← hl1.length]; exact of_decide_eq_true e.1, l2⟩
              | _ => cases e
            | tup =>
              cases k' with
              | tup =>
                have e : (decide (ts.length ≤ 1000) && all2 (likeT n) ts us) = true := e
                rw [Bool.and_eq_true] at e
                obtain ⟨l1, l2⟩ := it hl1 hl2 e.2
                exact .inr ⟨a, b, vs, ws, rfl, rfl, .inr ⟨ho1, ho2⟩, l1, by rw [← hl1.length]; exact of_decide_eq_true e.1, l2⟩
              | _ => cases e
            | _ => cases k' <;> cases e
end
structure Cs where
  WebError : Addr
  BadWeb : Addr
  NoHand : Addr
  NoRoad : Addr
  NoLetter : Addr
  BadText : Addr
  Web : Addr
def _root_.LT.Txt.cs {K : PySem.W.Frag} {mg : Str → Option Value} (T : Txt K mg) : Cs := ⟨T.C_WebError, T.C_BadWeb, T.C_NoHand, T.C_NoRoad, T.C_NoLetter, T.C_BadText, T.C_Web⟩
structure Lh {K : PySem.W.Frag} {mg : Str → Option Value} (base : Heap) (B : Tabs) (T : Txt K mg) : Prop where
  tb_tree : LamX.TabB base mg T.c_tree T.p_tree
  hb_tree : (T.p_tree, qLam "tree") ∈ B
  hu_tree : ∀ a q, (a, q) ∈ B → a = T.p_tree → q = qLam "tree"
  tb_law : LamX.TabB base mg T.c_law T.p_law
  hb_law : (T.p_law, qLam "law") ∈ B
  hu_law : ∀ a q, (a, q) ∈ B → a = T.p_law → q = qLam "law"
def G__law_like (_ : Cs) : Fn := fun ts => match ts with
  | [t, u] => if likeT 4 t u = true then some (.ok (.at (.bl true)), [t, u]) else none
  | _ => none
section
variable {P : Program} {w : World} {K : PySem.W.Frag} {mg : Str → Option Value} {base : Heap} {B : Tabs}
theorem ok__law_like (T : Txt K mg) (LH : Lh base B T) : FnOk P w K mg base CX0 5 T.a__law_like T.d__law_like ["_law_found", "_law_due"] (spOf K B (G__law_like T.cs)) := by
  have h : FnOk P w K mg base CX0 5 T.a__law_like T.d__law_like ["_law_found", "_law_due"] (spLike 4) := ok_law_like (P := P) (w := w) (base := base) T 4
  have conv : ∀ vs H Q E, spOf K B (G__law_like T.cs) vs H Q E → spLike 4 vs H Q E := fun vs H Q E sp => by
    obtain ⟨Z, ts, F, r, ts', rl, o, e, q, _⟩ := sp
    match ts, e with
    | [t, u], e =>
      have e : (if likeT 4 t u = true then some ((Except.ok (.at (.bl true)), [t, u]) : Except Ex TV.T × List TV.T) else none) = some (r, ts') := e
      split at e
      · rename_i hl
        cases e
        have rl0 := rl
        cases rl with
        | cons h1 h2 _ =>
          cases h2 with
          | cons h2 h3 _ =>
            cases h3
            refine ⟨_, _, rfl, like_lk 4 h1 h2 hl, ?_⟩
            refine q _ rfl (.bl true) H Z non _ ?_ Dj.non' (.at rfl) rl0
            exact (Stp.refl o).less fun x z => z.elim (fun y => y.elim) id
      · cases e
  exact ⟨fun vs H Q E sp => h.len vs H Q E (conv _ _ _ _ sp), fun A outer s H args us vs Q E hr e0 bt rv sp => h.run A outer s H args us vs Q E hr e0 bt rv (conv _ _ _ _ sp)⟩
theorem ok_BadWeb___init__ (T : Txt K mg) (LH : Lh base B T) : FnOk P w K mg base CX0 1 T.a_BadWeb___init__ T.d_BadWeb___init__ ["self", "why", "number"] (spI2 T.C_BadWeb "why" "number") := by
  refine T.F_BadWeb___init__.ok sc_BadWeb___init__ (fun vs H Q E h => ?_) (fun cdv A outer s H vs Q E hr h => ?_)
  · obtain ⟨_, _, _, rfl, _⟩ := h
    rfl
  · obtain ⟨a, x0, x1, rfl, ha, k⟩ := h
    refine ⟨_, (pss_cons (ps_ost (pv 0) (pv 1))
 (pss_one (ps_ost (pv 0) (pv 2)))), ?_⟩
    refine ⟨_, rfl, _, rfl, a, T.C_BadWeb, rfl, T.o_BadWeb, T.no_BadWeb_why, .inl ⟨ha, fun dx nd ne => ?_⟩⟩
    refine ⟨_, rfl, _, rfl, a, T.C_BadWeb, rfl, T.o_BadWeb, T.no_BadWeb_number, .inr ⟨dx, _, upd_same, by rw [upd_ne ne, upd_same], by show 1 ≤ 900; decide, ?_⟩⟩
    exact k dx nd ne
def fn__is_bad (c : Cs) : SM := (sSeq (sAsg (fTake 1) (gTp 3 (gCons' (gN 3) (gCons' (gN 4) (gCons' (gN 5) gNil')))))
  (sSeq (sE (fNot (fCh3 (fC (.int 0)) (fVar 3) (fVar 4) (fVar 0) gLe gLt gLt)) fun b => if b = true then (sE (liftO (fC (.bl true))) fun t ρ => some (.rt t, ρ)) else sNx)
  (sSeq (sE (fNot (fTest (liftO (fCh (fC (.int 1)) (fVar 5) (fC (.int 99)) gLe gLe)))) fun b => if b = true then (sE (liftO (fC (.bl true))) fun t ρ => some (.rt t, ρ)) else sNx)
  (sSeq (sE (fIt (fTake 2)) (fGo (gTp 3 (gCons' (gN 6) (gCons' (gN 7) (gCons' (gN 8) gNil')))) (sE (fIf (fTest (liftO (f2 (pTup (pCons (keepF (fVar 6)) (pCons (keepF (fVar 7)) pNil))) (pTup (pCons (keepF (fVar 3)) (pCons (keepF (fVar 4)) pNil))) (gEqD false)))) (rE (some true)) (fTest (liftO (f2 (fVar 8) (fVar 5) (gEq false))))) fun b => if b = true then (sE (liftO (fC (.bl true))) fun t ρ => some (.rt t, ρ)) else sNx)))
  (sE (liftO (fC (.bl false))) fun t ρ => some (.rt t, ρ))))))
def G__is_bad (c : Cs) : Fn := bodyG false 9 3 (fn__is_bad c)
theorem ok__is_bad (T : Txt K mg) (LH : Lh base B T) : FnOk P w K mg base CX0 1 T.a__is_bad T.d__is_bad ["hands", "road", "ahead"] (spOf K B (G__is_bad T.cs)) := by
  refine T.F__is_bad.ok sc__is_bad (fun vs H Q E h => spOf_len h) (fun cdv A outer s H vs Q E hr h => ?_)
  refine ⟨_, (pss_cons (ps_asg (pv 1) (pg_tup rfl (pgs_cons (pg_name (i := 3) sc__is_bad.nd rfl (Or.inl rfl)) (pgs_cons (pg_name (i := 4) sc__is_bad.nd rfl (Or.inl rfl)) (pgs_cons (pg_name (i := 5) sc__is_bad.nd rfl (Or.inl rfl)) pgs_nil)))))
 (pss_cons (ps_if (pt_not (pt_chain3 op_le op_lt op_lt pe_int (pv 3) (pv 4) (pv 0))) (pss_one (ps_ret pe_bl)) pss_nil)
 (pss_cons (ps_if (pt_not (pt_chain op_le op_le pe_int (pv 5) (pe_glob (v := .int 99) rfl T.g_MOST_COST.choose_spec ⟨_, rfl⟩))) (pss_one (ps_ret pe_bl)) pss_nil)
 (pss_cons (ps_for PassesOwn.never rfl (pi_list (pv 2)) (pg_tup rfl (pgs_cons (pg_name (i := 6) sc__is_bad.nd rfl (Or.inl rfl)) (pgs_cons (pg_name (i := 7) sc__is_bad.nd rfl (Or.inl rfl)) (pgs_cons (pg_name (i := 8) sc__is_bad.nd rfl (Or.inl rfl)) pgs_nil))))
  (pss_one (ps_if (PW.pt (pw_or (pt_cmpR (op_eqD hr.units) (pe_tup (pa_cons (pv 6) (pa_cons (pv 7) pa_nil))) (pe_tup (pa_cons (pv 3) (pa_cons (pv 4) pa_nil))) (nomark _)) (pw_or1 (pt_cmpR op_eq (pv 8) (pv 5) (nomark _))))) (pss_one (ps_ret pe_bl)) pss_nil)))
 (pss_one (ps_ret pe_bl)))))), ?_⟩
  refine run_def (N := ["hands", "road", "ahead", "one", "other", "cost", "near", "far", "price"]) (np := 3) (f := fn__is_bad T.cs) (raises := false) (E' := E0) ?_ (fun z => by first | rfl | cases z) (by decide) (spOf_len h) h
  exact (sj_seq (sj_asg vj_take (gj_tup (gsj_cons (gj_name (show ¬ (3 < 3) from by decide)) (gsj_cons (gj_name (show ¬ (4 < 3) from by decide)) (gsj_cons (gj_name (show ¬ (5 < 3) from by decide)) gsj_nil)))))
  (sj_seq (sj_if (tj_not (tj_chain3 os_le os_lt os_lt (FJ.pj (fj_const rfl)) pj_var pj_var pj_var)) ((sj_ret (FJ.vj (fj_const rfl)))) (sj_nx))
  (sj_seq (sj_if (tj_not (tj_test (FJ.vj (fj_chain os_le os_le (FJ.pj (fj_const rfl)) pj_var (FJ.pj (fj_const rfl)))))) ((sj_ret (FJ.vj (fj_const rfl)))) (sj_nx))
  (sj_seq (sj_for (ij_list vj_take) (gj_tup (gsj_cons (gj_name (show ¬ (6 < 3) from by decide)) (gsj_cons (gj_name (show ¬ (7 < 3) from by decide)) (gsj_cons (gj_name (show ¬ (8 < 3) from by decide)) gsj_nil)))) ((sj_if (tj_or (tj_test (FJ.vj (fj_op os_eqD (FJ.pj (fj_tup (faj_cons (PJ.fj pj_var) (faj_cons (PJ.fj pj_var) faj_nil)))) (FJ.pj (fj_tup (faj_cons (PJ.fj pj_var) (faj_cons (PJ.fj pj_var) faj_nil))))))) (tj_test (FJ.vj (fj_op os_eq pj_var pj_var)))) ((sj_ret (FJ.vj (fj_const rfl)))) (sj_nx))))
  (sj_ret (FJ.vj (fj_const rfl)))))))
def fn__across (c : Cs) : SM := (sSeq (sAsg (fTake 0) (gTp 3 (gCons' (gN 2) (gCons' (gN 3) (gCons' (gN 4) gNil')))))
  (sSeq (sE (fTest (liftO (f2 (fVar 1) (fVar 2) (gEq false)))) fun b => if b = true then (sE (fTake 3) fun t ρ => some (.rt t, ρ)) else sNx)
  (sSeq (sE (fTest (liftO (f2 (fVar 1) (fVar 3) (gEq false)))) fun b => if b = true then (sE (fTake 2) fun t ρ => some (.rt t, ρ)) else sNx)
  (sE (liftO (fC .non)) fun t ρ => some (.rt t, ρ)))))
def G__across (c : Cs) : Fn := bodyG false 5 2 (fn__across c)
theorem ok__across (T : Txt K mg) (LH : Lh base B T) : FnOk P w K mg base CX0 1 T.a__across T.d__across ["road", "hand"] (spOf K B (G__across T.cs)) := by
  refine T.F__across.ok sc__across (fun vs H Q E h => spOf_len h) (fun cdv A outer s H vs Q E hr h => ?_)
  refine ⟨_, (pss_cons (ps_asg (pv 0) (pg_tup rfl (pgs_cons (pg_name (i := 2) sc__across.nd rfl (Or.inl rfl)) (pgs_cons (pg_name (i := 3) sc__across.nd rfl (Or.inl rfl)) (pgs_cons (pg_name (i := 4) sc__across.nd rfl (Or.inl rfl)) pgs_nil)))))
 (pss_cons (ps_if (pt_cmpR op_eq (pv 1) (pv 2) (nomark _)) (pss_one (ps_ret (pv 3))) pss_nil)
 (pss_cons (ps_if (pt_cmpR op_eq (pv 1) (pv 3) (nomark _)) (pss_one (ps_ret (pv 2))) pss_nil)
 (pss_one (ps_ret pe_non))))), ?_⟩
  refine run_def (N := ["road", "hand", "one", "other", "_"]) (np := 2) (f := fn__across T.cs) (raises := false) (E' := E0) ?_ (fun z => by first | rfl | cases z) (by decide) (spOf_len h) h
  exact (sj_seq (sj_asg vj_take (gj_tup (gsj_cons (gj_name (show ¬ (2 < 2) from by decide)) (gsj_cons (gj_name (show ¬ (3 < 2) from by decide)) (gsj_cons (gj_name (show ¬ (4 < 2) from by decide)) gsj_nil)))))
  (sj_seq (sj_if (tj_test (FJ.vj (fj_op os_eq pj_var pj_var))) ((sj_ret vj_take)) (sj_nx))
  (sj_seq (sj_if (tj_test (FJ.vj (fj_op os_eq pj_var pj_var))) ((sj_ret vj_take)) (sj_nx))
  (sj_ret (FJ.vj (fj_const rfl))))))
def fn__paths (c : Cs) : SM := (sSeq (sAsg (liftO (fDis1 (fVar 2) (pLst pNil))) (gN 3))
  (sSeq (sAsg (liftO (pLst (pCons (keepF (fVar 2)) pNil))) (gN 4))
  (sSeq (fWh (fTru (fVar 4)) (sSeq (sAsg (fBm "list" mPop 4 fNil) (gN 5))
  (sE (fIt (fTake 1)) (fGo (gN 6) (sSeq (sAsg (bE (xVal (liftO (keepF (f2 (fVar 0) (fVar 6) gIxL))) (xSlot 5 xNil)) (callG (G__across c))) (gN 7))
  (sE (fIf (fTest (liftO (f2 (fVar 7) (fC .non) (gIs true)))) (fTest (liftO (f2 (fVar 7) (fVar 3) (gDIn true)))) (rE (some false))) fun b => if b = true then (sSeq (sDPutT (liftO (f2 (f2 (fVar 3) (fVar 5) gDG) (pLst (pCons (keepF (fVar 6)) pNil)) gCat)) (plV 3) (fVar 7))
  (sE (fBm "list" mAppend 4 (liftO (pCons (keepF (fVar 7)) pNil))) fun _ => sNx)) else sNx))))) 1000)
  (sE (fMove 3) fun t ρ => some (.rt t, ρ)))))
def G__paths (c : Cs) : Fn := bodyG false 8 3 (fn__paths c)
theorem ok__paths (T : Txt K mg) (LH : Lh base B T) : FnOk P w K mg base CX0 2 T.a__paths T.d__paths ["roads", "numbers", "start"] (spOf K B (G__paths T.cs)) := by
  have G__across := ok__across (P := P) (w := w) (base := base) (B := B) T LH
  refine T.F__paths.ok sc__paths (fun vs H Q E h => spOf_len h) (fun cdv A outer s H vs Q E hr h => ?_)
  refine ⟨_, (pss_cons (ps_set (i := 3) sc__paths.nd rfl (Or.inl rfl) (pe_disp (pps_cons (pv 2) (pe_lst pa_nil) pps_nil) (by rfl) (by rfl) (fun z => by cases z) (by decide)))
 (pss_cons (ps_set (i := 4) sc__paths.nd rfl (Or.inl rfl) (pe_lst (pa_cons (pv 2) pa_nil)))
 (pss_cons (ps_while PassesOwn.never (pt_truth (pv 4) (by intro _; rfl))
  (pss_cons (ps_set (i := 5) sc__paths.nd rfl (Or.inl rfl) (pe_bm0 PySem.F.plainAttrs_list PySem.F.slot_list_pop PySem.F.type_list_pop mt_pop (pv 4)))
 (pss_one (ps_for PassesOwn.never rfl (pi_list (pv 1)) (pg_name (i := 6) sc__paths.nd rfl (Or.inl rfl))
  (pss_cons (ps_set (i := 7) sc__paths.nd rfl (Or.inl rfl) (pe_call G__across (hr.mono (by decide)) rfl T.g__across T.F__across.kp T.b__across .nil pass0 (pa_cons (pe_ix ix_list (pv 0) (pv 6) (fun _ _ => rfl)) (pa_cons (pv 5) pa_nil))))
 (pss_one (ps_if (PW.pt (pw_and (pt_cmpR op_notN (pv 7) pe_non (nomark _)) (pw_and1 (pt_cmp (pc_dnotin (hu_of hr) (pv 7) (pv 3)))))) (pss_cons (ps_dput (hu_of hr) (pv 3) (pv 7) (pe_op op_cat (pe_dget (hu_of hr) (pv 3) (pv 5) (fun _ _ => rfl)) (pe_lst (pa_cons (pv 6) pa_nil))) rfl)
 (pss_one (ps_expr (pe_bm PySem.F.plainAttrs_list PySem.F.slot_list_append PySem.F.type_list_append mt_append (pv 4) (pa_cons (pv 7) pa_nil))))) pss_nil)))))))
 (pss_one (ps_ret (pv 3)))))), ?_⟩
  refine run_def (N := ["roads", "numbers", "start", "paths", "waiting", "here", "number", "there"]) (np := 3) (f := fn__paths T.cs) (raises := false) (E' := E0) ?_ (fun z => by first | rfl | cases z) (by decide) (spOf_len h) h
  exact (sj_seq (sj_asg (FJ.vj (fj_dis1 pj_var (fj_lst faj_nil))) (gj_name (show ¬ (3 < 3) from by decide)))
  (sj_seq (sj_asg (FJ.vj (fj_lst (faj_cons (PJ.fj pj_var) faj_nil))) (gj_name (show ¬ (4 < 3) from by decide)))
  (sj_seq (sj_while 1000 (tj_tru pj_var) ((sj_seq (sj_asg (vj_bm0 m_pop) (gj_name (show ¬ (5 < 3) from by decide)))
  (sj_for (ij_list vj_take) (gj_name (show ¬ (6 < 3) from by decide)) ((sj_seq (sj_asg (vj_call (xj_val (FJ.vj (PJ.fj (pj_opA oa_ixL pj_var pj_var))) (xj_slot xj_nil))) (gj_name (show ¬ (7 < 3) from by decide)))
  (sj_if (tj_and (tj_test (FJ.vj (fj_op os_notN pj_var (FJ.pj (fj_const rfl))))) (tj_B (FJ.vj (fj_dinN pj_var pj_var)))) ((sj_seq (sj_dput (FJ.vj (fj_op os_cat (pj_dget pj_var pj_var) (FJ.pj (fj_lst (faj_cons (PJ.fj pj_var) faj_nil))))) pl_var pj_var)
  (sj_drop (vj_bm m_append (FAJ.aj (faj_cons (PJ.fj pj_var) faj_nil)))))) (sj_nx))))))))
  (sj_ret (vj_move (i := 3))))))
def fn__check_web (c : Cs) : SM := (sSeq (sE (fNot (fTest (liftO (fCh (fC (.int 1)) (fVar 0) (fC (.int 8)) gLe gLe)))) fun b => if b = true then (sRaiseF2 c.BadWeb "why" "number" (pCons (fC (.str "hands")) (pCons (fC (.int 0)) pNil))) else sNx)
  (sSeq (sE (fTest (liftO (f2 (fCB (qCons (fVar 1) pNil) gLen) (fC (.int 20)) gGt))) fun b => if b = true then (sRaiseF2 c.BadWeb "why" "number" (pCons (fC (.str "roads")) (pCons (fC (.int 0)) pNil))) else sNx)
  (sSeq (sE (fEnum (fTake 1)) (fGo (gTp 2 (gCons' (gN 2) (gCons' (gN 3) gNil'))) (sE (fTest (nE (bE (xSlot 0 (xSlot 3 (xVal (liftO (fSl (fVar 1) (fun _ => some none) (fPart (fVar 2)))) xNil))) (callG (G__is_bad c))))) fun b => if b = true then (sRaiseF2 c.BadWeb "why" "number" (pCons (fC (.str "road")) (pCons (keepF (fVar 2)) pNil))) else sNx)))
  (sE (fTest (fVP (vCB (fCons (nE (bE (xSlot 1 (xVal (liftO (fLR (fCB (qCons (fVar 1) pNil) gLen))) (xVal (liftO (fC (.int 0))) xNil))) (callG (G__paths c)))) fNil) gLenD) (fVar 0) gLt)) fun b => if b = true then (sRaiseF2 c.BadWeb "why" "number" (pCons (fC (.str "apart")) (pCons (fC (.int 0)) pNil))) else sNx))))
def G__check_web (c : Cs) : Fn := bodyG true 4 2 (fn__check_web c)
theorem ok__check_web (T : Txt K mg) (LH : Lh base B T) : FnOk P w K mg base (L2N.CX P w) 3 T.a__check_web T.d__check_web ["hands", "roads"] (spOf K B (G__check_web T.cs)) := by
  have G_BadWeb___init__ := ok_BadWeb___init__ (P := P) (w := w) (base := base) (B := B) T LH
  have G__is_bad := ok__is_bad (P := P) (w := w) (base := base) (B := B) T LH
  have G__paths := ok__paths (P := P) (w := w) (base := base) (B := B) T LH
  refine okN T.F__check_web sc__check_web (fun vs H Q E h => spOf_len h) (fun cdv A outer s H vs Q E hr h => ?_)
  refine ⟨_, (pss_cons (ps_if (pt_not (pt_chain op_le op_le pe_int (pv 0) (pe_glob (v := .int 8) rfl T.g_MOST_HANDS.choose_spec ⟨_, rfl⟩))) (pss_one (L2N.ps_raise rfl (L2N.takes_of rfl rfl rfl rfl) (pmk_fields T.o_BadWeb T.i_BadWeb T.t_BadWeb G_BadWeb___init__ (hr.mono (by decide)) T.b_BadWeb___init__ pass0 rfl T.g_BadWeb (pa_cons pe_str (pa_cons pe_int pa_nil))))) pss_nil)
 (pss_cons (ps_if (pt_cmpR op_gt (pe_callB call_len_seq (by rfl) T.nb_len (by decide +kernel) (pa_cons (pv 1) pa_nil)) (pe_glob (v := .int 20) rfl T.g_MOST_ROADS.choose_spec ⟨_, rfl⟩) (nomark _)) (pss_one (L2N.ps_raise rfl (L2N.takes_of rfl rfl rfl rfl) (pmk_fields T.o_BadWeb T.i_BadWeb T.t_BadWeb G_BadWeb___init__ (hr.mono (by decide)) T.b_BadWeb___init__ pass0 rfl T.g_BadWeb (pa_cons pe_str (pa_cons pe_int pa_nil))))) pss_nil)
 (pss_cons (ps_for (passes_of rfl) rfl (pi_enum (by rfl) T.nb_enumerate (pa_cons (pv 1) pa_nil)) (pg_tup rfl (pgs_cons (pg_name (i := 2) sc__check_web.nd rfl (Or.inl rfl)) (pgs_cons (pg_name (i := 3) sc__check_web.nd rfl (Or.inl rfl)) pgs_nil)))
  (pss_one (ps_if (pt_val (pe_call G__is_bad (hr.mono (by decide)) rfl T.g__is_bad T.F__is_bad.kp T.b__is_bad .nil pass0 (pa_cons (pv 0) (pa_cons (pv 3) (pa_cons (pe_slice sl_list (pv 1) po_none (po_some (pv 2))) pa_nil))))) (pss_one (L2N.ps_raise rfl (L2N.takes_of rfl rfl rfl rfl) (pmk_fields T.o_BadWeb T.i_BadWeb T.t_BadWeb G_BadWeb___init__ (hr.mono (by decide)) T.b_BadWeb___init__ pass0 rfl T.g_BadWeb (pa_cons pe_str (pa_cons (pv 2) pa_nil))))) pss_nil)))
 (pss_one (ps_if (pt_cmpR op_lt (pe_callB call_lenD (by rfl) T.nb_len (by decide +kernel) (pa_cons (pe_call G__paths (hr.mono (by decide)) rfl T.g__paths T.F__paths.kp T.b__paths .nil pass0 (pa_cons (pv 1) (pa_cons (pe_listRg rfl (by rfl) T.nb_list (prg_1 (by rfl) T.nb_range (pe_callB call_len_seq (by rfl) T.nb_len (by decide +kernel) (pa_cons (pv 1) pa_nil)))) (pa_cons pe_int pa_nil)))) pa_nil)) (pv 0) (nomark _)) (pss_one (L2N.ps_raise rfl (L2N.takes_of rfl rfl rfl rfl) (pmk_fields T.o_BadWeb T.i_BadWeb T.t_BadWeb G_BadWeb___init__ (hr.mono (by decide)) T.b_BadWeb___init__ pass0 rfl T.g_BadWeb (pa_cons pe_str (pa_cons pe_int pa_nil))))) pss_nil))))), ?_⟩
  refine run_def (N := ["hands", "roads", "number", "road"]) (np := 2) (f := fn__check_web T.cs) (raises := true) (E' := E) ?_ (fun z => by first | rfl | cases z) (by decide) (spOf_len h) h
  exact (sj_seq (sj_if (tj_not (tj_test (FJ.vj (fj_chain os_le os_le (FJ.pj (fj_const rfl)) pj_var (FJ.pj (fj_const rfl)))))) ((sj_raiseF2 (faj_cons (fj_const rfl) (faj_cons (fj_const rfl) faj_nil)))) (sj_nx))
  (sj_seq (sj_if (tj_test (FJ.vj (fj_op os_gt (FJ.pj (fj_cb cs_len (paj_cons pj_var paj_nil))) (FJ.pj (fj_const rfl))))) ((sj_raiseF2 (faj_cons (fj_const rfl) (faj_cons (fj_const rfl) faj_nil)))) (sj_nx))
  (sj_seq (sj_for (ij_enum vj_take) (gj_tup (gsj_cons (gj_name (show ¬ (2 < 2) from by decide)) (gsj_cons (gj_name (show ¬ (3 < 2) from by decide)) gsj_nil))) ((sj_if (tj_B (vj_e0 (vj_call (xj_slot (xj_slot (xj_val (FJ.vj (fj_sl pj_var oj_no (oj_part pj_var))) xj_nil)))))) ((sj_raiseF2 (faj_cons (fj_const rfl) (faj_cons (PJ.fj pj_var) faj_nil)))) (sj_nx))))
  (sj_if (tj_test (vj_opP os_lt (vj_cb cs_lenD (aj_cons (vj_e0 (vj_call (xj_slot (xj_val (FJ.vj (fj_listRg (FJ.pj (fj_cb cs_len (paj_cons pj_var paj_nil))))) (xj_val (FJ.vj (fj_const rfl)) xj_nil))))) aj_nil)) pj_var)) ((sj_raiseF2 (faj_cons (fj_const rfl) (faj_cons (fj_const rfl) faj_nil)))) (sj_nx)))))
def fn_Web___init__ (c : Cs) : SM := (sSeq (sAsg (liftO (fCB (qCons (fVar 2) pNil) gList)) (gN 3))
  (sSeq (sE (bE (xSlot 1 (xSlot 3 xNil)) (callG (G__check_web c))) fun _ => sNx)
  (sSeq (sFldT c.Web "_hands" (fTake 1) (plV 0))
  (sFldT c.Web "_roads" (fTake 3) (plV 0)))))
def G_Web___init__ (c : Cs) : Fn := bodyG true 4 3 (fn_Web___init__ c)
theorem ok_Web___init__ (T : Txt K mg) (LH : Lh base B T) : FnOk P w K mg base (L2N.CX P w) 4 T.a_Web___init__ T.d_Web___init__ ["self", "hands", "roads"] (spOf K B (G_Web___init__ T.cs)) := by
  have G__check_web := ok__check_web (P := P) (w := w) (base := base) (B := B) T LH
  refine okN T.F_Web___init__ sc_Web___init__ (fun vs H Q E h => spOf_len h) (fun cdv A outer s H vs Q E hr h => ?_)
  refine ⟨_, (pss_cons (ps_set (i := 3) sc_Web___init__.nd rfl (Or.inl rfl) (pe_callTy call_list_of (by rfl) T.nb_list (by decide +kernel) (pa_cons (pv 2) pa_nil)))
 (pss_cons (ps_expr (pe_call G__check_web (hr.mono (by decide)) rfl T.g__check_web T.F__check_web.kp T.b__check_web .nil (L2N.passes_call (L2N.takes_of rfl rfl rfl rfl) (fun _ _ _ _ h => h)) (pa_cons (pv 1) (pa_cons (pv 3) pa_nil))))
 (pss_cons (ps_fld (pv 0) (pv 1) rfl)
 (pss_one (ps_fld (pv 0) (pv 3) rfl))))), ?_⟩
  refine run_def (N := ["self", "hands", "roads", "kept"]) (np := 3) (f := fn_Web___init__ T.cs) (raises := true) (E' := E) ?_ (fun z => by first | rfl | cases z) (by decide) (spOf_len h) h
  exact (sj_seq (sj_asg (FJ.vj (fj_cb cs_list (paj_cons pj_var paj_nil))) (gj_name (show ¬ (3 < 3) from by decide)))
  (sj_seq (sj_drop (vj_call (xj_slot (xj_slot xj_nil))))
  (sj_seq (sj_fld T.cl_Web T.na_Web__hands vj_take pl_var)
  (sj_fld T.cl_Web T.na_Web__roads vj_take pl_var))))
def fn_Web_hands (c : Cs) : SM := (sE (liftO (keepF (fFld c.Web "_hands" (fVar 0)))) fun t ρ => some (.rt t, ρ))
def G_Web_hands (c : Cs) : Fn := bodyG false 1 1 (fn_Web_hands c)
theorem ok_Web_hands (T : Txt K mg) (LH : Lh base B T) : FnOk P w K mg base CX0 1 T.a_Web_hands T.d_Web_hands ["self"] (spOf K B (G_Web_hands T.cs)) := by
  refine T.F_Web_hands.ok sc_Web_hands (fun vs H Q E h => spOf_len h) (fun cdv A outer s H vs Q E hr h => ?_)
  refine ⟨_, (pss_one (ps_ret (pe_fld (pv 0) rfl))), ?_⟩
  refine run_def (N := ["self"]) (np := 1) (f := fn_Web_hands T.cs) (raises := false) (E' := E0) ?_ (fun z => by first | rfl | cases z) (by decide) (spOf_len h) h
  exact (sj_ret (FJ.vj (PJ.fj (pj_fld T.cl_Web T.na_Web__hands pj_var))))
def fn_Web_roads (c : Cs) : SM := (sE (liftO (fCB (qCons (fFld c.Web "_roads" (fVar 0)) pNil) gList)) fun t ρ => some (.rt t, ρ))
def G_Web_roads (c : Cs) : Fn := bodyG false 1 1 (fn_Web_roads c)
theorem ok_Web_roads (T : Txt K mg) (LH : Lh base B T) : FnOk P w K mg base CX0 1 T.a_Web_roads T.d_Web_roads ["self"] (spOf K B (G_Web_roads T.cs)) := by
  refine T.F_Web_roads.ok sc_Web_roads (fun vs H Q E h => spOf_len h) (fun cdv A outer s H vs Q E hr h => ?_)
  refine ⟨_, (pss_one (ps_ret (pe_callTy call_list_of (by rfl) T.nb_list (by decide +kernel) (pa_cons (pe_fld (pv 0) rfl) pa_nil)))), ?_⟩
  refine run_def (N := ["self"]) (np := 1) (f := fn_Web_roads T.cs) (raises := false) (E' := E0) ?_ (fun z => by first | rfl | cases z) (by decide) (spOf_len h) h
  exact (sj_ret (FJ.vj (fj_cb cs_list (paj_cons (pj_fld T.cl_Web T.na_Web__roads pj_var) paj_nil))))
def fn_tree (c : Cs) : SM := (sSeq (sAsg (fMeth c.Web "roads" 0 (G_Web_roads c) xNil) (gN 1))
  (sSeq (sAsg (vLR (fMeth c.Web "hands" 0 (G_Web_hands c) xNil)) (gN 2))
  (sSeq (sAsg (liftO (pLst pNil)) (gN 3))
  (sSeq (sE (fIt (liftO (fSortLam (fCB (qCons (fVar 1) pNil) gLen) 1 (f2 (f2 (fVar 1) (fVar 0) gIxL) (fC (.int 2)) gIxT)))) (fGo (gN 4) (sSeq (sAsg (liftO (keepF (f2 (fVar 1) (fVar 4) gIxL))) (gTp 3 (gCons' (gN 5) (gCons' (gN 6) (gCons' (gN 7) gNil')))))
  (sSeq (sAsg (liftO (pTup (pCons (keepF (f2 (fVar 2) (fVar 5) gIxL)) (pCons (keepF (f2 (fVar 2) (fVar 6) gIxL)) pNil)))) (gTp 2 (gCons' (gN 8) (gCons' (gN 9) gNil'))))
  (sE (fTest (liftO (f2 (fVar 8) (fVar 9) (gEq true)))) fun b => if b = true then (sSeq (sE (fBm "list" mAppend 3 (liftO (pCons (keepF (fVar 4)) pNil))) fun _ => sNx)
  (sAsg (fLc (fIt (fTake 2)) [10] (gN 10) (rE (some true)) (fIf (fTest (liftO (f2 (fVar 10) (fVar 9) (gEq false)))) (fTake 8) (fTake 10))) (gN 2))) else sNx)))))
  (sE (liftO (fCB (qCons (fVar 3) pNil) gSort)) fun t ρ => some (.rt t, ρ))))))
def G_tree (c : Cs) : Fn := bodyG false 11 1 (fn_tree c)
theorem ok_tree (T : Txt K mg) (LH : Lh base B T) : FnOk P w K mg base CX0 3 T.a_tree T.d_tree ["web"] (spOf K B (G_tree T.cs)) := by
  have G_Web_roads := ok_Web_roads (P := P) (w := w) (base := base) (B := B) T LH
  have G_Web_hands := ok_Web_hands (P := P) (w := w) (base := base) (B := B) T LH
  have TB := LH.tb_tree
  refine T.FC_tree.ok sc_tree (fun vs H Q E h => spOf_len h) (fun A outer s H vs Q E hr h => ?_)
  refine ⟨_, (pss_cons (ps_set (i := 1) sc_tree.nd rfl (Or.inr rfl) (pe_meth0 (pv 0) T.cl_Web T.m_Web_roads G_Web_roads (hr.mono (by decide)) T.b_Web_roads .nil pass0))
 (pss_cons (ps_set (i := 2) sc_tree.nd rfl (Or.inl rfl) (pe_listRg rfl (by rfl) T.nb_list (prg_1 (by rfl) T.nb_range (pe_meth0 (pv 0) T.cl_Web T.m_Web_hands G_Web_hands (hr.mono (by decide)) T.b_Web_hands .nil pass0))))
 (pss_cons (ps_set (i := 3) sc_tree.nd rfl (Or.inl rfl) (pe_lst pa_nil))
 (pss_cons (ps_for PassesOwn.never rfl (pi_list (pe_sortLam (P := T.p_tree) (N := ["at", "roads"]) (fr := ["roads"]) (js := [1]) (k := 0) rfl (by rfl) T.nb_sorted (by rfl) T.nb_range (pe_callB call_len_seq (by rfl) T.nb_len (by decide +kernel) (pa_cons (pv 1) pa_nil)) TB rfl rfl rfl (NdefX.nscope_by (by decide +kernel)) (ndef_at (sc := defScope s_tree) rfl (by decide +kernel)) rfl (roomB hr) (fun _ _ _ _ _ _ => rfl) (fun _ _ _ _ _ _ _ _ _ _ _ => by exact (pe_ix (ix_tupK K rfl) (pe_ix (ix_listK K rfl) (pv 1) (pv 0) (fun _ _ => rfl)) pe_int (fun _ _ => rfl))))) (pg_name (i := 4) sc_tree.nd rfl (Or.inl rfl))
  (pss_cons (ps_asg (pe_ix ix_list (pv 1) (pv 4) (fun _ _ => rfl)) (pg_tup rfl (pgs_cons (pg_name (i := 5) sc_tree.nd rfl (Or.inl rfl)) (pgs_cons (pg_name (i := 6) sc_tree.nd rfl (Or.inl rfl)) (pgs_cons (pg_name (i := 7) sc_tree.nd rfl (Or.inl rfl)) pgs_nil)))))
 (pss_cons (ps_asg (pe_tup (pa_cons (pe_ix ix_list (pv 2) (pv 5) (fun _ _ => rfl)) (pa_cons (pe_ix ix_list (pv 2) (pv 6) (fun _ _ => rfl)) pa_nil))) (pg_tup rfl (pgs_cons (pg_name (i := 8) sc_tree.nd rfl (Or.inr rfl)) (pgs_cons (pg_name (i := 9) sc_tree.nd rfl (Or.inr rfl)) pgs_nil))))
 (pss_one (ps_if (pt_cmpR op_ne (pv 8) (pv 9) (nomark _)) (pss_cons (ps_expr (pe_bm PySem.F.plainAttrs_list PySem.F.slot_list_append PySem.F.type_list_append mt_append (pv 3) (pa_cons (pv 4) pa_nil)))
 (pss_one (ps_setLc (i := 2) (own := [("piece", 10)]) (g := gName 10) (tt := tYes) (by rfl) sc_tree.nd rfl rfl (sw_true rfl rfl rfl (by decide +kernel)) (pi_list (pv 2)) (blkOk_by (own := [("piece", 10)]) (N := ["web", "roads", "pieces", "chosen", "number", "one", "other", "_", "kept", "joined", "piece"]) (sc := defScope s_tree) (by decide +kernel)) (fun _ _ _ _ _ => by exact (pg_name (i := 10) sc_tree.nd rfl (Or.inl rfl))) (fun _ _ _ _ _ => by exact pts_nil) (fun _ _ _ _ _ => by exact (pe_ifExp (pt_cmpR op_eq (pv 10) (pv 9) (nomark _)) (pv 8) (pv 10)))))) pss_nil)))))
 (pss_one (ps_ret (pe_callB cr_sorted (by rfl) T.nb_sorted (by decide +kernel) (pa_cons (pv 3) pa_nil)))))))), ?_⟩
  refine run_def (N := ["web", "roads", "pieces", "chosen", "number", "one", "other", "_", "kept", "joined", "piece"]) (np := 1) (f := fn_tree T.cs) (raises := false) (E' := E0) ?_ (fun z => by first | rfl | cases z) (by decide) (spOf_len h) h
  exact (sj_seq (sj_asg (vj_meth xj_nil) (gj_name (show ¬ (1 < 1) from by decide)))
  (sj_seq (sj_asg (vj_listRg (vj_meth xj_nil)) (gj_name (show ¬ (2 < 1) from by decide)))
  (sj_seq (sj_asg (FJ.vj (fj_lst faj_nil)) (gj_name (show ¬ (3 < 1) from by decide)))
  (sj_seq (sj_for (ij_list (FJ.vj (fj_sortLam LH.hb_tree LH.hu_tree rfl (FJ.pj (fj_cb cs_len (paj_cons pj_var paj_nil))) (nj_opA oa_ixT (nj_opA oa_ixL nj_var nj_var) (nj_const rfl))))) (gj_name (show ¬ (4 < 1) from by decide)) ((sj_seq (sj_asg (FJ.vj (PJ.fj (pj_opA oa_ixL pj_var pj_var))) (gj_tup (gsj_cons (gj_name (show ¬ (5 < 1) from by decide)) (gsj_cons (gj_name (show ¬ (6 < 1) from by decide)) (gsj_cons (gj_name (show ¬ (7 < 1) from by decide)) gsj_nil)))))
  (sj_seq (sj_asg (FJ.vj (fj_tup (faj_cons (PJ.fj (pj_opA oa_ixL pj_var pj_var)) (faj_cons (PJ.fj (pj_opA oa_ixL pj_var pj_var)) faj_nil)))) (gj_tup (gsj_cons (gj_name (show ¬ (8 < 1) from by decide)) (gsj_cons (gj_name (show ¬ (9 < 1) from by decide)) gsj_nil))))
  (sj_if (tj_test (FJ.vj (fj_op os_ne pj_var pj_var))) ((sj_seq (sj_drop (vj_bm m_append (FAJ.aj (faj_cons (PJ.fj pj_var) faj_nil))))
  (sj_asg (vj_lc (E' := E0) (ij_list vj_take) (gj_name (show ¬ (10 ∉ [10]) from by decide)) tj_yes (vj_if (tj_test (FJ.vj (fj_op os_eq pj_var pj_var))) vj_take vj_take)) (gj_name (show ¬ (2 < 1) from by decide))))) (sj_nx))))))
  (sj_ret (FJ.vj (fj_cb cs_sorted (paj_cons pj_var paj_nil))))))))
def fn__check_road (c : Cs) : SM := (sE (fNot (fTest (vCh (fC (.int 0)) (fVar 1) (vCB (fCons (nE (fMeth c.Web "roads" 0 (G_Web_roads c) xNil)) fNil) gLen) gLe gLt))) fun b => if b = true then (sRaise1 c.NoRoad (pCons (fJoined (jCons (fC (.str "there is no road ")) (jCons (fFmt (fVar 1)) jNil))) pNil)) else sNx)
def G__check_road (c : Cs) : Fn := bodyG true 2 2 (fn__check_road c)
theorem ok__check_road (T : Txt K mg) (LH : Lh base B T) : FnOk P w K mg base (L2N.CX P w) 2 T.a__check_road T.d__check_road ["web", "number"] (spOf K B (G__check_road T.cs)) := by
  have G_Web_roads := ok_Web_roads (P := P) (w := w) (base := base) (B := B) T LH
  refine okN T.F__check_road sc__check_road (fun vs H Q E h => spOf_len h) (fun cdv A outer s H vs Q E hr h => ?_)
  refine ⟨_, (pss_one (ps_if (pt_not (pt_chain op_le op_lt pe_int (pv 1) (pe_callB call_len_seq (by rfl) T.nb_len (by decide +kernel) (pa_cons (pe_meth0 (pv 0) T.cl_Web T.m_Web_roads G_Web_roads (hr.mono (by decide)) T.b_Web_roads .nil pass0) pa_nil)))) (pss_one (L2N.ps_raise rfl (L2N.takes_of rfl rfl rfl rfl) (pmk_one PySem.F.excBase_ValueError T.xo_NoRoad T.g_NoRoad T.kc_NoRoad (raises_own T.exc_NoRoad.hs T.ty_NoRoad) (pa_cons (pe_joined (PJ.cons pe_str (PJ.cons (pe_fmt (pv 1)) PJ.nil))) pa_nil)))) pss_nil)), ?_⟩
  refine run_def (N := ["web", "number"]) (np := 2) (f := fn__check_road T.cs) (raises := true) (E' := E) ?_ (fun z => by first | rfl | cases z) (by decide) (spOf_len h) h
  exact (sj_if (tj_not (tj_test (vj_chain os_le os_lt (FJ.pj (fj_const rfl)) pj_var (vj_cb cs_len (aj_cons (vj_e0 (vj_meth xj_nil)) aj_nil))))) ((sj_raise1 (faj_cons (fj_joined (js_cons (FJ.pj (fj_const rfl)) (js_cons (FJ.pj (fj_fmt pj_var)) js_nil))) faj_nil))) (sj_nx))
def fn_instead (c : Cs) : SM := (sSeq (sE (bE (xSlot 0 (xSlot 1 xNil)) (callG (G__check_road c))) fun _ => sNx)
  (sSeq (sAsg (nE (bE (xSlot 0 xNil) (callG (G_tree c)))) (gN 2))
  (sSeq (sE (fTest (liftO (f2 (fVar 1) (fVar 2) (gIn false)))) fun b => if b = true then (sE (liftO (fC .non)) fun t ρ => some (.rt t, ρ)) else sNx)
  (sSeq (sAsg (nE (fMeth c.Web "roads" 0 (G_Web_roads c) xNil)) (gN 3))
  (sSeq (sAsg (liftO (keepF (f2 (fVar 3) (fVar 1) gIxL))) (gTp 3 (gCons' (gN 4) (gCons' (gN 5) (gCons' (gN 6) gNil')))))
  (sE (fVP (nE (bE (xSlot 3 (xSlot 2 (xSlot 4 xNil))) (callG (G__paths c)))) (fVar 5) gDG) fun t ρ => some (.rt t, ρ)))))))
def G_instead (c : Cs) : Fn := bodyG true 7 2 (fn_instead c)
theorem ok_instead (T : Txt K mg) (LH : Lh base B T) : FnOk P w K mg base (L2N.CX P w) 4 T.a_instead T.d_instead ["web", "number"] (spOf K B (G_instead T.cs)) := by
  have G__check_road := ok__check_road (P := P) (w := w) (base := base) (B := B) T LH
  have G_tree := ok_tree (P := P) (w := w) (base := base) (B := B) T LH
  have G_Web_roads := ok_Web_roads (P := P) (w := w) (base := base) (B := B) T LH
  have G__paths := ok__paths (P := P) (w := w) (base := base) (B := B) T LH
  refine okN T.F_instead sc_instead (fun vs H Q E h => spOf_len h) (fun cdv A outer s H vs Q E hr h => ?_)
  refine ⟨_, (pss_cons (ps_expr (pe_call G__check_road (hr.mono (by decide)) rfl T.g__check_road T.F__check_road.kp T.b__check_road .nil (L2N.passes_call (L2N.takes_of rfl rfl rfl rfl) (fun _ _ _ _ h => h)) (pa_cons (pv 0) (pa_cons (pv 1) pa_nil))))
 (pss_cons (ps_set (i := 2) sc_instead.nd rfl (Or.inl rfl) (pe_call G_tree (hr.mono (by decide)) rfl T.g_tree T.F_tree.kp T.b_tree .nil pass0 (pa_cons (pv 0) pa_nil)))
 (pss_cons (ps_if (pt_cmpR op_in_seq (pv 1) (pv 2) rfl) (pss_one (ps_ret pe_non)) pss_nil)
 (pss_cons (ps_set (i := 3) sc_instead.nd rfl (Or.inl rfl) (pe_meth0 (pv 0) T.cl_Web T.m_Web_roads G_Web_roads (hr.mono (by decide)) T.b_Web_roads .nil pass0))
 (pss_cons (ps_asg (pe_ix ix_list (pv 3) (pv 1) (fun _ _ => rfl)) (pg_tup rfl (pgs_cons (pg_name (i := 4) sc_instead.nd rfl (Or.inl rfl)) (pgs_cons (pg_name (i := 5) sc_instead.nd rfl (Or.inl rfl)) (pgs_cons (pg_name (i := 6) sc_instead.nd rfl (Or.inl rfl)) pgs_nil)))))
 (pss_one (ps_ret (pe_dget (hu_of hr) (pe_call G__paths (hr.mono (by decide)) rfl T.g__paths T.F__paths.kp T.b__paths .nil pass0 (pa_cons (pv 3) (pa_cons (pv 2) (pa_cons (pv 4) pa_nil)))) (pv 5) (fun _ _ => rfl))))))))), ?_⟩
  refine run_def (N := ["web", "number", "chosen", "roads", "one", "other", "_"]) (np := 2) (f := fn_instead T.cs) (raises := true) (E' := E) ?_ (fun z => by first | rfl | cases z) (by decide) (spOf_len h) h
  exact (sj_seq (sj_drop (vj_call (xj_slot (xj_slot xj_nil))))
  (sj_seq (sj_asg (vj_e0 (vj_call (xj_slot xj_nil))) (gj_name (show ¬ (2 < 2) from by decide)))
  (sj_seq (sj_if (tj_test (FJ.vj (fj_op os_in pj_var pj_var))) ((sj_ret (FJ.vj (fj_const rfl)))) (sj_nx))
  (sj_seq (sj_asg (vj_e0 (vj_meth xj_nil)) (gj_name (show ¬ (3 < 2) from by decide)))
  (sj_seq (sj_asg (FJ.vj (PJ.fj (pj_opA oa_ixL pj_var pj_var))) (gj_tup (gsj_cons (gj_name (show ¬ (4 < 2) from by decide)) (gsj_cons (gj_name (show ¬ (5 < 2) from by decide)) (gsj_cons (gj_name (show ¬ (6 < 2) from by decide)) gsj_nil)))))
  (sj_ret (vj_dget (vj_e0 (vj_call (xj_slot (xj_slot (xj_slot xj_nil))))) pj_var)))))))
def fn_side (c : Cs) : SM := (sSeq (sE (bE (xSlot 0 (xSlot 1 xNil)) (callG (G__check_road c))) fun _ => sNx)
  (sSeq (sAsg (nE (bE (xSlot 0 xNil) (callG (G_tree c)))) (gN 2))
  (sSeq (sE (fTest (liftO (f2 (fVar 1) (fVar 2) (gIn true)))) fun b => if b = true then (sE (liftO (fC .non)) fun t ρ => some (.rt t, ρ)) else sNx)
  (sSeq (sAsg (nE (fMeth c.Web "roads" 0 (G_Web_roads c) xNil)) (gN 3))
  (sSeq (sAsg (fLc (fIt (fTake 2)) [5] (gN 5) (fTest (liftO (f2 (fVar 5) (fVar 1) (gEq true)))) (fTake 5)) (gN 4))
  (sE (vCB (fCons (nE (bE (xSlot 3 (xSlot 4 (xVal (liftO (keepF (f2 (f2 (fVar 3) (fVar 1) gIxL) (fC (.int 0)) gIxT))) xNil))) (callG (G__paths c)))) fNil) gSortD) fun t ρ => some (.rt t, ρ)))))))
def G_side (c : Cs) : Fn := bodyG true 6 2 (fn_side c)
theorem ok_side (T : Txt K mg) (LH : Lh base B T) : FnOk P w K mg base (L2N.CX P w) 4 T.a_side T.d_side ["web", "number"] (spOf K B (G_side T.cs)) := by
  have G__check_road := ok__check_road (P := P) (w := w) (base := base) (B := B) T LH
  have G_tree := ok_tree (P := P) (w := w) (base := base) (B := B) T LH
  have G_Web_roads := ok_Web_roads (P := P) (w := w) (base := base) (B := B) T LH
  have G__paths := ok__paths (P := P) (w := w) (base := base) (B := B) T LH
  refine okN T.F_side sc_side (fun vs H Q E h => spOf_len h) (fun cdv A outer s H vs Q E hr h => ?_)
  refine ⟨_, (pss_cons (ps_expr (pe_call G__check_road (hr.mono (by decide)) rfl T.g__check_road T.F__check_road.kp T.b__check_road .nil (L2N.passes_call (L2N.takes_of rfl rfl rfl rfl) (fun _ _ _ _ h => h)) (pa_cons (pv 0) (pa_cons (pv 1) pa_nil))))
 (pss_cons (ps_set (i := 2) sc_side.nd rfl (Or.inl rfl) (pe_call G_tree (hr.mono (by decide)) rfl T.g_tree T.F_tree.kp T.b_tree .nil pass0 (pa_cons (pv 0) pa_nil)))
 (pss_cons (ps_if (pt_cmpR op_notIn_seq (pv 1) (pv 2) rfl) (pss_one (ps_ret pe_non)) pss_nil)
 (pss_cons (ps_set (i := 3) sc_side.nd rfl (Or.inl rfl) (pe_meth0 (pv 0) T.cl_Web T.m_Web_roads G_Web_roads (hr.mono (by decide)) T.b_Web_roads .nil pass0))
 (pss_cons (ps_setLc (i := 4) (own := [("at", 5)]) (g := gName 5) (by rfl) sc_side.nd rfl rfl (sw_true rfl rfl rfl (by decide +kernel)) (pi_list (pv 2)) (blkOk_by (own := [("at", 5)]) (N := ["web", "number", "chosen", "roads", "rest", "at"]) (sc := defScope s_side) (by decide +kernel)) (fun _ _ _ _ _ => by exact (pg_name (i := 5) sc_side.nd rfl (Or.inl rfl))) (fun _ _ _ _ _ => by exact (pts_one (pt_cmpR op_ne (pv 5) (pv 1) (nomark _)))) (fun _ _ _ _ _ => by exact (pv 5)))
 (pss_one (ps_ret (pe_callB (call_sortedDI rfl) (by rfl) T.nb_sorted (by decide +kernel) (pa_cons (pe_call G__paths (hr.mono (by decide)) rfl T.g__paths T.F__paths.kp T.b__paths .nil pass0 (pa_cons (pv 3) (pa_cons (pv 4) (pa_cons (pe_ix ix_tup (pe_ix ix_list (pv 3) (pv 1) (fun _ _ => rfl)) pe_int (fun _ _ => rfl)) pa_nil)))) pa_nil))))))))), ?_⟩
  refine run_def (N := ["web", "number", "chosen", "roads", "rest", "at"]) (np := 2) (f := fn_side T.cs) (raises := true) (E' := E) ?_ (fun z => by first | rfl | cases z) (by decide) (spOf_len h) h
  exact (sj_seq (sj_drop (vj_call (xj_slot (xj_slot xj_nil))))
  (sj_seq (sj_asg (vj_e0 (vj_call (xj_slot xj_nil))) (gj_name (show ¬ (2 < 2) from by decide)))
  (sj_seq (sj_if (tj_test (FJ.vj (fj_op os_in pj_var pj_var))) ((sj_ret (FJ.vj (fj_const rfl)))) (sj_nx))
  (sj_seq (sj_asg (vj_e0 (vj_meth xj_nil)) (gj_name (show ¬ (3 < 2) from by decide)))
  (sj_seq (sj_asg (vj_lc (E' := E0) (ij_list vj_take) (gj_name (show ¬ (5 ∉ [5]) from by decide)) (tj_test (FJ.vj (fj_op os_ne pj_var pj_var))) vj_take) (gj_name (show ¬ (4 < 2) from by decide)))
  (sj_ret (vj_cb cs_sortD (aj_cons (vj_e0 (vj_call (xj_slot (xj_slot (xj_val (FJ.vj (PJ.fj (pj_opA oa_ixT (pj_opA oa_ixL pj_var pj_var) (FJ.pj (fj_const rfl))))) xj_nil))))) aj_nil))))))))
def fn__law_dice (c : Cs) : SM := (sSeq (sAsg (liftO (fC (.int 0))) (gN 1))
  (sSeq (sE (fIt (fTake 0)) (fGo (gN 2) (sAsg (liftO (f2 (f2 (f2 (f2 (fVar 1) (fC (.int 48271)) gMul) (f2 (f2 (fVar 2) (fC (.int 2147483647)) gMod) (fC (.int 69621)) gMul) gAdd) (fC (.int 11)) gAdd) (fC (.int 2147483647)) gMod)) (gN 1))))
  (sE (fLst (fCons (fTake 0) (fCons (liftO (fC (.int 0))) (fCons (liftO (f2 (fVar 1) (fCB (qCons (f2 (fCB (qCons (fVar 0) pNil) gLen) (fC (.int 2)) gGt) pNil) gInt) gMul)) (fCons (liftO (fC (.int 0))) fNil))))) fun t ρ => some (.rt t, ρ))))
def G__law_dice (c : Cs) : Fn := bodyG false 3 1 (fn__law_dice c)
theorem ok__law_dice (T : Txt K mg) (LH : Lh base B T) : FnOk P w K mg base CX0 1 T.a__law_dice T.d__law_dice ["_law_script"] (spOf K B (G__law_dice T.cs)) := by
  refine T.F__law_dice.ok sc__law_dice (fun vs H Q E h => spOf_len h) (fun cdv A outer s H vs Q E hr h => ?_)
  refine ⟨_, (pss_cons (ps_set (i := 1) sc__law_dice.nd rfl (Or.inl rfl) pe_int)
 (pss_cons (ps_for PassesOwn.never rfl (pi_list (pv 0)) (pg_name (i := 2) sc__law_dice.nd rfl (Or.inl rfl))
  (pss_one (ps_set (i := 1) sc__law_dice.nd rfl (Or.inl rfl) (pe_op op_mod (pe_op op_add (pe_op op_add (pe_op op_mul (pv 1) pe_int) (pe_op op_mul (pe_op op_mod (pv 2) pe_int) pe_int)) pe_int) pe_int))))
 (pss_one (ps_ret (pe_lst (pa_cons (pv 0) (pa_cons pe_int (pa_cons (pe_op op_mul (pv 1) (pe_callTy call_int1 (by rfl) T.nb_int (by decide +kernel) (pa_cons (pe_cmpR op_gt (pe_callB call_len_seq (by rfl) T.nb_len (by decide +kernel) (pa_cons (pv 0) pa_nil)) pe_int (nomark _)) pa_nil))) (pa_cons pe_int pa_nil))))))))), ?_⟩
  refine run_def (N := ["_law_script", "_law_mixed", "_law_cell"]) (np := 1) (f := fn__law_dice T.cs) (raises := false) (E' := E0) ?_ (fun z => by first | rfl | cases z) (by decide) (spOf_len h) h
  exact (sj_seq (sj_asg (FJ.vj (fj_const rfl)) (gj_name (show ¬ (1 < 1) from by decide)))
  (sj_seq (sj_for (ij_list vj_take) (gj_name (show ¬ (2 < 1) from by decide)) ((sj_asg (FJ.vj (fj_op os_mod (FJ.pj (fj_op os_add (FJ.pj (fj_op os_add (FJ.pj (fj_op os_mul pj_var (FJ.pj (fj_const rfl)))) (FJ.pj (fj_op os_mul (FJ.pj (fj_op os_mod pj_var (FJ.pj (fj_const rfl)))) (FJ.pj (fj_const rfl)))))) (FJ.pj (fj_const rfl)))) (FJ.pj (fj_const rfl)))) (gj_name (show ¬ (1 < 1) from by decide)))))
  (sj_ret (vj_lst (aj_cons vj_take (aj_cons (FJ.vj (fj_const rfl)) (aj_cons (FJ.vj (fj_op os_mul pj_var (FJ.pj (fj_cb cs_int (paj_cons (FJ.pj (fj_op os_gt (FJ.pj (fj_cb cs_len (paj_cons pj_var paj_nil))) (FJ.pj (fj_const rfl)))) paj_nil))))) (aj_cons (FJ.vj (fj_const rfl)) aj_nil))))))))
def fn__law_next (c : Cs) : SM := (sSeq (sE (fTest (liftO (f2 (f2 (fVar 0) (fC (.int 3)) gIxL) (fC (.int 0)) gGt))) fun b => if b = true then (sSeq (sAsg (liftO (f2 (f2 (fVar 0) (fC (.int 3)) gIxL) (fVar 1) gMod)) (gN 2))
  (sSeq (sAsg (liftO (f2 (f2 (fVar 0) (fC (.int 3)) gIxL) (fVar 1) gDiv)) (gSt (plV 0) (fC (.int 3))))
  (sE (fTake 2) fun t ρ => some (.rt t, ρ)))) else sNx)
  (sSeq (sAsg (liftO (f2 (f2 (fVar 0) (fC (.int 1)) gIxL) (fC (.int 1)) gAdd)) (gSt (plV 0) (fC (.int 1))))
  (sSeq (sE (fTest (liftO (f2 (f2 (fVar 0) (fC (.int 1)) gIxL) (fCB (qCons (f2 (fVar 0) (fC (.int 0)) gIxL) pNil) gLen) gLe))) fun b => if b = true then (sSeq (sAsg (liftO (keepF (f2 (f2 (fVar 0) (fC (.int 0)) gIxL) (f2 (f2 (fVar 0) (fC (.int 1)) gIxL) (fC (.int 1)) gMinus) gIxL))) (gN 3))
  (sSeq (sAsg (fIf (fTest (liftO (f2 (fVar 3) (f2 (fC (.int 10)) (fC (.int 18)) gPow) gGe))) (liftO (f2 (fVar 3) (fVar 1) gDiv)) (liftO (fC (.int 0)))) (gSt (plV 0) (fC (.int 3))))
  (sE (liftO (f2 (fVar 3) (fVar 1) gMod)) fun t ρ => some (.rt t, ρ)))) else sNx)
  (sSeq (sAsg (liftO (f2 (f2 (f2 (fVar 0) (fC (.int 2)) gIxL) (fC (.int 48271)) gMul) (fC (.int 2147483647)) gMod)) (gSt (plV 0) (fC (.int 2))))
  (sE (liftO (f2 (f2 (f2 (fVar 0) (fC (.int 2)) gIxL) (fC (.int 7)) gDiv) (fVar 1) gMod)) fun t ρ => some (.rt t, ρ))))))
def G__law_next (c : Cs) : Fn := bodyG false 4 2 (fn__law_next c)
theorem ok__law_next (T : Txt K mg) (LH : Lh base B T) : FnOk P w K mg base CX0 1 T.a__law_next T.d__law_next ["_law_dice_here", "_law_many"] (spOf K B (G__law_next T.cs)) := by
  refine T.F__law_next.ok sc__law_next (fun vs H Q E h => spOf_len h) (fun cdv A outer s H vs Q E hr h => ?_)
  refine ⟨_, (pss_cons (ps_if (pt_cmpR op_gt (pe_ix ix_list (pv 0) pe_int (fun _ _ => rfl)) pe_int (nomark _)) (pss_cons (ps_set (i := 2) sc__law_next.nd rfl (Or.inl rfl) (pe_op op_mod (pe_ix ix_list (pv 0) pe_int (fun _ _ => rfl)) (pv 1)))
 (pss_cons (ps_asg (pe_op op_fdiv (pe_ix ix_list (pv 0) pe_int (fun _ _ => rfl)) (pv 1)) (pg_sub (pv 0) pe_int set_list))
 (pss_one (ps_ret (pv 2))))) pss_nil)
 (pss_cons (ps_asg (pe_op op_add (pe_ix ix_list (pv 0) pe_int (fun _ _ => rfl)) pe_int) (pg_sub (pv 0) pe_int set_list))
 (pss_cons (ps_if (pt_cmpR op_le (pe_ix ix_list (pv 0) pe_int (fun _ _ => rfl)) (pe_callB call_len_seq (by rfl) T.nb_len (by decide +kernel) (pa_cons (pe_ix ix_list (pv 0) pe_int (fun _ _ => rfl)) pa_nil)) (nomark _)) (pss_cons (ps_set (i := 3) sc__law_next.nd rfl (Or.inl rfl) (pe_ix ix_list (pe_ix ix_list (pv 0) pe_int (fun _ _ => rfl)) (pe_op op_sub (pe_ix ix_list (pv 0) pe_int (fun _ _ => rfl)) pe_int) (fun _ _ => rfl)))
 (pss_cons (ps_asg (pe_ifExp (pt_cmpR op_ge (pv 3) (pe_op op_pow pe_int pe_int) (nomark _)) (pe_op op_fdiv (pv 3) (pv 1)) pe_int) (pg_sub (pv 0) pe_int set_list))
 (pss_one (ps_ret (pe_op op_mod (pv 3) (pv 1)))))) pss_nil)
 (pss_cons (ps_asg (pe_op op_mod (pe_op op_mul (pe_ix ix_list (pv 0) pe_int (fun _ _ => rfl)) pe_int) pe_int) (pg_sub (pv 0) pe_int set_list))
 (pss_one (ps_ret (pe_op op_mod (pe_op op_fdiv (pe_ix ix_list (pv 0) pe_int (fun _ _ => rfl)) pe_int) (pv 1)))))))), ?_⟩
  refine run_def (N := ["_law_dice_here", "_law_many", "_law_found", "_law_cell"]) (np := 2) (f := fn__law_next T.cs) (raises := false) (E' := E0) ?_ (fun z => by first | rfl | cases z) (by decide) (spOf_len h) h
  exact (sj_seq (sj_if (tj_test (FJ.vj (fj_op os_gt (pj_opA oa_ixL pj_var (FJ.pj (fj_const rfl))) (FJ.pj (fj_const rfl))))) ((sj_seq (sj_asg (FJ.vj (fj_op os_mod (pj_opA oa_ixL pj_var (FJ.pj (fj_const rfl))) pj_var)) (gj_name (show ¬ (2 < 2) from by decide)))
  (sj_seq (sj_asg (FJ.vj (fj_op os_div (pj_opA oa_ixL pj_var (FJ.pj (fj_const rfl))) pj_var)) (gj_sub pl_var (FJ.pj (fj_const rfl))))
  (sj_ret vj_take)))) (sj_nx))
  (sj_seq (sj_asg (FJ.vj (fj_op os_add (pj_opA oa_ixL pj_var (FJ.pj (fj_const rfl))) (FJ.pj (fj_const rfl)))) (gj_sub pl_var (FJ.pj (fj_const rfl))))
  (sj_seq (sj_if (tj_test (FJ.vj (fj_op os_le (pj_opA oa_ixL pj_var (FJ.pj (fj_const rfl))) (FJ.pj (fj_cb cs_len (paj_cons (pj_opA oa_ixL pj_var (FJ.pj (fj_const rfl))) paj_nil)))))) ((sj_seq (sj_asg (FJ.vj (PJ.fj (pj_opA oa_ixL (pj_opA oa_ixL pj_var (FJ.pj (fj_const rfl))) (FJ.pj (fj_op os_sub (pj_opA oa_ixL pj_var (FJ.pj (fj_const rfl))) (FJ.pj (fj_const rfl))))))) (gj_name (show ¬ (3 < 2) from by decide)))
  (sj_seq (sj_asg (vj_if (tj_test (FJ.vj (fj_op os_ge pj_var (FJ.pj (fj_op os_pow (FJ.pj (fj_const rfl)) (FJ.pj (fj_const rfl))))))) (FJ.vj (fj_op os_div pj_var pj_var)) (FJ.vj (fj_const rfl))) (gj_sub pl_var (FJ.pj (fj_const rfl))))
  (sj_ret (FJ.vj (fj_op os_mod pj_var pj_var)))))) (sj_nx))
  (sj_seq (sj_asg (FJ.vj (fj_op os_mod (FJ.pj (fj_op os_mul (pj_opA oa_ixL pj_var (FJ.pj (fj_const rfl))) (FJ.pj (fj_const rfl)))) (FJ.pj (fj_const rfl)))) (gj_sub pl_var (FJ.pj (fj_const rfl))))
  (sj_ret (FJ.vj (fj_op os_mod (FJ.pj (fj_op os_div (pj_opA oa_ixL pj_var (FJ.pj (fj_const rfl))) (FJ.pj (fj_const rfl)))) pj_var)))))))
def fn__law_web (c : Cs) : SM := (sSeq (sAsg (f2V (liftO (fC (.int 1))) (bE (xSlot 0 (xSlot 1 xNil)) (callG (G__law_next c))) gAdd) (gN 2))
  (sSeq (sAsg (liftO (fLR (fVar 2))) (gN 3))
  (sSeq (sAsg (fLc (fRg1 (fTake 2)) [5] (gN 5) (rE (some true)) (fBm "list" mPopAt 3 (fCons (bE (xSlot 0 (xVal (liftO (fCB (qCons (fVar 3) pNil) gLen)) xNil)) (callG (G__law_next c))) fNil))) (gN 4))
  (sSeq (sAsg (liftO (pLst pNil)) (gN 6))
  (sSeq (sE (fRg2 (liftO (pCons (fC (.int 1)) (pCons (keepF (fVar 2)) pNil)))) (fGo (gN 5) (sE (fBm "list" mInsert 6 (fCons (bE (xSlot 0 (xVal (liftO (f2 (fCB (qCons (fVar 6) pNil) gLen) (fC (.int 1)) gAdd)) xNil)) (callG (G__law_next c))) (fCons (vCB (fCons (vCB (fCons (fLst (fCons (fSV 4 (bE (xSlot 0 (xSlot 5 xNil)) (callG (G__law_next c))) (frzG gIxL)) (fCons (liftO (keepF (f2 (fVar 4) (fVar 5) gIxL))) fNil))) fNil) gSort) fNil) gTuple) fNil))) fun _ => sNx)))
  (sSeq (sE (fRg1 (bE (xSlot 0 (xVal (liftO (fCB (qCons (fC (.int 13)) (qCons (f2 (fC (.int 2)) (fVar 2) gMul) pNil)) gMin2)) xNil)) (callG (G__law_next c)))) (fGo (gN 5) (sSeq (sAsg (vCB (fCons (vCB (fCons (fLst (fCons (bE (xSlot 0 (xSlot 2 xNil)) (callG (G__law_next c))) (fCons (bE (xSlot 0 (xSlot 2 xNil)) (callG (G__law_next c))) fNil))) fNil) gSort) fNil) gTuple) (gN 7))
  (sE (fIf (fTest (liftO (f2 (f2 (fVar 7) (fC (.int 0)) gIxT) (f2 (fVar 7) (fC (.int 1)) gIxT) gLt))) (fTest (liftO (f2 (fVar 7) (fVar 6) (gInD true)))) (rE (some false))) fun b => if b = true then (sE (fBm "list" mInsert 6 (fCons (bE (xSlot 0 (xVal (liftO (f2 (fCB (qCons (fVar 6) pNil) gLen) (fC (.int 1)) gAdd)) xNil)) (callG (G__law_next c))) (fCons (fTake 7) fNil))) fun _ => sNx) else sNx))))
  (sSeq (sE (fRg1 (fSV 2 (vCB (fCons (fVP (bE (xSlot 0 (xVal (liftO (fC (.int 8))) xNil)) (callG (G__law_next c))) (fC (.int 7)) (gEq false)) fNil) gInt) gMul)) (fGo (gN 5) (sE (fRg1 (fTake 5)) (fGo (gN 8) (sE (fIf (fTest (liftO (f2 (pTup (pCons (keepF (fVar 8)) (pCons (keepF (fVar 5)) pNil))) (fVar 6) (gInD true)))) (fTest (liftO (f2 (fCB (qCons (fVar 6) pNil) gLen) (fC (.int 20)) gLt))) (rE (some false))) fun b => if b = true then (sE (fBm "list" mInsert 6 (fCons (bE (xSlot 0 (xVal (liftO (f2 (fCB (qCons (fVar 6) pNil) gLen) (fC (.int 1)) gAdd)) xNil)) (callG (G__law_next c))) (fCons (liftO (pTup (pCons (keepF (fVar 8)) (pCons (keepF (fVar 5)) pNil)))) fNil))) fun _ => sNx) else sNx)))))
  (sSeq (sAsg (liftO (fLR2 (fC (.int 1)) (fC (.int 100)))) (gN 9))
  (sE (fTup (fCons (fTake 2) (fCons (fLc (fIt (fTake 6)) [7] (gN 7) (rE (some true)) (fSV 7 (fTup (fCons (fBm "list" mPopAt 9 (fCons (bE (xSlot 0 (xVal (liftO (fCB (qCons (fVar 9) pNil) gLen)) xNil)) (callG (G__law_next c))) fNil)) fNil)) gCatT)) fNil))) fun t ρ => some (.rt t, ρ))))))))))
def G__law_web (c : Cs) : Fn := bodyG false 10 2 (fn__law_web c)
theorem ok__law_web (T : Txt K mg) (LH : Lh base B T) : FnOk P w K mg base CX0 2 T.a__law_web T.d__law_web ["_law_d", "_law_most"] (spOf K B (G__law_web T.cs)) := by
  have G__law_next := ok__law_next (P := P) (w := w) (base := base) (B := B) T LH
  refine T.F__law_web.ok sc__law_web (fun vs H Q E h => spOf_len h) (fun cdv A outer s H vs Q E hr h => ?_)
  refine ⟨_, (pss_cons (ps_set (i := 2) sc__law_web.nd rfl (Or.inl rfl) (pe_op op_add pe_int (pe_call G__law_next (hr.mono (by decide)) rfl T.g__law_next T.F__law_next.kp T.b__law_next .nil pass0 (pa_cons (pv 0) (pa_cons (pv 1) pa_nil)))))
 (pss_cons (ps_set (i := 3) sc__law_web.nd rfl (Or.inr rfl) (pe_listRg rfl (by rfl) T.nb_list (prg_1 (by rfl) T.nb_range (pv 2))))
 (pss_cons (ps_setLc (i := 4) (own := [("_law_k", 5)]) (g := gName 5) (tt := tYes) (by rfl) sc__law_web.nd rfl rfl (sw_true rfl rfl rfl (by decide +kernel)) (pi_range1 (by rfl) T.nb_range (pa_cons (pv 2) pa_nil)) (blkOk_by (own := [("_law_k", 5)]) (N := ["_law_d", "_law_most", "_law_hands", "_law_left", "_law_order", "_law_k", "_law_pairs", "_law_pair", "_law_j", "_law_costs"]) (sc := defScope s__law_web) (by decide +kernel)) (fun _ _ _ _ _ => by exact (pg_name (i := 5) sc__law_web.nd rfl (Or.inl rfl))) (fun _ _ _ _ _ => by exact pts_nil) (fun _ _ _ _ _ => by exact (by exact (pe_bmK K rfl PySem.F.plainAttrs_list PySem.F.slot_list_pop PySem.F.type_list_pop mt_popAt (pv 3) (pa_cons (by exact (pe_call G__law_next (hr.mono (by decide)) rfl T.g__law_next T.F__law_next.kp T.b__law_next .nil pass0 (pa_cons (pv 0) (pa_cons (by exact (pe_callB (call_len_seqK K rfl) (by rfl) T.nb_len (by decide +kernel) (pa_cons (pv 3) pa_nil))) pa_nil)))) pa_nil)))))
 (pss_cons (ps_set (i := 6) sc__law_web.nd rfl (Or.inl rfl) (pe_lst pa_nil))
 (pss_cons (ps_for PassesOwn.never rfl (pi_range2 (by rfl) T.nb_range (pa_cons pe_int (pa_cons (pv 2) pa_nil))) (pg_name (i := 5) sc__law_web.nd rfl (Or.inl rfl))
  (pss_one (ps_expr (pe_bm PySem.F.plainAttrs_list PySem.F.slot_list_insert PySem.F.type_list_insert mt_insert (pv 6) (pa_cons (pe_call G__law_next (hr.mono (by decide)) rfl T.g__law_next T.F__law_next.kp T.b__law_next .nil pass0 (pa_cons (pv 0) (pa_cons (pe_op op_add (pe_callB call_len_seq (by rfl) T.nb_len (by decide +kernel) (pa_cons (pv 6) pa_nil)) pe_int) pa_nil))) (pa_cons (pe_callTy call_tuple_of (by rfl) T.nb_tuple (by decide +kernel) (pa_cons (pe_callB cr_sorted (by rfl) T.nb_sorted (by decide +kernel) (pa_cons (pe_lst (pa_cons (pe_ix ix_list (pv 4) (pe_call G__law_next (hr.mono (by decide)) rfl T.g__law_next T.F__law_next.kp T.b__law_next .nil pass0 (pa_cons (pv 0) (pa_cons (pv 5) pa_nil))) (fun _ _ => rfl)) (pa_cons (pe_ix ix_list (pv 4) (pv 5) (fun _ _ => rfl)) pa_nil))) pa_nil)) pa_nil)) pa_nil))))))
 (pss_cons (ps_for PassesOwn.never rfl (pi_range1 (by rfl) T.nb_range (pa_cons (pe_call G__law_next (hr.mono (by decide)) rfl T.g__law_next T.F__law_next.kp T.b__law_next .nil pass0 (pa_cons (pv 0) (pa_cons (pe_callB (call_min2 rfl) (by rfl) T.nb_min (by decide +kernel) (pa_cons pe_int (pa_cons (pe_op op_mul pe_int (pv 2)) pa_nil))) pa_nil))) pa_nil)) (pg_name (i := 5) sc__law_web.nd rfl (Or.inl rfl))
  (pss_cons (ps_set (i := 7) sc__law_web.nd rfl (Or.inl rfl) (pe_callTy call_tuple_of (by rfl) T.nb_tuple (by decide +kernel) (pa_cons (pe_callB cr_sorted (by rfl) T.nb_sorted (by decide +kernel) (pa_cons (pe_lst (pa_cons (pe_call G__law_next (hr.mono (by decide)) rfl T.g__law_next T.F__law_next.kp T.b__law_next .nil pass0 (pa_cons (pv 0) (pa_cons (pv 2) pa_nil))) (pa_cons (pe_call G__law_next (hr.mono (by decide)) rfl T.g__law_next T.F__law_next.kp T.b__law_next .nil pass0 (pa_cons (pv 0) (pa_cons (pv 2) pa_nil))) pa_nil))) pa_nil)) pa_nil)))
 (pss_one (ps_if (PW.pt (pw_and (pt_cmpR op_lt (pe_ix ix_tup (pv 7) pe_int (fun _ _ => rfl)) (pe_ix ix_tup (pv 7) pe_int (fun _ _ => rfl)) (nomark _)) (pw_and1 (pt_cmpR (op_notInD hr.units65) (pv 7) (pv 6) rfl)))) (pss_one (ps_expr (pe_bm PySem.F.plainAttrs_list PySem.F.slot_list_insert PySem.F.type_list_insert mt_insert (pv 6) (pa_cons (pe_call G__law_next (hr.mono (by decide)) rfl T.g__law_next T.F__law_next.kp T.b__law_next .nil pass0 (pa_cons (pv 0) (pa_cons (pe_op op_add (pe_callB call_len_seq (by rfl) T.nb_len (by decide +kernel) (pa_cons (pv 6) pa_nil)) pe_int) pa_nil))) (pa_cons (pv 7) pa_nil))))) pss_nil))))
 (pss_cons (ps_for PassesOwn.never rfl (pi_range1 (by rfl) T.nb_range (pa_cons (pe_op op_mul (pv 2) (pe_callTy call_int1 (by rfl) T.nb_int (by decide +kernel) (pa_cons (pe_cmpR op_eq (pe_call G__law_next (hr.mono (by decide)) rfl T.g__law_next T.F__law_next.kp T.b__law_next .nil pass0 (pa_cons (pv 0) (pa_cons pe_int pa_nil))) pe_int (nomark _)) pa_nil))) pa_nil)) (pg_name (i := 5) sc__law_web.nd rfl (Or.inl rfl))
  (pss_one (ps_for PassesOwn.never rfl (pi_range1 (by rfl) T.nb_range (pa_cons (pv 5) pa_nil)) (pg_name (i := 8) sc__law_web.nd rfl (Or.inl rfl))
  (pss_one (ps_if (PW.pt (pw_and (pt_cmpR (op_notInD hr.units65) (pe_tup (pa_cons (pv 8) (pa_cons (pv 5) pa_nil))) (pv 6) rfl) (pw_and1 (pt_cmpR op_lt (pe_callB call_len_seq (by rfl) T.nb_len (by decide +kernel) (pa_cons (pv 6) pa_nil)) pe_int (nomark _))))) (pss_one (ps_expr (pe_bm PySem.F.plainAttrs_list PySem.F.slot_list_insert PySem.F.type_list_insert mt_insert (pv 6) (pa_cons (pe_call G__law_next (hr.mono (by decide)) rfl T.g__law_next T.F__law_next.kp T.b__law_next .nil pass0 (pa_cons (pv 0) (pa_cons (pe_op op_add (pe_callB call_len_seq (by rfl) T.nb_len (by decide +kernel) (pa_cons (pv 6) pa_nil)) pe_int) pa_nil))) (pa_cons (pe_tup (pa_cons (pv 8) (pa_cons (pv 5) pa_nil))) pa_nil))))) pss_nil)))))
 (pss_cons (ps_set (i := 9) sc__law_web.nd rfl (Or.inr rfl) (pe_listRg rfl (by rfl) T.nb_list (prg_2 (by rfl) T.nb_range pe_int pe_int)))
 (pss_one (ps_ret (pe_tup (pa_cons (pv 2) (pa_cons (pe_lc (own := [("_law_pair", 7)]) (g := gName 7) (tt := tYes) (by rfl) sc__law_web.nd (pi_list (pv 6)) (blkOk_by (own := [("_law_pair", 7)]) (N := ["_law_d", "_law_most", "_law_hands", "_law_left", "_law_order", "_law_k", "_law_pairs", "_law_pair", "_law_j", "_law_costs"]) (sc := defScope s__law_web) (by decide +kernel)) (fun _ _ _ _ _ => by exact (pg_name (i := 7) sc__law_web.nd rfl (Or.inl rfl))) (fun _ _ _ _ _ => by exact pts_nil) (fun _ _ _ _ _ => by exact (pe_op (op_catTK K rfl) (pv 7) (pe_tup (pa_cons (by exact (pe_bmK K rfl PySem.F.plainAttrs_list PySem.F.slot_list_pop PySem.F.type_list_pop mt_popAt (pv 9) (pa_cons (by exact (pe_call G__law_next (hr.mono (by decide)) rfl T.g__law_next T.F__law_next.kp T.b__law_next .nil pass0 (pa_cons (pv 0) (pa_cons (by exact (pe_callB (call_len_seqK K rfl) (by rfl) T.nb_len (by decide +kernel) (pa_cons (pv 9) pa_nil))) pa_nil)))) pa_nil))) pa_nil))))) pa_nil))))))))))))), ?_⟩
  refine run_def (N := ["_law_d", "_law_most", "_law_hands", "_law_left", "_law_order", "_law_k", "_law_pairs", "_law_pair", "_law_j", "_law_costs"]) (np := 2) (f := fn__law_web T.cs) (raises := false) (E' := E0) ?_ (fun z => by first | rfl | cases z) (by decide) (spOf_len h) h
  exact (sj_seq (sj_asg (vj_op os_add (FJ.vj (fj_const rfl)) (vj_call (xj_slot (xj_slot xj_nil)))) (gj_name (show ¬ (2 < 2) from by decide)))
  (sj_seq (sj_asg (FJ.vj (fj_listRg pj_var)) (gj_name (show ¬ (3 < 2) from by decide)))
  (sj_seq (sj_asg (vj_lc (E' := E0) (ij_rng1 vj_take) (gj_name (show ¬ (5 ∉ [5]) from by decide)) tj_yes (vj_bm m_popAt (aj_cons (vj_call (xj_slot (xj_val (FJ.vj (fj_cb cs_len (paj_cons pj_var paj_nil))) xj_nil))) aj_nil))) (gj_name (show ¬ (4 < 2) from by decide)))
  (sj_seq (sj_asg (FJ.vj (fj_lst faj_nil)) (gj_name (show ¬ (6 < 2) from by decide)))
  (sj_seq (sj_for (ij_rng2 (FAJ.aj (faj_cons (fj_const rfl) (faj_cons (PJ.fj pj_var) faj_nil)))) (gj_name (show ¬ (5 < 2) from by decide)) ((sj_drop (vj_bm m_insert (aj_cons (vj_call (xj_slot (xj_val (FJ.vj (fj_op os_add (FJ.pj (fj_cb cs_len (paj_cons pj_var paj_nil))) (FJ.pj (fj_const rfl)))) xj_nil))) (aj_cons (vj_cb cs_tuple (aj_cons (vj_cb cs_sorted (aj_cons (vj_lst (aj_cons (vj_opAS oa_ixL (vj_call (xj_slot (xj_slot xj_nil)))) (aj_cons (FJ.vj (PJ.fj (pj_opA oa_ixL pj_var pj_var))) aj_nil))) aj_nil)) aj_nil)) aj_nil))))))
  (sj_seq (sj_for (ij_rng1 (vj_call (xj_slot (xj_val (FJ.vj (fj_cb cs_min2 (paj_cons (FJ.pj (fj_const rfl)) (paj_cons (FJ.pj (fj_op os_mul (FJ.pj (fj_const rfl)) pj_var)) paj_nil)))) xj_nil)))) (gj_name (show ¬ (5 < 2) from by decide)) ((sj_seq (sj_asg (vj_cb cs_tuple (aj_cons (vj_cb cs_sorted (aj_cons (vj_lst (aj_cons (vj_call (xj_slot (xj_slot xj_nil))) (aj_cons (vj_call (xj_slot (xj_slot xj_nil))) aj_nil))) aj_nil)) aj_nil)) (gj_name (show ¬ (7 < 2) from by decide)))
  (sj_if (tj_and (tj_test (FJ.vj (fj_op os_lt (pj_opA oa_ixT pj_var (FJ.pj (fj_const rfl))) (pj_opA oa_ixT pj_var (FJ.pj (fj_const rfl)))))) (tj_test (FJ.vj (fj_op os_notInD pj_var pj_var)))) ((sj_drop (vj_bm m_insert (aj_cons (vj_call (xj_slot (xj_val (FJ.vj (fj_op os_add (FJ.pj (fj_cb cs_len (paj_cons pj_var paj_nil))) (FJ.pj (fj_const rfl)))) xj_nil))) (aj_cons vj_take aj_nil))))) (sj_nx)))))
  (sj_seq (sj_for (ij_rng1 (vj_opS os_mul (vj_cb cs_int (aj_cons (vj_opP os_eq (vj_call (xj_slot (xj_val (FJ.vj (fj_const rfl)) xj_nil))) (FJ.pj (fj_const rfl))) aj_nil)))) (gj_name (show ¬ (5 < 2) from by decide)) ((sj_for (ij_rng1 vj_take) (gj_name (show ¬ (8 < 2) from by decide)) ((sj_if (tj_and (tj_test (FJ.vj (fj_op os_notInD (FJ.pj (fj_tup (faj_cons (PJ.fj pj_var) (faj_cons (PJ.fj pj_var) faj_nil)))) pj_var))) (tj_test (FJ.vj (fj_op os_lt (FJ.pj (fj_cb cs_len (paj_cons pj_var paj_nil))) (FJ.pj (fj_const rfl)))))) ((sj_drop (vj_bm m_insert (aj_cons (vj_call (xj_slot (xj_val (FJ.vj (fj_op os_add (FJ.pj (fj_cb cs_len (paj_cons pj_var paj_nil))) (FJ.pj (fj_const rfl)))) xj_nil))) (aj_cons (FJ.vj (fj_tup (faj_cons (PJ.fj pj_var) (faj_cons (PJ.fj pj_var) faj_nil)))) aj_nil))))) (sj_nx))))))
  (sj_seq (sj_asg (FJ.vj (fj_listRg2 (FJ.pj (fj_const rfl)) (FJ.pj (fj_const rfl)))) (gj_name (show ¬ (9 < 2) from by decide)))
  (sj_ret (vj_tup (aj_cons vj_take (aj_cons (vj_lc (E' := E0) (ij_list vj_take) (gj_name (show ¬ (7 ∉ [7]) from by decide)) tj_yes (vj_opS os_catT (vj_tup (aj_cons (vj_bm m_popAt (aj_cons (vj_call (xj_slot (xj_val (FJ.vj (fj_cb cs_len (paj_cons pj_var paj_nil))) xj_nil))) aj_nil)) aj_nil)))) aj_nil))))))))))))
def fn__law_tree (c : Cs) : SM := (sSeq (sAsg (liftO fDnew) (gN 1))
  (sSeq (sAsg (liftO (pLst pNil)) (gN 2))
  (sSeq (sE (fIt (vCB (fCons (fLc (fRg1 (liftO (fCB (qCons (fVar 0) pNil) gLen))) [4] (gN 4) (rE (some true)) (liftO (pTup (pCons (keepF (f2 (f2 (fVar 0) (fVar 4) gIxL) (fC (.int 2)) gIxT)) (pCons (keepF (fVar 4)) pNil))))) fNil) gSortP)) (fGo (gTp 2 (gCons' (gN 3) (gCons' (gN 4) gNil'))) (sSeq (sAsg (liftO (keepF (fDGet2 (fVar 1) (f2 (f2 (fVar 0) (fVar 4) gIxL) (fC (.int 0)) gIxT) (frzF (pLst (pCons (keepF (f2 (f2 (fVar 0) (fVar 4) gIxL) (fC (.int 0)) gIxT)) pNil)))))) (gN 5))
  (sSeq (sAsg (liftO (keepF (fDGet2 (fVar 1) (f2 (f2 (fVar 0) (fVar 4) gIxL) (fC (.int 1)) gIxT) (frzF (pLst (pCons (keepF (f2 (f2 (fVar 0) (fVar 4) gIxL) (fC (.int 1)) gIxT)) pNil)))))) (gN 6))
  (sE (fTest (liftO (f2 (f2 (f2 (fVar 0) (fVar 4) gIxL) (fC (.int 1)) gIxT) (fVar 5) (gIn true)))) fun b => if b = true then (sSeq (sE (fBm "list" mAppend 2 (liftO (pCons (keepF (fVar 4)) pNil))) fun _ => sNx)
  (sE (fIt (liftO (f2 (fVar 5) (fVar 6) gCat))) (fGo (gN 7) (sDPutT (fFrz (liftO (f2 (fVar 5) (fVar 6) gCat))) (plV 1) (fVar 7))))) else sNx)))))
  (sE (liftO (fCB (qCons (fVar 2) pNil) gSort)) fun t ρ => some (.rt t, ρ)))))
def G__law_tree (c : Cs) : Fn := bodyG false 8 1 (fn__law_tree c)
theorem ok__law_tree (T : Txt K mg) (LH : Lh base B T) : FnOk P w K mg base CX0 1 T.a__law_tree T.d__law_tree ["_law_roads"] (spOf K B (G__law_tree T.cs)) := by
  refine T.F__law_tree.ok sc__law_tree (fun vs H Q E h => spOf_len h) (fun cdv A outer s H vs Q E hr h => ?_)
  refine ⟨_, (pss_cons (ps_set (i := 1) sc__law_tree.nd rfl (Or.inl rfl) pe_dnewK)
 (pss_cons (ps_set (i := 2) sc__law_tree.nd rfl (Or.inl rfl) (pe_lst pa_nil))
 (pss_cons (ps_for PassesOwn.never rfl (pi_list (pe_callB cr_sortedPO (by rfl) T.nb_sorted (by decide +kernel) (pa_cons (pe_lc (own := [("_law_number", 4)]) (g := gName 4) (tt := tYes) (by rfl) sc__law_tree.nd (pi_range1 (by rfl) T.nb_range (pa_cons (pe_callB call_len_seq (by rfl) T.nb_len (by decide +kernel) (pa_cons (pv 0) pa_nil)) pa_nil)) (blkOk_by (own := [("_law_number", 4)]) (N := ["_law_roads", "_law_pieces", "_law_found", "_law_cost", "_law_number", "_law_one", "_law_other", "_law_hand"]) (sc := defScope s__law_tree) (by decide +kernel)) (fun _ _ _ _ _ => by exact (pg_name (i := 4) sc__law_tree.nd rfl (Or.inl rfl))) (fun _ _ _ _ _ => by exact pts_nil) (fun _ _ _ _ _ => by exact (pe_tup (pa_cons (pe_ix (ix_tupK K rfl) (pe_ix (ix_listK K rfl) (pv 0) (pv 4) (fun _ _ => rfl)) pe_int (fun _ _ => rfl)) (pa_cons (pv 4) pa_nil))))) pa_nil))) (pg_tup rfl (pgs_cons (pg_name (i := 3) sc__law_tree.nd rfl (Or.inl rfl)) (pgs_cons (pg_name (i := 4) sc__law_tree.nd rfl (Or.inl rfl)) pgs_nil)))
  (pss_cons (ps_set (i := 5) sc__law_tree.nd rfl (Or.inl rfl) (pe_dget2 (hu_of hr) (pv 1) (pe_ix ix_tup (pe_ix ix_list (pv 0) (pv 4) (fun _ _ => rfl)) pe_int (fun _ _ => rfl)) (pe_lst (pa_cons (pe_ix ix_tup (pe_ix ix_list (pv 0) (pv 4) (fun _ _ => rfl)) pe_int (fun _ _ => rfl)) pa_nil)) ⟨rfl, rfl, rfl, rfl⟩))
 (pss_cons (ps_set (i := 6) sc__law_tree.nd rfl (Or.inl rfl) (pe_dget2 (hu_of hr) (pv 1) (pe_ix ix_tup (pe_ix ix_list (pv 0) (pv 4) (fun _ _ => rfl)) pe_int (fun _ _ => rfl)) (pe_lst (pa_cons (pe_ix ix_tup (pe_ix ix_list (pv 0) (pv 4) (fun _ _ => rfl)) pe_int (fun _ _ => rfl)) pa_nil)) ⟨rfl, rfl, rfl, rfl⟩))
 (pss_one (ps_if (pt_cmpR op_notIn_seq (pe_ix ix_tup (pe_ix ix_list (pv 0) (pv 4) (fun _ _ => rfl)) pe_int (fun _ _ => rfl)) (pv 5) rfl) (pss_cons (ps_expr (pe_bm PySem.F.plainAttrs_list PySem.F.slot_list_append PySem.F.type_list_append mt_append (pv 2) (pa_cons (pv 4) pa_nil)))
 (pss_one (ps_for PassesOwn.never rfl (pi_list (pe_op op_cat (pv 5) (pv 6))) (pg_name (i := 7) sc__law_tree.nd rfl (Or.inl rfl))
  (pss_one (ps_dput (hu_of hr) (pv 1) (pv 7) (pe_op op_cat (pv 5) (pv 6)) rfl))))) pss_nil)))))
 (pss_one (ps_ret (pe_callB cr_sorted (by rfl) T.nb_sorted (by decide +kernel) (pa_cons (pv 2) pa_nil))))))), ?_⟩
  refine run_def (N := ["_law_roads", "_law_pieces", "_law_found", "_law_cost", "_law_number", "_law_one", "_law_other", "_law_hand"]) (np := 1) (f := fn__law_tree T.cs) (raises := false) (E' := E0) ?_ (fun z => by first | rfl | cases z) (by decide) (spOf_len h) h
  exact (sj_seq (sj_asg (FJ.vj fj_dnew) (gj_name (show ¬ (1 < 1) from by decide)))
  (sj_seq (sj_asg (FJ.vj (fj_lst faj_nil)) (gj_name (show ¬ (2 < 1) from by decide)))
  (sj_seq (sj_for (ij_list (vj_cb cs_sortP (aj_cons (vj_lc (E' := E0) (ij_rng1 (FJ.vj (fj_cb cs_len (paj_cons pj_var paj_nil)))) (gj_name (show ¬ (4 ∉ [4]) from by decide)) tj_yes (FJ.vj (fj_tup (faj_cons (PJ.fj (pj_opA oa_ixT (pj_opA oa_ixL pj_var pj_var) (FJ.pj (fj_const rfl)))) (faj_cons (PJ.fj pj_var) faj_nil))))) aj_nil))) (gj_tup (gsj_cons (gj_name (show ¬ (3 < 1) from by decide)) (gsj_cons (gj_name (show ¬ (4 < 1) from by decide)) gsj_nil))) ((sj_seq (sj_asg (FJ.vj (PJ.fj (pj_dget2 pj_var (pj_opA oa_ixT (pj_opA oa_ixL pj_var pj_var) (FJ.pj (fj_const rfl))) (fj_frz (fj_lst (faj_cons (PJ.fj (pj_opA oa_ixT (pj_opA oa_ixL pj_var pj_var) (FJ.pj (fj_const rfl)))) faj_nil)))))) (gj_name (show ¬ (5 < 1) from by decide)))
  (sj_seq (sj_asg (FJ.vj (PJ.fj (pj_dget2 pj_var (pj_opA oa_ixT (pj_opA oa_ixL pj_var pj_var) (FJ.pj (fj_const rfl))) (fj_frz (fj_lst (faj_cons (PJ.fj (pj_opA oa_ixT (pj_opA oa_ixL pj_var pj_var) (FJ.pj (fj_const rfl)))) faj_nil)))))) (gj_name (show ¬ (6 < 1) from by decide)))
  (sj_if (tj_test (FJ.vj (fj_op os_in (pj_opA oa_ixT (pj_opA oa_ixL pj_var pj_var) (FJ.pj (fj_const rfl))) pj_var))) ((sj_seq (sj_drop (vj_bm m_append (FAJ.aj (faj_cons (PJ.fj pj_var) faj_nil))))
  (sj_for (ij_list (FJ.vj (fj_op os_cat pj_var pj_var))) (gj_name (show ¬ (7 < 1) from by decide)) ((sj_dput (vj_frz (FJ.vj (fj_op os_cat pj_var pj_var))) pl_var pj_var))))) (sj_nx))))))
  (sj_ret (FJ.vj (fj_cb cs_sorted (paj_cons pj_var paj_nil)))))))
def fn__law_reach (c : Cs) : SM := (sSeq (sAsg (liftO (pLst (pCons (keepF (fVar 2)) pNil))) (gN 3))
  (sSeq (sE (fRg1 (liftO (fCB (qCons (fVar 1) pNil) gLen))) (fGo (gN 4) (sE (fIt (fTake 1)) (fGo (gN 5) (sSeq (sAsg (liftO (keepF (f2 (fVar 0) (fVar 5) gIxL))) (gTp 3 (gCons' (gN 6) (gCons' (gN 7) (gCons' (gN 8) gNil')))))
  (sE (fTest (liftO (f2 (f2 (fVar 6) (fVar 3) (gIn false)) (f2 (fVar 7) (fVar 3) (gIn false)) (gEq true)))) fun b => if b = true then (sE (fBm "list" mAppend 3 (liftO (pCons (keepF (f2 (pLst (pCons (keepF (fVar 6)) (pCons (keepF (fVar 7)) pNil))) (fCB (qCons (f2 (fVar 6) (fVar 3) (gIn false)) pNil) gInt) gIxL)) pNil))) fun _ => sNx) else sNx))))))
  (sE (liftO (fCB (qCons (fVar 3) pNil) gSort)) fun t ρ => some (.rt t, ρ))))
def G__law_reach (c : Cs) : Fn := bodyG false 9 3 (fn__law_reach c)
theorem ok__law_reach (T : Txt K mg) (LH : Lh base B T) : FnOk P w K mg base CX0 1 T.a__law_reach T.d__law_reach ["_law_roads", "_law_numbers", "_law_begin"] (spOf K B (G__law_reach T.cs)) := by
  refine T.F__law_reach.ok sc__law_reach (fun vs H Q E h => spOf_len h) (fun cdv A outer s H vs Q E hr h => ?_)
  refine ⟨_, (pss_cons (ps_set (i := 3) sc__law_reach.nd rfl (Or.inl rfl) (pe_lst (pa_cons (pv 2) pa_nil)))
 (pss_cons (ps_for PassesOwn.never rfl (pi_range1 (by rfl) T.nb_range (pa_cons (pe_callB call_len_seq (by rfl) T.nb_len (by decide +kernel) (pa_cons (pv 1) pa_nil)) pa_nil)) (pg_name (i := 4) sc__law_reach.nd rfl (Or.inl rfl))
  (pss_one (ps_for PassesOwn.never rfl (pi_list (pv 1)) (pg_name (i := 5) sc__law_reach.nd rfl (Or.inl rfl))
  (pss_cons (ps_asg (pe_ix ix_list (pv 0) (pv 5) (fun _ _ => rfl)) (pg_tup rfl (pgs_cons (pg_name (i := 6) sc__law_reach.nd rfl (Or.inl rfl)) (pgs_cons (pg_name (i := 7) sc__law_reach.nd rfl (Or.inl rfl)) (pgs_cons (pg_name (i := 8) sc__law_reach.nd rfl (Or.inl rfl)) pgs_nil)))))
 (pss_one (ps_if (pt_cmpR op_ne (pe_cmpR op_in_seq (pv 6) (pv 3) rfl) (pe_cmpR op_in_seq (pv 7) (pv 3) rfl) (nomark _)) (pss_one (ps_expr (pe_bm PySem.F.plainAttrs_list PySem.F.slot_list_append PySem.F.type_list_append mt_append (pv 3) (pa_cons (pe_ix ix_list (pe_lst (pa_cons (pv 6) (pa_cons (pv 7) pa_nil))) (pe_callTy call_int1 (by rfl) T.nb_int (by decide +kernel) (pa_cons (pe_cmpR op_in_seq (pv 6) (pv 3) rfl) pa_nil)) (fun _ _ => rfl)) pa_nil)))) pss_nil))))))
 (pss_one (ps_ret (pe_callB cr_sorted (by rfl) T.nb_sorted (by decide +kernel) (pa_cons (pv 3) pa_nil)))))), ?_⟩
  refine run_def (N := ["_law_roads", "_law_numbers", "_law_begin", "_law_found", "_law_turn", "_law_number", "_law_one", "_law_other", "_law_cost"]) (np := 3) (f := fn__law_reach T.cs) (raises := false) (E' := E0) ?_ (fun z => by first | rfl | cases z) (by decide) (spOf_len h) h
  exact (sj_seq (sj_asg (FJ.vj (fj_lst (faj_cons (PJ.fj pj_var) faj_nil))) (gj_name (show ¬ (3 < 3) from by decide)))
  (sj_seq (sj_for (ij_rng1 (FJ.vj (fj_cb cs_len (paj_cons pj_var paj_nil)))) (gj_name (show ¬ (4 < 3) from by decide)) ((sj_for (ij_list vj_take) (gj_name (show ¬ (5 < 3) from by decide)) ((sj_seq (sj_asg (FJ.vj (PJ.fj (pj_opA oa_ixL pj_var pj_var))) (gj_tup (gsj_cons (gj_name (show ¬ (6 < 3) from by decide)) (gsj_cons (gj_name (show ¬ (7 < 3) from by decide)) (gsj_cons (gj_name (show ¬ (8 < 3) from by decide)) gsj_nil)))))
  (sj_if (tj_test (FJ.vj (fj_op os_ne (FJ.pj (fj_op os_in pj_var pj_var)) (FJ.pj (fj_op os_in pj_var pj_var))))) ((sj_drop (vj_bm m_append (FAJ.aj (faj_cons (PJ.fj (pj_opA oa_ixL (FJ.pj (fj_lst (faj_cons (PJ.fj pj_var) (faj_cons (PJ.fj pj_var) faj_nil)))) (FJ.pj (fj_cb cs_int (paj_cons (FJ.pj (fj_op os_in pj_var pj_var)) paj_nil))))) faj_nil))))) (sj_nx)))))))
  (sj_ret (FJ.vj (fj_cb cs_sorted (paj_cons pj_var paj_nil))))))
def fn__law_leads (c : Cs) : SM := (sSeq (sAsg (liftO (pLst (pCons (keepF (fVar 2)) pNil))) (gN 4))
  (sSeq (fForH 1 (gN 5) (sSeq (sE (fTest (liftO (f2 (f2 (fVar 4) (fUn (fC (.int 1))) gIxL) (fSlT (f2 (fVar 0) (fVar 5) gIxL) (fun _ => some none) (fPart (fC (.int 2)))) (gIn true)))) fun b => if b = true then (sE (liftO (fC (.bl false))) fun t ρ => some (.rt t, ρ)) else sNx)
  (sE (fBm "list" mAppend 4 (liftO (pCons (f2 (f2 (f2 (f2 (fVar 0) (fVar 5) gIxL) (fC (.int 0)) gIxT) (f2 (f2 (fVar 0) (fVar 5) gIxL) (fC (.int 1)) gIxT) gAdd) (f2 (fVar 4) (fUn (fC (.int 1))) gIxL) gMinus) pNil))) fun _ => sNx)))
  (sE (fIf (fTest (liftO (f2 (f2 (fVar 4) (fUn (fC (.int 1))) gIxL) (fVar 3) (gEq false)))) (liftO (f2 (fLenSet (fVar 4)) (fCB (qCons (fVar 4) pNil) gLen) (gEq false))) (rE (some (.at (.bl false))))) fun t ρ => some (.rt t, ρ))))
def G__law_leads (c : Cs) : Fn := bodyG false 6 4 (fn__law_leads c)
theorem ok__law_leads (T : Txt K mg) (LH : Lh base B T) : FnOk P w K mg base CX0 1 T.a__law_leads T.d__law_leads ["_law_roads", "_law_numbers", "_law_begin", "_law_end"] (spOf K B (G__law_leads T.cs)) := by
  refine T.F__law_leads.ok sc__law_leads (fun vs H Q E h => spOf_len h) (fun cdv A outer s H vs Q E hr h => ?_)
  refine ⟨_, (pss_cons (ps_set (i := 4) sc__law_leads.nd rfl (Or.inl rfl) (pe_lst (pa_cons (pv 2) pa_nil)))
 (pss_cons (ps_for PassesOwn.never rfl (pi_list (pv 1)) (pg_name (i := 5) sc__law_leads.nd rfl (Or.inl rfl))
  (pss_cons (ps_if (pt_cmpR op_notIn_seq (pe_ix ix_list (pv 4) (pe_un un_neg pe_int) (fun _ _ => rfl)) (pe_slice sl_tup (pe_ix ix_list (pv 0) (pv 5) (fun _ _ => rfl)) po_none (po_some pe_int)) rfl) (pss_one (ps_ret pe_bl)) pss_nil)
 (pss_one (ps_expr (pe_bm PySem.F.plainAttrs_list PySem.F.slot_list_append PySem.F.type_list_append mt_append (pv 4) (pa_cons (pe_op op_sub (pe_op op_add (pe_ix ix_tup (pe_ix ix_list (pv 0) (pv 5) (fun _ _ => rfl)) pe_int (fun _ _ => rfl)) (pe_ix ix_tup (pe_ix ix_list (pv 0) (pv 5) (fun _ _ => rfl)) pe_int (fun _ _ => rfl))) (pe_ix ix_list (pv 4) (pe_un un_neg pe_int) (fun _ _ => rfl))) pa_nil))))))
 (pss_one (ps_ret (pe_and (pe_cmpR op_eq (pe_ix ix_list (pv 4) (pe_un un_neg pe_int) (fun _ _ => rfl)) (pv 3) (nomark _)) (pe_one (pe_cmpR op_eq (pe_callB cr_lenS (by rfl) T.nb_len (by decide +kernel) (pa_cons (pe_callTy (cr_setL rfl) (by rfl) T.nb_set (by decide +kernel) (pa_cons (pv 4) pa_nil)) pa_nil)) (pe_callB call_len_seq (by rfl) T.nb_len (by decide +kernel) (pa_cons (pv 4) pa_nil)) (nomark _)))))))), ?_⟩
  refine run_def (N := ["_law_roads", "_law_numbers", "_law_begin", "_law_end", "_law_met", "_law_number"]) (np := 4) (f := fn__law_leads T.cs) (raises := false) (E' := E0) ?_ (fun z => by first | rfl | cases z) (by decide) (spOf_len h) h
  exact (sj_seq (sj_asg (FJ.vj (fj_lst (faj_cons (PJ.fj pj_var) faj_nil))) (gj_name (show ¬ (4 < 4) from by decide)))
  (sj_seq (sj_forH (i := 1) (gj_name (show ¬ ((5 < 4) ∨ 5 = 1) from by decide)) ((sj_seq (sj_if (tj_test (FJ.vj (fj_op os_in (pj_opA oa_ixL pj_var (FJ.pj (fj_un (fun _ => rfl) (FJ.pj (fj_const rfl))))) (FJ.pj (fj_slT (pj_opA oa_ixL pj_var pj_var) oj_no (oj_part (FJ.pj (fj_const rfl)))))))) ((sj_ret (FJ.vj (fj_const rfl)))) (sj_nx))
  (sj_drop (vj_bm m_append (FAJ.aj (faj_cons (fj_op os_sub (FJ.pj (fj_op os_add (pj_opA oa_ixT (pj_opA oa_ixL pj_var pj_var) (FJ.pj (fj_const rfl))) (pj_opA oa_ixT (pj_opA oa_ixL pj_var pj_var) (FJ.pj (fj_const rfl))))) (pj_opA oa_ixL pj_var (FJ.pj (fj_un (fun _ => rfl) (FJ.pj (fj_const rfl)))))) faj_nil)))))))
  (sj_ret (vj_andV (FJ.vj (fj_op os_eq (pj_opA oa_ixL pj_var (FJ.pj (fj_un (fun _ => rfl) (FJ.pj (fj_const rfl))))) pj_var)) (FJ.vj (fj_op os_eq (FJ.pj (fj_lenSet pj_var)) (FJ.pj (fj_cb cs_len (paj_cons pj_var paj_nil)))))))))
def fn_law (c : Cs) : SM := (sSeq (sAsg (bE (xSlot 0 xNil) (callG (G__law_dice c))) (gN 1))
  (sSeq (sAsg (bE (xSlot 1 (xVal (liftO (fC (.int 8))) xNil)) (callG (G__law_web c))) (gTp 2 (gCons' (gN 2) (gCons' (gN 3) gNil'))))
  (sSeq (sAsg (bE (xSlot 2 (xVal (liftO (fCB (qCons (fVar 3) pNil) gList)) xNil)) (fMake c.Web (G_Web___init__ c))) (gN 4))
  (sSeq (sAsg (bE (xSlot 3 xNil) (callG (G__law_tree c))) (gN 5))
  (sSeq (sE (fRg1 (liftO (fC (.int 2)))) (fGo (gN 6) (sSeq (sAsg (bE (xSlot 4 xNil) (callG (G_tree c))) (gN 7))
  (sSeq (sE (fNot (fTest (bE (xSlot 7 (xSlot 5 xNil)) (callG (G__law_like c))))) fun b => if b = true then (sE (liftO (fC (.bl false))) fun t ρ => some (.rt t, ρ)) else sNx)
  (sE (fBm "list" mAppend 7 (liftO (pCons (fUn (fC (.int 1))) pNil))) fun _ => sNx)))))
  (sSeq (sE (fRg1 (liftO (fCB (qCons (fVar 3) pNil) gLen))) (fGo (gN 8) (sSeq (sAsg (liftO (keepF (f2 (fVar 3) (fVar 8) gIxL))) (gTp 3 (gCons' (gN 9) (gCons' (gN 10) (gCons' (gN 11) gNil')))))
  (sSeq (sE (fTest (liftO (f2 (fVar 8) (fVar 5) (gIn false)))) fun b => if b = true then (sSeq (sAsg (fLc (fIt (fTake 5)) [13] (gN 13) (fTest (liftO (f2 (fVar 13) (fVar 8) (gEq true)))) (fTake 13)) (gN 12))
  (sSeq (sAsg (bE (xSlot 4 (xSlot 8 xNil)) (callG (G_side c))) (gN 14))
  (sE (fIf (fNot (fTest (bE (xSlot 14 (xVal (bE (xSlot 3 (xSlot 12 (xSlot 9 xNil))) (callG (G__law_reach c))) xNil)) (callG (G__law_like c))))) (rE (some true)) (fTest (fVP (bE (xSlot 4 (xSlot 8 xNil)) (callG (G_instead c))) (fC .non) (gIs true)))) fun b => if b = true then (sE (liftO (fC (.bl false))) fun t ρ => some (.rt t, ρ)) else sNx))) else (sSeq (sAsg (bE (xSlot 4 (xSlot 8 xNil)) (callG (G_instead c))) (gN 14))
  (sSeq (sE (fIf (fNot (fTest (liftO (fCB (qCons (fVar 14) (qCons (fC (.ty "list")) pNil)) gIsi)))) (rE (some true)) (fTest (fVP (fLcH 14 [13] (gN 13) (fTest (liftO (f2 (fVar 13) (fVar 5) (gIn true)))) (fTake 13)) (pLst pNil) (gEqD true)))) fun b => if b = true then (sE (liftO (fC (.bl false))) fun t ρ => some (.rt t, ρ)) else sNx)
  (sE (fIf (fNot (fTest (bE (xSlot 3 (xSlot 14 (xSlot 9 (xSlot 10 xNil)))) (callG (G__law_leads c))))) (rE (some true)) (fTest (fVP (bE (xSlot 4 (xSlot 8 xNil)) (callG (G_side c))) (fC .non) (gIs true)))) fun b => if b = true then (sE (liftO (fC (.bl false))) fun t ρ => some (.rt t, ρ)) else sNx))))
  (sSeq (sAsg (liftO (fCB (qCons (fVar 14) pNil) gList)) (gN 15))
  (sSeq (sE (fBm "list" mClear 14 fNil) fun _ => sNx)
  (sE (fTest (fSV 15 (fLst (fCons (bE (xSlot 4 (xSlot 8 xNil)) (callG (G_side c))) (fCons (bE (xSlot 4 (xSlot 8 xNil)) (callG (G_instead c))) fNil))) (gInD true))) fun b => if b = true then (sE (liftO (fC (.bl false))) fun t ρ => some (.rt t, ρ)) else sNx)))))))
  (sSeq (sAsg (f2V (fLst (fCons (liftO (fCB (qCons (fVar 3) pNil) gLen)) (fCons (liftO (fUn (fC (.int 1)))) (fCons (f2V (liftO (fCB (qCons (fVar 3) pNil) gLen)) (bE (xSlot 1 (xVal (liftO (f2 (fC (.int 10)) (fC (.int 6)) gPow)) xNil)) (callG (G__law_next c))) gAdd) fNil)))) (bE (xSlot 1 (xVal (liftO (fC (.int 3))) xNil)) (callG (G__law_next c))) gIxL) (gN 16))
  (sE (fIf (fTest (fLamR c.NoRoad (G_side c) 4 16)) (fLamR c.NoRoad (G_instead c) 4 16) (rE (some (.at (.bl false))))) fun t ρ => some (.rt t, ρ)))))))))
def G_law (c : Cs) : Fn := bodyG false 17 1 (fn_law c)
theorem ok_law (T : Txt K mg) (LH : Lh base B T) : FnOk P w K mg base CX0 8 T.a_law T.d_law ["_law_script"] (spOf K B (G_law T.cs)) := by
  have G__law_dice := ok__law_dice (P := P) (w := w) (base := base) (B := B) T LH
  have G__law_web := ok__law_web (P := P) (w := w) (base := base) (B := B) T LH
  have G_Web___init__ := ok_Web___init__ (P := P) (w := w) (base := base) (B := B) T LH
  have G__law_tree := ok__law_tree (P := P) (w := w) (base := base) (B := B) T LH
  have G_tree := ok_tree (P := P) (w := w) (base := base) (B := B) T LH
  have G__law_next := ok__law_next (P := P) (w := w) (base := base) (B := B) T LH
  have G__law_like := ok__law_like (P := P) (w := w) (base := base) (B := B) T LH
  have G_side := ok_side (P := P) (w := w) (base := base) (B := B) T LH
  have G_instead := ok_instead (P := P) (w := w) (base := base) (B := B) T LH
  have G__law_leads := ok__law_leads (P := P) (w := w) (base := base) (B := B) T LH
  have G__law_reach := ok__law_reach (P := P) (w := w) (base := base) (B := B) T LH
  have TB := LH.tb_law
  refine T.FC_law.ok sc_law (fun vs H Q E h => spOf_len h) (fun A outer s H vs Q E hr h => ?_)
  refine ⟨_, (pss_cons (ps_set (i := 1) sc_law.nd rfl (Or.inl rfl) (pe_call G__law_dice (hr.mono (by decide)) rfl T.g__law_dice T.F__law_dice.kp T.b__law_dice .nil pass0 (pa_cons (pv 0) pa_nil)))
 (pss_cons (ps_asg (pe_call G__law_web (hr.mono (by decide)) rfl T.g__law_web T.F__law_web.kp T.b__law_web .nil pass0 (pa_cons (pv 1) (pa_cons pe_int pa_nil))) (pg_tup rfl (pgs_cons (pg_name (i := 2) sc_law.nd rfl (Or.inl rfl)) (pgs_cons (pg_name (i := 3) sc_law.nd rfl (Or.inl rfl)) pgs_nil))))
 (pss_cons (ps_set (i := 4) sc_law.nd rfl (Or.inr rfl) (pe_make T.mk_Web G_Web___init__ (hr.mono (by decide)) rfl T.g_Web T.b_Web___init__ .nil passLN (pa_cons (pv 2) (pa_cons (pe_callTy call_list_of (by rfl) T.nb_list (by decide +kernel) (pa_cons (pv 3) pa_nil)) pa_nil))))
 (pss_cons (ps_set (i := 5) sc_law.nd rfl (Or.inr rfl) (pe_call G__law_tree (hr.mono (by decide)) rfl T.g__law_tree T.F__law_tree.kp T.b__law_tree .nil pass0 (pa_cons (pv 3) pa_nil)))
 (pss_cons (ps_for PassesOwn.never rfl (pi_range1 (by rfl) T.nb_range (pa_cons pe_int pa_nil)) (pg_name (i := 6) sc_law.nd rfl (Or.inl rfl))
  (pss_cons (ps_set (i := 7) sc_law.nd rfl (Or.inl rfl) (pe_call G_tree (hr.mono (by decide)) rfl T.g_tree T.F_tree.kp T.b_tree .nil pass0 (pa_cons (pv 4) pa_nil)))
 (pss_cons (ps_if (pt_not (pt_val (pe_call G__law_like (hr.mono (by decide)) rfl T.g__law_like T.F__law_like.kp T.b__law_like .nil pass0 (pa_cons (pv 7) (pa_cons (pv 5) pa_nil))))) (pss_one (ps_ret pe_bl)) pss_nil)
 (pss_one (ps_expr (pe_bm PySem.F.plainAttrs_list PySem.F.slot_list_append PySem.F.type_list_append mt_append (pv 7) (pa_cons (pe_un un_neg pe_int) pa_nil)))))))
 (pss_cons (ps_for PassesOwn.never rfl (pi_range1 (by rfl) T.nb_range (pa_cons (pe_callB call_len_seq (by rfl) T.nb_len (by decide +kernel) (pa_cons (pv 3) pa_nil)) pa_nil)) (pg_name (i := 8) sc_law.nd rfl (Or.inr rfl))
  (pss_cons (ps_asg (pe_ix ix_list (pv 3) (pv 8) (fun _ _ => rfl)) (pg_tup rfl (pgs_cons (pg_name (i := 9) sc_law.nd rfl (Or.inl rfl)) (pgs_cons (pg_name (i := 10) sc_law.nd rfl (Or.inl rfl)) (pgs_cons (pg_name (i := 11) sc_law.nd rfl (Or.inl rfl)) pgs_nil)))))
 (pss_cons (ps_if (pt_cmpR op_in_seq (pv 8) (pv 5) rfl) (pss_cons (ps_setLc (i := 12) (own := [("_law_at", 13)]) (g := gName 13) (by rfl) sc_law.nd rfl rfl (sw_true rfl rfl rfl (by decide +kernel)) (pi_list (pv 5)) (blkOk_by (own := [("_law_at", 13)]) (N := ["_law_script", "_law_d", "_law_hands", "_law_roads", "_law_web_here", "_law_due", "_law_turn", "_law_found", "_law_number", "_law_one", "_law_other", "_law_cost", "_law_left", "_law_at", "_law_told", "_law_kept", "_law_bad"]) (sc := defScope s_law) (by decide +kernel)) (fun _ _ _ _ _ => by exact (pg_name (i := 13) sc_law.nd rfl (Or.inl rfl))) (fun _ _ _ _ _ => by exact (pts_one (pt_cmpR op_ne (pv 13) (pv 8) (nomark _)))) (fun _ _ _ _ _ => by exact (pv 13)))
 (pss_cons (ps_set (i := 14) sc_law.nd rfl (Or.inl rfl) (pe_call G_side (hr.mono (by decide)) rfl T.g_side T.F_side.kp T.b_side .nil passLN (pa_cons (pv 4) (pa_cons (pv 8) pa_nil))))
 (pss_one (ps_if (PW.pt (pw_or (pt_not (pt_val (pe_call G__law_like (hr.mono (by decide)) rfl T.g__law_like T.F__law_like.kp T.b__law_like .nil pass0 (pa_cons (pv 14) (pa_cons (pe_call G__law_reach (hr.mono (by decide)) rfl T.g__law_reach T.F__law_reach.kp T.b__law_reach .nil pass0 (pa_cons (pv 3) (pa_cons (pv 12) (pa_cons (pv 9) pa_nil)))) pa_nil))))) (pw_or1 (pt_cmpR op_notN (pe_call G_instead (hr.mono (by decide)) rfl T.g_instead T.F_instead.kp T.b_instead .nil passLN (pa_cons (pv 4) (pa_cons (pv 8) pa_nil))) pe_non (nomark _))))) (pss_one (ps_ret pe_bl)) pss_nil)))) (pss_cons (ps_set (i := 14) sc_law.nd rfl (Or.inl rfl) (pe_call G_instead (hr.mono (by decide)) rfl T.g_instead T.F_instead.kp T.b_instead .nil passLN (pa_cons (pv 4) (pa_cons (pv 8) pa_nil))))
 (pss_cons (ps_if (PW.pt (pw_or (pt_not (pt_val (pe_callB (cr_isiL rfl) (by rfl) T.nb_isinstance (by decide +kernel) (pa_cons (pv 14) (pa_cons (pe_bltn (v := .ty "list") (u := .type "list") (by rfl) T.nb_list (by decide +kernel) rfl) pa_nil))))) (pw_or1 (pt_cmpR (op_neD hr.units) (pe_lc (own := [("_law_at", 13)]) (g := gName 13) (by rfl) sc_law.nd (pi_list (pv 14)) (blkOk_by (own := [("_law_at", 13)]) (N := ["_law_script", "_law_d", "_law_hands", "_law_roads", "_law_web_here", "_law_due", "_law_turn", "_law_found", "_law_number", "_law_one", "_law_other", "_law_cost", "_law_left", "_law_at", "_law_told", "_law_kept", "_law_bad"]) (sc := defScope s_law) (by decide +kernel)) (fun _ _ _ _ _ => by exact (pg_name (i := 13) sc_law.nd rfl (Or.inl rfl))) (fun _ _ _ _ _ => by exact (pts_one (pt_cmpR (op_notIn_seqK K rfl) (pv 13) (pv 5) rfl))) (fun _ _ _ _ _ => by exact (pv 13))) (pe_lst pa_nil) (nomark _))))) (pss_one (ps_ret pe_bl)) pss_nil)
 (pss_one (ps_if (PW.pt (pw_or (pt_not (pt_val (pe_call G__law_leads (hr.mono (by decide)) rfl T.g__law_leads T.F__law_leads.kp T.b__law_leads .nil pass0 (pa_cons (pv 3) (pa_cons (pv 14) (pa_cons (pv 9) (pa_cons (pv 10) pa_nil))))))) (pw_or1 (pt_cmpR op_notN (pe_call G_side (hr.mono (by decide)) rfl T.g_side T.F_side.kp T.b_side .nil passLN (pa_cons (pv 4) (pa_cons (pv 8) pa_nil))) pe_non (nomark _))))) (pss_one (ps_ret pe_bl)) pss_nil)))))
 (pss_cons (ps_set (i := 15) sc_law.nd rfl (Or.inl rfl) (pe_callTy call_list_of (by rfl) T.nb_list (by decide +kernel) (pa_cons (pv 14) pa_nil)))
 (pss_cons (ps_expr (pe_bm0 PySem.F.plainAttrs_list PySem.F.slot_list_clear PySem.F.type_list_clear mt_clear (pv 14)))
 (pss_one (ps_if (pt_cmpR (op_notInD hr.units65) (pv 15) (pe_lst (pa_cons (pe_call G_side (hr.mono (by decide)) rfl T.g_side T.F_side.kp T.b_side .nil passLN (pa_cons (pv 4) (pa_cons (pv 8) pa_nil))) (pa_cons (pe_call G_instead (hr.mono (by decide)) rfl T.g_instead T.F_instead.kp T.b_instead .nil passLN (pa_cons (pv 4) (pa_cons (pv 8) pa_nil))) pa_nil))) rfl) (pss_one (ps_ret pe_bl)) pss_nil)))))))
 (pss_cons (ps_set (i := 16) sc_law.nd rfl (Or.inr rfl) (pe_ix ix_list (pe_lst (pa_cons (pe_callB call_len_seq (by rfl) T.nb_len (by decide +kernel) (pa_cons (pv 3) pa_nil)) (pa_cons (pe_un un_neg pe_int) (pa_cons (pe_op op_add (pe_callB call_len_seq (by rfl) T.nb_len (by decide +kernel) (pa_cons (pv 3) pa_nil)) (pe_call G__law_next (hr.mono (by decide)) rfl T.g__law_next T.F__law_next.kp T.b__law_next .nil pass0 (pa_cons (pv 1) (pa_cons (pe_op op_pow pe_int pe_int) pa_nil)))) pa_nil)))) (pe_call G__law_next (hr.mono (by decide)) rfl T.g__law_next T.F__law_next.kp T.b__law_next .nil pass0 (pa_cons (pv 1) (pa_cons pe_int pa_nil))) (fun _ _ => rfl)))
 (pss_one (ps_ret (pe_and (pe_lamR' (k := 4) (q := qLam "law") (P := T.p_law) (N := ["_law_web_here", "_law_bad"]) (fr := ["_law_web_here", "_law_bad"]) (js := [4, 16]) (vs := []) (t := fun Ex => tCallS (spOf K B (TV.G_side T.cs)) (fun _ => Ex) (tCons (tVar 0) (tCons (tVar 1) tNil))) rfl T.g__law_refused T.F__law_refused T.b__law_refused sc__law_refused rfl (.inl rfl) (fun _ => refused_gives T) (makesL_0 (fr := ["_law_web_here", "_law_bad"]) TB rfl rfl rfl (ndef_at (sc := defScope s_law) rfl (by decide +kernel)) (fun _ _ _ _ _ => rfl)) rfl (ndef_at (sc := defScope s_law) rfl (by decide +kernel)) rfl (NdefX.nscope_by (by decide +kernel)) (hr.mono (by decide)) (fun A outer s H E nm qu ar cl c2 f room => by exact (pe_callS (E := fun _ => E) G_side (room.mono (by decide)) rfl T.g_side T.F_side.kp T.b_side (fun _ => passLam) (pa_cons (pv 0) (pa_cons (pv 1) pa_nil))))) (pe_one (pe_lamR' (k := 4) (q := qLam "law") (P := T.p_law) (N := ["_law_one", "_law_web_here", "_law_bad"]) (fr := ["_law_web_here", "_law_bad"]) (js := [4, 16]) (vs := [V.int 0]) (t := fun Ex => tCallS (spOf K B (TV.G_instead T.cs)) (fun _ => Ex) (tCons (tVar 1) (tCons (tVar 2) tNil))) rfl T.g__law_refused T.F__law_refused T.b__law_refused sc__law_refused rfl (.inl rfl) (fun _ => refused_gives T) (makesL_1 (v := V.int 0) (fr := ["_law_web_here", "_law_bad"]) TB rfl rfl rfl rfl pe_int (ndef_at (sc := defScope s_law) rfl (by decide +kernel)) (fun _ _ _ _ _ _ _ => ⟨_, rfl, fun _ => rfl⟩)) rfl (ndef_at (sc := defScope s_law) rfl (by decide +kernel)) rfl (NdefX.nscope_by (by decide +kernel)) (hr.mono (by decide)) (fun A outer s H E nm qu ar cl c2 f room => by exact (pe_callS (E := fun _ => E) G_instead (room.mono (by decide)) rfl T.g_instead T.F_instead.kp T.b_instead (fun _ => passLam) (pa_cons (pv 1) (pa_cons (pv 2) pa_nil)))))))))))))))), ?_⟩
  refine run_def (N := ["_law_script", "_law_d", "_law_hands", "_law_roads", "_law_web_here", "_law_due", "_law_turn", "_law_found", "_law_number", "_law_one", "_law_other", "_law_cost", "_law_left", "_law_at", "_law_told", "_law_kept", "_law_bad"]) (np := 1) (f := fn_law T.cs) (raises := false) (E' := E0) ?_ (fun z => by first | rfl | cases z) (by decide) (spOf_len h) h
  exact (sj_seq (sj_asg (vj_call (xj_slot xj_nil)) (gj_name (show ¬ (1 < 1) from by decide)))
  (sj_seq (sj_asg (vj_call (xj_slot (xj_val (FJ.vj (fj_const rfl)) xj_nil))) (gj_tup (gsj_cons (gj_name (show ¬ (2 < 1) from by decide)) (gsj_cons (gj_name (show ¬ (3 < 1) from by decide)) gsj_nil))))
  (sj_seq (sj_asg (vj_make (xj_slot (xj_val (FJ.vj (fj_cb cs_list (paj_cons pj_var paj_nil))) xj_nil))) (gj_name (show ¬ (4 < 1) from by decide)))
  (sj_seq (sj_asg (vj_call (xj_slot xj_nil)) (gj_name (show ¬ (5 < 1) from by decide)))
  (sj_seq (sj_for (ij_rng1 (FJ.vj (fj_const rfl))) (gj_name (show ¬ (6 < 1) from by decide)) ((sj_seq (sj_asg (vj_call (xj_slot xj_nil)) (gj_name (show ¬ (7 < 1) from by decide)))
  (sj_seq (sj_if (tj_not (tj_B (vj_call (xj_slot (xj_slot xj_nil))))) ((sj_ret (FJ.vj (fj_const rfl)))) (sj_nx))
  (sj_drop (vj_bm m_append (FAJ.aj (faj_cons (fj_un (fun _ => rfl) (FJ.pj (fj_const rfl))) faj_nil))))))))
  (sj_seq (sj_for (ij_rng1 (FJ.vj (fj_cb cs_len (paj_cons pj_var paj_nil)))) (gj_name (show ¬ (8 < 1) from by decide)) ((sj_seq (sj_asg (FJ.vj (PJ.fj (pj_opA oa_ixL pj_var pj_var))) (gj_tup (gsj_cons (gj_name (show ¬ (9 < 1) from by decide)) (gsj_cons (gj_name (show ¬ (10 < 1) from by decide)) (gsj_cons (gj_name (show ¬ (11 < 1) from by decide)) gsj_nil)))))
  (sj_seq (sj_if (tj_test (FJ.vj (fj_op os_in pj_var pj_var))) ((sj_seq (sj_asg (vj_lc (E' := E0) (ij_list vj_take) (gj_name (show ¬ (13 ∉ [13]) from by decide)) (tj_test (FJ.vj (fj_op os_ne pj_var pj_var))) vj_take) (gj_name (show ¬ (12 < 1) from by decide)))
  (sj_seq (sj_asg (vj_call (xj_slot (xj_slot xj_nil))) (gj_name (show ¬ (14 < 1) from by decide)))
  (sj_if (tj_or (tj_not (tj_B (vj_call (xj_slot (xj_val (vj_call (xj_slot (xj_slot (xj_slot xj_nil)))) xj_nil))))) (tj_test (vj_opP os_notN (vj_call (xj_slot (xj_slot xj_nil))) (FJ.pj (fj_const rfl))))) ((sj_ret (FJ.vj (fj_const rfl)))) (sj_nx))))) ((sj_seq (sj_asg (vj_call (xj_slot (xj_slot xj_nil))) (gj_name (show ¬ (14 < 1) from by decide)))
  (sj_seq (sj_if (tj_or (tj_not (tj_B (FJ.vj (fj_cb cs_isi (paj_cons pj_var (paj_cons (FJ.pj (fj_const rfl)) paj_nil)))))) (tj_test (vj_opP os_neD (vj_lcH (E' := E0) (i := 14) (gj_name (show ¬ (13 ∉ [13]) from by decide)) (tj_test (FJ.vj (fj_op os_in pj_var pj_var))) vj_take) (FJ.pj (fj_lst faj_nil))))) ((sj_ret (FJ.vj (fj_const rfl)))) (sj_nx))
  (sj_if (tj_or (tj_not (tj_B (vj_call (xj_slot (xj_slot (xj_slot (xj_slot xj_nil))))))) (tj_test (vj_opP os_notN (vj_call (xj_slot (xj_slot xj_nil))) (FJ.pj (fj_const rfl))))) ((sj_ret (FJ.vj (fj_const rfl)))) (sj_nx))))))
  (sj_seq (sj_asg (FJ.vj (fj_cb cs_list (paj_cons pj_var paj_nil))) (gj_name (show ¬ (15 < 1) from by decide)))
  (sj_seq (sj_drop (vj_bm0 m_clear))
  (sj_if (tj_test (vj_opS os_notInD (vj_lst (aj_cons (vj_call (xj_slot (xj_slot xj_nil))) (aj_cons (vj_call (xj_slot (xj_slot xj_nil))) aj_nil))))) ((sj_ret (FJ.vj (fj_const rfl)))) (sj_nx))))))))
  (sj_seq (sj_asg (vj_opA oa_ixL (vj_lst (aj_cons (FJ.vj (fj_cb cs_len (paj_cons pj_var paj_nil))) (aj_cons (FJ.vj (fj_un (fun _ => rfl) (FJ.pj (fj_const rfl)))) (aj_cons (vj_op os_add (FJ.vj (fj_cb cs_len (paj_cons pj_var paj_nil))) (vj_call (xj_slot (xj_val (FJ.vj (fj_op os_pow (FJ.pj (fj_const rfl)) (FJ.pj (fj_const rfl)))) xj_nil)))) aj_nil)))) (vj_call (xj_slot (xj_val (FJ.vj (fj_const rfl)) xj_nil)))) (gj_name (show ¬ (16 < 1) from by decide)))
  (sj_ret (vj_andV (vj_lamR LH.hb_law LH.hu_law (fun _ _ => rfl) (fun _ _ => rfl)) (vj_lamR LH.hb_law LH.hu_law (fun _ _ => rfl) (fun _ _ => rfl)))))))))))
end
end TV
namespace TV
open PySem L2 LT
theorem kit_ty {K : PySem.W.Frag} {t : Value} {T : String} {b : Bool} (h1 : PySem.W.kitMeta T = true) (h : PySem.W.subIn K t (.type T) = some b) (hn : (t == .type T) = false := by rfl) : PySem.W.kitOne K t (.type T) = some b := by
  unfold PySem.W.kitOne
  rw [hn]
  show (if PySem.W.kitMeta T = true then PySem.W.subIn K t (.type T) else none) = some b
  rw [if_pos h1, h]
theorem kit_any {K : PySem.W.Frag} {t : Value} {C : Addr} {b : Bool} (h1 : PySem.W.isClsIn K C = true) (h2 : PySem.W.typeIn K (.ref C) = some (.type "type")) (h : PySem.W.subIn K t (.ref C) = some b) (e : (t == .ref C) = true → b = true) : PySem.W.kitOne K t (.ref C) = some b := by
  have h1' : (PySem.W.clsIn K C).isSome = true := h1
  unfold PySem.W.kitOne
  by_cases c : (t == .ref C) = true
  · rw [if_pos c, e c]
  · rw [if_neg c]
    show (if ((PySem.W.clsIn K C).isSome && PySem.W.typeIn K (.ref C) == some (.type "type")) = true then PySem.W.subIn K t (.ref C) else none) = some b
    rw [h1', h2, if_pos (by rfl), h]
theorem kit_t {K : PySem.W.Frag} {t : Value} {C : Addr} (h1 : PySem.W.isClsIn K C = true) (h2 : PySem.W.typeIn K (.ref C) = some (.type "type")) (h : PySem.W.subIn K t (.ref C) = some true) : PySem.W.kitOne K t (.ref C) = some true := kit_any h1 h2 h fun _ => rfl
theorem kit_f {K : PySem.W.Frag} {D C : Addr} (h1 : PySem.W.isClsIn K C = true) (h2 : PySem.W.typeIn K (.ref C) = some (.type "type")) (h : PySem.W.subIn K (.ref D) (.ref C) = some false) (hs : PySem.W.subIn K (.ref D) (.ref D) = some true) : PySem.W.kitOne K (.ref D) (.ref C) = some false :=
  kit_any h1 h2 h fun e => by
    have q : D = C := by simpa using e
    rw [q] at h hs
    rw [h] at hs
    cases hs
theorem all_mk {l : PySem.W.OpenLaw} {w : World} {K : PySem.W.Frag} {h : Heap} {mg : Str → Option Value} {fa : Addr} {q : Program} (X : K.In h) (G : h.Ns mainGlobals mg) (hfa : mg "law" = some (.ref fa))
  (good : ∀ (c : Cs) (ns : List Int), ns.length ≤ 63 → Rg (G_law c) [.nd .scr (TI ns)] fun t _ => t = .at (.bl true))
  {f_BadWeb___init__ f_Web___init__ f_Web_hands f_Web_roads f_tree f_instead f_side f__check_web f__is_bad f__check_road f__paths f__across f__law_dice f__law_next f__law_like f__law_web f__law_tree f__law_is f__law_refused f__law_reach f__law_leads f_law : Addr}
  {cc_tree pp_tree cc_law pp_law : Addr}
  {C_WebError C_BadWeb C_NoHand C_NoRoad C_NoLetter C_BadText C_Web : Addr}
  {od_BadWeb___init__ an_BadWeb___init__ : Option Addr} {sl_BadWeb___init__ : Array (Option Value)} {oc_BadWeb___init__ kV_BadWeb___init__ dc_BadWeb___init__ pm_BadWeb___init__ cd_BadWeb___init__ ct_BadWeb___init__ : Value}
  {od_Web___init__ an_Web___init__ : Option Addr} {sl_Web___init__ : Array (Option Value)} {oc_Web___init__ kV_Web___init__ dc_Web___init__ pm_Web___init__ cd_Web___init__ ct_Web___init__ : Value}
  {od_Web_hands an_Web_hands : Option Addr} {sl_Web_hands : Array (Option Value)} {oc_Web_hands kV_Web_hands dc_Web_hands pm_Web_hands cd_Web_hands ct_Web_hands : Value}
  {od_Web_roads an_Web_roads : Option Addr} {sl_Web_roads : Array (Option Value)} {oc_Web_roads kV_Web_roads dc_Web_roads pm_Web_roads cd_Web_roads ct_Web_roads : Value}
  {od_tree an_tree : Option Addr} {sl_tree : Array (Option Value)} {oc_tree kV_tree dc_tree pm_tree ct_tree : Value}
  {oo_tree : Value} {dd2_tree : Option Addr} {fv_tree : Array Value} {ss_tree : Array (Option Value)}
  {od_instead an_instead : Option Addr} {sl_instead : Array (Option Value)} {oc_instead kV_instead dc_instead pm_instead cd_instead ct_instead : Value}
  {od_side an_side : Option Addr} {sl_side : Array (Option Value)} {oc_side kV_side dc_side pm_side cd_side ct_side : Value}
  {od__check_web an__check_web : Option Addr} {sl__check_web : Array (Option Value)} {oc__check_web kV__check_web dc__check_web pm__check_web cd__check_web ct__check_web : Value}
  {od__is_bad an__is_bad : Option Addr} {sl__is_bad : Array (Option Value)} {oc__is_bad kV__is_bad dc__is_bad pm__is_bad cd__is_bad ct__is_bad : Value}
  {od__check_road an__check_road : Option Addr} {sl__check_road : Array (Option Value)} {oc__check_road kV__check_road dc__check_road pm__check_road cd__check_road ct__check_road : Value}
  {od__paths an__paths : Option Addr} {sl__paths : Array (Option Value)} {oc__paths kV__paths dc__paths pm__paths cd__paths ct__paths : Value}
  {od__across an__across : Option Addr} {sl__across : Array (Option Value)} {oc__across kV__across dc__across pm__across cd__across ct__across : Value}
  {od__law_dice an__law_dice : Option Addr} {sl__law_dice : Array (Option Value)} {oc__law_dice kV__law_dice dc__law_dice pm__law_dice cd__law_dice ct__law_dice : Value}
  {od__law_next an__law_next : Option Addr} {sl__law_next : Array (Option Value)} {oc__law_next kV__law_next dc__law_next pm__law_next cd__law_next ct__law_next : Value}
  {od__law_like an__law_like : Option Addr} {sl__law_like : Array (Option Value)} {oc__law_like kV__law_like dc__law_like pm__law_like cd__law_like ct__law_like : Value}
  {od__law_web an__law_web : Option Addr} {sl__law_web : Array (Option Value)} {oc__law_web kV__law_web dc__law_web pm__law_web cd__law_web ct__law_web : Value}
  {od__law_tree an__law_tree : Option Addr} {sl__law_tree : Array (Option Value)} {oc__law_tree kV__law_tree dc__law_tree pm__law_tree cd__law_tree ct__law_tree : Value}
  {od__law_is an__law_is : Option Addr} {sl__law_is : Array (Option Value)} {oc__law_is kV__law_is dc__law_is pm__law_is cd__law_is ct__law_is : Value}
  {od__law_refused an__law_refused : Option Addr} {sl__law_refused : Array (Option Value)} {oc__law_refused kV__law_refused dc__law_refused pm__law_refused cd__law_refused ct__law_refused : Value}
  {od__law_reach an__law_reach : Option Addr} {sl__law_reach : Array (Option Value)} {oc__law_reach kV__law_reach dc__law_reach pm__law_reach cd__law_reach ct__law_reach : Value}
  {od__law_leads an__law_leads : Option Addr} {sl__law_leads : Array (Option Value)} {oc__law_leads kV__law_leads dc__law_leads pm__law_leads cd__law_leads ct__law_leads : Value}
  {od_law an_law : Option Addr} {sl_law : Array (Option Value)} {oc_law kV_law dc_law pm_law ct_law : Value}
  {oo_law : Value} {dd2_law : Option Addr} {fv_law : Array Value} {ss_law : Array (Option Value)}
  {nm_BadWeb q_BadWeb : Str} {N_BadWeb : Addr} {bs_BadWeb : List Value} {sn_BadWeb : List Str} {sub_BadWeb : List Value} {ab_BadWeb : Bool} {col_BadWeb : Option Bool} {dd_BadWeb : Option Addr} {m0_BadWeb m1_BadWeb m2_BadWeb m3_BadWeb m5_BadWeb : Option Value}
  {tg_MOST_HANDS tg_MOST_ROADS tg_MOST_COST : _}
  (a_tree : PySem.W.nsIn K mainGlobals "tree" = some (some (.ref f_tree)))
  (a_instead : PySem.W.nsIn K mainGlobals "instead" = some (some (.ref f_instead)))
  (a_side : PySem.W.nsIn K mainGlobals "side" = some (some (.ref f_side)))
  (a__check_web : PySem.W.nsIn K mainGlobals "_check_web" = some (some (.ref f__check_web)))
  (a__is_bad : PySem.W.nsIn K mainGlobals "_is_bad" = some (some (.ref f__is_bad)))
  (a__check_road : PySem.W.nsIn K mainGlobals "_check_road" = some (some (.ref f__check_road)))
  (a__paths : PySem.W.nsIn K mainGlobals "_paths" = some (some (.ref f__paths)))
  (a__across : PySem.W.nsIn K mainGlobals "_across" = some (some (.ref f__across)))
  (a__law_dice : PySem.W.nsIn K mainGlobals "_law_dice" = some (some (.ref f__law_dice)))
  (a__law_next : PySem.W.nsIn K mainGlobals "_law_next" = some (some (.ref f__law_next)))
  (a__law_like : PySem.W.nsIn K mainGlobals "_law_like" = some (some (.ref f__law_like)))
  (a__law_web : PySem.W.nsIn K mainGlobals "_law_web" = some (some (.ref f__law_web)))
  (a__law_tree : PySem.W.nsIn K mainGlobals "_law_tree" = some (some (.ref f__law_tree)))
  (a__law_is : PySem.W.nsIn K mainGlobals "_law_is" = some (some (.ref f__law_is)))
  (a__law_refused : PySem.W.nsIn K mainGlobals "_law_refused" = some (some (.ref f__law_refused)))
  (a__law_reach : PySem.W.nsIn K mainGlobals "_law_reach" = some (some (.ref f__law_reach)))
  (a__law_leads : PySem.W.nsIn K mainGlobals "_law_leads" = some (some (.ref f__law_leads)))
  (a_law : PySem.W.nsIn K mainGlobals "law" = some (some (.ref f_law)))
  (g_WebError : PySem.W.nsIn K mainGlobals "WebError" = some (some (.ref C_WebError)))
  (g_BadWeb : PySem.W.nsIn K mainGlobals "BadWeb" = some (some (.ref C_BadWeb)))
  (g_NoHand : PySem.W.nsIn K mainGlobals "NoHand" = some (some (.ref C_NoHand)))
  (g_NoRoad : PySem.W.nsIn K mainGlobals "NoRoad" = some (some (.ref C_NoRoad)))
  (g_NoLetter : PySem.W.nsIn K mainGlobals "NoLetter" = some (some (.ref C_NoLetter)))
  (g_BadText : PySem.W.nsIn K mainGlobals "BadText" = some (some (.ref C_BadText)))
  (g_Web : PySem.W.nsIn K mainGlobals "Web" = some (some (.ref C_Web)))
  (z_ValueError : PySem.W.nsIn K mainGlobals "ValueError" = some none)
  (z_bool : PySem.W.nsIn K mainGlobals "bool" = some none)
  (z_dict : PySem.W.nsIn K mainGlobals "dict" = some none)
  (z_enumerate : PySem.W.nsIn K mainGlobals "enumerate" = some none)
  (z_int : PySem.W.nsIn K mainGlobals "int" = some none)
  (z_isinstance : PySem.W.nsIn K mainGlobals "isinstance" = some none)
  (z_len : PySem.W.nsIn K mainGlobals "len" = some none)
  (z_list : PySem.W.nsIn K mainGlobals "list" = some none)
  (z_min : PySem.W.nsIn K mainGlobals "min" = some none)
  (z_range : PySem.W.nsIn K mainGlobals "range" = some none)
  (z_set : PySem.W.nsIn K mainGlobals "set" = some none)
  (z_sorted : PySem.W.nsIn K mainGlobals "sorted" = some none)
  (z_str : PySem.W.nsIn K mainGlobals "str" = some none)
  (z_tuple : PySem.W.nsIn K mainGlobals "tuple" = some none)
  (g_MOST_HANDS : PySem.W.nsIn K mainGlobals "MOST_HANDS" = some (some (.int 8 tg_MOST_HANDS)))
  (g_MOST_ROADS : PySem.W.nsIn K mainGlobals "MOST_ROADS" = some (some (.int 20 tg_MOST_ROADS)))
  (g_MOST_COST : PySem.W.nsIn K mainGlobals "MOST_COST" = some (some (.int 99 tg_MOST_COST)))
  (a_BadWeb___init__ : PySem.W.findIn K (.ref C_BadWeb) "__init__" = some (some (.ref f_BadWeb___init__)))
  (i_BadWeb___init__ : PySem.W.isFn K (.ref f_BadWeb___init__) = true)
  (l_BadWeb___init__ : K.lookup f_BadWeb___init__ = some ⟨oc_BadWeb___init__, od_BadWeb___init__, .func (PySem.W.fnOf "__init__" "BadWeb.__init__" (defArgs s_BadWeb___init__) (defBody s_BadWeb___init__) (defScope s_BadWeb___init__) .none kV_BadWeb___init__ dc_BadWeb___init__ pm_BadWeb___init__ an_BadWeb___init__ cd_BadWeb___init__ ct_BadWeb___init__), sl_BadWeb___init__⟩)
  (c_BadWeb___init__ : PySem.W.codeIn K cd_BadWeb___init__ "BadWeb.__init__" = true)
  (k_BadWeb___init__ : PySem.W.keepIn K (.ref f_BadWeb___init__) = true)
  (a_Web___init__ : PySem.W.findIn K (.ref C_Web) "__init__" = some (some (.ref f_Web___init__)))
  (i_Web___init__ : PySem.W.isFn K (.ref f_Web___init__) = true)
  (l_Web___init__ : K.lookup f_Web___init__ = some ⟨oc_Web___init__, od_Web___init__, .func (PySem.W.fnOf "__init__" "Web.__init__" (defArgs s_Web___init__) (defBody s_Web___init__) (defScope s_Web___init__) .none kV_Web___init__ dc_Web___init__ pm_Web___init__ an_Web___init__ cd_Web___init__ ct_Web___init__), sl_Web___init__⟩)
  (c_Web___init__ : PySem.W.codeIn K cd_Web___init__ "Web.__init__" = true)
  (k_Web___init__ : PySem.W.keepIn K (.ref f_Web___init__) = true)
  (a_Web_hands : PySem.W.findIn K (.ref C_Web) "hands" = some (some (.ref f_Web_hands)))
  (i_Web_hands : PySem.W.isFn K (.ref f_Web_hands) = true)
  (l_Web_hands : K.lookup f_Web_hands = some ⟨oc_Web_hands, od_Web_hands, .func (PySem.W.fnOf "hands" "Web.hands" (defArgs s_Web_hands) (defBody s_Web_hands) (defScope s_Web_hands) .none kV_Web_hands dc_Web_hands pm_Web_hands an_Web_hands cd_Web_hands ct_Web_hands), sl_Web_hands⟩)
  (c_Web_hands : PySem.W.codeIn K cd_Web_hands "Web.hands" = true)
  (k_Web_hands : PySem.W.keepIn K (.ref f_Web_hands) = true)
  (a_Web_roads : PySem.W.findIn K (.ref C_Web) "roads" = some (some (.ref f_Web_roads)))
  (i_Web_roads : PySem.W.isFn K (.ref f_Web_roads) = true)
  (l_Web_roads : K.lookup f_Web_roads = some ⟨oc_Web_roads, od_Web_roads, .func (PySem.W.fnOf "roads" "Web.roads" (defArgs s_Web_roads) (defBody s_Web_roads) (defScope s_Web_roads) .none kV_Web_roads dc_Web_roads pm_Web_roads an_Web_roads cd_Web_roads ct_Web_roads), sl_Web_roads⟩)
  (c_Web_roads : PySem.W.codeIn K cd_Web_roads "Web.roads" = true)
  (k_Web_roads : PySem.W.keepIn K (.ref f_Web_roads) = true)
  (l_tree : K.lookup f_tree = some ⟨oc_tree, od_tree, .func (PySem.W.fnOf "tree" "tree" (defArgs s_tree) (defBody s_tree) (defScope s_tree) .none kV_tree dc_tree pm_tree an_tree (.ref cc_tree) ct_tree), sl_tree⟩)
  (c_tree : PySem.W.codeIn K (.ref cc_tree) "tree" = true)
  (lc_tree : K.lookup cc_tree = some ⟨oo_tree, dd2_tree, .fields fv_tree, ss_tree⟩)
  (tab_tree : fv_tree[11]? = some (.ref pp_tree))
  (tno_tree : K.lookup pp_tree = none)
  (k_tree : PySem.W.keepIn K (.ref f_tree) = true)
  (l_instead : K.lookup f_instead = some ⟨oc_instead, od_instead, .func (PySem.W.fnOf "instead" "instead" (defArgs s_instead) (defBody s_instead) (defScope s_instead) .none kV_instead dc_instead pm_instead an_instead cd_instead ct_instead), sl_instead⟩)
  (c_instead : PySem.W.codeIn K cd_instead "instead" = true)
  (k_instead : PySem.W.keepIn K (.ref f_instead) = true)
  (l_side : K.lookup f_side = some ⟨oc_side, od_side, .func (PySem.W.fnOf "side" "side" (defArgs s_side) (defBody s_side) (defScope s_side) .none kV_side dc_side pm_side an_side cd_side ct_side), sl_side⟩)
  (c_side : PySem.W.codeIn K cd_side "side" = true)
  (k_side : PySem.W.keepIn K (.ref f_side) = true)
  (l__check_web : K.lookup f__check_web = some ⟨oc__check_web, od__check_web, .func (PySem.W.fnOf "_check_web" "_check_web" (defArgs s__check_web) (defBody s__check_web) (defScope s__check_web) .none kV__check_web dc__check_web pm__check_web an__check_web cd__check_web ct__check_web), sl__check_web⟩)
  (c__check_web : PySem.W.codeIn K cd__check_web "_check_web" = true)
  (k__check_web : PySem.W.keepIn K (.ref f__check_web) = true)
  (l__is_bad : K.lookup f__is_bad = some ⟨oc__is_bad, od__is_bad, .func (PySem.W.fnOf "_is_bad" "_is_bad" (defArgs s__is_bad) (defBody s__is_bad) (defScope s__is_bad) .none kV__is_bad dc__is_bad pm__is_bad an__is_bad cd__is_bad ct__is_bad), sl__is_bad⟩)
  (c__is_bad : PySem.W.codeIn K cd__is_bad "_is_bad" = true)
  (k__is_bad : PySem.W.keepIn K (.ref f__is_bad) = true)
  (l__check_road : K.lookup f__check_road = some ⟨oc__check_road, od__check_road, .func (PySem.W.fnOf "_check_road" "_check_road" (defArgs s__check_road) (defBody s__check_road) (defScope s__check_road) .none kV__check_road dc__check_road pm__check_road an__check_road cd__check_road ct__check_road), sl__check_road⟩)
  (c__check_road : PySem.W.codeIn K cd__check_road "_check_road" = true)
  (k__check_road : PySem.W.keepIn K (.ref f__check_road) = true)
  (l__paths : K.lookup f__paths = some ⟨oc__paths, od__paths, .func (PySem.W.fnOf "_paths" "_paths" (defArgs s__paths) (defBody s__paths) (defScope s__paths) .none kV__paths dc__paths pm__paths an__paths cd__paths ct__paths), sl__paths⟩)
  (c__paths : PySem.W.codeIn K cd__paths "_paths" = true)
  (k__paths : PySem.W.keepIn K (.ref f__paths) = true)
  (l__across : K.lookup f__across = some ⟨oc__across, od__across, .func (PySem.W.fnOf "_across" "_across" (defArgs s__across) (defBody s__across) (defScope s__across) .none kV__across dc__across pm__across an__across cd__across ct__across), sl__across⟩)
  (c__across : PySem.W.codeIn K cd__across "_across" = true)
  (k__across : PySem.W.keepIn K (.ref f__across) = true)
  (l__law_dice : K.lookup f__law_dice = some ⟨oc__law_dice, od__law_dice, .func (PySem.W.fnOf "_law_dice" "_law_dice" (defArgs s__law_dice) (defBody s__law_dice) (defScope s__law_dice) .none kV__law_dice dc__law_dice pm__law_dice an__law_dice cd__law_dice ct__law_dice), sl__law_dice⟩)
  (c__law_dice : PySem.W.codeIn K cd__law_dice "_law_dice" = true)
  (k__law_dice : PySem.W.keepIn K (.ref f__law_dice) = true)
  (l__law_next : K.lookup f__law_next = some ⟨oc__law_next, od__law_next, .func (PySem.W.fnOf "_law_next" "_law_next" (defArgs s__law_next) (defBody s__law_next) (defScope s__law_next) .none kV__law_next dc__law_next pm__law_next an__law_next cd__law_next ct__law_next), sl__law_next⟩)
  (c__law_next : PySem.W.codeIn K cd__law_next "_law_next" = true)
  (k__law_next : PySem.W.keepIn K (.ref f__law_next) = true)
  (l__law_like : K.lookup f__law_like = some ⟨oc__law_like, od__law_like, .func (PySem.W.fnOf "_law_like" "_law_like" (defArgs s__law_like) (defBody s__law_like) (defScope s__law_like) .none kV__law_like dc__law_like pm__law_like an__law_like cd__law_like ct__law_like), sl__law_like⟩)
  (c__law_like : PySem.W.codeIn K cd__law_like "_law_like" = true)
  (k__law_like : PySem.W.keepIn K (.ref f__law_like) = true)
  (l__law_web : K.lookup f__law_web = some ⟨oc__law_web, od__law_web, .func (PySem.W.fnOf "_law_web" "_law_web" (defArgs s__law_web) (defBody s__law_web) (defScope s__law_web) .none kV__law_web dc__law_web pm__law_web an__law_web cd__law_web ct__law_web), sl__law_web⟩)
  (c__law_web : PySem.W.codeIn K cd__law_web "_law_web" = true)
  (k__law_web : PySem.W.keepIn K (.ref f__law_web) = true)
  (l__law_tree : K.lookup f__law_tree = some ⟨oc__law_tree, od__law_tree, .func (PySem.W.fnOf "_law_tree" "_law_tree" (defArgs s__law_tree) (defBody s__law_tree) (defScope s__law_tree) .none kV__law_tree dc__law_tree pm__law_tree an__law_tree cd__law_tree ct__law_tree), sl__law_tree⟩)
  (c__law_tree : PySem.W.codeIn K cd__law_tree "_law_tree" = true)
  (k__law_tree : PySem.W.keepIn K (.ref f__law_tree) = true)
  (l__law_is : K.lookup f__law_is = some ⟨oc__law_is, od__law_is, .func (PySem.W.fnOf "_law_is" "_law_is" (defArgs s__law_is) (defBody s__law_is) (defScope s__law_is) .none kV__law_is dc__law_is pm__law_is an__law_is cd__law_is ct__law_is), sl__law_is⟩)
  (c__law_is : PySem.W.codeIn K cd__law_is "_law_is" = true)
  (k__law_is : PySem.W.keepIn K (.ref f__law_is) = true)
  (l__law_refused : K.lookup f__law_refused = some ⟨oc__law_refused, od__law_refused, .func (PySem.W.fnOf "_law_refused" "_law_refused" (defArgs s__law_refused) (defBody s__law_refused) (defScope s__law_refused) .none kV__law_refused dc__law_refused pm__law_refused an__law_refused cd__law_refused ct__law_refused), sl__law_refused⟩)
  (c__law_refused : PySem.W.codeIn K cd__law_refused "_law_refused" = true)
  (k__law_refused : PySem.W.keepIn K (.ref f__law_refused) = true)
  (l__law_reach : K.lookup f__law_reach = some ⟨oc__law_reach, od__law_reach, .func (PySem.W.fnOf "_law_reach" "_law_reach" (defArgs s__law_reach) (defBody s__law_reach) (defScope s__law_reach) .none kV__law_reach dc__law_reach pm__law_reach an__law_reach cd__law_reach ct__law_reach), sl__law_reach⟩)
  (c__law_reach : PySem.W.codeIn K cd__law_reach "_law_reach" = true)
  (k__law_reach : PySem.W.keepIn K (.ref f__law_reach) = true)
  (l__law_leads : K.lookup f__law_leads = some ⟨oc__law_leads, od__law_leads, .func (PySem.W.fnOf "_law_leads" "_law_leads" (defArgs s__law_leads) (defBody s__law_leads) (defScope s__law_leads) .none kV__law_leads dc__law_leads pm__law_leads an__law_leads cd__law_leads ct__law_leads), sl__law_leads⟩)
  (c__law_leads : PySem.W.codeIn K cd__law_leads "_law_leads" = true)
  (k__law_leads : PySem.W.keepIn K (.ref f__law_leads) = true)
  (l_law : K.lookup f_law = some ⟨oc_law, od_law, .func (PySem.W.fnOf "law" "law" (defArgs s_law) (defBody s_law) (defScope s_law) .none kV_law dc_law pm_law an_law (.ref cc_law) ct_law), sl_law⟩)
  (c_law : PySem.W.codeIn K (.ref cc_law) "law" = true)
  (lc_law : K.lookup cc_law = some ⟨oo_law, dd2_law, .fields fv_law, ss_law⟩)
  (tab_law : fv_law[11]? = some (.ref pp_law))
  (tno_law : K.lookup pp_law = none)
  (k_law : PySem.W.keepIn K (.ref f_law) = true)
  (ga_BadWeb : PySem.W.findIn K (.ref C_BadWeb) "__getattribute__" = some (some (.builtin "BaseException.__getattribute__")))
  (gg_BadWeb : PySem.W.findIn K (.ref C_BadWeb) "__getattr__" = some none)
  (sub_BadWeb_BaseException : PySem.W.subIn K (.ref C_BadWeb) (.type "BaseException") = some true)
  (hd_BadWeb : PySem.W.hasDictIn K C_BadWeb = true)
  (hc_BadWeb : PySem.W.findIn K (.ref C_BadWeb) "__class__" = some (some (.builtin "object.__class__")))
  (obj_get : PySem.W.specialIn K (.builtin "object.__class__") "__get__" = some (some (.builtin "getset_descriptor.__get__")))
  (obj_takes : PySem.W.takesIn K (.builtin "object.__class__") = some true)
  (mro_BadWeb : PySem.W.mroIn K C_BadWeb (.type "object") = some true)
  (xl_BadWeb : K.lookup C_BadWeb = some (excClassObj nm_BadWeb q_BadWeb C_BadWeb N_BadWeb bs_BadWeb [.ref C_WebError, .type "ValueError", .type "Exception", .type "BaseException", .type "object"] true sn_BadWeb sub_BadWeb ab_BadWeb col_BadWeb dd_BadWeb m0_BadWeb m1_BadWeb m2_BadWeb m3_BadWeb m5_BadWeb "ValueError.__new__"))
  (sa_BadWeb : PySem.W.findIn K (.ref C_BadWeb) "__setattr__" = some (some (.builtin "object.__setattr__")))
  (ty_BadWeb : PySem.W.typeIn K (.ref C_BadWeb) = some (.type "type"))
  (kc_BadWeb : PySem.W.keepIn K (.ref C_BadWeb) = true)
  (is_t_BadWeb : PySem.W.typeIn K (.ref f_BadWeb___init__) = some (.type "function"))
  (is_no_BadWeb_why : PySem.W.findIn K (.ref C_BadWeb) "why" = some none)
  (is_no_BadWeb_number : PySem.W.findIn K (.ref C_BadWeb) "number" = some none)
  (sub_WebError_BaseException : PySem.W.subIn K (.ref C_WebError) (.type "BaseException") = some true)
  (hd_WebError : PySem.W.hasDictIn K C_WebError = true)
  (ty_WebError : PySem.W.typeIn K (.ref C_WebError) = some (.type "type"))
  (sr_BadWeb_WebError : PySem.W.subIn K (.ref C_BadWeb) (.ref C_WebError) = some true)
  (cl_BadText : PySem.W.isClsIn K C_BadText = true)
  (sr_BadWeb_BadText : PySem.W.subIn K (.ref C_BadWeb) (.ref C_BadText) = some false)
  (ty_BadText : PySem.W.typeIn K (.ref C_BadText) = some (.type "type"))
  (sr_BadWeb_BadWeb : PySem.W.subIn K (.ref C_BadWeb) (.ref C_BadWeb) = some true)
  (cl_BadWeb : PySem.W.isClsIn K C_BadWeb = true)
  (cl_NoHand : PySem.W.isClsIn K C_NoHand = true)
  (sr_BadWeb_NoHand : PySem.W.subIn K (.ref C_BadWeb) (.ref C_NoHand) = some false)
  (ty_NoHand : PySem.W.typeIn K (.ref C_NoHand) = some (.type "type"))
  (cl_NoLetter : PySem.W.isClsIn K C_NoLetter = true)
  (sr_BadWeb_NoLetter : PySem.W.subIn K (.ref C_BadWeb) (.ref C_NoLetter) = some false)
  (ty_NoLetter : PySem.W.typeIn K (.ref C_NoLetter) = some (.type "type"))
  (cl_NoRoad : PySem.W.isClsIn K C_NoRoad = true)
  (sr_BadWeb_NoRoad : PySem.W.subIn K (.ref C_BadWeb) (.ref C_NoRoad) = some false)
  (ty_NoRoad : PySem.W.typeIn K (.ref C_NoRoad) = some (.type "type"))
  (sub_BadWeb_ValueError : PySem.W.subIn K (.ref C_BadWeb) (.type "ValueError") = some true)
  (ga_NoRoad : PySem.W.findIn K (.ref C_NoRoad) "__getattribute__" = some (some (.builtin "BaseException.__getattribute__")))
  (gg_NoRoad : PySem.W.findIn K (.ref C_NoRoad) "__getattr__" = some none)
  (sub_NoRoad_BaseException : PySem.W.subIn K (.ref C_NoRoad) (.type "BaseException") = some true)
  (hd_NoRoad : PySem.W.hasDictIn K C_NoRoad = true)
  (hc_NoRoad : PySem.W.findIn K (.ref C_NoRoad) "__class__" = some (some (.builtin "object.__class__")))
  (mro_NoRoad : PySem.W.mroIn K C_NoRoad (.type "object") = some true)
  (is_xo_NoRoad : PySem.W.excIn K C_NoRoad [.type "ValueError", .type "Exception", .type "BaseException", .type "object"] "ValueError.__new__" = true)
  (is_kc_NoRoad : PySem.W.keepIn K (.ref C_NoRoad) = true)
  (is_ty_NoRoad : PySem.W.typeIn K (.ref C_NoRoad) = some (.type "type"))
  (sr_NoRoad_WebError : PySem.W.subIn K (.ref C_NoRoad) (.ref C_WebError) = some true)
  (sr_NoRoad_BadText : PySem.W.subIn K (.ref C_NoRoad) (.ref C_BadText) = some false)
  (sr_NoRoad_NoRoad : PySem.W.subIn K (.ref C_NoRoad) (.ref C_NoRoad) = some true)
  (sr_NoRoad_BadWeb : PySem.W.subIn K (.ref C_NoRoad) (.ref C_BadWeb) = some false)
  (sr_NoRoad_NoHand : PySem.W.subIn K (.ref C_NoRoad) (.ref C_NoHand) = some false)
  (sr_NoRoad_NoLetter : PySem.W.subIn K (.ref C_NoRoad) (.ref C_NoLetter) = some false)
  (sub_NoRoad_ValueError : PySem.W.subIn K (.ref C_NoRoad) (.type "ValueError") = some true)
  (pg_Web : PySem.W.plainGet K C_Web Str.empty = true)
  (hd_Web : PySem.W.hasDictIn K C_Web = true)
  (po_Web : PySem.W.plainOver K C_Web = true)
  (sa_Web : PySem.W.findIn K (.ref C_Web) "__setattr__" = some (some (.builtin "object.__setattr__")))
  (mk_Web : PySem.W.makesIn K C_Web = true)
  (kc_Web : PySem.W.keepIn K (.ref C_Web) = true)
  (na_Web__hands : PySem.W.findIn K (.ref C_Web) "_hands" = some none)
  (na_Web__roads : PySem.W.findIn K (.ref C_Web) "_roads" = some none)
  (rc_tree : ∃ r : DefRec, (PyProof.Rows.recsOf q).find? (fun e => e.name == ("tree" : Str)) = some r)
  (rc_law : ∃ r : DefRec, (PyProof.Rows.recsOf q).find? (fun e => e.name == ("law" : Str)) = some r)
  (pne_tree_law : pp_tree ≠ pp_law)
  : ∃ (fd : FuncData) (cs : List (Addr × Addr)) (T : List (Addr × Str)), (∀ p ∈ cs, K.lookup p.2 = none ∧ ∃ (t : Str) (r : DefRec), (PyProof.Rows.recsOf q).find? (fun e => e.name == t) = some r ∧ PySem.W.tabIn K t = some p) ∧ (∀ t ∈ T, ∃ p ∈ cs, t.1 = p.2) ∧ (∀ (s : Shared) (v : Value), BindsTo s fd ⟨[v], []⟩ [("_law_script", v)]) ∧ ∀ base : Heap, K.In base → base.Ns mainGlobals mg → (∀ p ∈ cs, LamX.TabB base mg p.1 p.2) → FnOk l.prog w K mg base CX0 8 fa fd ["_law_script"] (LT.spRun (LT.Scr K) T) := by
  have e := hfa.symm.trans (PySem.W.mg_of X G a_law)
  cases e
  have F_BadWeb___init__ := fun_mk (st := s_BadWeb___init__) l_BadWeb___init__ c_BadWeb___init__ k_BadWeb___init__
  have b_BadWeb___init__ := F_BadWeb___init__.binds (ps := ["self", "why", "number"]) fun _ _ _ _ _ _ us hl => match us, hl with | [_, _, _], _ => rfl
  have F_Web___init__ := fun_mk (st := s_Web___init__) l_Web___init__ c_Web___init__ k_Web___init__
  have b_Web___init__ := F_Web___init__.binds (ps := ["self", "hands", "roads"]) fun _ _ _ _ _ _ us hl => match us, hl with | [_, _, _], _ => rfl
  have F_Web_hands := fun_mk (st := s_Web_hands) l_Web_hands c_Web_hands k_Web_hands
  have b_Web_hands := F_Web_hands.binds (ps := ["self"]) fun _ _ _ _ _ _ us hl => match us, hl with | [_], _ => rfl
  have F_Web_roads := fun_mk (st := s_Web_roads) l_Web_roads c_Web_roads k_Web_roads
  have b_Web_roads := F_Web_roads.binds (ps := ["self"]) fun _ _ _ _ _ _ us hl => match us, hl with | [_], _ => rfl
  have F_tree := fun_mk (st := s_tree) l_tree c_tree k_tree
  have b_tree := F_tree.binds (ps := ["web"]) fun _ _ _ _ _ _ us hl => match us, hl with | [_], _ => rfl
  have F_instead := fun_mk (st := s_instead) l_instead c_instead k_instead
  have b_instead := F_instead.binds (ps := ["web", "number"]) fun _ _ _ _ _ _ us hl => match us, hl with | [_, _], _ => rfl
  have F_side := fun_mk (st := s_side) l_side c_side k_side
  have b_side := F_side.binds (ps := ["web", "number"]) fun _ _ _ _ _ _ us hl => match us, hl with | [_, _], _ => rfl
  have F__check_web := fun_mk (st := s__check_web) l__check_web c__check_web k__check_web
  have b__check_web := F__check_web.binds (ps := ["hands", "roads"]) fun _ _ _ _ _ _ us hl => match us, hl with | [_, _], _ => rfl
  have F__is_bad := fun_mk (st := s__is_bad) l__is_bad c__is_bad k__is_bad
  have b__is_bad := F__is_bad.binds (ps := ["hands", "road", "ahead"]) fun _ _ _ _ _ _ us hl => match us, hl with | [_, _, _], _ => rfl
  have F__check_road := fun_mk (st := s__check_road) l__check_road c__check_road k__check_road
  have b__check_road := F__check_road.binds (ps := ["web", "number"]) fun _ _ _ _ _ _ us hl => match us, hl with | [_, _], _ => rfl
  have F__paths := fun_mk (st := s__paths) l__paths c__paths k__paths
  have b__paths := F__paths.binds (ps := ["roads", "numbers", "start"]) fun _ _ _ _ _ _ us hl => match us, hl with | [_, _, _], _ => rfl
  have F__across := fun_mk (st := s__across) l__across c__across k__across
  have b__across := F__across.binds (ps := ["road", "hand"]) fun _ _ _ _ _ _ us hl => match us, hl with | [_, _], _ => rfl
  have F__law_dice := fun_mk (st := s__law_dice) l__law_dice c__law_dice k__law_dice
  have b__law_dice := F__law_dice.binds (ps := ["_law_script"]) fun _ _ _ _ _ _ us hl => match us, hl with | [_], _ => rfl
  have F__law_next := fun_mk (st := s__law_next) l__law_next c__law_next k__law_next
  have b__law_next := F__law_next.binds (ps := ["_law_dice_here", "_law_many"]) fun _ _ _ _ _ _ us hl => match us, hl with | [_, _], _ => rfl
  have F__law_like := fun_mk (st := s__law_like) l__law_like c__law_like k__law_like
  have b__law_like := F__law_like.binds (ps := ["_law_found", "_law_due"]) fun _ _ _ _ _ _ us hl => match us, hl with | [_, _], _ => rfl
  have F__law_web := fun_mk (st := s__law_web) l__law_web c__law_web k__law_web
  have b__law_web := F__law_web.binds (ps := ["_law_d", "_law_most"]) fun _ _ _ _ _ _ us hl => match us, hl with | [_, _], _ => rfl
  have F__law_tree := fun_mk (st := s__law_tree) l__law_tree c__law_tree k__law_tree
  have b__law_tree := F__law_tree.binds (ps := ["_law_roads"]) fun _ _ _ _ _ _ us hl => match us, hl with | [_], _ => rfl
  have F__law_is := fun_mk (st := s__law_is) l__law_is c__law_is k__law_is
  have b__law_is := F__law_is.binds (ps := ["_law_e", "_law_word"]) fun _ _ _ _ _ _ us hl => match us, hl with | [_, _], _ => rfl
  have F__law_refused := fun_mk (st := s__law_refused) l__law_refused c__law_refused k__law_refused
  have b__law_refused := F__law_refused.binds (ps := ["_law_work"]) fun _ _ _ _ _ _ us hl => match us, hl with | [_], _ => rfl
  have F__law_reach := fun_mk (st := s__law_reach) l__law_reach c__law_reach k__law_reach
  have b__law_reach := F__law_reach.binds (ps := ["_law_roads", "_law_numbers", "_law_begin"]) fun _ _ _ _ _ _ us hl => match us, hl with | [_, _, _], _ => rfl
  have F__law_leads := fun_mk (st := s__law_leads) l__law_leads c__law_leads k__law_leads
  have b__law_leads := F__law_leads.binds (ps := ["_law_roads", "_law_numbers", "_law_begin", "_law_end"]) fun _ _ _ _ _ _ us hl => match us, hl with | [_, _, _, _], _ => rfl
  have F_law := fun_mk (st := s_law) l_law c_law k_law
  have b_law := F_law.binds (ps := ["_law_script"]) fun _ _ _ _ _ _ us hl => match us, hl with | [_], _ => rfl
  let T : Txt K mg := {
    a_BadWeb___init__ := f_BadWeb___init__,
    d_BadWeb___init__ := _,
    a_Web___init__ := f_Web___init__,
    d_Web___init__ := _,
    a_Web_hands := f_Web_hands,
    d_Web_hands := _,
    a_Web_roads := f_Web_roads,
    d_Web_roads := _,
    a_tree := f_tree,
    d_tree := _,
    c_tree := cc_tree,
    p_tree := pp_tree,
    a_instead := f_instead,
    d_instead := _,
    a_side := f_side,
    d_side := _,
    a__check_web := f__check_web,
    d__check_web := _,
    a__is_bad := f__is_bad,
    d__is_bad := _,
    a__check_road := f__check_road,
    d__check_road := _,
    a__paths := f__paths,
    d__paths := _,
    a__across := f__across,
    d__across := _,
    a__law_dice := f__law_dice,
    d__law_dice := _,
    a__law_next := f__law_next,
    d__law_next := _,
    a__law_like := f__law_like,
    d__law_like := _,
    a__law_web := f__law_web,
    d__law_web := _,
    a__law_tree := f__law_tree,
    d__law_tree := _,
    a__law_is := f__law_is,
    d__law_is := _,
    a__law_refused := f__law_refused,
    d__law_refused := _,
    a__law_reach := f__law_reach,
    d__law_reach := _,
    a__law_leads := f__law_leads,
    d__law_leads := _,
    a_law := fa,
    d_law := _,
    c_law := cc_law,
    p_law := pp_law,
    C_WebError := C_WebError,
    C_BadWeb := C_BadWeb,
    C_NoHand := C_NoHand,
    C_NoRoad := C_NoRoad,
    C_NoLetter := C_NoLetter,
    C_BadText := C_BadText,
    C_Web := C_Web,
    F_BadWeb___init__ := F_BadWeb___init__,
    b_BadWeb___init__ := b_BadWeb___init__,
    F_Web___init__ := F_Web___init__,
    b_Web___init__ := b_Web___init__,
    F_Web_hands := F_Web_hands,
    b_Web_hands := b_Web_hands,
    F_Web_roads := F_Web_roads,
    b_Web_roads := b_Web_roads,
    F_tree := F_tree,
    FC_tree := ⟨_, _, _, _, _, _, _, _, rfl, l_tree, c_tree⟩,
    g_tree := PySem.W.mg_of X G a_tree,
    b_tree := b_tree,
    F_instead := F_instead,
    g_instead := PySem.W.mg_of X G a_instead,
    b_instead := b_instead,
    F_side := F_side,
    g_side := PySem.W.mg_of X G a_side,
    b_side := b_side,
    F__check_web := F__check_web,
    g__check_web := PySem.W.mg_of X G a__check_web,
    b__check_web := b__check_web,
    F__is_bad := F__is_bad,
    g__is_bad := PySem.W.mg_of X G a__is_bad,
    b__is_bad := b__is_bad,
    F__check_road := F__check_road,
    g__check_road := PySem.W.mg_of X G a__check_road,
    b__check_road := b__check_road,
    F__paths := F__paths,
    g__paths := PySem.W.mg_of X G a__paths,
    b__paths := b__paths,
    F__across := F__across,
    g__across := PySem.W.mg_of X G a__across,
    b__across := b__across,
    F__law_dice := F__law_dice,
    g__law_dice := PySem.W.mg_of X G a__law_dice,
    b__law_dice := b__law_dice,
    F__law_next := F__law_next,
    g__law_next := PySem.W.mg_of X G a__law_next,
    b__law_next := b__law_next,
    F__law_like := F__law_like,
    g__law_like := PySem.W.mg_of X G a__law_like,
    b__law_like := b__law_like,
    F__law_web := F__law_web,
    g__law_web := PySem.W.mg_of X G a__law_web,
    b__law_web := b__law_web,
    F__law_tree := F__law_tree,
    g__law_tree := PySem.W.mg_of X G a__law_tree,
    b__law_tree := b__law_tree,
    F__law_is := F__law_is,
    g__law_is := PySem.W.mg_of X G a__law_is,
    b__law_is := b__law_is,
    F__law_refused := F__law_refused,
    g__law_refused := PySem.W.mg_of X G a__law_refused,
    b__law_refused := b__law_refused,
    F__law_reach := F__law_reach,
    g__law_reach := PySem.W.mg_of X G a__law_reach,
    b__law_reach := b__law_reach,
    F__law_leads := F__law_leads,
    g__law_leads := PySem.W.mg_of X G a__law_leads,
    b__law_leads := b__law_leads,
    F_law := F_law,
    FC_law := ⟨_, _, _, _, _, _, _, _, rfl, l_law, c_law⟩,
    g_law := PySem.W.mg_of X G a_law,
    b_law := b_law,
    g_WebError := PySem.W.mg_of X G g_WebError,
    g_BadWeb := PySem.W.mg_of X G g_BadWeb,
    g_NoHand := PySem.W.mg_of X G g_NoHand,
    g_NoRoad := PySem.W.mg_of X G g_NoRoad,
    g_NoLetter := PySem.W.mg_of X G g_NoLetter,
    g_BadText := PySem.W.mg_of X G g_BadText,
    g_Web := PySem.W.mg_of X G g_Web,
    exc_BadWeb := ⟨ga_BadWeb, gg_BadWeb, sub_BadWeb_BaseException, hd_BadWeb, hc_BadWeb, obj_get, obj_takes, mro_BadWeb⟩,
    xf_BadWeb := ⟨ga_BadWeb, gg_BadWeb, sub_BadWeb_BaseException, hd_BadWeb⟩,
    o_BadWeb := ⟨⟨_, _, _, _, _, _, _, _, _, _, _, _, _, _, _, xl_BadWeb, rfl⟩, sa_BadWeb, sub_BadWeb_BaseException, ty_BadWeb, kc_BadWeb⟩,
    i_BadWeb := a_BadWeb___init__,
    t_BadWeb := is_t_BadWeb,
    no_BadWeb_why := is_no_BadWeb_why,
    no_BadWeb_number := is_no_BadWeb_number,
    ex_BadWeb_WebError := PySem.W.exm_ref sub_WebError_BaseException hd_WebError ty_WebError sr_BadWeb_WebError,
    ki_BadWeb_BadText := kit_f cl_BadText ty_BadText sr_BadWeb_BadText sr_BadWeb_BadWeb,
    ki_BadWeb_BadWeb := kit_t cl_BadWeb ty_BadWeb sr_BadWeb_BadWeb,
    ki_BadWeb_NoHand := kit_f cl_NoHand ty_NoHand sr_BadWeb_NoHand sr_BadWeb_BadWeb,
    ki_BadWeb_NoLetter := kit_f cl_NoLetter ty_NoLetter sr_BadWeb_NoLetter sr_BadWeb_BadWeb,
    ki_BadWeb_NoRoad := kit_f cl_NoRoad ty_NoRoad sr_BadWeb_NoRoad sr_BadWeb_BadWeb,
    ki_BadWeb_ValueError := kit_ty (by decide +kernel) sub_BadWeb_ValueError,
    exc_NoRoad := ⟨ga_NoRoad, gg_NoRoad, sub_NoRoad_BaseException, hd_NoRoad, hc_NoRoad, obj_get, obj_takes, mro_NoRoad⟩,
    xf_NoRoad := ⟨ga_NoRoad, gg_NoRoad, sub_NoRoad_BaseException, hd_NoRoad⟩,
    xo_NoRoad := is_xo_NoRoad,
    kc_NoRoad := is_kc_NoRoad,
    ty_NoRoad := is_ty_NoRoad,
    ex_NoRoad_WebError := PySem.W.exm_ref sub_WebError_BaseException hd_WebError ty_WebError sr_NoRoad_WebError,
    ki_NoRoad_BadText := kit_f cl_BadText ty_BadText sr_NoRoad_BadText sr_NoRoad_NoRoad,
    ki_NoRoad_BadWeb := kit_f cl_BadWeb ty_BadWeb sr_NoRoad_BadWeb sr_NoRoad_NoRoad,
    ki_NoRoad_NoHand := kit_f cl_NoHand ty_NoHand sr_NoRoad_NoHand sr_NoRoad_NoRoad,
    ki_NoRoad_NoLetter := kit_f cl_NoLetter ty_NoLetter sr_NoRoad_NoLetter sr_NoRoad_NoRoad,
    ki_NoRoad_NoRoad := kit_t cl_NoRoad ty_NoRoad sr_NoRoad_NoRoad,
    ki_NoRoad_ValueError := kit_ty (by decide +kernel) sub_NoRoad_ValueError,
    cl_Web := ⟨pg_Web, hd_Web, po_Web, sa_Web⟩,
    mk_Web := ⟨mk_Web, a_Web___init__, i_Web___init__, kc_Web⟩,
    m_Web_hands := ⟨a_Web_hands, i_Web_hands, k_Web_hands⟩,
    m_Web_roads := ⟨a_Web_roads, i_Web_roads, k_Web_roads⟩,
    na_Web__hands := na_Web__hands,
    na_Web__roads := na_Web__roads,
    nb_ValueError := PySem.W.mg_none_of X G z_ValueError,
    nb_bool := PySem.W.mg_none_of X G z_bool,
    nb_dict := PySem.W.mg_none_of X G z_dict,
    nb_enumerate := PySem.W.mg_none_of X G z_enumerate,
    nb_int := PySem.W.mg_none_of X G z_int,
    nb_isinstance := PySem.W.mg_none_of X G z_isinstance,
    nb_len := PySem.W.mg_none_of X G z_len,
    nb_list := PySem.W.mg_none_of X G z_list,
    nb_min := PySem.W.mg_none_of X G z_min,
    nb_range := PySem.W.mg_none_of X G z_range,
    nb_set := PySem.W.mg_none_of X G z_set,
    nb_sorted := PySem.W.mg_none_of X G z_sorted,
    nb_str := PySem.W.mg_none_of X G z_str,
    nb_tuple := PySem.W.mg_none_of X G z_tuple,
    g_MOST_HANDS := ⟨_, PySem.W.mg_of X G g_MOST_HANDS⟩,
    g_MOST_ROADS := ⟨_, PySem.W.mg_of X G g_MOST_ROADS⟩,
    g_MOST_COST := ⟨_, PySem.W.mg_of X G g_MOST_COST⟩ }
  refine ⟨PySem.W.fnOf "law" "law" (defArgs s_law) (defBody s_law) (defScope s_law) .none kV_law dc_law pm_law an_law (.ref cc_law) ct_law, [(cc_tree, pp_tree), (cc_law, pp_law)], [(pp_tree, qLam "tree"), (pp_law, qLam "law")], fun p hp => ?_, fun t ht => ?_, fun s v => .of_eq rfl, fun base b1 b2 b3 => (ok_law (B := [(pp_tree, qLam "tree"), (pp_law, qLam "law")]) T ?_).imp (run_of (good T.cs))⟩
  · simp only [List.mem_cons, List.not_mem_nil, or_false] at hp
    rcases hp with rfl | rfl
    · exact ⟨tno_tree, "tree", rc_tree.choose, rc_tree.choose_spec, tab_mk a_tree l_tree rfl lc_tree tab_tree⟩
    · exact ⟨tno_law, "law", rc_law.choose, rc_law.choose_spec, tab_mk a_law l_law rfl lc_law tab_law⟩
  · simp only [List.mem_cons, List.not_mem_nil, or_false] at ht
    rcases ht with rfl | rfl
    · exact ⟨(cc_tree, pp_tree), by simp, rfl⟩
    · exact ⟨(cc_law, pp_law), by simp, rfl⟩
  · exact ⟨b3 (cc_tree, pp_tree) (.head _), .head _, (fun a q m e => by simp only [List.mem_cons, Prod.mk.injEq, List.not_mem_nil, or_false] at m; rcases m with ⟨e1, e2⟩ | ⟨e1, e2⟩; exact e2; exact absurd (e1.symm.trans e) (Ne.symm pne_tree_law)), b3 (cc_law, pp_law) (.tail _ (.head _)), .tail _ (.head _), (fun a q m e => by simp only [List.mem_cons, Prod.mk.injEq, List.not_mem_nil, or_false] at m; rcases m with ⟨e1, e2⟩ | ⟨e1, e2⟩; exact absurd (e1.symm.trans e) pne_tree_law; exact e2)⟩
end TV
namespace TV
open PySem L2 LT
section
variable {c : Cs}
theorem across_ok (r : Rd3) (h : Int) : Rg (G__across c) [roadT r, .at (.int h)] fun t ts => t = oT (acr r h) ∧ ts = [roadT r, .at (.int h)] := by
  refine Rg_of rfl (Rn_seq (Rn_asg (Re_is rfl ⟨_, rfl, ?_⟩)))
  refine Rn_seq (Rn_if (Re_test (Re_lift rfl ⟨_, rfl, fun e => ?_, fun e => ?_⟩)))
  · refine Rn_ret (Re_is rfl ⟨?_, rfl⟩)
    unfold acr
    rw [if_pos (eqi e)]
    rfl
  · have e := nei e
    refine Rn_nx (Rn_seq (Rn_if (Re_test (Re_lift rfl ⟨_, rfl, fun e2 => ?_, fun e2 => ?_⟩))))
    · refine Rn_ret (Re_is rfl ⟨?_, rfl⟩)
      unfold acr
      rw [if_neg e, if_pos (eqi e2)]
      rfl
    · have e2 := nei e2
      refine Rn_nx (Rn_ret (Re_lift rfl ⟨?_, rfl⟩))
      unfold acr
      rw [if_neg e, if_neg e2]
      rfl
theorem isbad_ok (n : Int) (r : Rd3) (m : Bool) (qs : List Rd3) : Rg (G__is_bad c) [.at (.int n), roadT r, rT m qs] fun t ts => t = .at (.bl (isBadT n r qs)) ∧ ∃ m', ts = [.at (.int n), roadT r, rT m' qs] := by
  refine Rg_of rfl (Rn_seq (Rn_asg (Re_is rfl ⟨_, rfl, ?_⟩)))
  refine Rn_seq (Rn_if (Re_not (Re_ch3 rfl rfl rfl rfl rfl rfl rfl ⟨fun e => ?_, fun e => ?_⟩)))
  · refine Rn_ret (Re_lift rfl ⟨?_, m, rfl⟩)
    unfold isBadT
    rw [e]
    rfl
  · refine Rn_nx (Rn_seq (Rn_if (Re_not (Re_test (Re_lift (ch_some rfl rfl rfl rfl rfl) ⟨_, rfl, fun e2 => ?_, fun e2 => ?_⟩)))))
    · refine Rn_ret (Re_lift rfl ⟨?_, m, rfl⟩)
      unfold isBadT
      rw [e, e2]
      rfl
    · have bad : ∀ b : Bool, (qs.any fun q => decide (pr q = pr r) || decide (cst q = cst r)) = b → isBadT n r qs = b := fun b h => by
        unfold isBadT
        rw [e, e2, h]
        rfl
      refine Rn_nx (Rn_seq (Rn_for (fun _ i ρ => ∃ a b d, ρ = [.at (.int n), roadT r, rT false qs, .at (.int r.1), .at (.int r.2.1), .at (.int r.2.2), a, b, d] ∧ ((qs.take i).any fun q => decide (pr q = pr r) || decide (cst q = cst r)) = false) (Re_itR rfl ⟨⟨_, _, _, rfl, rfl⟩, ?_, ?_⟩)))
      · rintro i t ρ ht ⟨a, b, d, rfl, no⟩
        obtain ⟨q, hq, rfl⟩ := rsT_at ht
        refine ⟨_, rfl, Rn_if (Re_if (Re_test (Re_lift (f2_some rfl rfl pairD) ⟨_, rfl, fun e3 => Re_r rfl ?_, fun e3 => Re_test (Re_lift rfl ⟨_, rfl, ?_⟩)⟩)))⟩
        · refine ⟨fun _ => Rn_ret (Re_lift rfl ⟨?_, false, rfl⟩), fun z => by cases z⟩
          rw [bad true]
          refine List.any_eq_true.mpr ⟨q, List.mem_of_getElem? hq, ?_⟩
          rw [Bool.or_eq_true]
          exact .inl e3
        · refine ⟨fun e4 => Rn_ret (Re_lift rfl ⟨?_, false, rfl⟩), fun e4 => Rn_nx ⟨_, _, _, rfl, ?_⟩⟩
          · rw [bad true]
            refine List.any_eq_true.mpr ⟨q, List.mem_of_getElem? hq, ?_⟩
            rw [Bool.or_eq_true]
            exact .inr (decide_eq_true (eqi e4))
          · rw [any_take_succ hq, no, Bool.false_or, Bool.or_eq_false_iff]
            exact ⟨e3, decide_eq_false (nei e4)⟩
      · rintro ρ ⟨a, b, d, rfl, no⟩
        rw [rsT_len, List.take_length] at no
        exact Rn_ret (Re_lift rfl ⟨by rw [bad false no], false, rfl⟩)
/-- the state of _paths between two turns -/
structure PathsS (rs : List Rd3) (ks : List Int) (n start : Int) (m : Nat) (es : List EntT) (ws : List Int) : Prop where
  met : MetT rs ks n start es
  sub : ∀ h ∈ ws, h ∈ es.map (·.1)
  size : 2 * (8 - es.length) + ws.length = m
  top : m ≤ 15
theorem paths_ok {rs : List Rd3} {ks : List Int} {m m2 : Bool} {n start : Int} (rr : ∀ r ∈ rs, 0 ≤ r.1 ∧ r.1 < r.2.1 ∧ r.2.1 < n) (kr : ∀ k ∈ ks, 0 ≤ k ∧ k < rs.length) (s0 : 0 ≤ start) (s1 : start < n) (n8 : n ≤ 8) :
    Rg (G__paths c) [rT m rs, lT m2 ks, .at (.int start)] fun t ts => ∃ es m', t = dictT true es ∧ ts = [rT m rs, lT m' ks, .at (.int start)] ∧ PathsT rs ks n start es := by
  refine Rg_of rfl (Rn_seq (Rn_asg (Re_lift rfl ⟨_, rfl, ?_⟩)))
  refine Rn_seq (Rn_asg (Re_lift rfl ⟨_, rfl, ?_⟩))
  refine Rn_seq (Rn_wh 1000 (fun q ρ => ∃ (es : List EntT) (ws : List Int) (m' : Bool) (v5 v6 v7 : T), ρ = [rT m rs, lT m' ks, .at (.int start), dictT true es, lT true ws, v5, v6, v7] ∧
    PathsS rs ks n start q es ws ∧ ∀ h ∈ es.map (·.1), h ∉ ws → ∀ k ∈ ks, ∀ c, Edge rs k h c → c ∈ es.map (·.1)) (m := 15) (by decide) ?_ ?_)
  · refine ⟨[(start, [])], [start], m2, _, _, _, rfl, ⟨⟨by simp, fun h hh => ?_, by simp, fun e he => ?_⟩, fun h hh => by simpa using hh, rfl, by decide⟩, fun h hh hn => absurd (by simpa using hh) hn⟩
    · have : h = start := by simpa using hh
      omega
    · have : e = (start, []) := by simpa using he
      rw [this]
      exact ⟨[start], .nil, fun v hv => by simpa using hv⟩
  · rintro q ρ ⟨es, ws, m', v5, v6, v7, rfl, ⟨met, sub, size, top⟩, cl⟩
    refine Re_is (a := !(TI ws).isEmpty) rfl ⟨fun e => ?_, fun e => ?_⟩
    · have : ws = [] := by
        cases ws with
        | nil => rfl
        | cons w ws => cases e
      subst this
      exact Rn_ret (Re_move rfl ⟨es, m', rfl, rfl, met, fun h hh => cl h hh (by simp)⟩)
    · have hne : ws ≠ [] := fun z => by rw [z] at e; cases e
      obtain ⟨wr, here, rfl⟩ : ∃ wr here, ws = wr ++ [here] := ⟨ws.dropLast, ws.getLast hne, (List.dropLast_concat_getLast hne).symm⟩
      have hhere := sub here (by simp)
      have sz : 2 * (8 - es.length) + wr.length < q := by
        rw [List.length_append] at size
        simp at size
        omega
      refine Rn_seq (Rn_asg (Re_bm rfl rfl (Re_nil ⟨_, _, _, rfl, mpop_last wr here, _, rfl, ?_⟩)))
      refine Rn_for (fun _ i ρ => ∃ (q' : Nat) (es : List EntT) (ws : List Int) (v6 v7 : T), q' < q ∧ ρ = [rT m rs, lT false ks, .at (.int start), dictT true es, lT true ws, .at (.int here), v6, v7] ∧
        PathsS rs ks n start q' es ws ∧ here ∈ es.map (·.1) ∧ (∀ h ∈ es.map (·.1), h ∉ ws → h ≠ here → ∀ k ∈ ks, ∀ c, Edge rs k h c → c ∈ es.map (·.1)) ∧ ∀ k ∈ ks.take i, ∀ c, Edge rs k here c → c ∈ es.map (·.1)) (Re_itI (m := m') (rs := ks) rfl ⟨?_, ?_, ?_⟩)
      · refine ⟨_, es, wr, _, _, sz, rfl, ⟨met, fun h hh => sub h (by simp [hh]), rfl, by omega⟩, hhere, fun h hh hn hne k hk c hc => cl h hh ?_ k hk c hc, fun k hk => by simp at hk⟩
        simp [hn, hne]
      · rintro i t ρ ht ⟨q', es, ws, v6, v7, ml, rfl, ⟨met, sub, size, top⟩, hh, cl, done⟩
        obtain ⟨k, hk, rfl⟩ := TI_at ht
        obtain ⟨k0, k1⟩ := kr k (List.mem_of_getElem? hk)
        have hr : rs[k.toNat]? = some rs[k.toNat] := List.getElem?_eq_getElem (by omega)
        have r3 := rr _ (List.mem_of_getElem? hr)
        have step : ∀ c', c' ∈ es.map (·.1) → (∀ c, Edge rs k here c → c = c') → ∀ k ∈ ks.take (i + 1), ∀ c, Edge rs k here c → c ∈ es.map (·.1) := fun c' hc' un k2 hk2 c hc => by
          rw [List.take_succ, hk] at hk2
          rcases List.mem_append.mp hk2 with hk2 | hk2
          · exact done k2 hk2 c hc
          · have e : k2 = k := by simpa using hk2
            rw [e] at hc
            rw [un c hc]
            exact hc'
        refine ⟨_, rfl, Rn_seq (Rn_asg (Re_call (Re_xval (Re_lift (keep_some (f2_some rfl rfl (ix_rsT k0 hr)) rfl) (Re_xslot rfl (Re_xnil ⟨_, _, rfl, (across_ok _ _).mono fun t ts h => ?_⟩))))))⟩
        obtain ⟨rfl, rfl⟩ := h
        refine ⟨_, rfl, _, rfl, ?_⟩
        rcases acr_edge (h := here) r3.2.1 k0 hr with ⟨ea, ne⟩ | ⟨c, ea, cr, ed, un⟩
        · rw [ea]
          exact Rn_if (Re_if (Re_test (Re_lift rfl ⟨_, rfl, (fun z => by cases z), fun _ => Re_r rfl ⟨(fun z => by cases z), fun _ => Rn_nx ⟨q', es, ws, _, _, ml, rfl, ⟨met, sub, size, top⟩, hh, cl, step here hh fun c hc => absurd hc (ne c)⟩⟩⟩)))
        · rw [ea]
          refine Rn_if (Re_if (Re_test (Re_lift rfl ⟨_, rfl, fun _ => Re_test (Re_lift (f2_some rfl rfl (dict_in met.nd)) ⟨_, rfl, fun e3 => ?_, fun e3 => ?_⟩), (fun z => by cases z)⟩)))
          · have hc : c ∉ es.map (·.1) := by
              rw [Bool.not_eq_true'] at e3
              exact of_decide_eq_false e3
            obtain ⟨ns, hns⟩ := mem_key hh
            obtain ⟨vs, w4, w5⟩ := met.way _ hns
            have pl : vs.length = ns.length + 1 := w4.len
            have pn := nodup_bound n.toNat vs w4.nd fun x hx => by
              have := met.rg x (w5 x hx)
              omega
            have l8 := met.len n8 (by omega)
            have met2 := met.add hns hc (by rcases cr with e | e <;> omega) (List.mem_of_getElem? hk) ed
            have l82 := met2.len n8 (by omega)
            rw [List.length_append] at l82
            simp at l82
            have g1 : gDG (dictT true es) (.at (.int here)) = some (lT true ns) := dict_get met.nd hns
            have g2 : gCat (lT true ns) (lT true [k]) = some (lT true (ns ++ [k])) := cat_I (by simp; omega)
            have g3 : putT (dictT true es) (.at (.int c)) (lT true (ns ++ [k])) = some (dictT true (es ++ [(c, ns ++ [k])])) := dict_put hc (by omega)
            refine Rn_seq (Rn_dput (Re_lift (f2_some (f2_some rfl rfl g1) rfl g2) ⟨_, _, _, _, rfl, rfl, rfl, g3, ?_⟩))
            refine Rn_drop (Re_bm rfl rfl (Re_lift rfl ⟨_, _, _, rfl, mapp_I (l := ws) (by omega), ?_⟩))
            have mem : ∀ v ∈ es.map (·.1), v ∈ (es ++ [(c, ns ++ [k])]).map (·.1) := fun v hv => by
              rw [List.map_append]
              exact List.mem_append_left _ hv
            have memc : c ∈ (es ++ [(c, ns ++ [k])]).map (·.1) := by simp
            have inv : ∀ h ∈ (es ++ [(c, ns ++ [k])]).map (·.1), h ≠ c → h ∈ es.map (·.1) := fun h hh hn => by
              rw [List.map_append] at hh
              rcases List.mem_append.mp hh with hh | hh
              · exact hh
              · exact absurd (by simpa using hh) hn
            refine ⟨2 * (8 - (es.length + 1)) + (ws.length + 1), es ++ [(c, ns ++ [k])], ws ++ [c], _, _, by omega, rfl, ⟨met2, fun h hh' => ?_, by simp, by omega⟩, mem _ hh, fun h hh' hn hne k' hk' c' hc' => ?_, fun k' hk' c' hc' => ?_⟩
            · rcases List.mem_append.mp hh' with hh' | hh'
              · exact mem _ (sub h hh')
              · rw [List.mem_singleton.mp hh']
                exact memc
            · have hn1 : h ∉ ws := fun z => hn (List.mem_append_left _ z)
              have hn2 : h ≠ c := fun z => hn (by rw [z]; simp)
              exact mem _ (cl h (inv h hh' hn2) hn1 hne k' hk' c' hc')
            · rw [List.take_succ, hk] at hk'
              rcases List.mem_append.mp hk' with hk' | hk'
              · exact mem _ (done k' hk' c' hc')
              · have e : k' = k := by simpa using hk'
                rw [e] at hc'
                rw [un c' hc']
                exact memc
          · have hc : c ∈ es.map (·.1) := by
              rw [Bool.not_eq_false'] at e3
              exact of_decide_eq_true e3
            exact Rn_nx ⟨q', es, ws, _, _, ml, rfl, ⟨met, sub, size, top⟩, hh, cl, step c hc un⟩
      · rintro ρ ⟨q', es, ws, v6, v7, ml, rfl, st, hh, cl, done⟩
        refine ⟨q', ml, es, ws, _, _, _, _, rfl, st, fun h hh' hn k hk c hc => ?_⟩
        by_cases e : h = here
        · rw [e] at hc
          refine done k ?_ c hc
          rw [len_TI, List.take_length]
          exact hk
        · exact cl h hh' hn e k hk c hc
theorem check_ok {n : Int} {rs : List Rd3} {m : Bool} (w : WebOk n rs) : Rg (G__check_web c) [.at (.int n), rT m rs] fun t ts => t = .at .non ∧ ts = [.at (.int n), rT false rs] := by
  have := w.lo
  have := w.hi
  have l20 := w.len
  refine Rg_of rfl (Rn_seq (Rn_if (Re_not (Re_test (Re_lift (ch_some rfl rfl rfl rfl rfl) ⟨_, rfl, fun e => ?_, fun e => Rn_nx ?_⟩)))))
  · simp at e
    omega
  refine Rn_seq (Rn_if (Re_test (Re_lift rfl ⟨_, rfl, fun e => ?_, fun e => Rn_nx ?_⟩)))
  · have e := of_decide_eq_true e
    rw [rsT_len] at e
    omega
  refine Rn_seq (Rn_for (fun _ i ρ => ∃ v2 v3, ρ = [.at (.int n), rT false rs, v2, v3]) (Re_enR rfl ⟨⟨_, _, rfl⟩, ?_, ?_⟩))
  · rintro i t ρ ht ⟨v2, v3, rfl⟩
    obtain ⟨r, hr, rfl⟩ := en_at ht
    refine ⟨_, rfl, Rn_if (Re_test (Re_nE (Re_call (Re_xslot rfl (Re_xslot rfl (Re_xval (Re_lift (a := rT true (rs.take i)) ?_ (Re_xnil ⟨_, _, rfl, (isbad_ok _ _ _ _).mono fun t ts h => ?_⟩))))))))⟩
    · show gSl (rT false rs) none (some ((i : Nat) : Int)) = _
      exact sl_to (Nat.le_of_lt (List.getElem?_eq_some_iff.mp hr).1)
    · obtain ⟨rfl, m', rfl⟩ := h
      refine ⟨_, rfl, _, rfl, fun e => ?_, fun _ => Rn_nx ⟨_, _, rfl⟩⟩
      rw [notBadT w i r hr] at e
      cases e
  · rintro ρ ⟨v2, v3, rfl⟩
    have hp := paths_ok (c := c) (rs := rs) (ks := numbers rs.length) (m := false) (m2 := true) (n := n) (start := 0) (fun r hr => by
      have := w.rng r hr
      exact ⟨this.1, this.2.1, this.2.2.1⟩) (fun k hk => by
      have := numbers_mem.mp hk
      omega) (by decide) (by omega) (by omega)
    have hl : fLR (fCB (qCons (fVar 1) pNil) gLen) [.at (.int n), rT false rs, v2, v3] = some (lT true (numbers rs.length)) := by
      show (if (((rsT rs).length : Nat) : Int) ≤ 1000 ∧ -1000 ≤ (((rsT rs).length : Nat) : Int) then some (T.nd (.lst true) (intsT 0 (((rsT rs).length : Nat) : Int).toNat)) else none) = _
      rw [rsT_len, if_pos (by omega), rg_nums]
      rfl
    refine Rn_if (Re_test (Re_VP (Re_vCB (Re_cons (Re_nE (Re_call (Re_xslot rfl (Re_xval (Re_lift hl (Re_xval (Re_lift rfl (Re_xnil ⟨_, _, fill_fz rfl (frzdL_rsT rs) rfl, hp.mono fun t ts h => ?_⟩))))))))))))
    obtain ⟨es, m', rfl, rfl, ok⟩ := h
    refine ⟨_, rfl, Re_nil ⟨_, rfl, _, _, rfl, rfl, _, rfl, fun e => ?_, fun _ => Rn_nx ⟨rfl, rfl⟩⟩⟩
    have all := (met_allT w.lo ok.met ok.closed).mp w.conn
    have e := of_decide_eq_true e
    unfold valsD at e
    rw [List.length_map] at e
    omega
theorem frz_webT {C : Addr} {n : Int} {rs : List Rd3} : frzd (webT C n rs) = false := rfl
theorem make_ok {n : Int} {rs : List Rd3} {m : Bool} (w : WebOk n rs) : Rg (G_Web___init__ c) [.nd (.obj c.Web []) [], .at (.int n), rT m rs] fun t ts => t = .at .non ∧ ∃ m', ts = [webT c.Web n rs, .at (.int n), rT m' rs] := by
  have hl : fCB (qCons (fVar 2) pNil) gList [.nd (.obj c.Web []) [], .at (.int n), rT m rs, .hole] = some (rT true rs) := by
    show (if frzdL (rsT rs) = true then some (T.nd (.lst true) (rsT rs)) else none) = _
    rw [if_pos (frzdL_rsT rs)]
    rfl
  refine Rg_of rfl (Rn_seq (Rn_asg (Re_lift hl ⟨_, rfl, ?_⟩)))
  refine Rn_seq (Rn_drop (Re_call (Re_xslot rfl (Re_xslot rfl (Re_xnil ⟨_, _, rfl, (check_ok w).mono fun t ts h => ?_⟩)))))
  obtain ⟨rfl, rfl⟩ := h
  refine ⟨_, rfl, ?_⟩
  refine Rn_seq (Rn_fld (Re_is rfl ⟨_, _, _, rfl, rfl, att_new rfl (by decide), ?_⟩))
  exact Rn_fld (Re_takeR (m := false) rfl ⟨_, _, _, rfl, rfl, att_new (by decide) (by decide), rfl, m, rfl⟩)
theorem hands_ok {n : Int} {rs : List Rd3} : Rg (G_Web_hands c) [webT c.Web n rs] fun t ts => t = .at (.int n) ∧ ts = [webT c.Web n rs] := by
  have e : liftO (keepF (fFld c.Web "_hands" (fVar 0))) [webT c.Web n rs] = some (.ok (.at (.int n)), [webT c.Web n rs]) := by
    have : fFld c.Web "_hands" (fVar 0) [webT c.Web n rs] = some (.at (.int n)) := by
      show fldT c.Web "_hands" (webT c.Web n rs) = _
      exact fld_obj (j := 0) (by decide)
    unfold liftO
    rw [keep_some this rfl]
    rfl
  exact Rg_of rfl (Rn_ret (Re_is e ⟨rfl, rfl⟩))
theorem roads_ok {n : Int} {rs : List Rd3} : Rg (G_Web_roads c) [webT c.Web n rs] fun t ts => t = rT true rs ∧ ts = [webT c.Web n rs] := by
  have e : fCB (qCons (fFld c.Web "_roads" (fVar 0)) pNil) gList [webT c.Web n rs] = some (rT true rs) := by
    have : fFld c.Web "_roads" (fVar 0) [webT c.Web n rs] = some (rT false rs) := by
      show fldT c.Web "_roads" (webT c.Web n rs) = _
      exact fld_obj (j := 1) (by decide)
    unfold fCB qCons pNil
    rw [this]
    show (if frzdL (rsT rs) = true then some (T.nd (.lst true) (rsT rs)) else none) = _
    rw [if_pos (frzdL_rsT rs)]
    rfl
  exact Rg_of rfl (Rn_ret (Re_lift e ⟨rfl, rfl⟩))
end
end TV
namespace TV
open PySem L2 LT
section
variable {c : Cs}
theorem tree_ok' {n : Int} {rs : List Rd3} (w : WebOk n rs) : Rg (G_tree c) [webT c.Web n rs] fun t ts => t = lT true (treeL n rs) ∧ ts = [webT c.Web n rs] := by
  have := w.lo
  have := w.hi
  have l20 := w.len
  refine Rg_of rfl (Rn_seq (Rn_asg (Re_meth rfl (isObj_web (by decide)) (Re_xnil ⟨_, _, rfl, roads_ok.mono fun t ts h => ?_⟩))))
  obtain ⟨rfl, rfl⟩ := h
  refine ⟨_, rfl, _, rfl, ?_⟩
  refine Rn_seq (Rn_asg (Re_b (Re_meth rfl (isObj_web (by decide)) (Re_xnil ⟨_, _, rfl, hands_ok.mono fun t ts h => ?_⟩))))
  obtain ⟨rfl, rfl⟩ := h
  refine ⟨_, rfl, ?_⟩
  refine Re_r (a := lT true (numbers n.toNat)) ?_ ⟨_, rfl, ?_⟩
  · show (if n ≤ 1000 ∧ -1000 ≤ n then some (T.nd (.lst true) (intsT 0 n.toNat)) else none) = _
    rw [if_pos (by omega), rg_nums]
    rfl
  refine Rn_seq (Rn_asg (Re_lift rfl ⟨_, rfl, ?_⟩))
  have rg : ∀ k ∈ byCost rs, 0 ≤ k ∧ k < rs.length := fun k hk => by
    have := numbers_mem.mp (byCost_perm.mem_iff.mp hk)
    omega
  have bl : (byCost rs).length = rs.length := by rw [byCost_perm.length_eq, numbers_len]
  refine Rn_seq (Rn_for (fun _ i ρ => ∃ v4 v5 v6 v7 v8 v9, ρ = [webT c.Web n rs, rT true rs, lT true (krus n rs ((byCost rs).take i)).2, lT true (krus n rs ((byCost rs).take i)).1, v4, v5, v6, v7, v8, v9, .hole])
    (Re_b (Re_lift (sort_cost w.costs (by omega) rfl) (Re_r (a := TI (byCost rs)) (by show some ((TI (byCost rs)).map item) = _; rw [item_TI]) ⟨⟨_, _, _, _, _, _, rfl⟩, ?_, ?_⟩))))
  · rintro i t ρ ht ⟨v4, v5, v6, v7, v8, v9, rfl⟩
    obtain ⟨k, hk, rfl⟩ := TI_at ht
    obtain ⟨k0, k1⟩ := rg k (List.mem_of_getElem? hk)
    have hr := road_get k0 k1
    have rr := w.rng _ (List.mem_of_getElem? hr)
    have cl := krus_le (n := n) (rs := rs) (ks := (byCost rs).take i)
    have pl := krus_len (n := n) (rs := rs) (ks := (byCost rs).take i)
    rw [take_snoc hk, krus_snoc]
    generalize krus n rs ((byCost rs).take i) = st at cl pl
    obtain ⟨ch, ps⟩ := st
    have cl : ch.length ≤ ((byCost rs).take i).length := cl
    have pl : ps.length = n.toNat := pl
    rw [List.length_take, bl] at cl
    have p1 := piece_get (ps := ps) (h := (roadAt rs k).1) (by omega) (by omega)
    have p2 := piece_get (ps := ps) (h := (roadAt rs k).2.1) (by omega) (by omega)
    refine ⟨_, rfl, Rn_seq (Rn_asg (Re_lift (keep_some (f2_some rfl rfl (ix_rsT k0 hr)) rfl) ⟨_, rfl, ?_⟩))⟩
    have pt : liftO (pTup (pCons (keepF (f2 (fVar 2) (fVar 5) gIxL)) (pCons (keepF (f2 (fVar 2) (fVar 6) gIxL)) pNil))) [webT c.Web n rs, rT true rs, lT true ps, lT true ch, .at (.int k), .at (.int (roadAt rs k).1), .at (.int (roadAt rs k).2.1), .at (.int (roadAt rs k).2.2), v8, v9, .hole] =
        some (.ok (.nd .tup [.at (.int (pieceAt ps (roadAt rs k).1)), .at (.int (pieceAt ps (roadAt rs k).2.1))]), [webT c.Web n rs, rT true rs, lT true ps, lT true ch, .at (.int k), .at (.int (roadAt rs k).1), .at (.int (roadAt rs k).2.1), .at (.int (roadAt rs k).2.2), v8, v9, .hole]) := by
      unfold liftO pTup pCons
      rw [keep_some (f2_some rfl rfl (ix_TI (by omega) p1)) rfl, keep_some (f2_some rfl rfl (ix_TI (by omega) p2)) rfl]
      rfl
    refine Rn_seq (Rn_asg (Re_is pt ⟨_, rfl, ?_⟩))
    unfold krStep
    refine Rn_if (Re_test (Re_lift rfl ⟨_, rfl, fun e => ?_, fun e => ?_⟩))
    · have ne : pieceAt ps (roadAt rs k).1 ≠ pieceAt ps (roadAt rs k).2.1 := nei (by simpa using e)
      rw [if_pos ne]
      refine Rn_seq (Rn_drop (Re_bm rfl rfl (Re_lift rfl ⟨_, _, _, rfl, mapp_I (l := ch) (by omega), ?_⟩)))
      refine Rn_asg (Re_lc (fun _ j acc ρ => ∃ v10, acc = TI (joinP (pieceAt ps (roadAt rs k).1) (pieceAt ps (roadAt rs k).2.1) (ps.take j)) ∧ ρ = [webT c.Web n rs, rT true rs, lT false ps, lT true (ch ++ [k]), .at (.int k), .at (.int (roadAt rs k).1), .at (.int (roadAt rs k).2.1), .at (.int (roadAt rs k).2.2), .at (.int (pieceAt ps (roadAt rs k).1)), .at (.int (pieceAt ps (roadAt rs k).2.1)), v10])
        (Re_itI (m := true) (rs := ps) rfl ⟨rfl, ⟨_, rfl, rfl⟩, ?_, ?_⟩))
      · rintro j t acc ρ ht ⟨v10, rfl, rfl⟩
        obtain ⟨p, hp, rfl⟩ := TI_at ht
        have jl := (List.getElem?_eq_some_iff.mp hp).1
        have al : (TI (joinP (pieceAt ps (roadAt rs k).1) (pieceAt ps (roadAt rs k).2.1) (ps.take j))).length < 1000 := by
          rw [len_TI, joinP_len, List.length_take]
          omega
        have nx : ∀ x, (if p = pieceAt ps (roadAt rs k).2.1 then pieceAt ps (roadAt rs k).1 else p) = x → TI (joinP (pieceAt ps (roadAt rs k).1) (pieceAt ps (roadAt rs k).2.1) (ps.take j)) ++ [.at (.int x)] = TI (joinP (pieceAt ps (roadAt rs k).1) (pieceAt ps (roadAt rs k).2.1) (ps.take (j + 1))) := fun x hx => by
          rw [take_snoc hp]
          unfold joinP
          rw [List.map_append, TI_app, List.map_cons, hx]
          rfl
        refine ⟨_, rfl, Re_r rfl ⟨(fun z => by cases z), fun _ => ?_⟩⟩
        refine Re_if (Re_test (Re_lift rfl ⟨_, rfl, fun e2 => Re_is rfl ⟨al, _, ?_, rfl⟩, fun e2 => Re_is rfl ⟨al, _, ?_, rfl⟩⟩))
        · exact nx _ (if_pos (eqi e2))
        · exact nx _ (if_neg (nei e2))
      · rintro acc ρ ⟨v10, rfl, rfl⟩
        rw [len_TI, List.take_length]
        exact ⟨_, rfl, _, _, _, _, _, _, rfl⟩
    · have eq : pieceAt ps (roadAt rs k).1 = pieceAt ps (roadAt rs k).2.1 := eqi (by simpa using e)
      rw [if_neg (by simpa using eq)]
      exact Rn_nx ⟨_, _, _, _, _, _, rfl⟩
  · rintro ρ ⟨v4, v5, v6, v7, v8, v9, rfl⟩
    rw [len_TI, List.take_length]
    have cl := krus_le (n := n) (rs := rs) (ks := byCost rs)
    refine Rn_ret (Re_lift (a := lT true (treeL n rs)) ?_ ⟨rfl, rfl⟩)
    unfold treeL
    exact gSort_I (m := true) (by omega)
theorem check_road_ok {n : Int} {rs : List Rd3} {k : Int} (k0 : 0 ≤ k) (k1 : k < rs.length) : Rg (G__check_road c) [webT c.Web n rs, .at (.int k)] fun t ts => t = .at .non ∧ ts = [webT c.Web n rs, .at (.int k)] := by
  refine Rg_of rfl (Rn_if (Re_not (Re_test (Re_vCh rfl rfl rfl rfl (fun _ => Re_vCB (Re_cons (Re_nE (Re_meth rfl (isObj_web (by decide)) (Re_xnil ⟨_, _, rfl, roads_ok.mono fun t ts h => ?_⟩))))) fun e => ?_))))
  · obtain ⟨rfl, rfl⟩ := h
    refine ⟨_, rfl, Re_nil ⟨_, rfl, _, rfl, _, rfl, fun e => ?_, fun _ => Rn_nx ⟨rfl, rfl⟩⟩⟩
    rw [rsT_len] at e
    simp at e
    omega
  · have e := of_decide_eq_false e
    omega
theorem instead_ok {n : Int} {rs : List Rd3} (w : WebOk n rs) {k : Int} (k0 : 0 ≤ k) (k1 : k < rs.length) : Rg (G_instead c) [webT c.Web n rs, .at (.int k)] fun t ts => ts = [webT c.Web n rs, .at (.int k)] ∧
    ((k ∈ treeL n rs ∧ t = .at .non) ∨ (k ∉ treeL n rs ∧ ∃ ns vs, t = lT true ns ∧ Pth rs (treeL n rs) (roadAt rs k).1 ns vs (roadAt rs k).2.1)) := by
  have n8 := w.hi
  have tok := LT.tree_ok w
  have hr := road_get k0 k1
  have rr := w.rng _ (List.mem_of_getElem? hr)
  refine Rg_of rfl (Rn_seq (Rn_drop (Re_call (Re_xslot rfl (Re_xslot rfl (Re_xnil ⟨_, _, rfl, (check_road_ok k0 k1).mono fun t ts h => ?_⟩))))))
  obtain ⟨rfl, rfl⟩ := h
  refine ⟨[webT c.Web n rs, .at (.int k), .hole, .hole, .hole, .hole, .hole], rfl, ?_⟩
  refine Rn_seq (Rn_asg (Re_nE (Re_call (Re_xslot rfl (Re_xnil ⟨_, _, rfl, (tree_ok' w).mono fun t ts h => ?_⟩)))))
  obtain ⟨rfl, rfl⟩ := h
  refine ⟨[webT c.Web n rs, .at (.int k), .hole, .hole, .hole, .hole, .hole], rfl, [webT c.Web n rs, .at (.int k), lT true (treeL n rs), .hole, .hole, .hole, .hole], rfl, ?_⟩
  refine Rn_seq (Rn_if (Re_test (Re_lift (f2_some rfl rfl gIn_I) ⟨_, rfl, fun e => Rn_ret (Re_lift rfl ⟨rfl, .inl ⟨of_decide_eq_true e, rfl⟩⟩), fun e => Rn_nx ?_⟩)))
  have nk : k ∉ treeL n rs := of_decide_eq_false e
  refine Rn_seq (Rn_asg (Re_nE (Re_meth rfl (isObj_web (by decide)) (Re_xnil ⟨_, _, rfl, roads_ok.mono fun t ts h => ?_⟩))))
  obtain ⟨rfl, rfl⟩ := h
  refine ⟨[webT c.Web n rs, .at (.int k), lT true (treeL n rs), .hole, .hole, .hole, .hole], rfl, [webT c.Web n rs, .at (.int k), lT true (treeL n rs), rT true rs, .hole, .hole, .hole], rfl, ?_⟩
  refine Rn_seq (Rn_asg (Re_lift (keep_some (f2_some rfl rfl (ix_rsT k0 hr)) rfl) ⟨[webT c.Web n rs, .at (.int k), lT true (treeL n rs), rT true rs, .at (.int (roadAt rs k).1), .at (.int (roadAt rs k).2.1), .at (.int (roadAt rs k).2.2)], rfl, ?_⟩))
  have hp := paths_ok (c := c) (rs := rs) (ks := treeL n rs) (m := true) (m2 := true) (n := n) (start := (roadAt rs k).1) (fun r hr => by
    have := w.rng r hr
    exact ⟨this.1, this.2.1, this.2.2.1⟩) (fun m hm => tok.rg m hm) rr.1 (by omega) n8
  refine Rn_ret (Re_VP (Re_nE (Re_call (Re_xslot rfl (Re_xslot rfl (Re_xslot rfl (Re_xnil ⟨[rT true rs, lT true (treeL n rs), .at (.int (roadAt rs k).1)], [webT c.Web n rs, .at (.int k), .hole, .hole, .at (.int (roadAt rs k).1), .at (.int (roadAt rs k).2.1), .at (.int (roadAt rs k).2.2)], rfl, hp.mono fun t ts h => ?_⟩)))))))
  obtain ⟨es, m', rfl, rfl, ok⟩ := h
  refine ⟨[webT c.Web n rs, .at (.int k), lT m' (treeL n rs), rT true rs, .at (.int (roadAt rs k).1), .at (.int (roadAt rs k).2.1), .at (.int (roadAt rs k).2.2)], rfl, ?_⟩
  have cn : Conn rs (treeL n rs) (roadAt rs k).1 (roadAt rs k).2.1 := tok.spans _ _ rr.1 (by omega) (by omega) (by omega)
  obtain ⟨ns, hm⟩ := mem_key ((paths_conn ok).mpr cn)
  obtain ⟨vs, pw, _⟩ := ok.met.way _ hm
  exact ⟨_, _, rfl, dict_get ok.met.nd hm, rfl, .inr ⟨nk, ns, vs, rfl, pw⟩⟩
theorem side_ok {n : Int} {rs : List Rd3} (w : WebOk n rs) {k : Int} (k0 : 0 ≤ k) (k1 : k < rs.length) : Rg (G_side c) [webT c.Web n rs, .at (.int k)] fun t ts => ts = [webT c.Web n rs, .at (.int k)] ∧
    ((k ∉ treeL n rs ∧ t = .at .non) ∨ (k ∈ treeL n rs ∧ ∃ hs, t = lT true hs ∧ hs.Nodup ∧ (hs.Pairwise fun a b => a ≤ b) ∧ ∀ h, h ∈ hs ↔ Conn rs (withoutT (treeL n rs) k) (roadAt rs k).1 h)) := by
  have n8 := w.hi
  have n1 := w.lo
  have tok := LT.tree_ok w
  have hr := road_get k0 k1
  have rr := w.rng _ (List.mem_of_getElem? hr)
  have tl : (treeL n rs).length ≤ 20 := by
    have := tree_perm (n := n) (rs := rs) |>.length_eq
    have c1 := krus_le (n := n) (rs := rs) (ks := byCost rs)
    have c2 := (byCost_perm (rs := rs)).length_eq
    have c3 := w.len
    rw [numbers_len] at c2
    omega
  refine Rg_of rfl (Rn_seq (Rn_drop (Re_call (Re_xslot rfl (Re_xslot rfl (Re_xnil ⟨_, _, rfl, (check_road_ok k0 k1).mono fun t ts h => ?_⟩))))))
  obtain ⟨rfl, rfl⟩ := h
  refine ⟨[webT c.Web n rs, .at (.int k), .hole, .hole, .hole, .hole], rfl, ?_⟩
  refine Rn_seq (Rn_asg (Re_nE (Re_call (Re_xslot rfl (Re_xnil ⟨_, _, rfl, (tree_ok' w).mono fun t ts h => ?_⟩)))))
  obtain ⟨rfl, rfl⟩ := h
  refine ⟨[webT c.Web n rs, .at (.int k), .hole, .hole, .hole, .hole], rfl, [webT c.Web n rs, .at (.int k), lT true (treeL n rs), .hole, .hole, .hole], rfl, ?_⟩
  refine Rn_seq (Rn_if (Re_test (Re_lift (f2_some rfl rfl gIn_I) ⟨_, rfl, fun e => Rn_ret (Re_lift rfl ⟨rfl, .inl ⟨?_, rfl⟩⟩), fun e => Rn_nx ?_⟩)))
  · simpa using e
  have nk : k ∈ treeL n rs := by simpa using e
  refine Rn_seq (Rn_asg (Re_nE (Re_meth rfl (isObj_web (by decide)) (Re_xnil ⟨_, _, rfl, roads_ok.mono fun t ts h => ?_⟩))))
  obtain ⟨rfl, rfl⟩ := h
  refine ⟨[webT c.Web n rs, .at (.int k), lT true (treeL n rs), .hole, .hole, .hole], rfl, [webT c.Web n rs, .at (.int k), lT true (treeL n rs), rT true rs, .hole, .hole], rfl, ?_⟩
  refine Rn_seq (Rn_asg (Re_lc (fun _ j acc ρ => ∃ v5, acc = TI (withoutT ((treeL n rs).take j) k) ∧ ρ = [webT c.Web n rs, .at (.int k), lT false (treeL n rs), rT true rs, .hole, v5])
    (Re_itI (m := true) (rs := treeL n rs) rfl ⟨rfl, ⟨_, rfl, rfl⟩, ?_, ?_⟩)))
  · rintro j t acc ρ ht ⟨v5, rfl, rfl⟩
    obtain ⟨p, hp, rfl⟩ := TI_at ht
    have nx : withoutT ((treeL n rs).take (j + 1)) k = withoutT ((treeL n rs).take j) k ++ if p ≠ k then [p] else [] := by
      rw [take_snoc hp]
      unfold withoutT
      rw [List.filter_append]
      by_cases e : p = k <;> simp [e]
    refine ⟨_, rfl, Re_test (Re_lift rfl ⟨_, rfl, fun e2 => ⟨_, ?_, rfl⟩, fun e2 => Re_is rfl ⟨?_, _, ?_, rfl⟩⟩)⟩
    · rw [nx, if_neg (by have := eqi (by simpa using e2); simpa using this), List.append_nil]
    · rw [len_TI]
      have := List.length_filter_le (fun m => decide (m ≠ k)) ((treeL n rs).take j)
      rw [List.length_take] at this
      unfold withoutT
      omega
    · rw [nx, if_pos (nei (by simpa using e2)), TI_app]
      rfl
  · rintro acc ρ ⟨v5, rfl, rfl⟩
    rw [len_TI, List.take_length]
    refine ⟨[webT c.Web n rs, .at (.int k), lT false (treeL n rs), rT true rs, lT true (withoutT (treeL n rs) k), .hole], rfl, ?_⟩
    have hp := paths_ok (c := c) (rs := rs) (ks := withoutT (treeL n rs) k) (m := true) (m2 := true) (n := n) (start := (roadAt rs k).1) (fun r hr => by
      have := w.rng r hr
      exact ⟨this.1, this.2.1, this.2.2.1⟩) (fun m hm => tok.rg m (List.mem_filter.mp hm).1) rr.1 (by omega) n8
    refine Rn_ret (Re_vCB (Re_cons (Re_nE (Re_call (Re_xslot rfl (Re_xslot rfl (Re_xval (Re_lift (keep_some (f2_some (f2_some rfl rfl (ix_rsT k0 hr)) rfl rfl) rfl) (Re_xnil ⟨[rT true rs, lT true (withoutT (treeL n rs) k), .at (.int (roadAt rs k).1)], [webT c.Web n rs, .at (.int k), lT false (treeL n rs), .hole, .hole, .hole], rfl, hp.mono fun t ts h => ?_⟩)))))))))
    obtain ⟨es, m', rfl, rfl, ok⟩ := h
    refine ⟨[webT c.Web n rs, .at (.int k), lT false (treeL n rs), rT true rs, lT m' (withoutT (treeL n rs) k), .hole], rfl, Re_nil ⟨_, sort_D (by have := ok.met.len n8 (by omega); omega), rfl, .inr ⟨nk, _, rfl, sortI_perm.nodup_iff.mpr ok.met.nd, sortI_sorted, fun h => ?_⟩⟩⟩
    rw [sortI_perm.mem_iff]
    exact paths_conn ok
end
end TV
namespace TV
open PySem L2 LT
section
variable {c : Cs}
theorem next_ok {d : T} (h : DiceT d) {n : Int} (n0 : 0 < n) (n1 : n ≤ 1000000) : Rg (G__law_next c) [d, .at (.int n)] fun t ts => ∃ (r : Int) (d' : T), t = .at (.int r) ∧ ts = [d', .at (.int n)] ∧ 0 ≤ r ∧ r < n ∧ DiceT d' := by
  obtain ⟨ns, i, m, r, rfl, hl, h1, h2, h3, h4⟩ := h
  have hm : modB 0 n = true := decide_eq_true n0
  have hd : divB 0 n = true := decide_eq_true ⟨n0, by omega⟩
  have fm : ∀ x : Int, gMod (.at (.int x)) (.at (.int n)) = some (.at (.int (x % n))) := fun x => if_pos hm
  have fd : ∀ x : Int, gDiv (.at (.int x)) (.at (.int n)) = some (.at (.int (x / n))) := fun x => if_pos hd
  have mr : ∀ x : Int, 0 ≤ x % n ∧ x % n < n := fun x => ⟨Int.emod_nonneg x (by omega), Int.emod_lt_of_pos x n0⟩
  refine Rg_of rfl (Rn_seq (Rn_if (Re_test (Re_lift rfl ⟨_, rfl, fun c => ?_, fun c => ?_⟩))))
  · refine Rn_seq (Rn_asg (Re_lift (fm _) ⟨_, rfl, ?_⟩))
    refine Rn_seq (Rn_asg (Re_lift (fd _) ⟨_, rfl, ?_⟩))
    refine Rn_ret ⟨_, _, rfl, ?_⟩
    exact ⟨_, _, rfl, rfl, (mr r).1, (mr r).2, ns, i, m, r / n, rfl, hl, h1, h2, h3, Int.ediv_nonneg h4 (by omega)⟩
  · refine Rn_nx ?_
    refine Rn_seq (Rn_asg (Re_lift rfl ⟨_, rfl, ?_⟩))
    have e0 : r = 0 := by
      have := of_decide_eq_false c
      omega
    refine Rn_seq (Rn_if (Re_test (Re_lift rfl ⟨_, rfl, fun c2 => ?_, fun c2 => ?_⟩)))
    · have c2 := of_decide_eq_true c2
      rw [TI_len] at c2
      obtain ⟨u, hu⟩ : ∃ u, ns[i.toNat]? = some u := ⟨_, List.getElem?_eq_getElem (by omega)⟩
      have ix : gIxL (.nd .scr (TI ns)) (.at (.int (i + 1 - 1))) = some (.at (.int u)) := by
        show atI (TI ns) (i + 1 - 1) = _
        rw [show i + 1 - 1 = i from by omega]
        refine atI_of (j := i.toNat) ?_ ?_
        · unfold ixN
          rw [if_pos h1, if_pos (by rw [TI_len]; omega)]
        · unfold TI
          rw [List.getElem?_map, hu]
          rfl
      refine Rn_seq (Rn_asg (Re_lift (a := .at (.int u)) ?_ ⟨_, rfl, ?_⟩))
      · show (gIxL (.nd .scr (TI ns)) (.at (.int (i + 1 - 1)))).bind (fun t => if frzd t = true then some t else none) = _
        rw [ix]
        rfl
      · refine Rn_seq (Rn_asg (Re_if (Re_test (Re_lift rfl ⟨_, rfl, fun c3 => Re_lift (fd _) ⟨_, rfl, ?_⟩, fun c3 => Re_lift rfl ⟨_, rfl, ?_⟩⟩))))
        · refine Rn_ret (Re_lift (fm _) ?_)
          have c3 : (10 : Int) ^ 18 ≤ u := of_decide_eq_true c3
          exact ⟨_, _, rfl, rfl, (mr u).1, (mr u).2, ns, i + 1, m, u / n, rfl, hl, by omega, h2, h3, Int.ediv_nonneg (by omega) (by omega)⟩
        · refine Rn_ret (Re_lift (fm _) ?_)
          exact ⟨_, _, rfl, rfl, (mr u).1, (mr u).2, ns, i + 1, m, 0, rfl, hl, by omega, h2, h3, by omega⟩
    · refine Rn_nx ?_
      have hmul : mulB m 48271 = true := by
        unfold mulB
        rw [Bool.or_eq_true]
        right
        decide
      have f1 : gMul (.at (.int m)) (.at (.int 48271)) = some (.at (.int (m * 48271))) := if_pos hmul
      refine Rn_seq (Rn_asg (Re_lift (a := .at (.int (m * 48271 % 2147483647))) ?_ ⟨_, rfl, ?_⟩))
      · show (gMul (.at (.int m)) (.at (.int 48271))).bind (fun t => gMod t (.at (.int 2147483647))) = _
        rw [f1]
        rfl
      · refine Rn_ret (Re_lift (fm _) ?_)
        have := Int.emod_nonneg (m * 48271) (show (2147483647 : Int) ≠ 0 by decide)
        have := Int.emod_lt_of_pos (m * 48271) (show (0 : Int) < 2147483647 by decide)
        exact ⟨_, _, rfl, rfl, (mr _).1, (mr _).2, ns, i + 1, _, r, rfl, hl, by omega, by omega, by omega, h4⟩
theorem dice_ok {ns : List Int} (hl : ns.length ≤ 63) : Rg (G__law_dice c) [.nd .scr (TI ns)] fun t ts => DiceT t ∧ ∃ x, ts = [x] := by
  refine Rg_of rfl (Rn_seq (Rn_asg (Re_lift rfl ⟨_, rfl, ?_⟩)))
  refine Rn_seq (Rn_for (fun _ i ρ => ∃ m v2, ρ = [.nd .scr (TI ns), .at (.int m), v2] ∧ 0 ≤ m ∧ m < 2147483647) (Re_b (Re_takeS rfl (Re_r (a := TI ns) (by show some ((TI ns).map item) = _; rw [item_TI]) ⟨⟨_, _, rfl, by decide, by decide⟩, ?_, ?_⟩))))
  · rintro i t ρ ht ⟨m, v2, rfl, m0, m1⟩
    obtain ⟨x, hx, rfl⟩ := TI_at ht
    refine ⟨_, rfl, Rn_asg (Re_lift (a := .at (.int ((m * 48271 + x % 2147483647 * 69621 + 11) % 2147483647))) ?_ ⟨[.nd .scr (TI ns), .at (.int ((m * 48271 + x % 2147483647 * 69621 + 11) % 2147483647)), .at (.int x)], rfl, _, _, rfl, ?_, ?_⟩)⟩
    · exact f2_some (f2_some (f2_some (f2_some rfl rfl (mulR (by decide))) (f2_some (f2_some rfl rfl rfl) rfl (mulR (by decide))) rfl) rfl rfl) rfl rfl
    · exact Int.emod_nonneg _ (by decide)
    · exact Int.emod_lt_of_pos _ (by decide)
  · rintro ρ ⟨m, v2, rfl, m0, m1⟩
    have e : f2 (fVar 1) (fCB (qCons (f2 (fCB (qCons (fVar 0) pNil) gLen) (fC (.int 2)) gGt) pNil) gInt) gMul [.nd .scr (TI ns), .at (.int m), v2] = some (.at (.int (m * if decide ((2 : Int) < ((TI ns).length : Nat)) = true then 1 else 0))) := f2_some rfl rfl (mulL (by omega))
    refine Rn_ret (Re_lst (Re_cons (Re_takeS rfl (Re_cons (Re_lift rfl (Re_cons (Re_lift e (Re_cons (Re_lift rfl (Re_nil ⟨by show 4 ≤ 1000; decide, ?_⟩))))))))))
    refine ⟨⟨ns, 0, _, 0, rfl, hl, by decide, ?_, ?_, by decide⟩, _, rfl⟩
    · split <;> omega
    · split <;> omega
end
end TV
namespace TV
open PySem L2 LT
section
variable {c : Cs}
theorem law_tree_ok {n : Int} {rs : List Rd3} {m : Bool} (w : RoadsOk n rs) (n0 : 0 ≤ n) (n8 : n ≤ 8) (l20 : rs.length < 64) : Rg (G__law_tree c) [rT m rs] fun t ts => t = lT true (treeL n rs) ∧ ts = [rT m rs] := by
  refine Rg_of rfl (Rn_seq (Rn_asg (Re_lift rfl ⟨[rT m rs, dictF [], .hole, .hole, .hole, .hole, .hole, .hole], rfl, ?_⟩)))
  refine Rn_seq (Rn_asg (Re_lift rfl ⟨[rT m rs, dictF [], lT true [], .hole, .hole, .hole, .hole, .hole], rfl, ?_⟩))
  have bl : (byCost rs).length = rs.length := by rw [byCost_perm.length_eq, numbers_len]
  have rg : ∀ k ∈ byCost rs, 0 ≤ k ∧ k < rs.length := fun k hk => by
    have := numbers_mem.mp (byCost_perm.mem_iff.mp hk)
    omega
  refine Rn_seq (Rn_for (fun _ i ρ => ∃ (es : List EntT) (v3 v4 v5 v6 v7 : T), ρ = [rT m rs, dictF es, lT true (krus n rs ((byCost rs).take i)).1, v3, v4, v5, v6, v7] ∧ PiecesOk n (krus n rs ((byCost rs).take i)).2 es)
    (Re_b (Re_vCB (Re_cons (Re_lc (fun _ i acc ρ => ∃ v4, acc = ((numbers rs.length).take i).map (fun k => pairT (costAt rs k, k)) ∧ ρ = [rT m rs, dictF [], lT true [], .hole, v4, .hole, .hole, .hole]) (Re_b (Re_lift (a := .at (.int (rs.length : Nat))) ?_ (Re_r (a := intsT 0 rs.length) ?_ ⟨rfl, ⟨_, rfl, rfl⟩, ?_, ?_⟩))))))))
  · show some (T.at (.int ((rsT rs).length : Nat))) = _
    rw [rsT_len]
  · show (if bnd ((rs.length : Nat) : Int) = true then some (intsT 0 ((rs.length : Nat) : Int).toNat) else none) = _
    rw [if_pos]
    · rfl
    · unfold bnd
      simp
      omega
  · rintro i t acc ρ ht ⟨v4, rfl, rfl⟩
    rw [rg_nums] at ht
    obtain ⟨k, hk, rfl⟩ := TI_at ht
    have il := (List.getElem?_eq_some_iff.mp hk).1
    rw [numbers_len] at il
    have kr := numbers_mem.mp (List.mem_of_getElem? hk)
    refine ⟨[rT m rs, dictF [], lT true [], .hole, .at (.int k), .hole, .hole, .hole], rfl, Re_r rfl ⟨(fun z => by cases z), fun _ => Re_lift (a := pairT (costAt rs k, k)) ?_ ⟨?_, _, ?_, rfl⟩⟩⟩
    · unfold pTup pCons
      rw [keep_some (f2_some (f2_some rfl rfl (ix_rsT kr.1 (road_get kr.1 kr.2))) rfl rfl) rfl]
      rfl
    · rw [List.length_map, List.length_take, numbers_len]
      omega
    · rw [take_snoc hk, List.map_append]
      rfl
  rintro acc ρ ⟨v4, rfl, rfl⟩
  rw [intsT_len]
  have ta : ((numbers rs.length).take rs.length) = numbers rs.length := by
    rw [List.take_of_length_le]
    rw [numbers_len]
    exact Nat.le_refl _
  rw [ta]
  have e1 : (numbers rs.length).map (fun k => pairT (costAt rs k, k)) = ((numbers rs.length).map fun k => (costAt rs k, k)).map pairT := by
    rw [List.map_map]
    rfl
  rw [e1]
  refine Re_nil ⟨psT true ((byCost rs).map fun k => (costAt rs k, k)), ?_, Re_r (a := ((byCost rs).map fun k => (costAt rs k, k)).map pairT) (by show some ((((byCost rs).map fun k => (costAt rs k, k)).map pairT).map item) = _; rw [item_P]) ⟨?_, ?_, ?_⟩⟩
  · rw [← sort_costs w.costs]
    exact gSortP_P (m := true)
  · have e2 : krus n rs ((byCost rs).take 0) = ([], numbers n.toNat) := by
      rw [List.take_zero]
      unfold krus
      rfl
    rw [e2]
    exact ⟨[], _, _, _, _, _, rfl, pieces_nil⟩
  · rintro i t ρ ht ⟨es, v3, v4, v5, v6, v7, rfl, pok⟩
    obtain ⟨q, hq, rfl⟩ := P_at ht
    rw [List.getElem?_map] at hq
    cases hk : (byCost rs)[i]? with
    | none => rw [hk] at hq; cases hq
    | some k => ?_
    rw [hk] at hq
    cases hq
    obtain ⟨k0, k1⟩ := rg k (List.mem_of_getElem? hk)
    have hr := road_get k0 k1
    have rr := w.rng _ (List.mem_of_getElem? hr)
    have cl := krus_le (n := n) (rs := rs) (ks := (byCost rs).take i)
    have pl := krus_len (n := n) (rs := rs) (ks := (byCost rs).take i)
    rw [take_snoc hk, krus_snoc]
    generalize krus n rs ((byCost rs).take i) = st at cl pl pok
    obtain ⟨ch, ps⟩ := st
    have cl : ch.length ≤ ((byCost rs).take i).length := cl
    have pl : ps.length = n.toNat := pl
    have pok : PiecesOk n ps es := pok
    rw [List.length_take, bl] at cl
    generalize hrr : roadAt rs k = r at hr rr
    have la := pok.llen n8 (a := r.1) (by omega) (by omega)
    have lb := pok.llen n8 (a := r.2.1) (by omega) (by omega)
    refine ⟨[rT m rs, dictF es, lT true ch, .at (.int (costAt rs k)), .at (.int k), v5, v6, v7], rfl, ?_⟩
    refine Rn_seq (Rn_asg (Re_lift (keep_some (t := lT false (look es r.1)) ?_ (frzdL_TI _)) ⟨[rT m rs, dictF es, lT true ch, .at (.int (costAt rs k)), .at (.int k), lT false (look es r.1), v6, v7], rfl, ?_⟩))
    · unfold fDGet2
      rw [f2_some (f2_some rfl rfl (ix_rsT k0 hr)) rfl rfl]
      have e3 : frzF (pLst (pCons (keepF (f2 (f2 (fVar 0) (fVar 4) gIxL) (fC (.int 0)) gIxT)) pNil)) [rT m rs, dictF es, lT true ch, .at (.int (costAt rs k)), .at (.int k), v5, v6, v7] = some (lT false [r.1]) := by
        unfold frzF pLst pCons
        rw [keep_some (f2_some (f2_some rfl rfl (ix_rsT k0 hr)) rfl rfl) rfl]
        rfl
      rw [e3]
      exact ent_F
    refine Rn_seq (Rn_asg (Re_lift (keep_some (t := lT false (look es r.2.1)) ?_ (frzdL_TI _)) ⟨[rT m rs, dictF es, lT true ch, .at (.int (costAt rs k)), .at (.int k), lT false (look es r.1), lT false (look es r.2.1), v7], rfl, ?_⟩))
    · unfold fDGet2
      rw [f2_some (f2_some rfl rfl (ix_rsT k0 hr)) rfl rfl]
      have e3 : frzF (pLst (pCons (keepF (f2 (f2 (fVar 0) (fVar 4) gIxL) (fC (.int 1)) gIxT)) pNil)) [rT m rs, dictF es, lT true ch, .at (.int (costAt rs k)), .at (.int k), lT false (look es r.1), v6, v7] = some (lT false [r.2.1]) := by
        unfold frzF pLst pCons
        rw [keep_some (f2_some (f2_some rfl rfl (ix_rsT k0 hr)) rfl rfl) rfl]
        rfl
      rw [e3]
      exact ent_F
    have mem : r.2.1 ∈ look es r.1 ↔ pieceAt ps r.2.1 = pieceAt ps r.1 := by
      rw [(pok.lk r.1 (by omega) (by omega)).2]
      exact ⟨fun z => z.2, fun z => ⟨⟨by omega, by omega⟩, z⟩⟩
    unfold krStep
    rw [hrr]
    refine Rn_if (Re_test (Re_lift (f2_some (f2_some (f2_some rfl rfl (ix_rsT k0 hr)) rfl rfl) rfl gIn_I) ⟨_, rfl, fun e => ?_, fun e => ?_⟩))
    · have nm : r.2.1 ∉ look es r.1 := by simpa using e
      have ne : pieceAt ps r.1 ≠ pieceAt ps r.2.1 := fun z => nm (mem.mpr z.symm)
      rw [if_pos ne]
      refine Rn_seq (Rn_drop (Re_bm rfl rfl (Re_lift rfl ⟨_, _, _, rfl, mapp_I (l := ch) (by omega), ?_⟩)))
      have cat : ∀ {v7 : T} {es2 : List EntT}, f2 (fVar 5) (fVar 6) gCat [rT m rs, dictF es2, lT true (ch ++ [k]), .at (.int (costAt rs k)), .at (.int k), lT false (look es r.1), lT false (look es r.2.1), v7] = some (lT true (look es r.1 ++ look es r.2.1)) := fun {v7 es2} => f2_some rfl rfl (cat_I (by omega))
      refine Rn_for (fun _ j ρ => ∃ (es2 : List EntT) (v7 : T), ρ = [rT m rs, dictF es2, lT true (ch ++ [k]), .at (.int (costAt rs k)), .at (.int k), lT false (look es r.1), lT false (look es r.2.1), v7] ∧
        (es2.map (·.1)).Nodup ∧ (∀ h ∈ es2.map (·.1), 0 ≤ h ∧ h < n) ∧ ∀ x, look es2 x = if x ∈ (look es r.1 ++ look es r.2.1).take j then look es r.1 ++ look es r.2.1 else look es x)
        (Re_b (Re_lift cat (Re_r (a := TI (look es r.1 ++ look es r.2.1)) (by show some ((TI _).map item) = _; rw [item_TI]) ⟨⟨es, v7, rfl, pok.nd, pok.rg, fun x => ?_⟩, ?_, ?_⟩)))
      · rw [List.take_zero, if_neg (by simp)]
      · rintro j t ρ ht ⟨es2, v7, rfl, nd2, rg2, lk2⟩
        obtain ⟨x, hx, rfl⟩ := TI_at ht
        have xr : 0 ≤ x ∧ x < n := by
          rcases List.mem_append.mp (List.mem_of_getElem? hx) with z | z
          · exact (((pok.lk r.1 (by omega) (by omega)).2 x).mp z).1
          · exact (((pok.lk r.2.1 (by omega) (by omega)).2 x).mp z).1
        have l2 : es2.length < 1000 := by
          have := nodup_bound 8 _ nd2 fun y hy => by
            have := rg2 y hy
            omega
          rw [List.length_map] at this
          omega
        refine ⟨[rT m rs, dictF es2, lT true (ch ++ [k]), .at (.int (costAt rs k)), .at (.int k), lT false (look es r.1), lT false (look es r.2.1), .at (.int x)], rfl, Rn_dput (Re_frz (Re_lift cat ⟨canFrzL_TI _, ?_⟩))⟩
        have fz : frz (lT true (look es r.1 ++ look es r.2.1)) = lT false (look es r.1 ++ look es r.2.1) := by
          show T.nd (.lst false) (frzL (TI _)) = _
          rw [frzL_TI]
          rfl
        rw [fz]
        refine ⟨(1, []), dictF es2, .at (.int x), _, rfl, rfl, rfl, put_F l2, putE es2 x (look es r.1 ++ look es r.2.1), .at (.int x), rfl, nd_put nd2, fun h hh => ?_, fun y => ?_⟩
        · rcases key_put.mp hh with rfl | hh
          · exact xr
          · exact rg2 h hh
        · rw [look_put, lk2, take_snoc hx]
          by_cases e1 : y = x
          · rw [if_pos e1, if_pos (by rw [e1]; simp)]
          · rw [if_neg e1]
            by_cases e2 : y ∈ (look es r.1 ++ look es r.2.1).take j
            · rw [if_pos e2, if_pos (List.mem_append_left _ e2)]
            · rw [if_neg e2, if_neg (by simp [e1, e2])]
      · rintro ρ ⟨es2, v7, rfl, nd2, rg2, lk2⟩
        rw [len_TI, List.take_length] at lk2
        exact ⟨es2, _, _, _, _, _, rfl, pok.join pl (by omega) (by omega) (by omega) (by omega) ne nd2 rg2 lk2⟩
    · have im : r.2.1 ∈ look es r.1 := by simpa using e
      rw [if_neg (fun z => z (mem.mp im).symm)]
      exact Rn_nx ⟨es, _, _, _, _, _, rfl, pok⟩
  · rintro ρ ⟨es, v3, v4, v5, v6, v7, rfl, pok⟩
    rw [List.length_map, List.length_map, List.take_length]
    have cl := krus_le (n := n) (rs := rs) (ks := byCost rs)
    refine Rn_ret (Re_lift (a := lT true (treeL n rs)) ?_ ⟨rfl, rfl⟩)
    unfold treeL
    exact gSort_I (m := true) (by omega)
end
end TV
namespace TV
open PySem L2 LT
section
variable {c : Cs}
theorem law_web_ok {d : T} (hD : DiceT d) {most : Int} (m0 : 1 ≤ most) (m1 : most ≤ 8) : Rg (G__law_web c) [d, .at (.int most)] fun t ts => ∃ (n : Int) (rs : List Rd3) (d' : T), t = .nd .tup [.at (.int n), rT true rs] ∧ n ≤ most ∧ WebOk n rs ∧ ts = [d', .at (.int most)] ∧ DiceT d' := by
  refine Rg_of rfl (Rn_seq (Rn_asg (Re_2V (Re_lift rfl (Re_call (Re_xslot (var_get rfl hD.hole) (Re_xslot rfl (Re_xnil ⟨_, _, fill_own (var_get rfl hD.hole) hD.frz rfl, (next_ok hD (by omega) (by omega)).mono fun t ts h => ?_⟩))))))))
  obtain ⟨r, d1, rfl, rfl, r0, r1, hD1⟩ := h
  refine ⟨[d1, .at (.int most), .hole, .hole, .hole, .hole, .hole, .hole, .hole, .hole], rfl, .at (.int (1 + r)), rfl, [d1, .at (.int most), .at (.int (1 + r)), .hole, .hole, .hole, .hole, .hole, .hole, .hole], rfl, ?_⟩
  obtain ⟨n, en⟩ : ∃ n : Int, n = 1 + r := ⟨_, rfl⟩
  rw [← en]
  have n1 : 1 ≤ n := by omega
  have n8 : n ≤ most := by omega
  clear hD d
  have hl : fLR (fVar 2) [d1, .at (.int most), .at (.int n), .hole, .hole, .hole, .hole, .hole, .hole, .hole] = some (lT true (numbers n.toNat)) := by
    show (if n ≤ 1000 ∧ -1000 ≤ n then some (T.nd (.lst true) (intsT 0 n.toNat)) else none) = _
    rw [if_pos (by omega), rg_nums]
    rfl
  refine Rn_seq (Rn_asg (Re_lift hl ⟨[d1, .at (.int most), .at (.int n), lT true (numbers n.toNat), .hole, .hole, .hole, .hole, .hole, .hole], rfl, ?_⟩))
  refine Rn_seq (Rn_asg (Re_lc (fun _ i acc ρ => ∃ (done left : List Int) (d' v5 : T), acc = TI done ∧ ρ = [d', .at (.int most), .at (.int n), lT true left, .hole, v5, .hole, .hole, .hole, .hole] ∧ DiceT d' ∧ (done ++ left).Perm (numbers n.toNat) ∧ done.length = i)
    (Re_b (Re_is rfl (Re_r (a := intsT 0 n.toNat) ?_ ⟨rfl, ⟨[], _, d1, _, rfl, rfl, hD1, List.Perm.refl _, rfl⟩, ?_, ?_⟩)))))
  · show (if bnd n = true then some (intsT 0 n.toNat) else none) = _
    rw [if_pos]
    unfold bnd
    simp
    omega
  · rintro i t acc ρ ht ⟨done, left, d', v3, rfl, rfl, hd, pm, dl⟩
    rw [rg_nums] at ht
    have il := (List.getElem?_eq_some_iff.mp ht).1
    rw [len_TI, numbers_len] at il
    have pl := pm.length_eq
    rw [List.length_append, numbers_len] at pl
    obtain ⟨j, hj, rfl⟩ := TI_at ht
    refine ⟨[d', .at (.int most), .at (.int n), lT true left, .hole, .at (.int j), .hole, .hole, .hole, .hole], rfl, Re_r rfl ⟨(fun z => by cases z), fun _ => ?_⟩⟩
    refine Re_bm rfl rfl (Re_cons (Re_call (Re_xslot (var_get rfl hd.hole) (Re_xval (Re_lift (a := .at (.int (left.length : Nat))) (by show some (T.at (.int ((TI left).length : Nat))) = _; rw [len_TI]) (Re_xnil ⟨_, _, fill_own (var_get rfl hd.hole) hd.frz rfl, (next_ok hd (n := (left.length : Nat)) (by omega) (by omega)).mono fun t ts h => ?_⟩))))))
    obtain ⟨r, d2, rfl, rfl, r0, r1, hd2⟩ := h
    refine ⟨[d2, .at (.int most), .at (.int n), lT true left, .hole, .at (.int j), .hole, .hole, .hole, .hole], rfl, Re_nil ?_⟩
    have rl : r.toNat < left.length := by omega
    have hx : left[r.toNat]? = some left[r.toNat] := List.getElem?_eq_getElem rl
    refine ⟨_, _, _, rfl, mpopat_I r0 (by omega) hx, by rw [len_TI]; omega, done ++ [left[r.toNat]], left.eraseIdx r.toNat, d2, _, by rw [TI_app]; rfl, rfl, hd2, ?_, by simp [dl]⟩
    refine List.Perm.trans ?_ pm
    rw [List.append_assoc]
    exact List.Perm.append_left done (erase_perm hx)
  rintro acc ρ ⟨os, left, d2, v5, rfl, rfl, hD2, pm, dl⟩
  rw [rg_nums, len_TI, numbers_len] at dl
  have pl := pm.length_eq
  rw [List.length_append, numbers_len] at pl
  have : left = [] := List.length_eq_zero_iff.mp (by omega)
  subst this
  rw [List.append_nil] at pm
  refine ⟨[d2, .at (.int most), .at (.int n), lT true [], lT true os, .hole, .hole, .hole, .hole, .hole], rfl, ?_⟩
  have ond : os.Nodup := pm.nodup_iff.mpr numbers_nodup
  have omem : ∀ x, x ∈ os ↔ 0 ≤ x ∧ x < n := fun x => by
    rw [pm.mem_iff, numbers_mem]
    omega
  refine Rn_seq (Rn_asg (Re_lift rfl ⟨[d2, .at (.int most), .at (.int n), lT true [], lT true os, .hole, psT true [], .hole, .hole, .hole], rfl, ?_⟩))
  refine Rn_seq (Rn_for (fun _ i ρ => ∃ (ps : List (Int × Int)) (d' v5 v7 v8 v9 : T), ρ = [d', .at (.int most), .at (.int n), lT true [], lT true os, v5, psT true ps, v7, v8, v9] ∧ DiceT d' ∧ okV v7 ∧ TreeI n os (i + 1) ps)
    (Re_b (Re_lift rfl (Re_r (a := intsT 1 (n - 1).toNat) ?_ ⟨⟨[], d2, _, _, _, _, rfl, hD2, rfl, ⟨⟨fun p hp => by simp at hp, List.nodup_nil⟩, rfl, fun p hp => by simp at hp, fun x hx y hy => ?_⟩⟩, ?_, ?_⟩))))
  · show (if (bnd 1 && bnd n) = true then some (intsT 1 (n - 1).toNat) else none) = _
    rw [if_pos]
    unfold bnd
    simp
    omega
  · cases os with
    | nil => simp at hx
    | cons o os =>
      simp at hx hy
      rw [hx, hy]
      exact .refl
  · rintro i t ρ ht ⟨ps, d', v5, v7, v8, v9, rfl, hd, o7, tr⟩
    obtain ⟨il, rfl⟩ := intsT_at ht
    have hpl := tr.len
    refine ⟨[d', .at (.int most), .at (.int n), lT true [], lT true os, .at (.int (1 + (i : Int))), psT true ps, v7, v8, v9], rfl, Rn_drop (Re_bm rfl rfl (Re_cons (Re_call (Re_xslot (var_get rfl hd.hole) (Re_xval (Re_lift (len1_P rfl) (Re_xnil ⟨_, _, fill_own (var_get rfl hd.hole) hd.frz rfl, (next_ok hd (n := (ps.length : Nat) + 1) (by omega) (by omega)).mono fun t ts h => ?_⟩)))))))⟩
    obtain ⟨q, d3, rfl, rfl, q0, q1, hd3⟩ := h
    refine ⟨[d3, .at (.int most), .at (.int n), lT true [], lT true os, .at (.int (1 + (i : Int))), psT true ps, v7, v8, v9], rfl, Re_cons (Re_vCB (Re_cons (Re_vCB (Re_cons (Re_lst (Re_cons (Re_SV rfl (Re_call (Re_xslot (var_get rfl hd3.hole) (Re_xslot rfl (Re_xnil ⟨_, _, fill_own (var_get rfl hd3.hole) hd3.frz rfl, (next_ok hd3 (n := 1 + (i : Int)) (by omega) (by omega)).mono fun t ts h => ?_⟩)))))))))))⟩
    obtain ⟨s, d4, rfl, rfl, s0, s1, hd4⟩ := h
    have ha : os[s.toNat]? = some os[s.toNat] := List.getElem?_eq_getElem (by omega)
    have hb : os[i + 1]? = some os[i + 1] := List.getElem?_eq_getElem (by omega)
    have hb' : os[(1 + (i : Int)).toNat]? = some os[i + 1] := by
      rw [show (1 + (i : Int)).toNat = i + 1 by omega]
      exact hb
    refine ⟨[d4, .at (.int most), .at (.int n), lT true [], lT true os, .at (.int (1 + (i : Int))), psT true ps, v7, v8, v9], rfl, lT true os, .at (.int os[s.toNat]), rfl, ixfrz s0 ha, ?_⟩
    refine Re_cons (Re_lift (keep_some (f2_some rfl rfl (ix_TI (by omega) hb')) rfl) (Re_nil ⟨by show 2 ≤ 1000; decide, Re_nil ⟨_, sort_pair, Re_nil ⟨_, tup_pair, Re_nil ⟨.lst true, ps.map pairT, _, rfl, ins_P (by omega) q0 (by omega), ?_⟩⟩⟩⟩))
    exact ⟨_, d4, _, v7, v8, v9, rfl, hd4, o7, tr.next ond (fun x hx => (omem x).mp hx) (by omega) ha hb⟩
  rintro ρ ⟨ps, d3, v5, v7, v8, v9, rfl, hd3, o7, tr⟩
  rw [intsT_len] at tr
  have tall : os.take ((n - 1).toNat + 1) = os := List.take_of_length_le (by omega)
  have cn : ∀ x, 0 ≤ x → x < n → Way ps 0 x := fun x h0 h1 => tr.conn 0 (by rw [tall]; exact (omem 0).mpr ⟨by decide, by omega⟩) x (by rw [tall]; exact (omem x).mpr ⟨h0, h1⟩)
  have pl := tr.len
  have pok := tr.ok
  clear tr tall
  have mn : fCB (qCons (fC (.int 13)) (qCons (f2 (fC (.int 2)) (fVar 2) gMul) pNil)) gMin2 [d3, .at (.int most), .at (.int n), lT true [], lT true os, v5, psT true ps, v7, v8, v9] = some (.at (.int (if 2 * n < 13 then 2 * n else 13))) := by
    have e : f2 (fC (.int 2)) (fVar 2) gMul [d3, .at (.int most), .at (.int n), lT true [], lT true os, v5, psT true ps, v7, v8, v9] = some (.at (.int (2 * n))) := f2_some rfl rfl (mulL (by decide))
    unfold fCB qCons pNil
    rw [e]
    rfl
  refine Rn_seq (Rn_for (fun ts i ρ => ∃ (ps : List (Int × Int)) (d' v5 v7 v8 v9 : T), ρ = [d', .at (.int most), .at (.int n), lT true [], lT true os, v5, psT true ps, v7, v8, v9] ∧ DiceT d' ∧ okV v7 ∧ ts.length ≤ 12 ∧ PairsOk n ps ∧ (∀ x, 0 ≤ x → x < n → Way ps 0 x) ∧ (ps.length : Int) ≤ n - 1 + i)
    (Re_b (Re_call (Re_xslot (var_get rfl hd3.hole) (Re_xval (Re_lift mn (Re_xnil ⟨_, _, fill_own (var_get rfl hd3.hole) hd3.frz rfl, (next_ok hd3 (by split <;> omega) (by split <;> omega)).mono fun t ts h => ?_⟩)))))))
  obtain ⟨m, d4, rfl, rfl, q0, q1, hd4⟩ := h
  have mlt : m < 13 := by
    split at q1 <;> omega
  refine ⟨[d4, .at (.int most), .at (.int n), lT true [], lT true os, v5, psT true ps, v7, v8, v9], rfl, Re_r (a := intsT 0 m.toNat) ?_ ⟨⟨ps, d4, _, _, _, _, rfl, hd4, o7, by rw [intsT_len]; omega, pok, cn, by omega⟩, ?_, ?_⟩⟩
  · show (if bnd m = true then some (intsT 0 m.toNat) else none) = _
    rw [if_pos]
    unfold bnd
    simp
    omega
  · clear cn pok pl hd4 hd3
    rintro i t ρ ht ⟨ps, d', v5, v7, v8, v9, rfl, hd, o7, tl, pok, cn, pl⟩
    obtain ⟨il, rfl⟩ := intsT_at ht
    refine ⟨[d', .at (.int most), .at (.int n), lT true [], lT true os, .at (.int (0 + (i : Int))), psT true ps, v7, v8, v9], rfl, Rn_seq (Rn_asg (Re_vCB (Re_cons (Re_vCB (Re_cons (Re_lst (Re_cons (Re_call (Re_xslot (var_get rfl hd.hole) (Re_xslot rfl (Re_xnil ⟨_, _, fill_own (var_get rfl hd.hole) hd.frz rfl, (next_ok hd (n := n) (by omega) (by omega)).mono fun t ts h => ?_⟩)))))))))))⟩
    obtain ⟨a, d5, rfl, rfl, a0, a1, hd5⟩ := h
    refine ⟨[d5, .at (.int most), .at (.int n), lT true [], lT true os, .at (.int (0 + (i : Int))), psT true ps, v7, v8, v9], rfl, Re_cons (Re_call (Re_xslot (var_get rfl hd5.hole) (Re_xslot rfl (Re_xnil ⟨_, _, fill_own (var_get rfl hd5.hole) hd5.frz rfl, (next_ok hd5 (n := n) (by omega) (by omega)).mono fun t ts h => ?_⟩))))⟩
    obtain ⟨b, d6, rfl, rfl, b0, b1, hd6⟩ := h
    refine ⟨[d6, .at (.int most), .at (.int n), lT true [], lT true os, .at (.int (0 + (i : Int))), psT true ps, v7, v8, v9], rfl, Re_nil ⟨by show 2 ≤ 1000; decide, Re_nil ⟨_, sort_pair, Re_nil ⟨_, tup_pair, [d6, .at (.int most), .at (.int n), lT true [], lT true os, .at (.int (0 + (i : Int))), psT true ps, pairT (min a b, max a b), v8, v9], rfl, ?_⟩⟩⟩⟩
    refine Rn_if (Re_if (Re_test (Re_lift rfl ⟨_, rfl, fun e => Re_test (Re_lift (f2_some rfl rfl in_P) ⟨_, rfl, fun e2 => ?_, fun e2 => Rn_nx ⟨ps, d6, _, _, _, _, rfl, hd6, rfl, tl, pok, cn, by omega⟩⟩), fun e => Re_r rfl ⟨(fun z => by cases z), fun _ => Rn_nx ⟨ps, d6, _, _, _, _, rfl, hd6, rfl, tl, pok, cn, by omega⟩⟩⟩)))
    have lt : min a b < max a b := of_decide_eq_true e
    have nin : (min a b, max a b) ∉ ps := by simpa using e2
    refine Rn_drop (Re_bm rfl rfl (Re_cons (Re_call (Re_xslot (var_get rfl hd6.hole) (Re_xval (Re_lift (len1_P rfl) (Re_xnil ⟨_, _, fill_own (var_get rfl hd6.hole) hd6.frz rfl, (next_ok hd6 (n := (ps.length : Nat) + 1) (by omega) (by omega)).mono fun t ts h => ?_⟩)))))))
    obtain ⟨q, d7, rfl, rfl, q0, q1, hd7⟩ := h
    refine ⟨[d7, .at (.int most), .at (.int n), lT true [], lT true os, .at (.int (0 + (i : Int))), psT true ps, pairT (min a b, max a b), v8, v9], rfl, Re_cons (Re_is rfl (Re_nil ⟨.lst true, ps.map pairT, _, rfl, ins_P (by omega) q0 (by omega), ?_⟩))⟩
    refine ⟨_, d7, _, _, _, _, rfl, hd7, rfl, tl, pok.ins ⟨by show 0 ≤ min a b; omega, lt, by show max a b < n; omega⟩ nin _, fun x h0 h1 => (cn x h0 h1).ins _ _, ?_⟩
    rw [ins_len]
    omega
  clear cn pok pl hd4 hd3
  rintro ρ ⟨ps, d5, v5, v7, v8, v9, rfl, hd5, o7, tl, pok, cn, pl⟩
  rw [intsT_len] at tl pl
  have l20 : ps.length ≤ 20 := by omega
  clear tl pl
  refine Rn_seq (Rn_for (fun ts i ρ => ∃ (ps : List (Int × Int)) (d' v5 v7 v8 v9 : T), ρ = [d', .at (.int most), .at (.int n), lT true [], lT true os, v5, psT true ps, v7, v8, v9] ∧ DiceT d' ∧ okV v7 ∧ (∃ k : Nat, ts = intsT 0 k ∧ (k : Int) ≤ n) ∧ PairsOk n ps ∧ (∀ x, 0 ≤ x → x < n → Way ps 0 x) ∧ ps.length ≤ 20)
    (Re_b (Re_SV rfl (Re_vCB (Re_cons (Re_VP (Re_call (Re_xslot (var_get rfl hd5.hole) (Re_xval (Re_lift rfl (Re_xnil ⟨_, _, fill_own (var_get rfl hd5.hole) hd5.frz rfl, (next_ok hd5 (n := 8) (by decide) (by decide)).mono fun t ts h => ?_⟩)))))))))))
  obtain ⟨q, d6, rfl, rfl, q0, q1, hd6⟩ := h
  refine ⟨[d6, .at (.int most), .at (.int n), lT true [], lT true os, v5, psT true ps, v7, v8, v9], rfl, .at (.int 7), .at (.bl (decide (V.int q = V.int 7))), rfl, rfl, Re_nil ⟨_, rfl, .at (.int n), .at (.int (n * if decide (V.int q = V.int 7) = true then 1 else 0)), rfl, mulL (by omega), ?_⟩⟩
  refine Re_r (a := intsT 0 (n * if decide (V.int q = V.int 7) = true then 1 else 0).toNat) ?_ ⟨⟨ps, d6, _, _, _, _, rfl, hd6, o7, ⟨_, rfl, ?_⟩, pok, cn, l20⟩, ?_, ?_⟩
  · show (if bnd (n * if decide (V.int q = V.int 7) = true then 1 else 0) = true then some (intsT 0 (n * if decide (V.int q = V.int 7) = true then 1 else 0).toNat) else none) = _
    rw [if_pos]
    unfold bnd
    simp
    split <;> omega
  · split <;> omega
  · clear cn pok l20 hd6 hd5
    rintro i t ρ ht ⟨ps, d', v5, v7, v8, v9, rfl, hd, o7, ⟨kk, ek, kn⟩, pok, cn, l20⟩
    have hsrc := ek
    rw [ek] at ht
    obtain ⟨il, rfl⟩ := intsT_at ht
    refine ⟨[d', .at (.int most), .at (.int n), lT true [], lT true os, .at (.int (0 + (i : Int))), psT true ps, v7, v8, v9], rfl, ?_⟩
    refine Rn_for (fun ts j ρ => ∃ (ps : List (Int × Int)) (d' v7 v8 v9 : T), ρ = [d', .at (.int most), .at (.int n), lT true [], lT true os, .at (.int (0 + (i : Int))), psT true ps, v7, v8, v9] ∧ DiceT d' ∧ okV v7 ∧ ts = intsT 0 (0 + (i : Int)).toNat ∧ PairsOk n ps ∧ (∀ x, 0 ≤ x → x < n → Way ps 0 x) ∧ ps.length ≤ 20)
      (Re_b (Re_is rfl (Re_r (a := intsT 0 (0 + (i : Int)).toNat) ?_ ⟨⟨ps, d', _, _, _, rfl, hd, o7, rfl, pok, cn, l20⟩, ?_, ?_⟩)))
    · show (if bnd (0 + (i : Int)) = true then some (intsT 0 (0 + (i : Int)).toNat) else none) = _
      rw [if_pos]
      unfold bnd
      simp
      omega
    · clear cn pok l20 hd
      rintro j t ρ ht ⟨ps, d', v7, v8, v9, rfl, hd, o7, _, pok, cn, l20⟩
      obtain ⟨jl, rfl⟩ := intsT_at ht
      refine ⟨[d', .at (.int most), .at (.int n), lT true [], lT true os, .at (.int (0 + (i : Int))), psT true ps, v7, .at (.int (0 + (j : Int))), v9], rfl, ?_⟩
      refine Rn_if (Re_if (Re_test (Re_lift (f2_some (t := pairT (0 + (j : Int), 0 + (i : Int))) rfl rfl in_P) ⟨_, rfl, fun e => Re_test (Re_lift rfl ⟨_, rfl, fun e2 => ?_, fun e2 => Rn_nx ⟨ps, d', _, _, _, rfl, hd, o7, rfl, pok, cn, l20⟩⟩), fun e => Re_r rfl ⟨(fun z => by cases z), fun _ => Rn_nx ⟨ps, d', _, _, _, rfl, hd, o7, rfl, pok, cn, l20⟩⟩⟩)))
      have nin : (0 + (j : Int), 0 + (i : Int)) ∉ ps := by simpa using e
      have lt : ((ps.map pairT).length : Int) < 20 := of_decide_eq_true e2
      rw [ps_len] at lt
      refine Rn_drop (Re_bm rfl rfl (Re_cons (Re_call (Re_xslot (var_get rfl hd.hole) (Re_xval (Re_lift (len1_P rfl) (Re_xnil ⟨_, _, fill_own (var_get rfl hd.hole) hd.frz rfl, (next_ok hd (n := (ps.length : Nat) + 1) (by omega) (by omega)).mono fun t ts h => ?_⟩)))))))
      obtain ⟨q, d7, rfl, rfl, q0, q1, hd7⟩ := h
      refine ⟨[d7, .at (.int most), .at (.int n), lT true [], lT true os, .at (.int (0 + (i : Int))), psT true ps, v7, .at (.int (0 + (j : Int))), v9], rfl, Re_cons (Re_lift (a := pairT (0 + (j : Int), 0 + (i : Int))) rfl (Re_nil ⟨.lst true, ps.map pairT, _, rfl, ins_P (by omega) q0 (by omega), ?_⟩))⟩
      refine ⟨_, d7, _, _, _, rfl, hd7, o7, rfl, pok.ins ⟨by show 0 ≤ 0 + (j : Int); omega, by show 0 + (j : Int) < 0 + (i : Int); omega, by show 0 + (i : Int) < n; omega⟩ nin _, fun x h0 h1 => (cn x h0 h1).ins _ _, ?_⟩
      rw [ins_len]
      omega
    · rintro ρ ⟨ps, d', v7, v8, v9, rfl, hd, o7, _, pok, cn, l20⟩
      exact ⟨ps, d', _, _, _, _, rfl, hd, o7, ⟨kk, hsrc, kn⟩, pok, cn, l20⟩
  clear cn pok l20 hd6 hd5
  rintro ρ ⟨ps, d6, v5, v7, v8, v9, rfl, hd6, o7, _, pok, cn, l20⟩
  have c0 : fLR2 (fC (.int 1)) (fC (.int 100)) [d6, .at (.int most), .at (.int n), lT true [], lT true os, v5, psT true ps, v7, v8, v9] = some (lT true cs0) := by
    show some (T.nd (.lst true) (intsT 1 99)) = _
    rw [intsT_TI]
    rfl
  refine Rn_seq (Rn_asg (Re_lift c0 ⟨[d6, .at (.int most), .at (.int n), lT true [], lT true os, v5, psT true ps, v7, v8, lT true cs0], rfl, ?_⟩))
  refine Rn_ret (Re_tup (Re_cons (Re_is rfl (Re_cons (Re_lc (fun _ i acc ρ => ∃ (rs : List Rd3) (left : List Int) (d' v7 : T), acc = rsT rs ∧ ρ = [d', .at (.int most), .at (.int n), lT true [], lT true os, v5, psT false ps, v7, v8, lT true left] ∧ DiceT d' ∧ rs.map pr = ps.take i ∧ (rs.map cst ++ left).Perm cs0)
    (Re_itP (m := true) (rs := ps) rfl ⟨by show ((isHole v7 || frzd v7) && true) = true; rw [show (isHole v7 || frzd v7) = true from o7]; rfl, ⟨[], cs0, d6, _, rfl, rfl, hd6, rfl, List.Perm.refl _⟩, ?_, ?_⟩))))))
  · rintro i t acc ρ ht ⟨rs, left, d', w7, rfl, rfl, hd, hp, hc⟩
    obtain ⟨p, hpi, rfl⟩ := P_at ht
    have il := (List.getElem?_eq_some_iff.mp hpi).1
    have rl : rs.length = i := by
      have := congrArg List.length hp
      rw [List.length_map, List.length_take] at this
      omega
    have ll : left.length + i = 99 := by
      have := hc.length_eq
      rw [List.length_append, List.length_map] at this
      have c : cs0.length = 99 := by
        unfold cs0
        rw [List.length_map, List.length_range]
      omega
    refine ⟨[d', .at (.int most), .at (.int n), lT true [], lT true os, v5, psT false ps, pairT p, v8, lT true left], rfl, Re_r rfl ⟨(fun z => by cases z), fun _ => ?_⟩⟩
    refine Re_SV rfl (Re_tup (Re_cons (Re_bm rfl rfl (Re_cons (Re_call (Re_xslot (var_get rfl hd.hole) (Re_xval (Re_lift (a := .at (.int (left.length : Nat))) (by show some (T.at (.int ((TI left).length : Nat))) = _; rw [len_TI]) (Re_xnil ⟨_, _, fill_own (var_get rfl hd.hole) hd.frz rfl, (next_ok hd (n := (left.length : Nat)) (by omega) (by omega)).mono fun t ts h => ?_⟩)))))))))
    obtain ⟨r, d2, rfl, rfl, r0, r1, hd2⟩ := h
    have hx : left[r.toNat]? = some left[r.toNat] := List.getElem?_eq_getElem (by omega)
    refine ⟨[d2, .at (.int most), .at (.int n), lT true [], lT true os, v5, psT false ps, pairT p, v8, lT true left], rfl, Re_nil ⟨.lst true, TI left, _, rfl, mpopat_I r0 (by omega) hx, Re_nil ⟨by show 1 ≤ 1000; decide, pairT p, roadT (p.1, p.2, left[r.toNat]), rfl, catT_pair, by rw [rsT_len]; omega, ?_⟩⟩⟩
    refine ⟨rs ++ [(p.1, p.2, left[r.toNat])], left.eraseIdx r.toNat, d2, _, by rw [rsT_app]; rfl, rfl, hd2, ?_, ?_⟩
    · rw [List.map_append, hp, take_snoc hpi]
      rfl
    · rw [List.map_append, List.append_assoc]
      refine List.Perm.trans (List.Perm.append_left _ ?_) hc
      exact erase_perm hx
  · rintro acc ρ ⟨rs, left, d', w7, rfl, rfl, hd, hp, hc⟩
    rw [List.length_map, List.take_length] at hp
    exact Re_nil ⟨by show 2 ≤ 1000; decide, n, rs, d', rfl, n8, web_made n1 (by omega) l20 pok cn hp hc, rfl, hd⟩
end
end TV
namespace TV
open PySem L2 LT
section
variable {c : Cs}
theorem conn_rg {n : Int} {rs : List Rd3} (rr : ∀ r ∈ rs, 0 ≤ r.1 ∧ r.1 < r.2.1 ∧ r.2.1 < n) {ks : List Int} {a x : Int} (a0 : 0 ≤ a ∧ a < n) (h : Conn rs ks a x) : 0 ≤ x ∧ x < n := by
  cases h with
  | refl => exact a0
  | step _ _ e =>
    obtain ⟨_, r, hr, ed⟩ := e
    have := rr r (List.mem_of_getElem? hr)
    rcases ed with ⟨_, e⟩ | ⟨_, e⟩ <;> omega
theorem reachI_len {n : Int} {rs : List Rd3} (rr : ∀ r ∈ rs, 0 ≤ r.1 ∧ r.1 < r.2.1 ∧ r.2.1 < n) {ks f : List Int} {a : Int} (a0 : 0 ≤ a ∧ a < n) (h : ReachI rs ks a f) (n8 : n ≤ 8) : f.length ≤ 8 := by
  have := nodup_bound 8 f h.nd fun x hx => by
    have := conn_rg rr a0 (h.con x hx)
    omega
  exact this
theorem pOne {f : Env → Option T} {ρ : Env} {t : T} (h : f ρ = some t) : pCons f pNil ρ = some [t] := by
  unfold pCons pNil
  rw [h]
  rfl
theorem bool_ne {p q : Bool} : decide (V.bl p = V.bl q) = decide (p = q) := by cases p <;> cases q <;> rfl
theorem pass_snoc {rs : List Rd3} {ks f : List Int} {k : Int} : passR rs (ks ++ [k]) f = stepR rs (passR rs ks f) k := by
  unfold passR
  rw [List.foldl_append]
  rfl
theorem law_reach_ok {n : Int} {rs : List Rd3} {ks : List Int} {m m2 : Bool} {a : Int} (rr : ∀ r ∈ rs, 0 ≤ r.1 ∧ r.1 < r.2.1 ∧ r.2.1 < n) (rg : ∀ k ∈ ks, 0 ≤ k ∧ k < rs.length) (a0 : 0 ≤ a ∧ a < n) (n8 : n ≤ 8) (kl : ks.length ≤ 20) :
    Rg (G__law_reach c) [rT m rs, lT m2 ks, .at (.int a)] fun t ts => t = lT true (sortI (reachR rs ks [a] ks.length)) ∧ ∃ m', ts = [rT m rs, lT m' ks, .at (.int a)] := by
  refine Rg_of rfl (Rn_seq (Rn_asg (Re_lift (a := lT true [a]) rfl ⟨[rT m rs, lT m2 ks, .at (.int a), lT true [a], .hole, .hole, .hole, .hole, .hole], rfl, ?_⟩)))
  refine Rn_seq (Rn_for (fun _ i ρ => ∃ m' v4 v5 v6 v7 v8, ρ = [rT m rs, lT m' ks, .at (.int a), lT true (reachR rs ks [a] i), v4, v5, v6, v7, v8]) (Re_b (Re_lift (a := .at (.int (ks.length : Nat))) (by
    show some (T.at (.int ((TI ks).length : Nat))) = _
    rw [len_TI]) (Re_r (a := TI (numbers ks.length)) ?_ ⟨⟨_, _, _, _, _, _, rfl⟩, ?_, ?_⟩))))
  · show (if bnd ((ks.length : Nat) : Int) = true then some (intsT 0 ((ks.length : Nat) : Int).toNat) else none) = _
    rw [if_pos (by unfold bnd; simp; omega), rg_nums]
    rfl
  · rintro i t ρ ht ⟨m', v4, v5, v6, v7, v8, rfl⟩
    obtain ⟨j, hj, rfl⟩ := TI_at ht
    refine ⟨[rT m rs, lT m' ks, .at (.int a), lT true (reachR rs ks [a] i), .at (.int j), v5, v6, v7, v8], rfl, ?_⟩
    have inv := ReachI.reach rg (reachI0 (rs := rs) (ks := ks) (a := a)) i
    refine Rn_for (fun _ q ρ => ∃ v5 v6 v7 v8, ρ = [rT m rs, lT false ks, .at (.int a), lT true (passR rs (ks.take q) (reachR rs ks [a] i)), .at (.int j), v5, v6, v7, v8]) (Re_itI (m := m') (rs := ks) rfl ⟨⟨_, _, _, _, rfl⟩, ?_, ?_⟩)
    · rintro q t ρ ht ⟨v5, v6, v7, v8, rfl⟩
      obtain ⟨k, hk, rfl⟩ := TI_at ht
      obtain ⟨k0, k1⟩ := rg k (List.mem_of_getElem? hk)
      have hr := road_get k0 k1
      have inv2 := ReachI.pass (js := ks.take q) rg (fun x hx => List.mem_of_mem_take hx) inv
      have fl := reachI_len rr a0 inv2 n8
      rw [take_snoc hk, pass_snoc]
      generalize passR rs (ks.take q) (reachR rs ks [a] i) = f at fl
      refine ⟨[rT m rs, lT false ks, .at (.int a), lT true f, .at (.int j), .at (.int k), v6, v7, v8], rfl, Rn_seq (Rn_asg (Re_lift (keep_some (f2_some rfl rfl (ix_rsT k0 hr)) rfl) ⟨[rT m rs, lT false ks, .at (.int a), lT true f, .at (.int j), .at (.int k), .at (.int (roadAt rs k).1), .at (.int (roadAt rs k).2.1), .at (.int (roadAt rs k).2.2)], rfl, ?_⟩))⟩
      refine Rn_if (Re_test (Re_lift (f2_some (f2_some rfl rfl gIn_I) (f2_some rfl rfl gIn_I) rfl) ⟨_, rfl, fun e => ?_, fun e => ?_⟩))
      · have e : (!decide (V.bl (decide ((roadAt rs k).1 ∈ f)) = V.bl (decide ((roadAt rs k).2.1 ∈ f)))) = true := e
        rw [bool_ne, Bool.not_eq_true', decide_eq_false_iff_not] at e
        have es : stepR rs f k = f ++ [if (roadAt rs k).1 ∈ f then (roadAt rs k).2.1 else (roadAt rs k).1] := if_neg e
        rw [es]
        refine Rn_drop (Re_bm rfl rfl (Re_lift (a := [.at (.int (if (roadAt rs k).1 ∈ f then (roadAt rs k).2.1 else (roadAt rs k).1))]) ?_ ⟨_, _, _, rfl, mapp_I (l := f) (by omega), _, _, _, _, rfl⟩))
        have ei : fCB (qCons (f2 (fVar 6) (fVar 3) (gIn false)) pNil) gInt [rT m rs, lT false ks, .at (.int a), lT true f, .at (.int j), .at (.int k), .at (.int (roadAt rs k).1), .at (.int (roadAt rs k).2.1), .at (.int (roadAt rs k).2.2)] = some (.at (.int (if (roadAt rs k).1 ∈ f then 1 else 0))) := by
          unfold fCB qCons pNil
          rw [f2_some (x := .at (.bl (decide ((roadAt rs k).1 ∈ f)))) rfl rfl gIn_I]
          show some (T.at (.int (if decide ((roadAt rs k).1 ∈ f) = true then 1 else 0))) = _
          by_cases d : (roadAt rs k).1 ∈ f
          · rw [decide_eq_true d, if_pos rfl, if_pos d]
          · rw [decide_eq_false d, if_neg (by simp), if_neg d]
        have eix : keepF (f2 (pLst (pCons (keepF (fVar 6)) (pCons (keepF (fVar 7)) pNil))) (fCB (qCons (f2 (fVar 6) (fVar 3) (gIn false)) pNil) gInt) gIxL) [rT m rs, lT false ks, .at (.int a), lT true f, .at (.int j), .at (.int k), .at (.int (roadAt rs k).1), .at (.int (roadAt rs k).2.1), .at (.int (roadAt rs k).2.2)] = some (.at (.int (if (roadAt rs k).1 ∈ f then (roadAt rs k).2.1 else (roadAt rs k).1))) := by
          refine keep_some (f2_some (t := lT true [(roadAt rs k).1, (roadAt rs k).2.1]) rfl ei ?_) rfl
          by_cases d : (roadAt rs k).1 ∈ f
          · rw [if_pos d, if_pos d]
            exact ix_TI (by decide) rfl
          · rw [if_neg d, if_neg d]
            exact ix_TI (by decide) rfl
        exact pOne eix
      · have e : (!decide (V.bl (decide ((roadAt rs k).1 ∈ f)) = V.bl (decide ((roadAt rs k).2.1 ∈ f)))) = false := e
        rw [bool_ne, Bool.not_eq_false', decide_eq_true_eq] at e
        have es : stepR rs f k = f := if_pos e
        rw [es]
        exact Rn_nx ⟨_, _, _, _, rfl⟩
    · rintro ρ ⟨v5, v6, v7, v8, rfl⟩
      rw [len_TI, List.take_length]
      exact ⟨_, _, _, _, _, _, rfl⟩
  · rintro ρ ⟨m', v4, v5, v6, v7, v8, rfl⟩
    rw [len_TI, numbers_len]
    have inv := ReachI.reach rg (reachI0 (rs := rs) (ks := ks) (a := a)) ks.length
    have fl := reachI_len rr a0 inv n8
    exact Rn_ret (Re_lift (gSort_I (m := true) (by omega)) ⟨rfl, m', rfl⟩)
theorem Rn_forH {ρ : Env} {i : Nat} {ts : List T} {g : T → Env → Option Env} {b : SM} {Φ : Out → Env → Prop} (h0 : fVar i ρ = some (.nd (.lst true) ts)) (hz : frzdL ts = true) (I : Nat → Env → Prop) (hi : I 0 (ρ.set i .hole))
    (turn : ∀ j t ρ, ts[j]? = some t → I j ρ → ∃ ρ1, g t ρ = some ρ1 ∧ Rn b ρ1 (turnR (I (j + 1)) fun o ρ => ρ[i]? = some .hole ∧ Φ o (ρ.set i (.nd (.lst true) ts)))) (done : ∀ ρ, I ts.length ρ → ρ[i]? = some .hole ∧ Φ .nx (ρ.set i (.nd (.lst true) ts))) : Rn (fForH i g b) ρ Φ := by
  obtain ⟨o, ρ1, e, q1, q2⟩ := Rn_go (Φ := fun o ρ => ρ[i]? = some .hole ∧ Φ o (ρ.set i (.nd (.lst true) ts))) I 0 hi (fun j t ρ ht hj => by
    rw [Nat.zero_add] at hj ⊢
    exact turn j t ρ ht hj) fun ρ h => done ρ (by rw [Nat.zero_add] at h; exact h)
  refine ⟨o, ρ1.set i (.nd (.lst true) ts), ?_, q2⟩
  unfold fForH
  rw [h0]
  show ((if frzdL ts = true then some ts else none).bind fun ts' => (fGo g b ts' (ρ.set i .hole)).bind fun x => match x.2[i]? with
    | some .hole => some (x.1, x.2.set i (.nd (.lst true) ts))
    | _ => none) = _
  rw [if_pos hz]
  show ((fGo g b ts (ρ.set i .hole)).bind fun x => match x.2[i]? with
    | some .hole => some (x.1, x.2.set i (.nd (.lst true) ts))
    | _ => none) = _
  rw [e]
  show (match ρ1[i]? with
    | some .hole => some (o, ρ1.set i (.nd (.lst true) ts))
    | _ => none) = _
  rw [q1]
theorem ix_last {m : Bool} {l : List Int} {x : Int} : gIxL (lT m (l ++ [x])) (.at (.int (-1))) = some (.at (.int x)) := by
  show atI (TI (l ++ [x])) (-1) = _
  unfold atI
  rw [show ixN (TI (l ++ [x])).length (-1) = some l.length from by
    rw [len_TI, List.length_append, List.length_singleton]
    unfold ixN
    simp
    omega]
  show (TI (l ++ [x]))[l.length]? = _
  rw [TI_app, List.getElem?_append_right (by rw [len_TI]; exact Nat.le_refl _), len_TI, Nat.sub_self]
  rfl
theorem law_leads_ok {rs : List Rd3} {ts ns vs : List Int} {m : Bool} {a b : Int} (p : Pth rs ts a ns vs b) (nl : ns.length ≤ 20) :
    Rg (G__law_leads c) [rT m rs, lT true ns, .at (.int a), .at (.int b)] fun t us => t = .at (.bl true) ∧ us = [rT m rs, lT true ns, .at (.int a), .at (.int b)] := by
  have vl := p.len
  have nd := p.nd
  obtain ⟨p1, p2, p3⟩ := p.at_
  refine Rg_of rfl (Rn_seq (Rn_asg (Re_lift (a := lT true [a]) rfl ⟨[rT m rs, lT true ns, .at (.int a), .at (.int b), lT true [a], .hole], rfl, ?_⟩)))
  refine Rn_seq (Rn_forH (i := 1) (ts := TI ns) rfl (frzdL_TI ns) (fun i ρ => ∃ v5, ρ = [rT m rs, .hole, .at (.int a), .at (.int b), lT true (vs.take (i + 1)), v5]) ⟨.hole, ?_⟩ ?_ ?_)
  · rw [take_snoc (i := 0) p1]
    rfl
  · rintro i t ρ ht ⟨v5, rfl⟩
    obtain ⟨k, hk, rfl⟩ := TI_at ht
    have il := (List.getElem?_eq_some_iff.mp hk).1
    obtain ⟨_, x, y, hx, hy, k0, r, hr, ed⟩ := p3 i k hk
    have k1 := (List.getElem?_eq_some_iff.mp hr).1
    refine ⟨[rT m rs, .hole, .at (.int a), .at (.int b), lT true (vs.take (i + 1)), .at (.int k)], rfl, ?_⟩
    have hlast : f2 (fVar 4) (fUn (fC (.int 1))) gIxL [rT m rs, .hole, .at (.int a), .at (.int b), lT true (vs.take (i + 1)), .at (.int k)] = some (.at (.int x)) := by
      rw [take_snoc hx]
      exact f2_some rfl rfl ix_last
    have hrd : f2 (fVar 0) (fVar 5) gIxL [rT m rs, .hole, .at (.int a), .at (.int b), lT true (vs.take (i + 1)), .at (.int k)] = some (roadT r) := f2_some rfl rfl (ix_rsT k0 hr)
    have hsl : fSlT (f2 (fVar 0) (fVar 5) gIxL) (fun _ => some none) (fPart (fC (.int 2))) [rT m rs, .hole, .at (.int a), .at (.int b), lT true (vs.take (i + 1)), .at (.int k)] = some (.nd .tup (TI [r.1, r.2.1])) := by
      unfold fSlT
      rw [hrd]
      exact sl_road
    have hin : gIn true (.at (.int x)) (.nd .tup (TI [r.1, r.2.1])) = some (.at (.bl (!decide (x ∈ [r.1, r.2.1])))) := by
      show (flats (TI [r.1, r.2.1])).map (fun ws => T.at (.bl (if true = true then !inV (V.int x) ws else inV (V.int x) ws))) = _
      rw [flats_TI]
      show some (T.at (.bl (!inV (V.int x) ([r.1, r.2.1].map V.int)))) = _
      rw [LT.inV_int]
    have mem : x ∈ [r.1, r.2.1] := by rcases ed with ⟨e, _⟩ | ⟨e, _⟩ <;> simp [e]
    refine Rn_seq (Rn_if (Re_test (Re_lift (f2_some hlast hsl hin) ⟨_, rfl, fun e => ?_, fun _ => Rn_nx ?_⟩)))
    · rw [decide_eq_true mem] at e
      cases e
    have hs : f2 (f2 (f2 (f2 (fVar 0) (fVar 5) gIxL) (fC (.int 0)) gIxT) (f2 (f2 (fVar 0) (fVar 5) gIxL) (fC (.int 1)) gIxT) gAdd) (f2 (fVar 4) (fUn (fC (.int 1))) gIxL) gMinus [rT m rs, .hole, .at (.int a), .at (.int b), lT true (vs.take (i + 1)), .at (.int k)] = some (.at (.int y)) := by
      refine f2_some (f2_some (f2_some hrd rfl (x := .at (.int r.1)) rfl) (f2_some hrd rfl (x := .at (.int r.2.1)) rfl) rfl) hlast ?_
      show some (T.at (.int (r.1 + r.2.1 - x))) = _
      rw [show r.1 + r.2.1 - x = y from by rcases ed with ⟨e1, e2⟩ | ⟨e1, e2⟩ <;> omega]
    refine Rn_drop (Re_bm rfl rfl (Re_lift (a := [.at (.int y)]) ?_ ⟨_, _, _, rfl, mapp_I (l := vs.take (i + 1)) (by rw [List.length_take]; omega), .at (.int k), ?_⟩))
    · exact pOne hs
    · rw [take_snoc (i := i + 1) hy]
      rfl
  · rintro ρ ⟨v5, rfl⟩
    refine ⟨rfl, ?_⟩
    rw [len_TI, List.take_of_length_le (by omega)]
    obtain ⟨wr, z, ez⟩ : ∃ wr z, vs = wr ++ [z] := ⟨vs.dropLast, vs.getLast (by intro e; rw [e] at vl; cases vl), (List.dropLast_concat_getLast _).symm⟩
    have zb : z = b := by
      have wl : wr.length = ns.length := by rw [ez, List.length_append, List.length_singleton] at vl; omega
      rw [ez, ← wl, List.getElem?_append_right (Nat.le_refl _), Nat.sub_self] at p2
      exact Option.some.inj p2
    have e1 : f2 (f2 (fVar 4) (fUn (fC (.int 1))) gIxL) (fVar 3) (gEq false) [rT m rs, lT true ns, .at (.int a), .at (.int b), lT true vs, v5] = some (.at (.bl true)) := by
      rw [ez]
      refine f2_some (f2_some rfl rfl ix_last) rfl ?_
      show some (T.at (.bl (decide (V.int z = V.int b)))) = _
      rw [zb, decide_eq_true rfl]
    have e2 : fLenSet (fVar 4) [rT m rs, lT true ns, .at (.int a), .at (.int b), lT true vs, v5] = some (.at (.int (vs.length : Nat))) := by
      show (intsOf (TI vs)).bind (fun l => if l.length ≤ 1000 then some (T.at (.int (dd l).length)) else none) = _
      rw [intsOf_TI]
      show (if vs.length ≤ 1000 then some (T.at (.int (dd vs).length)) else none) = _
      rw [if_pos (by omega), dd_self nd]
    have e3 : f2 (fLenSet (fVar 4)) (fCB (qCons (fVar 4) pNil) gLen) (gEq false) [rT m rs, lT true ns, .at (.int a), .at (.int b), lT true vs, v5] = some (.at (.bl true)) := by
      refine f2_some e2 (u := .at (.int (vs.length : Nat))) ?_ ?_
      · show some (T.at (.int ((TI vs).length : Nat))) = _
        rw [len_TI]
      · show some (T.at (.bl (decide (V.int (vs.length : Nat) = V.int (vs.length : Nat))))) = _
        rw [decide_eq_true rfl]
    exact Rn_ret (Re_if (Re_test (Re_lift e1 ⟨true, rfl, fun _ => Re_lift e3 ⟨rfl, rfl⟩, (fun z => by cases z)⟩)))
/-! numbers that are no road's -/
theorem err_of {n np : Nat} {f : SM} {ts ts' : List T} {e : Ex} (hl : ts.length = np) (h : Rn f (ts ++ List.replicate (n - np) .hole) fun o ρ => o = .ex e ∧ ρ.take np = ts') : bodyG true n np f ts = some (.error e, ts') := by
  obtain ⟨o, ρ, e1, rfl, q⟩ := h
  unfold bodyG
  rw [if_pos hl, e1, ← q]
  rfl
theorem Rn_err {α : Type} {f : EM α} {g : α → SM} {ρ ρ' : Env} {e : Ex} {Φ : Out → Env → Prop} (h : f ρ = some (.error e, ρ')) (q : Φ (.ex e) ρ') : Rn (sE f g) ρ Φ := ⟨_, ρ', by unfold sE; rw [h]; rfl, q⟩
theorem Rn_raise1 {C : Addr} {fs : Env → Option (List T)} {ρ : Env} {t : T} {Φ : Out → Env → Prop} (h : fs ρ = some [t]) (q : Φ (.ex (C, none)) ρ) : Rn (sRaise1 C fs) ρ Φ := ⟨_, ρ, by unfold sRaise1; rw [h]; rfl, q⟩
theorem Rn_thenex {f g : SM} {ρ : Env} {e : Ex} {Φ : Out → Env → Prop} (h : Rn f ρ fun o ρ => o = .ex e ∧ Φ (.ex e) ρ) : Rn (sSeq f g) ρ Φ := Rn_seq (h.mono fun o ρ' ⟨e1, q⟩ => by rw [e1]; exact q)
def BadK (rs : List Rd3) (k : Int) : Prop := k = -1 ∨ ((rs.length : Int) ≤ k ∧ k ≤ 2000000)
theorem road_text {ρ : Env} {k : Int} (hk : k = -1 ∨ (0 ≤ k ∧ k ≤ 2000000)) (h : fVar 1 ρ = some (.at (.int k))) : ∃ s, fJoined (jCons (fC (.str "there is no road ")) (jCons (fFmt (fVar 1)) jNil)) ρ = some (.at (.str s)) := by
  have l0 : (lit "there is no road ").length = 17 := by decide +kernel
  have lk : (S k).length ≤ 7 := by
    rcases hk with rfl | ⟨h0, h1⟩
    · decide +kernel
    · rw [len_tl, tl_S h0]
      exact TL.numL_len (by decide) (by omega)
  have lg : k.natAbs.log2 < 1920 := by
    have : k.natAbs < 2 ^ 1920 := Nat.lt_of_le_of_lt (m := 2000000) (by omega) (by decide +kernel)
    by_cases z : k.natAbs = 0
    · rw [z]; decide
    · exact (Nat.log2_lt z).mpr this
  have st : ∀ {f : Env → Option T} {y : Str} {fr : Env → Str → Option Str} {acc : Str}, f ρ = some (sT y) → (acc ++ y).length ≤ 100000 → jCons f fr ρ acc = fr ρ (acc ++ y) := fun {f y fr acc} hf hl => by
    unfold jCons
    rw [hf]
    exact if_pos hl
  have e2 : fFmt (fVar 1) ρ = some (sT (S k)) := by
    unfold fFmt
    rw [h]
    show (if k.natAbs.log2 < 1920 then some (T.at (.str (Str.ofString (toString k)))) else none) = _
    rw [if_pos lg]
    rfl
  refine ⟨Str.empty ++ lit "there is no road " ++ S k, ?_⟩
  unfold fJoined
  rw [st (y := lit "there is no road ") rfl (by rw [empty_app]; omega), st e2 (by rw [empty_app, app_len]; omega)]
  rfl
theorem check_bad {n : Int} {rs : List Rd3} {k : Int} (hk : BadK rs k) : G__check_road c [webT c.Web n rs, .at (.int k)] = some (.error (c.NoRoad, none), [webT c.Web n rs, .at (.int k)]) := by
  have hk' : k = -1 ∨ (0 ≤ k ∧ k ≤ 2000000) := by
    rcases hk with h | h
    · exact .inl h
    · exact .inr ⟨by omega, h.2⟩
  obtain ⟨s, hs⟩ := road_text (ρ := [webT c.Web n rs, .at (.int k)]) hk' rfl
  refine err_of rfl (Rn_if (Re_not (Re_test (Re_vCh (p := decide ((0 : Int) ≤ k)) rfl rfl rfl rfl (fun p0 => Re_vCB (Re_cons (Re_nE (Re_meth rfl (isObj_web (by decide)) (Re_xnil ⟨_, _, rfl, roads_ok.mono fun t ts h => ?_⟩))))) fun e => ⟨false, rfl, fun _ => Rn_raise1 (pOne hs) ⟨rfl, rfl⟩, (fun z => by cases z)⟩))))
  obtain ⟨rfl, rfl⟩ := h
  refine ⟨_, rfl, Re_nil ⟨_, rfl, .at (.bl (decide (k < (rs.length : Int)))), ?_, _, rfl, fun _ => Rn_raise1 (pOne hs) ⟨rfl, rfl⟩, fun e => ?_⟩⟩
  · show some (T.at (.bl (decide (k < ((rsT rs).length : Int))))) = _
    rw [rsT_len]
  · have e : (!decide (k < (rs.length : Int))) = false := e
    have e : k < (rs.length : Int) := by simpa using e
    rcases hk with h | h
    · exfalso
      have := of_decide_eq_true p0
      omega
    · omega
theorem side_bad {n : Int} {rs : List Rd3} {k : Int} (hk : BadK rs k) : G_side c [webT c.Web n rs, .at (.int k)] = some (.error (c.NoRoad, none), [webT c.Web n rs, .at (.int k)]) := by
  refine err_of rfl (Rn_seq (Rn_err (ρ' := [webT c.Web n rs, .at (.int k), .hole, .hole, .hole, .hole]) ?_ ⟨rfl, rfl⟩))
  unfold bE
  show callG (G__check_road c) [.inl 0, .inl 1] [webT c.Web n rs, .at (.int k), .hole, .hole, .hole, .hole] = _
  unfold callG
  show ((G__check_road c [webT c.Web n rs, .at (.int k)]).bind fun y => (unfill [.inl 0, .inl 1] y.2 [.hole, .at (.int k), .hole, .hole, .hole, .hole]).map fun ρ' => (y.1, ρ')) = _
  rw [check_bad hk]
  rfl
theorem instead_bad {n : Int} {rs : List Rd3} {k : Int} (hk : BadK rs k) : G_instead c [webT c.Web n rs, .at (.int k)] = some (.error (c.NoRoad, none), [webT c.Web n rs, .at (.int k)]) := by
  refine err_of rfl (Rn_seq (Rn_err (ρ' := [webT c.Web n rs, .at (.int k), .hole, .hole, .hole, .hole, .hole]) ?_ ⟨rfl, rfl⟩))
  unfold bE
  show callG (G__check_road c) [.inl 0, .inl 1] [webT c.Web n rs, .at (.int k), .hole, .hole, .hole, .hole, .hole] = _
  unfold callG
  show ((G__check_road c [webT c.Web n rs, .at (.int k)]).bind fun y => (unfill [.inl 0, .inl 1] y.2 [.hole, .at (.int k), .hole, .hole, .hole, .hole, .hole]).map fun ρ' => (y.1, ρ')) = _
  rw [check_bad hk]
  rfl
end
end TV
namespace TV
open PySem L2 LT
section
variable {c : Cs}
theorem Rg_eq {G : Fn} {ts us : List T} {t : T} (e : G ts = some (.ok t, us)) : Rg G ts fun t' us' => t' = t ∧ us' = us := ⟨t, us, e, rfl, rfl⟩
theorem like_ok02 {t u : T} (h : likeT 4 t u = true) : Rg (G__law_like c) [t, u] fun x ts => x = .at (.bl true) ∧ ts = [t, u] := by
  refine ⟨.at (.bl true), [t, u], ?_, rfl, rfl⟩
  show (if likeT 4 t u = true then some ((Except.ok (.at (.bl true)), [t, u]) : Except Ex T × List T) else none) = _
  rw [if_pos h]
theorem dat_I {m : Bool} (l : List Int) : datT (lT m l) = some (.list (l.map .int)) := by
  unfold lT
  rw [datT, datL_TI]
  rfl
theorem shaped_two (l : List Int) : SeqAt.shaped (.list [.list (l.map .int), .none]) = true ∧ SeqAt.shaped (.list [.none, .list (l.map .int)]) = true := by
  obtain ⟨h1, h2⟩ := lay_ints l
  have d1 : (PyData.list [.list (l.map .int), .none]).depth ≤ 64 := by
    simp only [PyData.depth, PyData.depthAll]
    omega
  have d2 : (PyData.list [.none, .list (l.map .int)]).depth ≤ 64 := by
    simp only [PyData.depth, PyData.depthAll]
    omega
  exact ⟨by simp [SeqAt.shaped, PyData.canLay0, PyData.canLayAll0, h1, d1], by simp [SeqAt.shaped, PyData.canLay0, PyData.canLayAll0, h1, d2]⟩
theorem inD_two {l : List Int} {m m' : Bool} : gInD true (lT m l) (.nd (.lst true) [lT m' l, .at .non]) = some (.at (.bl false)) ∧ gInD true (lT m l) (.nd (.lst true) [.at .non, lT m' l]) = some (.at (.bl false)) := by
  have s0 := shaped_lst l
  obtain ⟨s1, s2⟩ := shaped_two l
  have e0 : PyData.eqv (.list (l.map .int)) (.list (l.map .int)) = true := by
    rw [PyData.eqv, ints_eqv]
    exact decide_eq_true rfl
  have e1 : PyData.eqv .none (.list (l.map .int)) = false := by rw [PyData.eqv]
  have t1 : datT (.nd (.lst true) [lT m' l, .at .non]) = some (.list [.list (l.map .int), .none]) := by
    rw [datT, datL, dat_I, datL, datL]
    simp [datT]
  have t2 : datT (.nd (.lst true) [.at .non, lT m' l]) = some (.list [.none, .list (l.map .int)]) := by
    rw [datT, datL, datL, dat_I, datL]
    simp [datT]
  constructor
  · unfold gInD
    rw [dat_I, t1]
    simp only [Option.bind_some, s0, s1, Bool.and_self, if_true, List.any_cons, List.any_nil, e0, Bool.true_or, Bool.not_true]
  · unfold gInD
    rw [dat_I, t2]
    simp only [Option.bind_some, s0, s2, Bool.and_self, if_true, List.any_cons, List.any_nil, e0, e1, Bool.false_or, Bool.true_or, Bool.not_true]
theorem Re_lam {CN : Addr} {G : Fn} {W : T} {k : Int} {e : T} {a0 a1 a2 a3 a5 a6 a7 a8 a9 a10 a11 a12 a13 a14 a15 : T} {Φ : T → Env → Prop} (hW : isHole W = false) (fW : frzd W = false) (h : G [W, .at (.int k)] = some (.error (CN, none), [W, .at (.int k)]))
    (q : Φ (.at (.bl true)) [a0, a1, a2, a3, W, a5, a6, a7, a8, a9, a10, a11, a12, a13, a14, a15, .at (.int k)]) : Re (fLamR CN G 4 16) [a0, a1, a2, a3, W, a5, a6, a7, a8, a9, a10, a11, a12, a13, a14, a15, .at (.int k)] Φ := by
  refine ⟨_, _, ?_, q⟩
  unfold fLamR
  rw [show fVar 4 [a0, a1, a2, a3, W, a5, a6, a7, a8, a9, a10, a11, a12, a13, a14, a15, .at (.int k)] = some W from var_get rfl hW]
  show ((callG G [.inl 4, .inl 16] [a0, a1, a2, a3, W, a5, a6, a7, a8, a9, a10, a11, a12, a13, a14, a15, .at (.int k)]).bind _) = _
  unfold callG
  have ef : fill [.inl 4, .inl 16] [a0, a1, a2, a3, W, a5, a6, a7, a8, a9, a10, a11, a12, a13, a14, a15, .at (.int k)] = some ([W, .at (.int k)], [a0, a1, a2, a3, .hole, a5, a6, a7, a8, a9, a10, a11, a12, a13, a14, a15, .at (.int k)]) := fill_own (var_get rfl hW) fW rfl
  rw [ef]
  show (((G [W, .at (.int k)]).bind fun y => (unfill [.inl 4, .inl 16] y.2 [a0, a1, a2, a3, .hole, a5, a6, a7, a8, a9, a10, a11, a12, a13, a14, a15, .at (.int k)]).map fun ρ' => (y.1, ρ')).bind _) = _
  rw [h]
  show (if CN = CN then some ((Except.ok (T.at (.bl true)) : Except Ex T), [a0, a1, a2, a3, W, a5, a6, a7, a8, a9, a10, a11, a12, a13, a14, a15, .at (.int k)]) else none) = _
  rw [if_pos rfl]
theorem Re_lcH {ρ : Env} {i : Nat} {ts : List T} {vs : List Nat} {g : T → Env → Option Env} {ft : EM Bool} {fe : EM T} {Φ : T → Env → Prop} (h0 : fVar i ρ = some (.nd (.lst true) ts)) (hz : frzdL ts = true) (hl : lent (ρ.set i .hole) vs = true) (I : Nat → List T → Env → Prop) (hi : I 0 [] (ρ.set i .hole))
    (turn : ∀ j t acc ρ, ts[j]? = some t → I j acc ρ → ∃ ρ1, g t (wipeT ρ vs) = some ρ1 ∧ Re ft ρ1 fun b ρ2 => (b = false → I (j + 1) acc ρ2) ∧ (b = true → Re fe ρ2 fun y ρ3 => acc.length < 1000 ∧ I (j + 1) (acc ++ [y]) ρ3))
    (done : ∀ acc ρ1, I ts.length acc ρ1 → (lend (ρ.set i .hole) ρ1 vs)[i]? = some .hole ∧ Φ (.nd (.lst true) acc) ((lend (ρ.set i .hole) ρ1 vs).set i (.nd (.lst true) ts))) : Re (fLcH i vs g ft fe) ρ Φ := by
  obtain ⟨acc, ρ1, e, q1, q2⟩ := Re_golc (Φ := fun acc ρ1 => (lend (ρ.set i .hole) ρ1 vs)[i]? = some .hole ∧ Φ (.nd (.lst true) acc) ((lend (ρ.set i .hole) ρ1 vs).set i (.nd (.lst true) ts))) I 0 hi (fun j t acc ρ ht hj => by
    rw [Nat.zero_add] at hj ⊢
    exact turn j t acc ρ ht hj) fun acc ρ h => done acc ρ (by rw [Nat.zero_add] at h; exact h)
  refine ⟨_, _, ?_, q2⟩
  unfold fLcH
  rw [h0]
  show ((if frzdL ts = true then some ts else none).bind fun ts' => if lent (ρ.set i .hole) vs = true then (goLc vs g ft fe ts' [] (ρ.set i .hole)).bind fun x => match (lend (ρ.set i .hole) x.2 vs)[i]? with
    | some .hole => some ((Except.ok (.nd (.lst true) x.1) : Except Ex T), (lend (ρ.set i .hole) x.2 vs).set i (.nd (.lst true) ts))
    | _ => none else none) = _
  rw [if_pos hz]
  show (if lent (ρ.set i .hole) vs = true then (goLc vs g ft fe ts [] (ρ.set i .hole)).bind fun x => match (lend (ρ.set i .hole) x.2 vs)[i]? with
    | some .hole => some ((Except.ok (.nd (.lst true) x.1) : Except Ex T), (lend (ρ.set i .hole) x.2 vs).set i (.nd (.lst true) ts))
    | _ => none else none) = _
  rw [if_pos hl, e]
  show (match (lend (ρ.set i .hole) ρ1 vs)[i]? with
    | some .hole => some ((Except.ok (.nd (.lst true) acc) : Except Ex T), (lend (ρ.set i .hole) ρ1 vs).set i (.nd (.lst true) ts))
    | _ => none) = _
  rw [q1]
theorem tree_len02 {n : Int} {rs : List Rd3} (w : WebOk n rs) : (treeL n rs).length ≤ 20 := by
  have := tree_perm (n := n) (rs := rs) |>.length_eq
  have c1 := krus_le (n := n) (rs := rs) (ks := byCost rs)
  have c2 := (byCost_perm (rs := rs)).length_eq
  have c3 := w.len
  rw [numbers_len] at c2
  omega
theorem good (c : Cs) (ns : List Int) (h63 : ns.length ≤ 63) : Rg (G_law c) [.nd .scr (TI ns)] fun t _ => t = .at (.bl true) := by
  refine Rg_of rfl (Rn_seq (Rn_asg (Re_call (Re_xslot rfl (Re_xnil ⟨_, _, fill_fz rfl (frzdL_TI ns) rfl, (dice_ok h63).mono fun t ts h => ?_⟩)))))
  obtain ⟨hD, x, rfl⟩ := h
  refine ⟨[.nd .scr (TI ns), .hole, .hole, .hole, .hole, .hole, .hole, .hole, .hole, .hole, .hole, .hole, .hole, .hole, .hole, .hole, .hole], rfl, [.nd .scr (TI ns), t, .hole, .hole, .hole, .hole, .hole, .hole, .hole, .hole, .hole, .hole, .hole, .hole, .hole, .hole, .hole], rfl, ?_⟩
  generalize ht : T.nd .scr (TI ns) = scr
  clear ht
  refine Rn_seq (Rn_asg (Re_call (Re_xslot (var_get rfl hD.hole) (Re_xval (Re_lift rfl (Re_xnil ⟨_, _, fill_own (var_get rfl hD.hole) hD.frz rfl, (law_web_ok hD (most := 8) (by decide) (by decide)).mono fun t ts h => ?_⟩))))))
  obtain ⟨n, R, d, rfl, n8', W, rfl, hd⟩ := h
  clear hD
  refine ⟨[scr, d, .hole, .hole, .hole, .hole, .hole, .hole, .hole, .hole, .hole, .hole, .hole, .hole, .hole, .hole, .hole], rfl, [scr, d, .at (.int n), rT true R, .hole, .hole, .hole, .hole, .hole, .hole, .hole, .hole, .hole, .hole, .hole, .hole, .hole], rfl, ?_⟩
  have n1 := W.lo
  have n8 := W.hi
  have l20 := W.len
  have tok := LT.tree_ok W
  have tl := tree_len02 W
  have hl : fCB (qCons (fVar 3) pNil) gList [scr, d, .at (.int n), rT true R, .hole, .hole, .hole, .hole, .hole, .hole, .hole, .hole, .hole, .hole, .hole, .hole, .hole] = some (rT true R) := by
    show (if frzdL (rsT R) = true then some (T.nd (.lst true) (rsT R)) else none) = _
    rw [if_pos (frzdL_rsT R)]
    rfl
  refine Rn_seq (Rn_asg (Re_make (Re_xslot rfl (Re_xval (Re_lift hl (Re_xnil ⟨[.at (.int n), rT true R], [scr, d, .at (.int n), rT true R, .hole, .hole, .hole, .hole, .hole, .hole, .hole, .hole, .hole, .hole, .hole, .hole, .hole], rfl, (make_ok W).mono fun t ts h => ?_⟩))))))
  obtain ⟨rfl, m', rfl⟩ := h
  obtain ⟨Wt, hWt⟩ : ∃ Wt, webT c.Web n R = Wt := ⟨_, rfl⟩
  have wh : isHole Wt = false := by rw [← hWt]; rfl
  have wf : frzd Wt = false := by rw [← hWt]; rfl
  refine ⟨webT c.Web n R, [.at (.int n), rT m' R], [scr, d, .at (.int n), rT true R, .hole, .hole, .hole, .hole, .hole, .hole, .hole, .hole, .hole, .hole, .hole, .hole, .hole], rfl, rfl, rfl, [scr, d, .at (.int n), rT true R, Wt, .hole, .hole, .hole, .hole, .hole, .hole, .hole, .hole, .hole, .hole, .hole, .hole], by rw [← hWt]; rfl, ?_⟩
  refine Rn_seq (Rn_asg (Re_call (Re_xslot rfl (Re_xnil ⟨[rT true R], [scr, d, .at (.int n), .hole, Wt, .hole, .hole, .hole, .hole, .hole, .hole, .hole, .hole, .hole, .hole, .hole, .hole], rfl, (law_tree_ok W.roads (by omega) (by omega) (by omega)).mono fun t ts h => ?_⟩))))
  obtain ⟨rfl, rfl⟩ := h
  obtain ⟨due, hdue⟩ : ∃ due, treeL n R = due := ⟨_, rfl⟩
  refine ⟨[scr, d, .at (.int n), rT true R, Wt, .hole, .hole, .hole, .hole, .hole, .hole, .hole, .hole, .hole, .hole, .hole, .hole], rfl, [scr, d, .at (.int n), rT true R, Wt, lT true due, .hole, .hole, .hole, .hole, .hole, .hole, .hole, .hole, .hole, .hole, .hole], by rw [hdue]; rfl, ?_⟩
  rw [hdue] at tl tok
  refine Rn_seq (Rn_for (fun _ i ρ => ∃ v6 v7, ρ = [scr, d, .at (.int n), rT true R, Wt, lT true due, v6, v7, .hole, .hole, .hole, .hole, .hole, .hole, .hole, .hole, .hole]) (Re_b (Re_lift rfl (Re_r (a := TI [0, 1]) rfl ⟨⟨_, _, rfl⟩, ?_, ?_⟩))))
  · rintro i t ρ ht ⟨v6, v7, rfl⟩
    obtain ⟨j, hj, rfl⟩ := TI_at ht
    have tr : Rg (G_tree c) [Wt] fun t ts => t = lT true due ∧ ts = [Wt] := by
      rw [← hWt, ← hdue]
      exact tree_ok' W
    refine ⟨[scr, d, .at (.int n), rT true R, Wt, lT true due, .at (.int j), v7, .hole, .hole, .hole, .hole, .hole, .hole, .hole, .hole, .hole], rfl, Rn_seq (Rn_asg (Re_call (Re_xslot (var_get rfl wh) (Re_xnil ⟨[Wt], [scr, d, .at (.int n), rT true R, .hole, lT true due, .at (.int j), v7, .hole, .hole, .hole, .hole, .hole, .hole, .hole, .hole, .hole], fill_own (var_get rfl wh) wf rfl, tr.mono fun t ts h => ?_⟩))))⟩
    obtain ⟨rfl, rfl⟩ := h
    refine ⟨[scr, d, .at (.int n), rT true R, Wt, lT true due, .at (.int j), v7, .hole, .hole, .hole, .hole, .hole, .hole, .hole, .hole, .hole], rfl, [scr, d, .at (.int n), rT true R, Wt, lT true due, .at (.int j), lT true due, .hole, .hole, .hole, .hole, .hole, .hole, .hole, .hole, .hole], rfl, ?_⟩
    refine Rn_seq (Rn_if (Re_not (Re_test (Re_call (Re_xslot rfl (Re_xslot rfl (Re_xnil ⟨[lT true due, lT true due], [scr, d, .at (.int n), rT true R, Wt, .hole, .at (.int j), .hole, .hole, .hole, .hole, .hole, .hole, .hole, .hole, .hole, .hole], rfl, (like_ok02 (like_I (n := 2) (by omega))).mono fun t ts h => ?_⟩)))))))
    obtain ⟨rfl, rfl⟩ := h
    refine ⟨[scr, d, .at (.int n), rT true R, Wt, lT true due, .at (.int j), lT true due, .hole, .hole, .hole, .hole, .hole, .hole, .hole, .hole, .hole], rfl, true, rfl, (fun z => by cases z), fun _ => Rn_nx ?_⟩
    exact Rn_drop (Re_bm rfl rfl (Re_lift (a := [.at (.int (-1))]) rfl ⟨_, _, _, rfl, mapp_I (l := due) (by omega), _, _, rfl⟩))
  rintro ρ ⟨v6, v7, rfl⟩
  refine Rn_seq (Rn_for (fun _ i ρ => ∃ md v8 v9 v10 v11 v12 v14 v15, ρ = [scr, d, .at (.int n), rT true R, Wt, lT md due, v6, v7, v8, v9, v10, v11, v12, .hole, v14, v15, .hole]) (Re_b (Re_lift (a := .at (.int (R.length : Nat))) (by
    show some (T.at (.int ((rsT R).length : Nat))) = _
    rw [rsT_len]) (Re_r (a := TI (numbers R.length)) ?_ ⟨⟨_, _, _, _, _, _, _, _, rfl⟩, ?_, ?_⟩))))
  · show (if bnd ((R.length : Nat) : Int) = true then some (intsT 0 ((R.length : Nat) : Int).toNat) else none) = _
    rw [if_pos (by unfold bnd; simp; omega), rg_nums]
    rfl
  · rintro i t ρ ht ⟨md, v8, v9, v10, v11, v12, v14, v15, rfl⟩
    obtain ⟨k, hk, rfl⟩ := TI_at ht
    have kr := numbers_mem.mp (List.mem_of_getElem? hk)
    have k0 : 0 ≤ k := kr.1
    have k1 : k < R.length := by omega
    have hr := road_get k0 k1
    have rr := W.rng _ (List.mem_of_getElem? hr)
    obtain ⟨tS, uS, eS, uSe, hS⟩ := side_ok (c := c) W k0 k1
    subst uSe
    obtain ⟨tI, uI, eI, uIe, hI⟩ := instead_ok (c := c) W k0 k1
    subst uIe
    rw [hWt] at eS eI
    rw [hdue] at hS hI
    have rS := Rg_eq eS
    have rI := Rg_eq eI
    refine ⟨[scr, d, .at (.int n), rT true R, Wt, lT md due, v6, v7, .at (.int k), v9, v10, v11, v12, .hole, v14, v15, .hole], rfl, Rn_seq (Rn_asg (Re_lift (keep_some (f2_some rfl rfl (ix_rsT k0 hr)) rfl) ⟨[scr, d, .at (.int n), rT true R, Wt, lT md due, v6, v7, .at (.int k), .at (.int (roadAt R k).1), .at (.int (roadAt R k).2.1), .at (.int (roadAt R k).2.2), v12, .hole, v14, v15, .hole], rfl, ?_⟩))⟩
    generalize T.at (.int (roadAt R k).2.2) = v11
    refine Rn_seq (Rn.mono (Φ := fun o ρ => o = .nx ∧ ∃ md v12 l, l.length ≤ 20 ∧ ρ = [scr, d, .at (.int n), rT true R, Wt, lT md due, v6, v7, .at (.int k), .at (.int (roadAt R k).1), .at (.int (roadAt R k).2.1), v11, v12, .hole, lT true l, v15, .hole] ∧ ((tS = lT true l ∧ tI = .at .non) ∨ (tS = .at .non ∧ tI = lT true l))) ?_ ?_)
    · refine Rn_if (Re_test (Re_lift (f2_some rfl rfl gIn_I) ⟨_, rfl, fun e => ?_, fun e => ?_⟩))
      · -- a road of the tree
        have ink : k ∈ due := of_decide_eq_true e
        obtain ⟨hs, rfl, hnd, hpw, hmem⟩ : ∃ hs, tS = lT true hs ∧ hs.Nodup ∧ (hs.Pairwise fun a b => a ≤ b) ∧ ∀ h, h ∈ hs ↔ Conn R (withoutT due k) (roadAt R k).1 h := by
          rcases hS with ⟨z, _⟩ | ⟨_, z⟩
          · exact absurd ink z
          · exact z
        have hnI : tI = .at .non := by
          rcases hI with ⟨_, z⟩ | ⟨z, _⟩
          · exact z
          · exact absurd ink z
        subst hnI
        refine Rn_seq (Rn_asg (Re_lc (fun _ j acc ρ => ∃ v13, acc = TI (withoutT (due.take j) k) ∧ ρ = [scr, d, .at (.int n), rT true R, Wt, lT false due, v6, v7, .at (.int k), .at (.int (roadAt R k).1), .at (.int (roadAt R k).2.1), v11, v12, v13, v14, v15, .hole])
          (Re_itI (m := md) (rs := due) rfl ⟨rfl, ⟨_, rfl, rfl⟩, ?_, ?_⟩)))
        · rintro j t acc ρ ht ⟨v13, rfl, rfl⟩
          obtain ⟨p, hp, rfl⟩ := TI_at ht
          have nx : withoutT (due.take (j + 1)) k = withoutT (due.take j) k ++ if p ≠ k then [p] else [] := by
            rw [take_snoc hp]
            unfold withoutT
            rw [List.filter_append]
            by_cases e : p = k <;> simp [e]
          refine ⟨[scr, d, .at (.int n), rT true R, Wt, lT false due, v6, v7, .at (.int k), .at (.int (roadAt R k).1), .at (.int (roadAt R k).2.1), v11, v12, .at (.int p), v14, v15, .hole], rfl, Re_test (Re_lift rfl ⟨_, rfl, fun e2 => ⟨_, ?_, rfl⟩, fun e2 => Re_is rfl ⟨?_, _, ?_, rfl⟩⟩)⟩
          · rw [nx, if_neg (by have := eqi (by simpa using e2); simpa using this), List.append_nil]
          · rw [len_TI]
            have := List.length_filter_le (fun m => decide (m ≠ k)) (due.take j)
            rw [List.length_take] at this
            unfold withoutT
            omega
          · rw [nx, if_pos (nei (by simpa using e2)), TI_app]
            rfl
        rintro acc ρ ⟨v13, rfl, rfl⟩
        rw [len_TI, List.take_length]
        have wl : (withoutT due k).length ≤ 20 := by
          have := List.length_filter_le (fun m => decide (m ≠ k)) due
          unfold withoutT
          omega
        refine ⟨[scr, d, .at (.int n), rT true R, Wt, lT false due, v6, v7, .at (.int k), .at (.int (roadAt R k).1), .at (.int (roadAt R k).2.1), v11, lT true (withoutT due k), .hole, v14, v15, .hole], rfl, ?_⟩
        refine Rn_seq (Rn_asg (Re_call (Re_xslot (var_get rfl wh) (Re_xslot rfl (Re_xnil ⟨[Wt, .at (.int k)], [scr, d, .at (.int n), rT true R, .hole, lT false due, v6, v7, .at (.int k), .at (.int (roadAt R k).1), .at (.int (roadAt R k).2.1), v11, lT true (withoutT due k), .hole, v14, v15, .hole], fill_own (var_get rfl wh) wf rfl, rS.mono fun t ts h => ?_⟩)))))
        obtain ⟨rfl, rfl⟩ := h
        refine ⟨[scr, d, .at (.int n), rT true R, Wt, lT false due, v6, v7, .at (.int k), .at (.int (roadAt R k).1), .at (.int (roadAt R k).2.1), v11, lT true (withoutT due k), .hole, v14, v15, .hole], rfl, [scr, d, .at (.int n), rT true R, Wt, lT false due, v6, v7, .at (.int k), .at (.int (roadAt R k).1), .at (.int (roadAt R k).2.1), v11, lT true (withoutT due k), .hole, lT true hs, v15, .hole], rfl, ?_⟩
        have rrg : ∀ r ∈ R, 0 ≤ r.1 ∧ r.1 < r.2.1 ∧ r.2.1 < n := fun r hr => by
          have := W.rng r hr
          exact ⟨this.1, this.2.1, this.2.2.1⟩
        have wrg : ∀ j ∈ withoutT due k, 0 ≤ j ∧ j < R.length := fun j hj => tok.rg j (List.mem_filter.mp hj).1
        obtain ⟨rn, rm⟩ := reach_all (a := (roadAt R k).1) wrg
        have same : sortI (reachR R (withoutT due k) [(roadAt R k).1] (withoutT due k).length) = hs := by
          have pm : hs.Perm (reachR R (withoutT due k) [(roadAt R k).1] (withoutT due k).length) := (List.perm_ext_iff_of_nodup hnd rn).mpr fun x => by rw [hmem x, rm x]
          exact (rising_unique pm hpw).symm
        have hsl : hs.length ≤ 20 := by
          have := nodup_bound 8 hs hnd fun x hx => by
            have := conn_rg rrg (a := (roadAt R k).1) (by omega) ((hmem x).mp hx)
            omega
          omega
        refine Rn_if (Re_if (Re_not (Re_test (Re_call (Re_xslot rfl (Re_xval (Re_call (Re_xslot rfl (Re_xslot rfl (Re_xslot rfl (Re_xnil ⟨[rT true R, lT true (withoutT due k), .at (.int (roadAt R k).1)], [scr, d, .at (.int n), .hole, Wt, lT false due, v6, v7, .at (.int k), .at (.int (roadAt R k).1), .at (.int (roadAt R k).2.1), v11, .hole, .hole, lT true hs, v15, .hole], rfl, (law_reach_ok (m := true) (m2 := true) rrg wrg (by omega) n8 wl).mono fun t ts h => ?_⟩)))))))))))
        obtain ⟨rfl, m2, rfl⟩ := h
        rw [same]
        refine ⟨[scr, d, .at (.int n), rT true R, Wt, lT false due, v6, v7, .at (.int k), .at (.int (roadAt R k).1), .at (.int (roadAt R k).2.1), v11, lT m2 (withoutT due k), .hole, lT true hs, v15, .hole], rfl, Re_xnil ⟨[lT true hs, lT true hs], [scr, d, .at (.int n), rT true R, Wt, lT false due, v6, v7, .at (.int k), .at (.int (roadAt R k).1), .at (.int (roadAt R k).2.1), v11, lT m2 (withoutT due k), .hole, .hole, v15, .hole], rfl, (like_ok02 (like_I (n := 2) (by omega))).mono fun t ts h => ?_⟩⟩
        obtain ⟨rfl, rfl⟩ := h
        refine ⟨[scr, d, .at (.int n), rT true R, Wt, lT false due, v6, v7, .at (.int k), .at (.int (roadAt R k).1), .at (.int (roadAt R k).2.1), v11, lT m2 (withoutT due k), .hole, lT true hs, v15, .hole], rfl, true, rfl, (fun z => by cases z), fun _ => ?_⟩
        refine Re_test (Re_VP (Re_call (Re_xslot (var_get rfl wh) (Re_xslot rfl (Re_xnil ⟨[Wt, .at (.int k)], [scr, d, .at (.int n), rT true R, .hole, lT false due, v6, v7, .at (.int k), .at (.int (roadAt R k).1), .at (.int (roadAt R k).2.1), v11, lT m2 (withoutT due k), .hole, lT true hs, v15, .hole], fill_own (var_get rfl wh) wf rfl, rI.mono fun t ts h => ?_⟩)))))
        obtain ⟨rfl, rfl⟩ := h
        refine ⟨[scr, d, .at (.int n), rT true R, Wt, lT false due, v6, v7, .at (.int k), .at (.int (roadAt R k).1), .at (.int (roadAt R k).2.1), v11, lT m2 (withoutT due k), .hole, lT true hs, v15, .hole], rfl, _, _, rfl, rfl, false, rfl, (fun z => by cases z), fun _ => Rn_nx ⟨rfl, false, _, hs, hsl, rfl, .inl ⟨rfl, rfl⟩⟩⟩
      · -- another road
        have nik : k ∉ due := of_decide_eq_false e
        obtain ⟨ws, vs, rfl, pth⟩ : ∃ ns vs, tI = lT true ns ∧ Pth R due (roadAt R k).1 ns vs (roadAt R k).2.1 := by
          rcases hI with ⟨z, _⟩ | ⟨_, z⟩
          · exact absurd z nik
          · exact z
        have hnS : tS = .at .non := by
          rcases hS with ⟨_, z⟩ | ⟨z, _⟩
          · exact z
          · exact absurd z nik
        subst hnS
        obtain ⟨p1, p2, p3⟩ := pth.at_
        have pl := pth.len
        have wsl : ws.length ≤ 20 := by
          have rrg : ∀ r ∈ R, 0 ≤ r.1 ∧ r.1 < r.2.1 ∧ r.2.1 < n := fun r hr => by
            have := W.rng r hr
            exact ⟨this.1, this.2.1, this.2.2.1⟩
          have := nodup_bound 8 vs pth.nd fun x hx => by
            obtain ⟨q, hq⟩ := List.mem_iff_getElem?.mp hx
            have ql := (List.getElem?_eq_some_iff.mp hq).1
            cases q with
            | zero =>
              rw [p1] at hq
              cases hq
              omega
            | succ q =>
              have hw : ws[q]? = some ws[q] := List.getElem?_eq_getElem (by omega)
              obtain ⟨_, a, b, _, hb, ed⟩ := p3 q _ hw
              rw [hq] at hb
              cases hb
              obtain ⟨_, r, hr2, ed⟩ := ed
              have := rrg r (List.mem_of_getElem? hr2)
              rcases ed with ⟨_, e⟩ | ⟨_, e⟩ <;> omega
          omega
        refine Rn_seq (Rn_asg (Re_call (Re_xslot (var_get rfl wh) (Re_xslot rfl (Re_xnil ⟨[Wt, .at (.int k)], [scr, d, .at (.int n), rT true R, .hole, lT md due, v6, v7, .at (.int k), .at (.int (roadAt R k).1), .at (.int (roadAt R k).2.1), v11, v12, .hole, v14, v15, .hole], fill_own (var_get rfl wh) wf rfl, rI.mono fun t ts h => ?_⟩)))))
        obtain ⟨rfl, rfl⟩ := h
        refine ⟨[scr, d, .at (.int n), rT true R, Wt, lT md due, v6, v7, .at (.int k), .at (.int (roadAt R k).1), .at (.int (roadAt R k).2.1), v11, v12, .hole, v14, v15, .hole], rfl, [scr, d, .at (.int n), rT true R, Wt, lT md due, v6, v7, .at (.int k), .at (.int (roadAt R k).1), .at (.int (roadAt R k).2.1), v11, v12, .hole, lT true ws, v15, .hole], rfl, ?_⟩
        refine Rn_seq (Rn_if (Re_if (Re_not (Re_test (Re_lift (a := .at (.bl true)) rfl ⟨true, rfl, (fun z => by cases z), fun _ => ?_⟩)))))
        · refine Re_test (Re_VP (Re_lcH (i := 14) (ts := TI ws) rfl (frzdL_TI ws) rfl (fun j acc ρ => ∃ v13, acc = [] ∧ ρ = [scr, d, .at (.int n), rT true R, Wt, lT md due, v6, v7, .at (.int k), .at (.int (roadAt R k).1), .at (.int (roadAt R k).2.1), v11, v12, v13, .hole, v15, .hole]) ⟨.hole, rfl, rfl⟩ ?_ ?_))
          · rintro j t acc ρ ht ⟨v13, rfl, rfl⟩
            obtain ⟨p, hp, rfl⟩ := TI_at ht
            have ip : p ∈ due := (p3 j p hp).1
            refine ⟨[scr, d, .at (.int n), rT true R, Wt, lT md due, v6, v7, .at (.int k), .at (.int (roadAt R k).1), .at (.int (roadAt R k).2.1), v11, v12, .at (.int p), .hole, v15, .hole], rfl, Re_test (Re_lift (f2_some rfl rfl gIn_I) ⟨_, rfl, fun _ => ⟨_, rfl, rfl⟩, fun e2 => ?_⟩)⟩
            have e2 : (!decide (p ∈ due)) = true := e2
            rw [decide_eq_true ip] at e2
            cases e2
          · rintro acc ρ ⟨v13, rfl, rfl⟩
            refine ⟨rfl, _, _, rfl, lstD (l := []) (k := []), false, rfl, (fun z => by cases z), fun _ => Rn_nx ?_⟩
            show Rn _ [scr, d, .at (.int n), rT true R, Wt, lT md due, v6, v7, .at (.int k), .at (.int (roadAt R k).1), .at (.int (roadAt R k).2.1), v11, v12, .hole, lT true ws, v15, .hole] _
            refine Rn_if (Re_if (Re_not (Re_test (Re_call (Re_xslot rfl (Re_xslot rfl (Re_xslot rfl (Re_xslot rfl (Re_xnil ⟨[rT true R, lT true ws, .at (.int (roadAt R k).1), .at (.int (roadAt R k).2.1)], [scr, d, .at (.int n), .hole, Wt, lT md due, v6, v7, .at (.int k), .at (.int (roadAt R k).1), .at (.int (roadAt R k).2.1), v11, v12, .hole, .hole, v15, .hole], rfl, (law_leads_ok pth wsl).mono fun t ts h => ?_⟩)))))))))
            obtain ⟨rfl, rfl⟩ := h
            refine ⟨[scr, d, .at (.int n), rT true R, Wt, lT md due, v6, v7, .at (.int k), .at (.int (roadAt R k).1), .at (.int (roadAt R k).2.1), v11, v12, .hole, lT true ws, v15, .hole], rfl, true, rfl, (fun z => by cases z), fun _ => ?_⟩
            refine Re_test (Re_VP (Re_call (Re_xslot (var_get rfl wh) (Re_xslot rfl (Re_xnil ⟨[Wt, .at (.int k)], [scr, d, .at (.int n), rT true R, .hole, lT md due, v6, v7, .at (.int k), .at (.int (roadAt R k).1), .at (.int (roadAt R k).2.1), v11, v12, .hole, lT true ws, v15, .hole], fill_own (var_get rfl wh) wf rfl, rS.mono fun t ts h => ?_⟩)))))
            obtain ⟨rfl, rfl⟩ := h
            refine ⟨[scr, d, .at (.int n), rT true R, Wt, lT md due, v6, v7, .at (.int k), .at (.int (roadAt R k).1), .at (.int (roadAt R k).2.1), v11, v12, .hole, lT true ws, v15, .hole], rfl, _, _, rfl, rfl, false, rfl, (fun z => by cases z), fun _ => Rn_nx ⟨rfl, md, _, ws, wsl, rfl, .inr ⟨rfl, rfl⟩⟩⟩
    · rintro o ρ ⟨rfl, md, v12, l, ll, rfl, both⟩
      have hl2 : fCB (qCons (fVar 14) pNil) gList [scr, d, .at (.int n), rT true R, Wt, lT md due, v6, v7, .at (.int k), .at (.int (roadAt R k).1), .at (.int (roadAt R k).2.1), v11, v12, .hole, lT true l, v15, .hole] = some (lT true l) := by
        show (if frzdL (TI l) = true then some (T.nd (.lst true) (TI l)) else none) = _
        rw [if_pos (frzdL_TI l)]
        rfl
      refine Rn_seq (Rn_asg (Re_lift hl2 ⟨[scr, d, .at (.int n), rT true R, Wt, lT md due, v6, v7, .at (.int k), .at (.int (roadAt R k).1), .at (.int (roadAt R k).2.1), v11, v12, .hole, lT true l, lT true l, .hole], rfl, ?_⟩))
      refine Rn_seq (Rn_drop (Re_bm rfl rfl (Re_nil ⟨.lst true, TI l, (.at .non, .lst true, []), rfl, rfl, ?_⟩)))
      show Rn _ [scr, d, .at (.int n), rT true R, Wt, lT md due, v6, v7, .at (.int k), .at (.int (roadAt R k).1), .at (.int (roadAt R k).2.1), v11, v12, .hole, lT true [], lT true l, .hole] _
      refine Rn_if (Re_test (Re_SV rfl (Re_lst (Re_cons (Re_call (Re_xslot (var_get rfl wh) (Re_xslot rfl (Re_xnil ⟨[Wt, .at (.int k)], [scr, d, .at (.int n), rT true R, .hole, lT md due, v6, v7, .at (.int k), .at (.int (roadAt R k).1), .at (.int (roadAt R k).2.1), v11, v12, .hole, lT true [], lT true l, .hole], fill_own (var_get rfl wh) wf rfl, rS.mono fun t ts h => ?_⟩))))))))
      obtain ⟨rfl, rfl⟩ := h
      refine ⟨[scr, d, .at (.int n), rT true R, Wt, lT md due, v6, v7, .at (.int k), .at (.int (roadAt R k).1), .at (.int (roadAt R k).2.1), v11, v12, .hole, lT true [], lT true l, .hole], rfl, Re_cons (Re_call (Re_xslot (var_get rfl wh) (Re_xslot rfl (Re_xnil ⟨[Wt, .at (.int k)], [scr, d, .at (.int n), rT true R, .hole, lT md due, v6, v7, .at (.int k), .at (.int (roadAt R k).1), .at (.int (roadAt R k).2.1), v11, v12, .hole, lT true [], lT true l, .hole], fill_own (var_get rfl wh) wf rfl, rI.mono fun t ts h => ?_⟩))))⟩
      obtain ⟨rfl, rfl⟩ := h
      refine ⟨[scr, d, .at (.int n), rT true R, Wt, lT md due, v6, v7, .at (.int k), .at (.int (roadAt R k).1), .at (.int (roadAt R k).2.1), v11, v12, .hole, lT true [], lT true l, .hole], rfl, Re_nil ⟨by show 2 ≤ 1000; decide, lT true l, .at (.bl false), rfl, ?_, false, rfl, (fun z => by cases z), fun _ => Rn_nx ⟨md, _, _, _, _, _, _, _, rfl⟩⟩⟩
      rcases both with ⟨rfl, rfl⟩ | ⟨rfl, rfl⟩
      · exact inD_two.1
      · exact inD_two.2
  rintro ρ ⟨md, v8, v9, v10, v11, v12, v14, v15, rfl⟩
  have lenR : ∀ {d16 : T} {d : T}, fCB (qCons (fVar 3) pNil) gLen [scr, d, .at (.int n), rT true R, Wt, lT md due, v6, v7, v8, v9, v10, v11, v12, .hole, v14, v15, d16] = some (.at (.int (R.length : Nat))) := fun {d16 d} => by
    show some (T.at (.int ((rsT R).length : Nat))) = _
    rw [rsT_len]
  refine Rn_seq (Rn_asg (Re_2V (Re_lst (Re_cons (Re_lift lenR (Re_cons (Re_lift (a := .at (.int (-1))) rfl (Re_cons (Re_2V (Re_lift lenR (Re_call (Re_xslot (var_get rfl hd.hole) (Re_xval (Re_lift (a := .at (.int 1000000)) rfl (Re_xnil ⟨_, _, fill_own (var_get rfl hd.hole) hd.frz rfl, (next_ok hd (n := 1000000) (by decide) (by decide)).mono fun t ts h => ?_⟩)))))))))))))))
  obtain ⟨r, d1, rfl, rfl, r0, r1, hd1⟩ := h
  refine ⟨[scr, d1, .at (.int n), rT true R, Wt, lT md due, v6, v7, v8, v9, v10, v11, v12, .hole, v14, v15, .hole], rfl, .at (.int (R.length + r)), rfl, Re_nil ⟨by show 3 ≤ 1000; decide, Re_call (Re_xslot (var_get rfl hd1.hole) (Re_xval (Re_lift (a := .at (.int 3)) rfl (Re_xnil ⟨_, _, fill_own (var_get rfl hd1.hole) hd1.frz rfl, (next_ok hd1 (n := 3) (by decide) (by decide)).mono fun t ts h => ?_⟩))))⟩⟩
  obtain ⟨q, d2, rfl, rfl, q0, q1, hd2⟩ := h
  obtain ⟨bad, hb, bk⟩ : ∃ bad : Int, gIxL (.nd (.lst true) [.at (.int (R.length : Nat)), .at (.int (-1)), .at (.int (R.length + r))]) (.at (.int q)) = some (.at (.int bad)) ∧ BadK R bad := by
    have : q = 0 ∨ q = 1 ∨ q = 2 := by omega
    rcases this with rfl | rfl | rfl
    · exact ⟨_, ix_lst (by decide) rfl, .inr ⟨by omega, by omega⟩⟩
    · exact ⟨_, ix_lst (by decide) rfl, .inl rfl⟩
    · exact ⟨_, ix_lst (by decide) rfl, .inr ⟨by omega, by omega⟩⟩
  refine ⟨[scr, d2, .at (.int n), rT true R, Wt, lT md due, v6, v7, v8, v9, v10, v11, v12, .hole, v14, v15, .hole], rfl, .at (.int bad), hb, [scr, d2, .at (.int n), rT true R, Wt, lT md due, v6, v7, v8, v9, v10, v11, v12, .hole, v14, v15, .at (.int bad)], rfl, ?_⟩
  have bs := side_bad (c := c) (n := n) bk
  have bi := instead_bad (c := c) (n := n) bk
  rw [hWt] at bs bi
  exact Rn_ret (Re_if (Re_test (Re_lam (e := .hole) wh wf bs ⟨true, rfl, fun _ => Re_lam (e := .hole) wh wf bi rfl, (fun z => by cases z)⟩)))
end
end TV
open PySem PySem.W PyProof.Rows in
set_option maxRecDepth 100000 in
set_option maxHeartbeats 0 in
theorem PySem.Challenge.cw_lettertree_k02_least_trees_holds : PySem.Challenge.rw_lettertree_k02_least_trees.Holds := by
  w_on; o_law; k_head; (case hw => w_witness2)
  k_fill
  refine LT.walk_tab (k := 8) (x := "_law_script") (l := PySem.Challenge.rw_lettertree_k02_least_trees) rfl rfl ⟨rfl, by decide, by decide⟩ (fun w h Y => PySem.W.km_in_of Y) ?F
  case F =>
    intro w mg fa h KX G hmg
    refine' TV.all_mk KX G hmg TV.good ?a_tree ?a_instead ?a_side ?a__check_web ?a__is_bad ?a__check_road ?a__paths ?a__across ?a__law_dice ?a__law_next ?a__law_like ?a__law_web ?a__law_tree ?a__law_is ?a__law_refused ?a__law_reach ?a__law_leads ?a_law ?g_WebError ?g_BadWeb ?g_NoHand ?g_NoRoad ?g_NoLetter ?g_BadText ?g_Web ?z_ValueError ?z_bool ?z_dict ?z_enumerate ?z_int ?z_isinstance ?z_len ?z_list ?z_min ?z_range ?z_set ?z_sorted ?z_str ?z_tuple ?g_MOST_HANDS ?g_MOST_ROADS ?g_MOST_COST ?a_BadWeb___init__ ?i_BadWeb___init__ ?l_BadWeb___init__ ?c_BadWeb___init__ ?k_BadWeb___init__ ?a_Web___init__ ?i_Web___init__ ?l_Web___init__ ?c_Web___init__ ?k_Web___init__ ?a_Web_hands ?i_Web_hands ?l_Web_hands ?c_Web_hands ?k_Web_hands ?a_Web_roads ?i_Web_roads ?l_Web_roads ?c_Web_roads ?k_Web_roads ?l_tree ?c_tree ?lc_tree ?tab_tree ?tno_tree ?k_tree ?l_instead ?c_instead ?k_instead ?l_side ?c_side ?k_side ?l__check_web ?c__check_web ?k__check_web ?l__is_bad ?c__is_bad ?k__is_bad ?l__check_road ?c__check_road ?k__check_road ?l__paths ?c__paths ?k__paths ?l__across ?c__across ?k__across ?l__law_dice ?c__law_dice ?k__law_dice ?l__law_next ?c__law_next ?k__law_next ?l__law_like ?c__law_like ?k__law_like ?l__law_web ?c__law_web ?k__law_web ?l__law_tree ?c__law_tree ?k__law_tree ?l__law_is ?c__law_is ?k__law_is ?l__law_refused ?c__law_refused ?k__law_refused ?l__law_reach ?c__law_reach ?k__law_reach ?l__law_leads ?c__law_leads ?k__law_leads ?l_law ?c_law ?lc_law ?tab_law ?tno_law ?k_law ?ga_BadWeb ?gg_BadWeb ?sub_BadWeb_BaseException ?hd_BadWeb ?hc_BadWeb ?obj_get ?obj_takes ?mro_BadWeb ?xl_BadWeb ?sa_BadWeb ?ty_BadWeb ?kc_BadWeb ?is_t_BadWeb ?is_no_BadWeb_why ?is_no_BadWeb_number ?sub_WebError_BaseException ?hd_WebError ?ty_WebError ?sr_BadWeb_WebError ?cl_BadText ?sr_BadWeb_BadText ?ty_BadText ?sr_BadWeb_BadWeb ?cl_BadWeb ?cl_NoHand ?sr_BadWeb_NoHand ?ty_NoHand ?cl_NoLetter ?sr_BadWeb_NoLetter ?ty_NoLetter ?cl_NoRoad ?sr_BadWeb_NoRoad ?ty_NoRoad ?sub_BadWeb_ValueError ?ga_NoRoad ?gg_NoRoad ?sub_NoRoad_BaseException ?hd_NoRoad ?hc_NoRoad ?mro_NoRoad ?is_xo_NoRoad ?is_kc_NoRoad ?is_ty_NoRoad ?sr_NoRoad_WebError ?sr_NoRoad_BadText ?sr_NoRoad_NoRoad ?sr_NoRoad_BadWeb ?sr_NoRoad_NoHand ?sr_NoRoad_NoLetter ?sub_NoRoad_ValueError ?pg_Web ?hd_Web ?po_Web ?sa_Web ?mk_Web ?kc_Web ?na_Web__hands ?na_Web__roads ?rc_tree ?rc_law ?pne_tree_law
    (case a_tree => k_is)
    (case a_instead => k_is)
    (case a_side => k_is)
    (case a__check_web => k_is)
    (case a__is_bad => k_is)
    (case a__check_road => k_is)
    (case a__paths => k_is)
    (case a__across => k_is)
    (case a__law_dice => k_is)
    (case a__law_next => k_is)
    (case a__law_like => k_is)
    (case a__law_web => k_is)
    (case a__law_tree => k_is)
    (case a__law_is => k_is)
    (case a__law_refused => k_is)
    (case a__law_reach => k_is)
    (case a__law_leads => k_is)
    (case a_law => k_is)
    (case g_WebError => k_is)
    (case g_BadWeb => k_is)
    (case g_NoHand => k_is)
    (case g_NoRoad => k_is)
    (case g_NoLetter => k_is)
    (case g_BadText => k_is)
    (case g_Web => k_is)
    (case z_ValueError => k_is)
    (case z_bool => k_is)
    (case z_dict => k_is)
    (case z_enumerate => k_is)
    (case z_int => k_is)
    (case z_isinstance => k_is)
    (case z_len => k_is)
    (case z_list => k_is)
    (case z_min => k_is)
    (case z_range => k_is)
    (case z_set => k_is)
    (case z_sorted => k_is)
    (case z_str => k_is)
    (case z_tuple => k_is)
    (case g_MOST_HANDS => k_is)
    (case g_MOST_ROADS => k_is)
    (case g_MOST_COST => k_is)
    (case a_BadWeb___init__ => k_is)
    (case i_BadWeb___init__ => k_is)
    (case l_BadWeb___init__ => k_is)
    (case c_BadWeb___init__ => k_is)
    (case k_BadWeb___init__ => k_is)
    (case a_Web___init__ => k_is)
    (case i_Web___init__ => k_is)
    (case l_Web___init__ => k_is)
    (case c_Web___init__ => k_is)
    (case k_Web___init__ => k_is)
    (case a_Web_hands => k_is)
    (case i_Web_hands => k_is)
    (case l_Web_hands => k_is)
    (case c_Web_hands => k_is)
    (case k_Web_hands => k_is)
    (case a_Web_roads => k_is)
    (case i_Web_roads => k_is)
    (case l_Web_roads => k_is)
    (case c_Web_roads => k_is)
    (case k_Web_roads => k_is)
    (case l_tree => k_is)
    (case c_tree => k_is)
    (case lc_tree => k_is)
    (case tab_tree => exact rfl)
    (case tno_tree => kernel_rfl)
    (case k_tree => k_is)
    (case l_instead => k_is)
    (case c_instead => k_is)
    (case k_instead => k_is)
    (case l_side => k_is)
    (case c_side => k_is)
    (case k_side => k_is)
    (case l__check_web => k_is)
    (case c__check_web => k_is)
    (case k__check_web => k_is)
    (case l__is_bad => k_is)
    (case c__is_bad => k_is)
    (case k__is_bad => k_is)
    (case l__check_road => k_is)
    (case c__check_road => k_is)
    (case k__check_road => k_is)
    (case l__paths => k_is)
    (case c__paths => k_is)
    (case k__paths => k_is)
    (case l__across => k_is)
    (case c__across => k_is)
    (case k__across => k_is)
    (case l__law_dice => k_is)
    (case c__law_dice => k_is)
    (case k__law_dice => k_is)
    (case l__law_next => k_is)
    (case c__law_next => k_is)
    (case k__law_next => k_is)
    (case l__law_like => k_is)
    (case c__law_like => k_is)
    (case k__law_like => k_is)
    (case l__law_web => k_is)
    (case c__law_web => k_is)
    (case k__law_web => k_is)
    (case l__law_tree => k_is)
    (case c__law_tree => k_is)
    (case k__law_tree => k_is)
    (case l__law_is => k_is)
    (case c__law_is => k_is)
    (case k__law_is => k_is)
    (case l__law_refused => k_is)
    (case c__law_refused => k_is)
    (case k__law_refused => k_is)
    (case l__law_reach => k_is)
    (case c__law_reach => k_is)
    (case k__law_reach => k_is)
    (case l__law_leads => k_is)
    (case c__law_leads => k_is)
    (case k__law_leads => k_is)
    (case l_law => k_is)
    (case c_law => k_is)
    (case lc_law => k_is)
    (case tab_law => exact rfl)
    (case tno_law => kernel_rfl)
    (case k_law => k_is)
    (case ga_BadWeb => k_is)
    (case gg_BadWeb => k_is)
    (case sub_BadWeb_BaseException => k_is)
    (case hd_BadWeb => k_is)
    (case hc_BadWeb => k_is)
    (case obj_get => k_is)
    (case obj_takes => k_is)
    (case mro_BadWeb => k_is)
    (case xl_BadWeb => k_is)
    (case sa_BadWeb => k_is)
    (case ty_BadWeb => k_is)
    (case kc_BadWeb => k_is)
    (case is_t_BadWeb => k_is)
    (case is_no_BadWeb_why => k_is)
    (case is_no_BadWeb_number => k_is)
    (case sub_WebError_BaseException => k_is)
    (case hd_WebError => k_is)
    (case ty_WebError => k_is)
    (case sr_BadWeb_WebError => k_is)
    (case cl_BadText => k_is)
    (case sr_BadWeb_BadText => k_is)
    (case ty_BadText => k_is)
    (case sr_BadWeb_BadWeb => k_is)
    (case cl_BadWeb => k_is)
    (case cl_NoHand => k_is)
    (case sr_BadWeb_NoHand => k_is)
    (case ty_NoHand => k_is)
    (case cl_NoLetter => k_is)
    (case sr_BadWeb_NoLetter => k_is)
    (case ty_NoLetter => k_is)
    (case cl_NoRoad => k_is)
    (case sr_BadWeb_NoRoad => k_is)
    (case ty_NoRoad => k_is)
    (case sub_BadWeb_ValueError => k_is)
    (case ga_NoRoad => k_is)
    (case gg_NoRoad => k_is)
    (case sub_NoRoad_BaseException => k_is)
    (case hd_NoRoad => k_is)
    (case hc_NoRoad => k_is)
    (case mro_NoRoad => k_is)
    (case is_xo_NoRoad => k_exc)
    (case is_kc_NoRoad => k_is)
    (case is_ty_NoRoad => k_is)
    (case sr_NoRoad_WebError => k_is)
    (case sr_NoRoad_BadText => k_is)
    (case sr_NoRoad_NoRoad => k_is)
    (case sr_NoRoad_BadWeb => k_is)
    (case sr_NoRoad_NoHand => k_is)
    (case sr_NoRoad_NoLetter => k_is)
    (case sub_NoRoad_ValueError => k_is)
    (case pg_Web => k_is)
    (case hd_Web => k_is)
    (case po_Web => k_is)
    (case sa_Web => k_is)
    (case mk_Web => k_is)
    (case kc_Web => k_is)
    (case na_Web__hands => k_is)
    (case na_Web__roads => k_is)
    (case rc_tree => exact ⟨_, rfl⟩)
    (case rc_law => exact ⟨_, rfl⟩)
    (case pne_tree_law => decide)
