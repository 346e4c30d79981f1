import PyProof.Rows.All
import Wide.All
import OpenK.AllK
import Wide.FinOn
import HandS.ForMost
import HandS.Conv
import HandS.IsInst
import HandS.ExcInit
import HandS.ExcCtx
import HandS.HotCalls
import HandS.ExcField
import HandS.ExcIs
import HandS.Wide
import HandS.More
import HandS.Walk
import HandS.Deep
import PySem.Challenge.RW_lettertree_k01_webs_refused
set_option Elab.async false
set_option linter.all false
set_option maxRecDepth 100000
set_option maxHeartbeats 4000000
/-! Own words for the laws of lettertree: frames, dice, rows of numbers. -/
namespace LT
open PySem L2

/-- what was tracked stands as before, but at the places M; tuples and what is locked stand there too -/
structure Fr (M : List Addr) (H H' : Hp) : Prop where
  keep : ∀ b o, b ∉ M → H b = some o → H' b = some o
  tup : ∀ b xs, H b = some (.tup xs) → H' b = some (.tup xs)
  frz : ∀ b o u, H b = some (.frz o u) → H' b = some (.frz o u)
theorem Fr.refl (M : List Addr) (H : Hp) : Fr M H H := ⟨fun _ _ _ h => h, fun _ _ h => h, fun _ _ _ h => h⟩
theorem Fr.trans {M : List Addr} {H H1 H2 : Hp} (a : Fr M H H1) (b : Fr M H1 H2) : Fr M H H2 :=
  ⟨fun x o n h => b.keep x o n (a.keep x o n h), fun x xs h => b.tup x xs (a.tup x xs h), fun x o u h => b.frz x o u (a.frz x o u h)⟩
theorem Fr.mono {M N : List Addr} {H H' : Hp} (a : Fr M H H') (h : ∀ x ∈ M, x ∈ N) : Fr N H H' :=
  ⟨fun x o n e => a.keep x o (fun z => n (h x z)) e, a.tup, a.frz⟩
theorem Fr.new {M : List Addr} {H : Hp} {p : Addr} {o : HO} (h : H p = none) : Fr M H (upd H p o) := by
  have k : ∀ b u, H b = some u → upd H p o b = some u := fun b u e => by
    rw [upd_ne (ne_of_none e h)]
    exact e
  exact ⟨fun b u _ e => k b u e, fun b xs e => k b _ e, fun b w u e => k b _ e⟩
theorem Fr.lst {M : List Addr} {H : Hp} {p : Addr} {o : HO} {xs : List V} (h : H p = some (.lst xs)) (hm : p ∈ M) : Fr M H (upd H p o) := by
  refine ⟨fun b u n e => ?_, fun b ys e => ?_, fun b w u e => ?_⟩
  · rw [upd_ne (fun z => n (by rw [z]; exact hm))]
    exact e
  · rw [upd_ne (ne_of e h (by intro q; cases q))]
    exact e
  · rw [upd_ne (ne_of e h (by intro q; cases q))]
    exact e
theorem Fr.dK {M : List Addr} {H : Hp} {p : Addr} {o : HO} {xs : List (Key × V)} (h : H p = some (.dK xs)) (hm : p ∈ M) : Fr M H (upd H p o) := by
  refine ⟨fun b u n e => ?_, fun b ys e => ?_, fun b w u e => ?_⟩
  · rw [upd_ne (fun z => n (by rw [z]; exact hm))]
    exact e
  · rw [upd_ne (ne_of e h (by intro q; cases q))]
    exact e
  · rw [upd_ne (ne_of e h (by intro q; cases q))]
    exact e
theorem Fr.ins {M : List Addr} {H : Hp} {p C dx : Addr} {fs : List (Str × V)} {o : HO} (h : H p = some (.ins C dx fs)) (hm : p ∈ M) : Fr M H (upd H p o) := by
  refine ⟨fun b u n e => ?_, fun b ys e => ?_, fun b w u e => ?_⟩
  · rw [upd_ne (fun z => n (by rw [z]; exact hm))]
    exact e
  · rw [upd_ne (ne_of e h (by intro q; cases q))]
    exact e
  · rw [upd_ne (ne_of e h (by intro q; cases q))]
    exact e
theorem Fr.at {M : List Addr} {H H' : Hp} (f : Fr M H H') {b : Addr} {o : HO} (e : H b = some o) (h : b ∉ M) : H' b = some o := f.keep b o h e
theorem Fr.same {M : List Addr} {H H' : Hp} (s : Same H H') : Fr M H H' := ⟨fun b o _ e => s b o e, fun b xs e => s b _ e, fun b o u e => s b _ e⟩
theorem Fr.toSame {H H' : Hp} (s : Fr [] H H') : Same H H' := fun b o e => s.keep b o (by simp) e
/-- a place that was taken is taken -/
theorem Fr.free {M : List Addr} {H H' : Hp} (f : Fr M H H') {p : Addr} (h : H' p = none) (hm : p ∉ M) : H p = none := by
  cases q : H p with
  | none => rfl
  | some o =>
    rw [f.keep p o hm q] at h
    cases h
theorem Fr.sqT {K : PySem.W.Frag} {M : List Addr} {H H' : Hp} (f : Fr M H H') {a : Addr} {xs : List V} (h : SqT K H a xs) : SqT K H' a xs := by
  rcases h with (h | ⟨o, h⟩) | h
  · exact .inl (.inl (f.tup _ _ h))
  · exact .inl (.inr ⟨o, f.frz _ _ _ h⟩)
  · exact .inr h

/-- a place that was not taken at H is written -/
theorem Fr.put {M : List Addr} {H H1 : Hp} {p : Addr} {o : HO} (f : Fr M H H1) (h : H p = none) : Fr M H (upd H1 p o) := by
  have k : ∀ b u, H b = some u → H1 b = some u → upd H1 p o b = some u := fun b u e e1 => by
    rw [upd_ne (ne_of_none e h)]
    exact e1
  exact ⟨fun b u n e => k b u e (f.keep b u n e), fun b xs e => k b _ e (f.tup b xs e), fun b w u e => k b _ e (f.frz b w u e)⟩
/-- the script: locked, or a list of the module -/
def Scr (K : PySem.W.Frag) (H : Hp) (a : Addr) (ns : List Int) : Prop :=
  (∃ o, H a = some (.frz o (.lst (ns.map V.int)))) ∨
    ∃ (o : Obj) (its : Array Value) (n : Nat), K.lookup a = some o ∧ o.cls = .type "list" ∧ o.dict = none ∧ o.data = .seq its n ∧ its.size ≤ sizeLine ∧ Vals (ns.map V.int) its.toList
theorem Scr.sq {K : PySem.W.Frag} {H : Hp} {a : Addr} {ns : List Int} (h : Scr K H a ns) : SqL K H a (ns.map V.int) := by
  rcases h with ⟨o, h⟩ | h
  · exact .inl (.inr ⟨o, h⟩)
  · exact .inr h
theorem Scr.fr {K : PySem.W.Frag} {M : List Addr} {H H' : Hp} {a : Addr} {ns : List Int} (h : Scr K H a ns) (f : Fr M H H') : Scr K H' a ns := by
  rcases h with ⟨o, h⟩ | h
  · exact .inl ⟨o, f.frz _ _ _ h⟩
  · exact .inr h
theorem Scr.of {K : PySem.W.Frag} {H : Hp} {a : Addr} {ns : List Int} (hO : Only H) (h : SqL K H a (ns.map V.int)) : Scr K H a ns := by
  rcases h with (h | ⟨o, h⟩) | h
  · rcases hO a with n | ⟨o, xs, n⟩
    · rw [h] at n
      cases n
    · rw [h] at n
      cases n
  · exact .inl ⟨o, h⟩
  · exact .inr h

/-- the dice at d: a list of the script, how many of it are taken, the mixed number, the rest of a great one -/
def Dice (K : PySem.W.Frag) (H : Hp) (d : Addr) : Prop :=
  ∃ (sc : Addr) (ns : List Int) (i m r : Int), Scr K H sc ns ∧ ns.length ≤ 63 ∧ 0 ≤ i ∧ 0 ≤ m ∧ m < 2147483647 ∧ 0 ≤ r ∧ H d = some (.lst [.ref sc, .int i, .int m, .int r])
theorem Dice.fr {K : PySem.W.Frag} {M : List Addr} {H H' : Hp} {d : Addr} (h : Dice K H d) (f : Fr M H H') (hd : d ∉ M) : Dice K H' d := by
  obtain ⟨sc, ns, i, m, r, hs, hl, h1, h2, h3, h4, hd'⟩ := h
  exact ⟨sc, ns, i, m, r, hs.fr f, hl, h1, h2, h3, h4, f.keep _ _ hd hd'⟩
theorem Dice.lst {K : PySem.W.Frag} {H : Hp} {d : Addr} (h : Dice K H d) : ∃ xs, H d = some (.lst xs) := by
  obtain ⟨_, _, _, _, _, _, _, _, _, _, _, e⟩ := h
  exact ⟨_, e⟩
theorem Dice.ne {K : PySem.W.Frag} {H : Hp} {d p : Addr} (h : Dice K H d) (n : H p = none) : p ≠ d := fun e => by
  obtain ⟨_, z⟩ := h.lst
  rw [e, z] at n
  cases n
theorem Dice.put {K : PySem.W.Frag} {H : Hp} {d p : Addr} {o : HO} {xs : List V} (h : Dice K H d) (e : H p = some (.lst xs)) (n : p ≠ d) : Dice K (upd H p o) d :=
  h.fr (Fr.lst e (List.mem_singleton.mpr rfl) : Fr [p] _ _) (by simp [n.symm])
theorem Dice.new {K : PySem.W.Frag} {H : Hp} {d p : Addr} {o : HO} (h : Dice K H d) (n : H p = none) : Dice K (upd H p o) d := h.fr (Fr.new n : Fr [] _ _) (by simp)
end LT
/-! Rows: lists of tuples of ints. -/
namespace LT
open PySem L2
theorem _root_.L2.Room.units65 {k : Nat} {A : Around} (r : Room k A) : A.units + 65 < cLine := by
  have := r.un
  omega
theorem pget {α β : Type} {F : α → β → Prop} : ∀ {l₁ : List α} {l₂ : List β} {i : Nat} {b : β}, Paired F l₁ l₂ → l₂[i]? = some b → ∃ a, l₁[i]? = some a ∧ F a b
  | _, _, _, _, .nil, e => by simp at e
  | _, _, 0, _, .cons r _, e => by
    simp at e
    subst e
    exact ⟨_, rfl, r⟩
  | _, _, i + 1, b, .cons _ t, e => by
    obtain ⟨u, h1, h2⟩ := pget (i := i) (b := b) t (by simpa using e)
    exact ⟨u, by simpa using h1, h2⟩
theorem pgetL {α β : Type} {F : α → β → Prop} : ∀ {l₁ : List α} {l₂ : List β} {i : Nat} {a : α}, Paired F l₁ l₂ → l₁[i]? = some a → ∃ b, l₂[i]? = some b ∧ F a b
  | _, _, _, _, .nil, e => by simp at e
  | _, _, 0, _, .cons r _, e => by
    simp at e
    subst e
    exact ⟨_, rfl, r⟩
  | _, _, i + 1, b, .cons _ t, e => by
    obtain ⟨u, h1, h2⟩ := pgetL (i := i) (a := b) t (by simpa using e)
    exact ⟨u, by simpa using h1, h2⟩
theorem pappend {α β : Type} {F : α → β → Prop} : ∀ {l₁ k₁ : List α} {l₂ k₂ : List β}, Paired F l₁ l₂ → Paired F k₁ k₂ → Paired F (l₁ ++ k₁) (l₂ ++ k₂)
  | _, _, _, _, .nil, s => s
  | _, _, _, _, .cons r t, s => .cons r (pappend t s)
theorem ptake {α β : Type} {F : α → β → Prop} : ∀ {l₁ : List α} {l₂ : List β} (n : Nat), Paired F l₁ l₂ → Paired F (l₁.take n) (l₂.take n)
  | _, _, 0, _ => .nil
  | _, _, _ + 1, .nil => .nil
  | _, _, n + 1, .cons r t => .cons r (ptake n t)
theorem pdrop {α β : Type} {F : α → β → Prop} : ∀ {l₁ : List α} {l₂ : List β} (n : Nat), Paired F l₁ l₂ → Paired F (l₁.drop n) (l₂.drop n)
  | _, _, 0, r => r
  | _, _, _ + 1, .nil => .nil
  | _, _, n + 1, .cons _ t => pdrop n t
/-- ints of a list that was just made -/
theorem ints_get {ns : List Int} {i : Nat} {x : V} (h : (ns.map V.int)[i]? = some x) : ∃ u, ns[i]? = some u ∧ x = .int u := by
  rw [List.getElem?_map] at h
  cases e : ns[i]? with
  | none => rw [e] at h; cases h
  | some u => rw [e] at h; exact ⟨u, rfl, (Option.some.inj h).symm⟩
theorem get_ints {ns : List Int} {i : Nat} {u : Int} (h : ns[i]? = some u) : (ns.map V.int)[i]? = some (.int u) := by
  rw [List.getElem?_map, h]
  rfl
theorem seqIx {i : Int} {n : Nat} (h0 : 0 ≤ i) (h1 : i < n) : seqIndex? i n = some i.toNat := (ixN_seq (by unfold ixN; rw [if_pos h0, if_pos h1])).1
theorem rgV_ints {n : Int} : rgV 0 n = ((List.range n.toNat).map fun (j : Nat) => (j : Int)).map V.int := by
  unfold rgV
  rw [List.map_map, Int.sub_zero]
  refine List.map_congr_left fun i _ => ?_
  show V.int (0 + (i : Nat)) = V.int (i : Nat)
  rw [Int.zero_add]
theorem rgV_from {a b : Int} : rgV a b = ((List.range (b - a).toNat).map fun (j : Nat) => a + (j : Int)).map V.int := by
  unfold rgV
  rw [List.map_map]
  rfl
theorem refs_get {ts : List Addr} {i : Nat} {x : V} (h : (ts.map V.ref)[i]? = some x) : ∃ t, ts[i]? = some t ∧ x = .ref t := by
  rw [List.getElem?_map] at h
  cases e : ts[i]? with
  | none => rw [e] at h; cases h
  | some u => rw [e] at h; exact ⟨u, rfl, (Option.some.inj h).symm⟩
theorem map_eraseIdx {α β : Type} (f : α → β) : ∀ (l : List α) (i : Nat), (l.map f).eraseIdx i = (l.eraseIdx i).map f
  | [], _ => rfl
  | _ :: _, 0 => rfl
  | x :: l, i + 1 => by
    show f x :: (l.map f).eraseIdx i = f x :: (l.eraseIdx i).map f
    rw [map_eraseIdx f l i]
theorem _root_.List.Nodup.map_of_inj {α β : Type} {f : α → β} {l : List α} (h : l.Nodup) (inj : ∀ a b, f a = f b → a = b) : (l.map f).Nodup := by
  induction l with
  | nil => exact List.nodup_nil
  | cons x l ih =>
    obtain ⟨h1, h2⟩ := List.nodup_cons.mp h
    refine List.nodup_cons.mpr ⟨fun hm => ?_, ih h2⟩
    obtain ⟨y, hy, e⟩ := List.mem_map.mp hm
    exact h1 (inj _ _ e ▸ hy)
theorem cut_to {xs : List V} (k : Nat) : cutV xs none (some (k : Int)) = xs.take k := by
  unfold cutV
  rw [HT.sIx_none, HT.sIx_nat, List.drop_zero, Nat.sub_zero]
  by_cases h : k ≤ xs.length
  · rw [Nat.min_eq_left h]
  · rw [Nat.min_eq_right (by omega), List.take_length, List.take_of_length_le (by omega)]
theorem cut_from {xs : List V} (k : Nat) : cutV xs (some (k : Int)) none = xs.drop k := by
  unfold cutV
  rw [HT.sIx_none, HT.sIx_nat]
  by_cases h : k ≤ xs.length
  · rw [Nat.min_eq_left h]
    exact List.take_of_length_le (by rw [List.length_drop]; omega)
  · rw [Nat.min_eq_right (by omega), List.drop_length, List.drop_of_length_le (by omega), List.take_nil]
/-- tuples at ts that are the rows xs -/
def Tup {α : Type} (g : α → List V) (H : Hp) (ts : List Addr) (xs : List α) : Prop := Paired (fun t x => H t = some (.tup (g x))) ts xs
theorem Tup.fr {α : Type} {g : α → List V} {M : List Addr} {H H' : Hp} {ts : List Addr} {xs : List α} (h : Tup g H ts xs) (f : Fr M H H') : Tup g H' ts xs := Paired.mapP h fun _ _ e => f.tup _ _ e
/-- a list of such rows at l -/
def Rws {α : Type} (g : α → List V) (H : Hp) (l : Addr) (xs : List α) : Prop := ∃ ts : List Addr, H l = some (.lst (ts.map V.ref)) ∧ Tup g H ts xs
theorem Rws.fr {α : Type} {g : α → List V} {M : List Addr} {H H' : Hp} {l : Addr} {xs : List α} (h : Rws g H l xs) (f : Fr M H H') (hm : l ∉ M) : Rws g H' l xs := by
  obtain ⟨ts, e, t⟩ := h
  exact ⟨ts, f.keep _ _ hm e, t.fr f⟩
def g2 (p : Int × Int) : List V := [.int p.1, .int p.2]
def g3 (p : Int × Int × Int) : List V := [.int p.1, .int p.2.1, .int p.2.2]
theorem Rws.ins {α : Type} {g : α → List V} {H : Hp} {B A : Addr} {ts : List Addr} {xs : List α} {x : α} (hB : H B = some (.lst (ts.map V.ref))) (h : Tup g H ts xs) (hA : H A = some (.tup (g x))) (j : Nat) :
    Rws g (upd H B (.lst ((ts.map V.ref).take j ++ [.ref A] ++ (ts.map V.ref).drop j))) B (xs.take j ++ [x] ++ xs.drop j) := by
  have f : Fr [B] H (upd H B (.lst ((ts.map V.ref).take j ++ [.ref A] ++ (ts.map V.ref).drop j))) := Fr.lst hB (List.mem_singleton.mpr rfl)
  refine ⟨ts.take j ++ [A] ++ ts.drop j, ?_, ?_⟩
  · rw [upd_same]
    simp [List.map_take, List.map_drop]
  · have h' : Tup g _ ts xs := h.fr f
    exact pappend (pappend (ptake j h') (.cons (f.tup _ _ hA) .nil)) (pdrop j h')
theorem Rws.app {α : Type} {g : α → List V} {H : Hp} {B A : Addr} {ts : List Addr} {xs : List α} {x : α} (hB : H B = some (.lst (ts.map V.ref))) (h : Tup g H ts xs) (hA : H A = some (.tup (g x))) :
    Rws g (upd H B (.lst (ts.map V.ref ++ [.ref A]))) B (xs ++ [x]) := by
  have f : Fr [B] H (upd H B (.lst (ts.map V.ref ++ [.ref A]))) := Fr.lst hB (List.mem_singleton.mpr rfl)
  refine ⟨ts ++ [A], ?_, ?_⟩
  · rw [upd_same]
    simp
  · have h' : Tup g _ ts xs := h.fr f
    exact pappend h' (.cons (f.tup _ _ hA) .nil)
theorem Rws.cat {α : Type} {g : α → List V} {H : Hp} {S : Addr} {ts us : List Addr} {xs ys : List α} (h1 : Tup g H ts xs) (h2 : Tup g H us ys) (n : H S = none) : Rws g (upd H S (.lst (ts.map V.ref ++ us.map V.ref))) S (xs ++ ys) := by
  refine ⟨ts ++ us, ?_, ?_⟩
  · rw [upd_same, List.map_append]
  · exact pappend (Tup.fr h1 (Fr.new n : Fr [] _ _)) (Tup.fr h2 (Fr.new n : Fr [] _ _))
theorem keepU {H : Hp} {b p : Addr} {o u : HO} (e : H b = some o) (n : H p = none) : upd H p u b = some o := by
  rw [upd_ne (ne_of_none e n)]
  exact e
theorem inV_int (x : Int) : ∀ l : List Int, inV (.int x) (l.map V.int) = decide (x ∈ l)
  | [] => rfl
  | y :: l => by
    have ih := inV_int x l
    unfold inV at ih ⊢
    rw [List.map_cons, List.any_cons, ih]
    by_cases h : x = y
    · subst h
      simp [eqV]
    · have h' : ¬ y = x := fun e => h e.symm
      by_cases k : x ∈ l <;> simp [eqV, h, h', k]
theorem flat_ints : ∀ l : List Int, (l.map V.int).all flatV = true
  | [] => rfl
  | _ :: l => by
    rw [List.map_cons, List.all_cons, flat_ints l]
    rfl
/-- rows as data -/
def dI (r : List Int) : PyData := .tuple (r.map .int)
theorem dI_lay : ∀ r : List Int, PyData.canLayAll0 (r.map PyData.int) = true
  | [] => by simp [PyData.canLayAll0]
  | z :: zs => by
    have ih := dI_lay zs
    simp [PyData.canLayAll0, PyData.canLay0] at ih ⊢
    exact ih
theorem dI_dep : ∀ r : List Int, PyData.depthAll (r.map PyData.int) ≤ 1
  | [] => by simp [PyData.depthAll]
  | z :: zs => by
    have ih := dI_dep zs
    simp only [List.map_cons, PyData.depthAll, PyData.depth]
    omega
theorem dI_depth (r : List Int) : (dI r).depth ≤ 2 := by
  have := dI_dep r
  simp only [dI, PyData.depth]
  omega
theorem dI_shaped (r : List Int) : SeqAt.shaped (dI r) = true := by
  have h := dI_depth r
  show ((dI r).canLay0 && decide ((dI r).depth ≤ 64)) = true
  rw [Bool.and_eq_true]
  exact ⟨by simp only [dI, PyData.canLay0]; exact dI_lay r, decide_eq_true (by omega)⟩
theorem dIs_lay : ∀ rs : List (List Int), PyData.canLayAll0 (rs.map dI) = true
  | [] => by simp [PyData.canLayAll0]
  | r :: rs => by
    have ih := dIs_lay rs
    have h : (dI r).canLay0 = true := by simp only [dI, PyData.canLay0]; exact dI_lay r
    simp only [List.map_cons, PyData.canLayAll0, h, ih, Bool.and_self]
theorem dIs_dep : ∀ rs : List (List Int), PyData.depthAll (rs.map dI) ≤ 2
  | [] => by simp [PyData.depthAll]
  | r :: rs => by
    have ih := dIs_dep rs
    have h := dI_depth r
    simp only [List.map_cons, PyData.depthAll]
    omega
theorem dIs_shaped (rs : List (List Int)) : SeqAt.shaped (.list (rs.map dI)) = true := by
  have h1 := dIs_dep rs
  have h2 : PyData.depth (.list (rs.map dI)) ≤ 64 := by
    simp only [PyData.depth]
    omega
  show (PyData.canLay0 (.list (rs.map dI)) && decide (PyData.depth (.list (rs.map dI)) ≤ 64)) = true
  rw [Bool.and_eq_true]
  exact ⟨by simp only [PyData.canLay0]; exact dIs_lay rs, decide_eq_true h2⟩
theorem dI_eqvAll : ∀ a b : List Int, PyData.eqvAll (a.map PyData.int) (b.map PyData.int) = decide (a = b)
  | [], [] => by simp [PyData.eqvAll]
  | [], _ :: _ => by simp [PyData.eqvAll]
  | _ :: _, [] => by simp [PyData.eqvAll]
  | x :: a, y :: b => by
    have ih := dI_eqvAll a b
    simp only [List.map_cons, PyData.eqvAll, PyData.eqv, ih]
    by_cases h : x = y
    · by_cases k : a = b <;> simp [h, k]
    · simp [h]
theorem dI_eqv (a b : List Int) : PyData.eqv (dI a) (dI b) = decide (a = b) := by
  simp only [dI, PyData.eqv]
  exact dI_eqvAll a b
theorem dIs_eqvAll : ∀ a b : List (List Int), PyData.eqvAll (a.map dI) (b.map dI) = decide (a = b)
  | [], [] => by simp [PyData.eqvAll]
  | [], _ :: _ => by simp [PyData.eqvAll]
  | _ :: _, [] => by simp [PyData.eqvAll]
  | x :: a, y :: b => by
    have ih := dIs_eqvAll a b
    have e := dI_eqv x y
    simp only [List.map_cons, PyData.eqvAll, e, ih]
    by_cases h : x = y
    · by_cases k : a = b <;> simp [h, k]
    · simp [h]
theorem dIs_eqv (a b : List (List Int)) : PyData.eqv (.list (a.map dI)) (.list (b.map dI)) = decide (a = b) := by
  simp only [PyData.eqv]
  exact dIs_eqvAll a b
theorem dps_int {K : PySem.W.Frag} {H : Hp} : ∀ r : List Int, DpAll K H (r.map V.int) (r.map PyData.int)
  | [] => .nil
  | i :: r => .cons (.int i) (dps_int r)
theorem dp_row {K : PySem.W.Frag} {H : Hp} {t : Addr} {r : List Int} (h : H t = some (.tup (r.map V.int))) : Dp K H (.ref t) (dI r) := .tup (SqT.of h) (dps_int r)
def r2 (p : Int × Int) : List Int := [p.1, p.2]
def r3 (p : Int × Int × Int) : List Int := [p.1, p.2.1, p.2.2]
theorem r2_inj {p q : Int × Int} (h : r2 p = r2 q) : p = q := by
  obtain ⟨a, b⟩ := p
  obtain ⟨c, d⟩ := q
  simp [r2] at h
  rw [h.1, h.2]
theorem r3_inj {p q : Int × Int × Int} (h : r3 p = r3 q) : p = q := by
  obtain ⟨a, b, c⟩ := p
  obtain ⟨d, e, f⟩ := q
  simp [r3] at h
  rw [h.1, h.2.1, h.2.2]
theorem dp_rows {K : PySem.W.Frag} {H : Hp} {α : Type} {r : α → List Int} : ∀ {ts : List Addr} {xs : List α}, Tup (fun x => (r x).map V.int) H ts xs → DpAll K H (ts.map V.ref) (xs.map fun x => dI (r x))
  | _, _, .nil => .nil
  | _, _, .cons h t => .cons (dp_row h) (dp_rows t)
theorem any_eqv {α : Type} {r : α → List Int} (inj : ∀ a b, r a = r b → a = b) [DecidableEq α] (x : α) : ∀ xs : List α, ((xs.map fun x => dI (r x)).any fun z => PyData.eqv z (dI (r x))) = decide (x ∈ xs)
  | [] => by simp
  | y :: ys => by
    have ih := any_eqv inj x ys
    rw [List.map_cons, List.any_cons, ih, dI_eqv]
    by_cases h : x = y
    · subst h
      simp
    · have h1 : ¬ r y = r x := fun e => h (inj _ _ e).symm
      by_cases k : x ∈ ys <;> simp [h, h1, k]
theorem map_dI {α : Type} (r : α → List Int) (xs : List α) : (xs.map fun x => dI (r x)) = (xs.map r).map dI := by
  rw [List.map_map]
  rfl
end LT
/-! Rules whose reading names the written part K itself: for use within comprehensions. -/
namespace LT
open PySem L2
section
variable (K : PySem.W.Frag) {X : Cx}
theorem ix_listK (h : X.K = K) : IxR X (rIxL K) := by subst h; exact ix_list
theorem ix_tupK (h : X.K = K) : IxR X (rIxT K) := by subst h; exact ix_tup
theorem ix_seqK (h : X.K = K) : IxR X (rIx K) := by subst h; exact ix_seq
theorem op_in_seqK (h : X.K = K) : OpR X (compareOp .In) (rIn K false) := by subst h; exact op_in_seq
theorem op_notIn_seqK (h : X.K = K) : OpR X (compareOp .NotIn) (rIn K true) := by subst h; exact op_notIn_seq
theorem op_eqDK (h : X.K = K) (hu : X.A.units + 64 < cLine) : OpR X (compareOp .Eq) (rEqD K) := by subst h; exact op_eqD hu
theorem op_neDK (h : X.K = K) (hu : X.A.units + 64 < cLine) : OpR X (compareOp .NotEq) (rNeD K) := by subst h; exact op_neD hu
theorem op_inDK (h : X.K = K) (hu : X.A.units + 65 < cLine) : OpR X (compareOp .In) (rInD K) := by subst h; exact op_inD hu
theorem op_notInDK (h : X.K = K) (hu : X.A.units + 65 < cLine) : OpR X (compareOp .NotIn) (rNotInD K) := by subst h; exact op_notInD hu
theorem op_catTK (h : X.K = K) : OpR X (binaryOp .Add) (rCatT K) := by subst h; exact op_catT
theorem sl_listK (h : X.K = K) : SlR X (rSlL K) := by subst h; exact sl_list
theorem sl_tupK (h : X.K = K) : SlR X (rSlT K) := by subst h; exact sl_tup
def rLenK : List V → Hp → VK → Prop := fun vs H Q => ∃ (p : Addr) (ys : List V), vs = [.ref p] ∧ (SqL K H p ys ∨ SqT K H p ys) ∧ Q (.int ys.length) H
theorem call_len_seqK (h : X.K = K) : CallR X (.builtin "len") (rLenK K) := by subst h; exact call_len_seq
theorem call_isiK' (h : X.K = K) : CallR X (.builtin "isinstance") (rIsi K) := by subst h; exact call_isi
theorem cr_sortedK (h : X.K = K) : CallR X (.builtin "sorted") (rSorted K) := by subst h; exact cr_sorted
def rListK : List V → Hp → VK → Prop := fun vs H Q => ∃ (p : Addr) (ys : List V), vs = [.ref p] ∧ (SqL K H p ys ∨ SqT K H p ys) ∧ ∀ l, H l = none → Q (.ref l) (upd H l (.lst ys))
theorem call_list_ofK (h : X.K = K) : CallR X (.type "list") (rListK K) := by subst h; exact call_list_of
def rTupleK : List V → Hp → VK → Prop := fun vs H Q => ∃ (p : Addr) (ys : List V), vs = [.ref p] ∧ ((SqL K H p ys ∧ ∀ l, H l = none → Q (.ref l) (upd H l (.tup ys))) ∨ (SqT K H p ys ∧ Q (.ref p) H))
theorem call_tuple_ofK (h : X.K = K) : CallR X (.type "tuple") (rTupleK K) := by subst h; exact call_tuple_of
theorem pi_listK {tg l : Expr} {tl : TE} (h : X.K = K) (hl : PE X l tl) : PI X tg l (iList K tl) := by subst h; exact pi_list hl
theorem pi_tupK {tg l : Expr} {tl : TE} (h : X.K = K) (hl : PE X l tl) : PI X tg l (iTup K tl) := by subst h; exact pi_tup hl
theorem pg_tupK {es : List Expr} {k : Nat} {t : TGs} {n : Nat} (h : X.K = K) (hc : X.calm = true) (g : PGs X es t) (hn : (assignEach es X.env).length = n := by rfl)
    (hst : (assignEach es X.env).findIdx? (·.1) = none := by rfl) {pos} : PG X (.Tuple es k pos) (gTup K n t) := by subst h; exact pg_tup hc g hn hst
theorem pe_bmK {T id : String} {name : Str} {o e : Expr} {es : List Expr} {r : V → List V → Hp → VK → Prop} {to : TE} {t : TA} {ap cp : Pos} (h : X.K = K) (pa : PlainAttrs T) (sl : Slot T name id)
    (ty : typeOf (.builtin id) = pure (.type "method_descriptor")) (m : MtR X id r) (ho : PE X o to) (ha : PA X (e :: es) t)
    (h1 : attributeBase o name X.env (eval o X.env) = eval o X.env := by rfl)
    (h2 : ((backTo cp (starEach (e :: es) X.env)).all (fun x => !x.1) && (backToKw cp (keywordEach [] X.env)).all (fun x => x.1.isSome) &&
      decide ((e :: es).length + ([] : List Keyword).length + (if ([] : List Keyword).isEmpty then 0 else 1) < 30)) = true := by rfl)
    (h3 : (ap.endLine == cp.line) = true := by rfl) (h4 : starEach (e :: es) X.env = (false, eval e X.env) :: starEach es X.env := by rfl)
    (h5 : (backTo cp (starEach es X.env)).any (·.1) = false := by rfl) : PE X (.Call (.Attribute o name ap) (e :: es) [] cp) (tBM K T r to t) := by
  subst h
  exact pe_bm pa sl ty m ho ha h1 h2 h3 h4 h5
theorem pe_bm0K {T id : String} {name : Str} {o : Expr} {r : V → List V → Hp → VK → Prop} {to : TE} {ap cp : Pos} (h : X.K = K) (pa : PlainAttrs T) (sl : Slot T name id)
    (ty : typeOf (.builtin id) = pure (.type "method_descriptor")) (m : MtR X id r) (ho : PE X o to) (h1 : attributeBase o name X.env (eval o X.env) = eval o X.env := by rfl)
    (h2 : (ap.endLine == cp.line) = true := by rfl) : PE X (.Call (.Attribute o name ap) [] [] cp) (tBM0 K T r to) := by
  subst h
  exact pe_bm0 pa sl ty m ho h1 h2
end
section
open PySem.Spec PyProof.Rows
variable {X : Cx}
/-- a < b < c < d, as a test -/
def tChain3 (r r' q : R2) (ta tb tc td : TE) : TT := fun σ H Q => ta σ H fun x H1 => tb σ H1 fun y H2 => r x y H2 fun z H3 => ∃ k, z = .bl k ∧
  (if k = true then tc σ H3 fun u H4 => r' y u H4 fun z2 H5 => ∃ k2, z2 = .bl k2 ∧ (if k2 = true then td σ H5 fun t H6 => q u t H6 fun z3 H7 => ∃ k3, z3 = .bl k3 ∧ Q k3 H7 else Q false H5) else Q false H3)
theorem pt_chain3 {o1 o2 o3 : CmpOp} {r r' q : R2} {a b c d : Expr} {ta tb tc td : TE} {pos : Pos} (h1 : OpR X (compareOp o1) r) (h2 : OpR X (compareOp o2) r') (h3 : OpR X (compareOp o3) q)
    (ha : PE X a ta) (hb : PE X b tb) (hc : PE X c tc) (hd : PE X d td) (hm : lastMarks [o1, o2, o3] [b, c, d] = false := by with_unfolding_all rfl) :
    PT X (.Compare a [o1, o2, o3] [b, c, d] pos) (tChain3 r r' q ta tb tc td) := by
  refine ⟨fun pins s σ H Q I h => ?_⟩
  refine isTrue_chain (thn (ha.run pins s σ H _ I h) fun v s1 ha1 => ?_) hm
  obtain ⟨x, H1, I1, rx, qa⟩ := ha1
  refine test_link (thn (hb.run pins s1 σ H1 _ I1 qa) fun u s2 hb1 => ?_)
  obtain ⟨y, H2, I2, ry, qb⟩ := hb1
  refine thn (h1 pins s2 σ H2 x y v u _ I2 rx ry qb) fun e1 s3 hz => ?_
  obtain ⟨z, H3, I3, rz, k, ek, qz⟩ := hz
  subst ek
  cases rz
  refine wpAny_truthy_bool ?_
  cases k with
  | false => exact ite_ff ⟨H3, I3, qz⟩
  | true =>
    refine ite_tt (test_link (thn (hc.run pins s3 σ H3 _ I3 qz) fun u4 s4 hc4 => ?_))
    obtain ⟨y4, H4, I4, r4, q4⟩ := hc4
    refine thn (h2 pins s4 σ H4 y y4 u u4 _ I4 ry r4 q4) fun e5 s5 hz5 => ?_
    obtain ⟨z5, H5, I5, r5, k5, ek5, q5⟩ := hz5
    subst ek5
    cases r5
    refine wpAny_truthy_bool ?_
    cases k5 with
    | false => exact ite_ff ⟨H5, I5, q5⟩
    | true =>
      refine ite_tt (test_last (thn (hd.run pins s5 σ H5 _ I5 q5) fun u6 s6 hd6 => ?_))
      obtain ⟨y6, H6, I6, r6, q6⟩ := hd6
      refine thn (h3 pins s6 σ H6 y4 y6 u4 u6 _ I6 r4 r6 q6) fun e7 s7 hz7 => ?_
      obtain ⟨z7, H7, I7, r7, k7, ek7, q7⟩ := hz7
      subst ek7
      cases r7
      exact wpAny_truthy_bool ⟨H7, I7, q7⟩
end
end LT
/-! Exceptions of own classes with fields: made, raised where nothing is handled; what is handled, as an argument. -/
namespace LT
open PySem PySem.Spec PyProof.Rows L2
section
variable {X : Cx} {CX : CXT} {x : Str} {C fI : Addr} {k : Nat} {fd : FuncData} {ps : List Str} {sp : Sp} {e : Expr} {es : List Expr} {ta : TA} {p pos : Pos}
/-- C(e, ..) of an own class with its own __init__: what is made has no context -/
theorem pmk_fields (T : OexC X.K C) (iC : PySem.W.findIn X.K (.ref C) "__init__" = some (some (.ref fI))) (tI : PySem.W.typeIn X.K (.ref fI) = some (.type "function"))
    (G : FnOk X.prog X.w X.K X.mg X.base CX k fI fd ps sp) (room : Room (k + 1) X.A) (bnd : Binds X.K fd ps []) (pass : Passes CX X (fun _ _ _ => False)) (gl : Gl X x)
    (at_ : X.mg x = some (.ref C)) (ha : PA X (e :: es) ta) (dbg : (x == ("__debug__" : Str)) = false := by decide)
    (st : starEach (e :: es) X.env = (false, eval e X.env) :: starEach es X.env := by rfl)
    (pl : (backTo pos (starEach es X.env)).any (·.1) = false := by rfl) : L2N.PMk X (.Call (.Name x p) (e :: es) [] pos) (tMkO C sp [] ta) := by
  intro pins s σ H Q J want
  obtain ⟨cn, cq, cN, cb, bm, c1, c2, c3, c4, c5, k0, k1, k2, k3, k5, look, mro⟩ := T.cls
  refine wpAny_Call_Name_kw (ld_glob J gl at_ ?_ dbg)
  refine PySem.W.callWith_K (h₀ := X.base) J.ok.mod.kin T.kC (thn (ha.run pos pins s σ H _ J want) fun us t got => ?_) st pl
  obtain ⟨vs, H1, J1, rel, few, after⟩ := got
  refine ⟨J1.kIn, ?_⟩
  show wpAny _ _ (call (.ref C) us) _ _ _
  obtain ⟨hp, gs, dr, tk, os⟩ := t
  have up : hp.objs.size ≤ hp.objs.size + 1 := Nat.le_succ _
  have free : H1 (hp.objs.size + 1) = none := J1.hok.fresh up
  have wish := after (hp.objs.size + 1) free
  rw [List.append_nil] at wish
  have keep : ∀ b o, hp.get? b = some o →
      ((hp.push (PySem.W.kdv_tup us)).push (PySem.HandSPX.excO C hp.objs.size)).get? b = some o :=
    fun b o z => Heap.get?_push_of_some _ (Heap.get?_push_of_some _ z)
  have new : ((hp.push (PySem.W.kdv_tup us)).push (PySem.HandSPX.excO C hp.objs.size)).get? (hp.objs.size + 1) =
      some (PySem.HandSPX.excO C hp.objs.size) := by heap_get
  have J2 : Inv X pins σ (upd H1 (hp.objs.size + 1) (exo (hp.objs.size + 1) C none))
      ⟨(hp.push (PySem.W.kdv_tup us)).push (PySem.HandSPX.excO C hp.objs.size), gs, dr, tk, os⟩ :=
    J1.laid (t' := tk) (a := hp.objs.size + 1) (o := exo (hp.objs.size + 1) C none)
      (h' := (hp.push (PySem.W.kdv_tup us)).push (PySem.HandSPX.excO C hp.objs.size)) keep up (exo_ok new)
  have rel2 : Vals (V.ref (hp.objs.size + 1) :: vs) (Value.ref (hp.objs.size + 1) :: us) := .cons rfl rel
  have many : (Value.ref (hp.objs.size + 1) :: us ++ []).length = ps.length := by
    have z := rel2.length
    rw [G.len _ _ _ _ wish] at z
    rw [List.append_nil]
    exact z.symm
  have line : us.length ≤ sizeLine := by
    rw [← Paired.length rel, sizeLine_eq]
    omega
  have bd := bnd _ (Value.ref (hp.objs.size + 1) :: us) J2.kIn many
  rw [List.append_nil] at bd
  have run := G.run _ X.stack _ _ ⟨Value.ref (hp.objs.size + 1) :: us, []⟩ (Value.ref (hp.objs.size + 1) :: us) _ _ (fun _ _ _ => False) (room.make C us []) (J2.env0.make C us []) bd rel2 wish
  refine wpAny_call (PySem.HandSPX.call_own F.excBase_ValueError (fun Y => PySem.HandSPX.refsVE_contains Y bm mro) (J1.kIn _ _ look) (PySem.W.looks_findIn J1.kIn iC)
    (fun self => PySem.W.bind_fn J1.kIn self tI) line (codeAny_mono run fun r s' end_ => ?_))
  match r, end_ with
  | .error er, end_ => exact pass pins σ _ _ er s' J2 end_
  | .ok (.ret u), end_ =>
    obtain ⟨v, H2, os2, bare, un, hok, rv, ev, d, fs, ea, ed, hd1, q2⟩ := end_
    subst ev
    obtain ⟨h2, g2, d2, t2, os'⟩ := s'
    obtain ⟨t0, G2, J3, kG, ge, hoe, na⟩ := mk_end0 (d2 := d2) (t2 := t2) J1 up keep un hok os2 bare ea ed hd1
    refine ⟨rv, ⟨hp.objs.size + 1, _, _, ⟨G2, g2, d2, t2, os'⟩, _, .ref C, some d, rfl, J3, kG, ge, hoe, ⟨rfl, rfl, fun vs hv => ?_⟩, rfl, rfl, na, rfl, bare, raises_own T.exC T.tyC, q2⟩⟩
    cases hv
    rfl
  | .ok .next, end_ => exact False.elim end_
  | .ok .brk, end_ => exact False.elim end_
  | .ok .cont, end_ => exact False.elim end_
end
/-- a def that may raise, where nothing is handled -/
theorem okN {P : Program} {w : World} {K : PySem.W.Frag} {mg : Str → Option Value} {base : Heap} {x qual : Str} {st : Stmt} {f : Addr} {fd : FuncData} {N ps : List Str} {k : Nat} {sp : Sp} (F : Fun K x qual st f fd) (S : FnScope N ps (defScope st))
    (few : ∀ vs H Q E, sp vs H Q E → vs.length = ps.length)
    (walk : ∀ (cdv : Value) (A : Around) (outer : List Env) (s : Shared) (H : Hp) (vs : List V) (Q : VK) (E : XK), Room k (A.deeper (envOfC qual (defScope st) s.heap.objs.size f cdv)) → sp vs H Q E →
      ∃ t, PSs (cxOf (L2N.CX P w) P w K mg base N qual (defScope st) f cdv A outer s H E) (defBody st) t ∧ t { nx := fun _ H' => Q .non H', rt := Q } (start N vs) H) :
    FnOk P w K mg base (L2N.CX P w) (k + 1) f fd ps sp := by
  obtain ⟨oc, od, kV, doc, pm, an, cdv, ct, osl, rfl, look, code⟩ := F.ex
  exact fn_of look code S few fun A outer s H vs Q E room want => walk cdv A outer s H vs Q E room want
end LT
/-! Where an exception is handled: a list's comprehension, isinstance of what is handled, a def that is told of it. -/
namespace LT
open PySem PySem.Spec PyProof.Rows L2 HotX L2H
section
variable {prog : Program} {w : World} {A : Around} {E : Value → Shared → Prop} {s : Shared}
/-- a list's iterator at its end, an exception handled -/
theorem list_end_hot {it l x1 : Addr} {i : Nat} {items : Array Value} {Q : Option Value → Shared → Prop} (hot : HotAt A x1 s.heap) (ne : x1 ≠ it) (hit : s.heap.IsListIter it l i) (hl : s.heap.IsList l items) (hx : items[i]? = none)
    (hQ : ∀ h', (∀ b o, b ≠ it → s.heap.get? b = some o → h'.get? b = some o) → Q none { s with heap := h' }) : wpAny (model prog w) A (pyNext (.ref it)) Q E s := by
  obtain ⟨o, ho, hc, hd⟩ := id hit
  obtain ⟨ol, hol, _, nl, hdl⟩ := hl
  obtain ⟨hh, o1, vs1, h1, d1, c1⟩ := hot
  unfold pyNext
  refine wpAny_bind (wpAny_attempt ?_)
  refine wpAny_callSpecial?_slot (name := Str.ofString "__next__") hit.typeIs slot_listiter_next ?_
  refine wpAny_call_entry slot_listiter_next hit.typeIs entry_listiter_next ?_ (args_listiter_next _)
  show wpAny _ _ (field (.ref it) 0 >>= _) _ _ s
  refine wpAny_bind (wpAny_field ho hd (x := .ref l) rfl ?_)
  show wpAny _ _ (if (Value.ref l == Value.none) = true then _ else _) _ _ s
  rw [if_neg (show ¬ ((Value.ref l == Value.none) = true) from Bool.false_ne_true)]
  show wpAny _ _ (field (.ref it) 1 >>= _) _ _ s
  refine wpAny_bind (wpAny_field ho hd (x := .int i 0) rfl ?_)
  show wpAny _ _ (seqItems? (.ref l) >>= _) _ _ s
  refine wpAny_bind (wpAny_seqItems hol hdl ?_)
  simp only [Int.toNat_natCast, hx]
  refine wpAny_bind (wpAny_rule (wpAny_bind (wpAny_setField ho hd (by simp) ?_)))
  show wpAny _ _ (newExc (.type "StopIteration") [] >>= _) _ _ _
  refine wpAny_bind ?_
  simp only [newExc, newTuple]
  refine wpAny_bind (wpAny_newObj_type ?_ (by size_fits))
  refine wpAny_bind (m := firstArgMember _ _) (wpAny_of_eq (a := Value.none) (by first | rfl | (simp only [firstArgMember]; rfl)) ?_)
  refine wpAny_newObj_type ?_ (by size_fits)
  have k : ∀ b ob, b ≠ it → s.heap.get? b = some ob → (s.heap.update it (Obj.mapFields (·.setIfInBounds 0 Value.none))).get? b = some ob := fun b ob nb e => by
    rw [Heap.get?_update_other _ _ (Ne.symm nb)]
    exact e
  refine raiseNew_hot ⟨hh, o1, vs1, Heap.get?_push_of_some _ (Heap.get?_push_of_some _ (k _ _ ne h1)), d1, c1⟩ (Nat.ne_of_lt (Heap.lt_size (Heap.get?_push_of_some _ (k _ _ ne h1)))) (Heap.get?_push_size _ rfl) rfl
    (by first | (simp; done) | (simp; omega)) ?_
  refine wpAny_bind (wpAny_isInstance (T := "StopIteration") (b := true) ⟨_, Heap.get?_update_self _ (Heap.get?_push_size _ rfl) rfl, rfl⟩ isSubtype_stop ?_)
  refine wpAny_pure (hQ _ fun b ob nb e => ?_)
  rw [Heap.get?_update_other _ _ (Nat.ne_of_gt (Heap.lt_size (Heap.get?_push_of_some _ (k _ _ nb e))))]
  exact Heap.get?_push_of_some _ (Heap.get?_push_of_some _ (k _ _ nb e))
end
section
variable {X : Cx}
/-- [elt for tg in l], l a list, while an exception is handled that every state bears -/
theorem pe_lcHot {elt tg l : Expr} {scope : Scope} {own : List (Str × Nat)} {pos : Pos} {tl : TE} {g : TG} {te : TE} {px : Addr × Obj} (hot : Hot1 X.A px) (mem : px ∈ X.pn) (nd : X.N.Nodup) (pl : PE X l tl) (ok : BlkOk X.N X.env.scope scope own)
    (pg : ∀ (s : Shared) (H : Hp) (C : Addr) (cl : List (Str × Addr)) (fp : List Addr), PG (X.blk s H scope (compEnvC scope cl C X.env) fp) tg g)
    (pe : ∀ (s : Shared) (H : Hp) (C : Addr) (cl : List (Str × Addr)) (fp : List Addr), PE (X.blk s H scope (compEnvC scope cl C X.env) fp) elt te)
    (fs : ∀ x, foldedSetIterable l X.env x = pure x := by intro _; rfl) : PE X (.ListComp elt [⟨tg, l, [], 0⟩] scope pos) (tLc (iList X.K tl) g tYes te (own.map (·.2))) := by
  refine ⟨fun pins s σ H Q J want => ?_⟩
  rw [eval_ListComp]
  have free : ∀ y ∈ scope.names, y.2 = .free → ∃ c, X.env.cells.lookup y.1 = some c := fun y hy e => by
    rcases ok.free y hy e with z | z
    · exact J.ok.has _ (.inl z)
    · exact J.ok.has _ (.inr z)
  refine wpAny_comprehension_free (use := none) rfl fs (closure_ok free) ok.kind (fun y hy e => by rw [ok.uniq y hy, e]) (thn (pl.run pins s σ H _ J want) fun xv s1 got => ?_)
  obtain ⟨x, H1, J1, r1, a, ex, ⟨xs0, hq0⟩, aft⟩ := got
  subst ex
  cases r1
  obtain ⟨its0, rv0, p0, hz0⟩ := J1.list hq0
  refine wpAny_pyIter_list p0.isList ?_
  generalize hit : s1.heap.objs.size = it
  have fit : FpOk X pins H1 it := by
    rw [← hit]
    exact J1.fpOk (Nat.le_refl _) (J1.hok.fresh (Nat.le_refl _))
  have J2 : Inv X pins σ H1 { s1 with heap := s1.heap.push { cls := .type "list_iterator", data := .fields #[.ref a, .int 0 0] } } := J1.kept (t' := s1.toks) fun b o e => Heap.get?_push_of_some _ e
  have st2 : (s1.heap.push { cls := .type "list_iterator", data := .fields #[.ref a, .int 0 0] }).IsListIter it a 0 := by
    rw [← hit]
    exact ⟨_, Heap.get?_push_size _ rfl, rfl, rfl⟩
  have lt2 : it < (s1.heap.push { cls := .type "list_iterator", data := .fields #[.ref a, .int 0 0] }).objs.size := by
    rw [← hit, Heap.size_push]
    exact Nat.lt_succ_self _
  show wpAny _ _ _ _ _ ({ s1 with heap := s1.heap.push { cls := .type "list_iterator", data := .fields #[.ref a, .int 0 0] } } : Shared)
  generalize hs2 : ({ s1 with heap := s1.heap.push { cls := .type "list_iterator", data := .fields #[.ref a, .int 0 0] } } : Shared) = s2 at J2 ⊢
  have eh : s1.heap.push { cls := .type "list_iterator", data := .fields #[.ref a, .int 0 0] } = s2.heap := by rw [← hs2]
  rw [eh] at st2 lt2
  refine wpAny_newObj_type (newEnv_comp ?_) (by show 0 ≤ sizeLine; decide)
  generalize hD : s2.heap.objs.size = D
  have Dfree : H1 D = none := J2.hok.fresh (Nat.le_of_eq hD)
  obtain ⟨W, ⟨m0, w0⟩, turn⟩ := aft D Dfree
  have itD : it ≠ D := by
    rw [← hD]
    exact Nat.ne_of_lt lt2
  generalize hs3 : ({ s2 with heap := s2.heap.push { cls := .type "list", data := .seq ([] : List Value).toArray } } : Shared) = s3
  have e3 : s3.heap = s2.heap.push { cls := .type "list", data := .seq ([] : List Value).toArray } := by rw [← hs3]
  have J3 : Inv X pins σ (upd H1 D (.lst [])) s3 := by
    rw [← hs3]
    refine J2.laid (t' := s2.toks) (fun b o e => Heap.get?_push_of_some _ e) (Nat.le_of_eq hD) ⟨Nat.zero_le _, [], 0, .nil, ?_⟩
    rw [← hD]
    exact Heap.get?_push_size _ rfl
  have f3 : FpOk X pins (upd H1 D (.lst [])) it ∧ it < s3.heap.objs.size := by
    refine ⟨⟨?_, fit.2⟩, by rw [e3, Heap.size_push]; exact Nat.lt_succ_of_lt lt2⟩
    rw [upd_ne itD]
    exact fit.1
  have st3 : s3.heap.IsListIter it a 0 := st2.at fun o e => by
    rw [e3]
    exact Heap.get?_push_of_some _ e
  have J4 := block_start (fp := [it]) J3 ok nd fun b hb => by
    rw [List.mem_singleton.mp hb]
    exact f3
  have pg' := pg s3 (upd H1 D (.lst [])) s3.heap.objs.size (cellsFrom (s3.heap.objs.size + 1) scope.names (cloFrom X.env.cells scope.names [])) [it]
  have pe' := pe s3 (upd H1 D (.lst [])) s3.heap.objs.size (cellsFrom (s3.heap.objs.size + 1) scope.names (cloFrom X.env.cells scope.names [])) [it]
  have P3 := J3.pin px (List.mem_append_left _ mem)
  have pit : px.1 ≠ it := f3.1.2.2.2.2.2 px (List.mem_append_left _ mem)
  show codeAny _ _ (.compStart (.ListComp elt [⟨tg, l, [], 0⟩] scope pos) 0 (.ref it) (.ref D) (compEnvC scope (cellsFrom (s3.heap.objs.size + 1) scope.names (cloFrom X.env.cells scope.names [])) s3.heap.objs.size X.env))
    (compPost (model X.prog X.w) X.A X.xe none _ (.ref D) s3.heap.objs.size) { s3 with heap := pushCells (s3.heap.push { cls := .type "dict", data := .dict #[] }) scope.names }
  generalize hce : compEnvC scope (cellsFrom (s3.heap.objs.size + 1) scope.names (cloFrom X.env.cells scope.names [])) s3.heap.objs.size X.env = ce at J4 pg' pe' ⊢
  have cL : ce.locals = s3.heap.objs.size := by
    subst hce
    rfl
  generalize hH3 : upd H1 D (.lst []) = H3 at J3 J4 pg' pe' w0 f3 P3
  have kp : ∀ b o, s3.heap.get? b = some o → (pushCells (s3.heap.push { cls := .type "dict", data := .dict #[] }) scope.names).get? b = some o := fun b o e => pushCells_keeps _ _ _ _ (Heap.get?_push_of_some _ e)
  generalize hs4 : ({ s3 with heap := pushCells (s3.heap.push { cls := .type "dict", data := .dict #[] }) scope.names } : Shared) = s4 at J4 ⊢
  have e4 : s4.heap = pushCells (s3.heap.push { cls := .type "dict", data := .dict #[] }) scope.names := by rw [← hs4]
  have st4 : s4.heap.IsListIter it a 0 := st3.at fun o e => by
    rw [e4]
    exact kp _ _ e
  have J4p : Inv (X.blk s3 H3 scope ce [it]) [px] (wipe σ (own.map (·.2))) H3 s4 := J4.pins_of fun q hq => by
    rw [List.mem_singleton.mp hq]
    refine ⟨by rw [e4]; exact kp _ _ P3.1, P3.2.1, ?_, fun hm => ?_, P3.2.2.2.2⟩
    · show px.1 ≠ ce.locals
      rw [cL]
      exact Nat.ne_of_lt (Heap.lt_size P3.1)
    · exact (List.mem_cons.mp (J3.stkSub px.1 hm)).elim P3.2.2.1 P3.2.2.2.1
  have here : ∀ {σ' : L2.St} {H' : Hp} {s' : Shared}, Inv (X.blk s3 H3 scope ce [it]) [px] σ' H' s' → H' it = none → FpOk (X.blk s3 H3 scope ce [it]) [px] H' it := fun {σ' H' s'} I' hn =>
    ⟨hn, (I'.ok.exf it (List.mem_singleton.mpr rfl)).1, I'.ok.exfs it (List.mem_singleton.mpr rfl), .inl (List.mem_singleton.mpr rfl), fun x c e => (I'.ok.exf it (List.mem_singleton.mpr rfl)).2 x c e, fun q hq => by
      have e : q = px := by simpa using (show q ∈ ([] : List (Addr × Obj)) ++ [px] from hq)
      rw [e]
      exact pit⟩
  have loop : codeAny (model X.prog X.w) X.A (.compLoop (.ListComp elt [⟨tg, l, [], 0⟩] scope pos) 0 (.ref it) (.ref D) ce)
      (compPost (model X.prog X.w) X.A X.xe none (EP X pins σ Q) (.ref D) s3.heap.objs.size) s4 := by
    refine compLoop_any (fun n s' => ∃ i H', Inv (X.blk s3 H3 scope ce [it]) [px] (wipe σ (own.map (·.2))) H' s' ∧ s'.heap.IsListIter it a i ∧ H' it = none ∧ W i n H') ?_ m0 ⟨0, H3, J4p, st4, f3.1.1, w0⟩
    rintro n s5 ⟨i, H5, I5, st5, n5, w5⟩
    have F5 := here I5 n5
    obtain ⟨g0, g1, g2, g3, g4, g5⟩ := id F5
    rcases turn i n H5 w5 with ⟨⟨xs, hq, hx⟩, fin⟩ | ⟨⟨xs, x, hq, hx⟩, Nx, hNx, step⟩
    · obtain ⟨its, rv, p, hz⟩ := I5.list hq
      have hl := rv.length
      have P5 := I5.pin px (by simp)
      obtain ⟨hh, vs5, d5, c5⟩ := id hot
      refine list_end_hot ⟨hh, px.2, vs5, P5.1, d5, c5⟩ pit st5 p.isList (by simp; omega) fun h' k => ?_
      have I6 : Inv (X.blk s3 H3 scope ce [it]) [px] (wipe σ (own.map (·.2))) H5 { s5 with heap := h' } := I5.turned (t' := s5.toks) k g0 g1 g3 g4 g5
      have J7 : Inv X pins σ H5 { s5 with heap := h' } := J3.call' (ch := [it]) I6.os I6.base I6.hok I6.bare fun b hb => by
        rw [List.mem_singleton.mp hb]
        exact ⟨f3.1.2.2.2.1, f3.1.2.1, f3.1.2.2.2.2.1, f3.1.2.2.2.2.2⟩
      have nC : H5 s3.heap.objs.size = none := by
        have z : H5 ce.locals = none := I6.free
        rw [cL] at z
        exact z
      obtain ⟨m, hn, _⟩ := I6.loc
      have hn : h'.Ns ce.locals m := hn
      rw [cL] at hn
      have fC := J3.fpOk (Nat.le_refl _) nC
      refine ⟨m, hn, fun h'' sb => ?_⟩
      obtain ⟨k0, k1, k2, k3, k4, k5⟩ := fC
      exact ⟨.ref D, H5, J7.turned (t' := s5.toks) (fun b o hb e => (sb.2 b hb).trans e) k0 k1 k3 k4 k5, rfl, fin⟩
    · obtain ⟨its, rv, p, hz⟩ := I5.list hq
      obtain ⟨u, hu, ru⟩ := rv.get hx
      refine wpAny_pyNext_list_item st5 p.isList (x := u) (by simpa using hu) fun h' st' sb => ?_
      have I6 : Inv (X.blk s3 H3 scope ce [it]) [px] (wipe σ (own.map (·.2))) H5 { s5 with heap := h' } := I5.turned (t' := s5.toks) (fun b o hb e => (sb.2 b hb).trans e) g0 g1 g3 g4 g5
      obtain ⟨oit, oe, oc, od⟩ := id st'
      refine go_of (s := { s5 with heap := h' }) oe oc od (by decide) ?_
      have I6' : Inv (X.blk s3 H3 scope ce [it]) ([px] ++ [(it, oit)]) (wipe σ (own.map (·.2))) H5 { s5 with heap := h' } := I6.pins_of fun q hq => by
        rcases List.mem_append.mp hq with hq | hq
        · exact I6.pin q (List.mem_append_right _ hq)
        · rw [List.mem_singleton.mp hq]
          exact ⟨oe, g0, g1, g2, fun v z => by rw [od] at z; cases z⟩
      refine thnF (pg'.run _ _ _ H5 x u _ I6' ru (step x H5 ⟨rfl, fun ys hy => by rw [I5.list_inj hy hq]; exact hx⟩)) fun _ s8 ⟨σ8, H8, I8, hw8, q8⟩ => ?_
      refine wpAny_tests_nil ?_
      simp only [if_true]
      refine thnF (pe'.run _ s8 σ8 H8 _ I8 q8) fun z s10 ⟨yv, H10, I10, r10, acc, hD10, hz10, nx⟩ => ?_
      refine app_ok (X := X.blk s3 H3 scope ce [it]) I10 hD10 hz10 r10 fun s11 I11 => ?_
      obtain ⟨m', hm, w'⟩ := hNx _ nx
      have len : (wipe σ (own.map (·.2))).length = σ8.length := by rw [← hw8, wipe_length]
      have P11 := I11.pin (it, oit) (by simp)
      refine ⟨m', hm, i + 1, _, ?_, ⟨oit, P11.1, oc, od⟩, P11.2.1, w'⟩
      refine (Inv.pins_of (pins' := [px]) I11 fun q hq => I11.pin q (by simp at hq ⊢; exact .inl hq)).weak len fun j v e => ?_
      rw [← hw8] at e
      exact (wipe_some e).1
  exact codeAny_compStart_list loop (wpAny_pyIter_listiter st4 loop)
end
section
variable {X : Cx} {K : PySem.W.Frag} {mg : Str → Option Value} {base : Heap} {P : Program} {w : World} {CX : CXT} {k : Nat} {f : Addr} {fd : FuncData} {ps : List Str} {sp : Sp} {px : Addr × Obj}
theorem find_class {K : PySem.W.Frag} {D : Addr} {od : Option Obj} (C : ExcC K D) : PySem.W.findObj K D od "__class__" = some (.bind (.builtin "getset_descriptor.__get__") (.builtin "object.__class__")) := by
  obtain ⟨cd, hc, _⟩ := PySem.W.any_some C.hd
  unfold PySem.W.findObj
  rw [hc, Option.bind_some, C.ha, Option.bind_some]
  simp [C.hn, C.ht]
/-- e.__class__ of an own exception, whatever dict it has -/
theorem class_of_exc {prog : Program} {A : Around} {E : Value → Shared → Prop} {s : Shared} {K : PySem.W.Frag} {x D : Addr} {ox : Obj} {od : Option Obj} {Q : Option Value → Shared → Prop} (C : ExcC K D) (KX : K.In s.heap)
    (here : PySem.W.InstAt s.heap x ox D od) (want : Q (some (.ref D)) { s with toks := s.toks + 1 }) : wpAny (model prog w) A (getAttr? (.ref x) "__class__") Q E s := by
  have found := find_class (od := od) C
  obtain ⟨hp, g, dr, t, os⟩ := s
  have T0 := here.type (M := model prog w)
  have T1 := PySem.W.looks_findIn (M := model prog w) KX C.hg
  have T2 := PySem.W.looks_findIn (M := model prog w) KX C.hk
  have T3 := PySem.W.looks_find (M := model prog w) KX here found
  have below : PySem.W.Looks (model prog w) hp (isInstance (.ref x) (.type "BaseException")) true := T0.andThen (PySem.W.looks_subIn KX C.hs)
  have b0 : (false && onTheHeap (Value.builtin "BaseException.__getattribute__")) = false := rfl
  have b2 : (Value.builtin "BaseException.__getattribute__" == Value.builtin "object.__getattribute__") = false := by decide +kernel
  have b1 : (onTheHeap (Value.ref D) && Value.builtin "BaseException.__getattribute__" == Value.builtin "object.__getattribute__") = false := by
    rw [b2]
    rfl
  unfold getAttr? getAttrBy? getAttrBy
  refine wpAny_bind (wpAny_mkText (wpAny_bind (wpAny_attempt (wpAny_holding (wpAny_bind (T0.at (wpAny_bind (T1.at ?_))))))))
  show wpAny _ _ (if (onTheHeap (Value.ref D) && Value.builtin "BaseException.__getattribute__" == Value.builtin "object.__getattribute__") = true then _ else _) _ _ _
  rw [b1, if_neg Bool.false_ne_true]
  unfold getAttrByItsOwn hookBefore
  refine wpAny_bind ?_
  rw [if_pos (show onTheHeap (Value.ref D) = true from rfl)]
  refine T2.at ?_
  refine wpAny_bind (wpAny_attempt (wpAny_holding ?_))
  unfold callGetattribute
  rw [b0, if_neg Bool.false_ne_true]
  unfold boundAndCalled
  rw [PySem.F.excAttr_ValueError.ga.bind (.ref x)]
  refine wpAny_bind (wpAny_pure ?_)
  show wpAny _ _ (call (.builtin "BaseException.__getattribute__") [.ref x, .str "__class__" t]) _ _ _
  refine wpAny_call (codeAny_call_builtin PySem.F.excAttr_ValueError.ga.plain PySem.F.entry_bexc_ga ?_)
  refine @PySem.W.check_slot (model prog w) _ _ ⟨hp, g, dr, t + 1, os⟩ "BaseException.__getattribute__" "BaseException" "__getattribute__" (.ref x)
    [.str "__class__" t] [] _ (by decide +kernel) (by decide +kernel) below (PySem.F.args_bexc_ga (.ref x) (.str "__class__" t)) ?_
  unfold Builtin.«object.__getattribute__»
  refine wpAny_bind (wpAny_of_eq (a := ((Value.ref x : Value), [Value.str "__class__" t])) (by first | rfl | (simp only [slotArgs]; rfl)) ?_)
  refine wpAny_bind (wpAny_pure (wpAny_bind (T0.at (wpAny_bind (T3.at ?_)))))
  show wpAny _ _ (holding [Value.builtin "object.__class__"] (call (.builtin "getset_descriptor.__get__") [.builtin "object.__class__", .ref x, .ref D]) >>= ret) _ _ _
  refine wpAny_bind (wpAny_holding (wpAny_call (PySem.W.class_get (s := ⟨hp, g, dr, t + 1, os⟩) (ox := ox) (od := od) KX here C.hm ?_)))
  refine wpAny_pure ?_
  show wpAny _ _ (handedOut (.ref D)) _ _ _
  rw [PySem.W.handedOut_of (v := .ref D) rfl]
  first
    | exact wpAny_pure (wpAny_pure want)
    | exact wpAny_pure want
theorem kit_exc {K : PySem.W.Frag} {x D : Addr} {ox : Obj} (C : ExcC K D) : PySem.W.KitX K (.ref x) (.ref D) (fun h => ∃ od, PySem.W.InstAt h x ox D od) where
  ty := fun _ _ _ ⟨_, I⟩ => I.type
  it := fun _ _ KX _ => by
    obtain ⟨cd, hc, _⟩ := PySem.W.any_some C.hd
    unfold PySem.W.clsIn at hc
    split at hc
    · rename_i c' d' cd' sl' ho
      intro A' Q' E' s' k q
      unfold isType loadHead
      exact wpAny_bind (wpAny_loadPart (k _ _ (KX _ _ ho)) (wpAny_pure q))
    · cases hc
  ne := fun h tp dd its n sl KX htp => by
    obtain ⟨cd, hc, _⟩ := PySem.W.any_some C.hd
    refine Bool.eq_false_iff.mpr fun q => ?_
    have e : D = tp := Value.ref.inj (beq_iff_eq.mp q)
    subst e
    unfold PySem.W.clsIn at hc
    split at hc
    · rename_i c' d' cd' sl' ho
      have z := (KX _ _ ho).symm.trans htp
      cases z
    · cases hc
  ca := fun KX I k => by
    obtain ⟨od, I⟩ := I
    exact class_of_exc C KX I k
/-- isinstance of what is handled -/
def rIsH (K : PySem.W.Frag) (D : Addr) (px : Addr × Obj) : List V → Hp → VK → Prop := fun xs H Q => ∃ (c : V) (cv : Value) (b : Bool), xs = [.ref px.1, c] ∧ (∀ u, RelV c u → u = cv) ∧ PySem.W.kitOne K (.ref D) cv = some b ∧
  (∀ d, px.2.dict = some d → ∃ o, H d = some o) ∧ Q (.bl b) H
theorem call_isHot {D : Addr} (C : ExcC X.K D) (mem : px ∈ X.pn) (cls : px.2.cls = .ref D) (dat : ∃ vs, px.2.data = .fields vs) : CallR X (.builtin "isinstance") (rIsH X.K D px) := by
  intro pins s σ H xs us Q J rel want
  obtain ⟨c, cv, b, rfl, hcv, e, dct, q⟩ := want
  cases rel with
  | cons rx rest =>
    cases rest with
    | cons rt rest =>
      cases rest
      cases rx
      have ec := hcv _ rt
      subst ec
      obtain ⟨get, _⟩ := J.pin px (List.mem_append_left _ mem)
      obtain ⟨vs, hv⟩ := dat
      have at_ : ∃ od, PySem.W.InstAt s.heap px.1 px.2 D od := by
        have d' : ∀ d, px.2.dict = some d → ∃ ob, s.heap.get? d = some ob := fun d hd => by
          obtain ⟨o, ho⟩ := dct d hd
          exact objOk_get (J.hok d o ho)
        clear dct q
        obtain ⟨pa, oc, od, oda, osl⟩ := px
        dsimp only at cls hv get
        subst cls hv
        cases od with
        | none => exact ⟨none, get, rfl, rfl, trivial⟩
        | some d =>
          obtain ⟨ob, hob⟩ := d' d rfl
          exact ⟨some ob, get, rfl, rfl, hob⟩
      exact PySem.W.kia_one (kit_exc C) J.kIn at_ e (fun z => nomatch z) fun tk => ⟨.bl b, H, J.kept (t' := tk) fun _ _ z => z, rfl, q⟩
/-- a def that is told of the handled exception px -/
structure FnP (P : Program) (w : World) (K : PySem.W.Frag) (mg : Str → Option Value) (base : Heap) (CX : CXT) (k : Nat) (f : Addr) (fd : FuncData) (ps : List Str) (px : Addr × Obj) (sp : Sp) : Prop where
  len : ∀ vs H Q E, sp vs H Q E → vs.length = ps.length
  run : ∀ (A : Around) (outer : List Env) (s : Shared) (H : Hp) (args : Args) (us : List Value) (vs : List V) (Q : VK) (E : XK), RoomH k A → Hot1 A px → PinOk outer H s px → Env0 P w K mg base A outer s H →
    BindsTo s fd args (ps.zip us) → Vals vs us → sp vs H Q E → codeAny (model P w) A (.call (.ref f) args) (CR CX outer P w H s Q E) s
theorem fnP_of {x qual : Str} {st : Stmt} {N : List Str} (F : Fun K x qual st f fd) (S : FnScope N ps (defScope st)) (few : ∀ vs H Q E, sp vs H Q E → vs.length = ps.length)
    (walk : ∀ (cdv : Value) (A : Around) (outer : List Env) (s : Shared) (H : Hp) (vs : List V) (Q : VK) (E : XK), Hot1 A px → RoomH k (A.deeper (envOfC qual (defScope st) s.heap.objs.size f cdv)) → sp vs H Q E →
      ∃ t, PSs (cxH CX P w K mg base N qual (defScope st) f cdv A outer s H E px) (defBody st) t ∧ t { nx := fun _ H' => Q .non H', rt := Q } (L2.start N vs) H) :
    FnP P w K mg base CX (k + 1) f fd ps px sp := by
  obtain ⟨oc, od, kV, doc, pm, an, cdv, ct, osl, rfl, look, code⟩ := F.ex
  refine ⟨few, fun A outer s H args us vs Q E room hot pin e0 bnd rel want => ?_⟩
  have many := few _ _ _ _ want
  have KX : K.In s.heap := e0.mod.kin.keeps fun b o e => (e0.bs b o e).1
  have lim : s.heap.NoLimit := e0.mod.nolimit.keeps fun b o e => (e0.bs b o e).1
  have kinds : ∀ y ∈ ps.zip us, (defScope st).names.lookup y.1 = some .local ∨ ((defScope st).names.lookup y.1 = some .cell ∧ ((cellsFrom (s.heap.objs.size + 1) (defScope st).names []).lookup y.1).isSome = true) := fun ⟨n, v⟩ hy => by
    rcases S.par n (List.of_mem_zip hy).1 with q | q
    · exact .inl q
    · exact .inr ⟨q, PySem.W.cellsFrom_some _ _ _ (.inl q)⟩
  refine codeAny_call_function room.depth (KX _ _ look) rfl S.co S.gen rfl (PySem.W.codeRec_of KX code) (bnd _ _ _ _ ?_)
  refine wpAny_newFunctionEnv_cells S.kind kinds fun env he s1 x => ?_
  subst he
  refine ⟨lim.keeps x.toInCall.keep, codeAny_func ?_⟩
  obtain ⟨t, ht, hq⟩ := walk cdv A outer s H vs Q E hot (room.deeper _) want
  have J := inv_startH (CX := CX) (P := P) (w := w) (E := E) S pin e0 many rel x
  refine wpAny_mono (ht.run [] s1 _ H _ J hq) (fun fl s' hs => ?_) fun e s' hs => hs
  match fl, hs with
  | .ret u, ⟨v, σ', H', I, rv, q⟩ => exact ⟨v, H', I.os, I.bare, I.base, I.hok, rv, q⟩
  | .next, ⟨σ', H', I, q⟩ => exact ⟨V.non, H', I.os, I.bare, I.base, I.hok, rfl, q⟩
  | .brk, ⟨_, _, _, q⟩ => exact False.elim q
  | .cont, ⟨_, _, _, q⟩ => exact False.elim q
/-- f(e, ..) where px is handled and borne -/
theorem pe_callP {x : Str} {e : Expr} {es : List Expr} {q pos : Pos} {t : TA} {E : XK} (G : FnP X.prog X.w X.K X.mg X.base CX k f fd ps px sp) (room : RoomH k X.A) (hot : Hot1 X.A px) (mem : px ∈ X.pn) (gl : Gl X x) (at_ : X.mg x = some (.ref f))
    (kp : PySem.W.keepIn X.K (.ref f) = true) (bnd : Binds X.K fd ps []) (pass : Passes CX X E) (ha : PA X (e :: es) t) (dbg : (x == ("__debug__" : Str)) = false := by decide)
    (st : starEach (e :: es) X.env = (false, eval e X.env) :: starEach es X.env := by rfl) (pl : (backTo pos (starEach es X.env)).any (·.1) = false := by rfl) :
    PE X (.Call (.Name x q) (e :: es) [] pos) (tCallS sp (fun _ => E) t) := by
  refine ⟨fun pins s σ H Q J want => ?_⟩
  refine wpAny_Call_Name_kw (ld_glob J gl at_ ?_ dbg)
  refine PySem.W.callWith_K (h₀ := X.base) J.ok.mod.kin kp (thn (ha.run pos pins s σ H _ J want) fun us s1 got => ?_) st pl
  obtain ⟨vs, H1, J1, rel, q1⟩ := got
  refine ⟨J1.kIn, ?_⟩
  show wpAny _ _ (call (.ref f) us) _ _ _
  have many : us.length = ps.length := by
    rw [← rel.length]
    exact G.len _ _ _ _ q1
  have bd := bnd s1 us J1.kIn (by rw [List.append_nil]; exact many)
  rw [List.append_nil] at bd
  have P1 := J1.pin px (List.mem_append_left _ mem)
  have pin : PinOk X.stack H1 s1 px := ⟨P1.1, P1.2.1, fun hm => (List.mem_cons.mp (J1.stkSub px.1 hm)).elim P1.2.2.1 P1.2.2.2.1, P1.2.2.2.2⟩
  refine wpAny_call (codeAny_mono (G.run X.A X.stack s1 H1 ⟨us, []⟩ us vs Q E room hot pin J1.env0 bd rel q1) fun r s' end_ => ?_)
  match r, end_ with
  | .error er, end_ => exact pass pins σ H1 s1 er s' J1 end_
  | .ok (.ret u), end_ => exact J1.after end_
  | .ok .next, end_ => exact False.elim end_
  | .ok .brk, end_ => exact False.elim end_
  | .ok .cont, end_ => exact False.elim end_
end
theorem passH0 {X : Cx} {σ : L2.St} : PassesAt CX0 X σ E0 := fun _ _ _ _ _ _ h => h.elim
/-- a def where something is handled -/
theorem okH {P : Program} {w : World} {K : PySem.W.Frag} {mg : Str → Option Value} {base : Heap} {CX : CXT} {x qual : Str} {st : Stmt} {f : Addr} {fd : FuncData} {N ps : List Str} {k : Nat} {sp : Sp} (F : Fun K x qual st f fd) (S : FnScope N ps (defScope st))
    (few : ∀ vs H Q E, sp vs H Q E → vs.length = ps.length)
    (walk : ∀ (cdv : Value) (A : Around) (outer : List Env) (s : Shared) (H : Hp) (vs : List V) (Q : VK) (E : XK) (p : Addr × Obj), Hot1 A p → RoomH k (A.deeper (envOfC qual (defScope st) s.heap.objs.size f cdv)) → sp vs H Q E →
      ∃ t, PSs (cxH CX P w K mg base N qual (defScope st) f cdv A outer s H E p) (defBody st) t ∧ t { nx := fun _ H' => Q .non H', rt := Q } (L2.start N vs) H) : FnH P w K mg base CX (k + 1) f fd ps sp := by
  obtain ⟨oc, od, kV, doc, pm, an, cdv, ct, osl, rfl, look, code⟩ := F.ex
  exact fn_ofH look code S few fun A outer s H vs Q E p hot room want => walk cdv A outer s H vs Q E p hot room want
/-- a block that is walked under a condition -/
theorem pss_when {X : Cx} {c : Prop} {sts : List Stmt} {t : TS} (h : c → PSs X sts t) : PSs X sts (fun D σ H => c ∧ t D σ H) :=
  ⟨fun pins s σ H D J ⟨hc, q⟩ => (h hc).run pins s σ H D J q⟩
section
variable {X : Cx} {CX : CXT} {k : Nat} {f C : Addr} {fd : FuncData} {ps : List Str} {sp : Sp} {E : L2.St → XK} {x : Str} {p pos : Pos} {e : Expr} {es : List Expr} {t : TA}
/-- C(e, ..), what its __init__ raises wished for at the caller's slots -/
def tMakeS (C : Addr) (sp : Sp) (E : L2.St → XK) (t : TA) : TE := fun σ H Q => t σ H fun vs H1 => ∀ x dx, H1 x = none → H1 dx = none → dx ≠ x →
  sp (.ref x :: vs) (upd (upd H1 dx (.own x)) x (.ins C dx [])) (fun v H2 => v = .non ∧ Q (.ref x) H2) (E σ)
theorem pe_makeS (M : Mk X.K C f) (G : FnOk X.prog X.w X.K X.mg X.base CX k f fd ps sp) (room : Room (k + 1) X.A) (gl : Gl X x) (at_ : X.mg x = some (.ref C)) (bnd : Binds X.K fd ps []) (pass : ∀ σ, PassesAt CX X σ (E σ))
    (ha : PA X (e :: es) t) (dbg : (x == ("__debug__" : Str)) = false := by decide) (st : starEach (e :: es) X.env = (false, eval e X.env) :: starEach es X.env := by rfl)
    (pl : (backTo pos (starEach es X.env)).any (·.1) = false := by rfl) : PE X (.Call (.Name x p) (e :: es) [] pos) (tMakeS C sp E t) := by
  refine ⟨fun pins s σ H Q J want => ?_⟩
  refine wpAny_Call_Name_kw (ld_glob J gl at_ ?_ dbg)
  refine PySem.W.callWith_K (h₀ := X.base) J.ok.mod.kin M.kp (thn (ha.run pos pins s σ H _ J want) fun us s1 got => ?_) st pl
  obtain ⟨vs, H1, J1, rel, q1⟩ := got
  refine ⟨J1.kIn, ?_⟩
  show wpAny _ _ (call (.ref C) us) _ _ _
  have wish := q1 (s1.heap.objs.size + 1) s1.heap.objs.size (J1.hok.fresh (Nat.le_succ _)) (J1.hok.fresh (Nat.le_refl _)) (Nat.ne_of_lt (Nat.lt_succ_self _))
  have J2 := Inv.made (C := C) J1
  have rel2 : Vals (V.ref (s1.heap.objs.size + 1) :: vs) (Value.ref (s1.heap.objs.size + 1) :: us) := .cons rfl rel
  have many : (Value.ref (s1.heap.objs.size + 1) :: us ++ []).length = ps.length := by
    have z := rel2.length
    rw [G.len _ _ _ _ wish] at z
    rw [List.append_nil]
    exact z.symm
  have bd := bnd _ (Value.ref (s1.heap.objs.size + 1) :: us) J2.kIn many
  rw [List.append_nil] at bd
  have run := G.run _ X.stack _ _ ⟨Value.ref (s1.heap.objs.size + 1) :: us, []⟩ (Value.ref (s1.heap.objs.size + 1) :: us) _ _ (E σ) (room.make C us []) (J2.env0.make C us []) bd rel2 wish
  refine wpAny_call (make_map (f := f) J1.kIn M.makes M.init (beq_iff_eq.mp M.fn) (codeAny_mono run fun r s' end_ => ?_))
  match r, end_ with
  | .error er, end_ => exact pass σ pins _ _ er s' J2 end_
  | .ok (.ret u), end_ =>
    obtain ⟨v, H', J3, rv, ev, q3⟩ := J2.after end_
    subst ev
    exact ⟨rv, ⟨V.ref (s1.heap.objs.size + 1), H', J3, rfl, q3⟩⟩
  | .ok .next, end_ => exact False.elim end_
  | .ok .brk, end_ => exact False.elim end_
  | .ok .cont, end_ => exact False.elim end_
end
/-- nothing is let out around -/
theorem takesN0 {X : Cx} : L2N.Takes X (fun _ _ _ _ => False) := fun u s' ⟨_, _, _, _, _, _, _, _, _, _, _, _, _, _, _, _, z⟩ => z.elim
end LT
/-! Webs: what a good web is; ways. -/
namespace LT
abbrev Rd3 := Int × Int × Int
def pr (r : Rd3) : Int × Int := (r.1, r.2.1)
def cst (r : Rd3) : Int := r.2.2
/-- a way along pairs -/
inductive Way (ps : List (Int × Int)) (a : Int) : Int → Prop where
  | refl : Way ps a a
  | step {b c : Int} : Way ps a b → ((b, c) ∈ ps ∨ (c, b) ∈ ps) → Way ps a c
theorem Way.mono {ps qs : List (Int × Int)} {a b : Int} (w : Way ps a b) (h : ∀ p ∈ ps, p ∈ qs) : Way qs a b := by
  induction w with
  | refl => exact .refl
  | step _ e ih => exact .step ih (e.elim (fun z => .inl (h _ z)) fun z => .inr (h _ z))
theorem Way.trans {ps : List (Int × Int)} {a b c : Int} (u : Way ps a b) (v : Way ps b c) : Way ps a c := by
  induction v with
  | refl => exact u
  | step _ e ih => exact .step ih e
theorem Way.symm {ps : List (Int × Int)} {a b : Int} (u : Way ps a b) : Way ps b a := by
  induction u with
  | refl => exact .refl
  | step _ e ih => exact (Way.step .refl e.symm).trans ih
/-- pairs of hands -/
structure PairsOk (n : Int) (ps : List (Int × Int)) : Prop where
  rng : ∀ p ∈ ps, 0 ≤ p.1 ∧ p.1 < p.2 ∧ p.2 < n
  nd : ps.Nodup
structure WebOk (n : Int) (rs : List Rd3) : Prop where
  lo : 1 ≤ n
  hi : n ≤ 8
  len : rs.length ≤ 20
  rng : ∀ r ∈ rs, 0 ≤ r.1 ∧ r.1 < r.2.1 ∧ r.2.1 < n ∧ 1 ≤ r.2.2 ∧ r.2.2 ≤ 99
  pairs : (rs.map pr).Nodup
  costs : (rs.map cst).Nodup
  conn : ∀ h : Int, 0 ≤ h → h < n → Way (rs.map pr) 0 h
theorem ins_perm {α : Type} (l : List α) (p : α) (j : Nat) : (l.take j ++ [p] ++ l.drop j).Perm (p :: l) := by
  have h : (l.take j ++ [p] ++ l.drop j).Perm ([p] ++ (l.take j ++ l.drop j)) := by
    rw [← List.append_assoc]
    exact List.perm_append_comm.append_right _
  rw [List.take_append_drop] at h
  exact h
theorem PairsOk.ins {n : Int} {ps : List (Int × Int)} (h : PairsOk n ps) {p : Int × Int} (hp : 0 ≤ p.1 ∧ p.1 < p.2 ∧ p.2 < n) (hn : p ∉ ps) (j : Nat) : PairsOk n (ps.take j ++ [p] ++ ps.drop j) := by
  have q := ins_perm ps p j
  refine ⟨fun x hx => ?_, q.nodup_iff.mpr (List.nodup_cons.mpr ⟨hn, h.nd⟩)⟩
  rcases List.mem_cons.mp (q.mem_iff.mp hx) with rfl | hx
  · exact hp
  · exact h.rng x hx
theorem Way.ins {ps : List (Int × Int)} {a b : Int} (w : Way ps a b) (p : Int × Int) (j : Nat) : Way (ps.take j ++ [p] ++ ps.drop j) a b :=
  w.mono fun x hx => (ins_perm ps p j).mem_iff.mpr (List.mem_cons_of_mem _ hx)
theorem ins_len {α : Type} (l : List α) (p : α) (j : Nat) : (l.take j ++ [p] ++ l.drop j).length = l.length + 1 := by
  have := (ins_perm l p j).length_eq
  simpa using this
theorem sort2 {a b : Int} {ns : List Int} (p : ns.Perm [a, b]) (s : ns.Pairwise (· ≤ ·)) : ns = [min a b, max a b] := by
  match ns, p.length_eq with
  | [x, y], _ =>
    have hxy : x ≤ y := by simpa using s
    have hx : x = a ∨ x = b := by simpa using p.mem_iff.mp (List.mem_cons_self (a := x))
    rcases hx with rfl | rfl
    · have : y = b := by simpa using List.Perm.cons_inv p
      subst this
      rw [Int.min_eq_left hxy, Int.max_eq_right hxy]
    · have : y = a := by simpa using List.Perm.cons_inv (p.trans (List.Perm.swap x a []))
      subst this
      rw [Int.min_eq_right hxy, Int.max_eq_left hxy]
theorem erase_perm {α : Type} {l : List α} {i : Nat} {y : α} (h : l[i]? = some y) : (y :: l.eraseIdx i).Perm l := by
  induction l generalizing i with
  | nil => simp at h
  | cons x l ih =>
    cases i with
    | zero =>
      simp at h
      subst h
      exact List.Perm.refl _
    | succ i =>
      simp at h
      exact (List.Perm.swap x y _).trans ((ih h).cons x)
/-- the tree's pairs behind some turns: who is in stands among the first of the order -/
structure TreeI (n : Int) (os : List Int) (k : Nat) (ps : List (Int × Int)) : Prop where
  ok : PairsOk n ps
  len : ps.length + 1 = k
  ends : ∀ p ∈ ps, p.1 ∈ os.take k ∧ p.2 ∈ os.take k
  conn : ∀ x ∈ os.take k, ∀ y ∈ os.take k, Way ps x y
theorem TreeI.next {n : Int} {os : List Int} {k j : Nat} {ps : List (Int × Int)} (h : TreeI n os k ps) (nd : os.Nodup) (rg : ∀ x ∈ os, 0 ≤ x ∧ x < n) {i : Nat} {a b : Int} (hi : i < k) (ha : os[i]? = some a) (hb : os[k]? = some b) :
    TreeI n os (k + 1) (ps.take j ++ [(min a b, max a b)] ++ ps.drop j) := by
  have hk : k < os.length := (List.getElem?_eq_some_iff.mp hb).1
  have tk : os.take (k + 1) = os.take k ++ [b] := by
    rw [List.take_succ, hb]
    rfl
  have am : a ∈ os.take k := by
    refine List.mem_of_getElem? (i := i) ?_
    rw [List.getElem?_take_of_lt hi]
    exact ha
  have bn : b ∉ os.take k := fun hm => by
    have h2 := nd
    rw [← List.take_append_drop (k + 1) os, tk] at h2
    have h3 := (List.nodup_append.mp (List.nodup_append.mp h2).1).2.2
    exact h3 b hm b (by simp) rfl
  have ab : a ≠ b := fun e => bn (e ▸ am)
  have ra := rg a (List.mem_of_mem_take am)
  have rb := rg b (List.mem_of_getElem? hb)
  have pn : (min a b, max a b) ∉ ps := fun hm => by
    have e := h.ends _ hm
    have e2 : b = min a b ∨ b = max a b := by omega
    rcases e2 with e2 | e2
    · exact bn (e2 ▸ e.1)
    · exact bn (e2 ▸ e.2)
  have Q := ins_perm ps (min a b, max a b) j
  have ed : ((a, b) ∈ ps.take j ++ [(min a b, max a b)] ++ ps.drop j ∨ (b, a) ∈ ps.take j ++ [(min a b, max a b)] ++ ps.drop j) := by
    rcases Int.le_total a b with c | c
    · refine .inl (Q.mem_iff.mpr ?_)
      rw [Int.min_eq_left c, Int.max_eq_right c]
      exact List.mem_cons_self ..
    · refine .inr (Q.mem_iff.mpr ?_)
      rw [Int.min_eq_right c, Int.max_eq_left c]
      exact List.mem_cons_self ..
  refine ⟨h.ok.ins ⟨by show 0 ≤ min a b; omega, by show min a b < max a b; omega, by show max a b < n; omega⟩ pn j, by rw [ins_len]; have := h.len; omega, fun p hp => ?_, ?_⟩
  · rw [tk]
    rcases List.mem_cons.mp (Q.mem_iff.mp hp) with rfl | hp
    · show min a b ∈ _ ∧ max a b ∈ _
      have e2 : (min a b = a ∧ max a b = b) ∨ (min a b = b ∧ max a b = a) := by omega
      rcases e2 with ⟨e, e'⟩ | ⟨e, e'⟩ <;> rw [e, e'] <;> simp [am]
    · have e := h.ends p hp
      exact ⟨List.mem_append_left _ e.1, List.mem_append_left _ e.2⟩
  · have toA : ∀ x ∈ os.take (k + 1), Way (ps.take j ++ [(min a b, max a b)] ++ ps.drop j) a x := fun x hx => by
      rw [tk] at hx
      rcases List.mem_append.mp hx with hx | hx
      · exact (h.conn a am x hx).ins _ _
      · rw [List.mem_singleton.mp hx]
        exact .step .refl ed
    exact fun x hx y hy => (toA x hx).symm.trans (toA y hy)
end LT
/-! Ways by numbered roads. -/
namespace LT
open PySem L2
/-- the road k leads from a to b -/
def Edge (rs : List Rd3) (k a b : Int) : Prop := 0 ≤ k ∧ ∃ r, rs[k.toNat]? = some r ∧ ((a = r.1 ∧ b = r.2.1) ∨ (a = r.2.1 ∧ b = r.1))
theorem Edge.symm {rs : List Rd3} {k a b : Int} (h : Edge rs k a b) : Edge rs k b a := by
  obtain ⟨h0, r, hr, h⟩ := h
  exact ⟨h0, r, hr, h.elim (fun ⟨x, y⟩ => .inr ⟨y, x⟩) fun ⟨x, y⟩ => .inl ⟨y, x⟩⟩
/-- a way by roads of ks, no hand twice: its roads, its hands -/
inductive Pth (rs : List Rd3) (ks : List Int) (a : Int) : List Int → List Int → Int → Prop where
  | nil : Pth rs ks a [] [a] a
  | snoc {ns vs : List Int} {b c k : Int} : Pth rs ks a ns vs b → k ∈ ks → Edge rs k b c → c ∉ vs → Pth rs ks a (ns ++ [k]) (vs ++ [c]) c
theorem Pth.len {rs : List Rd3} {ks : List Int} {a : Int} {ns vs : List Int} {b : Int} (h : Pth rs ks a ns vs b) : vs.length = ns.length + 1 := by
  induction h with
  | nil => rfl
  | snoc _ _ _ _ ih => simp [ih]
theorem Pth.nd {rs : List Rd3} {ks : List Int} {a : Int} {ns vs : List Int} {b : Int} (h : Pth rs ks a ns vs b) : vs.Nodup := by
  induction h with
  | nil => simp
  | snoc _ _ _ hc ih => 
    rw [List.nodup_append]
    refine ⟨ih, by simp, fun x hx y hy e => ?_⟩
    rw [List.mem_singleton.mp hy] at e
    exact hc (e ▸ hx)
theorem nodup_bound : ∀ (n : Nat) (l : List Int), l.Nodup → (∀ x ∈ l, 0 ≤ x ∧ x < n) → l.length ≤ n
  | 0, l, _, h => by
    cases l with
    | nil => exact Nat.le_refl _
    | cons x l =>
      have := h x (List.mem_cons_self ..)
      omega
  | n + 1, l, nd, h => by
    by_cases hm : (n : Int) ∈ l
    · have h1 := nodup_bound n (l.erase n) (nd.erase _) fun x hx => by
        have h2 := (nd.mem_erase_iff).mp hx
        have := h x h2.2
        have := h2.1
        omega
      rw [List.length_erase_of_mem hm] at h1
      omega
    · have h1 := nodup_bound n l nd fun x hx => by
        have := h x hx
        have : x ≠ n := fun e => hm (e ▸ hx)
        omega
      omega
abbrev Ent := Int × Addr
def kvOf (es : List Ent) : List (Key × V) := es.map fun e => (Sum.inl e.1, V.ref e.2)
theorem val_kvOf : ∀ (es : List Ent) (h : Int), valV (kvOf es) (Sum.inl h) = (es.find? fun e => decide (e.1 = h)).map fun e => V.ref e.2
  | [], _ => rfl
  | e :: es, h => by
    have ih := val_kvOf es h
    show valV ((Sum.inl e.1, V.ref e.2) :: kvOf es) (Sum.inl h) = _
    by_cases c : e.1 = h
    · rw [valV_pos (by rw [c])]
      simp [c]
    · rw [valV_neg (fun z => c (Sum.inl.inj z)), ih]
      simp [c]
theorem val_none {es : List Ent} {h : Int} (c : h ∉ es.map (·.1)) : valV (kvOf es) (Sum.inl h) = none := by
  rw [val_kvOf]
  have : (es.find? fun e => decide (e.1 = h)) = none := List.find?_eq_none.mpr fun e he z => c (List.mem_map.mpr ⟨e, he, of_decide_eq_true z⟩)
  rw [this]
  rfl
theorem val_some {es : List Ent} {h : Int} (c : h ∈ es.map (·.1)) : ∃ a, (h, a) ∈ es ∧ valV (kvOf es) (Sum.inl h) = some (.ref a) := by
  rw [val_kvOf]
  obtain ⟨e, he, rfl⟩ := List.mem_map.mp c
  cases q : es.find? (fun x => decide (x.1 = e.1)) with
  | none => exact absurd (decide_eq_true rfl) (List.find?_eq_none.mp q e he)
  | some x =>
    have h1 := List.find?_some q
    have h2 := List.mem_of_find?_eq_some q
    have h3 : x.1 = e.1 := of_decide_eq_true h1
    exact ⟨x.2, by rw [← h3]; exact h2, rfl⟩
theorem kvOf_put {es : List Ent} {h : Int} {a : Addr} (c : h ∉ es.map (·.1)) : putK (kvOf es) (Sum.inl h) (.ref a) = kvOf (es ++ [(h, a)]) := by
  rw [putK_new _ (val_none c)]
  simp [kvOf]
/-- the entries met so far, each with a way -/
structure Met (rs : List Rd3) (ks : List Int) (n start : Int) (H0 H : Hp) (W : Addr) (es : List Ent) : Prop where
  nd : (es.map (·.1)).Nodup
  st : start ∈ es.map (·.1)
  rg : ∀ h ∈ es.map (·.1), 0 ≤ h ∧ h < n
  way : ∀ e ∈ es, e.2 ≠ W ∧ H0 e.2 = none ∧ ∃ ns vs, H e.2 = some (.lst (ns.map V.int)) ∧ Pth rs ks start ns vs e.1 ∧ ∀ v ∈ vs, v ∈ es.map (·.1)
theorem Met.len {rs : List Rd3} {ks : List Int} {n start : Int} {H0 H : Hp} {W : Addr} {es : List Ent} (m : Met rs ks n start H0 H W es) (h8 : n ≤ 8) (h0 : 0 ≤ n) : es.length ≤ 8 := by
  have := nodup_bound n.toNat _ m.nd fun x hx => by
    have := m.rg x hx
    omega
  rw [List.length_map] at this
  omega
theorem Met.fr {rs : List Rd3} {ks : List Int} {n start : Int} {H0 H H' : Hp} {W : Addr} {es : List Ent} (m : Met rs ks n start H0 H W es) {M : List Addr} (f : Fr M H H') (hM : ∀ e ∈ es, e.2 ∉ M) : Met rs ks n start H0 H' W es :=
  ⟨m.nd, m.st, m.rg, fun e he => by
    obtain ⟨h1, h2, ns, vs, h3, h4, h5⟩ := m.way e he
    exact ⟨h1, h2, ns, vs, f.keep _ _ (hM e he) h3, h4, h5⟩⟩
theorem Met.add {rs : List Rd3} {ks : List Int} {n start : Int} {H0 H H' : Hp} {W : Addr} {es : List Ent} (m : Met rs ks n start H0 H W es) {M : List Addr} (f : Fr M H H') (hM : ∀ e ∈ es, e.2 ∉ M) {b c k : Int} {a : Addr} {ns vs : List Int}
    (hc : c ∉ es.map (·.1)) (hr : 0 ≤ c ∧ c < n) (aW : a ≠ W) (a0 : H0 a = none) (hk : k ∈ ks) (ed : Edge rs k b c) (p : Pth rs ks start ns vs b) (hv : ∀ v ∈ vs, v ∈ es.map (·.1)) (ha : H' a = some (.lst ((ns ++ [k]).map V.int))) :
    Met rs ks n start H0 H' W (es ++ [(c, a)]) := by
  have mem : ∀ v ∈ es.map (·.1), v ∈ (es ++ [(c, a)]).map (·.1) := fun v hv => by
    rw [List.map_append]
    exact List.mem_append_left _ hv
  refine ⟨?_, mem _ m.st, fun h hh => ?_, fun e he => ?_⟩
  · rw [List.map_append, List.nodup_append]
    refine ⟨m.nd, by simp, fun x hx y hy e => ?_⟩
    have hy' : y = c := by simpa using hy
    exact hc (by rw [← hy', ← e]; exact hx)
  · rw [List.map_append] at hh
    rcases List.mem_append.mp hh with hh | hh
    · exact m.rg h hh
    · have : h = c := by simpa using hh
      rw [this]
      exact hr
  · rcases List.mem_append.mp he with he | he
    · obtain ⟨h1, h2, ns', vs', h3, h4, h5⟩ := m.way e he
      exact ⟨h1, h2, ns', vs', f.keep _ _ (hM e he) h3, h4, fun v hv => mem _ (h5 v hv)⟩
    · have : e = (c, a) := by simpa using he
      subst this
      refine ⟨aW, a0, _, vs ++ [c], ha, p.snoc hk ed fun z => hc (hv c z), fun v hv' => ?_⟩
      rcases List.mem_append.mp hv' with hv' | hv'
      · exact mem _ (hv v hv')
      · have : v = c := by simpa using hv'
        rw [this]
        simp
end LT
namespace LT
open PySem L2
def topS (i : Nat) : Stmt := PySem.Challenge.pw_lettertree_k01_webs_refused.main.body.getD i (.Pass ⟨0, 0, 0, 0⟩)
abbrev s_BadWeb___init__ : Stmt := inClass (topS 2) 0
theorem sc_BadWeb___init__ : FnScope ["self", "why", "number"] ["self", "why", "number"] (defScope s_BadWeb___init__) := ⟨rfl, rfl, rfl, by decide +kernel, rfl, by decide +kernel, by decide +kernel⟩
abbrev s_Web___init__ : Stmt := inClass (topS 11) 0
theorem sc_Web___init__ : FnScope ["self", "hands", "roads", "kept"] ["self", "hands", "roads"] (defScope s_Web___init__) := ⟨rfl, rfl, rfl, by decide +kernel, rfl, by decide +kernel, by decide +kernel⟩
abbrev s_Web_hands : Stmt := inClass (topS 11) 1
theorem sc_Web_hands : FnScope ["self"] ["self"] (defScope s_Web_hands) := ⟨rfl, rfl, rfl, by decide +kernel, rfl, by decide +kernel, by decide +kernel⟩
abbrev s_Web_roads : Stmt := inClass (topS 11) 2
theorem sc_Web_roads : FnScope ["self"] ["self"] (defScope s_Web_roads) := ⟨rfl, rfl, rfl, by decide +kernel, rfl, by decide +kernel, by decide +kernel⟩
abbrev s__check_web : Stmt := topS 12
theorem sc__check_web : FnScope ["hands", "roads", "number", "road"] ["hands", "roads"] (defScope s__check_web) := ⟨rfl, rfl, rfl, by decide +kernel, rfl, by decide +kernel, by decide +kernel⟩
abbrev s__is_bad : Stmt := topS 13
theorem sc__is_bad : FnScope ["hands", "road", "ahead", "one", "other", "cost", "near", "far", "price"] ["hands", "road", "ahead"] (defScope s__is_bad) := ⟨rfl, rfl, rfl, by decide +kernel, rfl, by decide +kernel, by decide +kernel⟩
abbrev s__paths : Stmt := topS 14
theorem sc__paths : FnScope ["roads", "numbers", "start", "paths", "waiting", "here", "number", "there"] ["roads", "numbers", "start"] (defScope s__paths) := ⟨rfl, rfl, rfl, by decide +kernel, rfl, by decide +kernel, by decide +kernel⟩
abbrev s__across : Stmt := topS 15
theorem sc__across : FnScope ["road", "hand", "one", "other", "_"] ["road", "hand"] (defScope s__across) := ⟨rfl, rfl, rfl, by decide +kernel, rfl, by decide +kernel, by decide +kernel⟩
abbrev s__law_dice : Stmt := topS 17
theorem sc__law_dice : FnScope ["_law_script", "_law_mixed", "_law_cell"] ["_law_script"] (defScope s__law_dice) := ⟨rfl, rfl, rfl, by decide +kernel, rfl, by decide +kernel, by decide +kernel⟩
abbrev s__law_next : Stmt := topS 18
theorem sc__law_next : FnScope ["_law_dice_here", "_law_many", "_law_found", "_law_cell"] ["_law_dice_here", "_law_many"] (defScope s__law_next) := ⟨rfl, rfl, rfl, by decide +kernel, rfl, by decide +kernel, by decide +kernel⟩
abbrev s__law_like : Stmt := topS 19
theorem sc__law_like : FnScope ["_law_found", "_law_due", "_law_key", "_law_k"] ["_law_found", "_law_due"] (defScope s__law_like) := ⟨rfl, rfl, rfl, by decide +kernel, rfl, by decide +kernel, by decide +kernel⟩
abbrev s__law_web : Stmt := topS 20
theorem sc__law_web : FnScope ["_law_d", "_law_most", "_law_hands", "_law_left", "_law_order", "_law_k", "_law_pairs", "_law_pair", "_law_j", "_law_costs"] ["_law_d", "_law_most"] (defScope s__law_web) := ⟨rfl, rfl, rfl, by decide +kernel, rfl, by decide +kernel, by decide +kernel⟩
abbrev s__law_is : Stmt := topS 21
theorem sc__law_is : FnScope ["_law_e", "_law_word", "_law_kinds", "_law_words", "_law_one"] ["_law_e", "_law_word"] (defScope s__law_is) := ⟨rfl, rfl, rfl, by decide +kernel, rfl, by decide +kernel, by decide +kernel⟩
abbrev s__law_refused : Stmt := topS 22
theorem sc__law_refused : FnScope ["_law_hands", "_law_roads", "_law_why", "_law_number", "_law_e"] ["_law_hands", "_law_roads", "_law_why", "_law_number"] (defScope s__law_refused) := ⟨rfl, rfl, rfl, by decide +kernel, rfl, by decide +kernel, by decide +kernel⟩
abbrev s__law_bad : Stmt := topS 23
theorem sc__law_bad : FnScope ["_law_d", "_law_hands", "_law_roads", "_law_far", "_law_free", "_law_cost", "_law_road", "_law_some", "_law_one", "_law_other", "_law_pairs", "_law_left", "_law_k", "_law_pair"] ["_law_d", "_law_hands", "_law_roads"] (defScope s__law_bad) := ⟨rfl, rfl, rfl, by decide +kernel, rfl, by decide +kernel, by decide +kernel⟩
abbrev s_law : Stmt := topS 24
theorem sc_law : FnScope ["_law_script", "_law_d", "_law_hands", "_law_roads", "_law_handed", "_law_web_here", "_law_turn", "_law_at", "_law_rows", "_law_odd", "_law_road"] ["_law_script"] (defScope s_law) := ⟨rfl, rfl, rfl, by decide +kernel, rfl, by decide +kernel, by decide +kernel⟩
structure Txt (K : PySem.W.Frag) (mg : Str → Option Value) where
  a_BadWeb___init__ : Addr
  d_BadWeb___init__ : FuncData
  F_BadWeb___init__ : Fun K "__init__" "BadWeb.__init__" s_BadWeb___init__ a_BadWeb___init__ d_BadWeb___init__
  b_BadWeb___init__ : Binds K d_BadWeb___init__ ["self", "why", "number"] []
  a_Web___init__ : Addr
  d_Web___init__ : FuncData
  F_Web___init__ : Fun K "__init__" "Web.__init__" s_Web___init__ a_Web___init__ d_Web___init__
  b_Web___init__ : Binds K d_Web___init__ ["self", "hands", "roads"] []
  a_Web_hands : Addr
  d_Web_hands : FuncData
  F_Web_hands : Fun K "hands" "Web.hands" s_Web_hands a_Web_hands d_Web_hands
  b_Web_hands : Binds K d_Web_hands ["self"] []
  a_Web_roads : Addr
  d_Web_roads : FuncData
  F_Web_roads : Fun K "roads" "Web.roads" s_Web_roads a_Web_roads d_Web_roads
  b_Web_roads : Binds K d_Web_roads ["self"] []
  a__check_web : Addr
  d__check_web : FuncData
  F__check_web : Fun K "_check_web" "_check_web" s__check_web a__check_web d__check_web
  g__check_web : mg "_check_web" = some (.ref a__check_web)
  b__check_web : Binds K d__check_web ["hands", "roads"] []
  a__is_bad : Addr
  d__is_bad : FuncData
  F__is_bad : Fun K "_is_bad" "_is_bad" s__is_bad a__is_bad d__is_bad
  g__is_bad : mg "_is_bad" = some (.ref a__is_bad)
  b__is_bad : Binds K d__is_bad ["hands", "road", "ahead"] []
  a__paths : Addr
  d__paths : FuncData
  F__paths : Fun K "_paths" "_paths" s__paths a__paths d__paths
  g__paths : mg "_paths" = some (.ref a__paths)
  b__paths : Binds K d__paths ["roads", "numbers", "start"] []
  a__across : Addr
  d__across : FuncData
  F__across : Fun K "_across" "_across" s__across a__across d__across
  g__across : mg "_across" = some (.ref a__across)
  b__across : Binds K d__across ["road", "hand"] []
  a__law_dice : Addr
  d__law_dice : FuncData
  F__law_dice : Fun K "_law_dice" "_law_dice" s__law_dice a__law_dice d__law_dice
  g__law_dice : mg "_law_dice" = some (.ref a__law_dice)
  b__law_dice : Binds K d__law_dice ["_law_script"] []
  a__law_next : Addr
  d__law_next : FuncData
  F__law_next : Fun K "_law_next" "_law_next" s__law_next a__law_next d__law_next
  g__law_next : mg "_law_next" = some (.ref a__law_next)
  b__law_next : Binds K d__law_next ["_law_dice_here", "_law_many"] []
  a__law_like : Addr
  d__law_like : FuncData
  F__law_like : Fun K "_law_like" "_law_like" s__law_like a__law_like d__law_like
  g__law_like : mg "_law_like" = some (.ref a__law_like)
  b__law_like : Binds K d__law_like ["_law_found", "_law_due"] []
  a__law_web : Addr
  d__law_web : FuncData
  F__law_web : Fun K "_law_web" "_law_web" s__law_web a__law_web d__law_web
  g__law_web : mg "_law_web" = some (.ref a__law_web)
  b__law_web : Binds K d__law_web ["_law_d", "_law_most"] []
  a__law_is : Addr
  d__law_is : FuncData
  F__law_is : Fun K "_law_is" "_law_is" s__law_is a__law_is d__law_is
  g__law_is : mg "_law_is" = some (.ref a__law_is)
  b__law_is : Binds K d__law_is ["_law_e", "_law_word"] []
  a__law_refused : Addr
  d__law_refused : FuncData
  F__law_refused : Fun K "_law_refused" "_law_refused" s__law_refused a__law_refused d__law_refused
  g__law_refused : mg "_law_refused" = some (.ref a__law_refused)
  b__law_refused : Binds K d__law_refused ["_law_hands", "_law_roads", "_law_why", "_law_number"] []
  a__law_bad : Addr
  d__law_bad : FuncData
  F__law_bad : Fun K "_law_bad" "_law_bad" s__law_bad a__law_bad d__law_bad
  g__law_bad : mg "_law_bad" = some (.ref a__law_bad)
  b__law_bad : Binds K d__law_bad ["_law_d", "_law_hands", "_law_roads"] []
  a_law : Addr
  d_law : FuncData
  F_law : Fun K "law" "law" s_law a_law d_law
  g_law : mg "law" = some (.ref a_law)
  b_law : Binds K d_law ["_law_script"] []
  C_WebError : Addr
  g_WebError : mg "WebError" = some (.ref C_WebError)
  C_BadWeb : Addr
  g_BadWeb : mg "BadWeb" = some (.ref C_BadWeb)
  C_NoHand : Addr
  g_NoHand : mg "NoHand" = some (.ref C_NoHand)
  C_NoRoad : Addr
  g_NoRoad : mg "NoRoad" = some (.ref C_NoRoad)
  C_NoLetter : Addr
  g_NoLetter : mg "NoLetter" = some (.ref C_NoLetter)
  C_BadText : Addr
  g_BadText : mg "BadText" = some (.ref C_BadText)
  C_Web : Addr
  g_Web : mg "Web" = some (.ref C_Web)
  exc_BadWeb : ExcC K C_BadWeb
  xf_BadWeb : XfC K C_BadWeb
  o_BadWeb : OexC K C_BadWeb
  i_BadWeb : PySem.W.findIn K (.ref C_BadWeb) "__init__" = some (some (.ref a_BadWeb___init__))
  t_BadWeb : PySem.W.typeIn K (.ref a_BadWeb___init__) = some (.type "function")
  no_BadWeb_why : PySem.W.findIn K (.ref C_BadWeb) "why" = some none
  no_BadWeb_number : PySem.W.findIn K (.ref C_BadWeb) "number" = some none
  ex_BadWeb_WebError : PySem.W.exmOne K (.ref C_BadWeb) (.ref C_WebError) = some true
  ki_BadWeb_BadText : PySem.W.kitOne K (.ref C_BadWeb) (.ref C_BadText) = some false
  ki_BadWeb_BadWeb : PySem.W.kitOne K (.ref C_BadWeb) (.ref C_BadWeb) = some true
  ki_BadWeb_NoHand : PySem.W.kitOne K (.ref C_BadWeb) (.ref C_NoHand) = some false
  ki_BadWeb_NoLetter : PySem.W.kitOne K (.ref C_BadWeb) (.ref C_NoLetter) = some false
  ki_BadWeb_NoRoad : PySem.W.kitOne K (.ref C_BadWeb) (.ref C_NoRoad) = some false
  ki_BadWeb_ValueError : PySem.W.kitOne K (.ref C_BadWeb) (.type "ValueError") = some true
  cl_Web : Cls K C_Web
  mk_Web : Mk K C_Web a_Web___init__
  m_Web_hands : Meth K C_Web "hands" a_Web_hands
  m_Web_roads : Meth K C_Web "roads" a_Web_roads
  na_Web__hands : NoAttr K C_Web "_hands"
  na_Web__roads : NoAttr K C_Web "_roads"
  nb_ValueError : mg "ValueError" = none
  nb_bool : mg "bool" = none
  nb_dict : mg "dict" = none
  nb_enumerate : mg "enumerate" = none
  nb_int : mg "int" = none
  nb_isinstance : mg "isinstance" = none
  nb_len : mg "len" = none
  nb_list : mg "list" = none
  nb_min : mg "min" = none
  nb_range : mg "range" = none
  nb_sorted : mg "sorted" = none
  nb_str : mg "str" = none
  nb_tuple : mg "tuple" = none
  g_MOST_HANDS : ∃ t, mg "MOST_HANDS" = some (.int 8 t)
  g_MOST_ROADS : ∃ t, mg "MOST_ROADS" = some (.int 20 t)
  g_MOST_COST : ∃ t, mg "MOST_COST" = some (.int 99 t)
end LT
namespace LT
open PySem L2
section
variable {P : Program} {w : World} {K : PySem.W.Frag} {mg : Str → Option Value} {base : Heap}
def spDice (K : PySem.W.Frag) : Sp := fun vs H Q _ => ∃ (a : Addr) (ns : List Int), vs = [.ref a] ∧ Scr K H a ns ∧ ns.length ≤ 63 ∧
  ∀ (H' : Hp) (d : Addr), H d = none → Dice K H' d → Fr [] H H' → Q (.ref d) H'
theorem ok_law_dice (T : Txt K mg) : FnOk P w K mg base CX0 1 T.a__law_dice T.d__law_dice ["_law_script"] (spDice K) := by
  refine T.F__law_dice.ok sc__law_dice (fun vs H Q E h => ?_) (fun cdv A outer s H vs Q E hr h => ?_)
  · obtain ⟨a, ns, rfl, _⟩ := h
    rfl
  · obtain ⟨a, ns, rfl, hS, hl, k⟩ := h
    refine ⟨_, (pss_cons (ps_set (i := 1) sc__law_dice.nd rfl (Or.inl rfl) pe_int)
 (pss_cons (ps_for PassesOwn.never rfl (pi_list (pv 0)) (pg_name (i := 2) sc__law_dice.nd rfl (Or.inl rfl))
  (pss_one (ps_set (i := 1) sc__law_dice.nd rfl (Or.inl rfl) (pe_op op_mod (pe_op op_add (pe_op op_add (pe_op op_mul (pv 1) pe_int) (pe_op op_mul (pe_op op_mod (pv 2) pe_int) pe_int)) pe_int) pe_int))))
 (pss_one (ps_ret (pe_lst (pa_cons (pv 0) (pa_cons pe_int (pa_cons (pe_op op_mul (pv 1) (pe_callTy call_int1 (by rfl) T.nb_int (by decide +kernel) (pa_cons (pe_cmpR op_gt (pe_callB call_len_seq (by rfl) T.nb_len (by decide +kernel) (pa_cons (pv 0) pa_nil)) pe_int (nomark _)) pa_nil))) (pa_cons pe_int pa_nil))))))))), ?_⟩
    refine ⟨_, rfl, a, rfl, ⟨_, hS.sq⟩, for_list (K := K) (a := a) (xs := ns.map V.int) (fun i σ H' => H' = H ∧ ∃ (m : Int) (v : Option V), σ = [some (.ref a), some (.int m), v] ∧ 0 ≤ m ∧ m < 2147483647)
      ⟨rfl, 0, none, rfl, by decide, by decide⟩ (fun i σ H' _ hh => by rw [hh.1]; exact hS.sq) ?_ ?_⟩
    · rintro i x σ H' hx ⟨rfl, m, v, rfl, m0, m1⟩
      obtain ⟨u, rfl⟩ : ∃ u, x = V.int u := by
        rw [List.getElem?_map] at hx
        cases e : ns[i]? with
        | none => rw [e] at hx; cases hx
        | some u => rw [e] at hx; exact ⟨u, (Option.some.inj hx).symm⟩
      have p : (0 : Int) < 2147483647 := by decide
      have q0 := Int.emod_nonneg u (show (2147483647 : Int) ≠ 0 by decide)
      have q1 := Int.emod_lt_of_pos u p
      refine ⟨_, rfl, _, _, rfl, rfl, .inl ⟨by omega, by omega⟩, _, rfl, _, _, rfl, rfl, p, _, _, rfl, rfl, .inl ⟨by omega, by omega⟩, _, _, rfl, rfl, _, _, rfl, rfl, _, _, rfl, rfl, p, ?_⟩
      exact ⟨rfl, _, _, rfl, Int.emod_nonneg _ (by decide), Int.emod_lt_of_pos _ p⟩
    · rintro σ H' ⟨rfl, m, v, rfl, m0, m1⟩
      refine ⟨_, rfl, _, rfl, _, rfl, a, _, rfl, .inl hS.sq, _, _, rfl, rfl, .inr ⟨_, rfl, _, _, rfl, rfl, .inl ⟨by omega, by omega⟩, ?_⟩⟩
      refine ⟨by show 4 ≤ sizeLine; decide, fun p np => ?_⟩
      refine k _ p np ⟨a, ns, _, _, _, hS.fr (Fr.new np : Fr [] _ _), hl, Int.le_refl 0, ?_, ?_, Int.le_refl 0, upd_same⟩ (Fr.new np)
      · split <;> omega
      · split <;> omega
def spNext (K : PySem.W.Frag) : Sp := fun vs H Q _ => ∃ (d : Addr) (n : Int), vs = [.ref d, .int n] ∧ 0 < n ∧ n < 1073741824 ∧ Dice K H d ∧
  ∀ (H' : Hp) (r : Int), 0 ≤ r → r < n → Dice K H' d → Fr [d] H H' → Q (.int r) H'
theorem ok_law_next (T : Txt K mg) : FnOk P w K mg base CX0 1 T.a__law_next T.d__law_next ["_law_dice_here", "_law_many"] (spNext K) := by
  refine T.F__law_next.ok sc__law_next (fun vs H Q E h => ?_) (fun cdv A outer s H vs Q E hr h => ?_)
  · obtain ⟨d, n, rfl, _⟩ := h
    rfl
  · obtain ⟨d, n, rfl, n0, n1, ⟨sc, ns, i, m, r, hS, hl, i0, m0, m1, r0, hd⟩, k⟩ := h
    refine ⟨_, (pss_cons (ps_if (pt_cmpR op_gt (pe_ix ix_list (pv 0) pe_int (fun _ _ => rfl)) pe_int (nomark _)) (pss_cons (ps_set (i := 2) sc__law_next.nd rfl (Or.inl rfl) (pe_op op_mod (pe_ix ix_list (pv 0) pe_int (fun _ _ => rfl)) (pv 1)))
 (pss_cons (ps_asg (pe_op op_fdiv (pe_ix ix_list (pv 0) pe_int (fun _ _ => rfl)) (pv 1)) (pg_sub (pv 0) pe_int set_list))
 (pss_one (ps_ret (pv 2))))) pss_nil)
 (pss_cons (ps_asg (pe_op op_add (pe_ix ix_list (pv 0) pe_int (fun _ _ => rfl)) pe_int) (pg_sub (pv 0) pe_int set_list))
 (pss_cons (ps_if (pt_cmpR op_le (pe_ix ix_list (pv 0) pe_int (fun _ _ => rfl)) (pe_callB call_len_seq (by rfl) T.nb_len (by decide +kernel) (pa_cons (pe_ix ix_list (pv 0) pe_int (fun _ _ => rfl)) pa_nil)) (nomark _)) (pss_cons (ps_set (i := 3) sc__law_next.nd rfl (Or.inl rfl) (pe_ix ix_list (pe_ix ix_list (pv 0) pe_int (fun _ _ => rfl)) (pe_op op_sub (pe_ix ix_list (pv 0) pe_int (fun _ _ => rfl)) pe_int) (fun _ _ => rfl)))
 (pss_cons (ps_asg (pe_ifExp (pt_cmpR op_ge (pv 3) (pe_op op_pow pe_int pe_int) (nomark _)) (pe_op op_fdiv (pv 3) (pv 1)) pe_int) (pg_sub (pv 0) pe_int set_list))
 (pss_one (ps_ret (pe_op op_mod (pv 3) (pv 1)))))) pss_nil)
 (pss_cons (ps_asg (pe_op op_mod (pe_op op_mul (pe_ix ix_list (pv 0) pe_int (fun _ _ => rfl)) pe_int) pe_int) (pg_sub (pv 0) pe_int set_list))
 (pss_one (ps_ret (pe_op op_mod (pe_op op_fdiv (pe_ix ix_list (pv 0) pe_int (fun _ _ => rfl)) pe_int) (pv 1)))))))), ?_⟩
    have p7 : (0 : Int) < 2147483647 := by decide
    refine ⟨_, rfl, d, _, _, _, rfl, rfl, SqL.of hd, rfl, _, _, rfl, rfl, _, rfl, ite2 (fun c => ?_) (fun c => ?_)⟩
    · have c1 : (0 : Int) < r := of_decide_eq_true c
      refine ⟨_, rfl, d, _, _, _, rfl, rfl, SqL.of hd, rfl, _, rfl, _, _, rfl, rfl, n0, ?_⟩
      refine ⟨_, rfl, d, _, _, _, rfl, rfl, SqL.of hd, rfl, _, rfl, _, _, rfl, rfl, ⟨n0, n1⟩, _, rfl, d, _, _, 3, rfl, rfl, hd, rfl, ?_⟩
      refine ⟨_, rfl, ?_⟩
      have f : Fr [d] H (upd H d (.lst [.ref sc, .int i, .int m, .int (r / n)])) := Fr.lst hd (by simp)
      exact k _ _ (Int.emod_nonneg _ (by omega)) (Int.emod_lt_of_pos _ n0) ⟨sc, ns, i, m, r / n, hS.fr f, hl, i0, m0, m1, Int.ediv_nonneg r0 (by omega), upd_same⟩ f
    · refine ⟨_, rfl, d, _, _, _, rfl, rfl, SqL.of hd, rfl, _, _, rfl, rfl, _, rfl, d, _, _, 1, rfl, rfl, hd, rfl, ?_⟩
      have f1 : Fr [d] H (upd H d (.lst [.ref sc, .int (i + 1), .int m, .int r])) := Fr.lst hd (by simp)
      have hS1 := hS.fr f1
      refine ⟨_, rfl, d, _, _, _, rfl, rfl, SqL.of upd_same, rfl, _, rfl, d, _, _, _, rfl, rfl, SqL.of upd_same, rfl, sc, _, rfl, .inl hS1.sq, _, _, rfl, rfl, _, rfl, ite2 (fun c1 => ?_) (fun c1 => ?_)⟩
      · have c2 : i + 1 ≤ ((ns.map V.int).length : Nat) := of_decide_eq_true c1
        rw [List.length_map] at c2
        have hj : i.toNat < ns.length := by omega
        have ej : (ns.map V.int)[i.toNat]? = some (.int ns[i.toNat]) := by
          rw [List.getElem?_map, List.getElem?_eq_getElem hj]
          rfl
        have e1 : i + 1 - 1 = ((i.toNat : Nat) : Int) := by omega
        refine ⟨_, rfl, d, _, _, _, rfl, rfl, SqL.of upd_same, rfl, _, rfl, d, _, _, _, rfl, rfl, SqL.of upd_same, rfl, _, _, rfl, rfl, sc, _, _, .int ns[i.toNat], rfl, rfl, hS1.sq, at_of e1 ej, ?_⟩
        refine ⟨_, rfl, _, _, rfl, rfl, ⟨by decide, by decide, by decide⟩, _, _, rfl, rfl, _, rfl, ite2 (fun c3 => ?_) (fun c3 => ?_)⟩
        · have c4 : (10 : Int) ^ (18 : Int).toNat ≤ ns[i.toNat] := of_decide_eq_true c3
          have c5 : (0 : Int) ≤ ns[i.toNat] := Int.le_trans (by decide) c4
          refine ⟨_, rfl, _, rfl, _, _, rfl, rfl, ⟨n0, n1⟩, _, rfl, d, _, _, 3, rfl, rfl, upd_same, rfl, ?_⟩
          refine ⟨_, rfl, _, rfl, _, _, rfl, rfl, n0, ?_⟩
          have f2 : Fr [d] H (upd (upd H d (.lst [.ref sc, .int (i + 1), .int m, .int r])) d (.lst [.ref sc, .int (i + 1), .int m, .int (ns[i.toNat] / n)])) := f1.trans (Fr.lst upd_same (by simp))
          exact k _ _ (Int.emod_nonneg _ (by omega)) (Int.emod_lt_of_pos _ n0) ⟨sc, ns, i + 1, m, ns[i.toNat] / n, hS.fr f2, hl, by omega, m0, m1, Int.ediv_nonneg c5 (by omega), upd_same⟩ f2
        · refine ⟨_, rfl, d, _, _, 3, rfl, rfl, upd_same, rfl, ?_⟩
          refine ⟨_, rfl, _, rfl, _, _, rfl, rfl, n0, ?_⟩
          have f2 : Fr [d] H (upd (upd H d (.lst [.ref sc, .int (i + 1), .int m, .int r])) d (.lst [.ref sc, .int (i + 1), .int m, .int 0])) := f1.trans (Fr.lst upd_same (by simp))
          exact k _ _ (Int.emod_nonneg _ (by omega)) (Int.emod_lt_of_pos _ n0) ⟨sc, ns, i + 1, m, 0, hS.fr f2, hl, by omega, m0, m1, Int.le_refl 0, upd_same⟩ f2
      · refine ⟨_, rfl, d, _, _, _, rfl, rfl, SqL.of upd_same, rfl, _, _, rfl, rfl, .inl ⟨by omega, by omega⟩, _, _, rfl, rfl, p7, _, rfl, d, _, _, 2, rfl, rfl, upd_same, rfl, ?_⟩
        have f2 : Fr [d] H (upd (upd H d (.lst [.ref sc, .int (i + 1), .int m, .int r])) d (.lst [.ref sc, .int (i + 1), .int (m * 48271 % 2147483647), .int r])) := f1.trans (Fr.lst upd_same (by simp))
        refine ⟨_, rfl, d, _, _, _, rfl, rfl, SqL.of upd_same, rfl, _, _, rfl, rfl, ⟨by decide, by decide⟩, _, rfl, _, _, rfl, rfl, n0, ?_⟩
        exact k _ _ (Int.emod_nonneg _ (by omega)) (Int.emod_lt_of_pos _ n0) ⟨sc, ns, i + 1, _, r, hS.fr f2, hl, by omega, Int.emod_nonneg _ (by decide), Int.emod_lt_of_pos _ p7, r0, upd_same⟩ f2
end
end LT
namespace LT
open PySem L2
/-- two values alike, at most n deep -/
def Lk (H : Hp) : Nat → V → V → Prop
  | 0, _, _ => False
  | n + 1, x, y => ((∃ b, x = .bl b) ∨ (∃ s, x = .str s) ∨ (∃ i, x = .int i) ∨ x = .non) ∧ x = y ∨
      ∃ (a b : Addr) (xs ys : List V), x = .ref a ∧ y = .ref b ∧ ((H a = some (.lst xs) ∧ H b = some (.lst ys)) ∨ (H a = some (.tup xs) ∧ H b = some (.tup ys))) ∧
        xs.length = ys.length ∧ xs.length ≤ 1000 ∧ ∀ (i : Nat) (u v : V), xs[i]? = some u → ys[i]? = some v → Lk H n u v
theorem Lk.int {H : Hp} {n : Nat} (i : Int) : Lk H (n + 1) (.int i) (.int i) := .inl ⟨.inr (.inr (.inl ⟨i, rfl⟩)), rfl⟩
theorem Lk.str {H : Hp} {n : Nat} (i : Str) : Lk H (n + 1) (.str i) (.str i) := .inl ⟨.inr (.inl ⟨i, rfl⟩), rfl⟩
theorem Lk.non {H : Hp} {n : Nat} : Lk H (n + 1) .non .non := .inl ⟨.inr (.inr (.inr rfl)), rfl⟩
theorem Lk.bl {H : Hp} {n : Nat} (b : Bool) : Lk H (n + 1) (.bl b) (.bl b) := .inl ⟨.inl ⟨b, rfl⟩, rfl⟩
theorem Lk.ints {H : Hp} {n : Nat} {a b : Addr} {l : List Int} (ha : H a = some (.lst (l.map V.int)) ∧ H b = some (.lst (l.map V.int)) ∨ H a = some (.tup (l.map V.int)) ∧ H b = some (.tup (l.map V.int))) (hl : l.length ≤ 1000) : Lk H (n + 2) (.ref a) (.ref b) := by
  refine .inr ⟨a, b, _, _, rfl, rfl, ha, rfl, by rw [List.length_map]; exact hl, fun i u v hu hv => ?_⟩
  rw [hu] at hv
  cases hv
  obtain ⟨x, _, rfl⟩ := ints_get hu
  exact Lk.int x
theorem Lk.rows {H : Hp} {n : Nat} {a b : Addr} {us ts : List Addr} {α : Type} {r : α → List Int} {rs : List α} (ha : H a = some (.lst (us.map V.ref))) (hb : H b = some (.lst (ts.map V.ref))) (tu : Tup (fun x => (r x).map V.int) H us rs)
    (tt : Tup (fun x => (r x).map V.int) H ts rs) (hl : rs.length ≤ 1000) (hr : ∀ x, (r x).length ≤ 1000) : Lk H (n + 3) (.ref a) (.ref b) := by
  refine .inr ⟨a, b, _, _, rfl, rfl, .inl ⟨ha, hb⟩, ?_, ?_, fun i u v hu hv => ?_⟩
  · rw [List.length_map, List.length_map, tu.length, tt.length]
  · rw [List.length_map, tu.length]
    exact hl
  · obtain ⟨t1, h1, rfl⟩ := refs_get hu
    obtain ⟨t2, h2, rfl⟩ := refs_get hv
    obtain ⟨x, hx, e1⟩ := pgetL tu h1
    obtain ⟨y, hy, e2⟩ := pgetL tt h2
    rw [hx] at hy
    cases hy
    exact Lk.ints (.inr ⟨e1, e2⟩) (hr x)
section
variable {P : Program} {w : World} {K : PySem.W.Frag} {mg : Str → Option Value} {base : Heap}
def spLike (n : Nat) : Sp := fun vs H Q _ => ∃ x y : V, vs = [x, y] ∧ Lk H n x y ∧ Q (.bl true) H
theorem kt (a b : String) (r : Bool) (h : kitB a b = some r) : PySem.W.kitOne K (.type a) (.type b) = some r := kit_ty h
theorem ok_law_like (T : Txt K mg) : ∀ n, FnOk P w K mg base CX0 (n + 1) T.a__law_like T.d__law_like ["_law_found", "_law_due"] (spLike n)
  | 0 => by
    refine T.F__law_like.ok sc__law_like (fun vs H Q E h => ?_) (fun cdv A outer s H vs Q E hr h => ?_)
    · obtain ⟨x, y, rfl, _⟩ := h
      rfl
    · obtain ⟨x, y, rfl, l, _⟩ := h
      exact l.elim
  | n + 1 => by
    have G__law_like := ok_law_like T n
    refine T.F__law_like.ok sc__law_like (fun vs H Q E h => ?_) (fun cdv A outer s H vs Q E hr h => ?_)
    · obtain ⟨x, y, rfl, _⟩ := h
      rfl
    · obtain ⟨x, y, rfl, l, k⟩ := h
      refine ⟨_, (pss_cons (ps_if (pt_val (pe_callB call_isi (by rfl) T.nb_isinstance (by decide +kernel) (pa_cons (pv 1) (pa_cons (pe_bltn (v := .ty "bool") (u := .type "bool") (by rfl) T.nb_bool (by decide +kernel) rfl) pa_nil)))) (pss_one (ps_ret (pe_and (pe_callB call_isi (by rfl) T.nb_isinstance (by decide +kernel) (pa_cons (pv 0) (pa_cons (pe_bltn (v := .ty "bool") (u := .type "bool") (by rfl) T.nb_bool (by decide +kernel) rfl) pa_nil))) (pe_one (pe_cmpR op_eq (pv 0) (pv 1) (nomark _)))))) pss_nil)
 (pss_cons (ps_if (pt_val (pe_callB call_isi (by rfl) T.nb_isinstance (by decide +kernel) (pa_cons (pv 1) (pa_cons (pe_bltn (v := .ty "str") (u := .type "str") (by rfl) T.nb_str (by decide +kernel) rfl) pa_nil)))) (pss_one (ps_ret (pe_and (pe_callB call_isi (by rfl) T.nb_isinstance (by decide +kernel) (pa_cons (pv 0) (pa_cons (pe_bltn (v := .ty "str") (u := .type "str") (by rfl) T.nb_str (by decide +kernel) rfl) pa_nil))) (pe_one (pe_cmpR op_eq (pv 0) (pv 1) (nomark _)))))) pss_nil)
 (pss_cons (ps_if (pt_val (pe_callB call_isi (by rfl) T.nb_isinstance (by decide +kernel) (pa_cons (pv 1) (pa_cons (pe_bltn (v := .ty "int") (u := .type "int") (by rfl) T.nb_int (by decide +kernel) rfl) pa_nil)))) (pss_one (ps_ret (pe_and (pe_callB call_isi (by rfl) T.nb_isinstance (by decide +kernel) (pa_cons (pv 0) (pa_cons (pe_bltn (v := .ty "int") (u := .type "int") (by rfl) T.nb_int (by decide +kernel) rfl) pa_nil))) (pe_and (pe_not (pe_callB call_isi (by rfl) T.nb_isinstance (by decide +kernel) (pa_cons (pv 0) (pa_cons (pe_bltn (v := .ty "bool") (u := .type "bool") (by rfl) T.nb_bool (by decide +kernel) rfl) pa_nil)))) (pe_one (pe_cmpR op_eq (pv 0) (pv 1) (nomark _))))))) pss_nil)
 (pss_cons (ps_if (pt_cmpR op_isN (pv 1) pe_non (nomark _)) (pss_one (ps_ret (pe_cmpR op_isN (pv 0) pe_non (nomark _)))) pss_nil)
 (pss_cons (ps_if (pt_val (pe_callB call_isi (by rfl) T.nb_isinstance (by decide +kernel) (pa_cons (pv 1) (pa_cons (pe_bltn (v := .ty "dict") (u := .type "dict") (by rfl) T.nb_dict (by decide +kernel) rfl) pa_nil)))) pss_never pss_nil)
 (pss_cons (ps_if (PW.pt (pw_or (pt_cmpR op_ne (pe_callB call_isi (by rfl) T.nb_isinstance (by decide +kernel) (pa_cons (pv 1) (pa_cons (pe_bltn (v := .ty "tuple") (u := .type "tuple") (by rfl) T.nb_tuple (by decide +kernel) rfl) pa_nil))) (pe_callB call_isi (by rfl) T.nb_isinstance (by decide +kernel) (pa_cons (pv 0) (pa_cons (pe_bltn (v := .ty "tuple") (u := .type "tuple") (by rfl) T.nb_tuple (by decide +kernel) rfl) pa_nil))) (nomark _)) (pw_or1 (pt_cmpR op_ne (pe_callB call_isi (by rfl) T.nb_isinstance (by decide +kernel) (pa_cons (pv 1) (pa_cons (pe_bltn (v := .ty "list") (u := .type "list") (by rfl) T.nb_list (by decide +kernel) rfl) pa_nil))) (pe_callB call_isi (by rfl) T.nb_isinstance (by decide +kernel) (pa_cons (pv 0) (pa_cons (pe_bltn (v := .ty "list") (u := .type "list") (by rfl) T.nb_list (by decide +kernel) rfl) pa_nil))) (nomark _))))) (pss_one (ps_ret pe_bl)) pss_nil)
 (pss_cons (ps_if (pt_cmpR op_ne (pe_callB call_len_seq (by rfl) T.nb_len (by decide +kernel) (pa_cons (pv 0) pa_nil)) (pe_callB call_len_seq (by rfl) T.nb_len (by decide +kernel) (pa_cons (pv 1) pa_nil)) (nomark _)) (pss_one (ps_ret pe_bl)) pss_nil)
 (pss_cons (ps_for PassesOwn.never rfl (pi_range1 (by rfl) T.nb_range (pa_cons (pe_callB call_len_seq (by rfl) T.nb_len (by decide +kernel) (pa_cons (pv 1) pa_nil)) pa_nil)) (pg_name (i := 3) sc__law_like.nd rfl (Or.inl rfl))
  (pss_one (ps_if (pt_not (pt_val (pe_call G__law_like (hr.mono (Nat.le_refl _)) rfl T.g__law_like T.F__law_like.kp T.b__law_like .nil pass0 (pa_cons (pe_ix ix_seq (pv 0) (pv 3) (fun _ _ => rfl)) (pa_cons (pe_ix ix_seq (pv 1) (pv 3) (fun _ _ => rfl)) pa_nil))))) (pss_one (ps_ret pe_bl)) pss_nil)))
 (pss_one (ps_ret pe_bl)))))))))), ?_⟩
      rcases l with ⟨⟨b, rfl⟩ | ⟨z, rfl⟩ | ⟨i, rfl⟩ | rfl, rfl⟩ | ⟨a, b, xs, ys, rfl, rfl, hab, hl, hz, hrec⟩
      · refine ⟨_, rfl, _, _, _, _, true, rfl, .ty _, .base (.bl b), kt _ _ _ (by decide +kernel), true, rfl, iteT ?_⟩
        refine ⟨_, rfl, _, _, _, _, true, rfl, .ty _, .base (.bl b), kt _ _ _ (by decide +kernel), true, rfl, iteT ?_⟩
        refine ⟨_, rfl, _, rfl, rfl, ?_⟩
        show Q (.bl (decide (V.bl b = V.bl b))) H
        rw [decide_eq_true rfl]
        exact k
      · refine ⟨_, rfl, _, _, _, _, false, rfl, .ty _, .base (.str z), kt _ _ _ (by decide +kernel), false, rfl, iteF ?_⟩
        refine ⟨_, rfl, _, _, _, _, true, rfl, .ty _, .base (.str z), kt _ _ _ (by decide +kernel), true, rfl, iteT ?_⟩
        refine ⟨_, rfl, _, _, _, _, true, rfl, .ty _, .base (.str z), kt _ _ _ (by decide +kernel), true, rfl, iteT ?_⟩
        refine ⟨_, rfl, _, rfl, rfl, ?_⟩
        show Q (.bl (decide (V.str z = V.str z))) H
        rw [decide_eq_true rfl]
        exact k
      · refine ⟨_, rfl, _, _, _, _, false, rfl, .ty _, .base (.int i), kt _ _ _ (by decide +kernel), false, rfl, iteF ?_⟩
        refine ⟨_, rfl, _, _, _, _, false, rfl, .ty _, .base (.int i), kt _ _ _ (by decide +kernel), false, rfl, iteF ?_⟩
        refine ⟨_, rfl, _, _, _, _, true, rfl, .ty _, .base (.int i), kt _ _ _ (by decide +kernel), true, rfl, iteT ?_⟩
        refine ⟨_, rfl, _, _, _, _, true, rfl, .ty _, .base (.int i), kt _ _ _ (by decide +kernel), true, rfl, iteT ?_⟩
        refine ⟨_, rfl, _, _, _, _, false, rfl, .ty _, .base (.int i), kt _ _ _ (by decide +kernel), false, rfl, true, rfl, iteT ?_⟩
        refine ⟨_, rfl, _, rfl, rfl, ?_⟩
        show Q (.bl (decide (V.int i = V.int i))) H
        rw [decide_eq_true rfl]
        exact k
      · refine ⟨_, rfl, _, _, _, _, false, rfl, .ty _, .base .non, kt _ _ _ (by decide +kernel), false, rfl, iteF ?_⟩
        refine ⟨_, rfl, _, _, _, _, false, rfl, .ty _, .base .non, kt _ _ _ (by decide +kernel), false, rfl, iteF ?_⟩
        refine ⟨_, rfl, _, _, _, _, false, rfl, .ty _, .base .non, kt _ _ _ (by decide +kernel), false, rfl, iteF ?_⟩
        refine ⟨_, rfl, rfl, _, rfl, iteT ?_⟩
        exact ⟨_, rfl, rfl, k⟩
      · have both : ∃ nm : String, (nm = "list" ∨ nm = "tuple") ∧ TyX K H (.ref a) (.type nm) ∧ TyX K H (.ref b) (.type nm) ∧ (SqL K H a xs ∨ SqT K H a xs) ∧ (SqL K H b ys ∨ SqT K H b ys) := by
          rcases hab with ⟨h1, h2⟩ | ⟨h1, h2⟩
          · exact ⟨_, .inl rfl, .base (.lst h1), .base (.lst h2), .inl (SqL.of h1), .inl (SqL.of h2)⟩
          · exact ⟨_, .inr rfl, .base (.tup h1), .base (.tup h2), .inr (SqT.of h1), .inr (SqT.of h2)⟩
        obtain ⟨nm, hnm, ta, tb, sa, sb⟩ := both
        have kb : PySem.W.kitOne K (.type nm) (.type "bool") = some false := by rcases hnm with rfl | rfl <;> exact kt _ _ _ (by decide +kernel)
        have ks : PySem.W.kitOne K (.type nm) (.type "str") = some false := by rcases hnm with rfl | rfl <;> exact kt _ _ _ (by decide +kernel)
        have ki : PySem.W.kitOne K (.type nm) (.type "int") = some false := by rcases hnm with rfl | rfl <;> exact kt _ _ _ (by decide +kernel)
        have kd : PySem.W.kitOne K (.type nm) (.type "dict") = some false := by rcases hnm with rfl | rfl <;> exact kt _ _ _ (by decide +kernel)
        have kT : ∃ c, PySem.W.kitOne K (.type nm) (.type "tuple") = some c := by
          rcases hnm with rfl | rfl
          · exact ⟨false, kt _ _ _ (by decide +kernel)⟩
          · exact ⟨true, kt _ _ _ (by decide +kernel)⟩
        have kL : ∃ c, PySem.W.kitOne K (.type nm) (.type "list") = some c := by
          rcases hnm with rfl | rfl
          · exact ⟨true, kt _ _ _ (by decide +kernel)⟩
          · exact ⟨false, kt _ _ _ (by decide +kernel)⟩
        obtain ⟨ct, kT⟩ := kT
        obtain ⟨cl, kL⟩ := kL
        refine ⟨_, rfl, _, _, _, _, false, rfl, .ty _, tb, kb, false, rfl, iteF ?_⟩
        refine ⟨_, rfl, _, _, _, _, false, rfl, .ty _, tb, ks, false, rfl, iteF ?_⟩
        refine ⟨_, rfl, _, _, _, _, false, rfl, .ty _, tb, ki, false, rfl, iteF ?_⟩
        refine ⟨_, rfl, rfl, _, rfl, iteF ?_⟩
        refine ⟨_, rfl, _, _, _, _, false, rfl, .ty _, tb, kd, false, rfl, iteF ?_⟩
        refine ⟨_, rfl, _, _, _, _, ct, rfl, .ty _, tb, kT, _, rfl, _, _, _, _, ct, rfl, .ty _, ta, kT, rfl, false, by rw [decide_eq_true rfl]; rfl, iteF ?_⟩
        refine ⟨_, rfl, _, _, _, _, cl, rfl, .ty _, tb, kL, _, rfl, _, _, _, _, cl, rfl, .ty _, ta, kL, rfl, false, by rw [decide_eq_true rfl]; rfl, iteF ?_⟩
        refine ⟨_, rfl, a, _, rfl, sa, _, rfl, b, _, rfl, sb, rfl, false, by rw [decide_eq_true (by rw [hl])]; rfl, iteF ?_⟩
        refine ⟨_, rfl, b, _, rfl, sb, _, rfl, by omega, by omega, ?_⟩
        refine for_range (lo := 0) (n := ys.length) (fun i σ H' => H' = H ∧ ∃ u v, σ = [some (.ref a), some (.ref b), u, v]) ⟨rfl, _, _, rfl⟩ ?_ ?_
        · rintro i σ H' hi ⟨rfl, u, v, rfl⟩
          have hx : xs[i]? = some xs[i] := List.getElem?_eq_getElem (by omega)
          have hy : ys[i]? = some ys[i] := List.getElem?_eq_getElem hi
          have e0 : (0 : Int) + (i : Nat) = (i : Nat) := by omega
          rw [e0]
          have ix : ∀ {c : Addr} {zs : List V} {v : V} {Q' : VK}, (SqL K H' c zs ∨ SqT K H' c zs) → zs[i]? = some v → Q' v H' → rIx K (.ref c) (.int (i : Nat)) H' Q' := by
            intro c zs v Q' hs hv q
            rcases hs with hs | hs
            · exact .inl ⟨_, _, _, _, rfl, rfl, hs, atI_nat hv, q⟩
            · exact .inr (.inl ⟨_, _, _, _, rfl, rfl, hs, atI_nat hv, q⟩)
          refine ⟨_, rfl, _, rfl, ix sa hx ?_⟩
          refine ⟨_, rfl, _, rfl, ix sb hy ?_⟩
          refine ⟨_, _, rfl, hrec i _ _ hx hy, true, rfl, iteF ?_⟩
          exact ⟨rfl, _, _, rfl⟩
        · rintro σ H' ⟨rfl, u, v, rfl⟩
          exact k
end
end LT
namespace LT
open PySem L2 L2H
section
variable {P : Program} {w : World} {K : PySem.W.Frag} {mg : Str → Option Value} {base : Heap}
theorem ok_law_likeH (T : Txt K mg) : ∀ n, FnH P w K mg base CX0 (n + 1) T.a__law_like T.d__law_like ["_law_found", "_law_due"] (spLike n)
  | 0 => by
    refine okH T.F__law_like sc__law_like (fun vs H Q E h => ?_) (fun cdv A outer s H vs Q E px hot hr h => ?_)
    · obtain ⟨x, y, rfl, _⟩ := h
      rfl
    · obtain ⟨x, y, rfl, l, _⟩ := h
      exact l.elim
  | n + 1 => by
    have GH__law_like := ok_law_likeH T n
    refine okH T.F__law_like sc__law_like (fun vs H Q E h => ?_) (fun cdv A outer s H vs Q E px hot hr h => ?_)
    · obtain ⟨x, y, rfl, _⟩ := h
      rfl
    · obtain ⟨x, y, rfl, l, k⟩ := h
      have hc : HotC (cxH CX0 P w K mg base ["_law_found", "_law_due", "_law_key", "_law_k"] "_law_like" (defScope s__law_like) T.a__law_like cdv A outer s H E px) := ⟨px, hot, List.mem_singleton.mpr rfl⟩
      refine ⟨_, (pss_cons (ps_if (pt_val (pe_callB call_isi (by rfl) T.nb_isinstance (by decide +kernel) (pa_cons (pv 1) (pa_cons (pe_bltn (v := .ty "bool") (u := .type "bool") (by rfl) T.nb_bool (by decide +kernel) rfl) pa_nil)))) (pss_one (ps_ret (pe_and (pe_callB call_isi (by rfl) T.nb_isinstance (by decide +kernel) (pa_cons (pv 0) (pa_cons (pe_bltn (v := .ty "bool") (u := .type "bool") (by rfl) T.nb_bool (by decide +kernel) rfl) pa_nil))) (pe_one (pe_cmpR op_eq (pv 0) (pv 1) (nomark _)))))) pss_nil)
 (pss_cons (ps_if (pt_val (pe_callB call_isi (by rfl) T.nb_isinstance (by decide +kernel) (pa_cons (pv 1) (pa_cons (pe_bltn (v := .ty "str") (u := .type "str") (by rfl) T.nb_str (by decide +kernel) rfl) pa_nil)))) (pss_one (ps_ret (pe_and (pe_callB call_isi (by rfl) T.nb_isinstance (by decide +kernel) (pa_cons (pv 0) (pa_cons (pe_bltn (v := .ty "str") (u := .type "str") (by rfl) T.nb_str (by decide +kernel) rfl) pa_nil))) (pe_one (pe_cmpR op_eq (pv 0) (pv 1) (nomark _)))))) pss_nil)
 (pss_cons (ps_if (pt_val (pe_callB call_isi (by rfl) T.nb_isinstance (by decide +kernel) (pa_cons (pv 1) (pa_cons (pe_bltn (v := .ty "int") (u := .type "int") (by rfl) T.nb_int (by decide +kernel) rfl) pa_nil)))) (pss_one (ps_ret (pe_and (pe_callB call_isi (by rfl) T.nb_isinstance (by decide +kernel) (pa_cons (pv 0) (pa_cons (pe_bltn (v := .ty "int") (u := .type "int") (by rfl) T.nb_int (by decide +kernel) rfl) pa_nil))) (pe_and (pe_not (pe_callB call_isi (by rfl) T.nb_isinstance (by decide +kernel) (pa_cons (pv 0) (pa_cons (pe_bltn (v := .ty "bool") (u := .type "bool") (by rfl) T.nb_bool (by decide +kernel) rfl) pa_nil)))) (pe_one (pe_cmpR op_eq (pv 0) (pv 1) (nomark _))))))) pss_nil)
 (pss_cons (ps_if (pt_cmpR op_isN (pv 1) pe_non (nomark _)) (pss_one (ps_ret (pe_cmpR op_isN (pv 0) pe_non (nomark _)))) pss_nil)
 (pss_cons (ps_if (pt_val (pe_callB call_isi (by rfl) T.nb_isinstance (by decide +kernel) (pa_cons (pv 1) (pa_cons (pe_bltn (v := .ty "dict") (u := .type "dict") (by rfl) T.nb_dict (by decide +kernel) rfl) pa_nil)))) pss_never pss_nil)
 (pss_cons (ps_if (PW.pt (pw_or (pt_cmpR op_ne (pe_callB call_isi (by rfl) T.nb_isinstance (by decide +kernel) (pa_cons (pv 1) (pa_cons (pe_bltn (v := .ty "tuple") (u := .type "tuple") (by rfl) T.nb_tuple (by decide +kernel) rfl) pa_nil))) (pe_callB call_isi (by rfl) T.nb_isinstance (by decide +kernel) (pa_cons (pv 0) (pa_cons (pe_bltn (v := .ty "tuple") (u := .type "tuple") (by rfl) T.nb_tuple (by decide +kernel) rfl) pa_nil))) (nomark _)) (pw_or1 (pt_cmpR op_ne (pe_callB call_isi (by rfl) T.nb_isinstance (by decide +kernel) (pa_cons (pv 1) (pa_cons (pe_bltn (v := .ty "list") (u := .type "list") (by rfl) T.nb_list (by decide +kernel) rfl) pa_nil))) (pe_callB call_isi (by rfl) T.nb_isinstance (by decide +kernel) (pa_cons (pv 0) (pa_cons (pe_bltn (v := .ty "list") (u := .type "list") (by rfl) T.nb_list (by decide +kernel) rfl) pa_nil))) (nomark _))))) (pss_one (ps_ret pe_bl)) pss_nil)
 (pss_cons (ps_if (pt_cmpR op_ne (pe_callB call_len_seq (by rfl) T.nb_len (by decide +kernel) (pa_cons (pv 0) pa_nil)) (pe_callB call_len_seq (by rfl) T.nb_len (by decide +kernel) (pa_cons (pv 1) pa_nil)) (nomark _)) (pss_one (ps_ret pe_bl)) pss_nil)
 (pss_cons (ps_forH (passes_of rfl) hc (pi_range1H (by rfl) T.nb_range (pa_cons (pe_callB call_len_seq (by rfl) T.nb_len (by decide +kernel) (pa_cons (pv 1) pa_nil)) pa_nil)) (pg_name (i := 3) sc__law_like.nd rfl (Or.inl rfl)) (pss_one (ps_if (pt_not (pt_val (pe_callH GH__law_like (hr.mono (Nat.le_refl _)) hc rfl T.g__law_like T.F__law_like.kp T.b__law_like (E := fun _ => E0) (fun _ => passH0) (pa_cons (pe_ix ix_seq (pv 0) (pv 3) (fun _ _ => rfl)) (pa_cons (pe_ix ix_seq (pv 1) (pv 3) (fun _ _ => rfl)) pa_nil))))) (pss_one (ps_ret pe_bl)) pss_nil)))
 (pss_one (ps_ret pe_bl)))))))))), ?_⟩
      rcases l with ⟨⟨b, rfl⟩ | ⟨z, rfl⟩ | ⟨i, rfl⟩ | rfl, rfl⟩ | ⟨a, b, xs, ys, rfl, rfl, hab, hl, hz, hrec⟩
      · refine ⟨_, rfl, _, _, _, _, true, rfl, .ty _, .base (.bl b), kt _ _ _ (by decide +kernel), true, rfl, iteT ?_⟩
        refine ⟨_, rfl, _, _, _, _, true, rfl, .ty _, .base (.bl b), kt _ _ _ (by decide +kernel), true, rfl, iteT ?_⟩
        refine ⟨_, rfl, _, rfl, rfl, ?_⟩
        show Q (.bl (decide (V.bl b = V.bl b))) H
        rw [decide_eq_true rfl]
        exact k
      · refine ⟨_, rfl, _, _, _, _, false, rfl, .ty _, .base (.str z), kt _ _ _ (by decide +kernel), false, rfl, iteF ?_⟩
        refine ⟨_, rfl, _, _, _, _, true, rfl, .ty _, .base (.str z), kt _ _ _ (by decide +kernel), true, rfl, iteT ?_⟩
        refine ⟨_, rfl, _, _, _, _, true, rfl, .ty _, .base (.str z), kt _ _ _ (by decide +kernel), true, rfl, iteT ?_⟩
        refine ⟨_, rfl, _, rfl, rfl, ?_⟩
        show Q (.bl (decide (V.str z = V.str z))) H
        rw [decide_eq_true rfl]
        exact k
      · refine ⟨_, rfl, _, _, _, _, false, rfl, .ty _, .base (.int i), kt _ _ _ (by decide +kernel), false, rfl, iteF ?_⟩
        refine ⟨_, rfl, _, _, _, _, false, rfl, .ty _, .base (.int i), kt _ _ _ (by decide +kernel), false, rfl, iteF ?_⟩
        refine ⟨_, rfl, _, _, _, _, true, rfl, .ty _, .base (.int i), kt _ _ _ (by decide +kernel), true, rfl, iteT ?_⟩
        refine ⟨_, rfl, _, _, _, _, true, rfl, .ty _, .base (.int i), kt _ _ _ (by decide +kernel), true, rfl, iteT ?_⟩
        refine ⟨_, rfl, _, _, _, _, false, rfl, .ty _, .base (.int i), kt _ _ _ (by decide +kernel), false, rfl, true, rfl, iteT ?_⟩
        refine ⟨_, rfl, _, rfl, rfl, ?_⟩
        show Q (.bl (decide (V.int i = V.int i))) H
        rw [decide_eq_true rfl]
        exact k
      · refine ⟨_, rfl, _, _, _, _, false, rfl, .ty _, .base .non, kt _ _ _ (by decide +kernel), false, rfl, iteF ?_⟩
        refine ⟨_, rfl, _, _, _, _, false, rfl, .ty _, .base .non, kt _ _ _ (by decide +kernel), false, rfl, iteF ?_⟩
        refine ⟨_, rfl, _, _, _, _, false, rfl, .ty _, .base .non, kt _ _ _ (by decide +kernel), false, rfl, iteF ?_⟩
        refine ⟨_, rfl, rfl, _, rfl, iteT ?_⟩
        exact ⟨_, rfl, rfl, k⟩
      · have both : ∃ nm : String, (nm = "list" ∨ nm = "tuple") ∧ TyX K H (.ref a) (.type nm) ∧ TyX K H (.ref b) (.type nm) ∧ (SqL K H a xs ∨ SqT K H a xs) ∧ (SqL K H b ys ∨ SqT K H b ys) := by
          rcases hab with ⟨h1, h2⟩ | ⟨h1, h2⟩
          · exact ⟨_, .inl rfl, .base (.lst h1), .base (.lst h2), .inl (SqL.of h1), .inl (SqL.of h2)⟩
          · exact ⟨_, .inr rfl, .base (.tup h1), .base (.tup h2), .inr (SqT.of h1), .inr (SqT.of h2)⟩
        obtain ⟨nm, hnm, ta, tb, sa, sb⟩ := both
        have kb : PySem.W.kitOne K (.type nm) (.type "bool") = some false := by rcases hnm with rfl | rfl <;> exact kt _ _ _ (by decide +kernel)
        have ks : PySem.W.kitOne K (.type nm) (.type "str") = some false := by rcases hnm with rfl | rfl <;> exact kt _ _ _ (by decide +kernel)
        have ki : PySem.W.kitOne K (.type nm) (.type "int") = some false := by rcases hnm with rfl | rfl <;> exact kt _ _ _ (by decide +kernel)
        have kd : PySem.W.kitOne K (.type nm) (.type "dict") = some false := by rcases hnm with rfl | rfl <;> exact kt _ _ _ (by decide +kernel)
        have kT : ∃ c, PySem.W.kitOne K (.type nm) (.type "tuple") = some c := by
          rcases hnm with rfl | rfl
          · exact ⟨false, kt _ _ _ (by decide +kernel)⟩
          · exact ⟨true, kt _ _ _ (by decide +kernel)⟩
        have kL : ∃ c, PySem.W.kitOne K (.type nm) (.type "list") = some c := by
          rcases hnm with rfl | rfl
          · exact ⟨true, kt _ _ _ (by decide +kernel)⟩
          · exact ⟨false, kt _ _ _ (by decide +kernel)⟩
        obtain ⟨ct, kT⟩ := kT
        obtain ⟨cl, kL⟩ := kL
        refine ⟨_, rfl, _, _, _, _, false, rfl, .ty _, tb, kb, false, rfl, iteF ?_⟩
        refine ⟨_, rfl, _, _, _, _, false, rfl, .ty _, tb, ks, false, rfl, iteF ?_⟩
        refine ⟨_, rfl, _, _, _, _, false, rfl, .ty _, tb, ki, false, rfl, iteF ?_⟩
        refine ⟨_, rfl, rfl, _, rfl, iteF ?_⟩
        refine ⟨_, rfl, _, _, _, _, false, rfl, .ty _, tb, kd, false, rfl, iteF ?_⟩
        refine ⟨_, rfl, _, _, _, _, ct, rfl, .ty _, tb, kT, _, rfl, _, _, _, _, ct, rfl, .ty _, ta, kT, rfl, false, by rw [decide_eq_true rfl]; rfl, iteF ?_⟩
        refine ⟨_, rfl, _, _, _, _, cl, rfl, .ty _, tb, kL, _, rfl, _, _, _, _, cl, rfl, .ty _, ta, kL, rfl, false, by rw [decide_eq_true rfl]; rfl, iteF ?_⟩
        refine ⟨_, rfl, a, _, rfl, sa, _, rfl, b, _, rfl, sb, rfl, false, by rw [decide_eq_true (by rw [hl])]; rfl, iteF ?_⟩
        refine ⟨_, rfl, b, _, rfl, sb, _, rfl, by omega, by omega, ?_⟩
        refine for_range (lo := 0) (n := ys.length) (fun i σ H' => H' = H ∧ ∃ u v, σ = [some (.ref a), some (.ref b), u, v]) ⟨rfl, _, _, rfl⟩ ?_ ?_
        · rintro i σ H' hi ⟨rfl, u, v, rfl⟩
          have hx : xs[i]? = some xs[i] := List.getElem?_eq_getElem (by omega)
          have hy : ys[i]? = some ys[i] := List.getElem?_eq_getElem hi
          have e0 : (0 : Int) + (i : Nat) = (i : Nat) := by omega
          rw [e0]
          have ix : ∀ {c : Addr} {zs : List V} {v : V} {Q' : VK}, (SqL K H' c zs ∨ SqT K H' c zs) → zs[i]? = some v → Q' v H' → rIx K (.ref c) (.int (i : Nat)) H' Q' := by
            intro c zs v Q' hs hv q
            rcases hs with hs | hs
            · exact .inl ⟨_, _, _, _, rfl, rfl, hs, atI_nat hv, q⟩
            · exact .inr (.inl ⟨_, _, _, _, rfl, rfl, hs, atI_nat hv, q⟩)
          refine ⟨_, rfl, _, rfl, ix sa hx ?_⟩
          refine ⟨_, rfl, _, rfl, ix sb hy ?_⟩
          refine ⟨_, _, rfl, hrec i _ _ hx hy, true, rfl, iteF ?_⟩
          exact ⟨rfl, _, _, rfl⟩
        · rintro σ H' ⟨rfl, u, v, rfl⟩
          exact k
end
end LT
namespace LT
open PySem L2
section
variable {P : Program} {w : World} {K : PySem.W.Frag} {mg : Str → Option Value} {base : Heap}
def spWeb (K : PySem.W.Frag) : Sp := fun vs H Q _ => ∃ (d : Addr) (most : Int), vs = [.ref d, .int most] ∧ 1 ≤ most ∧ most ≤ 8 ∧ Dice K H d ∧
  ∀ (H' : Hp) (t a : Addr) (n : Int) (rs : List Rd3), n ≤ most → WebOk n rs → H t = none → H a = none → H' t = some (.tup [.int n, .ref a]) → Rws g3 H' a rs → Dice K H' d → Fr [d] H H' → Q (.ref t) H'
theorem ok_law_web (T : Txt K mg) : FnOk P w K mg base CX0 2 T.a__law_web T.d__law_web ["_law_d", "_law_most"] (spWeb K) := by
  have G__law_next : FnOk P w K mg base CX0 1 T.a__law_next T.d__law_next ["_law_dice_here", "_law_many"] (spNext K) := ok_law_next T
  refine T.F__law_web.ok sc__law_web (fun vs H Q E h => ?_) (fun cdv A outer s H vs Q E hr h => ?_)
  · obtain ⟨d, n, rfl, _⟩ := h
    rfl
  · obtain ⟨d, most, rfl, m0, m1, hD, k⟩ := h
    refine ⟨_, (pss_cons (ps_set (i := 2) sc__law_web.nd rfl (Or.inl rfl) (pe_op op_add pe_int (pe_call G__law_next (hr.mono (by decide)) rfl T.g__law_next T.F__law_next.kp T.b__law_next .nil pass0 (pa_cons (pv 0) (pa_cons (pv 1) pa_nil)))))
 (pss_cons (ps_set (i := 3) sc__law_web.nd rfl (Or.inr rfl) (pe_listRg rfl (by rfl) T.nb_list (prg_1 (by rfl) T.nb_range (pv 2))))
 (pss_cons (ps_setLc (i := 4) (own := [("_law_k", 5)]) (g := gName 5) (tt := tYes) (by rfl) sc__law_web.nd rfl rfl (sw_true rfl rfl rfl (by decide +kernel)) (pi_range1 (by rfl) T.nb_range (pa_cons (pv 2) pa_nil)) (blkOk_by (own := [("_law_k", 5)]) (N := ["_law_d", "_law_most", "_law_hands", "_law_left", "_law_order", "_law_k", "_law_pairs", "_law_pair", "_law_j", "_law_costs"]) (sc := defScope s__law_web) (by decide +kernel)) (fun _ _ _ _ _ => by exact (pg_name (i := 5) sc__law_web.nd rfl (Or.inl rfl))) (fun _ _ _ _ _ => by exact pts_nil) (fun _ _ _ _ _ => by exact (by exact (pe_bmK K rfl PySem.F.plainAttrs_list PySem.F.slot_list_pop PySem.F.type_list_pop mt_popAt (pv 3) (pa_cons (by exact (pe_call G__law_next (hr.mono (by decide)) rfl T.g__law_next T.F__law_next.kp T.b__law_next .nil pass0 (pa_cons (pv 0) (pa_cons (by exact (pe_callB (call_len_seqK K rfl) (by rfl) T.nb_len (by decide +kernel) (pa_cons (pv 3) pa_nil))) pa_nil)))) pa_nil)))))
 (pss_cons (ps_set (i := 6) sc__law_web.nd rfl (Or.inl rfl) (pe_lst pa_nil))
 (pss_cons (ps_for PassesOwn.never rfl (pi_range2 (by rfl) T.nb_range (pa_cons pe_int (pa_cons (pv 2) pa_nil))) (pg_name (i := 5) sc__law_web.nd rfl (Or.inl rfl))
  (pss_one (ps_expr (pe_bm PySem.F.plainAttrs_list PySem.F.slot_list_insert PySem.F.type_list_insert mt_insert (pv 6) (pa_cons (pe_call G__law_next (hr.mono (by decide)) rfl T.g__law_next T.F__law_next.kp T.b__law_next .nil pass0 (pa_cons (pv 0) (pa_cons (pe_op op_add (pe_callB call_len_seq (by rfl) T.nb_len (by decide +kernel) (pa_cons (pv 6) pa_nil)) pe_int) pa_nil))) (pa_cons (pe_callTy call_tuple_of (by rfl) T.nb_tuple (by decide +kernel) (pa_cons (pe_callB cr_sorted (by rfl) T.nb_sorted (by decide +kernel) (pa_cons (pe_lst (pa_cons (pe_ix ix_list (pv 4) (pe_call G__law_next (hr.mono (by decide)) rfl T.g__law_next T.F__law_next.kp T.b__law_next .nil pass0 (pa_cons (pv 0) (pa_cons (pv 5) pa_nil))) (fun _ _ => rfl)) (pa_cons (pe_ix ix_list (pv 4) (pv 5) (fun _ _ => rfl)) pa_nil))) pa_nil)) pa_nil)) pa_nil))))))
 (pss_cons (ps_for PassesOwn.never rfl (pi_range1 (by rfl) T.nb_range (pa_cons (pe_call G__law_next (hr.mono (by decide)) rfl T.g__law_next T.F__law_next.kp T.b__law_next .nil pass0 (pa_cons (pv 0) (pa_cons (pe_callB (call_min2 rfl) (by rfl) T.nb_min (by decide +kernel) (pa_cons pe_int (pa_cons (pe_op op_mul pe_int (pv 2)) pa_nil))) pa_nil))) pa_nil)) (pg_name (i := 5) sc__law_web.nd rfl (Or.inl rfl))
  (pss_cons (ps_set (i := 7) sc__law_web.nd rfl (Or.inl rfl) (pe_callTy call_tuple_of (by rfl) T.nb_tuple (by decide +kernel) (pa_cons (pe_callB cr_sorted (by rfl) T.nb_sorted (by decide +kernel) (pa_cons (pe_lst (pa_cons (pe_call G__law_next (hr.mono (by decide)) rfl T.g__law_next T.F__law_next.kp T.b__law_next .nil pass0 (pa_cons (pv 0) (pa_cons (pv 2) pa_nil))) (pa_cons (pe_call G__law_next (hr.mono (by decide)) rfl T.g__law_next T.F__law_next.kp T.b__law_next .nil pass0 (pa_cons (pv 0) (pa_cons (pv 2) pa_nil))) pa_nil))) pa_nil)) pa_nil)))
 (pss_one (ps_if (PW.pt (pw_and (pt_cmpR op_lt (pe_ix ix_tup (pv 7) pe_int (fun _ _ => rfl)) (pe_ix ix_tup (pv 7) pe_int (fun _ _ => rfl)) (nomark _)) (pw_and1 (pt_cmpR (op_notInD hr.units65) (pv 7) (pv 6) rfl)))) (pss_one (ps_expr (pe_bm PySem.F.plainAttrs_list PySem.F.slot_list_insert PySem.F.type_list_insert mt_insert (pv 6) (pa_cons (pe_call G__law_next (hr.mono (by decide)) rfl T.g__law_next T.F__law_next.kp T.b__law_next .nil pass0 (pa_cons (pv 0) (pa_cons (pe_op op_add (pe_callB call_len_seq (by rfl) T.nb_len (by decide +kernel) (pa_cons (pv 6) pa_nil)) pe_int) pa_nil))) (pa_cons (pv 7) pa_nil))))) pss_nil))))
 (pss_cons (ps_for PassesOwn.never rfl (pi_range1 (by rfl) T.nb_range (pa_cons (pe_op op_mul (pv 2) (pe_callTy call_int1 (by rfl) T.nb_int (by decide +kernel) (pa_cons (pe_cmpR op_eq (pe_call G__law_next (hr.mono (by decide)) rfl T.g__law_next T.F__law_next.kp T.b__law_next .nil pass0 (pa_cons (pv 0) (pa_cons pe_int pa_nil))) pe_int (nomark _)) pa_nil))) pa_nil)) (pg_name (i := 5) sc__law_web.nd rfl (Or.inl rfl))
  (pss_one (ps_for PassesOwn.never rfl (pi_range1 (by rfl) T.nb_range (pa_cons (pv 5) pa_nil)) (pg_name (i := 8) sc__law_web.nd rfl (Or.inl rfl))
  (pss_one (ps_if (PW.pt (pw_and (pt_cmpR (op_notInD hr.units65) (pe_tup (pa_cons (pv 8) (pa_cons (pv 5) pa_nil))) (pv 6) rfl) (pw_and1 (pt_cmpR op_lt (pe_callB call_len_seq (by rfl) T.nb_len (by decide +kernel) (pa_cons (pv 6) pa_nil)) pe_int (nomark _))))) (pss_one (ps_expr (pe_bm PySem.F.plainAttrs_list PySem.F.slot_list_insert PySem.F.type_list_insert mt_insert (pv 6) (pa_cons (pe_call G__law_next (hr.mono (by decide)) rfl T.g__law_next T.F__law_next.kp T.b__law_next .nil pass0 (pa_cons (pv 0) (pa_cons (pe_op op_add (pe_callB call_len_seq (by rfl) T.nb_len (by decide +kernel) (pa_cons (pv 6) pa_nil)) pe_int) pa_nil))) (pa_cons (pe_tup (pa_cons (pv 8) (pa_cons (pv 5) pa_nil))) pa_nil))))) pss_nil)))))
 (pss_cons (ps_set (i := 9) sc__law_web.nd rfl (Or.inr rfl) (pe_listRg rfl (by rfl) T.nb_list (prg_2 (by rfl) T.nb_range pe_int pe_int)))
 (pss_one (ps_ret (pe_tup (pa_cons (pv 2) (pa_cons (pe_lc (own := [("_law_pair", 7)]) (g := gName 7) (tt := tYes) (by rfl) sc__law_web.nd (pi_list (pv 6)) (blkOk_by (own := [("_law_pair", 7)]) (N := ["_law_d", "_law_most", "_law_hands", "_law_left", "_law_order", "_law_k", "_law_pairs", "_law_pair", "_law_j", "_law_costs"]) (sc := defScope s__law_web) (by decide +kernel)) (fun _ _ _ _ _ => by exact (pg_name (i := 7) sc__law_web.nd rfl (Or.inl rfl))) (fun _ _ _ _ _ => by exact pts_nil) (fun _ _ _ _ _ => by exact (pe_op (op_catTK K rfl) (pv 7) (pe_tup (pa_cons (by exact (pe_bmK K rfl PySem.F.plainAttrs_list PySem.F.slot_list_pop PySem.F.type_list_pop mt_popAt (pv 9) (pa_cons (by exact (pe_call G__law_next (hr.mono (by decide)) rfl T.g__law_next T.F__law_next.kp T.b__law_next .nil pass0 (pa_cons (pv 0) (pa_cons (by exact (pe_callB (call_len_seqK K rfl) (by rfl) T.nb_len (by decide +kernel) (pa_cons (pv 9) pa_nil))) pa_nil)))) pa_nil))) pa_nil))))) pa_nil))))))))))))), ?_⟩
    refine ⟨_, rfl, _, rfl, d, most, rfl, by omega, by omega, hD, fun H1 r r0 r1 D1 F1 => ?_⟩
    refine ⟨_, _, rfl, rfl, ?_⟩
    obtain ⟨n, en⟩ : ∃ n : Int, n = 1 + r := ⟨_, rfl⟩
    show gName 2 (V.int (1 + r)) _ _ _
    rw [← en]
    have n1 : 1 ≤ n := by omega
    have n8 : n ≤ most := by omega
    refine ⟨_, rfl, n, rfl, RgOk.of_le (by decide) (by omega) (by decide) (by omega), fun L nL => ?_⟩
    have FL : Fr [d] H (upd H1 L (.lst (rgV 0 n))) := F1.trans (Fr.new nL)
    have dL : L ≠ d := fun e => by
      obtain ⟨_, z⟩ := D1.lst
      rw [e, z] at nL
      cases nL
    refine ⟨_, rfl, _, rfl, by omega, by omega, fun O nO => ?_⟩
    have hHL : H L = none := F1.free nL (by simp [dL])
    have dO : O ≠ d := (D1.new nL).ne nO
    have hHO : H O = none := FL.free nO (by simp [dO])
    refine lc_range (lo := 0) (n := n.toNat) (fun i Hi => ∃ (ls os : List Int), Hi L = some (.lst (ls.map V.int)) ∧ Hi O = some (.lst (os.map V.int)) ∧ (os ++ ls).Perm ((List.range n.toNat).map fun (j : Nat) => (j : Int)) ∧ os.length = i ∧
      Dice K Hi d ∧ Fr [d] H Hi ∧ O ≠ d ∧ L ≠ d ∧ O ≠ L) ?_ ?_ ?_
    · refine ⟨(List.range n.toNat).map fun (j : Nat) => (j : Int), [], ?_, upd_same, ?_, rfl, ?_, FL.trans (Fr.new nO), ?_, dL, ?_⟩
      · rw [upd_ne (ne_of_none upd_same nO), upd_same, rgV_ints]
      · rw [List.nil_append]
      · exact (D1.fr (Fr.new nL : Fr [] _ _) (by simp)).fr (Fr.new nO : Fr [] _ _) (by simp)
      · intro e
        obtain ⟨_, z⟩ := (D1.fr (Fr.new nL : Fr [] _ _) (by simp)).lst
        rw [e, z] at nO
        cases nO
      · intro e
        rw [e, upd_same] at nO
        cases nO
    · rintro i Hi hi ⟨ls, os, hL, hO, hp, ho, Di, Fi, hOd, hLd, hOL⟩
      have hlen : ls.length = n.toNat - i := by
        have := hp.length_eq
        simp at this
        omega
      refine ⟨rfl, ?_⟩
      refine ⟨_, rfl, .inl ⟨rfl, _, .inl (.inl hL)⟩, _, rfl, _, rfl, L, _, rfl, .inl (SqL.of hL), d, _, rfl, ?_, ?_, Di, fun H2 q q0 q1 D2 F2 => ?_⟩
      · rw [List.length_map]
        omega
      · rw [List.length_map]
        omega
      rw [List.length_map] at q1
      have hL2 := F2.keep _ _ (by simp [hLd]) hL
      have hO2 := F2.keep _ _ (by simp [hOd]) hO
      have hq : q.toNat < ls.length := by omega
      have gq : ls[q.toNat]? = some ls[q.toNat] := List.getElem?_eq_getElem hq
      refine ⟨L, _, q, q.toNat, _, rfl, rfl, hL2, by omega, by omega, seqIx q0 (by rw [List.length_map]; exact q1), get_ints gq, ?_⟩
      refine ⟨os.map V.int, by rw [upd_ne hOL]; exact hO2, by rw [List.length_map]; exact small1000 (by omega), ls.eraseIdx q.toNat, os ++ [ls[q.toNat]], ?_, ?_, ?_, ?_, ?_, ?_, hOd, hLd, hOL⟩
      · rw [upd_ne hOL.symm, upd_same, map_eraseIdx]
      · rw [upd_same]
        simp
      · rw [List.append_assoc]
        exact ((erase_perm gq).append_left os).trans hp
      · simp [ho]
      · exact (D2.put hL2 hLd).put (by rw [upd_ne hOL]; exact hO2) hOd
      · exact ((Fi.trans F2).put hHL).put hHO
    · rintro Hi ⟨ls, os, hL, hO, hp, ho, Di, Fi, hOd, hLd, hOL⟩
      have hls : ls = [] := by
        have := hp.length_eq
        simp at this
        exact List.length_eq_zero_iff.mp (by omega)
      subst hls
      rw [List.append_nil] at hp
      have ond : os.Nodup := hp.nodup_iff.mpr (List.nodup_range.map_of_inj fun a b e => Int.ofNat.inj e)
      have omem : ∀ x, x ∈ os ↔ 0 ≤ x ∧ x < n := fun x => by
        rw [hp.mem_iff, List.mem_map]
        constructor
        · rintro ⟨j, hj, rfl⟩
          have := List.mem_range.mp hj
          omega
        · rintro ⟨h0, h1⟩
          exact ⟨x.toNat, List.mem_range.mpr (by omega), by omega⟩
      refine ⟨Nat.zero_le _, fun B nB => ?_⟩
      have hO1 : upd Hi B (.lst []) O = some (.lst (os.map V.int)) := by rw [upd_ne (ne_of_none hO nB)]; exact hO
      have dB : B ≠ d := Di.ne nB
      have hOB : O ≠ B := fun e => by rw [← e, hO] at nB; cases nB
      have hHB : H B = none := Fi.free nB (by simp [dB])
      have hos : os.length = n.toNat := ho
      refine ⟨_, rfl, _, _, rfl, ⟨by decide, by decide, by omega, by omega⟩, ?_⟩
      refine for_range (lo := 1) (n := (n - 1).toNat) (fun i σ Hj => ∃ (ps : List (Int × Int)) (v5 v7 v8 v9 : Option V), σ = [some (.ref d), some (.int most), some (.int n), some (.ref L), some (.ref O), v5, some (.ref B), v7, v8, v9] ∧
        Rws g2 Hj B ps ∧ TreeI n os (i + 1) ps ∧ Dice K Hj d ∧ Fr [d] H Hj ∧ Hj O = some (.lst (os.map V.int))) ?_ ?_ ?_
      · refine ⟨[], _, _, _, _, rfl, ⟨[], upd_same, .nil⟩, ⟨⟨fun p hp => by simp at hp, List.nodup_nil⟩, rfl, fun p hp => by simp at hp, fun x hx y hy => ?_⟩, Di.new nB, Fi.put hHB, hO1⟩
        cases os with
        | nil => simp at hx
        | cons o os =>
          simp at hx hy
          rw [hx, hy]
          exact .refl
      · rintro i σ Hj hi ⟨ps, v5, v7, v8, v9, rfl, ⟨ts, hts, tps⟩, tr, Dj, Fj, hOj⟩
        have hpl := tr.len
        have tpl := tps.length
        refine ⟨_, rfl, .inl ⟨rfl, _, .inl (.inl hts)⟩, _, rfl, _, rfl, B, _, rfl, .inl (SqL.of hts), _, _, rfl, rfl, d, _, rfl, ?_, ?_, Dj, fun H2 q q0 q1 D2 F2 => ?_⟩
        · rw [List.length_map]
          omega
        · rw [List.length_map]
          omega
        rw [List.length_map] at q1
        have hts2 := F2.keep _ _ (by simp [dB]) hts
        have hO2 := F2.keep _ _ (by simp [hOd]) hOj
        refine ⟨_, rfl, _, rfl, _, rfl, d, _, rfl, by omega, by omega, D2, fun H3 s s0 s1 D3 F3 => ?_⟩
        have hts3 := F3.keep _ _ (by simp [dB]) hts2
        have hO3 := F3.keep _ _ (by simp [hOd]) hO2
        have ha : os[s.toNat]? = some os[s.toNat] := List.getElem?_eq_getElem (by omega)
        have hb : os[i + 1]? = some os[i + 1] := List.getElem?_eq_getElem (by omega)
        refine ⟨O, _, _, .int os[s.toNat], rfl, rfl, SqL.of hO3, at_of (show s = (s.toNat : Nat) by omega) (get_ints ha), ?_⟩
        refine ⟨_, rfl, _, rfl, O, _, _, .int os[i + 1], rfl, rfl, SqL.of hO3, at_of (show 1 + (i : Int) = ((i + 1 : Nat) : Int) by omega) (get_ints hb), ?_⟩
        refine ⟨by show 2 ≤ sizeLine; decide, fun A1 nA => ?_⟩
        refine ⟨A1, [os[s.toNat], os[i + 1]], rfl, SqL.of upd_same, by show 2 < 64; decide, fun ns' A2 pm srt nA2 => ?_⟩
        have e2 := sort2 pm srt
        subst e2
        refine ⟨A2, _, rfl, .inl ⟨SqL.of upd_same, fun A3 nA3 => ?_⟩⟩
        have f36 : Fr [] H3 (upd (upd (upd H3 A1 (.lst ([os[s.toNat], os[i + 1]].map V.int))) A2 (.lst ([min os[s.toNat] os[i + 1], max os[s.toNat] os[i + 1]].map V.int))) A3 (.tup ([min os[s.toNat] os[i + 1], max os[s.toNat] os[i + 1]].map V.int))) :=
          ((Fr.new nA).trans (Fr.new nA2)).trans (Fr.new nA3)
        have hts6 := f36.keep _ _ (by simp) hts3
        refine ⟨B, _, q, .ref A3, rfl, rfl, hts6, by rw [List.length_map]; exact small1000 (by omega), q0, by omega, ?_⟩
        refine ⟨_, _, _, _, _, rfl, Rws.ins (x := (min os[s.toNat] os[i + 1], max os[s.toNat] os[i + 1])) hts6 (((tps.fr F2).fr F3).fr f36) upd_same q.toNat, tr.next ond (fun x hx => (omem x).mp hx) (by omega) ha hb,
          (D3.fr f36 (by simp)).put hts6 dB, (((Fj.trans F2).trans F3).trans (f36.mono (by simp))).put hHB, ?_⟩
        rw [upd_ne hOB]
        exact f36.keep _ _ (by simp) hO3
      · rintro σ Hj ⟨ps, v5, v7, v8, v9, rfl, rB, tr, Dj, Fj, hOj⟩
        have tall : os.take ((n - 1).toNat + 1) = os := List.take_of_length_le (by omega)
        have cn : ∀ x, 0 ≤ x → x < n → Way ps 0 x := fun x h0 h1 => tr.conn 0 (by rw [tall]; exact (omem 0).mpr ⟨by decide, by omega⟩) x (by rw [tall]; exact (omem x).mpr ⟨h0, h1⟩)
        have pl := tr.len
        have pok := tr.ok
        clear hOj tr tall
        refine ⟨_, rfl, _, rfl, _, _, rfl, rfl, .inl ⟨by decide, by decide⟩, _, _, rfl, d, _, rfl, ?_, ?_, Dj, fun H2 m q0 q1 D2 F2 => ?_⟩
        · split <;> omega
        · split <;> omega
        have mlt : m < 13 := by
          split at q1 <;> omega
        have rB2 := rB.fr F2 (by simp [dB])
        have F02 := Fj.trans F2
        refine ⟨m, rfl, by omega, by omega, ?_⟩
        refine for_range (lo := 0) (n := m.toNat) (fun i σ Hk => ∃ (ps : List (Int × Int)) (v5 v7 v8 v9 : Option V), σ = [some (.ref d), some (.int most), some (.int n), some (.ref L), some (.ref O), v5, some (.ref B), v7, v8, v9] ∧
          Rws g2 Hk B ps ∧ PairsOk n ps ∧ (∀ x, 0 ≤ x → x < n → Way ps 0 x) ∧ ps.length ≤ n.toNat - 1 + i ∧ Dice K Hk d ∧ Fr [d] H Hk) ⟨ps, _, _, _, _, rfl, rB2, pok, cn, by omega, D2, F02⟩ ?_ ?_
        · rintro i σ Hk hi ⟨ps, v5, v7, v8, v9, rfl, ⟨ts, hts, tps⟩, pok, cn, pl, Dk, Fk⟩
          have tpl := tps.length
          refine ⟨_, rfl, _, rfl, d, _, rfl, by omega, by omega, Dk, fun H3 a a0 a1 D3 F3 => ?_⟩
          refine ⟨_, rfl, _, rfl, d, _, rfl, by omega, by omega, D3, fun H4 b b0 b1 D4 F4 => ?_⟩
          have hts4 := F4.keep _ _ (by simp [dB]) (F3.keep _ _ (by simp [dB]) hts)
          have tps4 := (tps.fr F3).fr F4
          refine ⟨by show 2 ≤ sizeLine; decide, fun A1 nA => ?_⟩
          refine ⟨A1, [a, b], rfl, SqL.of upd_same, by show 2 < 64; decide, fun ns' A2 pm srt nA2 => ?_⟩
          have e2 := sort2 pm srt
          subst e2
          refine ⟨A2, _, rfl, .inl ⟨SqL.of upd_same, fun A3 nA3 => ?_⟩⟩
          have f47 : Fr [] H4 (upd (upd (upd H4 A1 (.lst [.int a, .int b])) A2 (.lst ([min a b, max a b].map V.int))) A3 (.tup ([min a b, max a b].map V.int))) := ((Fr.new nA).trans (Fr.new nA2)).trans (Fr.new nA3)
          generalize hH7 : (upd (upd (upd H4 A1 (.lst [.int a, .int b])) A2 (.lst ([min a b, max a b].map V.int))) A3 (.tup ([min a b, max a b].map V.int))) = H7 at f47 ⊢
          have hA3 : H7 A3 = some (.tup ([min a b, max a b].map V.int)) := by rw [← hH7]; exact upd_same
          clear hH7
          have hts7 := f47.keep _ _ (by simp) hts4
          have tps7 := tps4.fr f47
          have D7 := D4.fr f47 (by simp)
          have F07 : Fr [d] H H7 := ((Fk.trans F3).trans F4).trans (f47.mono (by simp))
          refine ⟨_, rfl, A3, _, _, _, rfl, rfl, SqT.of hA3, rfl, _, rfl, A3, _, _, _, rfl, rfl, SqT.of hA3, rfl, _, _, rfl, rfl, _, rfl, ite2 (fun c => ?_) (fun c => iteF ?_)⟩
          · have lt : min a b < max a b := of_decide_eq_true c
            refine ⟨_, rfl, _, rfl, _, _, dp_row hA3, .lst (SqL.of hts7) (dp_rows (r := r2) tps7), dI_shaped _, by rw [map_dI]; exact dIs_shaped _, ?_⟩
            have e := any_eqv (r := r2) (fun _ _ => r2_inj) (min a b, max a b) ps
            show ∃ k, V.bl (!(ps.map fun x => dI (r2 x)).any fun z => PyData.eqv z (dI (r2 (min a b, max a b)))) = V.bl k ∧ _
            rw [e]
            refine ⟨_, rfl, ite2 (fun c2 => ?_) (fun c2 => ?_)⟩
            · have hn : (min a b, max a b) ∉ ps := by simpa using c2
              refine ⟨_, rfl, .inl ⟨rfl, _, .inl (.inl hts7)⟩, _, rfl, _, rfl, B, _, rfl, .inl (SqL.of hts7), _, _, rfl, rfl, d, _, rfl, ?_, ?_, D7, fun H8 q q0 q1 D8 F8 => ?_⟩
              · rw [List.length_map]
                omega
              · rw [List.length_map]
                omega
              have hts8 := F8.keep _ _ (by simp [dB]) hts7
              have hA8 := F8.tup _ _ hA3
              rw [List.length_map] at q1
              refine ⟨_, rfl, B, _, q, .ref A3, rfl, rfl, hts8, by rw [List.length_map]; exact small1000 (by omega), q0, by omega, ?_⟩
              refine ⟨_, _, _, _, _, rfl, Rws.ins (x := (min a b, max a b)) hts8 (tps7.fr F8) hA8 q.toNat, pok.ins ⟨by show 0 ≤ min a b; omega, lt, by show max a b < n; omega⟩ hn _, fun x h0 h1 => (cn x h0 h1).ins _ _, ?_, D8.put hts8 dB, (F07.trans F8).put hHB⟩
              rw [ins_len]
              omega
            · exact ⟨_, _, _, _, _, rfl, ⟨ts, hts7, tps7⟩, pok, cn, by omega, D7, F07⟩
          · exact ⟨_, _, _, _, _, rfl, ⟨ts, hts7, tps7⟩, pok, cn, by omega, D7, F07⟩
        · rintro σ Hk ⟨ps, v5, v7, v8, v9, rfl, rB, pok, cn, pl, Dk, Fk⟩
          refine ⟨_, rfl, _, rfl, d, _, rfl, by decide, by decide, Dk, fun H2 z q0 q1 D2 F2 => ?_⟩
          refine ⟨rfl, .inr ⟨_, rfl, _, _, rfl, rfl, .inl ⟨by omega, by omega⟩, ?_⟩⟩
          have hj : ∃ j : Int, 0 ≤ j ∧ j ≤ n ∧ n * (if decide (V.int z = V.int 7) = true then 1 else 0) = j := by
            split
            · exact ⟨n, by omega, by omega, by omega⟩
            · exact ⟨0, by omega, by omega, by omega⟩
          obtain ⟨j, j0, jn, ej⟩ := hj
          refine ⟨_, rfl, by rw [ej]; omega, by rw [ej]; omega, ?_⟩
          rw [ej]
          have rB2 := rB.fr F2 (by simp [dB])
          refine for_range (lo := 0) (n := j.toNat) (fun i σ Hk => ∃ (ps : List (Int × Int)) (v5 v7 v8 v9 : Option V), σ = [some (.ref d), some (.int most), some (.int n), some (.ref L), some (.ref O), v5, some (.ref B), v7, v8, v9] ∧
            Rws g2 Hk B ps ∧ PairsOk n ps ∧ (∀ x, 0 ≤ x → x < n → Way ps 0 x) ∧ ps.length ≤ 20 ∧ Dice K Hk d ∧ Fr [d] H Hk) ⟨ps, _, _, _, _, rfl, rB2, pok, cn, by omega, D2, Fk.trans F2⟩ ?_ ?_
          · rintro i σ Hk hi ⟨ps, v5, v7, v8, v9, rfl, rB, pok, cn, pl, Dk, Fk⟩
            refine ⟨_, rfl, _, rfl, by omega, by omega, ?_⟩
            refine for_range (lo := 0) (n := ((0 : Int) + (i : Nat)).toNat) (fun i' σ Hk => ∃ (ps : List (Int × Int)) (v7 v8 v9 : Option V), σ = [some (.ref d), some (.int most), some (.int n), some (.ref L), some (.ref O), some (.int (0 + (i : Nat))), some (.ref B), v7, v8, v9] ∧
              Rws g2 Hk B ps ∧ PairsOk n ps ∧ (∀ x, 0 ≤ x → x < n → Way ps 0 x) ∧ ps.length ≤ 20 ∧ Dice K Hk d ∧ Fr [d] H Hk) ⟨ps, _, _, _, rfl, rB, pok, cn, pl, Dk, Fk⟩ ?_ ?_
            · rintro i' σ Hk hi' ⟨ps, v7, v8, v9, rfl, ⟨ts, hts, tps⟩, pok, cn, pl, Dk, Fk⟩
              have tpl := tps.length
              refine ⟨_, rfl, _, rfl, by show 2 ≤ sizeLine; decide, fun A1 nA => ?_⟩
              have hA1 : upd Hk A1 (.tup ([0 + (i' : Int), 0 + (i : Int)].map V.int)) A1 = some (.tup ([0 + (i' : Int), 0 + (i : Int)].map V.int)) := upd_same
              have f1 : Fr [] Hk (upd Hk A1 (.tup ([0 + (i' : Int), 0 + (i : Int)].map V.int))) := Fr.new nA
              have hts1 := f1.keep _ _ (by simp) hts
              have tps1 := tps.fr f1
              have D1' := Dk.fr f1 (by simp)
              have F01 := Fk.trans (f1.mono (by simp) : Fr [d] _ _)
              refine ⟨_, rfl, _, _, dp_row hA1, .lst (SqL.of hts1) (dp_rows (r := r2) tps1), dI_shaped _, by rw [map_dI]; exact dIs_shaped _, ?_⟩
              have e := any_eqv (r := r2) (fun _ _ => r2_inj) (0 + (i' : Int), 0 + (i : Int)) ps
              show ∃ k, V.bl (!(ps.map fun x => dI (r2 x)).any fun z => PyData.eqv z (dI (r2 (0 + (i' : Int), 0 + (i : Int))))) = V.bl k ∧ _
              rw [e]
              refine ⟨_, rfl, ite2 (fun c2 => ?_) (fun c2 => iteF ?_)⟩
              · have hn : (0 + (i' : Int), 0 + (i : Int)) ∉ ps := by simpa using c2
                refine ⟨_, rfl, B, _, rfl, .inl (SqL.of hts1), _, _, rfl, rfl, _, rfl, ite2 (fun c3 => ?_) (fun c3 => ?_)⟩
                · have l20 : ((ts.map V.ref).length : Int) < 20 := of_decide_eq_true c3
                  rw [List.length_map] at l20
                  refine ⟨_, rfl, .inl ⟨rfl, _, .inl (.inl hts1)⟩, _, rfl, _, rfl, B, _, rfl, .inl (SqL.of hts1), _, _, rfl, rfl, d, _, rfl, ?_, ?_, D1', fun H8 q q0 q1 D8 F8 => ?_⟩
                  · rw [List.length_map]
                    omega
                  · rw [List.length_map]
                    omega
                  have hts8 := F8.keep _ _ (by simp [dB]) hts1
                  rw [List.length_map] at q1
                  refine ⟨_, rfl, _, rfl, by show 2 ≤ sizeLine; decide, fun A2 nA2 => ?_⟩
                  have hA2 : upd H8 A2 (.tup ([0 + (i' : Int), 0 + (i : Int)].map V.int)) A2 = some (.tup ([0 + (i' : Int), 0 + (i : Int)].map V.int)) := upd_same
                  have f2 : Fr [] H8 (upd H8 A2 (.tup ([0 + (i' : Int), 0 + (i : Int)].map V.int))) := Fr.new nA2
                  have hts9 := f2.keep _ _ (by simp) hts8
                  refine ⟨B, _, q, .ref A2, rfl, rfl, hts9, by rw [List.length_map]; exact small1000 (by omega), q0, by omega, ?_⟩
                  refine ⟨_, _, _, _, rfl, Rws.ins (x := (0 + (i' : Int), 0 + (i : Int))) hts9 ((tps1.fr F8).fr f2) hA2 q.toNat, pok.ins ⟨by show (0 : Int) ≤ 0 + (i' : Int); omega, by show 0 + (i' : Int) < 0 + (i : Int); omega, by show 0 + (i : Int) < n; omega⟩ hn _,
                    fun x h0 h1 => (cn x h0 h1).ins _ _, ?_, (D8.fr f2 (by simp)).put hts9 dB, ((F01.trans F8).trans (f2.mono (by simp))).put hHB⟩
                  rw [ins_len]
                  omega
                · exact ⟨_, _, _, _, rfl, ⟨ts, hts1, tps1⟩, pok, cn, pl, D1', F01⟩
              · exact ⟨_, _, _, _, rfl, ⟨ts, hts1, tps1⟩, pok, cn, pl, D1', F01⟩
            · rintro σ Hk ⟨ps, v7, v8, v9, rfl, rB, pok, cn, pl, Dk, Fk⟩
              exact ⟨ps, _, _, _, _, rfl, rB, pok, cn, pl, Dk, Fk⟩
          · rintro σ Hk ⟨ps, v5, v7, v8, v9, rfl, ⟨ts, hts, tps⟩, pok, cn, pl, Dk, Fk⟩
            have tpl := tps.length
            refine ⟨_, _, rfl, rfl, RgOk.of_le (by decide) (by decide) (by decide) (by decide), fun C nC => ?_⟩
            have fC : Fr [] Hk (upd Hk C (.lst (rgV 1 100))) := Fr.new nC
            have hCd : C ≠ d := Dk.ne nC
            have hHC : H C = none := Fk.free nC (by simp [hCd])
            have hCB : C ≠ B := fun e => by rw [e, hts] at nC; cases nC
            have htsC := fC.keep _ _ (by simp) hts
            refine ⟨_, rfl, _, rfl, B, rfl, ⟨_, SqL.of htsC⟩, fun D nD => ?_⟩
            have DC := Dk.new (o := .lst (rgV 1 100)) nC
            have hDd : D ≠ d := DC.ne nD
            have hHD : H D = none := (Fk.put (o := .lst (rgV 1 100)) hHC).free nD (by simp [hDd])
            have hDB : D ≠ B := fun e => by rw [e, htsC] at nD; cases nD
            have hDC : D ≠ C := fun e => by rw [e, upd_same] at nD; cases nD
            refine lc_list (K := K) (a := B) (xs := ts.map V.ref) (fun i Hj => ∃ (cs : List Int) (rs : List Rd3), Hj C = some (.lst (cs.map V.int)) ∧ Rws g3 Hj D rs ∧ rs.map pr = ps.take i ∧
              (rs.map cst ++ cs).Perm ((List.range 99).map fun (j : Nat) => (1 : Int) + j) ∧ Dice K Hj d ∧ Fr [d] H Hj ∧ Hj B = some (.lst (ts.map V.ref)) ∧ Tup g2 Hj ts ps) ?_ ?_ ?_ ?_
            · refine ⟨(List.range 99).map fun (j : Nat) => (1 : Int) + j, [], ?_, ⟨[], upd_same, .nil⟩, rfl, List.Perm.refl _, DC.new nD, (Fk.put hHC).put hHD, by rw [upd_ne hDB.symm]; exact htsC, (tps.fr fC).fr (Fr.new nD : Fr [] _ _)⟩
              rw [upd_ne hDC.symm, upd_same, rgV_from]
              rfl
            · rintro i Hj hi ⟨cs, rs, hC, rD, er, pm, Dj, Fj, hB, tB⟩
              exact SqL.of hB
            · rintro i x Hj hx ⟨cs, rs, hC, ⟨us, hD, tD⟩, er, pm, Dj, Fj, hB, tB⟩
              obtain ⟨t, ht, rfl⟩ := refs_get hx
              obtain ⟨p, hp, hpt⟩ := pgetL tB ht
              have hi : i < ps.length := (List.getElem?_eq_some_iff.mp hp).1
              have rl : rs.length = i := by
                have := congrArg List.length er
                simp at this
                omega
              have cl : cs.length = 99 - i := by
                have := pm.length_eq
                simp at this
                omega
              refine ⟨rfl, ?_⟩
              refine ⟨_, rfl, _, rfl, .inl ⟨rfl, _, .inl (.inl hC)⟩, _, rfl, _, rfl, C, _, rfl, .inl (SqL.of hC), d, _, rfl, ?_, ?_, Dj, fun H2 q q0 q1 D2 F2 => ?_⟩
              · rw [List.length_map]
                omega
              · rw [List.length_map]
                omega
              rw [List.length_map] at q1
              have hC2 := F2.keep _ _ (by simp [hCd]) hC
              have hD2 := F2.keep _ _ (by simp [hDd]) hD
              have hB2 := F2.keep _ _ (by simp [dB]) hB
              have hq : q.toNat < cs.length := by omega
              have gq : cs[q.toNat]? = some cs[q.toNat] := List.getElem?_eq_getElem hq
              refine ⟨C, _, q, q.toNat, _, rfl, rfl, hC2, by omega, by omega, seqIx q0 (by rw [List.length_map]; exact q1), get_ints gq, by show 1 ≤ sizeLine; decide, fun A1 nA => ?_⟩
              have fq : Fr [C] H2 (upd H2 C (.lst ((cs.map V.int).eraseIdx q.toNat))) := Fr.lst hC2 (List.mem_singleton.mpr rfl)
              have hA1 : C ≠ A1 := fun e => by rw [← e, upd_same] at nA; cases nA
              refine ⟨t, A1, _, _, rfl, rfl, (Fr.new nA : Fr [] _ _).sqT (SqT.of (fq.tup _ _ (F2.tup _ _ hpt))), SqT.of upd_same, by unfold g2; simp, by show 3 ≤ sizeLine; decide, (fun z => by cases z), fun _ A2 nA2 => ?_⟩
              have f9 : Fr [C] H2 (upd (upd (upd H2 C (.lst ((cs.map V.int).eraseIdx q.toNat))) A1 (.tup [.int cs[q.toNat]])) A2 (.tup (g2 p ++ [.int cs[q.toNat]]))) := (fq.trans (Fr.new nA)).trans (Fr.new nA2)
              have hD9 := f9.keep _ _ (by simp [hDC]) hD2
              have hA2C : C ≠ A2 := fun e => by
                rw [← e, upd_ne hA1, upd_same] at nA2
                cases nA2
              refine ⟨_, hD9, by rw [List.length_map]; exact small1000 (by have := tD.length; omega), cs.eraseIdx q.toNat, rs ++ [(p.1, p.2, cs[q.toNat])], ?_, Rws.app hD9 ((tD.fr F2).fr f9) (by rw [upd_same]; rfl), ?_, ?_, ?_, ?_, ?_, ?_⟩
              · rw [upd_ne hDC.symm, upd_ne hA2C, upd_ne hA1, upd_same, map_eraseIdx]
              · rw [List.map_append, er, List.take_succ, hp]
                rfl
              · rw [List.map_append, List.append_assoc]
                exact ((erase_perm gq).append_left (rs.map cst)).trans pm
              · exact (D2.fr f9 (by simp [hCd.symm])).put hD9 hDd
              · exact (((Fj.trans F2).put hHC).trans (((Fr.new nA).trans (Fr.new nA2)))).put hHD
              · rw [upd_ne hDB.symm]
                exact f9.keep _ _ (by simp [hCB.symm]) hB2
              · exact ((tB.fr F2).fr f9).fr (Fr.lst hD9 (List.mem_singleton.mpr rfl) : Fr [D] _ _)
            · rintro Hj ⟨cs, rs, hC, rD, er, pm, Dj, Fj, hB, tB⟩
              refine ⟨by show 2 ≤ sizeLine; decide, fun Z nZ => ?_⟩
              rw [List.length_map, tpl, List.take_length] at er
              have fZ : Fr [] Hj (upd Hj Z (.tup [.int n, .ref D])) := Fr.new nZ
              have hZd : Z ≠ d := Dj.ne nZ
              refine k _ Z D n rs n8 ?_ (Fj.free nZ (by simp [hZd])) hHD upd_same (rD.fr fZ (by simp)) (Dj.fr fZ (by simp)) (Fj.trans (fZ.mono (by simp)))
              have cnd : (rs.map cst).Nodup := by
                have h1 : (rs.map cst ++ cs).Nodup := pm.nodup_iff.mpr (List.nodup_range.map_of_inj fun a b e => by omega)
                exact (List.nodup_append.mp h1).1
              refine ⟨by omega, by omega, ?_, fun r hr => ?_, by rw [er]; exact pok.nd, cnd, fun x h0 h1 => by rw [er]; exact cn x h0 h1⟩
              · have := congrArg List.length er
                simp at this
                omega
              · have h1 := pok.rng (pr r) (by rw [← er]; exact List.mem_map_of_mem hr)
                have h2 : cst r ∈ (List.range 99).map fun (j : Nat) => (1 : Int) + j := pm.mem_iff.mp (List.mem_append_left _ (List.mem_map_of_mem hr))
                obtain ⟨j, hj, e⟩ := List.mem_map.mp h2
                have := List.mem_range.mp hj
                exact ⟨h1.1, h1.2.1, h1.2.2, by show 1 ≤ cst r; omega, by show cst r ≤ 99; omega⟩
end
end LT
namespace LT
open PySem L2
section
variable {P : Program} {w : World} {K : PySem.W.Frag} {mg : Str → Option Value} {base : Heap}
def acrossV (r : Rd3) (h : Int) : V := if h = r.1 then .int r.2.1 else if h = r.2.1 then .int r.1 else .non
def spAcross : Sp := fun vs H Q _ => ∃ (t : Addr) (r : Rd3) (h : Int), vs = [.ref t, .int h] ∧ H t = some (.tup (g3 r)) ∧ Q (acrossV r h) H
theorem ok__across (T : Txt K mg) : FnOk P w K mg base CX0 1 T.a__across T.d__across ["road", "hand"] spAcross := by
  refine T.F__across.ok sc__across (fun vs H Q E h => ?_) (fun cdv A outer s H vs Q E hr h => ?_)
  · obtain ⟨d, n, _, rfl, _⟩ := h
    rfl
  · obtain ⟨t, r, h, rfl, ht, k⟩ := h
    unfold acrossV at k
    refine ⟨_, (pss_cons (ps_asg (pv 0) (pg_tup rfl (pgs_cons (pg_name (i := 2) sc__across.nd rfl (Or.inl rfl)) (pgs_cons (pg_name (i := 3) sc__across.nd rfl (Or.inl rfl)) (pgs_cons (pg_name (i := 4) sc__across.nd rfl (Or.inl rfl)) pgs_nil)))))
 (pss_cons (ps_if (pt_cmpR op_eq (pv 1) (pv 2) (nomark _)) (pss_one (ps_ret (pv 3))) pss_nil)
 (pss_cons (ps_if (pt_cmpR op_eq (pv 1) (pv 3) (nomark _)) (pss_one (ps_ret (pv 2))) pss_nil)
 (pss_one (ps_ret pe_non))))), ?_⟩
    refine ⟨_, rfl, t, _, rfl, SqT.of ht, rfl, ?_⟩
    refine ⟨_, _, rfl, _, _, rfl, _, _, rfl, rfl, ?_⟩
    refine ⟨_, rfl, _, rfl, rfl, _, rfl, ite2 (fun c => ?_) (fun c => ?_)⟩
    · have e : h = r.1 := by simpa using c
      rw [if_pos e] at k
      exact ⟨_, rfl, k⟩
    · have e : ¬ h = r.1 := by simpa using c
      rw [if_neg e] at k
      refine ⟨_, rfl, _, rfl, rfl, _, rfl, ite2 (fun c => ?_) (fun c => ?_)⟩
      · have e : h = r.2.1 := by simpa using c
        rw [if_pos e] at k
        exact ⟨_, rfl, k⟩
      · have e : ¬ h = r.2.1 := by simpa using c
        rw [if_neg e] at k
        exact k
/-- a road that is bad beside those ahead -/
def isBad (n : Int) (r : Rd3) (as : List Rd3) : Bool :=
  !(decide (0 ≤ r.1) && decide (r.1 < r.2.1) && decide (r.2.1 < n)) || !(decide (1 ≤ r.2.2) && decide (r.2.2 ≤ 99)) || as.any fun q => decide (pr q = pr r) || decide (cst q = cst r)
def spIsBad : Sp := fun vs H Q _ => ∃ (n : Int) (t a : Addr) (r : Rd3) (as : List Rd3), vs = [.int n, .ref t, .ref a] ∧ H t = some (.tup (g3 r)) ∧ Rws g3 H a as ∧
  ∀ H', Fr [] H H' → Q (.bl (isBad n r as)) H'
theorem ok__is_bad (T : Txt K mg) : FnOk P w K mg base CX0 1 T.a__is_bad T.d__is_bad ["hands", "road", "ahead"] spIsBad := by
  refine T.F__is_bad.ok sc__is_bad (fun vs H Q E h => ?_) (fun cdv A outer s H vs Q E hr h => ?_)
  · obtain ⟨_, _, _, _, _, rfl, _⟩ := h
    rfl
  · obtain ⟨n, t, a, r, as, rfl, ht, ha, k⟩ := h
    obtain ⟨one, other, cost⟩ := r
    refine ⟨_, (pss_cons (ps_asg (pv 1) (pg_tup rfl (pgs_cons (pg_name (i := 3) sc__is_bad.nd rfl (Or.inl rfl)) (pgs_cons (pg_name (i := 4) sc__is_bad.nd rfl (Or.inl rfl)) (pgs_cons (pg_name (i := 5) sc__is_bad.nd rfl (Or.inl rfl)) pgs_nil)))))
 (pss_cons (ps_if (pt_not (pt_chain3 op_le op_lt op_lt pe_int (pv 3) (pv 4) (pv 0))) (pss_one (ps_ret pe_bl)) pss_nil)
 (pss_cons (ps_if (pt_not (pt_chain op_le op_le pe_int (pv 5) (pe_glob (v := .int 99) rfl T.g_MOST_COST.choose_spec ⟨_, rfl⟩))) (pss_one (ps_ret pe_bl)) pss_nil)
 (pss_cons (ps_for PassesOwn.never rfl (pi_list (pv 2)) (pg_tup rfl (pgs_cons (pg_name (i := 6) sc__is_bad.nd rfl (Or.inl rfl)) (pgs_cons (pg_name (i := 7) sc__is_bad.nd rfl (Or.inl rfl)) (pgs_cons (pg_name (i := 8) sc__is_bad.nd rfl (Or.inl rfl)) pgs_nil))))
  (pss_one (ps_if (PW.pt (pw_or (pt_cmpR (op_eqD hr.units) (pe_tup (pa_cons (pv 6) (pa_cons (pv 7) pa_nil))) (pe_tup (pa_cons (pv 3) (pa_cons (pv 4) pa_nil))) (nomark _)) (pw_or1 (pt_cmpR op_eq (pv 8) (pv 5) (nomark _))))) (pss_one (ps_ret pe_bl)) pss_nil)))
 (pss_one (ps_ret pe_bl)))))), ?_⟩
    refine ⟨_, rfl, t, _, rfl, SqT.of ht, rfl, ?_⟩
    refine ⟨_, _, rfl, _, _, rfl, _, _, rfl, rfl, ?_⟩
    have yes : ((!(decide (0 ≤ one) && decide (one < other) && decide (other < n))) = true ∨ (!(decide (1 ≤ cost) && decide (cost ≤ 99))) = true ∨
        (as.any fun q => decide (pr q = (one, other)) || decide (cst q = cost)) = true) → ∀ H', Fr [] H H' → Q (.bl true) H' := fun e H' f => by
      have z : isBad n (one, other, cost) as = true := by
        show (!(decide (0 ≤ one) && decide (one < other) && decide (other < n)) || !(decide (1 ≤ cost) && decide (cost ≤ 99)) || as.any fun q => decide (pr q = (one, other)) || decide (cst q = cost)) = true
        rcases e with e | e | e <;> rw [e] <;> simp
      rw [← z]
      exact k H' f
    refine ⟨_, rfl, _, _, rfl, rfl, _, rfl, ite2 (fun c1 => ?_) (fun c1 => iteT (yes (.inl ?_) _ (Fr.refl _ _)))⟩
    · refine ⟨_, rfl, _, _, rfl, rfl, _, rfl, ite2 (fun c2 => ?_) (fun c2 => iteT (yes (.inl ?_) _ (Fr.refl _ _)))⟩
      · refine ⟨_, rfl, _, _, rfl, rfl, _, rfl, ?_⟩
        by_cases c3 : decide (other < n) = true
        · rw [c3]
          refine iteF ?_
          refine ⟨_, rfl, _, _, rfl, rfl, _, rfl, ite2 (fun d1 => ?_) (fun d1 => ⟨false, rfl, iteT (yes (.inr (.inl ?_)) _ (Fr.refl _ _))⟩)⟩
          · refine ⟨_, _, rfl, rfl, _, rfl, ?_⟩
            by_cases d2 : decide (cost ≤ 99) = true
            · rw [d2]
              refine iteF ?_
              have good : isBad n (one, other, cost) as = as.any fun q => decide (pr q = (one, other)) || decide (cst q = cost) := by
                show (!(decide (0 ≤ one) && decide (one < other) && decide (other < n)) || !(decide (1 ≤ cost) && decide (cost ≤ 99)) || as.any fun q => decide (pr q = (one, other)) || decide (cst q = cost)) = _
                rw [c1, c2, c3, d1, d2]
                rfl
              obtain ⟨ts, hts, tps⟩ := ha
              refine ⟨_, rfl, a, rfl, ⟨_, SqL.of hts⟩, for_list (K := K) (a := a) (xs := ts.map V.ref) (fun i σ H' => Fr [] H H' ∧ (as.take i).any (fun q => decide (pr q = (one, other)) || decide (cst q = cost)) = false ∧
                ∃ v6 v7 v8 : Option V, σ = [some (.int n), some (.ref t), some (.ref a), some (.int one), some (.int other), some (.int cost), v6, v7, v8]) ⟨Fr.refl _ _, rfl, _, _, _, rfl⟩ (fun i σ H' _ hh => SqL.of (hh.1.keep _ _ (by simp) hts)) ?_ ?_⟩
              · rintro i x σ H' hx ⟨f, al, v6, v7, v8, rfl⟩
                obtain ⟨u, hu, rfl⟩ := refs_get hx
                obtain ⟨q, hq, hqu⟩ := pgetL tps hu
                have ev : ∀ b, (decide (pr q = (one, other)) || decide (cst q = cost)) = b → (as.take (i + 1)).any (fun q => decide (pr q = (one, other)) || decide (cst q = cost)) = b := fun b e => by
                  rw [List.take_succ, hq, List.any_append, al]
                  simp [e]
                refine ⟨u, _, rfl, SqT.of (f.tup _ _ hqu), rfl, ?_⟩
                refine ⟨_, _, rfl, _, _, rfl, _, _, rfl, rfl, ?_⟩
                refine ⟨_, rfl, _, rfl, by show 2 ≤ sizeLine; decide, fun A1 nA => ?_⟩
                refine ⟨_, rfl, _, rfl, by show 2 ≤ sizeLine; decide, fun A2 nA2 => ?_⟩
                have f2 : Fr [] H' (upd (upd H' A1 (.tup (([q.1, q.2.1] : List Int).map V.int))) A2 (.tup (([one, other] : List Int).map V.int))) := (Fr.new nA).trans (Fr.new nA2)
                have h1 : (upd (upd H' A1 (.tup (([q.1, q.2.1] : List Int).map V.int))) A2 (.tup (([one, other] : List Int).map V.int))) A1 = some (.tup (([q.1, q.2.1] : List Int).map V.int)) := by
                  rw [upd_ne (ne_of_none upd_same nA2), upd_same]
                refine ⟨_, _, dp_row h1, dp_row (r := [one, other]) upd_same, dI_shaped _, dI_shaped _, ?_⟩
                rw [dI_eqv]
                have e2 : decide ([q.1, q.2.1] = [one, other]) = decide (pr q = (one, other)) := by simp [pr]
                rw [e2]
                refine ⟨_, rfl, ite2 (fun e => iteT ?_) (fun e => ?_)⟩
                · refine yes (.inr (.inr ?_)) _ (f.trans f2)
                  rw [← List.take_append_drop (i + 1) as, List.any_append, ev true (by rw [e]; rfl)]
                  rfl
                · refine ⟨_, rfl, _, rfl, rfl, _, rfl, ite2 (fun e3 => ?_) (fun e3 => ?_)⟩
                  · refine yes (.inr (.inr ?_)) _ (f.trans f2)
                    have e4 : decide (cst q = cost) = true := decide_eq_true (by simpa [cst] using e3)
                    rw [← List.take_append_drop (i + 1) as, List.any_append, ev true (by rw [e4]; simp)]
                    rfl
                  · have e4 : decide (cst q = cost) = false := decide_eq_false (by simpa [cst] using e3)
                    exact ⟨f.trans f2, ev false (by rw [e4, Bool.eq_false_iff.mpr e]; rfl), _, _, _, rfl⟩
              · rintro σ H' ⟨f, al, v6, v7, v8, rfl⟩
                rw [List.length_map, tps.length, List.take_length] at al
                show Q (.bl false) H'
                rw [← al, ← good]
                exact k H' f
            · rw [Bool.eq_false_iff.mpr d2]
              refine iteT (yes (.inr (.inl ?_)) _ (Fr.refl _ _))
              rw [Bool.eq_false_iff.mpr d2]
              simp
          · rw [Bool.eq_false_iff.mpr d1]
            simp
        · rw [Bool.eq_false_iff.mpr c3]
          refine iteT (yes (.inl ?_) _ (Fr.refl _ _))
          rw [Bool.eq_false_iff.mpr c3]
          simp
      · rw [Bool.eq_false_iff.mpr c2]
        simp
    · rw [Bool.eq_false_iff.mpr c1]
      simp
end
end LT
namespace LT
open PySem L2
section
variable {P : Program} {w : World} {K : PySem.W.Frag} {mg : Str → Option Value} {base : Heap}
/-- what _paths hands back -/
structure PathsOk (rs : List Rd3) (ks : List Int) (n start : Int) (H0 H : Hp) (p : Addr) (es : List Ent) : Prop where
  dict : H p = some (.dK (kvOf es))
  met : ∃ W, Met rs ks n start H0 H W es
  closed : ∀ h ∈ es.map (·.1), ∀ k ∈ ks, ∀ c, Edge rs k h c → c ∈ es.map (·.1)
def spPaths : Sp := fun vs H Q _ => ∃ (ra na : Addr) (start n : Int) (rs : List Rd3) (ks : List Int), vs = [.ref ra, .ref na, .int start] ∧ Rws g3 H ra rs ∧ H na = some (.lst (ks.map V.int)) ∧
  0 ≤ start ∧ start < n ∧ n ≤ 8 ∧ (∀ r ∈ rs, 0 ≤ r.1 ∧ r.1 < r.2.1 ∧ r.2.1 < n) ∧ (∀ k ∈ ks, 0 ≤ k ∧ k < rs.length) ∧
  ∀ (H' : Hp) (p : Addr) (es : List Ent), Fr [] H H' → H p = none → PathsOk rs ks n start H H' p es → Q (.ref p) H'
theorem acrossV_edge {rs : List Rd3} {r : Rd3} {k h : Int} (lt : r.1 < r.2.1) (k0 : 0 ≤ k) (hr : rs[k.toNat]? = some r) :
    (acrossV r h = .non ∧ ∀ c, ¬ Edge rs k h c) ∨ ∃ c, acrossV r h = .int c ∧ (c = r.1 ∨ c = r.2.1) ∧ Edge rs k h c ∧ ∀ c', Edge rs k h c' → c' = c := by
  have un : ∀ c, Edge rs k h c → (h = r.1 ∧ c = r.2.1) ∨ (h = r.2.1 ∧ c = r.1) := fun c hc => by
    obtain ⟨_, r', hr', hc⟩ := hc
    rw [hr] at hr'
    cases hr'
    exact hc
  unfold acrossV
  by_cases e1 : h = r.1
  · rw [if_pos e1]
    refine .inr ⟨r.2.1, rfl, .inr rfl, ⟨k0, r, hr, .inl ⟨e1, rfl⟩⟩, fun c' hc => ?_⟩
    rcases un c' hc with ⟨_, h2⟩ | ⟨h1, _⟩
    · exact h2
    · omega
  · rw [if_neg e1]
    by_cases e2 : h = r.2.1
    · rw [if_pos e2]
      refine .inr ⟨r.1, rfl, .inl rfl, ⟨k0, r, hr, .inr ⟨e2, rfl⟩⟩, fun c' hc => ?_⟩
      rcases un c' hc with ⟨h1, _⟩ | ⟨_, h2⟩
      · exact absurd h1 e1
      · exact h2
    · rw [if_neg e2]
      refine .inl ⟨rfl, fun c hc => ?_⟩
      rcases un c hc with ⟨h1, _⟩ | ⟨h1, _⟩
      · exact e1 h1
      · exact e2 h1
/-- the state of _paths between two turns of its while -/
structure PathsW (rs : List Rd3) (ks : List Int) (n start : Int) (H0 : Hp) (ra na P W : Addr) (m : Nat) (es : List Ent) (ws : List Int) (H : Hp) : Prop where
  fr : Fr [] H0 H
  hP : H P = some (.dK (kvOf es))
  hW : H W = some (.lst (ws.map V.int))
  met : Met rs ks n start H0 H W es
  sub : ∀ h ∈ ws, h ∈ es.map (·.1)
  size : 2 * (8 - es.length) + ws.length = m
  top : m ≤ 15
theorem ok__paths (T : Txt K mg) : FnOk P w K mg base CX0 2 T.a__paths T.d__paths ["roads", "numbers", "start"] spPaths := by
  have G__across : FnOk P w K mg base CX0 1 T.a__across T.d__across ["road", "hand"] spAcross := ok__across T
  refine T.F__paths.ok sc__paths (fun vs H Q E h => ?_) (fun cdv A outer s H vs Q E hr h => ?_)
  · obtain ⟨_, _, _, _, _, _, rfl, _⟩ := h
    rfl
  · obtain ⟨ra, na, start, n, rs, ks, rfl, hra, hna, s0, s1, n8, rrg, krg, k⟩ := h
    refine ⟨_, (pss_cons (ps_set (i := 3) sc__paths.nd rfl (Or.inl rfl) (pe_disp (pps_cons (pv 2) (pe_lst pa_nil) pps_nil) (by rfl) (by rfl) (fun z => by cases z) (by decide)))
 (pss_cons (ps_set (i := 4) sc__paths.nd rfl (Or.inl rfl) (pe_lst (pa_cons (pv 2) pa_nil)))
 (pss_cons (ps_while PassesOwn.never (pt_truth (pv 4) (by intro _; rfl))
  (pss_cons (ps_set (i := 5) sc__paths.nd rfl (Or.inl rfl) (pe_bm0 PySem.F.plainAttrs_list PySem.F.slot_list_pop PySem.F.type_list_pop mt_pop (pv 4)))
 (pss_one (ps_for PassesOwn.never rfl (pi_list (pv 1)) (pg_name (i := 6) sc__paths.nd rfl (Or.inl rfl))
  (pss_cons (ps_set (i := 7) sc__paths.nd rfl (Or.inl rfl) (pe_call G__across (hr.mono (by decide)) rfl T.g__across T.F__across.kp T.b__across .nil pass0 (pa_cons (pe_ix ix_list (pv 0) (pv 6) (fun _ _ => rfl)) (pa_cons (pv 5) pa_nil))))
 (pss_one (ps_if (PW.pt (pw_and (pt_cmpR op_notN (pv 7) pe_non (nomark _)) (pw_and1 (pt_cmp (pc_dnotin (hu_of hr) (pv 7) (pv 3)))))) (pss_cons (ps_dput (hu_of hr) (pv 3) (pv 7) (pe_op op_cat (pe_dget (hu_of hr) (pv 3) (pv 5) (fun _ _ => rfl)) (pe_lst (pa_cons (pv 6) pa_nil))) rfl)
 (pss_one (ps_expr (pe_bm PySem.F.plainAttrs_list PySem.F.slot_list_append PySem.F.type_list_append mt_append (pv 4) (pa_cons (pv 7) pa_nil))))) pss_nil)))))))
 (pss_one (ps_ret (pv 3)))))), ?_⟩
    refine fun P1 nP => ⟨_, rfl, Nat.zero_le _, fun L0 nL0 => ?_⟩
    have hPL : P1 ≠ L0 := fun e => by rw [← e, upd_same] at nL0; cases nL0
    refine ⟨by rw [upd_ne hPL, upd_same], [(Sum.inl start, V.ref L0)], rfl, by show 1 ≤ 15; decide, ?_⟩
    refine ⟨_, rfl, by show 1 ≤ sizeLine; decide, fun W nW => ?_⟩
    have hH0 : H L0 = none := (Fr.new nP : Fr [] H _).free nL0 (by simp)
    have hWP : P1 ≠ W := fun e => by rw [← e, upd_same] at nW; cases nW
    have hWL : L0 ≠ W := fun e => by rw [← e, upd_ne hPL.symm, upd_same] at nW; cases nW
    have f0 : Fr [] H (upd (upd (upd (upd H P1 (.dK [])) L0 (.lst [])) P1 (.dK (mergeK [] [(Sum.inl start, V.ref L0)]))) W (.lst [.int start])) := by
      have f : Fr [] H (upd (upd (upd H P1 (.dK [])) L0 (.lst [])) P1 (.dK (mergeK [] [(Sum.inl start, V.ref L0)]))) := ((Fr.new nP).trans (Fr.new nL0)).put nP
      exact f.trans (Fr.new nW)
    have hHW : H W = none := by
      have f : Fr [] H (upd (upd (upd H P1 (.dK [])) L0 (.lst [])) P1 (.dK (mergeK [] [(Sum.inl start, V.ref L0)]))) := ((Fr.new nP).trans (Fr.new nL0)).put nP
      exact f.free nW (by simp)
    refine ⟨fun m σ H' => ∃ (es : List Ent) (ws : List Int) (v5 v6 v7 : Option V), σ = [some (.ref ra), some (.ref na), some (.int start), some (.ref P1), some (.ref W), v5, v6, v7] ∧
      PathsW rs ks n start H ra na P1 W m es ws H' ∧ ∀ h ∈ es.map (·.1), h ∉ ws → ∀ k ∈ ks, ∀ c, Edge rs k h c → c ∈ es.map (·.1), ⟨15, [(start, L0)], [start], _, _, _, rfl, ?_, ?_⟩, ?_⟩
    · refine ⟨f0, by rw [upd_ne hWP, upd_same]; rfl, upd_same, ⟨by simp, by simp, fun h hh => ?_, fun e he => ?_⟩, fun h hh => by simpa using hh, rfl, by decide⟩
      · have : h = start := by simpa using hh
        omega
      · have : e = (start, L0) := by simpa using he
        subst this
        exact ⟨hWL, hH0, [], [start], by rw [upd_ne hWL, upd_ne hPL.symm, upd_same]; rfl, .nil, fun v hv => by simpa using hv⟩
    · intro h hh hn
      exact absurd (by simpa using hh) hn
    · rintro m σ Hw ⟨es, ws, v5, v6, v7, rfl, st, cl⟩
      obtain ⟨f, hP, hW, met, sub, size, top⟩ := st
      refine ⟨_, rfl, _, .inl ⟨_, SqL.of hW, rfl⟩, ?_⟩
      cases hws : ws with
      | nil =>
        refine iteF ?_
        subst hws
        exact ⟨_, rfl, k _ _ es f nP ⟨hP, ⟨W, met⟩, fun h hh => cl h hh (by simp)⟩⟩
      | cons w0 wr =>
        have hne : ws ≠ [] := by rw [hws]; simp
        rw [← hws]
        have he : (!(ws.map V.int).isEmpty) = true := by rw [hws]; rfl
        rw [he]
        refine iteT ?_
        obtain ⟨wr', here, ew⟩ : ∃ wr' here, ws = wr' ++ [here] := ⟨ws.dropLast, ws.getLast hne, (List.dropLast_concat_getLast hne).symm⟩
        clear hws he hne
        subst ew
        refine ⟨fun σ' H' => ∃ m', m' < m ∧ ∃ (es : List Ent) (ws : List Int) (v5 v6 v7 : Option V), σ' = [some (.ref ra), some (.ref na), some (.int start), some (.ref P1), some (.ref W), v5, v6, v7] ∧
          PathsW rs ks n start H ra na P1 W m' es ws H' ∧ ∀ h ∈ es.map (·.1), h ∉ ws → ∀ k ∈ ks, ∀ c, Edge rs k h c → c ∈ es.map (·.1), fun σ' H' hh => hh, ?_⟩
        have lst : ((wr' ++ [here]).map V.int)[((wr' ++ [here]).map V.int).length - 1]? = some (.int here) := by
          rw [List.length_map, List.length_append]
          refine get_ints ?_
          simp
        refine ⟨_, rfl, .inl ⟨rfl, _, .inl (.inl hW)⟩, W, _, .int here, rfl, rfl, hW, lst, ?_⟩
        have dl : ((wr' ++ [here]).map V.int).dropLast = wr'.map V.int := by simp
        have hWna : na ≠ W := fun e => by rw [e, hHW] at hna; cases hna
        have fW : Fr [W] Hw (upd Hw W (.lst ((wr' ++ [here]).map V.int).dropLast)) := Fr.lst hW (List.mem_singleton.mpr rfl)
        have f1 : Fr [] H (upd Hw W (.lst ((wr' ++ [here]).map V.int).dropLast)) := f.put hHW
        have hhere := sub here (by simp)
        have sz : 2 * (8 - es.length) + wr'.length < m := by
          rw [List.length_append] at size
          simp at size
          omega
        refine ⟨_, rfl, na, rfl, ⟨_, SqL.of (f1.keep _ _ (by simp) hna)⟩, ?_⟩
        refine for_list (K := K) (a := na) (xs := ks.map V.int) (fun i σ' H' => ∃ (m' : Nat) (es : List Ent) (ws : List Int) (v6 v7 : Option V), m' < m ∧ σ' = [some (.ref ra), some (.ref na), some (.int start), some (.ref P1), some (.ref W), some (.int here), v6, v7] ∧
          PathsW rs ks n start H ra na P1 W m' es ws H' ∧ here ∈ es.map (·.1) ∧ (∀ h ∈ es.map (·.1), h ∉ ws → h ≠ here → ∀ k ∈ ks, ∀ c, Edge rs k h c → c ∈ es.map (·.1)) ∧ ∀ k ∈ ks.take i, ∀ c, Edge rs k here c → c ∈ es.map (·.1)) ?_ ?_ ?_ ?_
        · refine ⟨_, es, wr', _, _, sz, rfl, ⟨f1, ?_, ?_, met.fr fW fun e he => ?_, fun h hh => sub h (by simp [hh]), rfl, by omega⟩, hhere, fun h hh hn hne k hk c hc => cl h hh ?_ k hk c hc, fun k hk => by simp at hk⟩
          · rw [upd_ne hWP]
            exact hP
          · rw [upd_same, dl]
          · simp
            exact (met.way e he).1
          · simp [hn, hne]
        · rintro i σ' H' _ ⟨m', es, ws, v6, v7, _, rfl, st, _⟩
          exact SqL.of (st.fr.keep _ _ (by simp) hna)
        · rintro i x σ' H' hx ⟨m', es, ws, v6, v7, ml, rfl, ⟨f, hP, hW, met, sub, size, top⟩, hh, cl, done⟩
          obtain ⟨q, hq, rfl⟩ := ints_get hx
          obtain ⟨q0, q1⟩ := krg q (List.mem_of_getElem? hq)
          have hr : rs[q.toNat]? = some rs[q.toNat] := List.getElem?_eq_getElem (by omega)
          obtain ⟨ts, hts, tps⟩ := hra.fr f (by simp)
          obtain ⟨t, ht, htt⟩ := pget tps hr
          have rr := rrg _ (List.mem_of_getElem? hr)
          refine ⟨_, rfl, _, rfl, ra, _, q, .ref t, rfl, rfl, SqL.of hts, at_of (show q = (q.toNat : Nat) by omega) (by rw [List.getElem?_map, ht]; rfl), _, rfl, t, rs[q.toNat], here, rfl, htt, ?_⟩
          have step : ∀ c', c' ∈ es.map (·.1) → (∀ c, Edge rs q here c → c = c') → ∀ k ∈ ks.take (i + 1), ∀ c, Edge rs k here c → c ∈ es.map (·.1) := fun c' hc' un k hk c hc => by
            rw [List.take_succ, hq] at hk
            rcases List.mem_append.mp hk with hk | hk
            · exact done k hk c hc
            · have e : k = q := by simpa using hk
              rw [e] at hc
              rw [un c hc]
              exact hc'
          rcases acrossV_edge (h := here) rr.2.1 q0 hr with ⟨ea, ne⟩ | ⟨c, ea, cr, ed, un⟩
          · rw [ea]
            refine ⟨_, rfl, rfl, _, rfl, iteF ?_⟩
            exact ⟨m', es, ws, _, _, ml, rfl, ⟨f, hP, hW, met, sub, size, top⟩, hh, cl, step here hh fun c hc => absurd hc (ne c)⟩
          · rw [ea]
            refine ⟨_, rfl, rfl, _, rfl, iteT ?_⟩
            by_cases hc : c ∈ es.map (·.1)
            · obtain ⟨la, _, hv⟩ := val_some hc
              refine ⟨_, rfl, _, rfl, P1, _, rfl, DGet.k (k := Sum.inl c) hP, _, rfl, ?_⟩
              rw [hv]
              refine iteF ?_
              exact ⟨m', es, ws, _, _, ml, rfl, ⟨f, hP, hW, met, sub, size, top⟩, hh, cl, step c hc un⟩
            · refine ⟨_, rfl, _, rfl, P1, _, rfl, DGet.k (k := Sum.inl c) hP, _, rfl, ?_⟩
              rw [val_none hc]
              refine iteT ?_
              obtain ⟨la, hla, hv⟩ := val_some hh
              obtain ⟨w1, w2, ns, vs, w3, w4, w5⟩ := met.way _ hla
              have pl := w4.len
              have pn := nodup_bound n.toNat vs w4.nd fun x hx => by
                have := met.rg x (w5 x hx)
                omega
              refine ⟨_, rfl, _, rfl, P1, .ref la, rfl, ?_, ?_⟩
              · rw [← hv]
                exact DGet.k (k := Sum.inl here) hP
              refine ⟨_, rfl, by show 1 ≤ sizeLine; decide, fun A1 nA => ?_⟩
              refine ⟨la, A1, _, _, rfl, rfl, (Fr.new nA : Fr [] _ _).keep _ _ (by simp) w3, upd_same, ?_, fun A2 nA2 => ?_⟩
              · rw [List.length_map]
                exact Nat.le_of_lt (small1000 (by simp; omega))
              have f2 : Fr [] H' (upd (upd H' A1 (.lst [.int q])) A2 (.lst (ns.map V.int ++ [.int q]))) := (Fr.new nA).trans (Fr.new nA2)
              have hP2 := f2.keep _ _ (by simp) hP
              have hW2 := f2.keep _ _ (by simp) hW
              have nA20 : H' A2 = none := (Fr.new nA : Fr [] H' _).free nA2 (by simp)
              have A2P : A2 ≠ P1 := fun e => by rw [e, hP] at nA20; cases nA20
              have A2W : A2 ≠ W := fun e => by rw [e, hW] at nA20; cases nA20
              refine ⟨_, rfl, _, rfl, P1, _, rfl, DPut.k (k := Sum.inl c) hP2 ?_, ?_⟩
              · unfold kvOf
                rw [List.length_map]
                exact small1000 (by have := met.len n8 (by omega); omega)
              rw [kvOf_put hc]
              have f3 : Fr [P1] H' (upd (upd (upd H' A1 (.lst [.int q])) A2 (.lst (ns.map V.int ++ [.int q]))) P1 (.dK (kvOf (es ++ [(c, A2)])))) := (f2.mono (by simp)).trans (Fr.dK hP2 (List.mem_singleton.mpr rfl))
              have hW3 := f3.keep _ _ (by simp; exact hWP.symm) hW
              refine ⟨_, rfl, .inl ⟨rfl, _, .inl (.inl hW3)⟩, _, rfl, W, _, _, rfl, rfl, hW3, ?_, ?_⟩
              · rw [List.length_map]
                exact small1000 (by omega)
              have f4 : Fr [P1, W] H' (upd (upd (upd (upd H' A1 (.lst [.int q])) A2 (.lst (ns.map V.int ++ [.int q]))) P1 (.dK (kvOf (es ++ [(c, A2)])))) W (.lst (ws.map V.int ++ [.int c]))) := (f3.mono (by simp)).trans (Fr.lst hW3 (by simp))
              have eP : ∀ e ∈ es, e.2 ∉ [P1, W] := fun e he => by
                obtain ⟨z1, z2, _, _, z3, _⟩ := met.way e he
                have : e.2 ≠ P1 := ne_of z3 hP (by intro z; cases z)
                simp [z1, this]
              have hA2 : (upd (upd (upd (upd H' A1 (.lst [.int q])) A2 (.lst (ns.map V.int ++ [.int q]))) P1 (.dK (kvOf (es ++ [(c, A2)])))) W (.lst (ws.map V.int ++ [.int c]))) A2 = some (.lst ((ns ++ [q]).map V.int)) := by
                rw [upd_ne A2W, upd_ne A2P, upd_same, List.map_append]
                rfl
              have met2 := met.add f4 eP hc (by rcases cr with e | e <;> omega) A2W (f.free nA20 (by simp)) (List.mem_of_getElem? hq) ed w4 w5 hA2
              have l8 := met2.len n8 (by omega)
              rw [List.length_append] at l8
              simp at l8
              have mem : ∀ v ∈ es.map (·.1), v ∈ (es ++ [(c, A2)]).map (·.1) := fun v hv => by
                rw [List.map_append]
                exact List.mem_append_left _ hv
              have memc : c ∈ (es ++ [(c, A2)]).map (·.1) := by simp
              have inv : ∀ h ∈ (es ++ [(c, A2)]).map (·.1), h ≠ c → h ∈ es.map (·.1) := fun h hh hn => by
                rw [List.map_append] at hh
                rcases List.mem_append.mp hh with hh | hh
                · exact hh
                · exact absurd (by simpa using hh) hn
              refine ⟨2 * (8 - (es.length + 1)) + (ws.length + 1), es ++ [(c, A2)], ws ++ [c], _, _, by omega, rfl, ⟨((f.trans f2).put nP).put hHW, ?_, ?_, met2, fun h hh' => ?_, by simp, by omega⟩, mem _ hh, fun h hh' hn hne k hk c' hc' => ?_, fun k hk c' hc' => ?_⟩
              · rw [upd_ne hWP, upd_same]
              · rw [upd_same, List.map_append]
                rfl
              · rcases List.mem_append.mp hh' with hh' | hh'
                · exact mem _ (sub h hh')
                · rw [List.mem_singleton.mp hh']
                  exact memc
              · have hn1 : h ∉ ws := fun z => hn (List.mem_append_left _ z)
                have hn2 : h ≠ c := fun z => hn (by rw [z]; simp)
                exact mem _ (cl h (inv h hh' hn2) hn1 hne k hk c' hc')
              · rw [List.take_succ, hq] at hk
                rcases List.mem_append.mp hk with hk | hk
                · exact mem _ (done k hk c' hc')
                · have e : k = q := by simpa using hk
                  rw [e] at hc'
                  rw [un c' hc']
                  exact memc
        · rintro σ' H' ⟨m', es, ws, v6, v7, ml, rfl, st, hh, cl, done⟩
          refine ⟨m', ml, es, ws, _, _, _, rfl, st, fun h hh' hn k hk c hc => ?_⟩
          by_cases e : h = here
          · rw [e] at hc
            refine done k ?_ c hc
            rw [List.length_map, List.take_length]
            exact hk
          · exact cl h hh' hn e k hk c hc
end
end LT
namespace LT
open PySem L2
/-- why hands and roads are no web, and which number -/
inductive NoWeb (n : Int) (rs : List Rd3) : Str → Int → Prop where
  | hands : ¬ (1 ≤ n ∧ n ≤ 8) → NoWeb n rs "hands" 0
  | roads : 1 ≤ n → n ≤ 8 → 20 < rs.length → NoWeb n rs "roads" 0
  | road {i : Nat} {r : Rd3} : 1 ≤ n → n ≤ 8 → rs.length ≤ 20 → (∀ (j : Nat) (q : Rd3), j < i → rs[j]? = some q → isBad n q (rs.take j) = false) → rs[i]? = some r → isBad n r (rs.take i) = true → NoWeb n rs "road" i
  | apart : 1 ≤ n → n ≤ 8 → rs.length ≤ 20 → (∀ (j : Nat) (q : Rd3), rs[j]? = some q → isBad n q (rs.take j) = false) → ¬ (∀ h : Int, 0 ≤ h → h < n → Way (rs.map pr) 0 h) → NoWeb n rs "apart" 0
theorem isBad_false {n : Int} {q : Rd3} {as : List Rd3} (h : isBad n q as = false) : 0 ≤ q.1 ∧ q.1 < q.2.1 ∧ q.2.1 < n ∧ 1 ≤ q.2.2 ∧ q.2.2 ≤ 99 ∧ ∀ p ∈ as, pr p ≠ pr q ∧ cst p ≠ cst q := by
  unfold isBad at h
  simp only [Bool.or_eq_false_iff, Bool.not_eq_false', Bool.and_eq_true, decide_eq_true_eq, List.any_eq_false] at h
  obtain ⟨⟨⟨⟨h1, h2⟩, h3⟩, h4, h5⟩, h6⟩ := h
  refine ⟨h1, h2, h3, h4, h5, fun p hp => ?_⟩
  have := h6 p hp
  simp at this
  exact ⟨this.1, this.2⟩
theorem nodup_take {α β : Type} {f : α → β} : ∀ {l : List α}, (∀ (j : Nat) (q : α), l[j]? = some q → ∀ p ∈ l.take j, f p ≠ f q) → (l.map f).Nodup := by
  intro l
  induction l with
  | nil => intro _; exact List.nodup_nil
  | cons x l ih =>
    intro h
    refine List.nodup_cons.mpr ⟨fun hm => ?_, ih fun j q hq p hp => h (j + 1) q (by simpa using hq) p (by simp [hp])⟩
    obtain ⟨y, hy, e⟩ := List.mem_map.mp hm
    obtain ⟨i, hi⟩ := List.getElem?_of_mem hy
    exact h (i + 1) y (by simpa using hi) x (by simp) e.symm
theorem take_nodup {α β : Type} {f : α → β} {l : List α} (h : (l.map f).Nodup) {j : Nat} {q p : α} (hq : l[j]? = some q) (hp : p ∈ l.take j) : f p ≠ f q := by
  intro e
  rw [← List.take_append_drop j l, List.map_append] at h
  have h2 := (List.nodup_append.mp h).2.2
  have hj : j < l.length := (List.getElem?_eq_some_iff.mp hq).1
  refine h2 _ (List.mem_map_of_mem hp) _ (List.mem_map_of_mem (a := q) ?_) e
  refine List.mem_of_getElem? (i := 0) ?_
  rw [List.getElem?_drop]
  simpa using hq
theorem goodWeb {n : Int} {rs : List Rd3} (h1 : 1 ≤ n) (h8 : n ≤ 8) (hl : rs.length ≤ 20) (h : ∀ (j : Nat) (q : Rd3), rs[j]? = some q → isBad n q (rs.take j) = false) (hc : ∀ h : Int, 0 ≤ h → h < n → Way (rs.map pr) 0 h) : WebOk n rs := by
  refine ⟨h1, h8, hl, fun r hr => ?_, nodup_take fun j q hq p hp => ((isBad_false (h j q hq)).2.2.2.2.2 p hp).1, nodup_take fun j q hq p hp => ((isBad_false (h j q hq)).2.2.2.2.2 p hp).2, hc⟩
  obtain ⟨i, hi⟩ := List.getElem?_of_mem hr
  have z := isBad_false (h i r hi)
  exact ⟨z.1, z.2.1, z.2.2.1, z.2.2.2.1, z.2.2.2.2.1⟩
theorem WebOk.notBad {n : Int} {rs : List Rd3} (w : WebOk n rs) (j : Nat) (q : Rd3) (hq : rs[j]? = some q) : isBad n q (rs.take j) = false := by
  have z := w.rng q (List.mem_of_getElem? hq)
  unfold isBad
  simp only [Bool.or_eq_false_iff, Bool.not_eq_false', Bool.and_eq_true, decide_eq_true_eq, List.any_eq_false]
  refine ⟨⟨⟨⟨z.1, z.2.1⟩, z.2.2.1⟩, z.2.2.2⟩, fun p hp => ?_⟩
  have a := take_nodup w.pairs hq hp
  have b := take_nodup w.costs hq hp
  simp [a, b]
theorem NoWeb.not {n : Int} {rs : List Rd3} {why : Str} {num : Int} (h : NoWeb n rs why num) : ¬ WebOk n rs := fun w => by
  cases h with
  | hands h => exact h ⟨w.lo, w.hi⟩
  | roads _ _ h => exact absurd w.len (by omega)
  | road _ _ _ _ hr hb => rw [w.notBad _ _ hr] at hb; cases hb
  | apart _ _ _ _ hc => exact hc w.conn
theorem NoWeb.one {n : Int} {rs : List Rd3} {why why' : Str} {num num' : Int} (h : NoWeb n rs why num) (h' : NoWeb n rs why' num') : why = why' ∧ num = num' := by
  cases h with
  | hands a =>
    cases h' with
    | hands => exact ⟨rfl, rfl⟩
    | roads b c => exact absurd ⟨b, c⟩ a
    | road b c => exact absurd ⟨b, c⟩ a
    | apart b c => exact absurd ⟨b, c⟩ a
  | roads a b c =>
    cases h' with
    | hands d => exact absurd ⟨a, b⟩ d
    | roads => exact ⟨rfl, rfl⟩
    | road _ _ d => omega
    | apart _ _ d => omega
  | @road i r a b c d e f =>
    cases h' with
    | hands g => exact absurd ⟨a, b⟩ g
    | roads _ _ g => omega
    | @road i' r' _ _ _ d' e' f' =>
      refine ⟨rfl, ?_⟩
      have : i = i' := by
        rcases Nat.lt_trichotomy i i' with g | g | g
        · rw [d' i r g e] at f; cases f
        · exact g
        · rw [d i' r' g e'] at f'; cases f'
      rw [this]
    | apart _ _ _ g => rw [g i r e] at f; cases f
  | apart a b c d e =>
    cases h' with
    | hands g => exact absurd ⟨a, b⟩ g
    | roads _ _ g => omega
    | @road i' r' _ _ _ d' e' f' => rw [d i' r' e'] at f'; cases f'
    | apart => exact ⟨rfl, rfl⟩
theorem len_sub : ∀ {l1 l2 : List Int}, l1.Nodup → (∀ x ∈ l1, x ∈ l2) → l1.length ≤ l2.length := by
  intro l1
  induction l1 with
  | nil => intro _ _ _; exact Nat.zero_le _
  | cons x l ih =>
    intro l2 nd h
    obtain ⟨h1, h2⟩ := List.nodup_cons.mp nd
    have hx : x ∈ l2 := h x (List.mem_cons_self ..)
    have := ih (l2 := l2.erase x) h2 fun y hy => (List.mem_erase_of_ne (fun e => h1 (by rw [← e]; exact hy))).mpr (h y (List.mem_cons_of_mem _ hy))
    rw [List.length_erase_of_mem hx] at this
    have := List.length_pos_of_mem hx
    simp
    omega
theorem Pth.toWay {rs : List Rd3} {ks : List Int} {a : Int} {ns vs : List Int} {b : Int} (h : Pth rs ks a ns vs b) : Way (rs.map pr) a b := by
  induction h with
  | nil => exact .refl
  | snoc _ _ ed _ ih =>
    obtain ⟨_, r, hr, hc⟩ := ed
    have hm := List.mem_map_of_mem (f := pr) (List.mem_of_getElem? hr)
    refine .step ih ?_
    rcases hc with ⟨h1, h2⟩ | ⟨h1, h2⟩
    · refine .inl ?_
      rw [h1, h2]
      exact hm
    · refine .inr ?_
      rw [h1, h2]
      exact hm
/-- who is met by all roads: all hands or not -/
theorem met_all {rs : List Rd3} {n : Int} {H0 H : Hp} {W : Addr} {es : List Ent} (n1 : 1 ≤ n) (m : Met rs ((List.range rs.length).map fun (j : Nat) => (j : Int)) n 0 H0 H W es)
    (cl : ∀ h ∈ es.map (·.1), ∀ k ∈ (List.range rs.length).map (fun (j : Nat) => (j : Int)), ∀ c, Edge rs k h c → c ∈ es.map (·.1)) :
    (∀ h : Int, 0 ≤ h → h < n → Way (rs.map pr) 0 h) ↔ n ≤ es.length := by
  constructor
  · intro hw
    have wm : ∀ h, Way (rs.map pr) 0 h → h ∈ es.map (·.1) := fun h w => by
      induction w with
      | refl => exact m.st
      | @step b c _ e ih =>
        rcases e with e | e
        · obtain ⟨r, hr, er⟩ := List.mem_map.mp e
          obtain ⟨i, hi⟩ := List.getElem?_of_mem hr
          have hl := (List.getElem?_eq_some_iff.mp hi).1
          refine cl b ih i (List.mem_map.mpr ⟨i, List.mem_range.mpr hl, rfl⟩) c ⟨by omega, r, by simpa using hi, .inl ?_⟩
          have := Prod.mk.inj er
          exact ⟨this.1.symm, this.2.symm⟩
        · obtain ⟨r, hr, er⟩ := List.mem_map.mp e
          obtain ⟨i, hi⟩ := List.getElem?_of_mem hr
          have hl := (List.getElem?_eq_some_iff.mp hi).1
          refine cl b ih i (List.mem_map.mpr ⟨i, List.mem_range.mpr hl, rfl⟩) c ⟨by omega, r, by simpa using hi, .inr ?_⟩
          have := Prod.mk.inj er
          exact ⟨this.2.symm, this.1.symm⟩
    have := len_sub (l1 := (List.range n.toNat).map fun (j : Nat) => (j : Int)) (l2 := es.map (·.1)) (List.nodup_range.map_of_inj fun a b e => Int.ofNat.inj e) fun x hx => by
      obtain ⟨j, hj, rfl⟩ := List.mem_map.mp hx
      have := List.mem_range.mp hj
      exact wm _ (hw _ (by omega) (by omega))
    simp at this
    omega
  · intro hl h h0 h1
    by_cases hm : h ∈ es.map (·.1)
    · obtain ⟨e, he, rfl⟩ := List.mem_map.mp hm
      obtain ⟨_, _, ns, vs, _, p, _⟩ := m.way e he
      exact p.toWay
    · have := nodup_bound n.toNat (h :: es.map (·.1)) (List.nodup_cons.mpr ⟨hm, m.nd⟩) fun x hx => by
        rcases List.mem_cons.mp hx with rfl | hx
        · omega
        · have := m.rg x hx
          omega
      simp at this
      omega
section
variable {P : Program} {w : World} {K : PySem.W.Frag} {mg : Str → Option Value} {base : Heap}
/-- the dict of a BadWeb -/
def badXd (why : Str) (num : Int) : HO := .xd [("number", .int num), ("why", .str why)]
def spBadInit (K : PySem.W.Frag) (C : Addr) : Sp := fun vs H Q _ => ∃ (a : Addr) (x y : V), vs = [.ref a, x, y] ∧ H a = some (exo a C none) ∧
  ∀ dx, H dx = none → dx ≠ a → Q .non (upd (upd (upd H dx (exd dx [("why", x)])) a (exo a C (some dx))) dx (exd dx [("number", y), ("why", x)]))
theorem ok_BadWeb___init__ (T : Txt K mg) : FnOk P w K mg base CX0 1 T.a_BadWeb___init__ T.d_BadWeb___init__ ["self", "why", "number"] (spBadInit K T.C_BadWeb) := by
  refine T.F_BadWeb___init__.ok sc_BadWeb___init__ (fun vs H Q E h => ?_) (fun cdv A outer s H vs Q E hr h => ?_)
  · obtain ⟨_, _, _, rfl, _⟩ := h
    rfl
  · obtain ⟨a, x, y, rfl, ha, k⟩ := h
    refine ⟨_, (pss_cons (ps_ost (pv 0) (pv 1))
 (pss_one (ps_ost (pv 0) (pv 2)))), ?_⟩
    refine ⟨_, rfl, _, rfl, a, T.C_BadWeb, rfl, T.o_BadWeb, T.no_BadWeb_why, .inl ⟨ha, fun dx nd ne => ?_⟩⟩
    refine ⟨_, rfl, _, rfl, a, T.C_BadWeb, rfl, T.o_BadWeb, T.no_BadWeb_number, .inr ⟨dx, _, upd_same, by rw [upd_ne ne, upd_same], by show 1 ≤ 900; decide, ?_⟩⟩
    exact k dx nd ne
/-- what is made of BadWeb(why, number) -/
theorem bad_made {C : Addr} {H : Hp} {why : Str} {num : Int} {Q : XK} (h : ∀ H' d, Fr [] H H' → H d = none → H' d = some (badXd why num) → Q (.ref C) (some d) H') :
    ([V.str why, V.int num] : List V).length ≤ 1000 ∧ ∀ a, H a = none → spBadInit K C (.ref a :: ([V.str why, V.int num] ++ [])) (upd H a (exo a C none))
      (fun v H2 => v = .non ∧ ∃ (d : Addr) (fs : List (Str × V)), H2 a = some (exo a C (some d)) ∧ H2 d = some (exd d fs) ∧ H d = none ∧ Q (.ref C) (some d) (upd (del H2 a) d (.xd fs))) (fun _ _ _ => False) := by
  refine ⟨by show 2 ≤ 1000; decide, fun a na => ⟨a, _, _, rfl, upd_same, fun dx nd ne => ⟨rfl, dx, _, ?_, upd_same, ?_, ?_⟩⟩⟩
  · rw [upd_ne ne.symm, upd_same]
  · rw [upd_ne ne] at nd
    exact nd
  · have nd' : H dx = none := by
      rw [upd_ne ne] at nd
      exact nd
    refine h _ dx ?_ nd' upd_same
    have k : ∀ b o, H b = some o → (upd (del (upd (upd (upd (upd H a (exo a C none)) dx (exd dx [("why", V.str why)])) a (exo a C (some dx))) dx (exd dx [("number", V.int num), ("why", V.str why)])) a) dx (badXd why num)) b = some o := fun b o e => by
      have h1 : b ≠ dx := ne_of_none e nd'
      have h2 : b ≠ a := ne_of_none e na
      rw [upd_ne h1, del_ne h2, upd_ne h1, upd_ne h2, upd_ne h1, upd_ne h2]
      exact e
    exact ⟨fun b o _ e => k b o e, fun b xs e => k b _ e, fun b o u e => k b _ e⟩
def spCheck (C : Addr) : Sp := fun vs H Q E => ∃ (n : Int) (ra : Addr) (rs : List Rd3), vs = [.int n, .ref ra] ∧ Rws g3 H ra rs ∧ rs.length ≤ 1000 ∧
  ∀ H', Fr [] H H' → (WebOk n rs → Q .non H') ∧ ∀ why num, NoWeb n rs why num → ∀ d, H d = none → H' d = some (badXd why num) → E (.ref C) (some d) H'
theorem ok__check_web (T : Txt K mg) : FnOk P w K mg base (L2N.CX P w) 3 T.a__check_web T.d__check_web ["hands", "roads"] (spCheck T.C_BadWeb) := by
  have G__is_bad : FnOk P w K mg base CX0 1 T.a__is_bad T.d__is_bad ["hands", "road", "ahead"] spIsBad := ok__is_bad T
  have G__paths : FnOk P w K mg base CX0 2 T.a__paths T.d__paths ["roads", "numbers", "start"] spPaths := ok__paths T
  have G_BadWeb___init__ : FnOk P w K mg base CX0 1 T.a_BadWeb___init__ T.d_BadWeb___init__ ["self", "why", "number"] (spBadInit K T.C_BadWeb) := ok_BadWeb___init__ T
  refine okN T.F__check_web sc__check_web (fun vs H Q E h => ?_) (fun cdv A outer s H vs Q E hr h => ?_)
  · obtain ⟨_, _, _, rfl, _⟩ := h
    rfl
  · obtain ⟨n, ra, rs, rfl, hra, hl, k⟩ := h
    refine ⟨_, (pss_cons (ps_if (pt_not (pt_chain op_le op_le pe_int (pv 0) (pe_glob (v := .int 8) rfl T.g_MOST_HANDS.choose_spec ⟨_, rfl⟩))) (pss_one (L2N.ps_raise rfl (L2N.takes_of rfl rfl rfl rfl) (pmk_fields T.o_BadWeb T.i_BadWeb T.t_BadWeb G_BadWeb___init__ (hr.mono (by decide)) T.b_BadWeb___init__ pass0 rfl T.g_BadWeb (pa_cons pe_str (pa_cons pe_int pa_nil))))) pss_nil)
 (pss_cons (ps_if (pt_cmpR op_gt (pe_callB call_len_seq (by rfl) T.nb_len (by decide +kernel) (pa_cons (pv 1) pa_nil)) (pe_glob (v := .int 20) rfl T.g_MOST_ROADS.choose_spec ⟨_, rfl⟩) (nomark _)) (pss_one (L2N.ps_raise rfl (L2N.takes_of rfl rfl rfl rfl) (pmk_fields T.o_BadWeb T.i_BadWeb T.t_BadWeb G_BadWeb___init__ (hr.mono (by decide)) T.b_BadWeb___init__ pass0 rfl T.g_BadWeb (pa_cons pe_str (pa_cons pe_int pa_nil))))) pss_nil)
 (pss_cons (ps_for (passes_of rfl) rfl (pi_enum (by rfl) T.nb_enumerate (pa_cons (pv 1) pa_nil)) (pg_tup rfl (pgs_cons (pg_name (i := 2) sc__check_web.nd rfl (Or.inl rfl)) (pgs_cons (pg_name (i := 3) sc__check_web.nd rfl (Or.inl rfl)) pgs_nil)))
  (pss_one (ps_if (pt_val (pe_call G__is_bad (hr.mono (by decide)) rfl T.g__is_bad T.F__is_bad.kp T.b__is_bad .nil pass0 (pa_cons (pv 0) (pa_cons (pv 3) (pa_cons (pe_slice sl_list (pv 1) po_none (po_some (pv 2))) pa_nil))))) (pss_one (L2N.ps_raise rfl (L2N.takes_of rfl rfl rfl rfl) (pmk_fields T.o_BadWeb T.i_BadWeb T.t_BadWeb G_BadWeb___init__ (hr.mono (by decide)) T.b_BadWeb___init__ pass0 rfl T.g_BadWeb (pa_cons pe_str (pa_cons (pv 2) pa_nil))))) pss_nil)))
 (pss_one (ps_if (pt_cmpR op_lt (pe_callB call_lenD (by rfl) T.nb_len (by decide +kernel) (pa_cons (pe_call G__paths (hr.mono (by decide)) rfl T.g__paths T.F__paths.kp T.b__paths .nil pass0 (pa_cons (pv 1) (pa_cons (pe_listRg rfl (by rfl) T.nb_list (prg_1 (by rfl) T.nb_range (pe_callB call_len_seq (by rfl) T.nb_len (by decide +kernel) (pa_cons (pv 1) pa_nil)))) (pa_cons pe_int pa_nil)))) pa_nil)) (pv 0) (nomark _)) (pss_one (L2N.ps_raise rfl (L2N.takes_of rfl rfl rfl rfl) (pmk_fields T.o_BadWeb T.i_BadWeb T.t_BadWeb G_BadWeb___init__ (hr.mono (by decide)) T.b_BadWeb___init__ pass0 rfl T.g_BadWeb (pa_cons pe_str (pa_cons pe_int pa_nil))))) pss_nil))))), ?_⟩
    refine ⟨_, rfl, _, _, rfl, rfl, _, rfl, ite2 (fun c1 => ?_) (fun c1 => ?_)⟩
    · have d1 : 1 ≤ n := of_decide_eq_true c1
      refine ⟨_, _, rfl, rfl, _, rfl, ?_⟩
      by_cases d8 : n ≤ 8
      · rw [decide_eq_true d8]
        refine iteF ?_
        obtain ⟨ts, hts, tps⟩ := hra
        have tpl := tps.length
        refine ⟨_, rfl, ra, _, rfl, .inl (SqL.of hts), _, _, rfl, rfl, _, rfl, ite2 (fun c2 => ?_) (fun c2 => ?_)⟩
        · have l20 : (20 : Int) < ((ts.map V.ref).length : Nat) := of_decide_eq_true c2
          rw [List.length_map] at l20
          exact bad_made fun H' d f hd hx => (k H' f).2 _ _ (.roads d1 d8 (by omega)) d hd hx
        · have l20 : ¬ (20 : Int) < ((ts.map V.ref).length : Nat) := of_decide_eq_false (Bool.eq_false_iff.mpr c2)
          rw [List.length_map] at l20
          have l20' : rs.length ≤ 20 := by omega
          refine ⟨_, rfl, ra, _, rfl, SqL.of hts, for_it (walk_enum (xs := ts.map V.ref)) (fun i σ H' => Fr [] H H' ∧ (∀ (j : Nat) (q : Rd3), j < i → rs[j]? = some q → isBad n q (rs.take j) = false) ∧
            ∃ v2 v3 : Option V, σ = [some (.int n), some (.ref ra), v2, v3]) ⟨Fr.refl _ _, fun j q hj => absurd hj (Nat.not_lt_zero _), _, _, rfl⟩ (fun i σ H' _ hh => SqL.of (hh.1.keep _ _ (by simp) hts)) ?_ ?_⟩
          · rintro i x σ H1 H2 hi ⟨f, good, v2, v3, rfl⟩ ⟨T0, x1, x2, rfl, nT, rfl, e1, e2⟩
            obtain ⟨t, ht, rfl⟩ := refs_get e2
            cases e1
            obtain ⟨r, hr', htt⟩ := pgetL tps ht
            have f2 : Fr [] H (upd H1 T0 (.tup [.int (i : Nat), .ref t])) := f.trans (Fr.new nT)
            have hts2 := f2.keep _ _ (by simp) hts
            refine ⟨T0, _, rfl, SqT.of upd_same, rfl, ?_⟩
            refine ⟨_, _, rfl, _, _, rfl, rfl, ?_⟩
            refine ⟨_, rfl, _, rfl, _, rfl, _, rfl, _, rfl, ra, _, rfl, SqL.of hts2, fun p np => ?_⟩
            rw [cut_to, ← List.map_take]
            have f3 : Fr [] H (upd (upd H1 T0 (.tup [.int (i : Nat), .ref t])) p (.lst ((ts.take i).map V.ref))) := f2.trans (Fr.new np)
            refine ⟨n, t, p, r, rs.take i, rfl, f3.tup _ _ htt, ⟨ts.take i, upd_same, Tup.fr (g := g3) (ptake i tps) f3⟩, fun H3 f4 => ?_⟩
            have f5 := f3.trans f4
            refine ⟨_, rfl, ite2 (fun c3 => ?_) (fun c3 => ?_)⟩
            · refine ⟨_, rfl, bad_made fun H' d f' hd hx => (k H' (f5.trans f')).2 _ _ (.road d1 d8 l20' good hr' c3) d (f5.free hd (by simp)) hx⟩
            · refine ⟨f5, fun j q hj hq => ?_, _, _, rfl⟩
              by_cases e : j < i
              · exact good j q e hq
              · have e' : j = i := by omega
                subst e'
                rw [hr'] at hq
                cases hq
                exact Bool.eq_false_iff.mpr c3
          · rintro σ H1 ⟨f, good, v2, v3, rfl⟩
            have hts1 := f.keep _ _ (by simp) hts
            have good' : ∀ (j : Nat) (q : Rd3), rs[j]? = some q → isBad n q (rs.take j) = false := fun j q hq => good j q (by rw [List.length_map, tpl]; exact (List.getElem?_eq_some_iff.mp hq).1) hq
            refine ⟨_, rfl, _, rfl, ra, _, rfl, .inl (SqL.of hts1), _, rfl, ?_, fun L nL => ?_⟩
            · rw [List.length_map]
              exact RgOk.of_le (by decide) (by omega) (by decide) (by omega)
            rw [List.length_map, tpl, rgV_ints]
            have f2 : Fr [] H (upd H1 L (.lst (((List.range ((rs.length : Nat) : Int).toNat).map fun (j : Nat) => (j : Int)).map V.int))) := f.trans (Fr.new nL)
            refine ⟨ra, L, 0, n, rs, (List.range rs.length).map fun (j : Nat) => (j : Int), rfl, ⟨ts, f2.keep _ _ (by simp) hts, tps.fr f2⟩, upd_same, by decide, by omega, d8, fun r hr => ?_, fun q hq => ?_, fun H3 p es f3 np ok => ?_⟩
            · obtain ⟨i, hi⟩ := List.getElem?_of_mem hr
              have z := isBad_false (good' i r hi)
              exact ⟨z.1, z.2.1, z.2.2.1⟩
            · obtain ⟨j, hj, rfl⟩ := List.mem_map.mp hq
              have := List.mem_range.mp hj
              omega
            have f4 := f2.trans f3
            obtain ⟨hd, ⟨W, met⟩, cl⟩ := ok
            have iff_ := met_all d1 met cl
            refine ⟨p, _, rfl, hd, _, rfl, _, _, rfl, rfl, _, rfl, ?_⟩
            have el : (((kvOf es).length : Nat) : Int) = es.length := by
              unfold kvOf
              rw [List.length_map]
            rw [el]
            refine ite2 (fun c4 => ?_) (fun c4 => ?_)
            · have lt : (es.length : Int) < n := of_decide_eq_true c4
              exact bad_made fun H' d f' hd hx => (k H' (f4.trans f')).2 _ _ (.apart d1 d8 l20' good' fun z => absurd (iff_.mp z) (by omega)) d (f4.free hd (by simp)) hx
            · have ge : ¬ (es.length : Int) < n := of_decide_eq_false (Bool.eq_false_iff.mpr c4)
              exact (k _ f4).1 (goodWeb d1 d8 l20' good' (iff_.mpr (by omega)))
      · rw [decide_eq_false d8]
        refine iteT ?_
        exact bad_made fun H' d f hd hx => (k H' f).2 _ _ (.hands fun z => d8 z.2) d hd hx
    · have d1 : ¬ 1 ≤ n := of_decide_eq_false (Bool.eq_false_iff.mpr c1)
      refine ⟨false, rfl, iteT ?_⟩
      exact bad_made fun H' d f hd hx => (k H' f).2 _ _ (.hands fun z => d1 z.1) d hd hx
end
end LT
namespace LT
open PySem L2
section
variable {P : Program} {w : World} {K : PySem.W.Frag} {mg : Str → Option Value} {base : Heap}
def webFs (n : Int) (l : Addr) : List (Str × V) := putF "_roads" (.ref l) (putF "_hands" (.int n) [])
theorem hr_ne : ¬ (("_hands" : Str) = "_roads") := by decide +kernel
theorem webFs_hands (n : Int) (l : Addr) : (webFs n l).lookup ("_hands" : Str) = some (.int n) := by
  unfold webFs
  rw [lookup_putF, if_neg hr_ne, lookup_putF, if_pos rfl]
theorem webFs_roads (n : Int) (l : Addr) : (webFs n l).lookup ("_roads" : Str) = some (.ref l) := by
  unfold webFs
  rw [lookup_putF, if_pos rfl]
theorem webFs_no (n : Int) (l : Addr) {m : Str} (h1 : ¬ m = "_roads") (h2 : ¬ m = "_hands") : (webFs n l).lookup m = none := by
  unfold webFs
  rw [lookup_putF, if_neg h1, lookup_putF, if_neg h2]
  rfl
/-- a web of n hands at p, its roads rs in a list at l -/
def WebAt (C : Addr) (H : Hp) (p : Addr) (n : Int) (l : Addr) (rs : List Rd3) : Prop := (∃ dx, H p = some (.ins C dx (webFs n l))) ∧ Rws g3 H l rs
theorem WebAt.fr {C : Addr} {H H' : Hp} {p : Addr} {n : Int} {l : Addr} {rs : List Rd3} {M : List Addr} (h : WebAt C H p n l rs) (f : Fr M H H') (hp : p ∉ M) (hl : l ∉ M) : WebAt C H' p n l rs := by
  obtain ⟨⟨dx, e⟩, r⟩ := h
  exact ⟨⟨dx, f.keep _ _ hp e⟩, r.fr f hl⟩
def spWebInit (C CB : Addr) : Sp := fun vs H Q E => ∃ (p dx ra : Addr) (n : Int) (rs : List Rd3), vs = [.ref p, .int n, .ref ra] ∧ H p = some (.ins C dx []) ∧ Rws g3 H ra rs ∧ rs.length ≤ 1000 ∧
  (WebOk n rs → ∀ H' l, Fr [p] H H' → H l = none → WebAt C H' p n l rs → Q .non H') ∧
  ∀ why num, NoWeb n rs why num → ∀ H' d, Fr [] H H' → H d = none → H' d = some (badXd why num) → E (.ref CB) (some d) H'
theorem ok_Web___init__ (T : Txt K mg) : FnOk P w K mg base (L2N.CX P w) 4 T.a_Web___init__ T.d_Web___init__ ["self", "hands", "roads"] (spWebInit T.C_Web T.C_BadWeb) := by
  have G__check_web : FnOk P w K mg base (L2N.CX P w) 3 T.a__check_web T.d__check_web ["hands", "roads"] (spCheck T.C_BadWeb) := ok__check_web T
  refine okN T.F_Web___init__ sc_Web___init__ (fun vs H Q E h => ?_) (fun cdv A outer s H vs Q E hr h => ?_)
  · obtain ⟨_, _, _, _, _, rfl, _⟩ := h
    rfl
  · obtain ⟨p, dx, ra, n, rs, rfl, hp, hra, hl, good, bad⟩ := h
    refine ⟨_, (pss_cons (ps_set (i := 3) sc_Web___init__.nd rfl (Or.inl rfl) (pe_callTy call_list_of (by rfl) T.nb_list (by decide +kernel) (pa_cons (pv 2) pa_nil)))
 (pss_cons (ps_expr (pe_call G__check_web (hr.mono (by decide)) rfl T.g__check_web T.F__check_web.kp T.b__check_web .nil (L2N.passes_call (L2N.takes_of rfl rfl rfl rfl) (fun _ _ _ _ h => h)) (pa_cons (pv 1) (pa_cons (pv 3) pa_nil))))
 (pss_cons (ps_fld (pv 0) (pv 1) rfl)
 (pss_one (ps_fld (pv 0) (pv 3) rfl))))), ?_⟩
    obtain ⟨ts, hts, tps⟩ := hra
    refine ⟨_, rfl, ra, _, rfl, .inl (SqL.of hts), fun l nl => ?_⟩
    have f1 : Fr [] H (upd H l (.lst (ts.map V.ref))) := Fr.new nl
    refine ⟨_, rfl, _, rfl, n, l, rs, rfl, ⟨ts, upd_same, tps.fr f1⟩, hl, fun H2 f2 => ⟨fun ok => ?_, fun why num no d hd hx => ?_⟩⟩
    · have f := f1.trans f2
      have hp2 := f.keep _ _ (by simp) hp
      have hlp : l ≠ p := fun e => by rw [e, hp] at nl; cases nl
      refine ⟨_, rfl, _, rfl, p, T.C_Web, dx, [], rfl, hp2, T.cl_Web, T.na_Web__hands, by show 0 < 1000; decide, ?_⟩
      refine ⟨_, rfl, _, rfl, p, T.C_Web, dx, _, rfl, upd_same, T.cl_Web, T.na_Web__roads, by show 1 < 1000; decide, ?_⟩
      have f3 : Fr [p] H2 (upd (upd H2 p (.ins T.C_Web dx (putF "_hands" (.int n) []))) p (.ins T.C_Web dx (putF "_roads" (.ref l) (putF "_hands" (.int n) [])))) := (Fr.ins hp2 (List.mem_singleton.mpr rfl)).trans (Fr.ins upd_same (List.mem_singleton.mpr rfl))
      refine good ok _ l ((f.mono (by simp)).trans f3) nl ⟨⟨dx, upd_same⟩, ?_⟩
      have r2 : Rws g3 H2 l rs := ⟨ts, f2.keep _ _ (by simp) upd_same, (tps.fr f1).fr f2⟩
      exact r2.fr f3 (by simp [hlp])
    · have hd' : H d = none := f1.free hd (by simp)
      exact bad _ _ no _ d (f1.trans f2) hd' hx
def spHands (C : Addr) : Sp := fun vs H Q _ => ∃ (p l : Addr) (n : Int) (rs : List Rd3), vs = [.ref p] ∧ WebAt C H p n l rs ∧ Q (.int n) H
theorem ok_Web_hands (T : Txt K mg) : FnOk P w K mg base CX0 1 T.a_Web_hands T.d_Web_hands ["self"] (spHands T.C_Web) := by
  refine T.F_Web_hands.ok sc_Web_hands (fun vs H Q E h => ?_) (fun cdv A outer s H vs Q E hr h => ?_)
  · obtain ⟨_, _, _, _, rfl, _⟩ := h
    rfl
  · obtain ⟨p, l, n, rs, rfl, ⟨⟨dx, hp⟩, _⟩, k⟩ := h
    refine ⟨_, (pss_one (ps_ret (pe_fld (pv 0) rfl))), ?_⟩
    exact ⟨_, rfl, p, T.C_Web, dx, _, _, rfl, hp, T.cl_Web, T.na_Web__hands, webFs_hands _ _, k⟩
def spRoads (C : Addr) : Sp := fun vs H Q _ => ∃ (p l : Addr) (n : Int) (rs : List Rd3), vs = [.ref p] ∧ WebAt C H p n l rs ∧ ∀ a, H a = none → ∀ H', Fr [] H H' → Rws g3 H' a rs → Q (.ref a) H'
theorem ok_Web_roads (T : Txt K mg) : FnOk P w K mg base CX0 1 T.a_Web_roads T.d_Web_roads ["self"] (spRoads T.C_Web) := by
  refine T.F_Web_roads.ok sc_Web_roads (fun vs H Q E h => ?_) (fun cdv A outer s H vs Q E hr h => ?_)
  · obtain ⟨_, _, _, _, rfl, _⟩ := h
    rfl
  · obtain ⟨p, l, n, rs, rfl, ⟨⟨dx, hp⟩, ts, hts, tps⟩, k⟩ := h
    refine ⟨_, (pss_one (ps_ret (pe_callTy call_list_of (by rfl) T.nb_list (by decide +kernel) (pa_cons (pe_fld (pv 0) rfl) pa_nil)))), ?_⟩
    refine ⟨_, rfl, p, T.C_Web, dx, _, _, rfl, hp, T.cl_Web, T.na_Web__roads, webFs_roads _ _, l, _, rfl, .inl (SqL.of hts), fun a na => ?_⟩
    exact k a na _ (Fr.new na) ⟨ts, upd_same, tps.fr (Fr.new na : Fr [] _ _)⟩
end
end LT
namespace LT
open PySem L2 L2H
section
variable {P : Program} {w : World} {K : PySem.W.Frag} {mg : Str → Option Value} {base : Heap}
theorem unitsH {k : Nat} {A : Around} (r : RoomH k A) : A.units + 64 < cLine := by
  have := r.un
  omega
/-- the five words -/
def words5 : List Str := ["web", "hand", "road", "letter", "text"]
def spIs (a : Addr) (dd : Option Addr) (word : Str) : Sp := fun vs H Q _ => vs = [.ref a, .str word] ∧ (∀ d, dd = some d → ∃ o, H d = some o) ∧ ∀ H', Fr [] H H' → Q (.bl true) H'
theorem ok__law_is (T : Txt K mg) {px : Addr × Obj} {D : Addr} {word : Str} (C : ExcC K D) (cls : px.2.cls = .ref D) (dat : ∃ vs, px.2.data = .fields vs) {b1 b2 b3 b4 b5 : Bool}
    (k1 : PySem.W.kitOne K (.ref D) (.ref T.C_BadWeb) = some b1) (k2 : PySem.W.kitOne K (.ref D) (.ref T.C_NoHand) = some b2) (k3 : PySem.W.kitOne K (.ref D) (.ref T.C_NoRoad) = some b3)
    (k4 : PySem.W.kitOne K (.ref D) (.ref T.C_NoLetter) = some b4) (k5 : PySem.W.kitOne K (.ref D) (.ref T.C_BadText) = some b5) (kv : PySem.W.kitOne K (.ref D) (.type "ValueError") = some true)
    (hw : words5.map (fun z => decide (V.str word = V.str z)) = [b1, b2, b3, b4, b5]) : FnP P w K mg base CX0 1 T.a__law_is T.d__law_is ["_law_e", "_law_word"] px (spIs px.1 px.2.dict word) := by
  refine fnP_of T.F__law_is sc__law_is (fun vs H Q E h => ?_) (fun cdv A outer s H vs Q E hot hr h => ?_)
  · obtain ⟨rfl, _⟩ := h
    rfl
  · obtain ⟨rfl, hd, k⟩ := h
    have mem : px ∈ ([px] : List (Addr × Obj)) := by simp
    refine ⟨_, (pss_cons (ps_set (i := 2) sc__law_is.nd rfl (Or.inl rfl) (pe_lst (pa_cons (pe_callB (call_isHot C mem cls dat) (by rfl) T.nb_isinstance (by decide +kernel) (pa_cons (pv 0) (pa_cons (pe_glob (v := .ref T.C_BadWeb) rfl T.g_BadWeb rfl) pa_nil))) (pa_cons (pe_callB (call_isHot C mem cls dat) (by rfl) T.nb_isinstance (by decide +kernel) (pa_cons (pv 0) (pa_cons (pe_glob (v := .ref T.C_NoHand) rfl T.g_NoHand rfl) pa_nil))) (pa_cons (pe_callB (call_isHot C mem cls dat) (by rfl) T.nb_isinstance (by decide +kernel) (pa_cons (pv 0) (pa_cons (pe_glob (v := .ref T.C_NoRoad) rfl T.g_NoRoad rfl) pa_nil))) (pa_cons (pe_callB (call_isHot C mem cls dat) (by rfl) T.nb_isinstance (by decide +kernel) (pa_cons (pv 0) (pa_cons (pe_glob (v := .ref T.C_NoLetter) rfl T.g_NoLetter rfl) pa_nil))) pa_nil))))))
 (pss_cons (ps_set (i := 2) sc__law_is.nd rfl (Or.inl rfl) (pe_op op_cat (pv 2) (pe_lst (pa_cons (pe_callB (call_isHot C mem cls dat) (by rfl) T.nb_isinstance (by decide +kernel) (pa_cons (pv 0) (pa_cons (pe_glob (v := .ref T.C_BadText) rfl T.g_BadText rfl) pa_nil))) pa_nil))))
 (pss_cons (ps_set (i := 3) sc__law_is.nd rfl (Or.inl rfl) (pe_lst (pa_cons pe_str (pa_cons pe_str (pa_cons pe_str (pa_cons pe_str (pa_cons pe_str pa_nil)))))))
 (pss_one (ps_ret (pe_and (pe_callB (call_isHot C mem cls dat) (by rfl) T.nb_isinstance (by decide +kernel) (pa_cons (pv 0) (pa_cons (pe_bltn (v := .ty "ValueError") (u := .type "ValueError") (by rfl) T.nb_ValueError (by decide +kernel) rfl) pa_nil))) (pe_one (pe_cmpR (op_eqD (unitsH hr)) (pv 2) (pe_lcHot (own := [("_law_one", 4)]) (g := gName 4) hot mem sc__law_is.nd (pv 3) (blkOk_by (own := [("_law_one", 4)]) (N := ["_law_e", "_law_word", "_law_kinds", "_law_words", "_law_one"]) (sc := defScope s__law_is) (by decide +kernel)) (fun _ _ _ _ _ => by exact (pg_name (i := 4) sc__law_is.nd rfl (Or.inl rfl))) (fun _ _ _ _ _ => by exact (pe_cmpR op_eq (pv 1) (pv 4) (nomark _)))) (nomark _))))))))), ?_⟩
    have ex : ∀ {H'}, Fr [] H H' → ∀ d, px.2.dict = some d → ∃ o, H' d = some o := fun {H'} f d e => by
      obtain ⟨o, ho⟩ := hd d e
      exact ⟨o, f.keep _ _ (by simp) ho⟩
    refine ⟨_, rfl, _, _, b1, rfl, fun u r => r, k1, ex (Fr.refl _ _), ?_⟩
    refine ⟨_, rfl, _, _, b2, rfl, fun u r => r, k2, ex (Fr.refl _ _), ?_⟩
    refine ⟨_, rfl, _, _, b3, rfl, fun u r => r, k3, ex (Fr.refl _ _), ?_⟩
    refine ⟨_, rfl, _, _, b4, rfl, fun u r => r, k4, ex (Fr.refl _ _), ?_⟩
    refine ⟨by show 4 ≤ sizeLine; decide, fun A1 nA1 => ?_⟩
    have f1 : Fr [] H (upd H A1 (.lst [.bl b1, .bl b2, .bl b3, .bl b4])) := Fr.new nA1
    refine ⟨_, rfl, _, rfl, _, _, b5, rfl, fun u r => r, k5, ex f1, by show 1 ≤ sizeLine; decide, fun A2 nA2 => ?_⟩
    have f2 : Fr [] (upd H A1 (.lst [.bl b1, .bl b2, .bl b3, .bl b4])) (upd (upd H A1 (.lst [.bl b1, .bl b2, .bl b3, .bl b4])) A2 (.lst [.bl b5])) := Fr.new nA2
    refine ⟨A1, A2, _, _, rfl, rfl, f2.keep _ _ (by simp) upd_same, upd_same, by show 5 ≤ sizeLine; decide, fun A3 nA3 => ?_⟩
    have f3 := (f1.trans f2).trans (Fr.new nA3 : Fr [] _ (upd _ A3 (.lst ([V.bl b1, .bl b2, .bl b3, .bl b4] ++ [V.bl b5]))))
    refine ⟨by show 5 ≤ sizeLine; decide, fun A4 nA4 => ?_⟩
    have f4 := f3.trans (Fr.new nA4 : Fr [] _ (upd _ A4 (.lst [V.str "web", .str "hand", .str "road", .str "letter", .str "text"])))
    have h3 := (Fr.new nA4 : Fr [] _ (upd _ A4 (.lst [V.str "web", .str "hand", .str "road", .str "letter", .str "text"]))).keep A3 _ (by simp) upd_same
    refine ⟨_, rfl, _, _, true, rfl, fun u r => r, kv, ex f4, true, rfl, iteT ?_⟩
    refine ⟨_, rfl, _, rfl, A4, rfl, ⟨_, SqL.of upd_same⟩, fun D5 nD5 => ?_⟩
    refine lc_list (K := K) (a := A4) (xs := words5.map V.str) (fun i H' => Fr [] _ H' ∧ H' D5 = some (.lst ((words5.take i).map fun z => V.bl (decide (V.str word = V.str z))))) ⟨Fr.new nD5, upd_same⟩ (fun i H' _ hh => SqL.of (hh.1.keep _ _ (by simp) upd_same)) ?_ ?_
    · rintro i x H' hx ⟨f5, hD⟩
      obtain ⟨z, hz, rfl⟩ : ∃ z, words5[i]? = some z ∧ x = .str z := by
        rw [List.getElem?_map] at hx
        cases e : words5[i]? with
        | none => rw [e] at hx; cases hx
        | some u => rw [e] at hx; exact ⟨u, rfl, (Option.some.inj hx).symm⟩
      refine ⟨rfl, ?_⟩
      refine ⟨_, rfl, _, rfl, rfl, ?_⟩
      refine ⟨_, hD, ?_, f5.put nD5, ?_⟩
      · rw [List.length_map]
        refine small1000 ?_
        rw [List.length_take]
        show min i 5 ≤ 1000
        omega
      · rw [upd_same, List.take_succ, hz, List.map_append]
        rfl
    · rintro H' ⟨f5, hD⟩
      have e : (words5.take (words5.map V.str).length).map (fun z => V.bl (decide (V.str word = V.str z))) = [b1, b2, b3, b4, b5].map V.bl := by
        rw [← hw, List.map_map]
        rfl
      rw [e] at hD
      have h3' := f5.keep A3 _ (by simp) h3
      refine ⟨.list [.bool b1, .bool b2, .bool b3, .bool b4, .bool b5], .list [.bool b1, .bool b2, .bool b3, .bool b4, .bool b5], .lst (SqL.of h3') ?_, .lst (SqL.of hD) ?_, rfl, rfl, ?_⟩
      · exact .cons (.bl _) (.cons (.bl _) (.cons (.bl _) (.cons (.bl _) (.cons (.bl _) .nil))))
      · exact .cons (.bl _) (.cons (.bl _) (.cons (.bl _) (.cons (.bl _) (.cons (.bl _) .nil))))
      · have q : PyData.eqv (.list [.bool b1, .bool b2, .bool b3, .bool b4, .bool b5]) (.list [.bool b1, .bool b2, .bool b3, .bool b4, .bool b5]) = true := by
          simp [PyData.eqv, PyData.eqvAll]
        rw [q]
        exact k _ (f4.trans f5)
end
end LT
namespace LT
open PySem L2 L2H
section
variable {P : Program} {w : World} {K : PySem.W.Frag} {mg : Str → Option Value} {base : Heap}
theorem ok_is_web (T : Txt K mg) {px : Addr × Obj} (cls : px.2.cls = .ref T.C_BadWeb) (dat : ∃ vs, px.2.data = .fields vs) : FnP P w K mg base CX0 1 T.a__law_is T.d__law_is ["_law_e", "_law_word"] px (spIs px.1 px.2.dict "web") :=
  ok__law_is T T.exc_BadWeb cls dat T.ki_BadWeb_BadWeb T.ki_BadWeb_NoHand T.ki_BadWeb_NoRoad T.ki_BadWeb_NoLetter T.ki_BadWeb_BadText T.ki_BadWeb_ValueError (by decide +kernel)
theorem roomM {k : Nat} {A : Around} (r : Room k A) (h : Option Value) : RoomH k (A.mark h) := ⟨r.dp, r.un⟩
def spRefused : Sp := fun vs H Q _ => ∃ (n : Int) (ra : Addr) (rs : List Rd3) (why : Str) (num : Int), vs = [.int n, .ref ra, .str why, .int num] ∧ Rws g3 H ra rs ∧ rs.length ≤ 1000 ∧
  ((WebOk n rs ∧ ∀ H', Fr [] H H' → Q (.bl false) H') ∨ (NoWeb n rs why num ∧ ∀ H', Fr [] H H' → Q (.bl true) H'))
def t_refused (CB : Addr) (a : Addr) (cls : Value) (d : Option Addr) : TS := fun D σ H => cls = .ref CB ∧ tRet (tAndV (tCallS (spIs a d "web") (fun _ => E0) (tCons (tVar 4) (tCons (tC (.str "web")) tNil)))
  (tCallS (spLike 2) (fun _ => E0) (tCons (tLst (tCons (tXf a cls d CB "why" (tVar 4)) (tCons (tXf a cls d CB "number" (tVar 4)) tNil))) (tCons (tLst (tCons (tVar 2) (tCons (tVar 3) tNil))) tNil)))) D σ H
theorem ok__law_refused (T : Txt K mg) : FnOk P w K mg base CX0 6 T.a__law_refused T.d__law_refused ["_law_hands", "_law_roads", "_law_why", "_law_number"] spRefused := by
  have G_Web___init__ : FnOk P w K mg base (L2N.CX P w) 4 T.a_Web___init__ T.d_Web___init__ ["self", "hands", "roads"] (spWebInit T.C_Web T.C_BadWeb) := ok_Web___init__ T
  have GH__law_like : FnH P w K mg base CX0 3 T.a__law_like T.d__law_like ["_law_found", "_law_due"] (spLike 2) := ok_law_likeH T 2
  refine T.F__law_refused.ok sc__law_refused (fun vs H Q E h => ?_) (fun cdv A outer s H vs Q E hr h => ?_)
  · obtain ⟨_, _, _, _, _, rfl, _⟩ := h
    rfl
  · obtain ⟨n, ra, rs, why, num, rfl, hra, hl, k⟩ := h
    have hrH : RoomH 3 (A.deeper (PyProof.Rows.envOfC "_law_refused" (defScope s__law_refused) s.heap.objs.size T.a__law_refused cdv)) := roomH_of (hr.mono (by decide))
    refine ⟨_, (pss_cons (L2N.ps_try_as (i := 4) (tb := fun W => tDrop (tMakeS T.C_Web (spWebInit T.C_Web T.C_BadWeb) (WE W) (tCons (tVar 0) (tCons (tVar 1) tNil)))) (ts := t_refused T.C_BadWeb) (Wout := fun _ _ _ _ => False) rfl rfl sc__law_refused.nd rfl rfl
        ⟨rfl, by decide, .inl T.g_WebError⟩ takesN0
        (fun W pn xe tk _ => pss_one (ps_expr (by exact (pe_makeS T.mk_Web G_Web___init__ (hr.mono (by decide)) rfl T.g_Web T.b_Web___init__ (fun σ => L2N.passAt tk σ) (pa_cons (pv 0) (pa_cons (pv 1) pa_nil))))))
        (fun a oe cls d pn hz hf => pss_when (c := cls = .ref T.C_BadWeb) fun hc => by
          obtain ⟨z1, z2, z3⟩ := hz
          subst z2
          have hot : Hot1 (A.mark (some (.ref a))) (a, oe) := by
            obtain ⟨vs, hv⟩ := hf
            exact ⟨rfl, vs, hv, z3 vs hv⟩
          have mem : (a, oe) ∈ ((a, oe) :: pn) := List.mem_cons_self ..
          exact pss_one (ps_ret (pe_and (pe_callP (px := (a, oe)) (E := E0) (ok_is_web T (z1.trans hc) hf) (roomM (hr.mono (by decide)) _) hot mem rfl T.g__law_is T.F__law_is.kp T.b__law_is pass0 (by exact (pa_cons (pv 4) (pa_cons pe_str pa_nil))))
            (pe_one (pe_callH (E := fun _ => E0) GH__law_like (roomM (hr.mono (by decide)) _) ⟨(a, oe), hot, mem⟩ rfl T.g__law_like T.F__law_like.kp T.b__law_like (fun _ => passH0)
              (by exact (pa_cons (pe_lst (pa_cons (pe_xf T.xf_BadWeb T.no_BadWeb_why ⟨z1, rfl⟩ hf (pv 4)) (pa_cons (pe_xf T.xf_BadWeb T.no_BadWeb_number ⟨z1, rfl⟩ hf (pv 4)) pa_nil))) (pa_cons (pe_lst (pa_cons (pv 2) (pa_cons (pv 3) pa_nil))) pa_nil)))))))))
      (pss_one (ps_ret pe_bl))), ?_⟩
    refine ⟨_, rfl, _, rfl, fun p dx np ndx ne => ?_⟩
    have f1 : Fr [] H (upd (upd H dx (.own p)) p (.ins T.C_Web dx [])) := (Fr.new ndx).put np
    refine ⟨p, dx, ra, n, rs, rfl, upd_same, hra.fr f1 (by simp), hl, fun ok H2 l f2 nl wa => ⟨rfl, ?_⟩, fun why' num' no H2 d f2 nd hx => ?_⟩
    · rcases k with ⟨_, k⟩ | ⟨no, _⟩
      · exact k _ ⟨fun b o _ e => f2.keep _ _ (by simp; exact ne_of_none e np) (f1.keep _ _ (by simp) e), fun b xs e => f2.tup _ _ (f1.tup _ _ e), fun b o u e => f2.frz _ _ _ (f1.frz _ _ _ e)⟩
      · exact absurd ok no.not
    · rcases k with ⟨ok, _⟩ | ⟨no', k⟩
      · exact absurd ok no.not
      · obtain ⟨rfl, rfl⟩ := no.one no'
        have f3 := f1.trans f2
        refine ⟨true, T.ex_BadWeb_WebError, fun _ a na => ?_, fun z => by cases z⟩
        refine ⟨rfl, _, rfl, rfl, fun d' hd' => ?_, fun H3 f4 => ⟨true, rfl, iteT ?_⟩⟩
        · cases hd'
          exact ⟨_, hx⟩
        have hx3 := f4.keep _ _ (by simp) hx
        refine ⟨_, rfl, rfl, rfl, d, _, _, rfl, hx3, rfl, ?_⟩
        refine ⟨_, rfl, rfl, rfl, d, _, _, rfl, hx3, rfl, ?_⟩
        refine ⟨by show 2 ≤ sizeLine; decide, fun A1 nA1 => ⟨_, rfl, _, rfl, by show 2 ≤ sizeLine; decide, fun A2 nA2 => ?_⟩⟩
        have f5 : Fr [] H3 (upd (upd H3 A1 (.lst [.str why', .int num'])) A2 (.lst [.str why', .int num'])) := (Fr.new nA1).trans (Fr.new nA2)
        refine ⟨_, _, rfl, .inr ⟨A1, A2, _, _, rfl, rfl, .inl ⟨(Fr.new nA2 : Fr [] _ _).keep _ _ (by simp) upd_same, upd_same⟩, rfl, by show 2 ≤ 1000; decide, fun i u v hu hv => ?_⟩, ?_⟩
        · match i, hu, hv with
          | 0, hu, hv =>
            cases hu
            cases hv
            exact Lk.str _
          | 1, hu, hv =>
            cases hu
            cases hv
            exact Lk.int _
        · exact k _ ((f3.trans f4).trans f5)
end
end LT
namespace LT
open PySem L2
section
variable {P : Program} {w : World} {K : PySem.W.Frag} {mg : Str → Option Value} {base : Heap}
theorem bad_1 {n : Int} {r : Rd3} {as : List Rd3} (h : ¬ (0 ≤ r.1 ∧ r.1 < r.2.1 ∧ r.2.1 < n) ∨ ¬ (1 ≤ r.2.2 ∧ r.2.2 ≤ 99) ∨ ∃ q ∈ as, pr q = pr r ∨ cst q = cst r) : isBad n r as = true := by
  cases e : isBad n r as with
  | true => rfl
  | false =>
    have z := isBad_false e
    rcases h with h | h | ⟨q, hq, h⟩
    · exact absurd ⟨z.1, z.2.1, z.2.2.1⟩ h
    · exact absurd ⟨z.2.2.2.1, z.2.2.2.2.1⟩ h
    · have := z.2.2.2.2.2 q hq
      rcases h with h | h
      · exact absurd h this.1
      · exact absurd h this.2
/-- a list of bad roads -/
structure BadL (n : Int) (as : List Rd3) (H0 H : Hp) (S : Addr) (rows : List Rd3) (m : Nat) : Prop where
  at_ : Rws g3 H S rows
  bad : ∀ r ∈ rows, isBad n r as = true
  ne : 0 < rows.length
  len : rows.length ≤ m
def spBad (K : PySem.W.Frag) : Sp := fun vs H Q _ => ∃ (d a : Addr) (n : Int) (as : List Rd3), vs = [.ref d, .int n, .ref a] ∧ Dice K H d ∧ 1 ≤ n ∧ n ≤ 8 ∧ a ≠ d ∧ Rws g3 H a as ∧ as.length ≤ 20 ∧
  (∀ r ∈ as, 0 ≤ r.1 ∧ r.1 < r.2.1 ∧ r.2.1 < n) ∧ ∀ (H' : Hp) (t : Addr) (r : Rd3), isBad n r as = true → H' t = some (.tup (g3 r)) → Dice K H' d → Fr [d] H H' → Q (.ref t) H'
theorem ok__law_bad (T : Txt K mg) : FnOk P w K mg base CX0 2 T.a__law_bad T.d__law_bad ["_law_d", "_law_hands", "_law_roads"] (spBad K) := by
  have G__law_next : FnOk P w K mg base CX0 1 T.a__law_next T.d__law_next ["_law_dice_here", "_law_many"] (spNext K) := ok_law_next T
  refine T.F__law_bad.ok sc__law_bad (fun vs H Q E h => ?_) (fun cdv A outer s H vs Q E hr h => ?_)
  · obtain ⟨_, _, _, _, rfl, _⟩ := h
    rfl
  · obtain ⟨d, a, n, as, rfl, hD, n1, n8, had, ha, al, rg, k⟩ := h
    refine ⟨_, (pss_cons (ps_set (i := 3) sc__law_bad.nd rfl (Or.inl rfl) (pe_op op_add pe_int (pe_call G__law_next (hr.mono (by decide)) rfl T.g__law_next T.F__law_next.kp T.b__law_next .nil pass0 (pa_cons (pv 0) (pa_cons (pe_op op_pow pe_int pe_int) pa_nil)))))
 (pss_cons (ps_set (i := 4) sc__law_bad.nd rfl (Or.inl rfl) (pe_ix ix_list (pe_lc (own := [("_law_cost", 5)]) (g := gName 5) (by rfl) sc__law_bad.nd (pi_range2 (by rfl) T.nb_range (pa_cons pe_int (pa_cons pe_int pa_nil))) (blkOk_by (own := [("_law_cost", 5)]) (N := ["_law_d", "_law_hands", "_law_roads", "_law_far", "_law_free", "_law_cost", "_law_road", "_law_some", "_law_one", "_law_other", "_law_pairs", "_law_left", "_law_k", "_law_pair"]) (sc := defScope s__law_bad) (by decide +kernel)) (fun _ _ _ _ _ => by exact (pg_name (i := 5) sc__law_bad.nd rfl (Or.inl rfl))) (fun _ _ _ _ _ => by exact (pts_one (pt_cmpR (op_notIn_seqK K rfl) (pv 5) (by exact (pe_lc (own := [("_law_road", 6)]) (g := gName 6) (tt := tYes) (by rfl) sc__law_bad.nd (pi_listK K rfl (pv 2)) (blkOk_by (own := [("_law_road", 6)]) (N := ["_law_d", "_law_hands", "_law_roads", "_law_far", "_law_free", "_law_cost", "_law_road", "_law_some", "_law_one", "_law_other", "_law_pairs", "_law_left", "_law_k", "_law_pair"]) (by kernel_rfl)) (fun _ _ _ _ _ => by exact (pg_name (i := 6) sc__law_bad.nd rfl (Or.inl rfl))) (fun _ _ _ _ _ => by exact pts_nil) (fun _ _ _ _ _ => by exact (pe_ix (ix_tupK K rfl) (pv 6) pe_int (fun _ _ => rfl))))) rfl))) (fun _ _ _ _ _ => by exact (pv 5))) pe_int (fun _ _ => rfl)))
 (pss_cons (ps_set (i := 7) sc__law_bad.nd rfl (Or.inl rfl) (pe_lst (pa_cons (pe_tup (pa_cons pe_int (pa_cons (pe_op op_add (pe_op op_sub (pv 1) pe_int) (pv 3)) (pa_cons (pv 4) pa_nil)))) (pa_cons (pe_tup (pa_cons (pe_un un_neg (pv 3)) (pa_cons (pe_op op_sub (pv 1) pe_int) (pa_cons (pv 4) pa_nil)))) (pa_cons (pe_tup (pa_cons (pe_op op_sub (pv 1) pe_int) (pa_cons (pe_op op_sub (pv 1) pe_int) (pa_cons (pv 4) pa_nil)))) (pa_cons (pe_tup (pa_cons (pv 1) (pa_cons (pe_op op_add (pv 1) pe_int) (pa_cons (pv 4) pa_nil)))) pa_nil))))))
 (pss_cons (ps_set (i := 7) sc__law_bad.nd rfl (Or.inl rfl) (pe_op op_cat (pv 7) (pe_lst (pa_cons (pe_tup (pa_cons pe_int (pa_cons pe_int (pa_cons pe_int pa_nil)))) (pa_cons (pe_tup (pa_cons pe_int (pa_cons pe_int (pa_cons pe_int pa_nil)))) (pa_cons (pe_tup (pa_cons pe_int (pa_cons pe_int (pa_cons (pe_un un_neg (pv 3)) pa_nil)))) (pa_cons (pe_tup (pa_cons pe_int (pa_cons pe_int (pa_cons (pe_op op_add pe_int (pv 3)) pa_nil)))) pa_nil)))))))
 (pss_cons (ps_if (pt_cmpR (op_neD hr.units) (pv 2) (pe_lst pa_nil) (nomark _)) (pss_cons (ps_asg (pe_ix ix_list (pv 2) (pe_call G__law_next (hr.mono (by decide)) rfl T.g__law_next T.F__law_next.kp T.b__law_next .nil pass0 (pa_cons (pv 0) (pa_cons (pe_callB call_len_seq (by rfl) T.nb_len (by decide +kernel) (pa_cons (pv 2) pa_nil)) pa_nil))) (fun _ _ => rfl)) (pg_tup rfl (pgs_cons (pg_name (i := 8) sc__law_bad.nd rfl (Or.inl rfl)) (pgs_cons (pg_name (i := 9) sc__law_bad.nd rfl (Or.inl rfl)) (pgs_cons (pg_name (i := 5) sc__law_bad.nd rfl (Or.inr rfl)) pgs_nil)))))
 (pss_cons (ps_set (i := 7) sc__law_bad.nd rfl (Or.inl rfl) (pe_op op_cat (pv 7) (pe_lst (pa_cons (pe_tup (pa_cons (pv 9) (pa_cons (pv 8) (pa_cons (pv 4) pa_nil)))) (pa_cons (pe_tup (pa_cons (pv 8) (pa_cons (pv 9) (pa_cons (pv 4) pa_nil)))) (pa_cons (pe_tup (pa_cons (pv 8) (pa_cons (pv 9) (pa_cons (pv 5) pa_nil)))) pa_nil))))))
 (pss_cons (ps_set (i := 10) sc__law_bad.nd rfl (Or.inr rfl) (pe_lc (own := [("_law_road", 6)]) (g := gName 6) (tt := tYes) (by rfl) sc__law_bad.nd (pi_list (pv 2)) (blkOk_by (own := [("_law_road", 6)]) (N := ["_law_d", "_law_hands", "_law_roads", "_law_far", "_law_free", "_law_cost", "_law_road", "_law_some", "_law_one", "_law_other", "_law_pairs", "_law_left", "_law_k", "_law_pair"]) (sc := defScope s__law_bad) (by decide +kernel)) (fun _ _ _ _ _ => by exact (pg_name (i := 6) sc__law_bad.nd rfl (Or.inl rfl))) (fun _ _ _ _ _ => by exact pts_nil) (fun _ _ _ _ _ => by exact (pe_slice (sl_tupK K rfl) (pv 6) po_none (po_some pe_int)))))
 (pss_cons (ps_setLc (i := 11) (own := [("_law_k", 12)]) (g := gName 12) (tt := tYes) (by rfl) sc__law_bad.nd rfl rfl (sw_true rfl rfl rfl (by decide +kernel)) (pi_range2 (by rfl) T.nb_range (pa_cons pe_int (pa_cons (pv 1) pa_nil))) (blkOk_by (own := [("_law_k", 12)]) (N := ["_law_d", "_law_hands", "_law_roads", "_law_far", "_law_free", "_law_cost", "_law_road", "_law_some", "_law_one", "_law_other", "_law_pairs", "_law_left", "_law_k", "_law_pair"]) (sc := defScope s__law_bad) (by decide +kernel)) (fun _ _ _ _ _ => by exact (pg_name (i := 12) sc__law_bad.nd rfl (Or.inl rfl))) (fun _ _ _ _ _ => by exact pts_nil) (fun _ _ _ _ _ => by exact (pe_tup (pa_cons (by exact (pe_call G__law_next (hr.mono (by decide)) rfl T.g__law_next T.F__law_next.kp T.b__law_next .nil pass0 (pa_cons (pv 0) (pa_cons (pv 12) pa_nil)))) (pa_cons (pv 12) pa_nil)))))
 (pss_one (ps_set (i := 7) sc__law_bad.nd rfl (Or.inl rfl) (pe_op op_cat (pv 7) (pe_lc (own := [("_law_pair", 13)]) (g := gName 13) (by rfl) sc__law_bad.nd (pi_list (pv 11)) (blkOk_by (own := [("_law_pair", 13)]) (N := ["_law_d", "_law_hands", "_law_roads", "_law_far", "_law_free", "_law_cost", "_law_road", "_law_some", "_law_one", "_law_other", "_law_pairs", "_law_left", "_law_k", "_law_pair"]) (sc := defScope s__law_bad) (by decide +kernel)) (fun _ _ _ _ _ => by exact (pg_name (i := 13) sc__law_bad.nd rfl (Or.inl rfl))) (fun _ _ _ _ _ => by exact (pts_one (pt_cmpR (op_notInDK K rfl hr.units65) (pv 13) (pv 10) rfl))) (fun _ _ _ _ _ => by exact (pe_op (op_catTK K rfl) (pv 13) (pe_tup (pa_cons (pv 5) pa_nil)))))))))))) pss_nil)
 (pss_one (ps_ret (pe_ix ix_list (pv 7) (pe_call G__law_next (hr.mono (by decide)) rfl T.g__law_next T.F__law_next.kp T.b__law_next .nil pass0 (pa_cons (pv 0) (pa_cons (pe_callB call_len_seq (by rfl) T.nb_len (by decide +kernel) (pa_cons (pv 7) pa_nil)) pa_nil))) (fun _ _ => rfl))))))))), ?_⟩
    obtain ⟨ts, hts, tps⟩ := ha
    have tl := tps.length
    refine ⟨_, rfl, _, _, rfl, rfl, ⟨by decide, by decide, by decide⟩, d, _, rfl, by decide, by decide, hD, fun H1 r r0 r1 D1 F1 => ?_⟩
    refine ⟨_, _, rfl, rfl, ?_⟩
    obtain ⟨far, ef⟩ : ∃ far : Int, far = 1 + r := ⟨_, rfl⟩
    show gName 3 (V.int (1 + r)) _ _ _
    rw [← ef]
    have far1 : 1 ≤ far := by omega
    have hts1 := F1.keep _ _ (by simp [had]) hts
    refine ⟨_, _, rfl, ⟨by decide, by decide, by decide, by decide⟩, fun D nD => ?_⟩
    have dD : D ≠ d := D1.ne nD
    have hHD : H D = none := F1.free nD (by simp [dD])
    have haD : a ≠ D := fun e => by rw [← e, hts1] at nD; cases nD
    refine lc_range (lo := 1) (n := 99) (fun i Hi => Hi D = some (.lst ((((List.range i).map fun (j : Nat) => (1 : Int) + j).filter fun c => !decide (c ∈ as.map cst)).map V.int)) ∧ Dice K Hi d ∧ Fr [d] H Hi ∧ Hi a = some (.lst (ts.map V.ref))) ?_ ?_ ?_
    · exact ⟨upd_same, D1.new nD, F1.put hHD, keepU hts1 nD⟩
    · rintro i Hi hi ⟨hD, Di, Fi, hta⟩
      have tpi := tps.fr Fi
      refine ⟨rfl, ?_⟩
      refine ⟨_, rfl, _, rfl, a, rfl, ⟨_, SqL.of hta⟩, fun D2 nD2 => ?_⟩
      refine lc_list (K := K) (a := a) (xs := ts.map V.ref) (fun j Hj => Fr [] Hi Hj ∧ Hj D2 = some (.lst (((as.take j).map cst).map V.int))) ⟨Fr.new nD2, upd_same⟩ (fun j Hj _ hh => SqL.of (hh.1.keep _ _ (by simp) hta)) ?_ ?_
      · rintro j x Hj hx ⟨fj, hD2⟩
        obtain ⟨t, ht, rfl⟩ := refs_get hx
        obtain ⟨q, hq, hqt⟩ := pgetL tpi ht
        have hj : j < as.length := (List.getElem?_eq_some_iff.mp hq).1
        refine ⟨rfl, ?_⟩
        refine ⟨_, rfl, t, _, 2, .int (cst q), rfl, rfl, SqT.of (fj.tup _ _ hqt), rfl, ?_⟩
        refine ⟨_, hD2, ?_, fj.put nD2, ?_⟩
        · rw [List.length_map, List.length_map, List.length_take]
          exact small1000 (by omega)
        · rw [upd_same, List.take_succ, hq, List.map_append, List.map_append]
          rfl
      · rintro Hj ⟨fj, hD2⟩
        rw [List.length_map, tl, List.take_length] at hD2
        refine ⟨D2, _, rfl, .inl (SqL.of hD2), rfl, flat_ints _, _, rfl, ?_⟩
        rw [inV_int]
        have hDj := fj.keep _ _ (by simp) hD
        have step : ∀ b, decide (1 + (i : Int) ∈ as.map cst) = b → ((List.range (i + 1)).map fun (j : Nat) => (1 : Int) + j).filter (fun c => !decide (c ∈ as.map cst)) = ((List.range i).map fun (j : Nat) => (1 : Int) + j).filter (fun c => !decide (c ∈ as.map cst)) ++ (if b then [] else [1 + (i : Int)]) := fun b e => by
          rw [List.range_succ, List.map_append, List.filter_append]
          congr 1
          simp only [List.map_cons, List.map_nil, List.filter_cons, List.filter_nil, e]
          cases b <;> rfl
        cases e : decide (1 + (i : Int) ∈ as.map cst) with
        | true =>
          refine iteF ?_
          refine ⟨?_, Di.fr fj (by simp), Fi.trans (fj.mono (by simp)), fj.keep _ _ (by simp) hta⟩
          rw [step _ e, hDj]
          simp
        | false =>
          refine iteT ?_
          refine ⟨_, rfl, _, hDj, ?_, ?_, (Di.fr fj (by simp)).put hDj dD, (Fi.trans (fj.mono (by simp))).put hHD, by rw [upd_ne haD]; exact fj.keep _ _ (by simp) hta⟩
          · rw [List.length_map]
            refine small1000 (Nat.le_trans (List.length_filter_le _ _) ?_)
            rw [List.length_map, List.length_range]
            omega
          · rw [upd_same, step _ e, List.map_append]
            rfl
    · rintro Hi ⟨hD, Di, Fi, hta⟩
      have nonempty : ∃ x l, ((List.range 99).map fun (j : Nat) => (1 : Int) + j).filter (fun c => !decide (c ∈ as.map cst)) = x :: l := by
        cases e : ((List.range 99).map fun (j : Nat) => (1 : Int) + j).filter (fun c => !decide (c ∈ as.map cst)) with
        | cons x l => exact ⟨x, l, rfl⟩
        | nil =>
          have all := List.filter_eq_nil_iff.mp e
          have := len_sub (l1 := (List.range 99).map fun (j : Nat) => (1 : Int) + j) (l2 := as.map cst) (List.nodup_range.map_of_inj fun a b e => by omega) fun x hx => by
            have := all x hx
            simpa using this
          simp at this
          omega
      obtain ⟨free, l, el⟩ := nonempty
      rw [el] at hD
      refine ⟨D, _, 0, .int free, rfl, rfl, SqL.of hD, at_of (j := 0) rfl rfl, ?_⟩
      clear el hD nD hHD haD dD
      refine ⟨_, rfl, _, _, rfl, rfl, _, rfl, _, _, rfl, rfl, _, rfl, by show 3 ≤ sizeLine; decide, fun t1 q1 => ?_⟩
      refine ⟨_, rfl, _, rfl, _, rfl, _, _, rfl, rfl, _, rfl, by show 3 ≤ sizeLine; decide, fun t2 q2 => ?_⟩
      refine ⟨_, rfl, _, _, rfl, rfl, _, rfl, _, _, rfl, rfl, _, rfl, by show 3 ≤ sizeLine; decide, fun t3 q3 => ?_⟩
      refine ⟨_, rfl, _, rfl, _, _, rfl, rfl, _, rfl, by show 3 ≤ sizeLine; decide, fun t4 q4 => ?_⟩
      refine ⟨by show 4 ≤ sizeLine; decide, fun S1 p1 => ?_⟩
      have w1 : Tup g3 _ [t1, t2, t3, t4] [(0, n - 1 + far, free), (-far, n - 1, free), (n - 1, n - 1, free), (n, n + 1, free)] :=
        .cons (keepU (keepU (keepU upd_same q2) q3) q4) (.cons (keepU (keepU upd_same q3) q4) (.cons (keepU upd_same q4) (.cons upd_same .nil)))
      have v1 : Fr [] Hi _ := (((Fr.new q1).trans (Fr.new q2)).trans (Fr.new q3)).trans (Fr.new q4 : Fr [] _ (upd _ t4 (.tup (g3 (n, n + 1, free)))))
      have v2 := v1.trans (Fr.new p1 : Fr [] _ (upd _ S1 (.lst [.ref t1, .ref t2, .ref t3, .ref t4])))
      have w1' := Tup.fr w1 (Fr.new p1 : Fr [] _ (upd _ S1 (.lst [.ref t1, .ref t2, .ref t3, .ref t4])))
      refine ⟨_, rfl, by show 3 ≤ sizeLine; decide, fun t5 q5 => ?_⟩
      refine ⟨by show 3 ≤ sizeLine; decide, fun t6 q6 => ?_⟩
      refine ⟨_, rfl, _, rfl, by show 3 ≤ sizeLine; decide, fun t7 q7 => ?_⟩
      refine ⟨_, rfl, _, _, rfl, rfl, by show 3 ≤ sizeLine; decide, fun t8 q8 => ?_⟩
      refine ⟨by show 4 ≤ sizeLine; decide, fun S2 p2 => ?_⟩
      have w2 : Tup g3 _ [t5, t6, t7, t8] [(0, 1, 0), (0, 1, 100), (0, 1, -far), (0, 1, 99 + far)] :=
        .cons (keepU (keepU (keepU upd_same q6) q7) q8) (.cons (keepU (keepU upd_same q7) q8) (.cons (keepU upd_same q8) (.cons upd_same .nil)))
      have v3 : Fr [] _ _ := (((Fr.new q5).trans (Fr.new q6)).trans (Fr.new q7)).trans (Fr.new q8 : Fr [] _ (upd _ t8 (.tup (g3 (0, 1, 99 + far)))))
      have v4 := v3.trans (Fr.new p2 : Fr [] _ (upd _ S2 (.lst [.ref t5, .ref t6, .ref t7, .ref t8])))
      have w2' := Tup.fr w2 (Fr.new p2 : Fr [] _ (upd _ S2 (.lst [.ref t5, .ref t6, .ref t7, .ref t8])))
      refine ⟨S1, S2, _, _, rfl, rfl, v4.keep _ _ (by simp) upd_same, upd_same, by show 8 ≤ sizeLine; decide, fun S3 p3 => ?_⟩
      have some1 := Rws.cat (g := g3) (Tup.fr w1' v4) w2' p3
      have v5 := (v2.trans v4).trans (Fr.new p3 : Fr [] _ (upd _ S3 (.lst ([t1, t2, t3, t4].map V.ref ++ [t5, t6, t7, t8].map V.ref))))
      have Di5 := Di.fr v5 (by simp)
      have F05 := Fi.trans (v5.mono (by simp) : Fr [d] _ _)
      have ht5 := v5.keep _ _ (by simp) hta
      have bad1 : ∀ r ∈ ([(0, n - 1 + far, free), (-far, n - 1, free), (n - 1, n - 1, free), (n, n + 1, free)] ++ [(0, 1, 0), (0, 1, 100), (0, 1, -far), (0, 1, 99 + far)] : List Rd3), isBad n r as = true := by
        intro r hr
        have hr' : r = (0, n - 1 + far, free) ∨ r = (-far, n - 1, free) ∨ r = (n - 1, n - 1, free) ∨ r = (n, n + 1, free) ∨ r = (0, 1, 0) ∨ r = (0, 1, 100) ∨ r = (0, 1, -far) ∨ r = (0, 1, 99 + far) := by simpa using hr
        rcases hr' with rfl | rfl | rfl | rfl | rfl | rfl | rfl | rfl
        · exact bad_1 (.inl (by simp only []; omega))
        · exact bad_1 (.inl (by simp only []; omega))
        · exact bad_1 (.inl (by simp only []; omega))
        · exact bad_1 (.inl (by simp only []; omega))
        · exact bad_1 (.inr (.inl (by simp only []; omega)))
        · exact bad_1 (.inr (.inl (by simp only []; omega)))
        · exact bad_1 (.inr (.inl (by simp only []; omega)))
        · exact bad_1 (.inr (.inl (by simp only []; omega)))
      refine ⟨_, rfl, Nat.zero_le _, fun E1 e1 => ?_⟩
      have v6 := v5.trans (Fr.new e1 : Fr [] _ (upd _ E1 (.lst [])))
      have ht6 := v6.keep _ _ (by simp) hta
      have tp6 := (tps.fr Fi).fr v6
      refine ⟨.list ((as.map r3).map dI), .list (([] : List (List Int)).map dI), .lst (SqL.of ht6) (by rw [← map_dI]; exact dp_rows (r := r3) tp6), .lst (SqL.of upd_same) .nil, dIs_shaped _, dIs_shaped _, ?_⟩
      rw [dIs_eqv]
      have some2 := Rws.fr some1 (Fr.new e1 : Fr [] _ (upd _ E1 (.lst []))) (by simp)
      have Di6 := Di.fr v6 (by simp)
      have F06 := Fi.trans (v6.mono (by simp) : Fr [d] _ _)
      have S3d : S3 ≠ d := fun e => by
        obtain ⟨_, z⟩ := (Di.fr (v2.trans v4) (by simp)).lst
        rw [e, z] at p3
        cases p3
      have fin : ∀ (H7 : Hp) (S : Addr) (rows : List Rd3) (σ : L2.St), S ≠ d → Rws g3 H7 S rows → (∀ r ∈ rows, isBad n r as = true) → 0 < rows.length → rows.length ≤ 100 → Dice K H7 d → Fr [d] H H7 → σ[0]? = some (some (.ref d)) → σ[7]? = some (some (.ref S)) →
          tRet (tOp (rIxL K) (tVar 7) (tCall (spNext K) [] E0 (tCons (tVar 0) (tCons (tCB (rLenK K) (tCons (tVar 7) tNil)) tNil)))) { nx := fun _ H' => Q .non H', rt := Q } σ H7 := by
        rintro H7 S rows σ Sd ⟨us, hS, tS⟩ bad ne le D7 F7 g0 g7
        have ul := tS.length
        refine ⟨_, g7, _, g0, _, g7, S, _, rfl, .inl (SqL.of hS), d, _, rfl, ?_, ?_, D7, fun H8 q q0 q1 D8 F8 => ?_⟩
        · rw [List.length_map]
          omega
        · rw [List.length_map]
          omega
        rw [List.length_map] at q1
        have hr := List.getElem?_eq_getElem (l := rows) (i := q.toNat) (by omega)
        obtain ⟨t, ht, htt⟩ := pget tS hr
        refine ⟨S, _, q, .ref t, rfl, rfl, SqL.of (F8.keep _ _ (by simp [Sd]) hS), at_of (show q = (q.toNat : Nat) by omega) (by rw [List.getElem?_map, ht]; rfl), ?_⟩
        exact k _ t _ (bad _ (List.mem_of_getElem? hr)) (F8.tup _ _ htt) D8 (F7.trans F8)
      refine ⟨_, rfl, ite2 (fun c => ?_) (fun c => ?_)⟩
      · have ane : as ≠ [] := fun e => by
          rw [e] at c
          simp at c
        have apos : 0 < as.length := List.length_pos_iff.mpr ane
        refine ⟨_, rfl, _, rfl, _, rfl, a, _, rfl, .inl (SqL.of ht6), d, _, rfl, ?_, ?_, Di6, fun H7 q z0 z1 D7 F7 => ?_⟩
        · rw [List.length_map]
          omega
        · rw [List.length_map]
          omega
        rw [List.length_map] at z1
        have some7 := some2.fr F7 (by simp [S3d])
        have ht7 := F7.keep _ _ (by simp [had]) ht6
        have tp7 := tp6.fr F7
        have F07 := F06.trans F7
        clear some2 some1 ht6 tp6 Di6 F06 F05 ht5 Di5 v6 v5 v4 v3 v2 v1 w1 w1' w2 w2' p3 e1 F7 p2 q8 q7 q6 q5 p1 q4 q3 q2 q1
        have hr := List.getElem?_eq_getElem (l := as) (i := q.toNat) (by omega)
        generalize as[q.toNat] = r0 at hr
        obtain ⟨one, other, cost⟩ := r0
        have hm := List.mem_of_getElem? hr
        have rr := rg _ hm
        obtain ⟨t, ht, htt⟩ := pget tp7 hr
        obtain ⟨us, hS, tS⟩ := some7
        refine ⟨a, _, q, .ref t, rfl, rfl, SqL.of ht7, at_of (show q = (q.toNat : Nat) by omega) (by rw [List.getElem?_map, ht]; rfl), t, _, rfl, SqT.of htt, rfl, ?_⟩
        refine ⟨_, _, rfl, _, _, rfl, _, _, rfl, rfl, ?_⟩
        refine ⟨_, rfl, _, rfl, _, rfl, _, rfl, by show 3 ≤ sizeLine; decide, fun t5 q5 => ?_⟩
        refine ⟨_, rfl, _, rfl, _, rfl, by show 3 ≤ sizeLine; decide, fun t6 q6 => ?_⟩
        refine ⟨_, rfl, _, rfl, _, rfl, by show 3 ≤ sizeLine; decide, fun t7 q7 => ?_⟩
        refine ⟨by show 3 ≤ sizeLine; decide, fun S4 p4 => ?_⟩
        have w3 : Tup g3 _ [t5, t6, t7] [(other, one, free), (one, other, free), (one, other, cost)] := .cons (keepU (keepU upd_same q6) q7) (.cons (keepU upd_same q7) (.cons upd_same .nil))
        have v8 : Fr [] H7 _ := ((Fr.new q5).trans (Fr.new q6)).trans (Fr.new q7 : Fr [] _ (upd _ t7 (.tup (g3 (one, other, cost)))))
        have v9 := v8.trans (Fr.new p4 : Fr [] _ (upd _ S4 (.lst [.ref t5, .ref t6, .ref t7])))
        have w3' := Tup.fr w3 (Fr.new p4 : Fr [] _ (upd _ S4 (.lst [.ref t5, .ref t6, .ref t7])))
        have ul := tS.length
        have u8 : us.length = 8 := ul
        refine ⟨S3, S4, _, _, rfl, rfl, v9.keep _ _ (by simp) hS, upd_same, ?_, fun S5 p5 => ?_⟩
        · rw [List.length_map, u8]
          show 8 + 3 ≤ sizeLine
          decide
        have some8 := Rws.cat (g := g3) (Tup.fr tS v9) w3' p5
        have v10 := v9.trans (Fr.new p5 : Fr [] _ (upd _ S5 (.lst (us.map V.ref ++ [t5, t6, t7].map V.ref))))
        have D8 := D7.fr v10 (by simp)
        have F08 := F07.trans (v10.mono (by simp) : Fr [d] _ _)
        have ht8 := v10.keep _ _ (by simp) ht7
        have tp8 := tp7.fr v10
        have S5d : S5 ≠ d := (D7.fr v9 (by simp)).ne p5
        have bad2 : ∀ r ∈ (([(0, n - 1 + far, free), (-far, n - 1, free), (n - 1, n - 1, free), (n, n + 1, free)] ++ [(0, 1, 0), (0, 1, 100), (0, 1, -far), (0, 1, 99 + far)]) ++ [(other, one, free), (one, other, free), (one, other, cost)] : List Rd3), isBad n r as = true := by
          intro r hr
          rcases List.mem_append.mp hr with hr | hr
          · exact bad1 r hr
          · have hr' : r = (other, one, free) ∨ r = (one, other, free) ∨ r = (one, other, cost) := by simpa using hr
            rcases hr' with rfl | rfl | rfl
            · exact bad_1 (.inl (by simp only [] at rr ⊢; omega))
            · exact bad_1 (.inr (.inr ⟨_, hm, .inl rfl⟩))
            · exact bad_1 (.inr (.inr ⟨_, hm, .inl rfl⟩))
        have rl : (([(0, n - 1 + far, free), (-far, n - 1, free), (n - 1, n - 1, free), (n, n + 1, free)] ++ [(0, 1, 0), (0, 1, 100), (0, 1, -far), (0, 1, 99 + far)]) ++ [(other, one, free), (one, other, free), (one, other, cost)] : List Rd3).length = 11 := rfl
        generalize (([(0, n - 1 + far, free), (-far, n - 1, free), (n - 1, n - 1, free), (n, n + 1, free)] ++ [(0, 1, 0), (0, 1, 100), (0, 1, -far), (0, 1, 99 + far)]) ++ [(other, one, free), (one, other, free), (one, other, cost)] : List Rd3) = rows at some8 bad2 rl
        refine ⟨_, rfl, a, rfl, ⟨_, SqL.of ht8⟩, fun D nD => ?_⟩
        refine lc_list (K := K) (a := a) (xs := ts.map V.ref) (fun j Hj => Fr [] _ Hj ∧ Rws g2 Hj D ((as.take j).map pr)) ⟨Fr.new nD, [], upd_same, .nil⟩ (fun j Hj _ hh => SqL.of (hh.1.keep _ _ (by simp) ht8)) ?_ ?_
        · rintro j x Hj hx ⟨fj, us2, hD2, tD2⟩
          obtain ⟨t', ht', rfl⟩ := refs_get hx
          obtain ⟨q', hq', hqt'⟩ := pgetL tp8 ht'
          have hj : j < as.length := (List.getElem?_eq_some_iff.mp hq').1
          refine ⟨rfl, ?_⟩
          refine ⟨_, rfl, _, rfl, t', _, rfl, SqT.of (fj.tup _ _ hqt'), by show ¬ (0 = 0 ∧ 2 = 3); decide, fun p np => ?_⟩
          have hD3 := keepU (u := .tup (cutV (g3 q') none (some 2))) hD2 np
          have l2 := tD2.length
          rw [List.length_map, List.length_take] at l2
          refine ⟨_, hD3, by rw [List.length_map]; exact small1000 (by omega), ?_, ?_⟩
          · exact (fj.trans (Fr.new np)).put nD
          · rw [List.take_succ, hq', List.map_append]
            exact Rws.app (x := pr q') hD3 (tD2.fr (Fr.new np : Fr [] _ _)) (by rw [upd_same]; rfl)
        · rintro H9 ⟨f9, rD⟩
          rw [List.length_map, tl, List.take_length] at rD
          have D9 := D8.fr f9 (by simp)
          have F09 := F08.trans (f9.mono (by simp) : Fr [d] _ _)
          have some9 := some8.fr f9 (by simp)
          have dD' : D ≠ d := D8.ne nD
          clear some8 D8 F08 ht8 tp8 v10 v9 v8 w3 w3' hS tS p4 p5 q5 q6 q7 nD f9
          refine ⟨_, rfl, _, _, rfl, ⟨by decide, by decide, by omega, by omega⟩, fun L nL => ?_⟩
          have dL : L ≠ d := D9.ne nL
          have hHL : H L = none := F09.free nL (by simp [dL])
          have neL : ∀ {b : Addr} {o : HO}, H9 b = some o → b ≠ L := fun e => ne_of_none e nL
          have neD : D ≠ L := by
            obtain ⟨_, e, _⟩ := rD
            exact neL e
          have neS : S5 ≠ L := by
            obtain ⟨_, e, _⟩ := some9
            exact neL e
          refine lc_range (lo := 1) (n := (n - 1).toNat) (fun i Hi => ∃ ls : List (Int × Int), Rws g2 Hi L ls ∧ ls.length = i ∧ Dice K Hi d ∧ Fr [d] H Hi ∧ Rws g2 Hi D (as.map pr) ∧ Rws g3 Hi S5 rows) ?_ ?_ ?_
          · exact ⟨[], ⟨[], upd_same, .nil⟩, rfl, D9.new nL, F09.put hHL, rD.fr (Fr.new nL : Fr [] _ _) (by simp), some9.fr (Fr.new nL : Fr [] _ _) (by simp)⟩
          · rintro i Hi hi ⟨ls, ⟨us2, hL, tL⟩, ll, Di, Fi, rDi, soi⟩
            have ul2 := tL.length
            refine ⟨rfl, ?_⟩
            refine ⟨_, rfl, _, rfl, d, _, rfl, by omega, by omega, Di, fun Hk x x0 x1 Dk Fk => ?_⟩
            refine ⟨_, rfl, by show 2 ≤ sizeLine; decide, fun p np => ?_⟩
            have fp : Fr [] Hk (upd Hk p (.tup [.int x, .int (1 + (i : Int))])) := Fr.new np
            have hL2 := keepU (u := .tup [.int x, .int (1 + (i : Int))]) (Fk.keep _ _ (by simp [dL]) hL) np
            refine ⟨_, hL2, by rw [List.length_map]; exact small1000 (by omega), ls ++ [(x, 1 + (i : Int))], Rws.app hL2 ((tL.fr Fk).fr fp) upd_same, by simp [ll], (Dk.fr fp (by simp)).put hL2 dL, ((Fi.trans Fk).trans (fp.mono (by simp))).put hHL, ?_, ?_⟩
            · exact ((rDi.fr Fk (by simp [dD'])).fr fp (by simp)).fr (Fr.lst hL2 (List.mem_singleton.mpr rfl) : Fr [L] _ _) (by simp [neD])
            · exact ((soi.fr Fk (by simp [S5d])).fr fp (by simp)).fr (Fr.lst hL2 (List.mem_singleton.mpr rfl) : Fr [L] _ _) (by simp [neS])
          · rintro Hi ⟨ls, ⟨us2, hL, tL⟩, ll, Di, Fi, ⟨us3, hD3, tD3⟩, ⟨us4, hS4, tS4⟩⟩
            have ul2 := tL.length
            have ul4 : us4.length = 11 := tS4.length.trans rl
            refine ⟨_, rfl, _, rfl, L, rfl, ⟨_, SqL.of hL⟩, fun C nC => ?_⟩
            refine lc_list (K := K) (a := L) (xs := us2.map V.ref) (fun j Hj => Fr [] Hi Hj ∧ ∃ rs2 : List Rd3, Rws g3 Hj C rs2 ∧ rs2.length ≤ j ∧ ∀ r ∈ rs2, cst r = cost) ⟨Fr.new nC, [], ⟨[], upd_same, .nil⟩, Nat.le_refl _, fun r hr => by simp at hr⟩ (fun j Hj _ hh => SqL.of (hh.1.keep _ _ (by simp) hL)) ?_ ?_
            · rintro j x Hj hx ⟨fj, rs2, ⟨us5, hC, tC⟩, le, ca⟩
              obtain ⟨t', ht', rfl⟩ := refs_get hx
              obtain ⟨p', hp', hpt'⟩ := pgetL tL ht'
              have hj : j < ls.length := (List.getElem?_eq_some_iff.mp hp').1
              have ul5 := tC.length
              have hpj := fj.tup _ _ hpt'
              have hDj := fj.keep _ _ (by simp) hD3
              refine ⟨rfl, ?_⟩
              refine ⟨_, rfl, _, rfl, _, _, dp_row (r := r2 p') hpj, .lst (SqL.of hDj) (dp_rows (r := r2) (tD3.fr fj)), dI_shaped _, by rw [map_dI]; exact dIs_shaped _, _, rfl, ite2 (fun _ => ?_) (fun _ => ?_)⟩
              · refine ⟨_, rfl, _, rfl, by show 1 ≤ sizeLine; decide, fun p np => ?_⟩
                refine ⟨t', p, _, _, rfl, rfl, SqT.of (keepU hpj np), SqT.of upd_same, by unfold g2; simp, by show 3 ≤ sizeLine; decide, (fun z => by cases z), fun _ p2 np2 => ?_⟩
                have f2 : Fr [] Hj (upd (upd Hj p (.tup [.int cost])) p2 (.tup (g2 p' ++ [.int cost]))) := (Fr.new np).trans (Fr.new np2)
                have hC2 := f2.keep _ _ (by simp) hC
                refine ⟨_, hC2, by rw [List.length_map]; exact small1000 (by omega), (fj.trans f2).put nC, rs2 ++ [(p'.1, p'.2, cost)], Rws.app hC2 (tC.fr f2) (by rw [upd_same]; rfl), by simp; omega, fun r hr => ?_⟩
                rcases List.mem_append.mp hr with hr | hr
                · exact ca r hr
                · rw [List.mem_singleton.mp hr]
                  rfl
              · exact ⟨fj, rs2, ⟨us5, hC, tC⟩, by omega, ca⟩
            · rintro Hj ⟨fj, rs2, ⟨us5, hC, tC⟩, le, ca⟩
              have ul5 := tC.length
              rw [List.length_map] at le
              refine ⟨S5, C, _, _, rfl, rfl, fj.keep _ _ (by simp) hS4, hC, ?_, fun S6 p6 => ?_⟩
              · rw [List.length_map, List.length_map]
                exact Nat.le_of_lt (small1000 (by omega))
              have f6 : Fr [] Hi (upd Hj S6 (.lst (us4.map V.ref ++ us5.map V.ref))) := fj.trans (Fr.new p6)
              refine fin _ S6 _ _ ((Di.fr fj (by simp)).ne p6) (Rws.cat (tS4.fr fj) tC p6) (fun r hr => ?_) ?_ ?_ (Di.fr f6 (by simp)) (Fi.trans (f6.mono (by simp))) rfl rfl
              · rcases List.mem_append.mp hr with hr | hr
                · exact bad2 r hr
                · exact bad_1 (.inr (.inr ⟨_, hm, .inr (ca r hr).symm⟩))
              · rw [List.length_append]
                omega
              · rw [List.length_append]
                omega
      · exact fin _ S3 _ _ S3d some2 bad1 (by show 0 < 8; decide) (by show 8 ≤ 100; decide) Di6 F06 rfl rfl
end
end LT
namespace LT
open PySem L2
section
variable {P : Program} {w : World} {K : PySem.W.Frag} {mg : Str → Option Value} {base : Heap}
theorem notBad_of {n : Int} {rs : List Rd3} (rng : ∀ r ∈ rs, 0 ≤ r.1 ∧ r.1 < r.2.1 ∧ r.2.1 < n ∧ 1 ≤ r.2.2 ∧ r.2.2 ≤ 99) (pairs : (rs.map pr).Nodup) (costs : (rs.map cst).Nodup) (j : Nat) (q : Rd3) (hq : rs[j]? = some q) : isBad n q (rs.take j) = false := by
  have z := rng q (List.mem_of_getElem? hq)
  unfold isBad
  simp only [Bool.or_eq_false_iff, Bool.not_eq_false', Bool.and_eq_true, decide_eq_true_eq, List.any_eq_false]
  refine ⟨⟨⟨⟨z.1, z.2.1⟩, z.2.2.1⟩, z.2.2.2⟩, fun p hp => ?_⟩
  have a := take_nodup pairs hq hp
  have b := take_nodup costs hq hp
  simp [a, b]
theorem Way.stays {ps : List (Int × Int)} {a b h : Int} (w : Way ps a b) (ha : a ≠ h) (hp : ∀ p ∈ ps, p.1 ≠ h ∧ p.2 ≠ h) : b ≠ h := by
  induction w with
  | refl => exact ha
  | step _ e _ =>
    rcases e with e | e
    · exact (hp _ e).2
    · exact (hp _ e).1
theorem apart_next {n : Int} {rs : List Rd3} (w : WebOk n rs) (h : n < 8) : NoWeb (n + 1) rs "apart" 0 := by
  have := w.lo
  refine .apart (by omega) (by omega) w.len (notBad_of (fun r hr => ?_) w.pairs w.costs) fun c => ?_
  · have := w.rng r hr
    exact ⟨this.1, this.2.1, by omega, this.2.2.2⟩
  · refine (c n (by omega) (by omega)).stays (h := n) (by omega) (fun p hp => ?_) rfl
    obtain ⟨r, hr, rfl⟩ := List.mem_map.mp hp
    have := w.rng r hr
    exact ⟨by show r.1 ≠ n; omega, by show r.2.1 ≠ n; omega⟩
theorem apart_last {rs : List Rd3} (w : WebOk 8 rs) {f : Rd3 → Bool} (hf : ∀ r, f r = true → r.1 ≠ 7 ∧ r.2.1 ≠ 7) : NoWeb 8 (rs.filter f) "apart" 0 := by
  have hl := List.length_filter_le f rs
  have := w.len
  refine .apart (by decide) (by decide) (by omega) (notBad_of (fun r hr => w.rng r (List.mem_filter.mp hr).1) ?_ ?_) fun c => ?_
  · exact w.pairs.sublist (List.filter_sublist.map _)
  · exact w.costs.sublist (List.filter_sublist.map _)
  · refine (c 7 (by decide) (by decide)).stays (h := 7) (by decide) (fun p hp => ?_) rfl
    obtain ⟨r, hr, rfl⟩ := List.mem_map.mp hp
    exact hf r (List.mem_filter.mp hr).2
theorem bad_road {n : Int} {rs more : List Rd3} (w : WebOk n rs) {r : Rd3} {i : Nat} (hi : i ≤ rs.length) (h20 : i < 20) (hb : isBad n r (rs.take i) = true) : NoWeb n ((rs.take i ++ [r] ++ more).take 20) "road" i := by
  have li : (rs.take i).length = i := by
    rw [List.length_take]
    omega
  have tk : ∀ j, j ≤ i → ((rs.take i ++ [r] ++ more).take 20).take j = rs.take j := fun j hj => by
    rw [List.take_take, Nat.min_eq_left (by omega), List.append_assoc, List.take_append_of_le_length (by omega), List.take_take, Nat.min_eq_left hj]
  refine .road w.lo w.hi (by rw [List.length_take]; omega) (fun j q hj hq => ?_) (r := r) ?_ ?_
  · rw [tk j (by omega)]
    refine w.notBad j q ?_
    rw [List.getElem?_take_of_lt (by omega), List.append_assoc, List.getElem?_append_left (by omega), List.getElem?_take_of_lt hj] at hq
    exact hq
  · rw [List.getElem?_take_of_lt h20, List.append_assoc, List.getElem?_append_right (by omega), li]
    simp
  · rw [tk i (Nat.le_refl _)]
    exact hb
theorem passLN {X : Cx} : Passes (L2N.CX X.prog X.w) X E0 := fun _ _ _ _ _ _ _ h => by
  obtain ⟨_, _, _, _, _, _, _, _, _, _, _, _, z⟩ := h
  exact z.elim
theorem rep_map {α β : Type} (f : α → β) (k : Nat) (l : List α) : (List.replicate k (l.map f)).flatten = ((List.replicate k l).flatten).map f := by
  rw [List.map_flatten, List.map_replicate]
theorem Tup.rep {α : Type} {g : α → List V} {H : Hp} {ts : List Addr} {xs : List α} (h : Tup g H ts xs) : ∀ k, Tup g H (List.replicate k ts).flatten (List.replicate k xs).flatten
  | 0 => .nil
  | k + 1 => by
    rw [List.replicate_succ, List.flatten_cons, List.replicate_succ, List.flatten_cons]
    exact pappend h (Tup.rep h k)
theorem len_rep {α : Type} (k : Nat) (l : List α) : (List.replicate k l).flatten.length = k * l.length := by
  rw [List.length_flatten, List.map_replicate, List.sum_replicate_nat]
theorem rep_one {α β : Type} (f : α → β) (k : Nat) (t : α) : (List.replicate k [f t]).flatten = (List.replicate k t).map f := by
  rw [List.map_replicate]
  induction k with
  | zero => rfl
  | succ k ih => rw [List.replicate_succ, List.flatten_cons, ih, List.replicate_succ]; rfl
theorem Tup.one {α : Type} {g : α → List V} {H : Hp} {t : Addr} {x : α} (h : H t = some (.tup (g x))) : ∀ k, Tup g H (List.replicate k t) (List.replicate k x)
  | 0 => .nil
  | k + 1 => .cons h (Tup.one h k)
def far7 (q : Rd3) : Bool := !decide ((7 : Int) ∈ [q.1, q.2.1])
def spLaw (K : PySem.W.Frag) : Sp := fun vs H Q _ => ∃ (a : Addr) (ns : List Int), vs = [.ref a] ∧ Scr K H a ns ∧ ns.length ≤ 63 ∧ ∀ H', Q (.bl true) H'
theorem ok_law (T : Txt K mg) : FnOk P w K mg base CX0 7 T.a_law T.d_law ["_law_script"] (spLaw K) := by
  have G__law_dice := ok_law_dice (P := P) (w := w) (base := base) T
  have G__law_next := ok_law_next (P := P) (w := w) (base := base) T
  have G__law_web := ok_law_web (P := P) (w := w) (base := base) T
  have G__law_like := ok_law_like (P := P) (w := w) (base := base) T 4
  have G__law_bad := ok__law_bad (P := P) (w := w) (base := base) T
  have G__law_refused := ok__law_refused (P := P) (w := w) (base := base) T
  have G_Web___init__ := ok_Web___init__ (P := P) (w := w) (base := base) T
  have G_Web_hands := ok_Web_hands (P := P) (w := w) (base := base) T
  have G_Web_roads := ok_Web_roads (P := P) (w := w) (base := base) T
  refine T.F_law.ok sc_law (fun vs H Q E h => ?_) (fun cdv A outer s H vs Q E hr h => ?_)
  · obtain ⟨_, _, rfl, _⟩ := h
    rfl
  · obtain ⟨a, ns, rfl, hS, hl, k⟩ := h
    refine ⟨_, (pss_cons (ps_set (i := 1) sc_law.nd rfl (Or.inl rfl) (pe_call G__law_dice (hr.mono (by decide)) rfl T.g__law_dice T.F__law_dice.kp T.b__law_dice .nil pass0 (pa_cons (pv 0) pa_nil)))
 (pss_cons (ps_asg (pe_call G__law_web (hr.mono (by decide)) rfl T.g__law_web T.F__law_web.kp T.b__law_web .nil pass0 (pa_cons (pv 1) (pa_cons pe_int pa_nil))) (pg_tup rfl (pgs_cons (pg_name (i := 2) sc_law.nd rfl (Or.inl rfl)) (pgs_cons (pg_name (i := 3) sc_law.nd rfl (Or.inl rfl)) pgs_nil))))
 (pss_cons (ps_set (i := 4) sc_law.nd rfl (Or.inl rfl) (pe_callTy call_list_of (by rfl) T.nb_list (by decide +kernel) (pa_cons (pv 3) pa_nil)))
 (pss_cons (ps_set (i := 5) sc_law.nd rfl (Or.inl rfl) (pe_make T.mk_Web G_Web___init__ (hr.mono (by decide)) rfl T.g_Web T.b_Web___init__ .nil passLN (pa_cons (pv 2) (pa_cons (pv 4) pa_nil))))
 (pss_cons (ps_if (pt_cmpR (op_neD hr.units) (pv 4) (pv 3) (nomark _)) (pss_one (ps_ret pe_bl)) pss_nil)
 (pss_cons (ps_expr (pe_bm0 PySem.F.plainAttrs_list PySem.F.slot_list_clear PySem.F.type_list_clear mt_clear (pv 4)))
 (pss_cons (ps_for PassesOwn.never rfl (pi_range1 (by rfl) T.nb_range (pa_cons pe_int pa_nil)) (pg_name (i := 6) sc_law.nd rfl (Or.inl rfl))
  (pss_cons (ps_if (pt_not (pt_val (pe_call G__law_like (hr.mono (by decide)) rfl T.g__law_like T.F__law_like.kp T.b__law_like .nil pass0 (pa_cons (pe_lst (pa_cons (pe_meth0 (pv 5) T.cl_Web T.m_Web_hands G_Web_hands (hr.mono (by decide)) T.b_Web_hands .nil pass0) (pa_cons (pe_meth0 (pv 5) T.cl_Web T.m_Web_roads G_Web_roads (hr.mono (by decide)) T.b_Web_roads .nil pass0) pa_nil))) (pa_cons (pe_lst (pa_cons (pv 2) (pa_cons (pv 3) pa_nil))) pa_nil))))) (pss_one (ps_ret pe_bl)) pss_nil)
 (pss_one (ps_expr (pe_bm0 PySem.F.plainAttrs_list PySem.F.slot_list_clear PySem.F.type_list_clear mt_clear (pe_meth0 (pv 5) T.cl_Web T.m_Web_roads G_Web_roads (hr.mono (by decide)) T.b_Web_roads .nil pass0))))))
 (pss_cons (ps_set (i := 7) sc_law.nd rfl (Or.inl rfl) (pe_call G__law_next (hr.mono (by decide)) rfl T.g__law_next T.F__law_next.kp T.b__law_next .nil pass0 (pa_cons (pv 1) (pa_cons (pe_op op_add (pe_callB call_len_seq (by rfl) T.nb_len (by decide +kernel) (pa_cons (pv 3) pa_nil)) pe_int) pa_nil))))
 (pss_cons (ps_set (i := 8) sc_law.nd rfl (Or.inl rfl) (pe_op op_cat (pe_op op_cat (pe_op op_cat (pe_slice sl_list (pv 3) po_none (po_some (pv 7))) (pe_lst (pa_cons (pe_call G__law_bad (hr.mono (by decide)) rfl T.g__law_bad T.F__law_bad.kp T.b__law_bad .nil pass0 (pa_cons (pv 1) (pa_cons (pv 2) (pa_cons (pe_slice sl_list (pv 3) po_none (po_some (pv 7))) pa_nil)))) pa_nil))) (pe_op op_rep (pe_lst (pa_cons (pe_tup (pa_cons pe_int (pa_cons pe_int (pa_cons pe_int pa_nil)))) pa_nil)) (pe_call G__law_next (hr.mono (by decide)) rfl T.g__law_next T.F__law_next.kp T.b__law_next .nil pass0 (pa_cons (pv 1) (pa_cons pe_int pa_nil))))) (pe_slice sl_list (pv 3) (po_some (pv 7)) po_none)))
 (pss_cons (ps_if (pt_not (pt_val (pe_call G__law_refused (hr.mono (by decide)) rfl T.g__law_refused T.F__law_refused.kp T.b__law_refused .nil pass0 (pa_cons (pv 2) (pa_cons (pe_slice sl_list (pv 8) po_none (po_some pe_int)) (pa_cons pe_str (pa_cons (pv 7) pa_nil))))))) (pss_one (ps_ret (pe_cmpR op_eq (pv 7) pe_int (nomark _)))) pss_nil)
 (pss_cons (ps_set (i := 9) sc_law.nd rfl (Or.inl rfl) (pe_ix ix_list (pe_lst (pa_cons pe_int (pa_cons pe_int (pa_cons (pe_op op_sub (pe_un un_neg pe_int) (pe_call G__law_next (hr.mono (by decide)) rfl T.g__law_next T.F__law_next.kp T.b__law_next .nil pass0 (pa_cons (pv 1) (pa_cons (pe_op op_pow pe_int pe_int) pa_nil)))) (pa_cons (pe_op op_add pe_int (pe_call G__law_next (hr.mono (by decide)) rfl T.g__law_next T.F__law_next.kp T.b__law_next .nil pass0 (pa_cons (pv 1) (pa_cons (pe_op op_pow pe_int pe_int) pa_nil)))) pa_nil))))) (pe_call G__law_next (hr.mono (by decide)) rfl T.g__law_next T.F__law_next.kp T.b__law_next .nil pass0 (pa_cons (pv 1) (pa_cons pe_int pa_nil))) (fun _ _ => rfl)))
 (pss_cons (ps_if (pt_not (pt_val (pe_call G__law_refused (hr.mono (by decide)) rfl T.g__law_refused T.F__law_refused.kp T.b__law_refused .nil pass0 (pa_cons (pv 9) (pa_cons (pe_op op_cat (pv 8) (pe_op op_rep (pe_slice sl_list (pv 8) po_none (po_some pe_int)) pe_int)) (pa_cons pe_str (pa_cons pe_int pa_nil))))))) (pss_one (ps_ret pe_bl)) pss_nil)
 (pss_cons (ps_if (pt_not (pt_val (pe_call G__law_refused (hr.mono (by decide)) rfl T.g__law_refused T.F__law_refused.kp T.b__law_refused .nil pass0 (pa_cons (pv 2) (pa_cons (pe_slice sl_list (pe_op op_rep (pv 8) pe_int) po_none (po_some (pe_op op_add pe_int (pe_call G__law_next (hr.mono (by decide)) rfl T.g__law_next T.F__law_next.kp T.b__law_next .nil pass0 (pa_cons (pv 1) (pa_cons pe_int pa_nil)))))) (pa_cons pe_str (pa_cons pe_int pa_nil))))))) (pss_one (ps_ret pe_bl)) pss_nil)
 (pss_cons (ps_if (pt_cmpR op_eq (pv 2) pe_int (nomark _)) (pss_one (ps_ret (pe_call G__law_refused (hr.mono (by decide)) rfl T.g__law_refused T.F__law_refused.kp T.b__law_refused .nil pass0 (pa_cons pe_int (pa_cons (pe_lc (own := [("_law_road", 10)]) (g := gName 10) (by rfl) sc_law.nd (pi_list (pv 3)) (blkOk_by (own := [("_law_road", 10)]) (N := ["_law_script", "_law_d", "_law_hands", "_law_roads", "_law_handed", "_law_web_here", "_law_turn", "_law_at", "_law_rows", "_law_odd", "_law_road"]) (sc := defScope s_law) (by decide +kernel)) (fun _ _ _ _ _ => by exact (pg_name (i := 10) sc_law.nd rfl (Or.inl rfl))) (fun _ _ _ _ _ => by exact (pts_one (pt_cmpR (op_notIn_seqK K rfl) pe_int (pe_slice (sl_tupK K rfl) (pv 10) po_none (po_some pe_int)) rfl))) (fun _ _ _ _ _ => by exact (pv 10))) (pa_cons pe_str (pa_cons pe_int pa_nil))))))) pss_nil)
 (pss_one (ps_ret (pe_call G__law_refused (hr.mono (by decide)) rfl T.g__law_refused T.F__law_refused.kp T.b__law_refused .nil pass0 (pa_cons (pe_op op_add (pv 2) pe_int) (pa_cons (pv 3) (pa_cons pe_str (pa_cons pe_int pa_nil))))))))))))))))))))), ?_⟩
    refine ⟨_, rfl, a, ns, rfl, hS, hl, fun H1 d nd D1 F1 => ?_⟩
    refine ⟨_, rfl, d, 8, rfl, by decide, by decide, D1, fun H2 t b n rs n8 ok nt nb ht rb D2 F2 => ?_⟩
    refine ⟨t, _, rfl, SqT.of ht, rfl, _, _, rfl, _, _, rfl, rfl, ?_⟩
    have n1' := ok.lo
    have l20 := ok.len
    have dt : b ≠ d := fun e => by
      obtain ⟨_, z⟩ := D1.lst
      rw [e, z] at nb
      cases nb
    obtain ⟨ts, hts, tps⟩ := rb
    have tl := tps.length
    refine ⟨_, rfl, b, _, rfl, .inl (SqL.of hts), fun h nh => ?_⟩
    have f3 : Fr [] H2 (upd H2 h (.lst (ts.map V.ref))) := Fr.new nh
    have D3 := D2.fr f3 (by simp)
    have hts3 := f3.keep _ _ (by simp) hts
    have tps3 := tps.fr f3
    have bh : b ≠ h := ne_of_none hts nh
    have hd : h ≠ d := D2.ne nh
    refine ⟨_, rfl, _, rfl, fun p dx np ndx ne => ?_⟩
    have f4 : Fr [] (upd H2 h (.lst (ts.map V.ref))) (upd (upd (upd H2 h (.lst (ts.map V.ref))) dx (.own p)) p (.ins T.C_Web dx [])) := (Fr.new ndx).put np
    have hh4 := f4.keep h _ (by simp) upd_same
    refine ⟨p, dx, h, n, rs, rfl, upd_same, ⟨ts, hh4, tps3.fr f4⟩, by omega, fun _ H5 l f5 nl wa => ⟨rfl, ?_⟩, fun why num no => absurd ok no.not⟩
    have D4 := D3.fr f4 (by simp)
    have pd : p ≠ d := D3.ne np
    have hp : h ≠ p := ne_of_none upd_same np
    have bp : b ≠ p := ne_of_none hts3 np
    have D5 := D4.fr f5 (by simp [pd.symm])
    have hh5 := f5.keep h _ (by simp [hp]) hh4
    have hb5 := f5.keep b _ (by simp [bp]) (f4.keep _ _ (by simp) hts3)
    have tps5 := (tps3.fr f4).fr f5
    have lh : l ≠ h := fun e => by rw [e, hh4] at nl; cases nl
    have ld : l ≠ d := D4.ne nl
    have lb : l ≠ b := fun e => by rw [e, f4.keep _ _ (by simp) hts3] at nl; cases nl
    clear f5 f4 f3 nl ne
    refine ⟨_, rfl, _, rfl, .list ((rs.map r3).map dI), .list ((rs.map r3).map dI), .lst (SqL.of hh5) (by rw [← map_dI]; exact dp_rows (r := r3) tps5), .lst (SqL.of hb5) (by rw [← map_dI]; exact dp_rows (r := r3) tps5), dIs_shaped _, dIs_shaped _, ?_⟩
    rw [dIs_eqv, decide_eq_true rfl]
    refine ⟨_, rfl, iteF ?_⟩
    refine ⟨_, rfl, .inl ⟨rfl, _, .inl (.inl hh5)⟩, h, _, rfl, rfl, hh5, ?_⟩
    have f6 : Fr [h] H5 (upd H5 h (.lst [])) := Fr.lst hh5 (List.mem_singleton.mpr rfl)
    have D6 := D5.put (o := .lst []) hh5 hd
    have wa6 := wa.fr f6 (by simp [hp.symm]) (by simp [lh])
    have hb6 := f6.keep _ _ (by simp [bh]) hb5
    have tps6 := tps5.fr f6
    refine ⟨2, rfl, by decide, by decide, ?_⟩
    refine for_range (lo := 0) (n := 2) (fun i σ Hi => (∃ v6 v7 v8 v9 v10 : Option V, σ = [some (.ref a), some (.ref d), some (.int n), some (.ref b), some (.ref h), some (.ref p), v6, v7, v8, v9, v10]) ∧
      WebAt T.C_Web Hi p n l rs ∧ Dice K Hi d ∧ Hi b = some (.lst (ts.map V.ref)) ∧ Tup g3 Hi ts rs) ⟨⟨_, _, _, _, _, rfl⟩, wa6, D6, hb6, tps6⟩ ?_ ?_
    · rintro i σ Hi _ ⟨⟨v6, v7, v8, v9, v10, rfl⟩, wa, Di, hbi, tpi⟩
      obtain ⟨⟨dx', hpi⟩, _⟩ := id wa
      have no : ∀ m : Str, ¬ m = "_roads" → ¬ m = "_hands" → (webFs n l).lookup m = none := fun m h1 h2 => webFs_no n l h1 h2
      refine ⟨_, rfl, p, dx', _, rfl, hpi, no _ (by decide +kernel) (by decide +kernel), p, l, n, rs, rfl, wa, ?_⟩
      refine ⟨_, rfl, p, dx', _, rfl, hpi, no _ (by decide +kernel) (by decide +kernel), p, l, n, rs, rfl, wa, fun c nc Hc fc rc => ?_⟩
      obtain ⟨us, huc, tuc⟩ := rc
      refine ⟨by show 2 ≤ sizeLine; decide, fun A1 nA1 => ?_⟩
      refine ⟨_, rfl, _, rfl, by show 2 ≤ sizeLine; decide, fun A2 nA2 => ?_⟩
      have f2 : Fr [] Hc (upd (upd Hc A1 (.lst [.int n, .ref c])) A2 (.lst [.int n, .ref b])) := (Fr.new nA1).trans (Fr.new nA2)
      have fi2 := fc.trans f2
      refine ⟨_, _, rfl, ?_, true, rfl, iteF ?_⟩
      · refine .inr ⟨A1, A2, _, _, rfl, rfl, .inl ⟨keepU upd_same nA2, upd_same⟩, rfl, by show 2 ≤ 1000; decide, fun i u v hu hv => ?_⟩
        match i, hu, hv with
        | 0, hu, hv =>
          cases hu
          cases hv
          exact Lk.int n
        | 1, hu, hv =>
          cases hu
          cases hv
          exact Lk.rows (r := r3) (f2.keep _ _ (by simp) huc) (fi2.keep _ _ (by simp) hbi) (tuc.fr f2) (tpi.fr fi2) (by omega) (fun _ => by show 3 ≤ 1000; decide)
      have wa2 := wa.fr fi2 (by simp) (by simp)
      obtain ⟨⟨dx2, hp2⟩, _⟩ := id wa2
      refine ⟨_, rfl, p, dx2, _, rfl, hp2, no _ (by decide +kernel) (by decide +kernel), p, l, n, rs, rfl, wa2, fun c2 nc2 Hd fd rc2 => ?_⟩
      obtain ⟨us2, hu2, _⟩ := rc2
      refine ⟨.inl ⟨rfl, _, .inl (.inl hu2)⟩, c2, _, rfl, rfl, hu2, ?_⟩
      have f8 := fi2.trans fd
      have D8 := Di.fr f8 (by simp)
      have f9 : Fr [c2] Hd (upd Hd c2 (.lst [])) := Fr.lst hu2 (List.mem_singleton.mpr rfl)
      have hb8 := f8.keep _ _ (by simp) hbi
      have cb : b ≠ c2 := ne_of_none (fi2.keep _ _ (by simp) hbi) nc2
      have cp : p ≠ c2 := ne_of_none hp2 nc2
      have cl : l ≠ c2 := by
        obtain ⟨_, us3, hl3, _⟩ := id wa2
        exact ne_of_none hl3 nc2
      have cd : c2 ≠ d := (Di.fr fi2 (by simp)).ne nc2
      exact ⟨⟨_, _, _, _, _, rfl⟩, (wa.fr f8 (by simp) (by simp)).fr f9 (by simp [cp]) (by simp [cl]), D8.put hu2 cd, f9.keep _ _ (by simp [cb]) hb8, (tpi.fr f8).fr f9⟩
    · rintro σ Hi ⟨⟨v6, v7, v8, v9, v10, rfl⟩, wa, Di, hbi, tpi⟩
      clear wa wa6 D6 hb6 tps6 hb5 hh5 tps5 D5 D4
      refine ⟨_, rfl, _, rfl, b, _, rfl, .inl (SqL.of hbi), _, _, rfl, rfl, d, _, rfl, ?_, ?_, Di, fun Hj at_ a0 a1 Dj Fj => ?_⟩
      · rw [List.length_map]
        omega
      · rw [List.length_map]
        omega
      rw [List.length_map, tl] at a1
      have hbj := Fj.keep _ _ (by simp [dt]) hbi
      have tpj := tpi.fr Fj
      obtain ⟨k0, ek⟩ : ∃ k0 : Nat, at_ = (k0 : Int) := ⟨at_.toNat, by omega⟩
      subst ek
      refine ⟨_, rfl, _, rfl, _, rfl, b, _, rfl, SqL.of hbj, fun L1 m1 => ?_⟩
      have g1 : Fr [] Hj _ := (Fr.new m1 : Fr [] _ (upd _ L1 (.lst (cutV (ts.map V.ref) none (some (k0 : Int))))))
      refine ⟨_, rfl, _, rfl, _, rfl, _, rfl, _, rfl, b, _, rfl, SqL.of (g1.keep _ _ (by simp) hbj), fun L2 m2 => ?_⟩
      have g2' := g1.trans (Fr.new m2 : Fr [] _ (upd _ L2 (.lst (cutV (ts.map V.ref) none (some (k0 : Int))))))
      have hL2 : (upd (upd Hj L1 (.lst (cutV (ts.map V.ref) none (some (k0 : Int))))) L2 (.lst (cutV (ts.map V.ref) none (some (k0 : Int))))) L2 = some (.lst ((ts.take k0).map V.ref)) := by
        rw [upd_same, cut_to, ← List.map_take]
      have Dk := Dj.fr g2' (by simp)
      have L2d : L2 ≠ d := (Dj.fr g1 (by simp)).ne m2
      have tk2 : Tup g3 _ (ts.take k0) (rs.take k0) := Tup.fr (ptake k0 tpj) g2'
      refine ⟨d, L2, n, rs.take k0, rfl, Dk, n1', n8, L2d, ⟨_, hL2, tk2⟩, by rw [List.length_take]; omega, fun r hr => ?_, fun Hm tb r hb htb Dm Fm => ?_⟩
      · have := ok.rng r (List.mem_of_mem_take hr)
        exact ⟨this.1, this.2.1, this.2.2.1⟩
      have L1d : L1 ≠ d := Dj.ne m1
      have hL1 : (upd Hj L1 (.lst (cutV (ts.map V.ref) none (some (k0 : Int))))) L1 = some (.lst ((ts.take k0).map V.ref)) := by
        rw [upd_same, cut_to, ← List.map_take]
      have hL1m := Fm.keep _ _ (by simp [L1d]) (keepU (u := .lst (cutV (ts.map V.ref) none (some (k0 : Int)))) hL1 m2)
      have tk1m : Tup g3 Hm (ts.take k0) (rs.take k0) := tk2.fr Fm
      have hbm := Fm.keep _ _ (by simp [dt]) (g2'.keep _ _ (by simp) hbj)
      have tpm := (tpj.fr g2').fr Fm
      clear hL1 hL2 tk2 g2' g1 m1 m2 Dk Fm L2d
      refine ⟨by show 1 ≤ sizeLine; decide, fun L3 m3 => ?_⟩
      have hL1n := keepU (u := .lst [.ref tb]) hL1m m3
      refine ⟨L1, L3, _, _, rfl, rfl, hL1n, upd_same, ?_, fun L4 m4 => ?_⟩
      · rw [List.length_map, List.length_take]
        exact Nat.le_of_lt (small1000 (by show _ + 1 ≤ 1000; omega))
      have h3 : Fr [] Hm (upd (upd Hm L3 (.lst [.ref tb])) L4 (.lst ((ts.take k0).map V.ref ++ [.ref tb]))) := (Fr.new m3).trans (Fr.new m4)
      refine ⟨by show 3 ≤ sizeLine; decide, fun t9 m9 => ?_⟩
      refine ⟨by show 1 ≤ sizeLine; decide, fun L5 m5 => ?_⟩
      have h4 := (h3.trans (Fr.new m9 : Fr [] _ (upd _ t9 (.tup (g3 (9, 9, 9)))))).trans (Fr.new m5 : Fr [] _ (upd _ L5 (.lst [.ref t9])))
      have Dn := Dm.fr h4 (by simp)
      refine ⟨_, rfl, d, 2, rfl, by decide, by decide, Dn, fun Ho q q0 q1 Do Fo => ?_⟩
      have tk4 : Tup g3 Ho (ts.take k0) (rs.take k0) := (tk1m.fr h4).fr Fo
      have hb4 := Fo.keep _ _ (by simp [dt]) (h4.keep _ _ (by simp) hbm)
      have tp4 : Tup g3 Ho ts rs := (tpm.fr h4).fr Fo
      have h5 := (h4.mono (N := [d]) (by simp)).trans Fo
      have nd4 : L4 ≠ d := (Dm.fr (Fr.new m3 : Fr [] _ _) (by simp)).ne m4
      have d5 : L5 ≠ d := (Dm.fr ((Fr.new m3 : Fr [] _ (upd _ L3 (.lst [.ref tb]))).trans ((Fr.new m4 : Fr [] _ (upd _ L4 (.lst ((ts.take k0).map V.ref ++ [.ref tb])))).trans (Fr.new m9 : Fr [] _ (upd _ t9 (.tup (g3 (9, 9, 9))))))) (by simp)).ne m5
      have hL5 := Fo.keep L5 _ (by simp [d5]) upd_same
      have ht9 : Ho t9 = some (.tup (g3 (9, 9, 9))) := Fo.tup _ _ (keepU upd_same m5)
      have hL4 := Fo.keep L4 _ (by simp [nd4]) (keepU (keepU upd_same m9) m5)
      have htb := Fo.tup tb _ (h4.tup _ _ htb)
      refine ⟨L5, q, _, rfl, rfl, hL5, by omega, by omega, by show 1 * q.toNat ≤ sizeLine; exact Nat.le_of_lt (small1000 (show 1 * q.toNat ≤ 1000 by omega)), fun L6 m6 => ?_⟩
      rw [rep_one]
      have hL4a := keepU (u := .lst ((List.replicate q.toNat t9).map V.ref)) hL4 m6
      refine ⟨L4, L6, _, _, rfl, rfl, hL4a, upd_same, ?_, fun L7 m7 => ?_⟩
      · rw [List.length_append, List.length_map, List.length_take, List.length_map, List.length_replicate]
        refine Nat.le_of_lt (small1000 (show (Nat.min k0 ts.length + [V.ref tb].length + q.toNat) ≤ 1000 from ?_))
        show Nat.min k0 ts.length + 1 + q.toNat ≤ 1000
        have : Nat.min k0 ts.length ≤ ts.length := Nat.min_le_right _ _
        omega
      have f7 : Fr [] Ho (upd (upd Ho L6 (.lst ((List.replicate q.toNat t9).map V.ref))) L7 (.lst (((ts.take k0).map V.ref ++ [.ref tb]) ++ (List.replicate q.toNat t9).map V.ref))) := (Fr.new m6).trans (Fr.new m7)
      refine ⟨_, rfl, _, rfl, _, rfl, b, _, rfl, SqL.of (f7.keep _ _ (by simp) hb4), fun L8 m8 => ?_⟩
      rw [cut_from, ← List.map_drop]
      have hL7 := keepU (u := .lst ((ts.drop k0).map V.ref)) (upd_same (H := upd Ho L6 (.lst ((List.replicate q.toNat t9).map V.ref))) (a := L7) (o := .lst (((ts.take k0).map V.ref ++ [.ref tb]) ++ (List.replicate q.toNat t9).map V.ref))) m8
      refine ⟨L7, L8, _, _, rfl, rfl, hL7, upd_same, ?_, fun L9 m9 => ?_⟩
      · refine Nat.le_of_lt (small1000 (show ((ts.take k0).map V.ref ++ [V.ref tb] ++ (List.replicate q.toNat t9).map V.ref).length + ((ts.drop k0).map V.ref).length ≤ 1000 from ?_))
        simp only [List.length_append, List.length_map, List.length_take, List.length_replicate, List.length_cons, List.length_nil, List.length_drop]
        omega
      rw [show (ts.take k0).map V.ref ++ [V.ref tb] ++ (List.replicate q.toNat t9).map V.ref ++ (ts.drop k0).map V.ref = (ts.take k0 ++ [tb] ++ List.replicate q.toNat t9 ++ ts.drop k0).map V.ref from by simp]
      have f9 : Fr [] Ho (upd (upd (upd (upd Ho L6 (.lst ((List.replicate q.toNat t9).map V.ref))) L7 (.lst (((ts.take k0).map V.ref ++ [.ref tb]) ++ (List.replicate q.toNat t9).map V.ref))) L8 (.lst ((ts.drop k0).map V.ref))) L9 (.lst ((ts.take k0 ++ [tb] ++ List.replicate q.toNat t9 ++ ts.drop k0).map V.ref))) := (f7.trans (Fr.new m8)).trans (Fr.new m9)
      have tpr : Tup g3 Ho (ts.take k0 ++ [tb] ++ List.replicate q.toNat t9 ++ ts.drop k0) (rs.take k0 ++ [r] ++ (List.replicate q.toNat ((9, 9, 9) : Rd3) ++ rs.drop k0)) := by
        rw [← List.append_assoc]
        exact pappend (pappend (pappend tk4 (.cons htb .nil)) (Tup.one ht9 _)) (pdrop k0 tp4)
      have lr : (rs.take k0 ++ [r] ++ (List.replicate q.toNat ((9, 9, 9) : Rd3) ++ rs.drop k0)).length = rs.length + 1 + q.toNat := by
        simp only [List.length_append, List.length_take, List.length_replicate, List.length_cons, List.length_nil, List.length_drop]
        omega
      have hr1 : (ts.take k0 ++ [tb] ++ List.replicate q.toNat t9 ++ ts.drop k0).length = rs.length + 1 + q.toNat := by rw [← lr, tpr.length]
      have L9d : L9 ≠ d := (Do.fr (f7.trans (Fr.new m8 : Fr [] _ (upd _ L8 (.lst ((ts.drop k0).map V.ref))))) (by simp)).ne m9
      generalize hus : ts.take k0 ++ [tb] ++ List.replicate q.toNat t9 ++ ts.drop k0 = us at tpr hr1 f9 ⊢
      have hL9 := f9.keep b _ (by simp) hb4
      have D9 := Do.fr f9 (by simp)
      have tp9 := tpr.fr f9
      have tb9 := tp4.fr f9
      have h9 : (upd (upd (upd (upd Ho L6 (.lst ((List.replicate q.toNat t9).map V.ref))) L7 (.lst (((ts.take k0).map V.ref ++ [.ref tb]) ++ (List.replicate q.toNat t9).map V.ref))) L8 (.lst ((ts.drop k0).map V.ref))) L9 (.lst (us.map V.ref))) L9 = some (.lst (us.map V.ref)) := upd_same
      generalize hH9 : (upd (upd (upd (upd Ho L6 (.lst ((List.replicate q.toNat t9).map V.ref))) L7 (.lst (((ts.take k0).map V.ref ++ [.ref tb]) ++ (List.replicate q.toNat t9).map V.ref))) L8 (.lst ((ts.drop k0).map V.ref))) L9 (.lst (us.map V.ref))) = H9 at hL9 D9 tp9 tb9 h9 ⊢
      clear hL4a hL7 hL4 hL5 htb ht9 f9 f7 m6 m7 m8 m9 hus hH9 tpr tp4 tk4 hb4 h5 Fo Do h4 Dn
      generalize List.replicate q.toNat ((9, 9, 9) : Rd3) ++ rs.drop k0 = more at lr tp9
      refine ⟨_, rfl, _, rfl, _, rfl, L9, _, rfl, SqL.of h9, fun L10 m10 => ?_⟩
      rw [show cutV (us.map V.ref) none (some 20) = (us.take 20).map V.ref from by rw [show (20 : Int) = ((20 : Nat) : Int) from rfl, cut_to, ← List.map_take]]
      have f10 : Fr [] H9 (upd H9 L10 (.lst ((us.take 20).map V.ref))) := Fr.new m10
      have wr : Rws g3 (upd H9 L10 (.lst ((us.take 20).map V.ref))) L10 ((rs.take k0 ++ [r] ++ more).take 20) := ⟨_, upd_same, Tup.fr (ptake 20 tp9) f10⟩
      refine ⟨_, rfl, n, L10, _, _, _, rfl, wr, by rw [List.length_take]; omega, ?_⟩
      by_cases c20 : k0 = 20
      · refine .inl ⟨?_, fun H' _ => ⟨false, rfl, iteT ⟨_, rfl, rfl, ?_⟩⟩⟩
        · have e : (rs.take k0 ++ [r] ++ more).take 20 = rs := by
            rw [List.append_assoc, List.take_append_of_le_length (by rw [List.length_take]; omega), List.take_take]
            exact List.take_of_length_le (by omega)
          rw [e]
          exact ok
        · rw [c20]
          exact k _
      · refine .inr ⟨bad_road ok (by omega) (by omega) hb, fun Hp f11 => ⟨true, rfl, iteF ?_⟩⟩
        have f12 := f10.trans f11
        have D11 := D9.fr f12 (by simp)
        have h11 := f12.keep _ _ (by simp) h9
        have hb11 := f12.keep _ _ (by simp) hL9
        have tp11 := tp9.fr f12
        have tb11 := tb9.fr f12
        clear f12 f11 f10 wr D9 h9 hL9 tp9 tb9 m10
        refine ⟨_, rfl, _, rfl, _, _, rfl, rfl, ⟨by decide, by decide, by decide⟩, d, _, rfl, by decide, by decide, D11, fun Ha o1 o10 o11 Da Fa => ?_⟩
        refine ⟨_, _, rfl, rfl, _, rfl, _, _, rfl, rfl, ⟨by decide, by decide, by decide⟩, d, _, rfl, by decide, by decide, Da, fun Hb o2 o20 o21 Db Fb => ?_⟩
        refine ⟨_, _, rfl, rfl, by show 4 ≤ sizeLine; decide, fun LO mO => ?_⟩
        have DO := Db.new (o := .lst [.int 0, .int 9, .int (-1 - o1), .int (9 + o2)]) mO
        refine ⟨_, rfl, d, 4, rfl, by decide, by decide, DO, fun Hc o3 o30 o31 Dc Fc => ?_⟩
        have hLO := Fc.keep LO _ (by simp; exact Db.ne mO) upd_same
        obtain ⟨odd, ho, bo⟩ : ∃ odd : Int, atI [V.int 0, .int 9, .int (-1 - o1), .int (9 + o2)] o3 = some (.int odd) ∧ ¬ (1 ≤ odd ∧ odd ≤ 8) := by
          obtain rfl | rfl | rfl | rfl : o3 = 0 ∨ o3 = 1 ∨ o3 = 2 ∨ o3 = 3 := by omega
          · exact ⟨0, rfl, by omega⟩
          · exact ⟨9, rfl, by omega⟩
          · exact ⟨-1 - o1, rfl, by omega⟩
          · exact ⟨9 + o2, rfl, by omega⟩
        refine ⟨LO, _, o3, _, rfl, rfl, SqL.of hLO, ho, ?_⟩
        have fc : Fr [d] Hp Hc := ((Fa.trans Fb).trans (Fr.new mO)).trans Fc
        have hc9 := fc.keep _ _ (by simp [L9d]) h11
        have hcb := fc.keep _ _ (by simp [dt]) hb11
        have tpc := tp11.fr fc
        have tbc := tb11.fr fc
        clear fc Fc hLO DO mO Fb Fa ho D11 h11 hb11 tp11 tb11 Da Db
        refine ⟨_, rfl, _, rfl, _, rfl, _, rfl, L9, _, rfl, SqL.of hc9, fun M1 n1 => ?_⟩
        rw [show cutV (us.map V.ref) none (some 1) = (us.take 1).map V.ref from by rw [show (1 : Int) = ((1 : Nat) : Int) from rfl, cut_to, ← List.map_take]]
        have fm1 : Fr [] Hc (upd Hc M1 (.lst ((us.take 1).map V.ref))) := Fr.new n1
        have lu1 : (us.take 1).length ≤ 1 := by rw [List.length_take]; omega
        refine ⟨M1, 21, _, rfl, rfl, upd_same, by decide, by decide, ?_, fun M2 n2 => ?_⟩
        · refine Nat.le_of_lt (small1000 (show ((us.take 1).map V.ref).length * 21 ≤ 1000 from ?_))
          rw [List.length_map]
          omega
        rw [show (21 : Int).toNat = 21 from rfl, rep_map]
        have fm2 := fm1.trans (Fr.new n2 : Fr [] _ (upd _ M2 (.lst ((List.replicate 21 (us.take 1)).flatten.map V.ref))))
        have l21 : (List.replicate 21 (us.take 1)).flatten.length ≤ 21 := by
          rw [len_rep]
          omega
        refine ⟨L9, M2, _, _, rfl, rfl, fm2.keep _ _ (by simp) hc9, upd_same, ?_, fun M3 n3 => ?_⟩
        · refine Nat.le_of_lt (small1000 (show (us.map V.ref).length + ((List.replicate 21 (us.take 1)).flatten.map V.ref).length ≤ 1000 from ?_))
          rw [List.length_map, List.length_map]
          omega
        rw [← List.map_append]
        have fm3 := fm2.trans (Fr.new n3 : Fr [] _ (upd _ M3 (.lst ((us ++ (List.replicate 21 (us.take 1)).flatten).map V.ref))))
        have lk1 : ((rs.take k0 ++ [r] ++ more).take 1).length ≤ 1 := by rw [List.length_take]; omega
        refine ⟨odd, M3, rs.take k0 ++ [r] ++ more ++ (List.replicate 21 ((rs.take k0 ++ [r] ++ more).take 1)).flatten, _, _, rfl, ⟨_, upd_same, Tup.fr (pappend tpc (Tup.rep (ptake 1 tpc) 21)) fm3⟩, ?_, .inr ⟨.hands bo, fun Hd fd => ⟨true, rfl, iteF ?_⟩⟩⟩
        · rw [List.length_append, len_rep]
          omega
        have fd' := fm3.trans fd
        have Dd := Dc.fr fd' (by simp)
        have hd9 := fd'.keep _ _ (by simp) hc9
        have hdb := fd'.keep _ _ (by simp) hcb
        have tpd := tpc.fr fd'
        have tbd := tbc.fr fd'
        clear fd' fd fm3 fm2 fm1 n3 n2 n1 Dc hc9 hcb tpc tbc
        refine ⟨_, rfl, _, rfl, L9, 21, _, rfl, rfl, hd9, by decide, by decide, ?_, fun M1 n1 => ?_⟩
        · refine Nat.le_of_lt (small1000 (show (us.map V.ref).length * 21 ≤ 1000 from ?_))
          rw [List.length_map]
          omega
        rw [show (21 : Int).toNat = 21 from rfl, rep_map]
        have fm1 : Fr [] Hd (upd Hd M1 (.lst ((List.replicate 21 us).flatten.map V.ref))) := Fr.new n1
        have M1d : M1 ≠ d := Dd.ne n1
        refine ⟨_, rfl, d, 9, rfl, by decide, by decide, Dd.fr fm1 (by simp), fun He z z0 z1 De Fe => ?_⟩
        have he1 := Fe.keep _ _ (by simp [M1d]) (upd_same (H := Hd) (a := M1) (o := .lst ((List.replicate 21 us).flatten.map V.ref)))
        have fe := (fm1.mono (N := [d]) (by simp)).trans Fe
        have he9 := fe.keep _ _ (by simp [L9d]) hd9
        have heb := fe.keep _ _ (by simp [dt]) hdb
        have tpe := tpd.fr fe
        have tbe := tbd.fr fe
        refine ⟨_, _, rfl, rfl, _, rfl, M1, _, rfl, SqL.of he1, fun M2 n2 => ?_⟩
        obtain ⟨z', rfl⟩ : ∃ z' : Nat, z = (z' : Int) := ⟨z.toNat, by omega⟩
        rw [show cutV ((List.replicate 21 us).flatten.map V.ref) none (some (21 + (z' : Int))) = ((List.replicate 21 us).flatten.take (21 + z')).map V.ref from by rw [show (21 + (z' : Int)) = ((21 + z' : Nat) : Int) from by omega, cut_to, ← List.map_take]]
        have f2 : Fr [] He (upd He M2 (.lst (((List.replicate 21 us).flatten.take (21 + z')).map V.ref))) := Fr.new n2
        refine ⟨n, M2, (List.replicate 21 (rs.take k0 ++ [r] ++ more)).flatten.take (21 + z'), _, _, rfl, ⟨_, upd_same, Tup.fr (ptake _ (Tup.rep tpe 21)) f2⟩, ?_, .inr ⟨.roads n1' n8 ?_, fun Hf ff => ⟨true, rfl, iteF ?_⟩⟩⟩
        · rw [List.length_take]
          omega
        · rw [List.length_take, len_rep]
          omega
        have fe2 := f2.trans ff
        have hfb := fe2.keep _ _ (by simp) heb
        have tbf := tbe.fr fe2
        clear fe2 ff f2 n2 tbe heb tpe he9 fe he1 Fe De
        have rbf : Rws g3 Hf b rs := ⟨_, hfb, tbf⟩
        refine ⟨_, rfl, rfl, _, rfl, ite2 (fun c8 => ?_) (fun c8 => ?_)⟩
        · have e8 : n = 8 := V.int.inj (of_decide_eq_true c8)
          subst e8
          refine ⟨_, rfl, b, rfl, ⟨_, SqL.of hfb⟩, fun D nD => ?_⟩
          refine lc_list (K := K) (a := b) (xs := ts.map V.ref) (fun j Hj => Fr [] Hf Hj ∧ Rws g3 Hj D ((rs.take j).filter far7)) ⟨Fr.new nD, [], upd_same, .nil⟩ (fun j Hj _ hh => SqL.of (hh.1.keep _ _ (by simp) hfb)) ?_ ?_
          · rintro j x Hj hx ⟨fj, us2, hD2, tD2⟩
            obtain ⟨t', ht', rfl⟩ := refs_get hx
            obtain ⟨q', hq', hqt'⟩ := pgetL tbf ht'
            have hj : j < rs.length := (List.getElem?_eq_some_iff.mp hq').1
            have l2 := tD2.length
            have l3 := List.length_filter_le far7 (rs.take j)
            rw [List.length_take] at l3
            refine ⟨rfl, ?_⟩
            refine ⟨_, rfl, _, rfl, t', _, rfl, SqT.of (fj.tup _ _ hqt'), by show ¬ (0 = 0 ∧ 2 = 3); decide, fun p np => ?_⟩
            refine ⟨p, _, rfl, .inr (SqT.of upd_same), rfl, rfl, ?_⟩
            have e : inV (.int 7) (cutV (g3 q') none (some 2)) = decide (7 ∈ [q'.1, q'.2.1]) := inV_int 7 [q'.1, q'.2.1]
            show ∃ k, V.bl (!inV (.int 7) (cutV (g3 q') none (some 2))) = V.bl k ∧ _
            rw [e]
            have hD3 := keepU (u := .tup (cutV (g3 q') none (some 2))) hD2 np
            have fp : Fr [] Hj (upd Hj p (.tup (cutV (g3 q') none (some 2)))) := Fr.new np
            have hq3 := fp.tup _ _ (fj.tup _ _ hqt')
            refine ⟨_, rfl, ite2 (fun c => ?_) (fun c => ?_)⟩
            · refine ⟨_, rfl, _, hD3, by rw [List.length_map]; exact small1000 (by omega), (fj.trans fp).put nD, ?_⟩
              rw [List.take_succ, hq', List.filter_append]
              rw [show List.filter far7 (some q').toList = [q'] from by show List.filter _ [q'] = [q']; rw [List.filter_cons, if_pos (show far7 q' = true from c)]; rfl]
              exact Rws.app hD3 (tD2.fr fp) hq3
            · refine ⟨fj.trans fp, us2, hD3, ?_⟩
              rw [List.take_succ, hq', List.filter_append]
              rw [show List.filter far7 (some q').toList = [] from by show List.filter _ [q'] = []; rw [List.filter_cons, if_neg (show ¬ far7 q' = true from c)]; rfl]
              rw [List.append_nil]
              exact tD2.fr fp
          · rintro Hg ⟨fg, rg⟩
            rw [List.length_map, tl, List.take_length] at rg
            have lf := List.length_filter_le far7 rs
            refine ⟨8, D, _, _, _, rfl, rg, Nat.le_trans lf (by omega), .inr ⟨apart_last ok fun q hq => ?_, fun _ _ => k _⟩⟩
            have z : ¬ (7 ∈ [q.1, q.2.1]) := of_decide_eq_false ((Bool.not_eq_true' _).mp hq)
            exact ⟨fun e => z (by rw [e]; exact List.mem_cons_self ..), fun e => z (by rw [e]; exact List.mem_cons_of_mem _ (List.mem_cons_self ..))⟩
        · have c9 : n ≠ 8 := fun e => by
            rw [e] at c8
            simp at c8
          refine ⟨_, rfl, _, _, rfl, rfl, _, rfl, n + 1, b, rs, _, _, rfl, rbf, by omega, .inr ⟨apart_next ok (by omega), fun _ _ => k _⟩⟩
end
end LT
namespace LT
open PySem L2
theorem kit_ty {K : PySem.W.Frag} {t : Value} {T : String} {b : Bool} (h1 : PySem.W.kitMeta T = true) (h : PySem.W.subIn K t (.type T) = some b) (hn : (t == .type T) = false := by rfl) : PySem.W.kitOne K t (.type T) = some b := by
  unfold PySem.W.kitOne
  rw [hn]
  show (if PySem.W.kitMeta T = true then PySem.W.subIn K t (.type T) else none) = some b
  rw [if_pos h1, h]
theorem kit_any {K : PySem.W.Frag} {t : Value} {C : Addr} {b : Bool} (h1 : PySem.W.isClsIn K C = true) (h2 : PySem.W.typeIn K (.ref C) = some (.type "type")) (h : PySem.W.subIn K t (.ref C) = some b) (e : (t == .ref C) = true → b = true) : PySem.W.kitOne K t (.ref C) = some b := by
  have h1' : (PySem.W.clsIn K C).isSome = true := h1
  unfold PySem.W.kitOne
  by_cases c : (t == .ref C) = true
  · rw [if_pos c, e c]
  · rw [if_neg c]
    show (if ((PySem.W.clsIn K C).isSome && PySem.W.typeIn K (.ref C) == some (.type "type")) = true then PySem.W.subIn K t (.ref C) else none) = some b
    rw [h1', h2, if_pos (by rfl), h]
theorem kit_t {K : PySem.W.Frag} {t : Value} {C : Addr} (h1 : PySem.W.isClsIn K C = true) (h2 : PySem.W.typeIn K (.ref C) = some (.type "type")) (h : PySem.W.subIn K t (.ref C) = some true) : PySem.W.kitOne K t (.ref C) = some true := kit_any h1 h2 h fun _ => rfl
theorem kit_f {K : PySem.W.Frag} {D C : Addr} (h1 : PySem.W.isClsIn K C = true) (h2 : PySem.W.typeIn K (.ref C) = some (.type "type")) (h : PySem.W.subIn K (.ref D) (.ref C) = some false) (hs : PySem.W.subIn K (.ref D) (.ref D) = some true) : PySem.W.kitOne K (.ref D) (.ref C) = some false :=
  kit_any h1 h2 h fun e => by
    have q : D = C := by simpa using e
    rw [q] at h hs
    rw [h] at hs
    cases hs
theorem all_mk {l : PySem.W.OpenLaw} {w : World} {K : PySem.W.Frag} {h : Heap} {mg : Str → Option Value} {fa : Addr} (X : K.In h) (G : h.Ns mainGlobals mg) (hfa : mg "law" = some (.ref fa))
  {f_BadWeb___init__ f_Web___init__ f_Web_hands f_Web_roads f__check_web f__is_bad f__paths f__across f__law_dice f__law_next f__law_like f__law_web f__law_is f__law_refused f__law_bad f_law : Addr}
  {C_WebError C_BadWeb C_NoHand C_NoRoad C_NoLetter C_BadText C_Web : Addr}
  {od_BadWeb___init__ an_BadWeb___init__ : Option Addr} {sl_BadWeb___init__ : Array (Option Value)} {oc_BadWeb___init__ kV_BadWeb___init__ dc_BadWeb___init__ pm_BadWeb___init__ cd_BadWeb___init__ ct_BadWeb___init__ : Value}
  {od_Web___init__ an_Web___init__ : Option Addr} {sl_Web___init__ : Array (Option Value)} {oc_Web___init__ kV_Web___init__ dc_Web___init__ pm_Web___init__ cd_Web___init__ ct_Web___init__ : Value}
  {od_Web_hands an_Web_hands : Option Addr} {sl_Web_hands : Array (Option Value)} {oc_Web_hands kV_Web_hands dc_Web_hands pm_Web_hands cd_Web_hands ct_Web_hands : Value}
  {od_Web_roads an_Web_roads : Option Addr} {sl_Web_roads : Array (Option Value)} {oc_Web_roads kV_Web_roads dc_Web_roads pm_Web_roads cd_Web_roads ct_Web_roads : Value}
  {od__check_web an__check_web : Option Addr} {sl__check_web : Array (Option Value)} {oc__check_web kV__check_web dc__check_web pm__check_web cd__check_web ct__check_web : Value}
  {od__is_bad an__is_bad : Option Addr} {sl__is_bad : Array (Option Value)} {oc__is_bad kV__is_bad dc__is_bad pm__is_bad cd__is_bad ct__is_bad : Value}
  {od__paths an__paths : Option Addr} {sl__paths : Array (Option Value)} {oc__paths kV__paths dc__paths pm__paths cd__paths ct__paths : Value}
  {od__across an__across : Option Addr} {sl__across : Array (Option Value)} {oc__across kV__across dc__across pm__across cd__across ct__across : Value}
  {od__law_dice an__law_dice : Option Addr} {sl__law_dice : Array (Option Value)} {oc__law_dice kV__law_dice dc__law_dice pm__law_dice cd__law_dice ct__law_dice : Value}
  {od__law_next an__law_next : Option Addr} {sl__law_next : Array (Option Value)} {oc__law_next kV__law_next dc__law_next pm__law_next cd__law_next ct__law_next : Value}
  {od__law_like an__law_like : Option Addr} {sl__law_like : Array (Option Value)} {oc__law_like kV__law_like dc__law_like pm__law_like cd__law_like ct__law_like : Value}
  {od__law_web an__law_web : Option Addr} {sl__law_web : Array (Option Value)} {oc__law_web kV__law_web dc__law_web pm__law_web cd__law_web ct__law_web : Value}
  {od__law_is an__law_is : Option Addr} {sl__law_is : Array (Option Value)} {oc__law_is kV__law_is dc__law_is pm__law_is cd__law_is ct__law_is : Value}
  {od__law_refused an__law_refused : Option Addr} {sl__law_refused : Array (Option Value)} {oc__law_refused kV__law_refused dc__law_refused pm__law_refused cd__law_refused ct__law_refused : Value}
  {od__law_bad an__law_bad : Option Addr} {sl__law_bad : Array (Option Value)} {oc__law_bad kV__law_bad dc__law_bad pm__law_bad cd__law_bad ct__law_bad : Value}
  {od_law an_law : Option Addr} {sl_law : Array (Option Value)} {oc_law kV_law dc_law pm_law cd_law ct_law : Value}
  {nm_BadWeb q_BadWeb : Str} {N_BadWeb : Addr} {bs_BadWeb : List Value} {sn_BadWeb : List Str} {sub_BadWeb : List Value} {ab_BadWeb : Bool} {col_BadWeb : Option Bool} {dd_BadWeb : Option Addr} {m0_BadWeb m1_BadWeb m2_BadWeb m3_BadWeb m5_BadWeb : Option Value}
  {tg_MOST_HANDS tg_MOST_ROADS tg_MOST_COST : _}
  (a__check_web : PySem.W.nsIn K mainGlobals "_check_web" = some (some (.ref f__check_web)))
  (a__is_bad : PySem.W.nsIn K mainGlobals "_is_bad" = some (some (.ref f__is_bad)))
  (a__paths : PySem.W.nsIn K mainGlobals "_paths" = some (some (.ref f__paths)))
  (a__across : PySem.W.nsIn K mainGlobals "_across" = some (some (.ref f__across)))
  (a__law_dice : PySem.W.nsIn K mainGlobals "_law_dice" = some (some (.ref f__law_dice)))
  (a__law_next : PySem.W.nsIn K mainGlobals "_law_next" = some (some (.ref f__law_next)))
  (a__law_like : PySem.W.nsIn K mainGlobals "_law_like" = some (some (.ref f__law_like)))
  (a__law_web : PySem.W.nsIn K mainGlobals "_law_web" = some (some (.ref f__law_web)))
  (a__law_is : PySem.W.nsIn K mainGlobals "_law_is" = some (some (.ref f__law_is)))
  (a__law_refused : PySem.W.nsIn K mainGlobals "_law_refused" = some (some (.ref f__law_refused)))
  (a__law_bad : PySem.W.nsIn K mainGlobals "_law_bad" = some (some (.ref f__law_bad)))
  (a_law : PySem.W.nsIn K mainGlobals "law" = some (some (.ref f_law)))
  (g_WebError : PySem.W.nsIn K mainGlobals "WebError" = some (some (.ref C_WebError)))
  (g_BadWeb : PySem.W.nsIn K mainGlobals "BadWeb" = some (some (.ref C_BadWeb)))
  (g_NoHand : PySem.W.nsIn K mainGlobals "NoHand" = some (some (.ref C_NoHand)))
  (g_NoRoad : PySem.W.nsIn K mainGlobals "NoRoad" = some (some (.ref C_NoRoad)))
  (g_NoLetter : PySem.W.nsIn K mainGlobals "NoLetter" = some (some (.ref C_NoLetter)))
  (g_BadText : PySem.W.nsIn K mainGlobals "BadText" = some (some (.ref C_BadText)))
  (g_Web : PySem.W.nsIn K mainGlobals "Web" = some (some (.ref C_Web)))
  (z_ValueError : PySem.W.nsIn K mainGlobals "ValueError" = some none)
  (z_bool : PySem.W.nsIn K mainGlobals "bool" = some none)
  (z_dict : PySem.W.nsIn K mainGlobals "dict" = some none)
  (z_enumerate : PySem.W.nsIn K mainGlobals "enumerate" = some none)
  (z_int : PySem.W.nsIn K mainGlobals "int" = some none)
  (z_isinstance : PySem.W.nsIn K mainGlobals "isinstance" = some none)
  (z_len : PySem.W.nsIn K mainGlobals "len" = some none)
  (z_list : PySem.W.nsIn K mainGlobals "list" = some none)
  (z_min : PySem.W.nsIn K mainGlobals "min" = some none)
  (z_range : PySem.W.nsIn K mainGlobals "range" = some none)
  (z_sorted : PySem.W.nsIn K mainGlobals "sorted" = some none)
  (z_str : PySem.W.nsIn K mainGlobals "str" = some none)
  (z_tuple : PySem.W.nsIn K mainGlobals "tuple" = some none)
  (g_MOST_HANDS : PySem.W.nsIn K mainGlobals "MOST_HANDS" = some (some (.int 8 tg_MOST_HANDS)))
  (g_MOST_ROADS : PySem.W.nsIn K mainGlobals "MOST_ROADS" = some (some (.int 20 tg_MOST_ROADS)))
  (g_MOST_COST : PySem.W.nsIn K mainGlobals "MOST_COST" = some (some (.int 99 tg_MOST_COST)))
  (a_BadWeb___init__ : PySem.W.findIn K (.ref C_BadWeb) "__init__" = some (some (.ref f_BadWeb___init__)))
  (i_BadWeb___init__ : PySem.W.isFn K (.ref f_BadWeb___init__) = true)
  (l_BadWeb___init__ : K.lookup f_BadWeb___init__ = some ⟨oc_BadWeb___init__, od_BadWeb___init__, .func (PySem.W.fnOf "__init__" "BadWeb.__init__" (defArgs s_BadWeb___init__) (defBody s_BadWeb___init__) (defScope s_BadWeb___init__) .none kV_BadWeb___init__ dc_BadWeb___init__ pm_BadWeb___init__ an_BadWeb___init__ cd_BadWeb___init__ ct_BadWeb___init__), sl_BadWeb___init__⟩)
  (c_BadWeb___init__ : PySem.W.codeIn K cd_BadWeb___init__ "BadWeb.__init__" = true)
  (k_BadWeb___init__ : PySem.W.keepIn K (.ref f_BadWeb___init__) = true)
  (a_Web___init__ : PySem.W.findIn K (.ref C_Web) "__init__" = some (some (.ref f_Web___init__)))
  (i_Web___init__ : PySem.W.isFn K (.ref f_Web___init__) = true)
  (l_Web___init__ : K.lookup f_Web___init__ = some ⟨oc_Web___init__, od_Web___init__, .func (PySem.W.fnOf "__init__" "Web.__init__" (defArgs s_Web___init__) (defBody s_Web___init__) (defScope s_Web___init__) .none kV_Web___init__ dc_Web___init__ pm_Web___init__ an_Web___init__ cd_Web___init__ ct_Web___init__), sl_Web___init__⟩)
  (c_Web___init__ : PySem.W.codeIn K cd_Web___init__ "Web.__init__" = true)
  (k_Web___init__ : PySem.W.keepIn K (.ref f_Web___init__) = true)
  (a_Web_hands : PySem.W.findIn K (.ref C_Web) "hands" = some (some (.ref f_Web_hands)))
  (i_Web_hands : PySem.W.isFn K (.ref f_Web_hands) = true)
  (l_Web_hands : K.lookup f_Web_hands = some ⟨oc_Web_hands, od_Web_hands, .func (PySem.W.fnOf "hands" "Web.hands" (defArgs s_Web_hands) (defBody s_Web_hands) (defScope s_Web_hands) .none kV_Web_hands dc_Web_hands pm_Web_hands an_Web_hands cd_Web_hands ct_Web_hands), sl_Web_hands⟩)
  (c_Web_hands : PySem.W.codeIn K cd_Web_hands "Web.hands" = true)
  (k_Web_hands : PySem.W.keepIn K (.ref f_Web_hands) = true)
  (a_Web_roads : PySem.W.findIn K (.ref C_Web) "roads" = some (some (.ref f_Web_roads)))
  (i_Web_roads : PySem.W.isFn K (.ref f_Web_roads) = true)
  (l_Web_roads : K.lookup f_Web_roads = some ⟨oc_Web_roads, od_Web_roads, .func (PySem.W.fnOf "roads" "Web.roads" (defArgs s_Web_roads) (defBody s_Web_roads) (defScope s_Web_roads) .none kV_Web_roads dc_Web_roads pm_Web_roads an_Web_roads cd_Web_roads ct_Web_roads), sl_Web_roads⟩)
  (c_Web_roads : PySem.W.codeIn K cd_Web_roads "Web.roads" = true)
  (k_Web_roads : PySem.W.keepIn K (.ref f_Web_roads) = true)
  (l__check_web : K.lookup f__check_web = some ⟨oc__check_web, od__check_web, .func (PySem.W.fnOf "_check_web" "_check_web" (defArgs s__check_web) (defBody s__check_web) (defScope s__check_web) .none kV__check_web dc__check_web pm__check_web an__check_web cd__check_web ct__check_web), sl__check_web⟩)
  (c__check_web : PySem.W.codeIn K cd__check_web "_check_web" = true)
  (k__check_web : PySem.W.keepIn K (.ref f__check_web) = true)
  (l__is_bad : K.lookup f__is_bad = some ⟨oc__is_bad, od__is_bad, .func (PySem.W.fnOf "_is_bad" "_is_bad" (defArgs s__is_bad) (defBody s__is_bad) (defScope s__is_bad) .none kV__is_bad dc__is_bad pm__is_bad an__is_bad cd__is_bad ct__is_bad), sl__is_bad⟩)
  (c__is_bad : PySem.W.codeIn K cd__is_bad "_is_bad" = true)
  (k__is_bad : PySem.W.keepIn K (.ref f__is_bad) = true)
  (l__paths : K.lookup f__paths = some ⟨oc__paths, od__paths, .func (PySem.W.fnOf "_paths" "_paths" (defArgs s__paths) (defBody s__paths) (defScope s__paths) .none kV__paths dc__paths pm__paths an__paths cd__paths ct__paths), sl__paths⟩)
  (c__paths : PySem.W.codeIn K cd__paths "_paths" = true)
  (k__paths : PySem.W.keepIn K (.ref f__paths) = true)
  (l__across : K.lookup f__across = some ⟨oc__across, od__across, .func (PySem.W.fnOf "_across" "_across" (defArgs s__across) (defBody s__across) (defScope s__across) .none kV__across dc__across pm__across an__across cd__across ct__across), sl__across⟩)
  (c__across : PySem.W.codeIn K cd__across "_across" = true)
  (k__across : PySem.W.keepIn K (.ref f__across) = true)
  (l__law_dice : K.lookup f__law_dice = some ⟨oc__law_dice, od__law_dice, .func (PySem.W.fnOf "_law_dice" "_law_dice" (defArgs s__law_dice) (defBody s__law_dice) (defScope s__law_dice) .none kV__law_dice dc__law_dice pm__law_dice an__law_dice cd__law_dice ct__law_dice), sl__law_dice⟩)
  (c__law_dice : PySem.W.codeIn K cd__law_dice "_law_dice" = true)
  (k__law_dice : PySem.W.keepIn K (.ref f__law_dice) = true)
  (l__law_next : K.lookup f__law_next = some ⟨oc__law_next, od__law_next, .func (PySem.W.fnOf "_law_next" "_law_next" (defArgs s__law_next) (defBody s__law_next) (defScope s__law_next) .none kV__law_next dc__law_next pm__law_next an__law_next cd__law_next ct__law_next), sl__law_next⟩)
  (c__law_next : PySem.W.codeIn K cd__law_next "_law_next" = true)
  (k__law_next : PySem.W.keepIn K (.ref f__law_next) = true)
  (l__law_like : K.lookup f__law_like = some ⟨oc__law_like, od__law_like, .func (PySem.W.fnOf "_law_like" "_law_like" (defArgs s__law_like) (defBody s__law_like) (defScope s__law_like) .none kV__law_like dc__law_like pm__law_like an__law_like cd__law_like ct__law_like), sl__law_like⟩)
  (c__law_like : PySem.W.codeIn K cd__law_like "_law_like" = true)
  (k__law_like : PySem.W.keepIn K (.ref f__law_like) = true)
  (l__law_web : K.lookup f__law_web = some ⟨oc__law_web, od__law_web, .func (PySem.W.fnOf "_law_web" "_law_web" (defArgs s__law_web) (defBody s__law_web) (defScope s__law_web) .none kV__law_web dc__law_web pm__law_web an__law_web cd__law_web ct__law_web), sl__law_web⟩)
  (c__law_web : PySem.W.codeIn K cd__law_web "_law_web" = true)
  (k__law_web : PySem.W.keepIn K (.ref f__law_web) = true)
  (l__law_is : K.lookup f__law_is = some ⟨oc__law_is, od__law_is, .func (PySem.W.fnOf "_law_is" "_law_is" (defArgs s__law_is) (defBody s__law_is) (defScope s__law_is) .none kV__law_is dc__law_is pm__law_is an__law_is cd__law_is ct__law_is), sl__law_is⟩)
  (c__law_is : PySem.W.codeIn K cd__law_is "_law_is" = true)
  (k__law_is : PySem.W.keepIn K (.ref f__law_is) = true)
  (l__law_refused : K.lookup f__law_refused = some ⟨oc__law_refused, od__law_refused, .func (PySem.W.fnOf "_law_refused" "_law_refused" (defArgs s__law_refused) (defBody s__law_refused) (defScope s__law_refused) .none kV__law_refused dc__law_refused pm__law_refused an__law_refused cd__law_refused ct__law_refused), sl__law_refused⟩)
  (c__law_refused : PySem.W.codeIn K cd__law_refused "_law_refused" = true)
  (k__law_refused : PySem.W.keepIn K (.ref f__law_refused) = true)
  (l__law_bad : K.lookup f__law_bad = some ⟨oc__law_bad, od__law_bad, .func (PySem.W.fnOf "_law_bad" "_law_bad" (defArgs s__law_bad) (defBody s__law_bad) (defScope s__law_bad) .none kV__law_bad dc__law_bad pm__law_bad an__law_bad cd__law_bad ct__law_bad), sl__law_bad⟩)
  (c__law_bad : PySem.W.codeIn K cd__law_bad "_law_bad" = true)
  (k__law_bad : PySem.W.keepIn K (.ref f__law_bad) = true)
  (l_law : K.lookup f_law = some ⟨oc_law, od_law, .func (PySem.W.fnOf "law" "law" (defArgs s_law) (defBody s_law) (defScope s_law) .none kV_law dc_law pm_law an_law cd_law ct_law), sl_law⟩)
  (c_law : PySem.W.codeIn K cd_law "law" = true)
  (k_law : PySem.W.keepIn K (.ref f_law) = true)
  (ga_BadWeb : PySem.W.findIn K (.ref C_BadWeb) "__getattribute__" = some (some (.builtin "BaseException.__getattribute__")))
  (gg_BadWeb : PySem.W.findIn K (.ref C_BadWeb) "__getattr__" = some none)
  (sub_BadWeb_BaseException : PySem.W.subIn K (.ref C_BadWeb) (.type "BaseException") = some true)
  (hd_BadWeb : PySem.W.hasDictIn K C_BadWeb = true)
  (hc_BadWeb : PySem.W.findIn K (.ref C_BadWeb) "__class__" = some (some (.builtin "object.__class__")))
  (obj_get : PySem.W.specialIn K (.builtin "object.__class__") "__get__" = some (some (.builtin "getset_descriptor.__get__")))
  (obj_takes : PySem.W.takesIn K (.builtin "object.__class__") = some true)
  (mro_BadWeb : PySem.W.mroIn K C_BadWeb (.type "object") = some true)
  (xl_BadWeb : K.lookup C_BadWeb = some (excClassObj nm_BadWeb q_BadWeb C_BadWeb N_BadWeb bs_BadWeb [.ref C_WebError, .type "ValueError", .type "Exception", .type "BaseException", .type "object"] true sn_BadWeb sub_BadWeb ab_BadWeb col_BadWeb dd_BadWeb m0_BadWeb m1_BadWeb m2_BadWeb m3_BadWeb m5_BadWeb "ValueError.__new__"))
  (sa_BadWeb : PySem.W.findIn K (.ref C_BadWeb) "__setattr__" = some (some (.builtin "object.__setattr__")))
  (ty_BadWeb : PySem.W.typeIn K (.ref C_BadWeb) = some (.type "type"))
  (kc_BadWeb : PySem.W.keepIn K (.ref C_BadWeb) = true)
  (is_t_BadWeb : PySem.W.typeIn K (.ref f_BadWeb___init__) = some (.type "function"))
  (is_no_BadWeb_why : PySem.W.findIn K (.ref C_BadWeb) "why" = some none)
  (is_no_BadWeb_number : PySem.W.findIn K (.ref C_BadWeb) "number" = some none)
  (sub_WebError_BaseException : PySem.W.subIn K (.ref C_WebError) (.type "BaseException") = some true)
  (hd_WebError : PySem.W.hasDictIn K C_WebError = true)
  (ty_WebError : PySem.W.typeIn K (.ref C_WebError) = some (.type "type"))
  (sr_BadWeb_WebError : PySem.W.subIn K (.ref C_BadWeb) (.ref C_WebError) = some true)
  (cl_BadText : PySem.W.isClsIn K C_BadText = true)
  (sr_BadWeb_BadText : PySem.W.subIn K (.ref C_BadWeb) (.ref C_BadText) = some false)
  (ty_BadText : PySem.W.typeIn K (.ref C_BadText) = some (.type "type"))
  (sr_BadWeb_BadWeb : PySem.W.subIn K (.ref C_BadWeb) (.ref C_BadWeb) = some true)
  (cl_BadWeb : PySem.W.isClsIn K C_BadWeb = true)
  (cl_NoHand : PySem.W.isClsIn K C_NoHand = true)
  (sr_BadWeb_NoHand : PySem.W.subIn K (.ref C_BadWeb) (.ref C_NoHand) = some false)
  (ty_NoHand : PySem.W.typeIn K (.ref C_NoHand) = some (.type "type"))
  (cl_NoLetter : PySem.W.isClsIn K C_NoLetter = true)
  (sr_BadWeb_NoLetter : PySem.W.subIn K (.ref C_BadWeb) (.ref C_NoLetter) = some false)
  (ty_NoLetter : PySem.W.typeIn K (.ref C_NoLetter) = some (.type "type"))
  (cl_NoRoad : PySem.W.isClsIn K C_NoRoad = true)
  (sr_BadWeb_NoRoad : PySem.W.subIn K (.ref C_BadWeb) (.ref C_NoRoad) = some false)
  (ty_NoRoad : PySem.W.typeIn K (.ref C_NoRoad) = some (.type "type"))
  (sub_BadWeb_ValueError : PySem.W.subIn K (.ref C_BadWeb) (.type "ValueError") = some true)
  (pg_Web : PySem.W.plainGet K C_Web Str.empty = true)
  (hd_Web : PySem.W.hasDictIn K C_Web = true)
  (po_Web : PySem.W.plainOver K C_Web = true)
  (sa_Web : PySem.W.findIn K (.ref C_Web) "__setattr__" = some (some (.builtin "object.__setattr__")))
  (mk_Web : PySem.W.makesIn K C_Web = true)
  (kc_Web : PySem.W.keepIn K (.ref C_Web) = true)
  (na_Web__hands : PySem.W.findIn K (.ref C_Web) "_hands" = some none)
  (na_Web__roads : PySem.W.findIn K (.ref C_Web) "_roads" = some none)
  : ∃ fd : FuncData, (∀ (s : Shared) (v : Value), BindsTo s fd ⟨[v], []⟩ [("_law_script", v)]) ∧ ∀ base : Heap, K.In base → base.Ns mainGlobals mg → FnOk l.prog w K mg base CX0 7 fa fd ["_law_script"] (spLaw K) := by
  have e := hfa.symm.trans (PySem.W.mg_of X G a_law)
  cases e
  have F_BadWeb___init__ := fun_mk (st := s_BadWeb___init__) l_BadWeb___init__ c_BadWeb___init__ k_BadWeb___init__
  have b_BadWeb___init__ := F_BadWeb___init__.binds (ps := ["self", "why", "number"]) fun _ _ _ _ _ _ us hl => match us, hl with | [_, _, _], _ => rfl
  have F_Web___init__ := fun_mk (st := s_Web___init__) l_Web___init__ c_Web___init__ k_Web___init__
  have b_Web___init__ := F_Web___init__.binds (ps := ["self", "hands", "roads"]) fun _ _ _ _ _ _ us hl => match us, hl with | [_, _, _], _ => rfl
  have F_Web_hands := fun_mk (st := s_Web_hands) l_Web_hands c_Web_hands k_Web_hands
  have b_Web_hands := F_Web_hands.binds (ps := ["self"]) fun _ _ _ _ _ _ us hl => match us, hl with | [_], _ => rfl
  have F_Web_roads := fun_mk (st := s_Web_roads) l_Web_roads c_Web_roads k_Web_roads
  have b_Web_roads := F_Web_roads.binds (ps := ["self"]) fun _ _ _ _ _ _ us hl => match us, hl with | [_], _ => rfl
  have F__check_web := fun_mk (st := s__check_web) l__check_web c__check_web k__check_web
  have b__check_web := F__check_web.binds (ps := ["hands", "roads"]) fun _ _ _ _ _ _ us hl => match us, hl with | [_, _], _ => rfl
  have F__is_bad := fun_mk (st := s__is_bad) l__is_bad c__is_bad k__is_bad
  have b__is_bad := F__is_bad.binds (ps := ["hands", "road", "ahead"]) fun _ _ _ _ _ _ us hl => match us, hl with | [_, _, _], _ => rfl
  have F__paths := fun_mk (st := s__paths) l__paths c__paths k__paths
  have b__paths := F__paths.binds (ps := ["roads", "numbers", "start"]) fun _ _ _ _ _ _ us hl => match us, hl with | [_, _, _], _ => rfl
  have F__across := fun_mk (st := s__across) l__across c__across k__across
  have b__across := F__across.binds (ps := ["road", "hand"]) fun _ _ _ _ _ _ us hl => match us, hl with | [_, _], _ => rfl
  have F__law_dice := fun_mk (st := s__law_dice) l__law_dice c__law_dice k__law_dice
  have b__law_dice := F__law_dice.binds (ps := ["_law_script"]) fun _ _ _ _ _ _ us hl => match us, hl with | [_], _ => rfl
  have F__law_next := fun_mk (st := s__law_next) l__law_next c__law_next k__law_next
  have b__law_next := F__law_next.binds (ps := ["_law_dice_here", "_law_many"]) fun _ _ _ _ _ _ us hl => match us, hl with | [_, _], _ => rfl
  have F__law_like := fun_mk (st := s__law_like) l__law_like c__law_like k__law_like
  have b__law_like := F__law_like.binds (ps := ["_law_found", "_law_due"]) fun _ _ _ _ _ _ us hl => match us, hl with | [_, _], _ => rfl
  have F__law_web := fun_mk (st := s__law_web) l__law_web c__law_web k__law_web
  have b__law_web := F__law_web.binds (ps := ["_law_d", "_law_most"]) fun _ _ _ _ _ _ us hl => match us, hl with | [_, _], _ => rfl
  have F__law_is := fun_mk (st := s__law_is) l__law_is c__law_is k__law_is
  have b__law_is := F__law_is.binds (ps := ["_law_e", "_law_word"]) fun _ _ _ _ _ _ us hl => match us, hl with | [_, _], _ => rfl
  have F__law_refused := fun_mk (st := s__law_refused) l__law_refused c__law_refused k__law_refused
  have b__law_refused := F__law_refused.binds (ps := ["_law_hands", "_law_roads", "_law_why", "_law_number"]) fun _ _ _ _ _ _ us hl => match us, hl with | [_, _, _, _], _ => rfl
  have F__law_bad := fun_mk (st := s__law_bad) l__law_bad c__law_bad k__law_bad
  have b__law_bad := F__law_bad.binds (ps := ["_law_d", "_law_hands", "_law_roads"]) fun _ _ _ _ _ _ us hl => match us, hl with | [_, _, _], _ => rfl
  have F_law := fun_mk (st := s_law) l_law c_law k_law
  have b_law := F_law.binds (ps := ["_law_script"]) fun _ _ _ _ _ _ us hl => match us, hl with | [_], _ => rfl
  let T : Txt K mg := {
    a_BadWeb___init__ := f_BadWeb___init__,
    d_BadWeb___init__ := _,
    a_Web___init__ := f_Web___init__,
    d_Web___init__ := _,
    a_Web_hands := f_Web_hands,
    d_Web_hands := _,
    a_Web_roads := f_Web_roads,
    d_Web_roads := _,
    a__check_web := f__check_web,
    d__check_web := _,
    a__is_bad := f__is_bad,
    d__is_bad := _,
    a__paths := f__paths,
    d__paths := _,
    a__across := f__across,
    d__across := _,
    a__law_dice := f__law_dice,
    d__law_dice := _,
    a__law_next := f__law_next,
    d__law_next := _,
    a__law_like := f__law_like,
    d__law_like := _,
    a__law_web := f__law_web,
    d__law_web := _,
    a__law_is := f__law_is,
    d__law_is := _,
    a__law_refused := f__law_refused,
    d__law_refused := _,
    a__law_bad := f__law_bad,
    d__law_bad := _,
    a_law := fa,
    d_law := _,
    C_WebError := C_WebError,
    C_BadWeb := C_BadWeb,
    C_NoHand := C_NoHand,
    C_NoRoad := C_NoRoad,
    C_NoLetter := C_NoLetter,
    C_BadText := C_BadText,
    C_Web := C_Web,
    F_BadWeb___init__ := F_BadWeb___init__,
    b_BadWeb___init__ := b_BadWeb___init__,
    F_Web___init__ := F_Web___init__,
    b_Web___init__ := b_Web___init__,
    F_Web_hands := F_Web_hands,
    b_Web_hands := b_Web_hands,
    F_Web_roads := F_Web_roads,
    b_Web_roads := b_Web_roads,
    F__check_web := F__check_web,
    g__check_web := PySem.W.mg_of X G a__check_web,
    b__check_web := b__check_web,
    F__is_bad := F__is_bad,
    g__is_bad := PySem.W.mg_of X G a__is_bad,
    b__is_bad := b__is_bad,
    F__paths := F__paths,
    g__paths := PySem.W.mg_of X G a__paths,
    b__paths := b__paths,
    F__across := F__across,
    g__across := PySem.W.mg_of X G a__across,
    b__across := b__across,
    F__law_dice := F__law_dice,
    g__law_dice := PySem.W.mg_of X G a__law_dice,
    b__law_dice := b__law_dice,
    F__law_next := F__law_next,
    g__law_next := PySem.W.mg_of X G a__law_next,
    b__law_next := b__law_next,
    F__law_like := F__law_like,
    g__law_like := PySem.W.mg_of X G a__law_like,
    b__law_like := b__law_like,
    F__law_web := F__law_web,
    g__law_web := PySem.W.mg_of X G a__law_web,
    b__law_web := b__law_web,
    F__law_is := F__law_is,
    g__law_is := PySem.W.mg_of X G a__law_is,
    b__law_is := b__law_is,
    F__law_refused := F__law_refused,
    g__law_refused := PySem.W.mg_of X G a__law_refused,
    b__law_refused := b__law_refused,
    F__law_bad := F__law_bad,
    g__law_bad := PySem.W.mg_of X G a__law_bad,
    b__law_bad := b__law_bad,
    F_law := F_law,
    g_law := PySem.W.mg_of X G a_law,
    b_law := b_law,
    g_WebError := PySem.W.mg_of X G g_WebError,
    g_BadWeb := PySem.W.mg_of X G g_BadWeb,
    g_NoHand := PySem.W.mg_of X G g_NoHand,
    g_NoRoad := PySem.W.mg_of X G g_NoRoad,
    g_NoLetter := PySem.W.mg_of X G g_NoLetter,
    g_BadText := PySem.W.mg_of X G g_BadText,
    g_Web := PySem.W.mg_of X G g_Web,
    exc_BadWeb := ⟨ga_BadWeb, gg_BadWeb, sub_BadWeb_BaseException, hd_BadWeb, hc_BadWeb, obj_get, obj_takes, mro_BadWeb⟩,
    xf_BadWeb := ⟨ga_BadWeb, gg_BadWeb, sub_BadWeb_BaseException, hd_BadWeb⟩,
    o_BadWeb := ⟨⟨_, _, _, _, _, _, _, _, _, _, _, _, _, _, _, xl_BadWeb, rfl⟩, sa_BadWeb, sub_BadWeb_BaseException, ty_BadWeb, kc_BadWeb⟩,
    i_BadWeb := a_BadWeb___init__,
    t_BadWeb := is_t_BadWeb,
    no_BadWeb_why := is_no_BadWeb_why,
    no_BadWeb_number := is_no_BadWeb_number,
    ex_BadWeb_WebError := PySem.W.exm_ref sub_WebError_BaseException hd_WebError ty_WebError sr_BadWeb_WebError,
    ki_BadWeb_BadText := kit_f cl_BadText ty_BadText sr_BadWeb_BadText sr_BadWeb_BadWeb,
    ki_BadWeb_BadWeb := kit_t cl_BadWeb ty_BadWeb sr_BadWeb_BadWeb,
    ki_BadWeb_NoHand := kit_f cl_NoHand ty_NoHand sr_BadWeb_NoHand sr_BadWeb_BadWeb,
    ki_BadWeb_NoLetter := kit_f cl_NoLetter ty_NoLetter sr_BadWeb_NoLetter sr_BadWeb_BadWeb,
    ki_BadWeb_NoRoad := kit_f cl_NoRoad ty_NoRoad sr_BadWeb_NoRoad sr_BadWeb_BadWeb,
    ki_BadWeb_ValueError := kit_ty (by decide +kernel) sub_BadWeb_ValueError,
    cl_Web := ⟨pg_Web, hd_Web, po_Web, sa_Web⟩,
    mk_Web := ⟨mk_Web, a_Web___init__, i_Web___init__, kc_Web⟩,
    m_Web_hands := ⟨a_Web_hands, i_Web_hands, k_Web_hands⟩,
    m_Web_roads := ⟨a_Web_roads, i_Web_roads, k_Web_roads⟩,
    na_Web__hands := na_Web__hands,
    na_Web__roads := na_Web__roads,
    nb_ValueError := PySem.W.mg_none_of X G z_ValueError,
    nb_bool := PySem.W.mg_none_of X G z_bool,
    nb_dict := PySem.W.mg_none_of X G z_dict,
    nb_enumerate := PySem.W.mg_none_of X G z_enumerate,
    nb_int := PySem.W.mg_none_of X G z_int,
    nb_isinstance := PySem.W.mg_none_of X G z_isinstance,
    nb_len := PySem.W.mg_none_of X G z_len,
    nb_list := PySem.W.mg_none_of X G z_list,
    nb_min := PySem.W.mg_none_of X G z_min,
    nb_range := PySem.W.mg_none_of X G z_range,
    nb_sorted := PySem.W.mg_none_of X G z_sorted,
    nb_str := PySem.W.mg_none_of X G z_str,
    nb_tuple := PySem.W.mg_none_of X G z_tuple,
    g_MOST_HANDS := ⟨_, PySem.W.mg_of X G g_MOST_HANDS⟩,
    g_MOST_ROADS := ⟨_, PySem.W.mg_of X G g_MOST_ROADS⟩,
    g_MOST_COST := ⟨_, PySem.W.mg_of X G g_MOST_COST⟩ }
  exact ⟨PySem.W.fnOf "law" "law" (defArgs s_law) (defBody s_law) (defScope s_law) .none kV_law dc_law pm_law an_law cd_law ct_law, fun s v => .of_eq rfl, fun base _ _ => ok_law T⟩
theorem walk {l : PySem.W.OpenLaw} {q : Program} {loose : List Str} {XP : (Str → Option Value) → Heap → Prop} {YP : World → Heap → Prop} {d : DefRec} {K : Params → PySem.W.Frag} (hn : l.most = some 63) (hdf : d.params.defaults = [])
    (hY : ∀ (w : World) (h : Heap), YP w h → (K w.params).In h)
    (F : ∀ (w : World) (mg : Str → Option Value) (fa : Addr) (h : Heap), (K w.params).In h → h.Ns mainGlobals mg → mg d.name = some (.ref fa) →
      ∃ fd : FuncData, (∀ (s : Shared) (u : Value), BindsTo s fd ⟨[u], []⟩ [("_law_script", u)]) ∧ ∀ base : Heap, (K w.params).In base → base.Ns mainGlobals mg → FnOk l.prog w (K w.params) mg base CX0 7 fa fd ["_law_script"] (spLaw (K w.params))) :
    PySem.W.WalkO q loose XP YP l.row.toRowW d [] (fun f vs => PySem.call f vs) :=
  L2.walk_of (n := 63) (k := 7) (x := "_law_script") (CX := fun _ => CX0) (sp := fun w => spLaw (K w.params)) hn (by decide) hdf ⟨rfl, by decide, by decide⟩ hY F (fun _ _ a ns hl hO hS => ⟨a, ns, rfl, Scr.of hO hS, hl, fun _ => rfl⟩) fun _ _ _ _ _ z => z
end LT
open PySem PySem.W PyProof.Rows in
set_option maxRecDepth 100000 in
set_option maxHeartbeats 0 in
theorem PySem.Challenge.cw_lettertree_k01_webs_refused_holds : PySem.Challenge.rw_lettertree_k01_webs_refused.Holds := by
  w_on; o_law; k_head; (case hw => w_witness2)
  k_fill
  refine LT.walk (l := PySem.Challenge.rw_lettertree_k01_webs_refused) rfl rfl (fun w h Y => PySem.W.kIn_of Y) ?F
  case F =>
    intro w mg fa h KX G hmg
    refine' LT.all_mk KX G hmg ?a__check_web ?a__is_bad ?a__paths ?a__across ?a__law_dice ?a__law_next ?a__law_like ?a__law_web ?a__law_is ?a__law_refused ?a__law_bad ?a_law ?g_WebError ?g_BadWeb ?g_NoHand ?g_NoRoad ?g_NoLetter ?g_BadText ?g_Web ?z_ValueError ?z_bool ?z_dict ?z_enumerate ?z_int ?z_isinstance ?z_len ?z_list ?z_min ?z_range ?z_sorted ?z_str ?z_tuple ?g_MOST_HANDS ?g_MOST_ROADS ?g_MOST_COST ?a_BadWeb___init__ ?i_BadWeb___init__ ?l_BadWeb___init__ ?c_BadWeb___init__ ?k_BadWeb___init__ ?a_Web___init__ ?i_Web___init__ ?l_Web___init__ ?c_Web___init__ ?k_Web___init__ ?a_Web_hands ?i_Web_hands ?l_Web_hands ?c_Web_hands ?k_Web_hands ?a_Web_roads ?i_Web_roads ?l_Web_roads ?c_Web_roads ?k_Web_roads ?l__check_web ?c__check_web ?k__check_web ?l__is_bad ?c__is_bad ?k__is_bad ?l__paths ?c__paths ?k__paths ?l__across ?c__across ?k__across ?l__law_dice ?c__law_dice ?k__law_dice ?l__law_next ?c__law_next ?k__law_next ?l__law_like ?c__law_like ?k__law_like ?l__law_web ?c__law_web ?k__law_web ?l__law_is ?c__law_is ?k__law_is ?l__law_refused ?c__law_refused ?k__law_refused ?l__law_bad ?c__law_bad ?k__law_bad ?l_law ?c_law ?k_law ?ga_BadWeb ?gg_BadWeb ?sub_BadWeb_BaseException ?hd_BadWeb ?hc_BadWeb ?obj_get ?obj_takes ?mro_BadWeb ?xl_BadWeb ?sa_BadWeb ?ty_BadWeb ?kc_BadWeb ?is_t_BadWeb ?is_no_BadWeb_why ?is_no_BadWeb_number ?sub_WebError_BaseException ?hd_WebError ?ty_WebError ?sr_BadWeb_WebError ?cl_BadText ?sr_BadWeb_BadText ?ty_BadText ?sr_BadWeb_BadWeb ?cl_BadWeb ?cl_NoHand ?sr_BadWeb_NoHand ?ty_NoHand ?cl_NoLetter ?sr_BadWeb_NoLetter ?ty_NoLetter ?cl_NoRoad ?sr_BadWeb_NoRoad ?ty_NoRoad ?sub_BadWeb_ValueError ?pg_Web ?hd_Web ?po_Web ?sa_Web ?mk_Web ?kc_Web ?na_Web__hands ?na_Web__roads
    (case a__check_web => k_is)
    (case a__is_bad => k_is)
    (case a__paths => k_is)
    (case a__across => k_is)
    (case a__law_dice => k_is)
    (case a__law_next => k_is)
    (case a__law_like => k_is)
    (case a__law_web => k_is)
    (case a__law_is => k_is)
    (case a__law_refused => k_is)
    (case a__law_bad => k_is)
    (case a_law => k_is)
    (case g_WebError => k_is)
    (case g_BadWeb => k_is)
    (case g_NoHand => k_is)
    (case g_NoRoad => k_is)
    (case g_NoLetter => k_is)
    (case g_BadText => k_is)
    (case g_Web => k_is)
    (case z_ValueError => k_is)
    (case z_bool => k_is)
    (case z_dict => k_is)
    (case z_enumerate => k_is)
    (case z_int => k_is)
    (case z_isinstance => k_is)
    (case z_len => k_is)
    (case z_list => k_is)
    (case z_min => k_is)
    (case z_range => k_is)
    (case z_sorted => k_is)
    (case z_str => k_is)
    (case z_tuple => k_is)
    (case g_MOST_HANDS => k_is)
    (case g_MOST_ROADS => k_is)
    (case g_MOST_COST => k_is)
    (case a_BadWeb___init__ => k_is)
    (case i_BadWeb___init__ => k_is)
    (case l_BadWeb___init__ => k_is)
    (case c_BadWeb___init__ => k_is)
    (case k_BadWeb___init__ => k_is)
    (case a_Web___init__ => k_is)
    (case i_Web___init__ => k_is)
    (case l_Web___init__ => k_is)
    (case c_Web___init__ => k_is)
    (case k_Web___init__ => k_is)
    (case a_Web_hands => k_is)
    (case i_Web_hands => k_is)
    (case l_Web_hands => k_is)
    (case c_Web_hands => k_is)
    (case k_Web_hands => k_is)
    (case a_Web_roads => k_is)
    (case i_Web_roads => k_is)
    (case l_Web_roads => k_is)
    (case c_Web_roads => k_is)
    (case k_Web_roads => k_is)
    (case l__check_web => k_is)
    (case c__check_web => k_is)
    (case k__check_web => k_is)
    (case l__is_bad => k_is)
    (case c__is_bad => k_is)
    (case k__is_bad => k_is)
    (case l__paths => k_is)
    (case c__paths => k_is)
    (case k__paths => k_is)
    (case l__across => k_is)
    (case c__across => k_is)
    (case k__across => k_is)
    (case l__law_dice => k_is)
    (case c__law_dice => k_is)
    (case k__law_dice => k_is)
    (case l__law_next => k_is)
    (case c__law_next => k_is)
    (case k__law_next => k_is)
    (case l__law_like => k_is)
    (case c__law_like => k_is)
    (case k__law_like => k_is)
    (case l__law_web => k_is)
    (case c__law_web => k_is)
    (case k__law_web => k_is)
    (case l__law_is => k_is)
    (case c__law_is => k_is)
    (case k__law_is => k_is)
    (case l__law_refused => k_is)
    (case c__law_refused => k_is)
    (case k__law_refused => k_is)
    (case l__law_bad => k_is)
    (case c__law_bad => k_is)
    (case k__law_bad => k_is)
    (case l_law => k_is)
    (case c_law => k_is)
    (case k_law => k_is)
    (case ga_BadWeb => k_is)
    (case gg_BadWeb => k_is)
    (case sub_BadWeb_BaseException => k_is)
    (case hd_BadWeb => k_is)
    (case hc_BadWeb => k_is)
    (case obj_get => k_is)
    (case obj_takes => k_is)
    (case mro_BadWeb => k_is)
    (case xl_BadWeb => k_is)
    (case sa_BadWeb => k_is)
    (case ty_BadWeb => k_is)
    (case kc_BadWeb => k_is)
    (case is_t_BadWeb => k_is)
    (case is_no_BadWeb_why => k_is)
    (case is_no_BadWeb_number => k_is)
    (case sub_WebError_BaseException => k_is)
    (case hd_WebError => k_is)
    (case ty_WebError => k_is)
    (case sr_BadWeb_WebError => k_is)
    (case cl_BadText => k_is)
    (case sr_BadWeb_BadText => k_is)
    (case ty_BadText => k_is)
    (case sr_BadWeb_BadWeb => k_is)
    (case cl_BadWeb => k_is)
    (case cl_NoHand => k_is)
    (case sr_BadWeb_NoHand => k_is)
    (case ty_NoHand => k_is)
    (case cl_NoLetter => k_is)
    (case sr_BadWeb_NoLetter => k_is)
    (case ty_NoLetter => k_is)
    (case cl_NoRoad => k_is)
    (case sr_BadWeb_NoRoad => k_is)
    (case ty_NoRoad => k_is)
    (case sub_BadWeb_ValueError => k_is)
    (case pg_Web => k_is)
    (case hd_Web => k_is)
    (case po_Web => k_is)
    (case sa_Web => k_is)
    (case mk_Web => k_is)
    (case kc_Web => k_is)
    (case na_Web__hands => k_is)
    (case na_Web__roads => k_is)
