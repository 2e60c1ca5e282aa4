import PyProof.Rows.All
import Wide.All
import OpenK.AllK
import Wide.FinOn
import Open.SpecLaws
import KE.OsGo
import HandS.ForSpec
import HandS.Comp
import HandS.Iter
import HandS.Walk
import HandS.Flow
import HandS.Conv
import HandS.Wide
import HandS.WideBits
import HandS.CallLocal
import PySem.Challenge.RW_idealrows_s01_answers
set_option Elab.async false
/-! Lattices of whole vectors: sums, the one triangular form. Core Lean alone. -/
set_option linter.all false
namespace Idl
abbrev Fn := Nat → Int
/-- a list as a function of the place -/
def F (v : List Int) : Fn := fun i => v.getD i 0
theorem F_nil (i : Nat) : F [] i = 0 := rfl
theorem F_zero (a : Int) (v : List Int) : F (a :: v) 0 = a := rfl
theorem F_succ (a : Int) (v : List Int) (i : Nat) : F (a :: v) (i + 1) = F v i := rfl
theorem F_out {v : List Int} {i : Nat} (h : v.length ≤ i) : F v i = 0 := by
  simp [F, List.getD, List.getElem?_eq_none h]
theorem F_ext : ∀ {a b : List Int}, a.length = b.length → (∀ i, i < a.length → F a i = F b i) → a = b
  | [], [], _, _ => rfl
  | [], _ :: _, h, _ => by simp at h
  | _ :: _, [], h, _ => by simp at h
  | x :: a, y :: b, h, e => by
    have e0 : x = y := e 0 (by simp)
    have h1 : a.length = b.length := by simpa using h
    have e1 : a = b := F_ext h1 fun i hi => e (i + 1) (by simpa using hi)
    rw [e0, e1]
/-- the sums of some -/
def Sp : List Fn → Fn → Prop
  | [], v => ∀ i, v i = 0
  | x :: l, v => ∃ c : Int, Sp l (fun i => v i - c * x i)
structure Lat (L : Fn → Prop) : Prop where
  zero : L (fun _ => 0)
  add : ∀ u v, L u → L v → L (fun i => u i + v i)
  smul : ∀ c u, L u → L (fun i => c * u i)
theorem Lat.cg {L : Fn → Prop} {u v : Fn} (h : L u) (e : ∀ i, u i = v i) : L v := by
  have : u = v := funext e
  rwa [← this]
theorem Sp.cg {l : List Fn} {u v : Fn} (h : Sp l u) (e : ∀ i, u i = v i) : Sp l v := Lat.cg h e
theorem Sp.zero : ∀ l : List Fn, Sp l (fun _ => 0)
  | [] => fun _ => rfl
  | x :: l => ⟨0, (Sp.zero l).cg fun i => by simp⟩
theorem Sp.add : ∀ (l : List Fn) (u v : Fn), Sp l u → Sp l v → Sp l (fun i => u i + v i)
  | [], u, v, hu, hv => fun i => by show u i + v i = 0; rw [hu i, hv i]; rfl
  | x :: l, u, v, ⟨c, hu⟩, ⟨d, hv⟩ => ⟨c + d, (Sp.add l _ _ hu hv).cg fun i => by grind⟩
theorem Sp.smul : ∀ (l : List Fn) (c : Int) (u : Fn), Sp l u → Sp l (fun i => c * u i)
  | [], c, u, hu => fun i => by show c * u i = 0; rw [hu i]; simp
  | x :: l, c, u, ⟨d, hu⟩ => ⟨c * d, (Sp.smul l c _ hu).cg fun i => by grind⟩
theorem Sp.lat (l : List Fn) : Lat (Sp l) := ⟨Sp.zero l, Sp.add l, Sp.smul l⟩
theorem Lat.sub {L : Fn → Prop} (h : Lat L) {u v : Fn} (hu : L u) (hv : L v) : L (fun i => u i - v i) :=
  Lat.cg (h.add _ _ hu (h.smul (-1) _ hv)) fun i => by grind
theorem Lat.lin {L : Fn → Prop} (h : Lat L) {u v : Fn} (c : Int) (hu : L u) (hv : L v) : L (fun i => u i - c * v i) :=
  h.sub hu (h.smul c _ hv)
theorem Sp.tail {l : List Fn} {x v : Fn} (h : Sp l v) : Sp (x :: l) v := ⟨0, h.cg fun i => by simp⟩
theorem Sp.mem : ∀ {l : List Fn} {x : Fn}, x ∈ l → Sp l x
  | y :: l, x, h => by
    rcases List.mem_cons.mp h with e | m
    · subst e
      exact ⟨1, (Sp.zero l).cg fun i => by simp⟩
    · exact (Sp.mem m).tail
theorem Sp.le {L : Fn → Prop} (h : Lat L) : ∀ {l : List Fn}, (∀ x ∈ l, L x) → ∀ {v : Fn}, Sp l v → L v
  | [], _, v, hv => Lat.cg h.zero fun i => (hv i).symm
  | x :: l, hl, v, ⟨c, hv⟩ => by
    have h1 := Sp.le h (fun y hy => hl y (List.mem_cons_of_mem _ hy)) hv
    exact Lat.cg (h.add _ _ h1 (h.smul c _ (hl x (List.mem_cons_self ..)))) fun i => by grind
theorem Sp.sub_of {l l' : List Fn} (h : ∀ x ∈ l, Sp l' x) {v : Fn} (hv : Sp l v) : Sp l' v := Sp.le (Sp.lat l') h hv
theorem Sp.iff_of {l l' : List Fn} (h : ∀ x ∈ l, Sp l' x) (h' : ∀ x ∈ l', Sp l x) (v : Fn) : Sp l v ↔ Sp l' v := ⟨Sp.sub_of h, Sp.sub_of h'⟩
/-- nothing from place n on -/
def Upto (n : Nat) (v : Fn) : Prop := ∀ j, n ≤ j → v j = 0
theorem Upto.lat (n : Nat) : Lat (Upto n) := ⟨fun _ _ => rfl, fun u v hu hv j hj => by show u j + v j = 0; rw [hu j hj, hv j hj]; rfl, fun c u hu j hj => by show c * u j = 0; rw [hu j hj]; simp⟩
theorem Upto.mono {m n : Nat} (h : m ≤ n) {v : Fn} (hv : Upto m v) : Upto n v := fun j hj => hv j (Nat.le_trans h hj)
theorem Lat.and {L M : Fn → Prop} (h : Lat L) (k : Lat M) : Lat (fun v => L v ∧ M v) :=
  ⟨⟨h.zero, k.zero⟩, fun u v hu hv => ⟨h.add u v hu.1 hv.1, k.add u v hu.2 hv.2⟩, fun c u hu => ⟨h.smul c u hu.1, k.smul c u hu.2⟩⟩
/-- **Triangular**: r i has nothing behind place i, something above 0 there that divides what any of L with nothing behind has there. -/
structure Tri (n : Nat) (L : Fn → Prop) (r : Nat → Fn) : Prop where
  upto : ∀ i, i < n → Upto (i + 1) (r i)
  pos : ∀ i, i < n → 0 < r i i
  mem : ∀ i, i < n → L (r i)
  dvd : ∀ i, i < n → ∀ v, L v → Upto (i + 1) v → r i i ∣ v i
structure Hnf (n : Nat) (L : Fn → Prop) (r : Nat → Fn) : Prop extends Tri n L r where
  red : ∀ i, i < n → ∀ j, j < i → 0 ≤ r i j ∧ r i j < r j j
theorem Tri.congr {n : Nat} {L M : Fn → Prop} {r : Nat → Fn} (h : Tri n L r) (e : ∀ v, L v ↔ M v) : Tri n M r :=
  ⟨h.upto, h.pos, fun i hi => (e _).mp (h.mem i hi), fun i hi v hv => h.dvd i hi v ((e v).mpr hv)⟩
theorem Hnf.congr {n : Nat} {L M : Fn → Prop} {r : Nat → Fn} (h : Hnf n L r) (e : ∀ v, L v ↔ M v) : Hnf n M r :=
  ⟨h.toTri.congr e, h.red⟩
theorem Tri.diag {n : Nat} {L : Fn → Prop} {r s : Nat → Fn} (h : Tri n L r) (k : Tri n L s) {i : Nat} (hi : i < n) : r i i = s i i := by
  have a := h.dvd i hi _ (k.mem i hi) (k.upto i hi)
  have b := k.dvd i hi _ (h.mem i hi) (h.upto i hi)
  exact Int.dvd_antisymm (Int.le_of_lt (h.pos i hi)) (Int.le_of_lt (k.pos i hi)) a b
/-- what is in L and at each place lies between is nothing -/
theorem Tri.small {n : Nat} {L : Fn → Prop} {r : Nat → Fn} (h : Tri n L r) {v : Fn} : ∀ {m : Nat}, m ≤ n → L v → Upto m v → (∀ j, j < m → -(r j j) < v j ∧ v j < r j j) → ∀ j, v j = 0
  | 0, _, _, hu, _ => fun j => hu j (Nat.zero_le _)
  | m + 1, hm, hv, hu, hb => by
    have d := h.dvd m hm v hv hu
    have b := hb m (Nat.lt_succ_self m)
    have z : v m = 0 := by
      obtain ⟨c, hc⟩ := d
      have hp := h.pos m hm
      rw [hc] at b ⊢
      have h1 : c < 1 := by
        rcases Int.lt_or_le c 1 with q | q
        · exact q
        · have := Int.mul_le_mul_of_nonneg_left q (Int.le_of_lt hp)
          omega
      have h2 : -1 < c := by
        rcases Int.lt_or_le (-1) c with q | q
        · exact q
        · have := Int.mul_le_mul_of_nonneg_left q (Int.le_of_lt hp)
          omega
      have : c = 0 := by omega
      simp [this]
    refine Tri.small h (m := m) (by omega) hv (fun j hj => ?_) fun j hj => hb j (by omega)
    rcases Nat.lt_or_eq_of_le hj with q | q
    · exact hu j q
    · rw [← q]; exact z
theorem Hnf.unique {n : Nat} {L : Fn → Prop} {r s : Nat → Fn} (hL : Lat L) (h : Hnf n L r) (k : Hnf n L s) {i : Nat} (hi : i < n) : ∀ j, r i j = s i j := by
  have z := h.toTri.small (v := fun j => r i j - s i j) (m := i) (by omega) (hL.sub (h.mem i hi) (k.mem i hi)) (fun j hj => by
      rcases Nat.lt_or_eq_of_le hj with q | q
      · show r i j - s i j = 0
        rw [h.upto i hi j q, k.upto i hi j q]; rfl
      · show r i j - s i j = 0
        rw [← q, h.toTri.diag k.toTri hi]; omega)
    (fun j hj => by
      have a := h.red i hi j hj
      have b := k.red i hi j hj
      have e := h.toTri.diag k.toTri (show j < n by omega)
      show -(r j j) < r i j - s i j ∧ r i j - s i j < r j j
      omega)
  intro j
  have := z j
  omega
/-- the rows of a list of lists -/
def R (a : List (List Int)) : Nat → Fn := fun i => F (a.getD i [])
theorem rows_ext {n : Nat} {a b : List (List Int)} (ha : a.length = n) (hb : b.length = n) (la : ∀ v ∈ a, v.length = n) (lb : ∀ v ∈ b, v.length = n) (h : ∀ i, i < n → ∀ j, R a i j = R b i j) : a = b := by
  refine List.ext_getElem (by omega) fun i h1 h2 => ?_
  refine F_ext (by rw [la _ (List.getElem_mem h1), lb _ (List.getElem_mem h2)]) fun j _ => ?_
  have := h i (by omega) j
  unfold R at this
  rwa [List.getD_eq_getElem?_getD, List.getD_eq_getElem?_getD, List.getElem?_eq_getElem h1, List.getElem?_eq_getElem h2] at this
theorem hnf_eq {n : Nat} {L : Fn → Prop} {a b : List (List Int)} (hL : Lat L) (ha : a.length = n) (hb : b.length = n) (la : ∀ v ∈ a, v.length = n) (lb : ∀ v ∈ b, v.length = n) (h : Hnf n L (R a)) (k : Hnf n L (R b)) : a = b :=
  rows_ext ha hb la lb fun _ hi => h.unique hL k hi
end Idl
/-! What the specification's euclid gives. -/
set_option linter.all false
namespace Idl
open Nf02 (Vec euclid)
theorem len_plus {a b : Vec} (h : a.length = b.length) : (Nf02.plus a b).length = a.length := by
  simp [Nf02.plus, h]
theorem len_scale (c : Int) (a : Vec) : (Nf02.scale c a).length = a.length := by simp [Nf02.scale]
theorem F_plus : ∀ {a b : Vec}, a.length = b.length → ∀ i, F (Nf02.plus a b) i = F a i + F b i
  | [], [], _, i => rfl
  | [], _ :: _, h, _ => by simp at h
  | _ :: _, [], h, _ => by simp at h
  | x :: a, y :: b, h, 0 => rfl
  | x :: a, y :: b, h, i + 1 => F_plus (a := a) (b := b) (by simpa using h) i
theorem F_scale (c : Int) : ∀ (a : Vec) (i : Nat), F (Nf02.scale c a) i = c * F a i
  | [], i => by show (0 : Int) = c * 0; simp
  | x :: a, 0 => rfl
  | x :: a, i + 1 => F_scale c a i
theorem F_getD (v : Vec) (i : Nat) : v.getD i 0 = F v i := rfl
/-- all entries are at most B -/
def Bd (B : Nat) (l : List Vec) : Prop := ∀ v ∈ l, ∀ j, (F v j).natAbs ≤ B
theorem Bd.mono {B C : Nat} (h : B ≤ C) {l : List Vec} (hb : Bd B l) : Bd C l := fun v hv j => Nat.le_trans (hb v hv j) h
def Lens (N : Nat) (l : List Vec) : Prop := ∀ v ∈ l, v.length = N
def SpL (l : List Vec) : Fn → Prop := Sp (l.map F)
theorem SpL.lat (l : List Vec) : Lat (SpL l) := Sp.lat _
theorem SpL.mem {l : List Vec} {x : Vec} (h : x ∈ l) : SpL l (F x) := Sp.mem (List.mem_map_of_mem h)
theorem SpL.le {L : Fn → Prop} (h : Lat L) {l : List Vec} (hl : ∀ x ∈ l, L (F x)) {v : Fn} (hv : SpL l v) : L v :=
  Sp.le h (fun x hx => by obtain ⟨y, hy, rfl⟩ := List.mem_map.mp hx; exact hl y hy) hv
/-- x less so often m -/
def less (i : Nat) (m x : Vec) : Vec := Nf02.plus x (Nf02.scale (0 - x.getD i 0 / m.getD i 0) m)
theorem len_less {i : Nat} {m x : Vec} (h : x.length = m.length) : (less i m x).length = x.length := by
  unfold less
  rw [len_plus]
  rw [len_scale, h]
theorem F_less {i : Nat} {m x : Vec} (h : x.length = m.length) (j : Nat) : F (less i m x) j = F x j - F x i / F m i * F m j := by
  unfold less
  rw [F_plus (by rw [len_scale, h]), F_scale, F_getD, F_getD]
  grind
theorem F_less_at {i : Nat} {m x : Vec} (h : x.length = m.length) : F (less i m x) i = F x i % F m i := by
  rw [F_less h, Int.emod_def]
  grind
/-- what one is left with: one for the place, the others with 0 there -/
structure EuOk0 (i N : Nat) (l : List Vec) (B : Nat) (r : Vec) (rest : List Vec) : Prop where
  sp : ∀ v, SpL l v ↔ SpL (r :: rest) v
  pos : 0 < F r i
  zero : ∀ x ∈ rest, F x i = 0
  lens : Lens N (r :: rest)
  bd : Bd B (r :: rest)
structure EuOk (i N : Nat) (l : List Vec) (B : Nat) (r : Vec) (rest : List Vec) : Prop extends EuOk0 i N l B r rest where
  keep : ∀ x ∈ l, F x i = 0 → x ∈ rest
  many : rest.length + 1 = l.length
def live (i : Nat) (l : List Vec) : List Vec := l.filter fun r => r.getD i 0 != 0
def dead (i : Nat) (l : List Vec) : List Vec := l.filter fun r => r.getD i 0 == 0
theorem mem_live {i : Nat} {l : List Vec} {x : Vec} : x ∈ live i l ↔ x ∈ l ∧ F x i ≠ 0 := by
  unfold live
  rw [List.mem_filter]
  simp [F]
theorem mem_dead {i : Nat} {l : List Vec} {x : Vec} : x ∈ dead i l ↔ x ∈ l ∧ F x i = 0 := by
  unfold dead
  rw [List.mem_filter]
  simp [F]
theorem live_cons (i : Nat) (x : Vec) (l : List Vec) : live i (x :: l) = if F x i = 0 then live i l else x :: live i l := by
  unfold live
  rw [List.filter_cons]
  by_cases c : F x i = 0
  · rw [if_pos c, if_neg]
    show ¬ (F x i != 0) = true
    simp [c]
  · rw [if_neg c, if_pos]
    show (F x i != 0) = true
    simpa using c
theorem dead_cons (i : Nat) (x : Vec) (l : List Vec) : dead i (x :: l) = if F x i = 0 then x :: dead i l else dead i l := by
  unfold dead
  rw [List.filter_cons]
  by_cases c : F x i = 0
  · rw [if_pos c, if_pos]
    show (F x i == 0) = true
    simp [c]
  · rw [if_neg c, if_neg]
    show ¬ (F x i == 0) = true
    simpa using c
theorem live_dead_len (i : Nat) : ∀ l : List Vec, (live i l).length + (dead i l).length = l.length
  | [] => rfl
  | x :: l => by
    have h := live_dead_len i l
    rw [live_cons, dead_cons]
    by_cases c : F x i = 0
    · rw [if_pos c, if_pos c, List.length_cons, List.length_cons]; omega
    · rw [if_neg c, if_neg c, List.length_cons, List.length_cons]; omega
def least (i : Nat) (r : Vec) (s : List Vec) : Vec := s.foldl (fun b x => if (x.getD i 0).natAbs < (b.getD i 0).natAbs then x else b) r
theorem least_mem (i : Nat) : ∀ (s : List Vec) (r : Vec), least i r s ∈ r :: s
  | [], r => by simp [least]
  | x :: s, r => by
    have h := least_mem i s (if (x.getD i 0).natAbs < (r.getD i 0).natAbs then x else r)
    show least i (if (x.getD i 0).natAbs < (r.getD i 0).natAbs then x else r) s ∈ _
    split at h <;> rename_i c
    · rw [if_pos c]
      rcases List.mem_cons.mp h with e | e
      · rw [e]; simp
      · simp [e]
    · rw [if_neg c]
      rcases List.mem_cons.mp h with e | e
      · rw [e]; simp
      · simp [e]
theorem least_le (i : Nat) : ∀ (s : List Vec) (r : Vec), (F (least i r s) i).natAbs ≤ (F r i).natAbs ∧ ∀ x ∈ s, (F (least i r s) i).natAbs ≤ (F x i).natAbs
  | [], r => ⟨Nat.le_refl _, fun x h => by simp at h⟩
  | x :: s, r => by
    show (F (least i (if (x.getD i 0).natAbs < (r.getD i 0).natAbs then x else r) s) i).natAbs ≤ _ ∧ ∀ y ∈ x :: s, (F (least i (if (x.getD i 0).natAbs < (r.getD i 0).natAbs then x else r) s) i).natAbs ≤ _
    by_cases c : (x.getD i 0).natAbs < (r.getD i 0).natAbs
    · rw [if_pos c]
      have h := least_le i s x
      have c' : (F x i).natAbs < (F r i).natAbs := c
      refine ⟨by omega, fun y hy => ?_⟩
      rcases List.mem_cons.mp hy with e | e
      · rw [e]; exact h.1
      · exact h.2 y e
    · rw [if_neg c]
      have h := least_le i s r
      have c' : ¬ (F x i).natAbs < (F r i).natAbs := c
      refine ⟨h.1, fun y hy => ?_⟩
      rcases List.mem_cons.mp hy with e | e
      · rw [e]; omega
      · exact h.2 y e
theorem euclid_succ (i f : Nat) (l : List Vec) : euclid i (f + 1) l = match live i l with
    | [] => (none, dead i l)
    | r :: s => if (r :: s).erase (least i r s) = [] then (some (if (least i r s).getD i 0 < 0 then Nf02.scale (-1) (least i r s) else least i r s), dead i l) else
      euclid i f (least i r s :: dead i l ++ ((r :: s).erase (least i r s)).map (less i (least i r s))) := rfl
/-- the list after one round -/
def next (i : Nat) (l : List Vec) (m : Vec) : List Vec := m :: dead i l ++ ((live i l).erase m).map (less i m)
structure Least (i : Nat) (l : List Vec) (m : Vec) : Prop where
  mem : m ∈ l
  ne : F m i ≠ 0
  le : ∀ x ∈ l, F x i ≠ 0 → (F m i).natAbs ≤ (F x i).natAbs
def flip (i : Nat) (m : Vec) : Vec := if m.getD i 0 < 0 then Nf02.scale (-1) m else m
theorem round (i f : Nat) (l : List Vec) (h : ∃ x ∈ l, F x i ≠ 0) : ∃ m, Least i l m ∧
    (((live i l).erase m = [] ∧ euclid i (f + 1) l = (some (flip i m), dead i l)) ∨ ((live i l).erase m ≠ [] ∧ euclid i (f + 1) l = euclid i f (next i l m))) := by
  obtain ⟨x, hx, hn⟩ := h
  have hl : x ∈ live i l := mem_live.mpr ⟨hx, hn⟩
  rw [euclid_succ]
  cases e : live i l with
  | nil => rw [e] at hl; simp at hl
  | cons r s =>
    have hm : least i r s ∈ live i l := by rw [e]; exact least_mem i s r
    refine ⟨least i r s, ⟨(mem_live.mp hm).1, (mem_live.mp hm).2, fun y hy hyn => ?_⟩, ?_⟩
    · have q : y ∈ r :: s := by rw [← e]; exact mem_live.mpr ⟨hy, hyn⟩
      have k := least_le i s r
      rcases List.mem_cons.mp q with z | z
      · rw [z]; exact k.1
      · exact k.2 y z
    · by_cases c : (r :: s).erase (least i r s) = []
      · refine .inl ⟨c, ?_⟩
        show (if (r :: s).erase (least i r s) = [] then _ else _) = _
        rw [if_pos c]
        rfl
      · refine .inr ⟨c, ?_⟩
        show (if (r :: s).erase (least i r s) = [] then _ else _) = _
        rw [if_neg c]
        unfold next
        rw [e]
theorem mem_next {i : Nat} {l : List Vec} {m y : Vec} (h : y ∈ next i l m) : y = m ∨ (y ∈ l ∧ F y i = 0) ∨ ∃ x ∈ l, F x i ≠ 0 ∧ y = less i m x := by
  unfold next at h
  rcases List.mem_append.mp h with a | a
  · rcases List.mem_cons.mp a with b | b
    · exact .inl b
    · exact .inr (.inl (mem_dead.mp b))
  · obtain ⟨x, hx, rfl⟩ := List.mem_map.mp a
    have := mem_live.mp (List.mem_of_mem_erase hx)
    exact .inr (.inr ⟨x, this.1, this.2, rfl⟩)
theorem self_next {i : Nat} {l : List Vec} {m : Vec} : m ∈ next i l m := by simp [next]
theorem dead_next {i : Nat} {l : List Vec} {m x : Vec} (h : x ∈ l) (z : F x i = 0) : x ∈ next i l m := by
  unfold next
  exact List.mem_append.mpr (.inl (List.mem_cons.mpr (.inr (mem_dead.mpr ⟨h, z⟩))))
theorem less_next {i : Nat} {l : List Vec} {m x : Vec} (h : x ∈ l) (z : F x i ≠ 0) (n : x ≠ m) : less i m x ∈ next i l m := by
  unfold next
  exact List.mem_append.mpr (.inr (List.mem_map_of_mem ((List.mem_erase_of_ne n).mpr (mem_live.mpr ⟨h, z⟩))))
theorem len_next {i : Nat} {l : List Vec} {m : Vec} (h : m ∈ l) (z : F m i ≠ 0) : (next i l m).length = l.length := by
  have hm : m ∈ live i l := mem_live.mpr ⟨h, z⟩
  have e := List.length_erase_of_mem hm
  have p : 0 < (live i l).length := List.length_pos_of_mem hm
  have q := live_dead_len i l
  unfold next
  simp only [List.length_append, List.length_cons, List.length_map, e]
  omega
theorem lens_next {i N : Nat} {l : List Vec} {m : Vec} (h : m ∈ l) (hl : Lens N l) : Lens N (next i l m) := fun y hy => by
  rcases mem_next hy with e | ⟨e, _⟩ | ⟨x, hx, _, rfl⟩
  · rw [e]; exact hl m h
  · exact hl y e
  · rw [len_less (by rw [hl x hx, hl m h])]; exact hl x hx
theorem sp_next {i N : Nat} {l : List Vec} {m : Vec} (h : m ∈ l) (hl : Lens N l) (v : Fn) : SpL l v ↔ SpL (next i l m) v := by
  constructor
  · refine SpL.le (SpL.lat _) fun x hx => ?_
    by_cases z : F x i = 0
    · exact SpL.mem (dead_next hx z)
    · by_cases n : x = m
      · rw [n]; exact SpL.mem self_next
      · have a := SpL.mem (less_next hx z n)
        have b := (SpL.lat (next i l m)).smul (F x i / F m i) _ (SpL.mem self_next)
        refine Lat.cg ((SpL.lat (next i l m)).add _ _ a b) fun j => ?_
        show F (less i m x) j + _ = _
        rw [F_less (by rw [hl x hx, hl m h])]
        grind
  · refine SpL.le (SpL.lat _) fun y hy => ?_
    rcases mem_next hy with e | ⟨e, _⟩ | ⟨x, hx, _, rfl⟩
    · rw [e]; exact SpL.mem h
    · exact SpL.mem e
    · refine Lat.cg ((SpL.lat l).lin (F x i / F m i) (SpL.mem hx) (SpL.mem h)) fun j => ?_
      rw [F_less (by rw [hl x hx, hl m h])]
theorem flip_F (i : Nat) (m : Vec) : (∀ j, F (flip i m) j = F m j) ∨ (∀ j, F (flip i m) j = -F m j) := by
  unfold flip
  split
  · right; intro j; rw [F_scale]; omega
  · left; intro j; rfl
theorem flip_pos {i : Nat} {m : Vec} (h : F m i ≠ 0) : 0 < F (flip i m) i := by
  unfold flip
  split <;> rename_i c
  · have c' : F m i < 0 := c
    rw [F_scale]; omega
  · have c' : ¬ F m i < 0 := c
    omega
theorem flip_len (i : Nat) (m : Vec) : (flip i m).length = m.length := by
  unfold flip
  split
  · exact len_scale _ _
  · rfl
theorem done_ok {i N B : Nat} {l : List Vec} {m : Vec} (hl : Lens N l) (hb : Bd B l) (hm : Least i l m) (he : (live i l).erase m = []) : EuOk i N l B (flip i m) (dead i l) := by
  have only : ∀ x ∈ l, F x i ≠ 0 → x = m := fun x hx hn => by
    by_cases n : x = m
    · exact n
    · have := (List.mem_erase_of_ne n).mpr (mem_live.mpr ⟨hx, hn⟩)
      rw [he] at this
      simp at this
  have fm : SpL (flip i m :: dead i l) (F m) := by
    have a := SpL.mem (l := flip i m :: dead i l) (x := flip i m) (by simp)
    rcases flip_F i m with e | e
    · exact Lat.cg a e
    · exact Lat.cg ((SpL.lat _).smul (-1) _ a) fun j => by rw [e]; omega
  have mf : SpL l (F (flip i m)) := by
    have a := SpL.mem hm.mem
    rcases flip_F i m with e | e
    · exact Lat.cg a fun j => (e j).symm
    · exact Lat.cg ((SpL.lat _).smul (-1) _ a) fun j => by rw [e]; omega
  refine ⟨⟨fun v => ⟨SpL.le (SpL.lat _) fun x hx => ?_, SpL.le (SpL.lat _) fun y hy => ?_⟩, flip_pos hm.ne, fun x hx => (mem_dead.mp hx).2, fun y hy => ?_, fun y hy j => ?_⟩, fun x hx z => mem_dead.mpr ⟨hx, z⟩, ?_⟩
  · by_cases z : F x i = 0
    · exact SpL.mem (List.mem_cons_of_mem _ (mem_dead.mpr ⟨hx, z⟩))
    · rw [only x hx z]; exact fm
  · rcases List.mem_cons.mp hy with e | e
    · rw [e]; exact mf
    · exact SpL.mem (mem_dead.mp e).1
  · rcases List.mem_cons.mp hy with e | e
    · rw [e, flip_len]; exact hl m hm.mem
    · exact hl y (mem_dead.mp e).1
  · rcases List.mem_cons.mp hy with e | e
    · rw [e]
      have := hb m hm.mem j
      rcases flip_F i m with q | q
      · rw [q]; exact this
      · rw [q]; omega
    · exact hb y (mem_dead.mp e).1 j
  · have hmm : m ∈ live i l := mem_live.mpr ⟨hm.mem, hm.ne⟩
    have e := List.length_erase_of_mem hmm
    have p : 0 < (live i l).length := List.length_pos_of_mem hmm
    have q := live_dead_len i l
    rw [he] at e
    simp at e
    omega
theorem EuOk.of_next {i N B : Nat} {l : List Vec} {m r : Vec} {rest : List Vec} (hl : Lens N l) (hm : Least i l m) (h : EuOk i N (next i l m) B r rest) : EuOk i N l B r rest :=
  ⟨⟨fun v => (sp_next hm.mem hl v).trans (h.sp v), h.pos, h.zero, h.lens, h.bd⟩, fun x hx z => h.keep x (dead_next hx z) z, by rw [h.many, len_next hm.mem hm.ne]⟩
end Idl
/-! The specification's euclid comes to its end, and how large its numbers grow. -/
set_option linter.all false
namespace Idl
open Nf02 (Vec euclid)
theorem round_lone {i f : Nat} {l : List Vec} {m : Vec} (h : live i l = [m]) : euclid i (f + 1) l = (some (flip i m), dead i l) := by
  rw [euclid_succ, h]
  show (if ([m] : List Vec).erase m = [] then _ else _) = _
  rw [if_pos (by simp)]
  rfl
theorem live_none {i : Nat} : ∀ {l : List Vec}, (∀ x ∈ l, F x i = 0) → live i l = []
  | [], _ => rfl
  | x :: l, h => by
    rw [live_cons, if_pos (h x (List.mem_cons_self ..))]
    exact live_none fun y hy => h y (List.mem_cons_of_mem _ hy)
theorem live_next {i : Nat} {l : List Vec} {m : Vec} (hm : F m i ≠ 0) (h : ∀ x ∈ l, F x i ≠ 0 → x.length = m.length ∧ F x i % F m i = 0) : live i (next i l m) = [m] := by
  unfold next
  rw [List.cons_append, live_cons, if_neg hm, live_none fun x hx => ?_]
  rcases List.mem_append.mp hx with a | a
  · exact (mem_dead.mp a).2
  · obtain ⟨y, hy, rfl⟩ := List.mem_map.mp a
    have q := mem_live.mp (List.mem_of_mem_erase hy)
    obtain ⟨e, z⟩ := h y q.1 q.2
    rw [F_less_at e]; exact z
theorem exists_least {i : Nat} {l : List Vec} (h : ∃ x ∈ l, F x i ≠ 0) : ∃ m, Least i l m := by
  obtain ⟨m, hm, _⟩ := round i 0 l h
  exact ⟨m, hm⟩
theorem EuOk.mono {i N B C : Nat} {l : List Vec} {r : Vec} {rest : List Vec} (h : EuOk i N l B r rest) (hB : B ≤ C) : EuOk i N l C r rest :=
  ⟨⟨h.sp, h.pos, h.zero, h.lens, h.bd.mono hB⟩, h.keep, h.many⟩
/-- how far the rows after a round may reach -/
theorem bd_next {i N B q : Nat} {l : List Vec} {m : Vec} (hm : m ∈ l) (hl : Lens N l) (hb : Bd B l) (hq : ∀ x ∈ l, F x i ≠ 0 → (F x i / F m i).natAbs ≤ q) : Bd (B * (1 + q)) (next i l m) := fun y hy j => by
  have one : B ≤ B * (1 + q) := by rw [Nat.mul_add]; omega
  rcases mem_next hy with e | ⟨e, _⟩ | ⟨x, hx, z, rfl⟩
  · rw [e]; exact Nat.le_trans (hb m hm j) one
  · exact Nat.le_trans (hb y e j) one
  · rw [F_less (by rw [hl x hx, hl m hm])]
    have a := hb x hx j
    have b := hb m hm j
    have c := hq x hx z
    have d : (F x i / F m i * F m j).natAbs ≤ q * B := by rw [Int.natAbs_mul]; exact Nat.mul_le_mul c b
    have e : B * (1 + q) = B + q * B := by rw [Nat.mul_add, Nat.mul_one, Nat.mul_comm q B]
    omega
theorem div_nat {a c : Int} {p q : Nat} (h0 : 0 ≤ a) (h1 : a ≤ (p : Int)) (hc : c = (q : Int)) : (a / c).natAbs ≤ p / q := by
  obtain ⟨n, rfl⟩ := Int.eq_ofNat_of_zero_le h0
  subst hc
  have e : ((n : Int) / (q : Int)) = ((n / q : Nat) : Int) := (Int.natCast_ediv n q).symm
  rw [e, Int.natAbs_natCast]
  exact Nat.div_le_div_right (by omega)
theorem div_any {a c : Int} {p q : Nat} (h1 : a.natAbs ≤ p) (hc : c.natAbs = q) (h0 : 0 < q) : (a / c).natAbs ≤ p / q + 1 := by
  have e := Int.mul_ediv_add_emod a c
  have r0 := Int.emod_nonneg a (show c ≠ 0 by omega)
  have r1 := Int.emod_lt a (show c ≠ 0 by omega)
  have k : q * (a / c).natAbs ≤ p + q := by
    have : (c * (a / c)).natAbs ≤ p + q := by omega
    rwa [Int.natAbs_mul, hc] at this
  have := (Nat.le_div_iff_mul_le h0 (x := (a / c).natAbs) (y := p + q)).mpr (by rw [Nat.mul_comm]; exact k)
  rwa [Nat.add_div_right _ h0] at this
/-- all that isn't 0 at place i is above 0 and at most P, which is one of them -/
structure Stage (i : Nat) (l : List Vec) (P : Nat) : Prop where
  all : ∀ x ∈ l, F x i ≠ 0 → 0 < F x i ∧ F x i ≤ P
  top : ∃ x ∈ l, F x i = P
  pos : 0 < P
theorem run_stage {i N : Nat} : ∀ (k f : Nat) (l : List Vec) (P B : Nat), Lens N l → Bd B l → Stage i l P → (∀ m, Least i l m → P * (F m i).natAbs < 2 ^ k) → k + 1 ≤ f →
    ∃ r rest, euclid i f l = (some r, rest) ∧ EuOk i N l (2 ^ k * P * B) r rest
  | 0, f, l, P, B, hl, hb, st, hk, hf => by
    obtain ⟨x, hx, e⟩ := st.top
    have hp := st.pos
    obtain ⟨m, hm⟩ := exists_least (i := i) ⟨x, hx, by omega⟩
    have q := hk m hm
    have z := hm.ne
    have : 0 < P * (F m i).natAbs := Nat.mul_pos hp (by omega)
    rw [Nat.pow_zero] at q
    omega
  | k + 1, 0, _, _, _, _, _, _, _, hf => by omega
  | k + 1, 1, _, _, _, _, _, _, _, hf => by omega
  | k + 1, f + 2, l, P, B, hl, hb, st, hk, hf => by
    obtain ⟨xP, hxP, eP⟩ := st.top
    have hp := st.pos
    obtain ⟨m, hm, hr⟩ := round i (f + 1) l ⟨xP, hxP, by omega⟩
    have one : 1 ≤ 2 ^ (k + 1) := Nat.one_le_two_pow
    have oneP : 1 ≤ 2 ^ (k + 1) * P := Nat.mul_pos one hp
    rcases hr with ⟨he, er⟩ | ⟨_, er⟩
    · exact ⟨_, _, er, (done_ok hl hb hm he).mono (Nat.le_mul_of_pos_left _ oneP)⟩
    · have hmp := st.all m hm.mem hm.ne
      obtain ⟨c, ec⟩ := Int.eq_ofNat_of_zero_le (Int.le_of_lt hmp.1)
      have hc0 : 0 < c := by omega
      have hcP : c ≤ P := by omega
      have hkm := hk m hm
      rw [ec, Int.natAbs_natCast] at hkm
      have hb' : Bd (B * (1 + P / c)) (next i l m) := bd_next hm.mem hl hb fun x hx hn => div_nat (Int.le_of_lt (st.all x hx hn).1) (st.all x hx hn).2 ec
      have hl' := lens_next (i := i) hm.mem hl
      have grow : c * (B * (1 + P / c)) ≤ 2 * P * B := by
        have d : c * (P / c) ≤ P := Nat.mul_div_le P c
        have e : c * (B * (1 + P / c)) = (c + c * (P / c)) * B := by grind
        rw [e]
        exact Nat.mul_le_mul_right _ (by omega)
      by_cases all0 : ∀ x ∈ l, F x i ≠ 0 → F x i % F m i = 0
      · have lone := live_next (i := i) (l := l) (m := m) hm.ne fun x hx hn => ⟨by rw [hl x hx, hl m hm.mem], all0 x hx hn⟩
        have least' : Least i (next i l m) m := ⟨self_next, hm.ne, fun x hx hn => by
          have q : x ∈ live i (next i l m) := mem_live.mpr ⟨hx, hn⟩
          rw [lone] at q
          rw [List.mem_singleton.mp q]
          exact Nat.le_refl _⟩
        refine ⟨_, _, er.trans (round_lone lone), EuOk.of_next hl hm ((done_ok hl' hb' least' (by rw [lone]; simp)).mono ?_)⟩
        have a : B * (1 + P / c) ≤ c * (B * (1 + P / c)) := Nat.le_mul_of_pos_left _ hc0
        have b : 2 * P * B ≤ 2 ^ (k + 1) * P * B := Nat.mul_le_mul_right _ (Nat.mul_le_mul_right _ (by rw [Nat.pow_succ]; have := Nat.one_le_two_pow (n := k); omega))
        omega
      · have ⟨x0, hx0, hn0, hz0⟩ : ∃ x ∈ l, F x i ≠ 0 ∧ F x i % F m i ≠ 0 := by
          refine Classical.byContradiction fun no => all0 fun x hx hn => Classical.byContradiction fun hz => no ⟨x, hx, hn, hz⟩
        have lenOf : ∀ x ∈ l, x.length = m.length := fun x hx => by rw [hl x hx, hl m hm.mem]
        have st' : Stage i (next i l m) c := by
          refine ⟨fun y hy hn => ?_, ⟨m, self_next, ec⟩, hc0⟩
          rcases mem_next hy with e | ⟨_, e⟩ | ⟨x, hx, hxn, rfl⟩
          · rw [e, ec]; omega
          · exact absurd e hn
          · rw [F_less_at (lenOf x hx), ec] at hn ⊢
            have a := Int.emod_nonneg (F x i) (show (c : Int) ≠ 0 by omega)
            have b := Int.emod_lt_of_pos (F x i) (show 0 < (c : Int) by omega)
            omega
        have ne0 : x0 ≠ m := fun e => hz0 (by rw [e, Int.emod_self])
        have hy0 := less_next (i := i) hx0 hn0 ne0
        have cP : c < P := by
          refine Nat.lt_of_le_of_ne hcP fun e => hz0 ?_
          have a := st.all x0 hx0 hn0
          have b := hm.le x0 hx0 hn0
          have : F x0 i = F m i := by omega
          rw [this, Int.emod_self]
        have hk' : ∀ m', Least i (next i l m) m' → c * (F m' i).natAbs < 2 ^ k := fun m' hm' => by
          have small : (F m' i).natAbs < c := by
            have a := hm'.le _ hy0 (by rw [F_less_at (lenOf x0 hx0)]; exact hz0)
            rw [F_less_at (lenOf x0 hx0), ec] at a
            have b := Int.emod_nonneg (F x0 i) (show (c : Int) ≠ 0 by omega)
            have d := Int.emod_lt_of_pos (F x0 i) (show 0 < (c : Int) by omega)
            omega
          have half : 2 * (F m' i).natAbs ≤ P := by
            by_cases z : F xP i % F m i = 0
            · rw [ec, eP] at z
              have z' : P % c = 0 := by
                have : ((P % c : Nat) : Int) = 0 := by rw [Int.natCast_emod]; exact z
                omega
              obtain ⟨t, ht⟩ := Nat.dvd_of_mod_eq_zero z'
              have : 2 ≤ t := by
                rcases Nat.lt_or_ge t 2 with q | q
                · have : t = 0 ∨ t = 1 := by omega
                  rcases this with e | e <;> rw [e] at ht <;> omega
                · exact q
              have : c * 2 ≤ c * t := Nat.mul_le_mul_left _ this
              omega
            · have ne : xP ≠ m := fun e => z (by rw [e, Int.emod_self])
              have a := hm'.le _ (less_next (i := i) hxP (by omega) ne) (by rw [F_less_at (lenOf xP hxP)]; exact z)
              rw [F_less_at (lenOf xP hxP), ec, eP, ← Int.natCast_emod, Int.natAbs_natCast] at a
              have b := Nat.mod_lt P hc0
              have d := Nat.div_add_mod P c
              have e : 1 ≤ P / c := Nat.div_pos hcP hc0
              have g : c * 1 ≤ c * (P / c) := Nat.mul_le_mul_left _ e
              omega
          have a : c * (2 * (F m' i).natAbs) ≤ c * P := Nat.mul_le_mul_left _ half
          have b : c * (2 * (F m' i).natAbs) = 2 * (c * (F m' i).natAbs) := by grind
          rw [Nat.mul_comm P c] at hkm
          rw [Nat.pow_succ] at hkm
          omega
        obtain ⟨r, rest, e1, ok⟩ := run_stage k (f + 1) (next i l m) c (B * (1 + P / c)) hl' hb' st' hk' (by omega)
        refine ⟨r, rest, er.trans e1, EuOk.of_next hl hm (ok.mono ?_)⟩
        have a : 2 ^ k * c * (B * (1 + P / c)) = 2 ^ k * (c * (B * (1 + P / c))) := Nat.mul_assoc ..
        have b : 2 ^ k * (c * (B * (1 + P / c))) ≤ 2 ^ k * (2 * P * B) := Nat.mul_le_mul_left _ grow
        have d : 2 ^ k * (2 * P * B) = 2 ^ (k + 1) * P * B := by rw [Nat.pow_succ]; grind
        omega
theorem sq_le {a b : Nat} (h : a ≤ b) : a * a ≤ b * b := Nat.mul_le_mul h h
/-- **The specification's euclid**, where one that isn't 0 at the place has no more than 2 to the h there. -/
theorem euclid_ok {i N B h f : Nat} {l : List Vec} (hl : Lens N l) (hb : Bd B l) (hx : ∃ x ∈ l, F x i ≠ 0 ∧ (F x i).natAbs ≤ 2 ^ h) (hf : 2 * h + 4 ≤ f) :
    ∃ r rest, euclid i f l = (some r, rest) ∧ EuOk i N l (16 * 2 ^ (2 * h) * (B * B)) r rest := by
  obtain ⟨x1, hx1, hn1, hs1⟩ := hx
  obtain ⟨f, rfl⟩ : ∃ g, f = g + 3 := ⟨f - 3, by omega⟩
  obtain ⟨m0, hm0, hr⟩ := round i (f + 2) l ⟨x1, hx1, hn1⟩
  obtain ⟨c0, ec0⟩ : ∃ c0, (F m0 i).natAbs = c0 := ⟨_, rfl⟩
  have hc0 : 0 < c0 := by have := hm0.ne; omega
  have c0h : c0 ≤ 2 ^ h := by have := hm0.le x1 hx1 hn1; omega
  have c0B : c0 ≤ B := by have := hb m0 hm0.mem i; omega
  have pw : 2 ^ (2 * h) = 2 ^ h * 2 ^ h := by rw [Nat.two_mul, Nat.pow_add]
  have one : 1 ≤ 2 ^ (2 * h) := Nat.one_le_two_pow
  have BB : B ≤ B * B := Nat.le_mul_of_pos_left _ (by omega)
  have fin : ∀ x, x ≤ 9 * (B * B) → x ≤ 16 * 2 ^ (2 * h) * (B * B) := fun x hx => by
    have : 9 * (B * B) ≤ 16 * 2 ^ (2 * h) * (B * B) := Nat.mul_le_mul_right _ (by omega)
    omega
  rcases hr with ⟨he, er⟩ | ⟨_, er⟩
  · exact ⟨_, _, er, (done_ok hl hb hm0 he).mono (fin _ (by omega))⟩
  have lenOf : ∀ x ∈ l, x.length = m0.length := fun x hx => by rw [hl x hx, hl m0 hm0.mem]
  have hl1 := lens_next (i := i) hm0.mem hl
  obtain ⟨B1, eB1⟩ : ∃ B1, B1 = B * (1 + (B / c0 + 1)) := ⟨_, rfl⟩
  have hb1 : Bd B1 (next i l m0) := by
    rw [eB1]
    exact bd_next hm0.mem hl hb fun x hx hn => div_any (hb x hx i) ec0 hc0
  have grow1 : c0 * B1 ≤ 3 * (B * B) := by
    have d : c0 * (B / c0) ≤ B := Nat.mul_div_le B c0
    have e : c0 * B1 = (2 * c0 + c0 * (B / c0)) * B := by rw [eB1]; grind
    have g : (2 * c0 + c0 * (B / c0)) * B ≤ (3 * B) * B := Nat.mul_le_mul_right _ (by omega)
    have k : 3 * B * B = 3 * (B * B) := Nat.mul_assoc ..
    omega
  have B1le : B1 ≤ 3 * (B * B) := Nat.le_trans (Nat.le_mul_of_pos_left _ hc0) grow1
  by_cases all0 : ∀ x ∈ l, F x i ≠ 0 → F x i % F m0 i = 0
  · have lone := live_next (i := i) (l := l) (m := m0) hm0.ne fun x hx hn => ⟨lenOf x hx, all0 x hx hn⟩
    have least' : Least i (next i l m0) m0 := ⟨self_next, hm0.ne, fun x hx hn => by
      have q : x ∈ live i (next i l m0) := mem_live.mpr ⟨hx, hn⟩
      rw [lone] at q
      rw [List.mem_singleton.mp q]
      exact Nat.le_refl _⟩
    exact ⟨_, _, er.trans (round_lone lone), EuOk.of_next hl hm0 ((done_ok hl1 hb1 least' (by rw [lone]; simp)).mono (fin _ (by omega)))⟩
  have ⟨x0, hx0, hn0, hz0⟩ : ∃ x ∈ l, F x i ≠ 0 ∧ F x i % F m0 i ≠ 0 := by
    refine Classical.byContradiction fun no => all0 fun x hx hn => Classical.byContradiction fun hz => no ⟨x, hx, hn, hz⟩
  have ne0 : x0 ≠ m0 := fun e => hz0 (by rw [e, Int.emod_self])
  have hy0 := less_next (i := i) hx0 hn0 ne0
  have mods : ∀ x, 0 ≤ F x i % F m0 i ∧ F x i % F m0 i < c0 := fun x => by
    have a := Int.emod_nonneg (F x i) hm0.ne
    have b := Int.emod_lt (F x i) hm0.ne
    omega
  obtain ⟨m1, hm1, hr1⟩ := round i (f + 1) (next i l m0) ⟨m0, self_next, hm0.ne⟩
  have small1 : (F m1 i).natAbs < c0 := by
    have a := hm1.le _ hy0 (by rw [F_less_at (lenOf x0 hx0)]; exact hz0)
    rw [F_less_at (lenOf x0 hx0)] at a
    have b := mods x0
    omega
  have pos1 : 0 < F m1 i := by
    rcases mem_next hm1.mem with e | ⟨_, e⟩ | ⟨x, hx, hxn, e⟩
    · rw [e] at small1; omega
    · exact absurd e hm1.ne
    · have a := hm1.ne
      rw [e, F_less_at (lenOf x hx)] at a ⊢
      have b := mods x
      omega
  obtain ⟨c1, ec1⟩ := Int.eq_ofNat_of_zero_le (Int.le_of_lt pos1)
  have hc1 : 0 < c1 := by omega
  have c10 : c1 < c0 := by rw [ec1, Int.natAbs_natCast] at small1; exact small1
  rcases hr1 with ⟨he, er1⟩ | ⟨_, er1⟩
  · exact ⟨_, _, er.trans er1, EuOk.of_next hl hm0 ((done_ok hl1 hb1 hm1 he).mono (fin _ (by omega)))⟩
  have lenOf1 : ∀ x ∈ next i l m0, x.length = m1.length := fun x hx => by rw [hl1 x hx, hl1 m1 hm1.mem]
  have hl2 := lens_next (i := i) hm1.mem hl1
  have top1 : ∀ x ∈ next i l m0, (F x i).natAbs ≤ c0 := fun y hy => by
    rcases mem_next hy with e | ⟨_, e⟩ | ⟨x, hx, hxn, e⟩
    · rw [e]; omega
    · rw [e]; simp
    · rw [e, F_less_at (lenOf x hx)]
      have b := mods x
      omega
  obtain ⟨B2, eB2⟩ : ∃ B2, B2 = B1 * (1 + (c0 / c1 + 1)) := ⟨_, rfl⟩
  have hb2 : Bd B2 (next i (next i l m0) m1) := by
    rw [eB2]
    exact bd_next hm1.mem hl1 hb1 fun x hx hn => div_any (top1 x hx) (by rw [ec1, Int.natAbs_natCast]) hc1
  have grow2 : c1 * B2 ≤ 9 * (B * B) := by
    have d : c1 * (c0 / c1) ≤ c0 := Nat.mul_div_le c0 c1
    have e : c1 * B2 = (2 * c1 + c1 * (c0 / c1)) * B1 := by rw [eB2]; grind
    have g : (2 * c1 + c1 * (c0 / c1)) * B1 ≤ (3 * c0) * B1 := Nat.mul_le_mul_right _ (by omega)
    have k : 3 * c0 * B1 = 3 * (c0 * B1) := Nat.mul_assoc ..
    omega
  have B2le : B2 ≤ 9 * (B * B) := Nat.le_trans (Nat.le_mul_of_pos_left _ hc1) grow2
  by_cases all1 : ∀ x ∈ next i l m0, F x i ≠ 0 → F x i % F m1 i = 0
  · have lone := live_next (i := i) (l := next i l m0) (m := m1) hm1.ne fun x hx hn => ⟨lenOf1 x hx, all1 x hx hn⟩
    have least' : Least i (next i (next i l m0) m1) m1 := ⟨self_next, hm1.ne, fun x hx hn => by
      have q : x ∈ live i (next i (next i l m0) m1) := mem_live.mpr ⟨hx, hn⟩
      rw [lone] at q
      rw [List.mem_singleton.mp q]
      exact Nat.le_refl _⟩
    exact ⟨_, _, er.trans (er1.trans (round_lone lone)), EuOk.of_next hl hm0 (EuOk.of_next hl1 hm1 ((done_ok hl2 hb2 least' (by rw [lone]; simp)).mono (fin _ B2le)))⟩
  have st : Stage i (next i (next i l m0) m1) c1 := by
    refine ⟨fun y hy hn => ?_, ⟨m1, self_next, ec1⟩, hc1⟩
    rcases mem_next hy with e | ⟨_, e⟩ | ⟨x, hx, hxn, rfl⟩
    · rw [e, ec1]; omega
    · exact absurd e hn
    · rw [F_less_at (lenOf1 x hx), ec1] at hn ⊢
      have a := Int.emod_nonneg (F x i) (show (c1 : Int) ≠ 0 by omega)
      have b := Int.emod_lt_of_pos (F x i) (show 0 < (c1 : Int) by omega)
      omega
  have hk : ∀ m, Least i (next i (next i l m0) m1) m → c1 * (F m i).natAbs < 2 ^ (2 * h) := fun m hm => by
    have a := hm.le m1 self_next hm1.ne
    rw [ec1, Int.natAbs_natCast] at a
    have b : c1 * (F m i).natAbs ≤ c1 * c1 := Nat.mul_le_mul_left _ a
    have d : c1 * c1 < c0 * c0 := Nat.mul_lt_mul'' c10 c10
    have e := sq_le c0h
    omega
  obtain ⟨r, rest, e1, ok⟩ := run_stage (N := N) (2 * h) (f + 1) _ c1 B2 hl2 hb2 st hk (by omega)
  refine ⟨r, rest, er.trans (er1.trans e1), EuOk.of_next hl hm0 (EuOk.of_next hl1 hm1 (ok.mono ?_))⟩
  have a : 2 ^ (2 * h) * c1 * B2 = 2 ^ (2 * h) * (c1 * B2) := Nat.mul_assoc ..
  have b : 2 ^ (2 * h) * (c1 * B2) ≤ 2 ^ (2 * h) * (16 * (B * B)) := Nat.mul_le_mul_left _ (by omega)
  have d : 2 ^ (2 * h) * (16 * (B * B)) = 16 * 2 ^ (2 * h) * (B * B) := by grind
  omega
/-- one alone -/
theorem euclid_one {i N B f : Nat} {x : Vec} (hl : Lens N [x]) (hb : Bd B [x]) (hn : F x i ≠ 0) : ∃ r rest, euclid i (f + 1) [x] = (some r, rest) ∧ EuOk i N [x] B r rest := by
  have lone : live i [x] = [x] := by rw [live_cons, if_neg hn]; rfl
  exact ⟨_, _, round_lone lone, done_ok hl hb ⟨by simp, hn, fun y hy _ => by rw [List.mem_singleton.mp hy]; exact Nat.le_refl _⟩ (by rw [lone]; simp)⟩
end Idl
/-! The specification's rows: the one triangular form. -/
set_option linter.all false
namespace Idl
open Nf02 (Vec euclid steps lower END)
theorem SpL.upto {n : Nat} {l : List Vec} (h : ∀ x ∈ l, Upto n (F x)) {v : Fn} (hv : SpL l v) : Upto n v := SpL.le (Upto.lat n) h hv
theorem at_lat (i : Nat) : Lat (fun v : Fn => v i = 0) := ⟨rfl, fun u v hu hv => by show u i + v i = 0; rw [hu, hv]; rfl, fun c u hu => by show c * u i = 0; rw [hu]; simp⟩
theorem SpL.some_ne {i : Nat} {l : List Vec} {v : Fn} (hv : SpL l v) (h : v i ≠ 0) : ∃ x ∈ l, F x i ≠ 0 :=
  Classical.byContradiction fun no => h (SpL.le (at_lat i) (fun x hx => Classical.byContradiction fun z => no ⟨x, hx, z⟩) hv)
/-- at each place there is one with nothing behind it -/
def Full (n : Nat) (L : Fn → Prop) : Prop := ∀ j, j < n → ∃ v, L v ∧ v j ≠ 0 ∧ Upto (j + 1) v
theorem Full.mono {n : Nat} {L M : Fn → Prop} (h : Full n L) (k : ∀ v, L v → M v) : Full n M := fun j hj => by
  obtain ⟨v, a, b, c⟩ := h j hj
  exact ⟨v, k v a, b, c⟩
theorem EuOk0.parts {i N B : Nat} {l : List Vec} {r : Vec} {rest : List Vec} (h : EuOk0 i N l B r rest) {v : Fn} (hv : SpL l v) : ∃ c, SpL rest (fun j => v j - c * F r j) ∧ v i = c * F r i := by
  obtain ⟨c, hc⟩ := (h.sp v).mp hv
  refine ⟨c, hc, ?_⟩
  have := SpL.le (at_lat i) h.zero hc
  have e : v i - c * F r i = 0 := this
  omega
theorem EuOk0.inRest {i N B : Nat} {l : List Vec} {r : Vec} {rest : List Vec} (h : EuOk0 i N l B r rest) {v : Fn} (hv : SpL l v) (z : v i = 0) : SpL rest v := by
  obtain ⟨c, hc, e⟩ := h.parts hv
  have hp := h.pos
  have c0 : c = 0 := by
    rw [z] at e
    rcases Int.mul_eq_zero.mp e.symm with q | q
    · exact q
    · omega
  exact Lat.cg hc fun j => by rw [c0]; omega
theorem EuOk0.outRest {i N B : Nat} {l : List Vec} {r : Vec} {rest : List Vec} (h : EuOk0 i N l B r rest) {v : Fn} (hv : SpL rest v) : SpL l v :=
  (h.sp v).mpr (SpL.le (SpL.lat _) (fun _ hx => SpL.mem (List.mem_cons_of_mem _ hx)) hv)
theorem EuOk0.first {i N B : Nat} {l : List Vec} {r : Vec} {rest : List Vec} (h : EuOk0 i N l B r rest) : SpL l (F r) := (h.sp _).mpr (SpL.mem (List.mem_cons_self ..))
theorem R_old {a b : List Vec} {i : Nat} (h : i < a.length) : R (a ++ b) i = R a i := by
  unfold R
  rw [List.getD_eq_getElem?_getD, List.getD_eq_getElem?_getD, List.getElem?_append_left h]
theorem R_new {a : List Vec} {x : Vec} {i : Nat} (h : i = a.length) : R (a ++ [x]) i = F x := by
  unfold R
  rw [List.getD_eq_getElem?_getD, h, List.getElem?_append_right (Nat.le_refl _)]
  simp
theorem steps_succ {i : Nat} {l : List Vec} {r : Vec} {rest : List Vec} (h : euclid i END l = (some r, rest)) : steps (i + 1) l = steps i rest ++ [r] := by
  rw [Nf02.steps, h]
structure StepsOk (n N : Nat) (L : Fn → Prop) (rs : List Vec) : Prop where
  len : rs.length = n
  lens : Lens N rs
  tri : Tri n L (R rs)
theorem steps_gen {N : Nat} (S : Nat → List Vec → List Vec) (h0 : ∀ l, S 0 l = []) (G : Nat → List Vec → Prop) (hG : ∀ i l, G (i + 1) l → (∃ x ∈ l, F x i ≠ 0) → ∃ r rest B, S (i + 1) l = S i rest ++ [r] ∧ EuOk0 i N l B r rest ∧ G i rest) :
    ∀ (n : Nat) (l : List Vec), G n l → (∀ x ∈ l, Upto n (F x)) → Full n (SpL l) → StepsOk n N (SpL l) (S n l)
  | 0, l, _, _, _ => ⟨by rw [h0]; rfl, fun x hx => by rw [h0] at hx; simp at hx, ⟨fun i hi => by omega, fun i hi => by omega, fun i hi => by omega, fun i hi => by omega⟩⟩
  | n + 1, l, g, hu, hf => by
    obtain ⟨v0, hv0, n0, _⟩ := hf n (Nat.lt_succ_self n)
    obtain ⟨r, rest, B, he, ok, g'⟩ := hG n l g (SpL.some_ne hv0 n0)
    rw [he]
    have upl : ∀ v, SpL l v → Upto (n + 1) v := fun v hv => SpL.upto hu hv
    have ur : Upto (n + 1) (F r) := upl _ ok.first
    have urest : ∀ x ∈ rest, Upto n (F x) := fun x hx j hj => by
      rcases Nat.lt_or_eq_of_le hj with q | q
      · exact upl _ (ok.outRest (SpL.mem hx)) j q
      · rw [← q]; exact ok.zero x hx
    have frest : Full n (SpL rest) := fun j hj => by
      obtain ⟨v, a, b, c⟩ := hf j (by omega)
      exact ⟨v, ok.inRest a (c n (by omega)), b, c⟩
    have ih := steps_gen S h0 G hG n rest g' urest frest
    refine ⟨by rw [List.length_append, ih.len]; rfl, fun x hx => ?_, ⟨fun i hi => ?_, fun i hi => ?_, fun i hi => ?_, fun i hi v hv hup => ?_⟩⟩
    · rcases List.mem_append.mp hx with a | a
      · exact ih.lens x a
      · rw [List.mem_singleton.mp a]; exact ok.lens r (List.mem_cons_self ..)
    · rcases Nat.lt_or_eq_of_le (Nat.le_of_lt_succ hi) with q | q
      · rw [R_old (by rw [ih.len]; exact q)]; exact ih.tri.upto i q
      · rw [R_new (by rw [ih.len]; exact q), q]; exact ur
    · rcases Nat.lt_or_eq_of_le (Nat.le_of_lt_succ hi) with q | q
      · rw [R_old (by rw [ih.len]; exact q)]; exact ih.tri.pos i q
      · rw [R_new (by rw [ih.len]; exact q), q]; exact ok.pos
    · rcases Nat.lt_or_eq_of_le (Nat.le_of_lt_succ hi) with q | q
      · rw [R_old (by rw [ih.len]; exact q)]; exact ok.outRest (ih.tri.mem i q)
      · rw [R_new (by rw [ih.len]; exact q)]; exact ok.first
    · rcases Nat.lt_or_eq_of_le (Nat.le_of_lt_succ hi) with q | q
      · rw [R_old (by rw [ih.len]; exact q)]; exact ih.tri.dvd i q v (ok.inRest hv (hup n (by omega))) hup
      · rw [R_new (by rw [ih.len]; exact q), q]
        obtain ⟨c, _, e⟩ := ok.parts hv
        rw [e]; exact ⟨c, Int.mul_comm _ _⟩
theorem steps_tri {N : Nat} (G : Nat → List Vec → Prop) (hG : ∀ i l, G (i + 1) l → (∃ x ∈ l, F x i ≠ 0) → ∃ r rest B, euclid i END l = (some r, rest) ∧ EuOk i N l B r rest ∧ G i rest)
    (n : Nat) (l : List Vec) (g : G n l) (hu : ∀ x ∈ l, Upto n (F x)) (hf : Full n (SpL l)) : StepsOk n N (SpL l) (steps n l) :=
  steps_gen steps (fun _ => rfl) G (fun i l g hx => by
    obtain ⟨r, rest, B, he, ok, g'⟩ := hG i l g hx
    exact ⟨r, rest, B, steps_succ he, ok.toEuOk0, g'⟩) n l g hu hf
/-! ### lower -/
theorem zipIdx_snoc (a : List Vec) (x : Vec) : (a ++ [x]).zipIdx = a.zipIdx ++ [(x, a.length)] := by
  rw [List.zipIdx_append]
  simp
theorem rest_nil (v : Vec) : Nf02.rest [] v = v := rfl
theorem rest_snoc (a : List Vec) (x v : Vec) : Nf02.rest (a ++ [x]) v = Nf02.rest a (Nf02.plus v (Nf02.scale (0 - v.getD a.length 0 / x.getD a.length 1) x)) := by
  unfold Nf02.rest
  rw [zipIdx_snoc, List.reverse_append]
  rfl
theorem getD_one {x : Vec} {i : Nat} (h : i < x.length) : x.getD i 1 = F x i := by
  simp [F, List.getD_eq_getElem?_getD, List.getElem?_eq_getElem h]
structure RestOk (m N : Nat) (a : List Vec) (v w : Vec) : Prop where
  len : w.length = N
  high : ∀ j, m ≤ j → F w j = F v j
  diff : SpL a (fun j => F v j - F w j)
  low : ∀ j, j < m → 0 ≤ F w j ∧ F w j < R a j j
theorem snoc_of {α : Type} : ∀ (l : List α), l = [] ∨ ∃ a x, l = a ++ [x]
  | [] => .inl rfl
  | y :: l => by
    rcases snoc_of l with e | ⟨a, x, e⟩
    · exact .inr ⟨[], y, by rw [e]; rfl⟩
    · exact .inr ⟨y :: a, x, by rw [e]; rfl⟩
theorem rest_ok {N : Nat} : ∀ (m : Nat) (a : List Vec) (v : Vec), a.length = m → m ≤ N → Lens N a → (∀ i, i < m → Upto (i + 1) (R a i)) → (∀ i, i < m → 0 < R a i i) → v.length = N → RestOk m N a v (Nf02.rest a v)
  | 0, a, v, ha, _, _, _, _, hv => by
    have e : a = [] := List.length_eq_zero_iff.mp ha
    subst e
    exact ⟨hv, fun j _ => rfl, fun j => by show F v j - F v j = 0; omega, fun j hj => by omega⟩
  | m + 1, a, v, ha, hm, hl, hu, hp, hv => by
    rcases snoc_of a with e | ⟨a, x, e⟩
    · rw [e] at ha; simp at ha
    subst e
    have ha' : a.length = m := by simpa using ha
    have hx : x.length = N := hl x (by simp)
    have rx : R (a ++ [x]) m = F x := R_new ha'.symm
    have ra : ∀ i, i < m → R (a ++ [x]) i = R a i := fun i hi => R_old (by omega)
    have ux : Upto (m + 1) (F x) := by have := hu m (by omega); rwa [rx] at this
    have px : 0 < F x m := by have := hp m (by omega); rwa [rx] at this
    rw [rest_snoc, ha', getD_one (by omega), F_getD]
    obtain ⟨q, hq⟩ : ∃ q, q = F v m / F x m := ⟨_, rfl⟩
    rw [← hq]
    have hv' : (Nf02.plus v (Nf02.scale (0 - q) x)).length = N := by rw [len_plus (by rw [len_scale, hv, hx]), hv]
    have fv : ∀ j, F (Nf02.plus v (Nf02.scale (0 - q) x)) j = F v j - q * F x j := fun j => by
      rw [F_plus (by rw [len_scale, hv, hx]), F_scale]; grind
    have ih := rest_ok m a _ ha' (by omega) (fun y hy => hl y (by simp [hy])) (fun i hi => by have := hu i (by omega); rwa [ra i hi] at this)
      (fun i hi => by have := hp i (by omega); rwa [ra i hi] at this) hv'
    refine ⟨ih.len, fun j hj => ?_, ?_, fun j hj => ?_⟩
    · rw [ih.high j (by omega), fv, ux j hj]; simp
    · have d := SpL.le (SpL.lat (a ++ [x])) (fun y hy => SpL.mem (show y ∈ a ++ [x] by simp [hy])) ih.diff
      have d2 := (SpL.lat (a ++ [x])).add _ _ d ((SpL.lat (a ++ [x])).smul q _ (SpL.mem (show x ∈ a ++ [x] by simp)))
      refine Lat.cg d2 fun j => ?_
      rw [fv]; omega
    · rcases Nat.lt_or_eq_of_le (Nat.le_of_lt_succ hj) with c | c
      · rw [ra j c]; exact ih.low j c
      · rw [c, rx, ih.high m (Nat.le_refl _), fv, hq]
        have e := Int.emod_def (F v m) (F x m)
        have e0 := Int.emod_nonneg (F v m) (show F x m ≠ 0 by omega)
        have e1 := Int.emod_lt_of_pos (F v m) px
        have e2 : F v m / F x m * F x m = F x m * (F v m / F x m) := Int.mul_comm _ _
        omega
theorem lower_snoc (l : List Vec) (r : Vec) : lower (l ++ [r]) = lower l ++ [Nf02.rest (lower l) r] := by
  show (l ++ [r]).foldl _ [] = _
  rw [List.foldl_append]
  rfl
structure RowsOk (n N : Nat) (L : Fn → Prop) (rs : List Vec) : Prop where
  len : rs.length = n
  lens : Lens N rs
  hnf : Hnf n L (R rs)
theorem SpL.le_of_rows {n : Nat} {L : Fn → Prop} (h : Lat L) {a : List Vec} (ha : a.length = n) (hm : ∀ i, i < n → L (R a i)) {v : Fn} (hv : SpL a v) : L v :=
  SpL.le h (fun x hx => by
    obtain ⟨i, hi, e⟩ := List.getElem_of_mem hx
    have := hm i (by omega)
    unfold R at this
    rwa [List.getD_eq_getElem?_getD, List.getElem?_eq_getElem hi, Option.getD_some, e] at this) hv
theorem lower_ok {N : Nat} {L : Fn → Prop} (hL : Lat L) : ∀ (n : Nat) (l : List Vec), n ≤ N → StepsOk n N L l → RowsOk n N L (lower l)
  | 0, l, _, h => by
    have e : l = [] := List.length_eq_zero_iff.mp h.len
    subst e
    exact ⟨rfl, fun x hx => by simp [lower] at hx, ⟨⟨fun i hi => by omega, fun i hi => by omega, fun i hi => by omega, fun i hi => by omega⟩, fun i hi => by omega⟩⟩
  | n + 1, l, hn, h => by
    rcases snoc_of l with e | ⟨l, r, e⟩
    · have := h.len
      rw [e] at this; simp at this
    subst e
    have hl : l.length = n := by simpa using h.len
    have rr : R (l ++ [r]) n = F r := R_new hl.symm
    have ra : ∀ i, i < n → R (l ++ [r]) i = R l i := fun i hi => R_old (by omega)
    have ih := lower_ok hL n l (by omega) ⟨hl, fun x hx => h.lens x (by simp [hx]), ⟨fun i hi => by have := h.tri.upto i (by omega); rwa [ra i hi] at this, fun i hi => by have := h.tri.pos i (by omega); rwa [ra i hi] at this,
      fun i hi => by have := h.tri.mem i (by omega); rwa [ra i hi] at this, fun i hi => by have := h.tri.dvd i (by omega); rwa [ra i hi] at this⟩⟩
    have ur : Upto (n + 1) (F r) := by have := h.tri.upto n (by omega); rwa [rr] at this
    have pr : 0 < F r n := by have := h.tri.pos n (by omega); rwa [rr] at this
    have mr : L (F r) := by have := h.tri.mem n (by omega); rwa [rr] at this
    have dr : ∀ v, L v → Upto (n + 1) v → F r n ∣ v n := by have := h.tri.dvd n (by omega); rwa [rr] at this
    have ro := rest_ok n (lower l) r ih.len (by omega) ih.lens ih.hnf.upto ih.hnf.pos (h.lens r (by simp))
    rw [lower_snoc]
    obtain ⟨w, hw⟩ : ∃ w, w = Nf02.rest (lower l) r := ⟨_, rfl⟩
    rw [← hw] at ro ⊢
    have sa : ∀ i, i < n → R (lower l ++ [w]) i = R (lower l) i := fun i hi => R_old (by rw [ih.len]; exact hi)
    have sw : R (lower l ++ [w]) n = F w := R_new ih.len.symm
    have wn : F w n = F r n := ro.high n (Nat.le_refl _)
    have mw : L (F w) := Lat.cg (hL.sub mr (SpL.le_of_rows hL ih.len ih.hnf.mem ro.diff)) fun j => by omega
    refine ⟨by rw [List.length_append, ih.len]; rfl, fun x hx => ?_, ⟨⟨fun i hi => ?_, fun i hi => ?_, fun i hi => ?_, fun i hi => ?_⟩, fun i hi => ?_⟩⟩
    · rcases List.mem_append.mp hx with a | a
      · exact ih.lens x a
      · rw [List.mem_singleton.mp a]; exact ro.len
    · rcases Nat.lt_or_eq_of_le (Nat.le_of_lt_succ hi) with q | q
      · rw [sa i q]; exact ih.hnf.upto i q
      · rw [q, sw]; intro j hj; rw [ro.high j (by omega)]; exact ur j hj
    · rcases Nat.lt_or_eq_of_le (Nat.le_of_lt_succ hi) with q | q
      · rw [sa i q]; exact ih.hnf.pos i q
      · rw [q, sw, wn]; exact pr
    · rcases Nat.lt_or_eq_of_le (Nat.le_of_lt_succ hi) with q | q
      · rw [sa i q]; exact ih.hnf.mem i q
      · rw [q, sw]; exact mw
    · rcases Nat.lt_or_eq_of_le (Nat.le_of_lt_succ hi) with q | q
      · rw [sa i q]; exact ih.hnf.dvd i q
      · rw [q, sw, wn]; exact dr
    · rcases Nat.lt_or_eq_of_le (Nat.le_of_lt_succ hi) with q | q
      · intro j hj; rw [sa i q, sa j (by omega)]; exact ih.hnf.red i q j hj
      · intro j hj; rw [q] at hj; rw [q, sw, sa j hj]; exact ro.low j hj
/-! ### two roads to the end -/
theorem Bd.pow {B : Nat} {l : List Vec} {e b : Nat} (h : Bd B l) (hB : B ≤ 2 ^ e) (he : e ≤ b) : Bd (2 ^ b) l := h.mono (Nat.le_trans hB (Nat.pow_le_pow_right (by omega) he))
theorem pow_bd (h b : Nat) : 16 * 2 ^ (2 * h) * (2 ^ b * 2 ^ b) = 2 ^ (2 * h + 2 * b + 4) := by
  rw [Nat.pow_add, Nat.pow_add, Nat.two_mul b, Nat.pow_add 2 b b]
  grind
def capA : Nat → Nat → Prop
  | 0, _ => True
  | p + 1, b => 2 * b + 4 ≤ 100000 ∧ capA p (4 * b + 4)
theorem road_a {N : Nat} (i : Nat) (l : List Vec) (g : Lens N l ∧ ∃ b, Bd (2 ^ b) l ∧ capA (i + 1) b) (hx : ∃ x ∈ l, F x i ≠ 0) :
    ∃ r rest B, euclid i END l = (some r, rest) ∧ EuOk i N l B r rest ∧ (Lens N rest ∧ ∃ b, Bd (2 ^ b) rest ∧ capA i b) := by
  obtain ⟨hl, b, hb, c1, c2⟩ := g
  obtain ⟨x, hx, hn⟩ := hx
  obtain ⟨r, rest, e, ok⟩ := euclid_ok (h := b) (f := END) hl hb ⟨x, hx, hn, hb x hx i⟩ (by unfold END; omega)
  refine ⟨r, rest, _, e, ok, fun y hy => ok.lens y (List.mem_cons_of_mem _ hy), 4 * b + 4, fun y hy => ?_, c2⟩
  have := ok.bd y (List.mem_cons_of_mem _ hy)
  rw [pow_bd] at this
  intro j
  have e : 2 * b + 2 * b + 4 = 4 * b + 4 := by omega
  rw [← e]; exact this j
theorem rows_ok {n : Nat} {l : List Vec} {b : Nat} (hl : Lens n l) (hb : Bd (2 ^ b) l) (hc : capA n b) (hf : Full n (SpL l)) : RowsOk n n (SpL l) (Nf02.rows n l) :=
  lower_ok (SpL.lat l) n _ (Nat.le_refl n) (steps_tri (N := n) (fun i l => Lens n l ∧ ∃ b, Bd (2 ^ b) l ∧ capA i b) (fun i l g hx => road_a i l g hx) n l ⟨hl, b, hb, hc⟩ (fun x hx j hj => F_out (by rw [hl x hx]; exact hj)) hf)
def capB (n : Nat) : Nat → Nat → Prop
  | 0, _ => True
  | p + 1, b => if n ≤ p then capB n p (2 * b + 84) else if p = 0 then True else 2 * b + 4 ≤ 100000 ∧ capB n p (4 * b + 4)
/-- as many as places; behind the first n places one at each that is not large -/
structure GB (n N p : Nat) (l : List Vec) : Prop where
  lens : Lens N l
  many : l.length = p
  cap : ∃ b, Bd (2 ^ b) l ∧ capB n p b
  held : ∀ j, n + j < p → ∃ t ∈ l, F t (n + j) ≠ 0 ∧ (F t (n + j)).natAbs ≤ 2 ^ 40 ∧ Upto (n + j + 1) (F t)
theorem road_b {n N : Nat} (p : Nat) (l : List Vec) (g : GB n N (p + 1) l) (hx : ∃ x ∈ l, F x p ≠ 0) :
    ∃ r rest B, euclid p END l = (some r, rest) ∧ EuOk p N l B r rest ∧ GB n N p rest := by
  obtain ⟨b, hb, hc⟩ := g.cap
  unfold capB at hc
  have held : ∀ {B : Nat} {r : Vec} {rest : List Vec}, EuOk p N l B r rest → ∀ j, n + j < p → ∃ t ∈ rest, F t (n + j) ≠ 0 ∧ (F t (n + j)).natAbs ≤ 2 ^ 40 ∧ Upto (n + j + 1) (F t) := fun ok j hj => by
    obtain ⟨t, a1, a2, a3, a4⟩ := g.held j (by omega)
    exact ⟨t, ok.keep t a1 (a4 p (by omega)), a2, a3, a4⟩
  have many : ∀ {B : Nat} {r : Vec} {rest : List Vec}, EuOk p N l B r rest → rest.length = p := fun ok => by
    have := ok.many
    have := g.many
    omega
  split at hc <;> rename_i c
  · obtain ⟨j, rfl⟩ : ∃ j, p = n + j := ⟨p - n, by omega⟩
    obtain ⟨t, a1, a2, a3, a4⟩ := g.held j (by omega)
    obtain ⟨r, rest, e, ok⟩ := euclid_ok (h := 40) (f := END) g.lens hb ⟨t, a1, a2, a3⟩ (by decide)
    refine ⟨r, rest, _, e, ok, fun y hy => ok.lens y (List.mem_cons_of_mem _ hy), many ok, ⟨2 * b + 84, fun y hy k => ?_, hc⟩, held ok⟩
    have := ok.bd y (List.mem_cons_of_mem _ hy)
    rw [pow_bd] at this
    have e : 2 * 40 + 2 * b + 4 = 2 * b + 84 := by omega
    rw [← e]; exact this k
  · split at hc <;> rename_i c0
    · subst c0
      obtain ⟨x, e⟩ : ∃ x, l = [x] := List.length_eq_one_iff.mp g.many
      subst e
      obtain ⟨y, hy, hn⟩ := hx
      rw [List.mem_singleton.mp hy] at hn
      obtain ⟨r, rest, e, ok⟩ := euclid_one (f := 99999) g.lens hb hn
      exact ⟨r, rest, _, e, ok, fun y hy => ok.lens y (List.mem_cons_of_mem _ hy), many ok, ⟨b, fun y hy => ok.bd y (List.mem_cons_of_mem _ hy), trivial⟩, held ok⟩
    · obtain ⟨x, hx, hn⟩ := hx
      obtain ⟨r, rest, e, ok⟩ := euclid_ok (h := b) (f := END) g.lens hb ⟨x, hx, hn, hb x hx p⟩ (by unfold END; omega)
      refine ⟨r, rest, _, e, ok, fun y hy => ok.lens y (List.mem_cons_of_mem _ hy), many ok, ⟨4 * b + 4, fun y hy k => ?_, hc.2⟩, held ok⟩
      have := ok.bd y (List.mem_cons_of_mem _ hy)
      rw [pow_bd] at this
      have e : 2 * b + 2 * b + 4 = 4 * b + 4 := by omega
      rw [← e]; exact this k
theorem F_take {n : Nat} : ∀ {v : Vec}, Upto n (F v) → ∀ j, F (v.take n) j = F v j := fun {v} h j => by
  unfold F
  rw [List.getD_eq_getElem?_getD, List.getD_eq_getElem?_getD]
  by_cases c : j < n
  · rw [List.getElem?_take_of_lt c]
  · have e := h j (by omega)
    unfold F at e
    rw [List.getD_eq_getElem?_getD] at e
    rw [e, List.getElem?_eq_none (by rw [List.length_take]; omega)]
    rfl
/-- those of the sums that have nothing behind the first n places -/
def Cut (n : Nat) (l : List Vec) : Fn → Prop := fun v => SpL l v ∧ Upto n v
theorem Cut.lat (n : Nat) (l : List Vec) : Lat (Cut n l) := (SpL.lat l).and (Upto.lat n)
theorem firsts_ok {n : Nat} {l : List Vec} (g : GB n (2 * n) (2 * n) l) (hf : Full (2 * n) (SpL l)) : RowsOk n n (Cut n l) (Nf02.firsts n l) := by
  have st := steps_tri (N := 2 * n) (GB n (2 * n)) (fun i l g hx => road_b i l g hx) (2 * n) l g (fun x hx j hj => F_out (by rw [g.lens x hx]; exact hj)) hf
  refine lower_ok (Cut.lat n l) n _ (Nat.le_refl n) ?_
  have hlen : ((steps (2 * n) l).take n).length = n := by rw [List.length_take, st.len]; omega
  have hR : ∀ i, i < n → ∀ j, R (((steps (2 * n) l).take n).map fun r => r.take n) i j = R (steps (2 * n) l) i j := fun i hi j => by
    have e : R (((steps (2 * n) l).take n).map fun r => r.take n) i = F ((((steps (2 * n) l)).getD i []).take n) := by
      unfold R
      rw [List.getD_eq_getElem?_getD, List.getD_eq_getElem?_getD, List.getElem?_map, List.getElem?_take_of_lt hi]
      cases (steps (2 * n) l)[i]? with
      | none => simp
      | some x => rfl
    rw [e]
    exact F_take (Upto.mono (show i + 1 ≤ n by omega) (st.tri.upto i (by omega))) j
  refine ⟨by rw [List.length_map, hlen], fun x hx => ?_, ⟨fun i hi j hj => ?_, fun i hi => ?_, fun i hi => ?_, fun i hi v hv hup => ?_⟩⟩
  · obtain ⟨y, hy, rfl⟩ := List.mem_map.mp hx
    rw [List.length_take, st.lens y (List.mem_of_mem_take hy)]; omega
  · rw [hR i hi]; exact st.tri.upto i (by omega) j hj
  · rw [hR i hi]; exact st.tri.pos i (by omega)
  · exact ⟨Lat.cg (st.tri.mem i (by omega)) fun j => (hR i hi j).symm, fun j hj => by rw [hR i hi]; exact st.tri.upto i (by omega) j (by omega)⟩
  · rw [hR i hi]; exact st.tri.dvd i (by omega) v hv.1 hup
end Idl
/-! The program's way to the rows: two at a time. -/
set_option linter.all false
namespace Idl
open Nf02 (Vec)
/-- minus_times -/
def minusT (a : Vec) (q : Int) (b : Vec) : Vec := (a.zip b).map fun x => x.1 - q * x.2
theorem len_minusT {a b : Vec} {q : Int} (h : a.length = b.length) : (minusT a q b).length = a.length := by simp [minusT, h]
theorem F_minusT (q : Int) : ∀ {a b : Vec}, a.length = b.length → ∀ i, F (minusT a q b) i = F a i - q * F b i
  | [], [], _, i => by show (0 : Int) = 0 - q * 0; simp
  | [], _ :: _, h, _ => by simp at h
  | _ :: _, [], h, _ => by simp at h
  | x :: a, y :: b, h, 0 => rfl
  | x :: a, y :: b, h, i + 1 => F_minusT q (a := a) (b := b) (by simpa using h) i
theorem minusT_eq {a b : Vec} {q : Int} (h : a.length = b.length) : minusT a q b = Nf02.plus a (Nf02.scale (0 - q) b) := by
  refine F_ext (by rw [len_minusT h, len_plus (by rw [len_scale, h])]) fun i _ => ?_
  rw [F_minusT q h, F_plus (by rw [len_scale, h]), F_scale]
  grind
theorem F_minusT_any (q : Int) : ∀ (a b : Vec) (i : Nat), F (minusT a q b) i = F a i - q * F b i ∨ F (minusT a q b) i = 0
  | [], b, i => .inr rfl
  | _ :: _, [], i => .inr rfl
  | x :: a, y :: b, 0 => .inl rfl
  | x :: a, y :: b, i + 1 => F_minusT_any q a b i
theorem fmod_lt {a b : Int} (h : b ≠ 0) : (a - a.fdiv b * b).natAbs < b.natAbs := by
  have e := Int.fmod_def a b
  have c : a.fdiv b * b = b * a.fdiv b := Int.mul_comm _ _
  rw [c, ← e]
  rcases Int.lt_or_lt_of_ne h with q | q
  · have h1 := Int.fmod_def (-a) (-b)
    rw [Int.neg_fdiv_neg] at h1
    have h2 := Int.fmod_nonneg_of_pos (-a) (show 0 < -b by omega)
    have h3 := Int.fmod_lt_of_pos (-a) (show 0 < -b by omega)
    have h4 : (-b) * a.fdiv b = -(b * a.fdiv b) := by grind
    omega
  · have h2 := Int.fmod_nonneg_of_pos a q
    have h3 := Int.fmod_lt_of_pos a q
    omega
/-- cleared_at -/
def cleared (p : Nat) (u l : Vec) : Vec × Vec := if h : F l p = 0 then (u, l) else cleared p l (minusT u ((F u p).fdiv (F l p)) l)
termination_by (F l p).natAbs
decreasing_by
  rcases F_minusT_any ((F u p).fdiv (F l p)) u l p with e | e
  · rw [e]; exact fmod_lt h
  · rw [e]; omega
theorem cleared_done {p : Nat} {u l : Vec} (h : F l p = 0) : cleared p u l = (u, l) := by rw [cleared, dif_pos h]
theorem cleared_step {p : Nat} {u l : Vec} (h : F l p ≠ 0) : cleared p u l = cleared p l (minusT u ((F u p).fdiv (F l p)) l) := by rw [cleared, dif_neg h]
/-- what holds in cleared_at's loop. M: how large all may be. -/
structure CInv (p N : Nat) (D X : Nat) (u0 l0 u l : Vec) : Prop where
  same : cleared p u l = cleared p u0 l0
  lu : u.length = N
  ll : l.length = N
  sp : ∀ v, SpL [u, l] v ↔ SpL [u0, l0] v
  du : (F u p).natAbs ≤ D
  dl : (F l p).natAbs ≤ D
  bu : ∀ j, (F u j).natAbs ≤ 4 * D * X + X
  bl : ∀ j, (F l j).natAbs ≤ 4 * D * X + X
  way : (u = u0 ∧ l = l0) ∨ (F u p ≠ 0 ∧ ((0 < F u p ∧ 0 ≤ F l p ∧ F l p < F u p) ∨ (F u p < 0 ∧ F l p ≤ 0 ∧ F u p < F l p)) ∧ ∀ j, (F u j).natAbs * (F l p).natAbs + (F l j).natAbs * (F u p).natAbs ≤ 4 * D * X)
theorem CInv.start {p N D X : Nat} {u l : Vec} (lu : u.length = N) (ll : l.length = N) (du : (F u p).natAbs ≤ D) (dl : (F l p).natAbs ≤ D) (bu : ∀ j, (F u j).natAbs ≤ X) (bl : ∀ j, (F l j).natAbs ≤ X) : CInv p N D X u l u l :=
  ⟨rfl, lu, ll, fun v => Iff.rfl, du, dl, fun j => Nat.le_trans (bu j) (Nat.le_add_left _ _), fun j => Nat.le_trans (bl j) (Nat.le_add_left _ _), .inl ⟨rfl, rfl⟩⟩
theorem sp_pair {N : Nat} {u l : Vec} {q : Int} (lu : u.length = N) (ll : l.length = N) (v : Fn) : SpL [l, minusT u q l] v ↔ SpL [u, l] v := by
  have h : u.length = l.length := by rw [lu, ll]
  constructor
  · refine SpL.le (SpL.lat _) fun x hx => ?_
    rcases List.mem_cons.mp hx with e | e
    · rw [e]; exact SpL.mem (by simp)
    · rw [List.mem_singleton.mp e]
      exact Lat.cg ((SpL.lat [u, l]).lin q (SpL.mem (x := u) (by simp)) (SpL.mem (x := l) (by simp))) fun j => (F_minusT q h j).symm
  · refine SpL.le (SpL.lat _) fun x hx => ?_
    rcases List.mem_cons.mp hx with e | e
    · rw [e]
      exact Lat.cg ((SpL.lat [l, minusT u q l]).add _ _ (SpL.mem (x := minusT u q l) (by simp)) ((SpL.lat _).smul q _ (SpL.mem (x := l) (by simp)))) fun j => by
        rw [F_minusT q h]; omega
    · rw [List.mem_singleton.mp e]; exact SpL.mem (by simp)
theorem tri_abs (a b c : Int) : (a - b * c).natAbs ≤ a.natAbs + b.natAbs * c.natAbs := by
  have := Int.natAbs_sub_le a (b * c)
  rw [Int.natAbs_mul] at this
  exact this
/-- floor division of like signs, the divisor the lesser: by sizes -/
theorem fdiv_like {a b : Int} (h : (0 < a ∧ 0 ≤ b ∧ b < a) ∨ (a < 0 ∧ b ≤ 0 ∧ a < b)) (hb : b ≠ 0) : (a.fdiv b).natAbs * b.natAbs + (a - a.fdiv b * b).natAbs = a.natAbs ∧ ((0 < b ∧ 0 ≤ a - a.fdiv b * b ∧ a - a.fdiv b * b < b) ∨ (b < 0 ∧ a - a.fdiv b * b ≤ 0 ∧ b < a - a.fdiv b * b)) := by
  have c : a.fdiv b * b = b * a.fdiv b := Int.mul_comm _ _
  have nm : (a.fdiv b).natAbs * b.natAbs = (b * a.fdiv b).natAbs := by rw [Int.natAbs_mul, Nat.mul_comm]
  rw [nm, c]
  rcases h with ⟨h1, h2, h3⟩ | ⟨h1, h2, h3⟩
  · have hb0 : 0 < b := by omega
    have e := Int.fmod_def a b
    have f1 := Int.fmod_nonneg_of_pos a hb0
    have f2 := Int.fmod_lt_of_pos a hb0
    have q0 : 0 ≤ a.fdiv b := by
      rw [Int.fdiv_eq_ediv_of_nonneg a (by omega)]
      exact Int.ediv_nonneg (by omega) (by omega)
    have m0 : 0 ≤ b * a.fdiv b := Int.mul_nonneg (by omega) q0
    omega
  · have e := Int.fmod_def (-a) (-b)
    have f1 := Int.fmod_nonneg_of_pos (-a) (show 0 < -b by omega)
    have f2 := Int.fmod_lt_of_pos (-a) (show 0 < -b by omega)
    rw [Int.neg_fdiv_neg] at e
    have q0 : 0 ≤ a.fdiv b := by
      rw [← Int.neg_fdiv_neg, Int.fdiv_eq_ediv_of_nonneg (-a) (by omega)]
      exact Int.ediv_nonneg (by omega) (by omega)
    have m0 : 0 ≤ (-b) * a.fdiv b := Int.mul_nonneg (by omega) q0
    have m1 : (-b) * a.fdiv b = -(b * a.fdiv b) := by grind
    omega
theorem CInv.step {p N D X : Nat} {u0 l0 u l : Vec} (bu0 : ∀ j, (F u0 j).natAbs ≤ X) (bl0 : ∀ j, (F l0 j).natAbs ≤ X) (h : CInv p N D X u0 l0 u l) (hn : F l p ≠ 0) :
    CInv p N D X u0 l0 l (minusT u ((F u p).fdiv (F l p)) l) := by
  have hl : u.length = l.length := by rw [h.lu, h.ll]
  obtain ⟨q, hq⟩ : ∃ q, q = (F u p).fdiv (F l p) := ⟨_, rfl⟩
  have hlt : (F (minusT u q l) p).natAbs < (F l p).natAbs := by rw [F_minusT q hl, hq]; exact fmod_lt hn
  rw [← hq]
  have way : F l p ≠ 0 ∧ ((0 < F l p ∧ 0 ≤ F (minusT u q l) p ∧ F (minusT u q l) p < F l p) ∨ (F l p < 0 ∧ F (minusT u q l) p ≤ 0 ∧ F l p < F (minusT u q l) p)) ∧
      ∀ j, (F l j).natAbs * (F (minusT u q l) p).natAbs + (F (minusT u q l) j).natAbs * (F l p).natAbs ≤ 4 * D * X := by
    refine ⟨hn, ?_, fun j => ?_⟩
    · rw [F_minusT q hl, hq]
      have c : (F u p).fdiv (F l p) * F l p = F l p * (F u p).fdiv (F l p) := Int.mul_comm _ _
      rw [c, ← Int.fmod_def]
      rcases Int.lt_or_lt_of_ne hn with z | z
      · right
        have h1 := Int.fmod_def (-F u p) (-F l p)
        rw [Int.neg_fdiv_neg] at h1
        have h0 := Int.fmod_def (F u p) (F l p)
        have h2 := Int.fmod_nonneg_of_pos (-F u p) (show 0 < -F l p by omega)
        have h3 := Int.fmod_lt_of_pos (-F u p) (show 0 < -F l p by omega)
        have h4 : (-F l p) * (F u p).fdiv (F l p) = -(F l p * (F u p).fdiv (F l p)) := by grind
        omega
      · left
        have h2 := Int.fmod_nonneg_of_pos (F u p) z
        have h3 := Int.fmod_lt_of_pos (F u p) z
        omega
    · have tj := tri_abs (F u j) q (F l j)
      rw [← F_minusT q hl] at tj
      rcases h.way with ⟨e1, e2⟩ | ⟨w1, w2, w3⟩
      · have a1 : (F u j).natAbs ≤ X := by rw [e1]; exact bu0 j
        have a2 : (F l j).natAbs ≤ X := by rw [e2]; exact bl0 j
        have d1 := h.du
        have d2 := h.dl
        have qd : q.natAbs * (F l p).natAbs ≤ (F u p).natAbs + (F l p).natAbs := by
          rw [← Int.natAbs_mul]
          have : F (minusT u q l) p = F u p - q * F l p := F_minusT q hl p
          omega
        -- |l j| |rest p| + |rest j| |l p|
        have s1 : (F (minusT u q l) j).natAbs * (F l p).natAbs ≤ ((F u j).natAbs + q.natAbs * (F l j).natAbs) * (F l p).natAbs := Nat.mul_le_mul_right _ tj
        have s2 : ((F u j).natAbs + q.natAbs * (F l j).natAbs) * (F l p).natAbs = (F u j).natAbs * (F l p).natAbs + (F l j).natAbs * (q.natAbs * (F l p).natAbs) := by grind
        have s3 : (F u j).natAbs * (F l p).natAbs ≤ X * D := Nat.mul_le_mul a1 d2
        have s4 : (F l j).natAbs * (q.natAbs * (F l p).natAbs) ≤ X * (2 * D) := Nat.mul_le_mul a2 (by omega)
        have s5 : (F l j).natAbs * (F (minusT u q l) p).natAbs ≤ X * D := Nat.mul_le_mul a2 (by omega)
        have s6 : X * (2 * D) = 2 * (X * D) := by grind
        have s7 : 4 * D * X = 4 * (X * D) := by grind
        omega
      · have f := (fdiv_like w2 hn).1
        rw [← hq, ← F_minusT q hl] at f
        have g := w3 j
        have s1 : (F (minusT u q l) j).natAbs * (F l p).natAbs ≤ ((F u j).natAbs + q.natAbs * (F l j).natAbs) * (F l p).natAbs := Nat.mul_le_mul_right _ tj
        have s2 : ((F u j).natAbs + q.natAbs * (F l j).natAbs) * (F l p).natAbs = (F u j).natAbs * (F l p).natAbs + (F l j).natAbs * (q.natAbs * (F l p).natAbs) := by grind
        have s3 : (F l j).natAbs * (F u p).natAbs = (F l j).natAbs * (q.natAbs * (F l p).natAbs) + (F l j).natAbs * (F (minusT u q l) p).natAbs := by rw [← f, Nat.mul_add]
        omega
  refine ⟨by rw [← h.same, hq]; exact (cleared_step hn).symm, h.ll, by rw [len_minusT hl, h.lu], fun v => (sp_pair h.lu h.ll v).trans (h.sp v), h.dl, by have := h.dl; omega, h.bl, fun j => ?_, .inr way⟩
  have g := way.2.2 j
  have s : (F (minusT u q l) j).natAbs ≤ (F (minusT u q l) j).natAbs * (F l p).natAbs := Nat.le_mul_of_pos_right _ (by omega)
  omega
structure ClOk (p N D X : Nat) (u0 l0 : Vec) (c : Vec × Vec) : Prop where
  lu : c.1.length = N
  ll : c.2.length = N
  sp : ∀ v, SpL [c.1, c.2] v ↔ SpL [u0, l0] v
  z : F c.2 p = 0
  du : (F c.1 p).natAbs ≤ D
  bu : ∀ j, (F c.1 j).natAbs ≤ 4 * D * X + X
  bl : ∀ j, (F c.2 j).natAbs ≤ 4 * D * X + X
theorem CInv.done {p N D X : Nat} {u0 l0 u l : Vec} (h : CInv p N D X u0 l0 u l) (z : F l p = 0) : ClOk p N D X u0 l0 (cleared p u0 l0) := by
  rw [← h.same, cleared_done z]
  exact ⟨h.lu, h.ll, h.sp, z, h.du, h.bu, h.bl⟩
theorem CInv.all {p N D X : Nat} {u0 l0 : Vec} (bu0 : ∀ j, (F u0 j).natAbs ≤ X) (bl0 : ∀ j, (F l0 j).natAbs ≤ X) : ∀ (n : Nat) (u l : Vec), (F l p).natAbs ≤ n → CInv p N D X u0 l0 u l → ClOk p N D X u0 l0 (cleared p u0 l0)
  | 0, u, l, hn, h => h.done (by omega)
  | n + 1, u, l, hn, h => by
    by_cases z : F l p = 0
    · exact h.done z
    · refine CInv.all bu0 bl0 n _ _ ?_ (h.step bu0 bl0 z)
      rw [F_minusT _ (by rw [h.lu, h.ll])]
      have := fmod_lt (a := F u p) z
      omega
theorem cleared_ok {p N D X : Nat} {u l : Vec} (lu : u.length = N) (ll : l.length = N) (du : (F u p).natAbs ≤ D) (dl : (F l p).natAbs ≤ D) (bu : ∀ j, (F u j).natAbs ≤ X) (bl : ∀ j, (F l j).natAbs ≤ X) : ClOk p N D X u l (cleared p u l) :=
  CInv.all bu bl _ u l (Nat.le_refl _) (CInv.start lu ll du dl bu bl)
end Idl
set_option linter.all false
/-! The program's rows are the one triangular form, too. -/
namespace Idl
open Nf02 (Vec lower)
def pairStep (p : Nat) (s : Vec × List Vec) (v : Vec) : Vec × List Vec := ((cleared p s.1 v).1, s.2 ++ [(cleared p s.1 v).2])
/-- row_and_others: ahead of the sign -/
def rowFold (p : Nat) (r : Vec) (vs : List Vec) : Vec × List Vec := vs.foldl (pairStep p) (r, [])
def negV (v : Vec) : Vec := v.map fun x => -x
/-- row_and_others -/
def rowOthers (p : Nat) (vs : List Vec) : Vec × List Vec :=
  let c := rowFold p (vs.headD []) vs.tail
  (if F c.1 p < 0 then negV c.1 else c.1, c.2)
/-- the steps of rows_of, the last one made first -/
def rsteps : Nat → List Vec → List Vec
  | 0, _ => []
  | i + 1, l => rsteps i (rowOthers i l).2 ++ [(rowOthers i l).1]
/-- rows_of -/
def rowsOf (vs : List Vec) (w : Nat) : List Vec := lower (rsteps w vs)
theorem F_negV : ∀ (v : Vec) (j : Nat), F (negV v) j = -F v j
  | [], j => by show (0 : Int) = -0; rfl
  | x :: v, 0 => rfl
  | x :: v, j + 1 => F_negV v j
theorem len_negV (v : Vec) : (negV v).length = v.length := by simp [negV]
theorem negV_eq (v : Vec) : negV v = Nf02.scale (-1) v := F_ext (by rw [len_negV, len_scale]) fun i _ => by rw [F_negV, F_scale]; omega
def grown (b : Nat) : Nat → Nat
  | 0 => b
  | k + 1 => grown b k + b + 3
theorem grown_eq (b : Nat) : ∀ k, grown b k = b + k * (b + 3)
  | 0 => by simp [grown]
  | k + 1 => by
    rw [grown, grown_eq b k, Nat.add_mul, Nat.one_mul]; omega
theorem grown_mono (b : Nat) {k m : Nat} (h : k ≤ m) : grown b k ≤ grown b m := by
  rw [grown_eq, grown_eq]
  have : k * (b + 3) ≤ m * (b + 3) := Nat.mul_le_mul_right _ h
  omega
theorem grow_pow (d x : Nat) : 4 * 2 ^ d * 2 ^ x + 2 ^ x ≤ 2 ^ (x + d + 3) := by
  have e : 2 ^ (x + d + 3) = 8 * (2 ^ d * 2 ^ x) := by rw [Nat.pow_add, Nat.pow_add]; grind
  have o : 1 * 2 ^ x ≤ 2 ^ d * 2 ^ x := Nat.mul_le_mul_right _ Nat.one_le_two_pow
  have a : 4 * 2 ^ d * 2 ^ x = 4 * (2 ^ d * 2 ^ x) := Nat.mul_assoc ..
  omega
/-- what holds in row_and_others' loop; b: bits at first, k: how many are taken -/
structure RInv (p N b : Nat) (vs : List Vec) (k : Nat) (row : Vec) (others : List Vec) : Prop where
  many : others.length = k
  lr : row.length = N
  lo : Lens N others
  sp : ∀ v, SpL (row :: (others ++ vs.drop (k + 1))) v ↔ SpL vs v
  z : ∀ x ∈ others, F x p = 0
  d : (F row p).natAbs ≤ 2 ^ b
  br : ∀ j, (F row j).natAbs ≤ 2 ^ grown b k
  bo : Bd (2 ^ grown b k) others
theorem RInv.start {p N b : Nat} {r : Vec} {s : List Vec} (hl : Lens N (r :: s)) (hb : Bd (2 ^ b) (r :: s)) : RInv p N b (r :: s) 0 r [] :=
  ⟨rfl, hl r (by simp), fun x hx => by simp at hx, fun v => Iff.rfl, fun x hx => by simp at hx, hb r (by simp) p, hb r (by simp), fun x hx => by simp at hx⟩
theorem RInv.ok {p N b : Nat} {vs : List Vec} {k : Nat} {row v : Vec} {others : List Vec} (hl : Lens N vs) (hb : Bd (2 ^ b) vs) (h : RInv p N b vs k row others) (hv : vs[k + 1]? = some v) :
    ClOk p N (2 ^ b) (2 ^ grown b k) row v (cleared p row v) := by
  have mv : v ∈ vs := List.mem_of_getElem? hv
  exact cleared_ok h.lr (hl v mv) h.d (hb v mv p) h.br fun j => Nat.le_trans (hb v mv j) (Nat.pow_le_pow_right (by omega) (by rw [grown_eq]; omega))
theorem RInv.step {p N b : Nat} {vs : List Vec} {k : Nat} {row v : Vec} {others : List Vec} (hl : Lens N vs) (hb : Bd (2 ^ b) vs) (h : RInv p N b vs k row others) (hv : vs[k + 1]? = some v) :
    RInv p N b vs (k + 1) (cleared p row v).1 (others ++ [(cleared p row v).2]) := by
  have c := h.ok hl hb hv
  have g : 4 * 2 ^ b * 2 ^ grown b k + 2 ^ grown b k ≤ 2 ^ grown b (k + 1) := by
    have := grow_pow b (grown b k)
    rw [grown]; exact this
  have dr : vs.drop (k + 1) = v :: vs.drop (k + 1 + 1) := by
    have hk : k + 1 < vs.length := (List.getElem?_eq_some_iff.mp hv).1
    rw [List.drop_eq_getElem_cons hk, (List.getElem?_eq_some_iff.mp hv).2]
  have mono := Nat.pow_le_pow_right (show 0 < 2 by omega) (show grown b k ≤ grown b (k + 1) by rw [grown]; omega)
  refine ⟨by rw [List.length_append, h.many]; rfl, c.lu, fun x hx => ?_, fun w => Iff.trans ?_ (h.sp w), fun x hx => ?_, c.du, fun j => Nat.le_trans (c.bu j) g, fun x hx => ?_⟩
  · rcases List.mem_append.mp hx with a | a
    · exact h.lo x a
    · rw [List.mem_singleton.mp a]; exact c.ll
  · rw [dr]
    have mem1 : ∀ x ∈ [(cleared p row v).1, (cleared p row v).2], SpL (row :: (others ++ v :: vs.drop (k + 1 + 1))) (F x) := fun x hx =>
      SpL.le (SpL.lat _) (fun y hy => SpL.mem (by
        rcases List.mem_cons.mp hy with e | e
        · rw [e]; simp
        · rw [List.mem_singleton.mp e]; simp)) ((c.sp _).mp (SpL.mem hx))
    have mem2 : ∀ x ∈ [row, v], SpL ((cleared p row v).1 :: (others ++ [(cleared p row v).2] ++ vs.drop (k + 1 + 1))) (F x) := fun x hx =>
      SpL.le (SpL.lat _) (fun y hy => SpL.mem (by
        rcases List.mem_cons.mp hy with e | e
        · rw [e]; simp
        · rw [List.mem_singleton.mp e]; simp)) ((c.sp _).mpr (SpL.mem hx))
    constructor
    · refine SpL.le (SpL.lat _) fun x hx => ?_
      rcases List.mem_cons.mp hx with e | e
      · rw [e]; exact mem1 _ (by simp)
      · rcases List.mem_append.mp e with e | e
        · rcases List.mem_append.mp e with e | e
          · exact SpL.mem (by simp [e])
          · rw [List.mem_singleton.mp e]; exact mem1 _ (by simp)
        · exact SpL.mem (by simp [e])
    · refine SpL.le (SpL.lat _) fun x hx => ?_
      rcases List.mem_cons.mp hx with e | e
      · rw [e]; exact mem2 _ (by simp)
      · rcases List.mem_append.mp e with e | e
        · exact SpL.mem (by simp [e])
        · rcases List.mem_cons.mp e with e | e
          · rw [e]; exact mem2 _ (by simp)
          · exact SpL.mem (by simp [e])
  · rcases List.mem_append.mp hx with a | a
    · exact h.z x a
    · rw [List.mem_singleton.mp a]; exact c.z
  · rcases List.mem_append.mp hx with a | a
    · exact fun j => Nat.le_trans (h.bo x a j) mono
    · rw [List.mem_singleton.mp a]; exact fun j => Nat.le_trans (c.bl j) g
theorem take_one_more {α : Type} {l : List α} {k : Nat} {v : α} (h : l[k]? = some v) : l.take (k + 1) = l.take k ++ [v] := by
  rw [List.take_add_one, h]; rfl
theorem rowFold_take {p : Nat} {r v : Vec} {s : List Vec} {k : Nat} (h : s[k]? = some v) : rowFold p r (s.take (k + 1)) = pairStep p (rowFold p r (s.take k)) v := by
  unfold rowFold
  rw [take_one_more h, List.foldl_append]; rfl
theorem rowFold_inv {p N b : Nat} {r : Vec} {s : List Vec} (hl : Lens N (r :: s)) (hb : Bd (2 ^ b) (r :: s)) : ∀ k, k ≤ s.length → RInv p N b (r :: s) k (rowFold p r (s.take k)).1 (rowFold p r (s.take k)).2
  | 0, _ => RInv.start hl hb
  | k + 1, hk => by
    have hv : s[k]? = some s[k] := List.getElem?_eq_getElem (by omega)
    rw [rowFold_take hv]
    exact (rowFold_inv hl hb k (by omega)).step hl hb (show (r :: s)[k + 1]? = _ by exact hv)
theorem rowOthers_ok {p N b : Nat} {vs : List Vec} (hl : Lens N vs) (hb : Bd (2 ^ b) vs) (hx : ∃ x ∈ vs, F x p ≠ 0) :
    EuOk0 p N vs (2 ^ grown b (vs.length - 1)) (rowOthers p vs).1 (rowOthers p vs).2 ∧ (rowOthers p vs).2.length + 1 = vs.length := by
  cases vs with
  | nil => obtain ⟨x, hx, _⟩ := hx; simp at hx
  | cons r s =>
    have inv := rowFold_inv (p := p) hl hb s.length (Nat.le_refl _)
    rw [List.take_length] at inv
    show EuOk0 p N (r :: s) (2 ^ grown b s.length) (if F (rowFold p r s).1 p < 0 then negV (rowFold p r s).1 else (rowFold p r s).1) (rowFold p r s).2 ∧ (rowFold p r s).2.length + 1 = s.length + 1
    obtain ⟨row, hrow⟩ : ∃ row, row = (rowFold p r s).1 := ⟨_, rfl⟩
    obtain ⟨ot, hot⟩ : ∃ ot, ot = (rowFold p r s).2 := ⟨_, rfl⟩
    rw [← hrow, ← hot] at inv ⊢
    have sp : ∀ v, SpL (row :: ot) v ↔ SpL (r :: s) v := fun v => by
      have := inv.sp v
      simpa using this
    have ne : F row p ≠ 0 := by
      obtain ⟨x, hx, hn⟩ := hx
      obtain ⟨y, hy, hyn⟩ := SpL.some_ne ((sp _).mpr (SpL.mem hx)) hn
      rcases List.mem_cons.mp hy with e | e
      · rw [← e]; exact hyn
      · exact absurd (inv.z y e) hyn
    have sgn : (∀ j, F (if F row p < 0 then negV row else row) j = F row j) ∨ (∀ j, F (if F row p < 0 then negV row else row) j = -F row j) := by
      split
      · right; exact F_negV row
      · left; intro j; rfl
    have pos : 0 < F (if F row p < 0 then negV row else row) p := by
      split <;> rename_i c
      · rw [F_negV]; omega
      · omega
    have len : (if F row p < 0 then negV row else row).length = N := by
      split
      · rw [len_negV]; exact inv.lr
      · exact inv.lr
    generalize hw : (if F row p < 0 then negV row else row) = w at sgn pos len
    refine ⟨⟨fun v => Iff.trans (sp v).symm ⟨SpL.le (SpL.lat _) fun x hx => ?_, SpL.le (SpL.lat _) fun x hx => ?_⟩, pos, inv.z, fun x hx => ?_, fun x hx => ?_⟩, by rw [inv.many]⟩
    · rcases List.mem_cons.mp hx with e | e
      · rw [e]
        have a := SpL.mem (l := w :: ot) (x := w) (by simp)
        rcases sgn with q | q
        · exact Lat.cg a q
        · exact Lat.cg ((SpL.lat _).smul (-1) _ a) fun j => by rw [q]; omega
      · exact SpL.mem (by simp [e])
    · rcases List.mem_cons.mp hx with e | e
      · rw [e]
        have a := SpL.mem (l := row :: ot) (x := row) (by simp)
        rcases sgn with q | q
        · exact Lat.cg a fun j => (q j).symm
        · exact Lat.cg ((SpL.lat _).smul (-1) _ a) fun j => by rw [q]; omega
      · exact SpL.mem (by simp [e])
    · rcases List.mem_cons.mp hx with e | e
      · rw [e]; exact len
      · exact inv.lo x e
    · rcases List.mem_cons.mp hx with e | e
      · rw [e]
        rcases sgn with q | q
        · exact fun j => by rw [q]; exact inv.br j
        · exact fun j => by rw [q, Int.natAbs_neg]; exact inv.br j
      · exact inv.bo x e
def LIM : Nat := 6000000
/-- p places left, m rows of b bits: none grows over LIM bits -/
def capP : Nat → Nat → Nat → Prop
  | 0, _, b => b ≤ LIM
  | p + 1, m, b => b ≤ LIM ∧ capP p (m - 1) (grown b (m - 1))
theorem capP.le : ∀ {p m b : Nat}, capP p m b → b ≤ LIM
  | 0, _, _, h => h
  | _ + 1, _, _, h => h.1
structure GP (N p : Nat) (l : List Vec) : Prop where
  lens : Lens N l
  cap : ∃ b, Bd (2 ^ b) l ∧ capP p l.length b
theorem GP.next {N p : Nat} {l : List Vec} (g : GP N (p + 1) l) (hx : ∃ x ∈ l, F x p ≠ 0) : ∃ B, EuOk0 p N l B (rowOthers p l).1 (rowOthers p l).2 ∧ B ≤ 2 ^ LIM ∧ GP N p (rowOthers p l).2 := by
  obtain ⟨b, hb, c1, c2⟩ := g.cap
  obtain ⟨ok, hm⟩ := rowOthers_ok g.lens hb hx
  refine ⟨_, ok, Nat.pow_le_pow_right (by omega) c2.le, fun x hx => ok.lens x (List.mem_cons_of_mem _ hx), _, fun x hx => ok.bd x (List.mem_cons_of_mem _ hx), ?_⟩
  have : (rowOthers p l).2.length = l.length - 1 := by omega
  rw [this]; exact c2
theorem rsteps_ok {N : Nat} (n : Nat) (l : List Vec) (g : GP N n l) (hu : ∀ x ∈ l, Upto n (F x)) (hf : Full n (SpL l)) : StepsOk n N (SpL l) (rsteps n l) :=
  steps_gen rsteps (fun _ => rfl) (GP N) (fun i l g hx => by
    obtain ⟨B, ok, _, g'⟩ := g.next hx
    exact ⟨_, _, B, rfl, ok, g'⟩) n l g hu hf
/-- all of the steps' rows are bounded -/
theorem rsteps_bd {N : Nat} : ∀ (n : Nat) (l : List Vec), GP N n l → (∀ x ∈ l, Upto n (F x)) → Full n (SpL l) → Bd (2 ^ LIM) (rsteps n l)
  | 0, l, _, _, _ => fun x hx => by simp [rsteps] at hx
  | n + 1, l, g, hu, hf => by
    obtain ⟨v0, hv0, n0, _⟩ := hf n (Nat.lt_succ_self n)
    obtain ⟨B, ok, hB, g'⟩ := g.next (SpL.some_ne hv0 n0)
    have upl : ∀ v, SpL l v → Upto (n + 1) v := fun v hv => SpL.upto hu hv
    intro x hx
    rcases List.mem_append.mp hx with a | a
    · refine rsteps_bd n _ g' (fun x hx j hj => ?_) (fun j hj => ?_) x a
      · rcases Nat.lt_or_eq_of_le hj with q | q
        · exact upl _ (ok.outRest (SpL.mem hx)) j q
        · rw [← q]; exact ok.zero x hx
      · obtain ⟨v, a, b, c⟩ := hf j (by omega)
        exact ⟨v, ok.inRest a (c n (by omega)), b, c⟩
    · rw [List.mem_singleton.mp a]
      exact fun j => Nat.le_trans (ok.bd _ (by simp) j) hB
theorem rowsOf_ok {n : Nat} {l : List Vec} (g : GP n n l) (hf : Full n (SpL l)) : RowsOk n n (SpL l) (rowsOf l n) :=
  lower_ok (SpL.lat l) n _ (Nat.le_refl n) (rsteps_ok n l g (fun x hx j hj => F_out (by rw [g.lens x hx]; exact hj)) hf)
/-- the first halves of the rows that have nothing behind them -/
def halves (n : Nat) (rs : List Vec) : List Vec := (rs.take n).map fun r => r.take n
theorem halves_ok {n : Nat} {l rs : List Vec} (h : RowsOk (2 * n) (2 * n) (SpL l) rs) : RowsOk n n (Cut n l) (halves n rs) := by
  have hlen : (rs.take n).length = n := by rw [List.length_take, h.len]; omega
  have hR : ∀ i, i < n → ∀ j, R (halves n rs) i j = R rs i j := fun i hi j => by
    have e : R (halves n rs) i = F ((rs.getD i []).take n) := by
      unfold R halves
      rw [List.getD_eq_getElem?_getD, List.getD_eq_getElem?_getD, List.getElem?_map, List.getElem?_take_of_lt hi]
      cases rs[i]? with
      | none => simp
      | some x => rfl
    rw [e]
    exact F_take (Upto.mono (show i + 1 ≤ n by omega) (h.hnf.upto i (by omega))) j
  refine ⟨by unfold halves; rw [List.length_map, hlen], fun x hx => ?_, ⟨⟨fun i hi j hj => ?_, fun i hi => ?_, fun i hi => ?_, fun i hi v hv hup => ?_⟩, fun i hi j hj => ?_⟩⟩
  · obtain ⟨y, hy, rfl⟩ := List.mem_map.mp hx
    rw [List.length_take, h.lens y (List.mem_of_mem_take hy)]; omega
  · rw [hR i hi]; exact h.hnf.upto i (by omega) j hj
  · rw [hR i hi]; exact h.hnf.pos i (by omega)
  · exact ⟨Lat.cg (h.hnf.mem i (by omega)) fun j => (hR i hi j).symm, fun j hj => by rw [hR i hi]; exact h.hnf.upto i (by omega) j (by omega)⟩
  · rw [hR i hi]; exact h.hnf.dvd i (by omega) v hv.1 hup
  · rw [hR i hi, hR j (by omega)]; exact h.hnf.red i (by omega) j hj
theorem RowsOk.eq {n : Nat} {L : Fn → Prop} (hL : Lat L) {a b : List Vec} (h : RowsOk n n L a) (k : RowsOk n n L b) : a = b := hnf_eq hL h.len k.len h.lens k.lens h.hnf k.hnf
theorem RowsOk.congr {n N : Nat} {L M : Fn → Prop} {a : List Vec} (h : RowsOk n N L a) (e : ∀ v, L v ↔ M v) : RowsOk n N M a := ⟨h.len, h.lens, h.hnf.congr e⟩
end Idl
set_option linter.all false
/-! The ring: times the root, products. -/
namespace Idl
open Nf02 (Vec Field up)
def Up (k : Field) (v : Fn) : Fn := fun j => if j < k.length then (if j = 0 then 0 else v (j - 1)) - v (k.length - 1) * F k j else 0
theorem len_up {k : Field} {a : Vec} (h : a.length = k.length) (h0 : 0 < k.length) : (up k a).length = k.length := by
  unfold up
  simp only
  rw [len_plus]
  · simp; omega
  · simp; omega
theorem getLastD_eq {a : Vec} {n : Nat} (h : a.length = n) (h0 : 0 < n) : a.getLastD 0 = F a (n - 1) := by
  unfold F
  rw [List.getLastD_eq_getLast?, List.getLast?_eq_getElem?, List.getD_eq_getElem?_getD, h]
theorem F_dropLast : ∀ {a : Vec} {j : Nat}, j + 1 < a.length → F a.dropLast j = F a j
  | [], j, h => by simp at h
  | [x], j, h => by simp at h
  | x :: y :: a, 0, h => rfl
  | x :: y :: a, j + 1, h => F_dropLast (a := y :: a) (j := j) (by simpa using h)
theorem F_map (f : Int → Int) (h0 : f 0 = 0) : ∀ (a : Vec) (j : Nat), F (a.map f) j = f (F a j)
  | [], j => by show (0 : Int) = f 0; rw [h0]
  | x :: a, 0 => rfl
  | x :: a, j + 1 => F_map f h0 a j
theorem F_up {k : Field} {a : Vec} (h : a.length = k.length) (h0 : 0 < k.length) (j : Nat) : F (up k a) j = Up k (F a) j := by
  unfold Up
  split <;> rename_i c
  · unfold up
    simp only
    rw [F_plus (by simp; omega), F_map _ (by simp), getLastD_eq h h0]
    cases j with
    | zero => rw [F_zero]; simp
    | succ j =>
      rw [F_succ, F_dropLast (by omega)]
      simp
      grind
  · exact F_out (by rw [len_up h h0]; omega)
theorem Up_cg {k : Field} {u v : Fn} (h : ∀ j, u j = v j) (j : Nat) : Up k u j = Up k v j := by
  have : u = v := funext h
  rw [this]
theorem Up_zero (k : Field) (j : Nat) : Up k (fun _ => 0) j = 0 := by unfold Up; split <;> simp
theorem Up_add (k : Field) (u v : Fn) (j : Nat) : Up k (fun i => u i + v i) j = Up k u j + Up k v j := by
  unfold Up; split
  · split <;> grind
  · rfl
theorem Up_smul (k : Field) (c : Int) (u : Fn) (j : Nat) : Up k (fun i => c * u i) j = c * Up k u j := by
  unfold Up; split
  · split <;> grind
  · simp
theorem Up_upto (k : Field) (v : Fn) : Upto k.length (Up k v) := fun j hj => by unfold Up; rw [if_neg (by omega)]
/-- a product, by places of the first one -/
def Tm (k : Field) : Vec → Fn → Fn
  | [], _ => fun _ => 0
  | c :: a, v => fun j => c * v j + Tm k a (Up k v) j
theorem Tm_cg {k : Field} {u v : Fn} (a : Vec) (h : ∀ j, u j = v j) (j : Nat) : Tm k a u j = Tm k a v j := by
  have : u = v := funext h
  rw [this]
theorem Tm_zero (k : Field) : ∀ (a : Vec) (j : Nat), Tm k a (fun _ => 0) j = 0
  | [], j => rfl
  | c :: a, j => by
    show c * 0 + Tm k a (Up k fun _ => 0) j = 0
    rw [Tm_cg a (Up_zero k) j, Tm_zero k a j]; simp
theorem Tm_add (k : Field) : ∀ (a : Vec) (u v : Fn) (j : Nat), Tm k a (fun i => u i + v i) j = Tm k a u j + Tm k a v j
  | [], u, v, j => rfl
  | c :: a, u, v, j => by
    show c * (u j + v j) + Tm k a (Up k fun i => u i + v i) j = _ + _
    rw [Tm_cg a (Up_add k u v) j, Tm_add k a]
    show _ = (c * u j + Tm k a (Up k u) j) + (c * v j + Tm k a (Up k v) j)
    grind
theorem Tm_smul (k : Field) : ∀ (a : Vec) (c : Int) (u : Fn) (j : Nat), Tm k a (fun i => c * u i) j = c * Tm k a u j
  | [], c, u, j => by show (0 : Int) = c * 0; simp
  | x :: a, c, u, j => by
    show x * (c * u j) + Tm k a (Up k fun i => c * u i) j = c * (x * u j + Tm k a (Up k u) j)
    rw [Tm_cg a (Up_smul k c u) j, Tm_smul k a]
    grind
theorem Tm_Up (k : Field) : ∀ (a : Vec) (v : Fn) (j : Nat), Up k (Tm k a v) j = Tm k a (Up k v) j
  | [], v, j => Up_zero k j
  | c :: a, v, j => by
    have e : Up k (Tm k (c :: a) v) j = Up k (fun i => (fun i => c * v i) i + Tm k a (Up k v) i) j := rfl
    rw [e, Up_add, Up_smul, Tm_Up k a]
    rfl
theorem Tm_comm (k : Field) : ∀ (a b : Vec) (v : Fn) (j : Nat), Tm k a (Tm k b v) j = Tm k b (Tm k a v) j
  | [], b, v, j => (Tm_zero k b j).symm
  | c :: a, b, v, j => by
    show c * Tm k b v j + Tm k a (Up k (Tm k b v)) j = _
    rw [Tm_cg a (Tm_Up k b v) j, Tm_comm k a b]
    have e : Tm k b (Tm k (c :: a) v) j = Tm k b (fun i => (fun i => c * v i) i + Tm k a (Up k v) i) j := rfl
    rw [e, Tm_add, Tm_smul]
theorem F_times {k : Field} {b : Vec} (hb : b.length = k.length) (h0 : 0 < k.length) (a : Vec) (j : Nat) : F (Nf02.times k a b) j = Tm k a (F b) j := by
  have gen : ∀ (a s b : Vec), s.length = k.length → b.length = k.length → ∀ j, F (a.foldl (fun (x : Vec × Vec) c => (Nf02.plus x.1 (Nf02.scale c x.2), up k x.2)) (s, b)).1 j = F s j + Tm k a (F b) j := by
    intro a
    induction a with
    | nil => intro s b _ _ j; show F s j = F s j + 0; omega
    | cons c a ih =>
      intro s b hs hb j
      show F (a.foldl _ (Nf02.plus s (Nf02.scale c b), up k b)).1 j = F s j + (c * F b j + Tm k a (Up k (F b)) j)
      rw [ih _ _ (by rw [len_plus (by rw [len_scale, hs, hb]), hs]) (len_up hb h0) j, F_plus (by rw [len_scale, hs, hb]), F_scale, Tm_cg a (F_up hb h0) j]
      omega
  have z : ∀ (n j : Nat), F (List.replicate n (0 : Int)) j = 0 := fun n j => by
    unfold F
    rw [List.getD_eq_getElem?_getD, List.getElem?_replicate]
    split <;> rfl
  unfold Nf02.times
  rw [gen a _ b (by simp [Nf01.Field.n]) hb j, z]
  omega
theorem len_times {k : Field} {b : Vec} (hb : b.length = k.length) (h0 : 0 < k.length) (a : Vec) : (Nf02.times k a b).length = k.length := by
  have gen : ∀ (a s b : Vec), s.length = k.length → b.length = k.length → (a.foldl (fun (x : Vec × Vec) c => (Nf02.plus x.1 (Nf02.scale c x.2), up k x.2)) (s, b)).1.length = k.length := by
    intro a
    induction a with
    | nil => intro s b hs _; exact hs
    | cons c a ih =>
      intro s b hs hb
      exact ih _ _ (by rw [len_plus (by rw [len_scale, hs, hb]), hs]) (len_up hb h0)
  exact gen a _ b (by simp [Nf01.Field.n]) hb
/-- 1 at place i -/
def E (i : Nat) : Fn := fun j => if j = i then 1 else 0
theorem Up_E {k : Field} {i : Nat} (h : i + 1 < k.length) (j : Nat) : Up k (E i) j = E (i + 1) j := by
  unfold Up E
  by_cases c : j < k.length
  · rw [if_pos c, if_neg (show ¬ k.length - 1 = i by omega)]
    by_cases d : j = 0
    · rw [if_pos d, if_neg (by omega)]; simp
    · rw [if_neg d]
      by_cases e : j - 1 = i
      · rw [if_pos e, if_pos (by omega)]; simp
      · rw [if_neg e, if_neg (by omega)]; simp
  · rw [if_neg c, if_neg (by omega)]
theorem Tm_E {k : Field} : ∀ (a : Vec) (i : Nat), i + a.length ≤ k.length → ∀ j, Tm k a (E i) j = if j < i then 0 else F a (j - i)
  | [], i, _, j => by show (0 : Int) = _; split <;> rfl
  | c :: a, i, h, j => by
    show c * E i j + Tm k a (Up k (E i)) j = _
    cases a with
    | nil =>
      show c * E i j + 0 = _
      unfold E
      by_cases d : j < i
      · rw [if_pos d, if_neg (by omega)]; simp
      · rw [if_neg d]
        by_cases e : j = i
        · rw [if_pos e, e, Nat.sub_self]; show c * 1 + 0 = c; omega
        · rw [if_neg e]
          obtain ⟨t, ht⟩ : ∃ t, j - i = t + 1 := ⟨j - i - 1, by omega⟩
          rw [ht]; show c * 0 + 0 = 0; simp
    | cons d a =>
      rw [Tm_cg _ (Up_E (by simp at h; omega)) j, Tm_E (d :: a) (i + 1) (by simp at h ⊢; omega) j]
      unfold E
      by_cases e : j < i
      · rw [if_neg (by omega), if_pos (by omega), if_pos e]; simp
      · rw [if_neg e]
        by_cases g : j = i
        · rw [if_pos g, if_pos (by omega), g, Nat.sub_self]; show c * 1 + 0 = c; omega
        · rw [if_neg g, if_neg (by omega)]
          obtain ⟨t, ht⟩ : ∃ t, j - i = t + 1 := ⟨j - i - 1, by omega⟩
          have : j - (i + 1) = t := by omega
          rw [ht, this, F_succ]; simp
theorem Tm_one {k : Field} {a : Vec} (h : a.length ≤ k.length) (j : Nat) : Tm k a (E 0) j = F a j := by
  rw [Tm_E a 0 (by omega) j]; simp
theorem times_comm {k : Field} {a b : Vec} (ha : a.length = k.length) (hb : b.length = k.length) (h0 : 0 < k.length) : Nf02.times k a b = Nf02.times k b a := by
  refine F_ext (by rw [len_times hb h0, len_times ha h0]) fun j _ => ?_
  rw [F_times hb h0, F_times ha h0, Tm_cg a (fun j => (Tm_one (k := k) (a := b) (by omega) j).symm) j, Tm_comm, Tm_cg b (fun j => Tm_one (k := k) (a := a) (by omega) j) j]
/-- by the root, so often -/
def UpN (k : Field) : Nat → Fn → Fn
  | 0, v => v
  | i + 1, v => Up k (UpN k i v)
theorem UpN_succ (k : Field) : ∀ (i : Nat) (v : Fn), UpN k (i + 1) v = UpN k i (Up k v)
  | 0, v => rfl
  | i + 1, v => by
    show Up k (UpN k (i + 1) v) = Up k (UpN k i (Up k v))
    rw [UpN_succ k i v]
theorem Tm_snoc (k : Field) (c : Int) : ∀ (a : Vec) (v : Fn) (j : Nat), Tm k (a ++ [c]) v j = Tm k a v j + c * UpN k a.length v j
  | [], v, j => by show c * v j + 0 = 0 + c * v j; omega
  | x :: a, v, j => by
    show x * v j + Tm k (a ++ [c]) (Up k v) j = x * v j + Tm k a (Up k v) j + c * UpN k (a.length + 1) v j
    rw [Tm_snoc k c a, UpN_succ]; omega
theorem UpN_E {k : Field} : ∀ (i : Nat), i < k.length → ∀ j, UpN k i (E 0) j = E i j
  | 0, _, j => rfl
  | i + 1, h, j => by
    show Up k (UpN k i (E 0)) j = _
    rw [Up_cg (UpN_E i (by omega)) j, Up_E h]
/-- the polynomial brings all to nothing -/
theorem whole_zero {k : Field} (h0 : 0 < k.length) {v : Fn} (hv : Upto k.length v) (j : Nat) : Tm k (k ++ [1]) v j = 0 := by
  have one : ∀ j, Tm k (k ++ [1]) (E 0) j = 0 := fun j => by
    rw [Tm_snoc, Tm_one (Nat.le_refl _)]
    obtain ⟨n, hn⟩ : ∃ n, k.length = n + 1 := ⟨k.length - 1, by omega⟩
    rw [hn]
    show F k j + 1 * Up k (UpN k n (E 0)) j = 0
    rw [Up_cg (UpN_E n (by omega)) j]
    unfold Up E
    rw [hn]
    by_cases c : j < n + 1
    · rw [if_pos c]
      by_cases d : j = 0
      · rw [if_pos d, if_pos (show n + 1 - 1 = n by omega)]; omega
      · rw [if_neg d, if_pos (show n + 1 - 1 = n by omega), if_neg (by omega)]; omega
    · rw [if_neg c, F_out (by omega)]; omega
  have hl : ((List.range k.length).map v).length = k.length := by simp
  have e : ∀ j, v j = Tm k ((List.range k.length).map v) (E 0) j := fun j => by
    rw [Tm_one (by omega)]
    unfold F
    rw [List.getD_eq_getElem?_getD, List.getElem?_map]
    by_cases c : j < k.length
    · rw [List.getElem?_range c]; rfl
    · rw [List.getElem?_eq_none (by simp; omega)]
      exact hv j (by omega)
  rw [Tm_cg _ e j, Tm_comm, Tm_cg _ one j, Tm_zero]
def Closed (k : Field) (L : Fn → Prop) : Prop := ∀ v, L v → L (Up k v)
theorem Closed.upN {k : Field} {L : Fn → Prop} (h : Closed k L) : ∀ (i : Nat) {v : Fn}, L v → L (UpN k i v)
  | 0, v, hv => hv
  | i + 1, v, hv => h _ (Closed.upN h i hv)
theorem Closed.tm {k : Field} {L : Fn → Prop} (hL : Lat L) (h : Closed k L) : ∀ (a : Vec) {v : Fn}, L v → L (Tm k a v)
  | [], v, _ => hL.zero
  | c :: a, v, hv => hL.add _ _ (hL.smul c _ hv) (Closed.tm hL h a (h _ hv))
/-- all that are sums of some closed under Up when their generators are -/
theorem closed_of {k : Field} {l : List Vec} (h : ∀ x ∈ l, SpL l (Up k (F x))) : Closed k (SpL l) := fun v hv => by
  have hl : Lat (fun v => SpL l (Up k v)) := ⟨Lat.cg (SpL.lat l).zero fun j => (Up_zero k j).symm, fun u v hu hv => Lat.cg ((SpL.lat l).add _ _ hu hv) fun j => (Up_add k u v j).symm,
    fun c u hu => Lat.cg ((SpL.lat l).smul c _ hu) fun j => (Up_smul k c u j).symm⟩
  exact SpL.le hl h hv
theorem tm_lat {k : Field} {L : Fn → Prop} (hL : Lat L) (a : Vec) : Lat (fun v => L (Tm k a v)) :=
  ⟨Lat.cg hL.zero fun j => (Tm_zero k a j).symm, fun u v hu hv => Lat.cg (hL.add _ _ hu hv) fun j => (Tm_add k a u v j).symm, fun c u hu => Lat.cg (hL.smul c _ hu) fun j => (Tm_smul k a c u j).symm⟩
/-! ### spread -/
def it (k : Field) (i : Nat) (a : Vec) : Vec := (List.range i).foldl (fun b _ => up k b) a
theorem it_succ (k : Field) (i : Nat) (a : Vec) : it k (i + 1) a = up k (it k i a) := by
  unfold it
  rw [List.range_succ, List.foldl_append]; rfl
theorem spread_eq (k : Field) (a : Vec) : Nf02.spread k a = (List.range k.length).map fun i => it k i a := rfl
theorem len_it {k : Field} {a : Vec} (ha : a.length = k.length) (h0 : 0 < k.length) : ∀ i, (it k i a).length = k.length
  | 0 => ha
  | i + 1 => by rw [it_succ]; exact len_up (len_it ha h0 i) h0
theorem F_it {k : Field} {a : Vec} (ha : a.length = k.length) (h0 : 0 < k.length) : ∀ (i j : Nat), F (it k i a) j = UpN k i (F a) j
  | 0, j => rfl
  | i + 1, j => by
    rw [it_succ, F_up (len_it ha h0 i) h0]
    exact Up_cg (F_it ha h0 i) j
theorem mem_spread {k : Field} {a x : Vec} : x ∈ Nf02.spread k a ↔ ∃ i, i < k.length ∧ x = it k i a := by
  rw [spread_eq, List.mem_map]
  constructor
  · rintro ⟨i, hi, rfl⟩; exact ⟨i, List.mem_range.mp hi, rfl⟩
  · rintro ⟨i, hi, rfl⟩; exact ⟨i, List.mem_range.mpr hi, rfl⟩
/-- the sums of a number's products with powers of the root are closed -/
theorem tm_spread {k : Field} {L : Fn → Prop} (hL : Lat L) : ∀ (a : Vec) (v : Fn), (∀ i, i < a.length → L (UpN k i v)) → L (Tm k a v)
  | [], v, _ => hL.zero
  | c :: a, v, h => hL.add _ _ (hL.smul c _ (h 0 (by simp))) (tm_spread hL a (Up k v) fun i hi => by
      rw [← UpN_succ]; exact h (i + 1) (by simpa using hi))
theorem closed_spread {k : Field} {vs : List Vec} (hv : Lens k.length vs) (h0 : 0 < k.length) : Closed k (SpL (vs.flatMap (Nf02.spread k))) := by
  refine closed_of fun x hx => ?_
  obtain ⟨a, ha, hx⟩ := List.mem_flatMap.mp hx
  obtain ⟨i, hi, rfl⟩ := mem_spread.mp hx
  have la := hv a ha
  have gen : ∀ i, i < k.length → SpL (vs.flatMap (Nf02.spread k)) (UpN k i (F a)) := fun i hi =>
    Lat.cg (SpL.mem (List.mem_flatMap.mpr ⟨a, ha, mem_spread.mpr ⟨i, hi, rfl⟩⟩)) (F_it la h0 i)
  have e : ∀ j, Up k (F (it k i a)) j = UpN k (i + 1) (F a) j := fun j => Up_cg (F_it la h0 i) j
  refine Lat.cg ?_ fun j => (e j).symm
  rcases Nat.lt_or_eq_of_le (show i + 1 ≤ k.length from hi) with q | q
  · exact gen _ q
  · have ua : Upto k.length (F a) := fun j hj => F_out (by omega)
    have t := tm_spread (SpL.lat (vs.flatMap (Nf02.spread k))) k (F a) gen
    refine Lat.cg ((SpL.lat _).smul (-1) _ t) fun j => ?_
    have z := whole_zero h0 ua j
    rw [Tm_snoc, ← q] at z
    omega
end Idl
set_option linter.all false
/-! Ideals by their rows; sums, products, what is in common, one by another. -/
namespace Idl
open Nf02 (Vec Field up)
theorem R_at {a : List Vec} {i : Nat} (h : i < a.length) : R a i = F a[i] := by
  unfold R
  rw [List.getD_eq_getElem?_getD, List.getElem?_eq_getElem h]; rfl
theorem SpL.row {a : List Vec} {i : Nat} (h : i < a.length) : SpL a (R a i) := by
  rw [R_at h]; exact SpL.mem (List.getElem_mem h)
theorem mem_row {a : List Vec} {x : Vec} (h : x ∈ a) : ∃ i, i < a.length ∧ R a i = F x := by
  obtain ⟨i, hi, e⟩ := List.getElem_of_mem h
  exact ⟨i, hi, by rw [R_at hi, e]⟩
theorem tri_span {n : Nat} {L : Fn → Prop} {a : List Vec} (hL : Lat L) (ha : a.length = n) (h : Tri n L (R a)) : ∀ (m : Nat) (v : Fn), m ≤ n → L v → Upto m v → SpL a v
  | 0, v, _, _, hu => Lat.cg (SpL.lat a).zero fun j => (hu j (Nat.zero_le _)).symm
  | m + 1, v, hm, hv, hu => by
    obtain ⟨c, hc⟩ := h.dvd m (by omega) v hv hu
    have ih := tri_span hL ha h m (fun j => v j - c * R a m j) (by omega) (hL.lin c hv (h.mem m (by omega))) fun j hj => by
      show v j - c * R a m j = 0
      rcases Nat.lt_or_eq_of_le hj with q | q
      · rw [hu j q, h.upto m (by omega) j q]; simp
      · rw [← q, hc, Int.mul_comm]; omega
    exact Lat.cg ((SpL.lat a).add _ _ ih ((SpL.lat a).smul c _ (SpL.row (i := m) (by omega)))) fun j => by omega
theorem RowsOk.span {n N : Nat} {L : Fn → Prop} {a : List Vec} (h : RowsOk n N L a) (hL : Lat L) (hu : ∀ v, L v → Upto n v) (v : Fn) : L v ↔ SpL a v :=
  ⟨fun hv => tri_span hL h.len h.hnf.toTri n v (Nat.le_refl _) hv (hu v hv), fun hv => SpL.le_of_rows hL h.len h.hnf.mem hv⟩
theorem Tri.full {n : Nat} {L : Fn → Prop} {r : Nat → Fn} (h : Tri n L r) : Full n L := fun j hj => ⟨r j, h.mem j hj, by have := h.pos j hj; omega, h.upto j hj⟩
theorem scaled {n : Nat} {L : Fn → Prop} {r : Nat → Fn} (hL : Lat L) (h : Tri n L r) : ∀ (m : Nat) (v : Fn), m ≤ n → Upto m v → ∃ c : Int, 0 < c ∧ L (fun j => c * v j)
  | 0, v, _, hu => ⟨1, by decide, Lat.cg hL.zero fun j => by rw [hu j (Nat.zero_le _)]; rfl⟩
  | m + 1, v, hm, hu => by
    obtain ⟨c, hc, hl⟩ := scaled hL h m (fun j => r m m * v j - v m * r m j) (by omega) fun j hj => by
      show r m m * v j - v m * r m j = 0
      rcases Nat.lt_or_eq_of_le hj with q | q
      · rw [hu j q, h.upto m (by omega) j q]; simp
      · rw [← q, Int.mul_comm]; omega
    refine ⟨c * r m m, Int.mul_pos hc (h.pos m (by omega)), Lat.cg (hL.add _ _ hl (hL.smul (c * v m) _ (h.mem m (by omega)))) fun j => ?_⟩
    grind
/-- an ideal: its rows, the one form of their sums, which the root takes into themselves -/
structure Ideal (k : Field) (a : List Vec) : Prop where
  rows : RowsOk k.length k.length (SpL a) a
  closed : Closed k (SpL a)
theorem Ideal.upto {k : Field} {a : List Vec} (h : Ideal k a) {v : Fn} (hv : SpL a v) : Upto k.length v :=
  SpL.upto (fun x hx j hj => F_out (by rw [h.rows.lens x hx]; exact hj)) hv
theorem Ideal.of {k : Field} {L : Fn → Prop} {a : List Vec} (hL : Lat L) (hu : ∀ v, L v → Upto k.length v) (hc : Closed k L) (h : RowsOk k.length k.length L a) : Ideal k a ∧ ∀ v, SpL a v ↔ L v := by
  have e := h.span hL hu
  refine ⟨⟨h.congr e, fun v hv => (e _).mp (hc v ((e v).mpr hv))⟩, fun v => (e v).symm⟩
theorem lens_upto {n : Nat} {l : List Vec} (h : Lens n l) {v : Fn} (hv : SpL l v) : Upto n v := SpL.upto (fun x hx j hj => F_out (by rw [h x hx]; exact hj)) hv
/-! ### sums -/
theorem lens_append {n : Nat} {a b : List Vec} (ha : Lens n a) (hb : Lens n b) : Lens n (a ++ b) := fun x hx => by
  rcases List.mem_append.mp hx with h | h
  · exact ha x h
  · exact hb x h
theorem bd_append {n : Nat} {a b : List Vec} (ha : Bd n a) (hb : Bd n b) : Bd n (a ++ b) := fun x hx => by
  rcases List.mem_append.mp hx with h | h
  · exact ha x h
  · exact hb x h
theorem SpL.left {a b : List Vec} {v : Fn} (h : SpL a v) : SpL (a ++ b) v := SpL.le (SpL.lat _) (fun x hx => SpL.mem (List.mem_append.mpr (.inl hx))) h
theorem SpL.right {a b : List Vec} {v : Fn} (h : SpL b v) : SpL (a ++ b) v := SpL.le (SpL.lat _) (fun x hx => SpL.mem (List.mem_append.mpr (.inr hx))) h
theorem closed_append {k : Field} {a b : List Vec} (ha : Closed k (SpL a)) (hb : Closed k (SpL b)) : Closed k (SpL (a ++ b)) := closed_of fun x hx => by
  rcases List.mem_append.mp hx with h | h
  · exact (ha _ (SpL.mem h)).left
  · exact (hb _ (SpL.mem h)).right
/-! ### products -/
def prods (k : Field) (a b : List Vec) : List Vec := a.flatMap fun x => b.map fun y => Nf02.times k x y
theorem mem_prods {k : Field} {a b : List Vec} {z : Vec} : z ∈ prods k a b ↔ ∃ x ∈ a, ∃ y ∈ b, z = Nf02.times k x y := by
  unfold prods
  simp only [List.mem_flatMap, List.mem_map]
  constructor
  · rintro ⟨x, hx, y, hy, e⟩; exact ⟨x, hx, y, hy, e.symm⟩
  · rintro ⟨x, hx, y, hy, e⟩; exact ⟨x, hx, y, hy, e.symm⟩
theorem lens_prods {k : Field} {a b : List Vec} (h0 : 0 < k.length) (hb : Lens k.length b) : Lens k.length (prods k a b) := fun z hz => by
  obtain ⟨x, hx, y, hy, rfl⟩ := mem_prods.mp hz
  exact len_times (hb y hy) h0 x
theorem closed_prods {k : Field} {a b : List Vec} (h0 : 0 < k.length) (hb : Lens k.length b) (cb : Closed k (SpL b)) : Closed k (SpL (prods k a b)) := closed_of fun z hz => by
  obtain ⟨x, hx, y, hy, rfl⟩ := mem_prods.mp hz
  have gen : ∀ v, SpL b v → SpL (prods k a b) (Tm k x v) := fun v hv => SpL.le (tm_lat (SpL.lat _) x) (fun y hy => Lat.cg (SpL.mem (mem_prods.mpr ⟨x, hx, y, hy, rfl⟩)) (F_times (hb y hy) h0 x)) hv
  refine Lat.cg (gen _ (cb _ (SpL.mem hy))) fun j => ?_
  rw [Up_cg (F_times (hb y hy) h0 x) j, Tm_Up]
theorem full_prods {k : Field} {a b : List Vec} (h0 : 0 < k.length) (ha : Ideal k a) (hb : Ideal k b) : Full k.length (SpL (prods k a b)) := fun j hj => by
  have la : 0 < a.length := by rw [ha.rows.len]; exact h0
  have lb : j < b.length := by rw [hb.rows.len]; exact hj
  have e0 : R a 0 = F a[0] := R_at la
  have ej : R b j = F b[j] := R_at lb
  have u0 := ha.rows.hnf.upto 0 h0
  have p0 := ha.rows.hnf.pos 0 h0
  have uj := hb.rows.hnf.upto j hj
  have pj := hb.rows.hnf.pos j hj
  rw [e0] at u0 p0
  rw [ej] at uj pj
  have la0 := ha.rows.lens _ (List.getElem_mem la)
  have lbj := hb.rows.lens _ (List.getElem_mem lb)
  have val : ∀ t, F (Nf02.times k a[0] b[j]) t = F a[0] 0 * F b[j] t := fun t => by
    rw [times_comm la0 lbj h0, F_times la0 h0]
    have e1 : ∀ t, F a[0] t = F a[0] 0 * E 0 t := fun t => by
      unfold E
      by_cases c : t = 0
      · rw [if_pos c, c]; omega
      · rw [if_neg c, u0 t (by omega)]; simp
    rw [Tm_cg _ e1 t, Tm_smul, Tm_one (by omega)]
  refine ⟨_, SpL.mem (mem_prods.mpr ⟨_, List.getElem_mem la, _, List.getElem_mem lb, rfl⟩), ?_, fun t ht => ?_⟩
  · rw [val]; have := Int.mul_pos p0 pj; omega
  · rw [val, uj t ht]; simp
/-! ### pairs -/
theorem F_cat {n : Nat} : ∀ {x y : Vec}, x.length = n → ∀ j, F (x ++ y) j = if j < n then F x j else F y (j - n) := fun {x y} h j => by
  unfold F
  rw [List.getD_eq_getElem?_getD, List.getElem?_append, h]
  by_cases c : j < n
  · rw [if_pos c, if_pos c, List.getD_eq_getElem?_getD]
  · rw [if_neg c, if_neg c, List.getD_eq_getElem?_getD]
theorem F_zeros (n j : Nat) : F (List.replicate n (0 : Int)) j = 0 := by
  unfold F
  rw [List.getD_eq_getElem?_getD, List.getElem?_replicate]
  split <;> rfl
structure Lin (f : Fn → Fn) : Prop where
  zero : ∀ j, f (fun _ => 0) j = 0
  add : ∀ u v j, f (fun i => u i + v i) j = f u j + f v j
  smul : ∀ c u j, f (fun i => c * u i) j = c * f u j
theorem Lin.cg (f : Fn → Fn) {u v : Fn} (e : ∀ j, u j = v j) (j : Nat) : f u j = f v j := by
  have : u = v := funext e
  rw [this]
theorem Lin.id : Lin (fun v => v) := ⟨fun _ => rfl, fun _ _ _ => rfl, fun _ _ _ => rfl⟩
theorem Lin.tm (k : Field) (a : Vec) : Lin (Tm k a) := ⟨Tm_zero k a, Tm_add k a, Tm_smul k a⟩
theorem Lin.lat {f : Fn → Fn} (hf : Lin f) {L : Fn → Prop} (hL : Lat L) : Lat (fun v => L (f v)) :=
  ⟨Lat.cg hL.zero fun j => (hf.zero j).symm, fun u v hu hv => Lat.cg (hL.add _ _ hu hv) fun j => (hf.add u v j).symm, fun c u hu => Lat.cg (hL.smul c _ hu) fun j => (hf.smul c u j).symm⟩
def mappedL (n : Nat) (g : Vec → Vec) (src t : List Vec) : List Vec := src.map (fun s => s ++ g s) ++ t.map fun y => List.replicate n 0 ++ y
def lo (n : Nat) (v : Fn) : Fn := fun j => if j < n then v j else 0
def hi (n : Nat) (v : Fn) : Fn := fun j => v (j + n)
theorem Lin.lo (n : Nat) : Lin (lo n) := ⟨fun j => by unfold Idl.lo; split <;> rfl, fun u v j => by unfold Idl.lo; split <;> simp, fun c u j => by unfold Idl.lo; split <;> simp⟩
theorem Lin.hi (n : Nat) : Lin (hi n) := ⟨fun _ => rfl, fun _ _ _ => rfl, fun _ _ _ => rfl⟩
structure Maps (n : Nat) (g : Vec → Vec) (f : Fn → Fn) (src t : List Vec) : Prop where
  lin : Lin f
  up : ∀ v, Upto n v → Upto n (f v)
  ls : Lens n src
  lt : Lens n t
  lg : ∀ s ∈ src, (g s).length = n
  is : ∀ s ∈ src, ∀ j, F (g s) j = f (F s) j
section
variable {n : Nat} {g : Vec → Vec} {f : Fn → Fn} {src t : List Vec}
theorem mem_mapped {z : Vec} : z ∈ mappedL n g src t ↔ (∃ s ∈ src, z = s ++ g s) ∨ ∃ y ∈ t, z = List.replicate n 0 ++ y := by
  unfold mappedL
  rw [List.mem_append, List.mem_map, List.mem_map]
  constructor
  · rintro (⟨s, h, e⟩ | ⟨s, h, e⟩)
    · exact .inl ⟨s, h, e.symm⟩
    · exact .inr ⟨s, h, e.symm⟩
  · rintro (⟨s, h, e⟩ | ⟨s, h, e⟩)
    · exact .inl ⟨s, h, e.symm⟩
    · exact .inr ⟨s, h, e.symm⟩
theorem lens_mapped (M : Maps n g f src t) : Lens (2 * n) (mappedL n g src t) := fun z hz => by
  rcases mem_mapped.mp hz with ⟨s, hs, rfl⟩ | ⟨y, hy, rfl⟩
  · rw [List.length_append, M.ls s hs, M.lg s hs]; omega
  · rw [List.length_append, List.length_replicate, M.lt y hy]; omega
theorem many_mapped (hs : src.length = n) (ht : t.length = n) : (mappedL n g src t).length = 2 * n := by
  unfold mappedL
  rw [List.length_append, List.length_map, List.length_map]; omega
theorem bd_mapped {B : Nat} (M : Maps n g f src t) (bs : Bd B src) (bg : ∀ s ∈ src, ∀ j, (F (g s) j).natAbs ≤ B) (bt : Bd B t) : Bd B (mappedL n g src t) := fun z hz j => by
  rcases mem_mapped.mp hz with ⟨s, hs, rfl⟩ | ⟨y, hy, rfl⟩
  · rw [F_cat (M.ls s hs)]
    split
    · exact bs s hs j
    · exact bg s hs _
  · rw [F_cat (List.length_replicate ..)]
    split
    · rw [F_zeros]; simp
    · exact bt y hy _
/-- of the pairs' sums those with nothing behind: what comes of the sources and whose image is in the target -/
def MapL (n : Nat) (f : Fn → Fn) (src t : List Vec) : Fn → Prop := fun v => Upto n v ∧ SpL src v ∧ SpL t (f v)
theorem MapL.lat (hf : Lin f) : Lat (MapL n f src t) := by
  have h := (Upto.lat n).and ((SpL.lat src).and (hf.lat (SpL.lat t)))
  exact h
theorem behind_lat (hf : Lin f) : Lat (fun v : Fn => SpL src (lo n v) ∧ SpL t (fun j => hi n v j - f (lo n v) j)) := by
  have h1 := (Lin.lo n).lat (SpL.lat src)
  have h2 : Lin (fun v => fun j => hi n v j - f (lo n v) j) := ⟨fun j => by
      show 0 - f (lo n fun _ => 0) j = 0
      rw [Lin.cg f (Lin.lo n).zero j, hf.zero]; rfl, fun u v j => by
      show (u (j + n) + v (j + n)) - f (lo n fun i => u i + v i) j = (u (j + n) - f (lo n u) j) + (v (j + n) - f (lo n v) j)
      rw [Lin.cg f ((Lin.lo n).add u v) j, hf.add]; omega, fun c u j => by
      show c * u (j + n) - f (lo n fun i => c * u i) j = c * (u (j + n) - f (lo n u) j)
      rw [Lin.cg f ((Lin.lo n).smul c u) j, hf.smul]; grind⟩
  exact h1.and (h2.lat (SpL.lat t))
theorem lo_of {v : Fn} (h : Upto n v) (j : Nat) : lo n v j = v j := by
  unfold lo
  split <;> rename_i c
  · rfl
  · exact (h j (by omega)).symm
theorem cut_iff (M : Maps n g f src t) (v : Fn) : Cut n (mappedL n g src t) v ↔ MapL n f src t v := by
  constructor
  · rintro ⟨hv, hu⟩
    obtain ⟨h1, h2⟩ := SpL.le (behind_lat (n := n) M.lin) (fun z hz => by
      rcases mem_mapped.mp hz with ⟨s, hs, rfl⟩ | ⟨y, hy, rfl⟩
      · have us : Upto n (F s) := fun j hj => F_out (by rw [M.ls s hs]; exact hj)
        have e : ∀ j, lo n (F (s ++ g s)) j = F s j := fun j => by
          unfold lo
          split <;> rename_i c
          · rw [F_cat (M.ls s hs), if_pos c]
          · exact (us j (by omega)).symm
        refine ⟨Lat.cg (SpL.mem hs) fun j => (e j).symm, Lat.cg (SpL.lat t).zero fun j => ?_⟩
        rw [Lin.cg f e j, ← M.is s hs]
        show 0 = F (s ++ g s) (j + n) - _
        rw [F_cat (M.ls s hs), if_neg (by omega), Nat.add_sub_cancel]; omega
      · have e : ∀ j, lo n (F (List.replicate n 0 ++ y)) j = 0 := fun j => by
          unfold lo
          split <;> rename_i c
          · rw [F_cat (List.length_replicate ..), if_pos c, F_zeros]
          · rfl
        refine ⟨Lat.cg (SpL.lat src).zero fun j => (e j).symm, Lat.cg (SpL.mem hy) fun j => ?_⟩
        rw [Lin.cg f e j, M.lin.zero]
        show _ = F (List.replicate n 0 ++ y) (j + n) - 0
        rw [F_cat (List.length_replicate ..), if_neg (by omega), Nat.add_sub_cancel]; omega) hv
    have e := lo_of hu
    refine ⟨hu, Lat.cg h1 e, Lat.cg ((SpL.lat t).smul (-1) _ h2) fun j => ?_⟩
    rw [Lin.cg f e j]
    have : hi n v j = 0 := hu (j + n) (by omega)
    omega
  · rintro ⟨hu, h1, h2⟩
    refine ⟨?_, hu⟩
    have put : ∀ w, SpL t w → SpL (mappedL n g src t) (fun j => if j < n then 0 else w (j - n)) := fun w hw => by
      have hl : Lat (fun w : Fn => SpL (mappedL n g src t) (fun j => if j < n then 0 else w (j - n))) :=
        ⟨Lat.cg (SpL.lat _).zero fun j => by split <;> rfl, fun u v hu hv => Lat.cg ((SpL.lat _).add _ _ hu hv) fun j => by split <;> simp, fun c u hu => Lat.cg ((SpL.lat _).smul c _ hu) fun j => by split <;> simp⟩
      exact SpL.le hl (fun y hy => Lat.cg (SpL.mem (mem_mapped.mpr (.inr ⟨y, hy, rfl⟩))) fun j => by rw [F_cat (List.length_replicate ..), F_zeros]) hw
    have lift : ∀ v, SpL src v → SpL (mappedL n g src t) (fun j => if j < n then v j else f v (j - n)) := fun v hv => by
      have hl : Lat (fun v : Fn => SpL (mappedL n g src t) (fun j => if j < n then v j else f v (j - n))) :=
        ⟨Lat.cg (SpL.lat _).zero fun j => by split; rfl; exact (M.lin.zero _).symm, fun u v hu hv => Lat.cg ((SpL.lat _).add _ _ hu hv) fun j => by split; rfl; exact (M.lin.add u v _).symm,
          fun c u hu => Lat.cg ((SpL.lat _).smul c _ hu) fun j => by split; rfl; exact (M.lin.smul c u _).symm⟩
      exact SpL.le hl (fun s hs => Lat.cg (SpL.mem (mem_mapped.mpr (.inl ⟨s, hs, rfl⟩))) fun j => by rw [F_cat (M.ls s hs), M.is s hs]) hv
    refine Lat.cg ((SpL.lat _).sub (lift v h1) (put _ h2)) fun j => ?_
    show (if j < n then v j else f v (j - n)) - (if j < n then 0 else f v (j - n)) = v j
    split <;> rename_i c
    · omega
    · rw [hu j (by omega)]; omega
theorem put_row (M : Maps n g f src t) {w : Fn} (hw : SpL t w) : SpL (mappedL n g src t) (fun j => if j < n then 0 else w (j - n)) := by
  have hl : Lat (fun w : Fn => SpL (mappedL n g src t) (fun j => if j < n then 0 else w (j - n))) :=
    ⟨Lat.cg (SpL.lat _).zero fun j => by split <;> rfl, fun u v hu hv => Lat.cg ((SpL.lat _).add _ _ hu hv) fun j => by split <;> simp, fun c u hu => Lat.cg ((SpL.lat _).smul c _ hu) fun j => by split <;> simp⟩
  exact SpL.le hl (fun y hy => Lat.cg (SpL.mem (mem_mapped.mpr (.inr ⟨y, hy, rfl⟩))) fun j => by rw [F_cat (List.length_replicate ..), F_zeros]) hw
theorem full_mapped (M : Maps n g f src t) (fs : Full n (SpL src)) (ht : RowsOk n n (SpL t) t) : Full (2 * n) (SpL (mappedL n g src t)) := fun j hj => by
  by_cases c : j < n
  · obtain ⟨v, a1, a2, a3⟩ := fs j c
    have uv : Upto n v := Upto.mono (show j + 1 ≤ n by omega) a3
    obtain ⟨d, hd, hl⟩ := scaled (SpL.lat t) ht.hnf.toTri n (f v) (Nat.le_refl _) (M.up v uv)
    have k : MapL n f src t (fun i => d * v i) := ⟨fun i hi => by show d * v i = 0; rw [uv i hi]; simp, (SpL.lat src).smul d _ a1, Lat.cg hl fun i => (M.lin.smul d v i).symm⟩
    refine ⟨_, ((cut_iff M _).mpr k).1, ?_, fun i hi => by show d * v i = 0; rw [a3 i hi]; simp⟩
    intro z
    rcases Int.mul_eq_zero.mp z with q | q
    · omega
    · exact a2 q
  · obtain ⟨i, rfl⟩ : ∃ i, j = n + i := ⟨j - n, by omega⟩
    have hi : i < n := by omega
    refine ⟨_, put_row M (ht.hnf.mem i hi), ?_, fun m hm => ?_⟩
    · show (if n + i < n then 0 else R t i (n + i - n)) ≠ 0
      rw [if_neg (by omega), Nat.add_sub_cancel_left]
      have := ht.hnf.pos i hi
      omega
    · show (if m < n then 0 else R t i (m - n)) = 0
      rw [if_neg (by omega)]
      exact ht.hnf.upto i hi _ (by omega)
/-- **the specification's way** -/
theorem mapped_spec {b : Nat} (M : Maps n g f src t) (hs : src.length = n) (fs : Full n (SpL src)) (ht : RowsOk n n (SpL t) t) (bt : ∀ i, i < n → (R t i i).natAbs ≤ 2 ^ 40)
    (hb : Bd (2 ^ b) (mappedL n g src t)) (hc : capB n (2 * n) b) : RowsOk n n (MapL n f src t) (Nf02.firsts n (mappedL n g src t)) := by
  refine (firsts_ok ⟨lens_mapped M, many_mapped hs ht.len, ⟨b, hb, hc⟩, fun j hj => ?_⟩ (full_mapped M fs ht)).congr (cut_iff M)
  have hj' : j < n := by omega
  have hl : j < t.length := by rw [ht.len]; exact hj'
  have e : ∀ m, F (List.replicate n 0 ++ t[j]) m = if m < n then 0 else R t j (m - n) := fun m => by
    rw [F_cat (List.length_replicate ..), F_zeros, R_at hl]
  refine ⟨_, mem_mapped.mpr (.inr ⟨t[j], List.getElem_mem hl, rfl⟩), ?_, ?_, fun m hm => ?_⟩
  · rw [e, if_neg (by omega), Nat.add_sub_cancel_left]
    have := ht.hnf.pos j hj'
    omega
  · rw [e, if_neg (by omega), Nat.add_sub_cancel_left]; exact bt j hj'
  · rw [e, if_neg (by omega)]; exact ht.hnf.upto j hj' _ (by omega)
/-- **the program's way** -/
theorem mapped_prog {b : Nat} (M : Maps n g f src t) (hs : src.length = n) (fs : Full n (SpL src)) (ht : RowsOk n n (SpL t) t)
    (hb : Bd (2 ^ b) (mappedL n g src t)) (hc : capP (2 * n) (2 * n) b) : RowsOk n n (MapL n f src t) (halves n (rowsOf (mappedL n g src t) (2 * n))) :=
  (halves_ok (rowsOf_ok ⟨lens_mapped M, b, hb, by rw [many_mapped hs ht.len]; exact hc⟩ (full_mapped M fs ht))).congr (cut_iff M)
end
end Idl
set_option linter.all false
/-! Polynomials that can't be parted: roots that are fractions are whole, factors that are fractions are whole, and what follows for ideals. -/
namespace Idl
open Nf02 (Vec Field up)
/-! ### primes -/
structure Prm (p : Nat) : Prop where
  two : 2 ≤ p
  only : ∀ d, d ∣ p → d = 1 ∨ d = p
theorem exists_prm : ∀ (b n : Nat), 2 ≤ n → n ≤ b → ∃ p, Prm p ∧ p ∣ n
  | 0, n, h, hb => by omega
  | b + 1, n, h, hb => by
    by_cases c : ∀ d, d ∣ n → d = 1 ∨ d = n
    · exact ⟨n, ⟨h, c⟩, Nat.dvd_refl n⟩
    · obtain ⟨d, hd⟩ : ∃ d, ¬ (d ∣ n → d = 1 ∨ d = n) := Classical.byContradiction fun no => c fun d => Classical.byContradiction fun z => no ⟨d, z⟩
      have hdn : d ∣ n := Classical.byContradiction fun z => hd fun q => absurd q z
      have h1 : d ≠ 1 := fun e => hd fun _ => .inl e
      have h2 : d ≠ n := fun e => hd fun _ => .inr e
      have h3 : d ≤ n := Nat.le_of_dvd (by omega) hdn
      have h4 : d ≠ 0 := fun e => by rw [e] at hdn; have := Nat.eq_zero_of_zero_dvd hdn; omega
      obtain ⟨p, hp, hpd⟩ := exists_prm b d (by omega) (by omega)
      exact ⟨p, hp, Nat.dvd_trans hpd hdn⟩
theorem prm_of {m : Int} (h : 2 ≤ m.natAbs) : ∃ p : Nat, Prm p ∧ (p : Int) ∣ m := by
  obtain ⟨p, hp, hd⟩ := exists_prm _ _ h (Nat.le_refl _)
  exact ⟨p, hp, Int.ofNat_dvd_left.mpr hd⟩
theorem Prm.mul {p : Nat} (h : Prm p) {x y : Int} (hd : (p : Int) ∣ x * y) : (p : Int) ∣ x ∨ (p : Int) ∣ y := by
  have hd' : p ∣ x.natAbs * y.natAbs := by rw [← Int.natAbs_mul]; exact Int.ofNat_dvd_left.mp hd
  rcases h.only _ (Nat.gcd_dvd_left p x.natAbs) with e | e
  · right
    exact Int.ofNat_dvd_left.mpr (Nat.Coprime.dvd_of_dvd_mul_left e hd')
  · left
    refine Int.ofNat_dvd_left.mpr ?_
    have := Nat.gcd_dvd_right p x.natAbs
    rwa [e] at this
theorem Prm.of_add {p : Nat} {x y : Int} (h : (p : Int) ∣ x + y) (hx : (p : Int) ∣ x) : (p : Int) ∣ y := by
  have := Int.dvd_sub h hx
  rwa [show x + y - x = y by omega] at this
theorem Prm.pos {p : Nat} (h : Prm p) : (p : Int) ≠ 0 := by have := h.two; omega
theorem Prm.less {p : Nat} (h : Prm p) {m t : Int} (e : m = p * t) (hm : m ≠ 0) : t ≠ 0 ∧ t.natAbs < m.natAbs := by
  have ht : t ≠ 0 := fun z => hm (by rw [e, z]; simp)
  refine ⟨ht, ?_⟩
  rw [e, Int.natAbs_mul, Int.natAbs_natCast]
  have := h.two
  have a : 2 * t.natAbs ≤ p * t.natAbs := Nat.mul_le_mul_right _ this
  omega
/-! ### a root that's a fraction is whole -/
theorem root2 {c0 c1 : Int} : ∀ (b : Nat) (w q : Int), q ≠ 0 → q.natAbs ≤ b → w * w + c1 * w * q + c0 * q * q = 0 → ∃ z : Int, z * z + c1 * z + c0 = 0
  | 0, w, q, h0, hb, _ => by omega
  | b + 1, w, q, h0, hb, h => by
    by_cases u : q.natAbs ≤ 1
    · have : q = 1 ∨ q = -1 := by omega
      rcases this with e | e
      · exact ⟨w, by rw [e] at h; grind⟩
      · exact ⟨-w, by rw [e] at h; grind⟩
    · obtain ⟨p, hp, t, ht⟩ := prm_of (m := q) (by omega)
      have d1 : (p : Int) ∣ w * w := ⟨-(c1 * w * t + c0 * t * q), by rw [ht] at h; rw [ht]; grind⟩
      have dw : (p : Int) ∣ w := by rcases hp.mul d1 with e | e <;> exact e
      obtain ⟨s, hs⟩ := dw
      have nz := hp.pos
      have ne := hp.less ht h0
      refine root2 b s t ne.1 (by omega) ?_
      have : (p : Int) * p * (s * s + c1 * s * t + c0 * t * t) = 0 := by rw [hs, ht] at h; grind
      rcases Int.mul_eq_zero.mp this with e | e
      · rcases Int.mul_eq_zero.mp e with e | e <;> exact absurd e nz
      · exact e
theorem root3 {c0 c1 c2 : Int} : ∀ (b : Nat) (w q : Int), q ≠ 0 → q.natAbs ≤ b → w * w * w + c2 * w * w * q + c1 * w * q * q + c0 * q * q * q = 0 → ∃ z : Int, z * z * z + c2 * z * z + c1 * z + c0 = 0
  | 0, w, q, h0, hb, _ => by omega
  | b + 1, w, q, h0, hb, h => by
    by_cases u : q.natAbs ≤ 1
    · have : q = 1 ∨ q = -1 := by omega
      rcases this with e | e
      · exact ⟨w, by rw [e] at h; grind⟩
      · exact ⟨-w, by rw [e] at h; grind⟩
    · obtain ⟨p, hp, t, ht⟩ := prm_of (m := q) (by omega)
      have d1 : (p : Int) ∣ w * w * w := ⟨-(c2 * w * w * t + c1 * w * t * q + c0 * t * q * q), by rw [ht] at h; rw [ht]; grind⟩
      have dw : (p : Int) ∣ w := by
        rcases hp.mul d1 with e | e
        · rcases hp.mul e with e | e <;> exact e
        · exact e
      obtain ⟨s, hs⟩ := dw
      have nz := hp.pos
      have ne := hp.less ht h0
      refine root3 b s t ne.1 (by omega) ?_
      have : (p : Int) * (p * p) * (s * s * s + c2 * s * s * t + c1 * s * t * t + c0 * t * t * t) = 0 := by rw [hs, ht] at h; grind
      rcases Int.mul_eq_zero.mp this with e | e
      · rcases Int.mul_eq_zero.mp e with e | e
        · exact absurd e nz
        · rcases Int.mul_eq_zero.mp e with e | e <;> exact absurd e nz
      · exact e
theorem root4 {c0 c1 c2 c3 : Int} : ∀ (b : Nat) (w q : Int), q ≠ 0 → q.natAbs ≤ b → w * w * w * w + c3 * w * w * w * q + c2 * w * w * q * q + c1 * w * q * q * q + c0 * q * q * q * q = 0 → ∃ z : Int, z * z * z * z + c3 * z * z * z + c2 * z * z + c1 * z + c0 = 0
  | 0, w, q, h0, hb, _ => by omega
  | b + 1, w, q, h0, hb, h => by
    by_cases u : q.natAbs ≤ 1
    · have : q = 1 ∨ q = -1 := by omega
      rcases this with e | e
      · exact ⟨w, by rw [e] at h; grind⟩
      · exact ⟨-w, by rw [e] at h; grind⟩
    · obtain ⟨p, hp, t, ht⟩ := prm_of (m := q) (by omega)
      have d1 : (p : Int) ∣ w * w * (w * w) := ⟨-(c3 * w * w * w * t + c2 * w * w * t * q + c1 * w * t * q * q + c0 * t * q * q * q), by rw [ht] at h; rw [ht]; grind⟩
      have dw : (p : Int) ∣ w := by
        rcases hp.mul d1 with e | e <;> (rcases hp.mul e with e | e <;> exact e)
      obtain ⟨s, hs⟩ := dw
      have nz := hp.pos
      have ne := hp.less ht h0
      refine root4 b s t ne.1 (by omega) ?_
      have : (p : Int) * p * (p * p) * (s * s * s * s + c3 * s * s * s * t + c2 * s * s * t * t + c1 * s * t * t * t + c0 * t * t * t * t) = 0 := by rw [hs, ht] at h; grind
      rcases Int.mul_eq_zero.mp this with e | e
      · rcases Int.mul_eq_zero.mp e with e | e <;> (rcases Int.mul_eq_zero.mp e with e | e <;> exact absurd e nz)
      · exact e
/-! ### two factors of degree 2 that are fractions can be whole -/
def Split4 (c0 c1 c2 c3 : Int) : Prop := ∃ a b e d : Int, a + e = c3 ∧ b + d + a * e = c2 ∧ a * d + b * e = c1 ∧ b * d = c0
theorem gauss {c0 c1 c2 c3 : Int} : ∀ (n : Nat) (m p0 p1 p2 q0 q1 q2 : Int), m ≠ 0 → m.natAbs ≤ n → m * c0 = p0 * q0 → m * c1 = p0 * q1 + p1 * q0 → m * c2 = p0 * q2 + p1 * q1 + p2 * q0 → m * c3 = p1 * q2 + p2 * q1 → m = p2 * q2 → Split4 c0 c1 c2 c3
  | 0, m, _, _, _, _, _, _, h0, hn, _, _, _, _, _ => by omega
  | n + 1, m, p0, p1, p2, q0, q1, q2, h0, hn, e0, e1, e2, e3, e4 => by
    by_cases u : m.natAbs ≤ 1
    · have um : m = 1 ∨ m = -1 := by omega
      have up : p2.natAbs = 1 := by
        have : p2.natAbs * q2.natAbs = 1 := by rw [← Int.natAbs_mul, ← e4]; omega
        exact Nat.eq_one_of_mul_eq_one_right this
      have up' : p2 = 1 ∨ p2 = -1 := by omega
      rcases um with em | em <;> rcases up' with ep | ep
      · exact ⟨p1, p0, q1, q0, by grind, by grind, by grind, by grind⟩
      · exact ⟨-p1, -p0, -q1, -q0, by grind, by grind, by grind, by grind⟩
      · exact ⟨p1, p0, -q1, -q0, by grind, by grind, by grind, by grind⟩
      · exact ⟨-p1, -p0, q1, q0, by grind, by grind, by grind, by grind⟩
    · obtain ⟨l, hl, t, ht⟩ := prm_of (m := m) (by omega)
      have nz := hl.pos
      have ne := hl.less ht h0
      have can : ∀ {x y : Int}, (l : Int) * x = l * y → x = y := fun {x y} h => Int.eq_of_mul_eq_mul_left nz h
      have D0 : (l : Int) ∣ p0 * q0 := ⟨t * c0, by rw [← e0, ht]; grind⟩
      have D1 : (l : Int) ∣ p0 * q1 + p1 * q0 := ⟨t * c1, by rw [← e1, ht]; grind⟩
      have D2 : (l : Int) ∣ p0 * q2 + p1 * q1 + p2 * q0 := ⟨t * c2, by rw [← e2, ht]; grind⟩
      have D3 : (l : Int) ∣ p1 * q2 + p2 * q1 := ⟨t * c3, by rw [← e3, ht]; grind⟩
      have D4 : (l : Int) ∣ p2 * q2 := ⟨t, by rw [← e4, ht]⟩
      have key : ((l : Int) ∣ p0 ∧ (l : Int) ∣ p1 ∧ (l : Int) ∣ p2) ∨ ((l : Int) ∣ q0 ∧ (l : Int) ∣ q1 ∧ (l : Int) ∣ q2) := by
        by_cases a0 : (l : Int) ∣ p0
        · have D1' : (l : Int) ∣ p1 * q0 := Prm.of_add D1 (Int.dvd_mul_of_dvd_left a0)
          have D2' : (l : Int) ∣ p1 * q1 + p2 * q0 := Prm.of_add (by rw [Int.add_assoc] at D2; exact D2) (Int.dvd_mul_of_dvd_left a0)
          by_cases a1 : (l : Int) ∣ p1
          · have D2'' : (l : Int) ∣ p2 * q0 := Prm.of_add D2' (Int.dvd_mul_of_dvd_left a1)
            have D3' : (l : Int) ∣ p2 * q1 := Prm.of_add D3 (Int.dvd_mul_of_dvd_left a1)
            by_cases a2 : (l : Int) ∣ p2
            · exact .inl ⟨a0, a1, a2⟩
            · exact .inr ⟨(hl.mul D2'').resolve_left a2, (hl.mul D3').resolve_left a2, (hl.mul D4).resolve_left a2⟩
          · have b0 := (hl.mul D1').resolve_left a1
            have b1 : (l : Int) ∣ q1 := (hl.mul (Prm.of_add (by rw [Int.add_comm] at D2'; exact D2') (Int.dvd_mul_of_dvd_right b0))).resolve_left a1
            have b2 : (l : Int) ∣ q2 := (hl.mul (Prm.of_add (by rw [Int.add_comm] at D3; exact D3) (Int.dvd_mul_of_dvd_right b1))).resolve_left a1
            exact .inr ⟨b0, b1, b2⟩
        · have b0 := (hl.mul D0).resolve_left a0
          have b1 : (l : Int) ∣ q1 := (hl.mul (Prm.of_add (by rw [Int.add_comm] at D1; exact D1) (Int.dvd_mul_of_dvd_right b0))).resolve_left a0
          have b2 : (l : Int) ∣ q2 := by
            have z : (l : Int) ∣ (p1 * q1 + p2 * q0) + p0 * q2 := by rw [Int.add_assoc, Int.add_comm] at D2; exact D2
            exact (hl.mul (Prm.of_add z (Int.dvd_add (Int.dvd_mul_of_dvd_right b1) (Int.dvd_mul_of_dvd_right b0)))).resolve_left a0
          exact .inr ⟨b0, b1, b2⟩
      rcases key with ⟨⟨x0, h0'⟩, ⟨x1, h1'⟩, ⟨x2, h2'⟩⟩ | ⟨⟨x0, h0'⟩, ⟨x1, h1'⟩, ⟨x2, h2'⟩⟩
      · exact gauss n t x0 x1 x2 q0 q1 q2 ne.1 (by omega) (can (by rw [ht, h0'] at e0; grind)) (can (by rw [ht, h0', h1'] at e1; grind)) (can (by rw [ht, h0', h1', h2'] at e2; grind)) (can (by rw [ht, h1', h2'] at e3; grind)) (can (by rw [ht, h2'] at e4; grind))
      · exact gauss n t p0 p1 p2 x0 x1 x2 ne.1 (by omega) (can (by rw [ht, h0'] at e0; grind)) (can (by rw [ht, h0', h1'] at e1; grind)) (can (by rw [ht, h0', h1', h2'] at e2; grind)) (can (by rw [ht, h1', h2'] at e3; grind)) (can (by rw [ht, h2'] at e4; grind))
end Idl
set_option linter.all false
/-! In a ring whose polynomial can't be parted the products of a number that isn't 0 reach all places. -/
namespace Idl
open Nf02 (Vec Field up)
def Parted (k : Field) : Prop := (∃ z, Nf01.value (k ++ [1]) z = 0) ∨ ∃ c0 c1 c2 c3, k = [c0, c1, c2, c3] ∧ Split4 c0 c1 c2 c3
theorem value2 (c0 c1 z : Int) : Nf01.value ([c0, c1] ++ [1]) z = z * z + c1 * z + c0 := by
  show ((0 * z + 1) * z + c1) * z + c0 = _
  grind
theorem value3 (c0 c1 c2 z : Int) : Nf01.value ([c0, c1, c2] ++ [1]) z = z * z * z + c2 * z * z + c1 * z + c0 := by
  show (((0 * z + 1) * z + c2) * z + c1) * z + c0 = _
  grind
theorem value4 (c0 c1 c2 c3 z : Int) : Nf01.value ([c0, c1, c2, c3] ++ [1]) z = z * z * z * z + c3 * z * z * z + c2 * z * z + c1 * z + c0 := by
  show ((((0 * z + 1) * z + c3) * z + c2) * z + c1) * z + c0 = _
  grind
theorem least_nat {Q : Nat → Prop} : ∀ (b d : Nat), d ≤ b → Q d → ∃ d, Q d ∧ ∀ e, e < d → ¬ Q e
  | 0, d, hd, h => ⟨d, h, fun e he => by omega⟩
  | b + 1, d, hd, h => by
    by_cases c : ∃ e, e < d ∧ Q e
    · obtain ⟨e, he, hq⟩ := c
      exact least_nat b e (by omega) hq
    · exact ⟨d, h, fun e he hq => c ⟨e, he, hq⟩⟩
theorem top_of {v : Fn} : ∀ (n : Nat), Upto n v → (∃ j, v j ≠ 0) → ∃ d, d < n ∧ v d ≠ 0 ∧ Upto (d + 1) v
  | 0, h, ⟨j, hj⟩ => absurd (h j (Nat.zero_le _)) hj
  | n + 1, h, hx => by
    by_cases c : v n = 0
    · obtain ⟨d, h1, h2, h3⟩ := top_of n (fun j hj => by
        rcases Nat.lt_or_eq_of_le hj with q | q
        · exact h j q
        · rw [← q]; exact c) hx
      exact ⟨d, by omega, h2, h3⟩
    · exact ⟨n, by omega, c, h⟩
/-- one of the lowest degree -/
structure Low (k : Field) (L : Fn → Prop) (d : Nat) (p : Fn) : Prop where
  lt : d < k.length
  mem : L p
  ne : p d ≠ 0
  upto : Upto (d + 1) p
  min : ∀ u, L u → Upto d u → ∀ j, u j = 0
theorem exists_low {k : Field} {L : Fn → Prop} (hu : ∀ v, L v → Upto k.length v) (hx : ∃ v, L v ∧ ∃ j, v j ≠ 0) : ∃ d p, Low k L d p := by
  obtain ⟨v, hv, hj⟩ := hx
  obtain ⟨d0, h1, h2, h3⟩ := top_of _ (hu v hv) hj
  obtain ⟨d, ⟨p, a1, a2, a3, a4⟩, hm⟩ := least_nat (Q := fun d => ∃ p, d < k.length ∧ L p ∧ p d ≠ 0 ∧ Upto (d + 1) p) d0 d0 (Nat.le_refl _) ⟨v, h1, hv, h2, h3⟩
  refine ⟨d, p, a1, a2, a3, a4, fun u hu' hup j => Classical.byContradiction fun hn => ?_⟩
  obtain ⟨e, b1, b2, b3⟩ := top_of d hup ⟨j, hn⟩
  exact hm e b1 ⟨u, by omega, hu', b2, b3⟩
theorem Low.zero_full {k : Field} {L : Fn → Prop} {p : Fn} (hc : Closed k L) (h : Low k L 0 p) : Full k.length L := fun j hj => by
  have e : ∀ i, p i = p 0 * E 0 i := fun i => by
    unfold E
    by_cases c : i = 0
    · rw [if_pos c, c]; omega
    · rw [if_neg c, h.upto i (by omega)]; simp
  have en : ∀ (m : Nat), m < k.length → ∀ i, UpN k m p i = p 0 * E m i := by
    intro m
    induction m with
    | zero => intro _ i; exact e i
    | succ m ih =>
      intro hm i
      show Up k (UpN k m p) i = _
      rw [Up_cg (ih (by omega)) i, Up_smul, Up_E hm]
  refine ⟨UpN k j p, hc.upN j h.mem, ?_, fun i hi => ?_⟩
  · rw [en j hj]; unfold E; rw [if_pos rfl]; have := h.ne; omega
  · rw [en j hj]; unfold E; rw [if_neg (by omega)]; simp
section
variable {c0 c1 c2 c3 : Int} {v : Fn}
theorem up20 : Up [c0, c1] v 0 = 0 - v 1 * c0 := rfl
theorem up21 : Up [c0, c1] v 1 = v 0 - v 1 * c1 := rfl
theorem up30 : Up [c0, c1, c2] v 0 = 0 - v 2 * c0 := rfl
theorem up31 : Up [c0, c1, c2] v 1 = v 0 - v 2 * c1 := rfl
theorem up32 : Up [c0, c1, c2] v 2 = v 1 - v 2 * c2 := rfl
theorem up40 : Up [c0, c1, c2, c3] v 0 = 0 - v 3 * c0 := rfl
theorem up41 : Up [c0, c1, c2, c3] v 1 = v 0 - v 3 * c1 := rfl
theorem up42 : Up [c0, c1, c2, c3] v 2 = v 1 - v 3 * c2 := rfl
theorem up43 : Up [c0, c1, c2, c3] v 3 = v 2 - v 3 * c3 := rfl
end
theorem mul_cancel {a b : Int} (ha : a ≠ 0) (h : a * b = 0) : b = 0 := by
  rcases Int.mul_eq_zero.mp h with e | e
  · exact absurd e ha
  · exact e
theorem full2 {c0 c1 : Int} {L : Fn → Prop} (hL : Lat L) (hc : Closed [c0, c1] L) (hu : ∀ v, L v → Upto 2 v) (hx : ∃ v, L v ∧ ∃ j, v j ≠ 0) (hp : ¬ Parted [c0, c1]) : Full 2 L := by
  obtain ⟨d, p, h⟩ := exists_low (k := [c0, c1]) hu hx
  clear hx
  have hd := h.lt
  have out : ∀ v, L v → ∀ j, v (j + 2) = 0 := fun v hv j => hu v hv _ (by omega)
  match d, h, hd with
  | 0, h, _ => exact h.zero_full hc
  | 1, h, _ =>
    exfalso
    have m1 := hc _ h.mem
    have z := h.min _ (hL.add _ _ (hL.smul (p 0 - c1 * p 1) _ h.mem) (hL.smul (-p 1) _ m1)) fun j hj => by
      show (p 0 - c1 * p 1) * p j + -p 1 * Up [c0, c1] p j = 0
      match j, hj with
      | 1, _ => rw [up21]; grind
      | j + 2, _ => rw [out _ h.mem, out _ m1]; simp
    have z0 : (p 0 - c1 * p 1) * p 0 + -p 1 * Up [c0, c1] p 0 = 0 := z 0
    rw [up20] at z0
    obtain ⟨r, hr⟩ := root2 (c0 := c0) (c1 := c1) _ (-p 0) (p 1) h.ne (Nat.le_refl _) (by grind)
    exact hp (.inl ⟨r, by rw [value2]; exact hr⟩)
  | d + 2, _, hd => exact absurd hd (by show ¬ d + 2 < 2; omega)
theorem full3 {c0 c1 c2 : Int} {L : Fn → Prop} (hL : Lat L) (hc : Closed [c0, c1, c2] L) (hu : ∀ v, L v → Upto 3 v) (hx : ∃ v, L v ∧ ∃ j, v j ≠ 0) (hp : ¬ Parted [c0, c1, c2]) : Full 3 L := by
  obtain ⟨d, p, h⟩ := exists_low (k := [c0, c1, c2]) hu hx
  clear hx
  have hd := h.lt
  have m1 := hc _ h.mem
  have m2 := hc _ m1
  have out : ∀ v, L v → ∀ j, v (j + 3) = 0 := fun v hv j => hu v hv _ (by omega)
  match d, h, hd with
  | 0, h, _ => exact h.zero_full hc
  | 1, h, _ =>
    exfalso
    have p2 : p 2 = 0 := h.upto 2 (by omega)
    obtain ⟨q2, e2⟩ : ∃ q, q = p 1 * p 1 := ⟨_, rfl⟩
    obtain ⟨q1, e1⟩ : ∃ q, q = c2 * p 1 * p 1 - p 0 * p 1 := ⟨_, rfl⟩
    obtain ⟨q0, e0⟩ : ∃ q, q = c1 * p 1 * p 1 - c2 * p 0 * p 1 + p 0 * p 0 := ⟨_, rfl⟩
    have z := h.min _ (hL.add _ _ (hL.smul q0 _ h.mem) (hL.add _ _ (hL.smul q1 _ m1) (hL.smul q2 _ m2))) fun j hj => by
      show q0 * p j + (q1 * Up [c0, c1, c2] p j + q2 * Up [c0, c1, c2] (Up [c0, c1, c2] p) j) = 0
      match j, hj with
      | 1, _ => simp only [up30, up31, up32, p2, e0, e1, e2, Int.zero_mul, Int.mul_zero, Int.sub_zero, Int.zero_sub]; grind
      | 2, _ => simp only [up30, up31, up32, p2, e0, e1, e2, Int.zero_mul, Int.mul_zero, Int.sub_zero, Int.zero_sub]; grind
      | j + 3, _ => rw [out _ h.mem, out _ m1, out _ m2]; simp
    have z0 : q0 * p 0 + (q1 * Up [c0, c1, c2] p 0 + q2 * Up [c0, c1, c2] (Up [c0, c1, c2] p) 0) = 0 := z 0
    simp only [up30, up31, up32, p2, e0, e1, e2, Int.zero_mul, Int.mul_zero, Int.sub_zero, Int.zero_sub] at z0
    obtain ⟨r, hr⟩ := root3 (c0 := c0) (c1 := c1) (c2 := c2) _ (-p 0) (p 1) h.ne (Nat.le_refl _) (by grind)
    exact hp (.inl ⟨r, by rw [value3]; exact hr⟩)
  | 2, h, _ =>
    exfalso
    obtain ⟨q0, e0⟩ : ∃ q, q = c2 * p 2 - p 1 := ⟨_, rfl⟩
    have z := h.min _ (hL.add _ _ (hL.smul q0 _ h.mem) (hL.smul (p 2) _ m1)) fun j hj => by
      show q0 * p j + p 2 * Up [c0, c1, c2] p j = 0
      match j, hj with
      | 2, _ => rw [up32, e0]; grind
      | j + 3, _ => rw [out _ h.mem, out _ m1]; simp
    have z0 : q0 * p 0 + p 2 * Up [c0, c1, c2] p 0 = 0 := z 0
    have z1 : q0 * p 1 + p 2 * Up [c0, c1, c2] p 1 = 0 := z 1
    rw [up30] at z0
    rw [up31] at z1
    have hne : p 2 ≠ 0 := h.ne
    obtain ⟨r, hr⟩ := root3 (c0 := c0) (c1 := c1) (c2 := c2) _ (-q0) (p 2) hne (Nat.le_refl _) (mul_cancel hne (mul_cancel hne (by grind)))
    exact hp (.inl ⟨r, by rw [value3]; exact hr⟩)
  | d + 3, _, hd => exact absurd hd (by show ¬ d + 3 < 3; omega)
theorem full4 {c0 c1 c2 c3 : Int} {L : Fn → Prop} (hL : Lat L) (hc : Closed [c0, c1, c2, c3] L) (hu : ∀ v, L v → Upto 4 v) (hx : ∃ v, L v ∧ ∃ j, v j ≠ 0) (hp : ¬ Parted [c0, c1, c2, c3]) : Full 4 L := by
  obtain ⟨d, p, h⟩ := exists_low (k := [c0, c1, c2, c3]) hu hx
  clear hx
  have hd := h.lt
  have m1 := hc _ h.mem
  have m2 := hc _ m1
  have m3 := hc _ m2
  have out : ∀ v, L v → ∀ j, v (j + 4) = 0 := fun v hv j => hu v hv _ (by omega)
  match d, h, hd with
  | 0, h, _ => exact h.zero_full hc
  | 1, h, _ =>
    exfalso
    have p2 : p 2 = 0 := h.upto 2 (by omega)
    have p3 : p 3 = 0 := h.upto 3 (by omega)
    obtain ⟨q3, e3⟩ : ∃ q, q = p 1 * p 1 * p 1 := ⟨_, rfl⟩
    obtain ⟨q2, e2⟩ : ∃ q, q = c3 * p 1 * p 1 * p 1 - p 0 * p 1 * p 1 := ⟨_, rfl⟩
    obtain ⟨q1, e1⟩ : ∃ q, q = c2 * p 1 * p 1 * p 1 - c3 * p 0 * p 1 * p 1 + p 0 * p 0 * p 1 := ⟨_, rfl⟩
    obtain ⟨q0, e0⟩ : ∃ q, q = c1 * p 1 * p 1 * p 1 - c2 * p 0 * p 1 * p 1 + c3 * p 0 * p 0 * p 1 - p 0 * p 0 * p 0 := ⟨_, rfl⟩
    have z := h.min _ (hL.add _ _ (hL.smul q0 _ h.mem) (hL.add _ _ (hL.smul q1 _ m1) (hL.add _ _ (hL.smul q2 _ m2) (hL.smul q3 _ m3)))) fun j hj => by
      show q0 * p j + (q1 * Up [c0, c1, c2, c3] p j + (q2 * Up [c0, c1, c2, c3] (Up [c0, c1, c2, c3] p) j + q3 * Up [c0, c1, c2, c3] (Up [c0, c1, c2, c3] (Up [c0, c1, c2, c3] p)) j)) = 0
      match j, hj with
      | 1, _ => simp only [up40, up41, up42, up43, p2, p3, e0, e1, e2, e3, Int.zero_mul, Int.mul_zero, Int.sub_zero, Int.zero_sub]; grind
      | 2, _ => simp only [up40, up41, up42, up43, p2, p3, e0, e1, e2, e3, Int.zero_mul, Int.mul_zero, Int.sub_zero, Int.zero_sub]; grind
      | 3, _ => simp only [up40, up41, up42, up43, p2, p3, e0, e1, e2, e3, Int.zero_mul, Int.mul_zero, Int.sub_zero, Int.zero_sub]; grind
      | j + 4, _ => rw [out _ h.mem, out _ m1, out _ m2, out _ m3]; simp
    have z0 : q0 * p 0 + (q1 * Up [c0, c1, c2, c3] p 0 + (q2 * Up [c0, c1, c2, c3] (Up [c0, c1, c2, c3] p) 0 + q3 * Up [c0, c1, c2, c3] (Up [c0, c1, c2, c3] (Up [c0, c1, c2, c3] p)) 0)) = 0 := z 0
    simp only [up40, up41, up42, up43, p2, p3, e0, e1, e2, e3, Int.zero_mul, Int.mul_zero, Int.sub_zero, Int.zero_sub] at z0
    obtain ⟨r, hr⟩ := root4 (c0 := c0) (c1 := c1) (c2 := c2) (c3 := c3) _ (-p 0) (p 1) h.ne (Nat.le_refl _) (by grind)
    exact hp (.inl ⟨r, by rw [value4]; exact hr⟩)
  | 2, h, _ =>
    exfalso
    have p3 : p 3 = 0 := h.upto 3 (by omega)
    have hne : p 2 ≠ 0 := h.ne
    obtain ⟨q2, e2⟩ : ∃ q, q = p 2 * p 2 := ⟨_, rfl⟩
    obtain ⟨q1, e1⟩ : ∃ q, q = c3 * p 2 * p 2 - p 2 * p 1 := ⟨_, rfl⟩
    obtain ⟨q0, e0⟩ : ∃ q, q = c2 * p 2 * p 2 - p 2 * p 0 - c3 * p 2 * p 1 + p 1 * p 1 := ⟨_, rfl⟩
    have z := h.min _ (hL.add _ _ (hL.smul q0 _ h.mem) (hL.add _ _ (hL.smul q1 _ m1) (hL.smul q2 _ m2))) fun j hj => by
      show q0 * p j + (q1 * Up [c0, c1, c2, c3] p j + q2 * Up [c0, c1, c2, c3] (Up [c0, c1, c2, c3] p) j) = 0
      match j, hj with
      | 2, _ => simp only [up40, up41, up42, up43, p3, e0, e1, e2, Int.zero_mul, Int.mul_zero, Int.sub_zero, Int.zero_sub]; grind
      | 3, _ => simp only [up40, up41, up42, up43, p3, e0, e1, e2, Int.zero_mul, Int.mul_zero, Int.sub_zero, Int.zero_sub]; grind
      | j + 4, _ => rw [out _ h.mem, out _ m1, out _ m2]; simp
    have z0 : q0 * p 0 + (q1 * Up [c0, c1, c2, c3] p 0 + q2 * Up [c0, c1, c2, c3] (Up [c0, c1, c2, c3] p) 0) = 0 := z 0
    have z1 : q0 * p 1 + (q1 * Up [c0, c1, c2, c3] p 1 + q2 * Up [c0, c1, c2, c3] (Up [c0, c1, c2, c3] p) 1) = 0 := z 1
    simp only [up40, up41, up42, up43, p3, Int.zero_mul, Int.mul_zero, Int.sub_zero, Int.zero_sub] at z0 z1
    refine hp (.inr ⟨c0, c1, c2, c3, rfl, gauss _ (p 2 * q2) (p 0) (p 1) (p 2) q0 q1 q2 ?_ (Nat.le_refl _) ?_ ?_ ?_ ?_ rfl⟩)
    · intro q
      rw [e2] at q
      exact hne (mul_cancel hne (mul_cancel hne q))
    all_goals (clear hp hL hc hu m1 m2 m3 out z h hne)
    all_goals (generalize p 0 = x0 at *; generalize p 1 = x1 at *; generalize p 2 = x2 at *)
    · subst e0 e1 e2; grind
    · subst e0 e1 e2; grind
    · subst e0 e1 e2; grind
    · subst e0 e1 e2; grind
  | 3, h, _ =>
    exfalso
    have hne : p 3 ≠ 0 := h.ne
    obtain ⟨q0, e0⟩ : ∃ q, q = c3 * p 3 - p 2 := ⟨_, rfl⟩
    have z := h.min _ (hL.add _ _ (hL.smul q0 _ h.mem) (hL.smul (p 3) _ m1)) fun j hj => by
      show q0 * p j + p 3 * Up [c0, c1, c2, c3] p j = 0
      match j, hj with
      | 3, _ => rw [up43, e0]; grind
      | j + 4, _ => rw [out _ h.mem, out _ m1]; simp
    have z0 : q0 * p 0 + p 3 * Up [c0, c1, c2, c3] p 0 = 0 := z 0
    have z1 : q0 * p 1 + p 3 * Up [c0, c1, c2, c3] p 1 = 0 := z 1
    have z2 : q0 * p 2 + p 3 * Up [c0, c1, c2, c3] p 2 = 0 := z 2
    rw [up40] at z0
    rw [up41] at z1
    rw [up42] at z2
    obtain ⟨r, hr⟩ := root4 (c0 := c0) (c1 := c1) (c2 := c2) (c3 := c3) _ (-q0) (p 3) hne (Nat.le_refl _) (mul_cancel hne (mul_cancel hne (by grind)))
    exact hp (.inl ⟨r, by rw [value4]; exact hr⟩)
  | d + 4, _, hd => exact absurd hd (by show ¬ d + 4 < 4; omega)
/-- a ring as the document lets one be -/
structure Ring (k : Field) : Prop where
  two : 2 ≤ k.length
  four : k.length ≤ 4
  small : ∀ j, (F k j).natAbs ≤ 20
  whole : ¬ Parted k
theorem Ring.pos {k : Field} (h : Ring k) : 0 < k.length := by have := h.two; omega
theorem Ring.full {k : Field} (h : Ring k) {L : Fn → Prop} (hL : Lat L) (hc : Closed k L) (hu : ∀ v, L v → Upto k.length v) (hx : ∃ v, L v ∧ ∃ j, v j ≠ 0) : Full k.length L := by
  have h2 := h.two
  have h4 := h.four
  match k, h, hc, hu, h2, h4 with
  | [c0, c1], h, hc, hu, _, _ => exact full2 hL hc hu hx h.whole
  | [c0, c1, c2], h, hc, hu, _, _ => exact full3 hL hc hu hx h.whole
  | [c0, c1, c2, c3], h, hc, hu, _, _ => exact full4 hL hc hu hx h.whole
  | _ :: _ :: _ :: _ :: _ :: _, _, _, _, _, h4 => simp at h4
end Idl
set_option linter.all false
/-! Whether a polynomial can be parted: the specification's test and the program's. -/
namespace Idl
open Nf02 (Vec Field)
open Re02 (Poly trim lead rest plain content)
/-! ### what is left by x x + a x + b -/
def Rm (a b : Int) : Poly → Int × Int
  | [] => (0, 0)
  | x :: f => (x - b * (Rm a b f).2, (Rm a b f).1 - a * (Rm a b f).2)
theorem Rm_plus (a b : Int) : ∀ f g : Poly, Rm a b (Re02.plus f g) = ((Rm a b f).1 + (Rm a b g).1, (Rm a b f).2 + (Rm a b g).2)
  | [], g => by simp [Re02.plus, Rm]
  | x :: f, [] => by simp [Re02.plus, Rm]
  | x :: f, y :: g => by
    have ih := Rm_plus a b f g
    simp only [Re02.plus, Rm, ih]
    ext <;> (simp only []; grind)
theorem Rm_scale (a b c : Int) : ∀ f : Poly, Rm a b (Re02.scale c f) = (c * (Rm a b f).1, c * (Rm a b f).2)
  | [] => by simp [Re02.scale, Rm]
  | x :: f => by
    have ih := Rm_scale a b c f
    have e : Re02.scale c (x :: f) = c * x :: Re02.scale c f := rfl
    rw [e]
    simp only [Rm, ih]
    ext <;> (simp only []; grind)
theorem Rm_zeros (a b : Int) {f : Poly} (h : Rm a b f = (0, 0)) : ∀ n : Nat, Rm a b (List.replicate n 0 ++ f) = (0, 0)
  | 0 => h
  | n + 1 => by
    have ih := Rm_zeros a b h n
    have e : List.replicate (n + 1) (0 : Int) ++ f = 0 :: (List.replicate n 0 ++ f) := rfl
    rw [e]
    simp only [Rm, ih]
    simp
theorem Rm_trim (a b : Int) : ∀ f : Poly, Rm a b (trim f) = Rm a b f
  | [] => rfl
  | x :: f => by
    have ih := Rm_trim a b f
    have e : trim (x :: f) = if x = 0 ∧ trim f = [] then [] else x :: trim f := rfl
    rw [e]
    split <;> rename_i c
    · rw [c.2] at ih
      simp only [Rm, ← ih, c.1]
      simp
    · simp only [Rm, ih]
theorem Rm_self (a b : Int) : Rm a b [b, a, 1] = (0, 0) := by simp [Rm]
theorem fold_gcd (f : Poly) : ∀ n : Nat, f.foldl (fun n a => Nat.gcd n a.natAbs) n ∣ n ∧ ∀ x ∈ f, f.foldl (fun n a => Nat.gcd n a.natAbs) n ∣ x.natAbs := by
  induction f with
  | nil => intro n; exact ⟨Nat.dvd_refl n, fun x hx => by simp at hx⟩
  | cons y f ih =>
    intro n
    have h := ih (Nat.gcd n y.natAbs)
    refine ⟨Nat.dvd_trans h.1 (Nat.gcd_dvd_left _ _), fun x hx => ?_⟩
    rcases List.mem_cons.mp hx with e | e
    · rw [e]; exact Nat.dvd_trans h.1 (Nat.gcd_dvd_right _ _)
    · exact h.2 x e
theorem content_dvd {f : Poly} {x : Int} (h : x ∈ f) : (content f : Int) ∣ x := Int.ofNat_dvd_left.mpr ((fold_gcd f 0).2 x h)
theorem plain_scale {f : Poly} (h : content f ≠ 0) : Re02.scale (content f) (plain f) = f := by
  unfold plain Re02.scale
  rw [if_neg h, List.map_map]
  conv => rhs; rw [← List.map_id f]
  refine List.map_congr_left fun x hx => ?_
  exact Int.mul_ediv_cancel' (content_dvd hx)
theorem Rm_plain (a b : Int) (f : Poly) : Rm a b (plain f) = (0, 0) ↔ Rm a b f = (0, 0) := by
  by_cases h : content f = 0
  · have z : ∀ x ∈ f, x = 0 := fun x hx => by
      have := content_dvd hx
      rw [h] at this
      exact Int.zero_dvd.mp this
    have r : ∀ f : Poly, (∀ x ∈ f, x = 0) → Rm a b f = (0, 0) := by
      intro f
      induction f with
      | nil => intro _; rfl
      | cons x f ih =>
        intro hz
        simp only [Rm, ih fun y hy => hz y (List.mem_cons_of_mem _ hy), hz x (List.mem_cons_self ..)]
        simp
    have e : plain f = [] := by unfold plain; rw [if_pos h]
    rw [e, r f z]
    simp [Rm]
  · have e := Rm_scale a b (content f) (plain f)
    rw [plain_scale h] at e
    have hc : (content f : Int) ≠ 0 := by omega
    constructor
    · intro q
      rw [e, q]; simp
    · intro q
      rw [q] at e
      have e1 : (0 : Int) = content f * (Rm a b (plain f)).1 := congrArg Prod.fst e
      have e2 : (0 : Int) = content f * (Rm a b (plain f)).2 := congrArg Prod.snd e
      exact Prod.ext (mul_cancel hc e1.symm) (mul_cancel hc e2.symm)
/-! ### lengths -/
theorem len_trim : ∀ f : Poly, (trim f).length ≤ f.length
  | [] => Nat.le_refl _
  | x :: f => by
    have ih := len_trim f
    have e : trim (x :: f) = if x = 0 ∧ trim f = [] then [] else x :: trim f := rfl
    rw [e]
    split
    · simp
    · simpa using ih
theorem trim_snoc0 : ∀ f : Poly, trim (f ++ [0]) = trim f
  | [] => rfl
  | x :: f => by
    have ih := trim_snoc0 f
    show (if x = 0 ∧ trim (f ++ [0]) = [] then [] else x :: trim (f ++ [0])) = if x = 0 ∧ trim f = [] then [] else x :: trim f
    rw [ih]
theorem trim_last : ∀ f : Poly, trim f = [] ∨ lead (trim f) ≠ 0
  | [] => .inl rfl
  | x :: f => by
    have ih := trim_last f
    have e : trim (x :: f) = if x = 0 ∧ trim f = [] then [] else x :: trim f := rfl
    rw [e]
    split <;> rename_i c
    · exact .inl rfl
    · right
      rcases ih with q | q
      · rw [q]
        have : x ≠ 0 := fun z => c ⟨z, q⟩
        exact this
      · cases ht : trim f with
        | nil => rw [ht] at q; exact absurd rfl q
        | cons y g =>
          rw [ht] at q
          have e2 : lead (x :: y :: g) = lead (y :: g) := by
            unfold lead
            simp [List.getLastD_cons]
          rw [e2]; exact q
theorem len_plain (f : Poly) : (plain f).length ≤ f.length := by
  unfold plain
  split <;> simp
theorem lead_map {g : Int → Int} (h : g 0 = 0) : ∀ f : Poly, lead (f.map g) = g (lead f) := fun f => by
  unfold lead
  rw [List.getLastD_eq_getLast?, List.getLastD_eq_getLast?, List.getLast?_map]
  cases f.getLast? with
  | none => exact h.symm
  | some x => rfl
theorem plain_last {f : Poly} (h : f = [] ∨ lead f ≠ 0) : plain f = [] ∨ lead (plain f) ≠ 0 := by
  rcases h with h | h
  · left; rw [h]; rfl
  · by_cases c : content f = 0
    · left; unfold plain; rw [if_pos c]
    · right
      intro z
      have e := lead_map (g := fun a : Int => (content f : Int) * a) (by simp) (plain f)
      have e2 : (plain f).map (fun a : Int => (content f : Int) * a) = f := plain_scale c
      rw [e2, z] at e
      exact h (by rw [e]; simp)
theorem getLast_plus : ∀ (f g : Poly), f.length = g.length → f ≠ [] → lead (Re02.plus f g) = lead f + lead g ∧ (Re02.plus f g).length = f.length
  | [], _, _, h => absurd rfl h
  | [x], [y], _, _ => ⟨rfl, rfl⟩
  | [x], [], h, _ => by simp at h
  | [x], y :: z :: g, h, _ => by simp at h
  | x :: x' :: f, [], h, _ => by simp at h
  | x :: x' :: f, [y], h, _ => by simp at h
  | x :: x' :: f, y :: y' :: g, h, _ => by
    have ih := getLast_plus (x' :: f) (y' :: g) (by simpa using h) (by simp)
    have l2 : ∀ (u v : Int) (t : Poly), lead (u :: v :: t) = lead (v :: t) := fun u v t => by unfold lead; simp [List.getLastD_cons]
    have e : Re02.plus (x :: x' :: f) (y :: y' :: g) = (x + y) :: (x' + y') :: Re02.plus f g := rfl
    refine ⟨?_, ?_⟩
    · rw [e, l2, l2, l2]; exact ih.1
    · rw [e]
      have := ih.2
      show _ + 1 = _ + 1
      exact congrArg (· + 1) this
theorem snoc_lead {f : Poly} (h : f ≠ []) : f = f.dropLast ++ [lead f] := by
  have e := List.dropLast_concat_getLast h
  have : lead f = f.getLast h := by unfold lead; rw [List.getLastD_eq_getLast?, List.getLast?_eq_some_getLast h]; rfl
  rw [this]; exact e.symm
/-- one step by x x + a x + b -/
def stepBy (f g : Poly) : Poly := plain (trim (Re02.plus (Re02.scale (lead g).natAbs f) (Re02.scale (-1) (List.replicate (f.length - g.length) 0 ++ Re02.scale (if 0 < lead g then lead f else 0 - lead f) g))))
theorem rest_succ (n : Nat) (f g : Poly) : rest (n + 1) f g = if f.length < g.length ∨ g = [] then f else rest n (stepBy f g) g := rfl
theorem step_len {a b : Int} {f : Poly} (h : 3 ≤ f.length) : (stepBy f [b, a, 1]).length + 1 ≤ f.length ∧ (stepBy f [b, a, 1] = [] ∨ lead (stepBy f [b, a, 1]) ≠ 0) ∧ (Rm a b (stepBy f [b, a, 1]) = (0, 0) ↔ Rm a b f = (0, 0)) := by
  unfold stepBy
  have l1 : lead ([b, a, 1] : Poly) = 1 := rfl
  rw [l1]
  obtain ⟨u, hu⟩ : ∃ u, u = Re02.scale ((1 : Int).natAbs : Int) f := ⟨_, rfl⟩
  obtain ⟨w, hw⟩ : ∃ w, w = Re02.scale (-1) (List.replicate (f.length - ([b, a, 1] : Poly).length) 0 ++ Re02.scale (if (0 : Int) < 1 then lead f else 0 - lead f) [b, a, 1]) := ⟨_, rfl⟩
  rw [← hu, ← hw]
  have lu : u.length = f.length := by rw [hu]; simp [Re02.scale]
  have lw : w.length = f.length := by
    rw [hw]
    simp [Re02.scale]
    omega
  have un : u ≠ [] := fun e => by rw [e] at lu; simp at lu; omega
  have lead_u : lead u = lead f := by
    rw [hu]
    have : Re02.scale ((1 : Int).natAbs : Int) f = f := by unfold Re02.scale; simp
    rw [this]
  have lead_w : lead w = -lead f := by
    rw [hw, if_pos (by decide)]
    unfold Re02.scale
    rw [lead_map (by simp)]
    unfold lead
    rw [List.getLastD_eq_getLast?, List.getLast?_append]
    simp
  have pl := getLast_plus u w (by omega) un
  obtain ⟨s, hs⟩ : ∃ s, s = Re02.plus u w := ⟨_, rfl⟩
  rw [← hs] at pl ⊢
  have sn : s ≠ [] := fun e => by
    have := pl.2
    rw [e] at this; simp at this; omega
  have s0 : lead s = 0 := by rw [pl.1, lead_u, lead_w]; omega
  have se := snoc_lead sn
  rw [s0] at se
  have lt : (trim s).length + 1 ≤ f.length := by
    rw [se, trim_snoc0]
    have h1 := len_trim s.dropLast
    have h2 := pl.2
    have h3 : s.dropLast.length = s.length - 1 := by simp
    omega
  refine ⟨?_, plain_last (trim_last s), ?_⟩
  · have := len_plain (trim s)
    omega
  · have e1 : Rm a b u = Rm a b f := by rw [hu, Rm_scale]; simp
    have e2 : Rm a b w = (0, 0) := by
      rw [hw, Rm_scale, Rm_zeros a b (by rw [Rm_scale, Rm_self]; simp)]
      simp
    rw [Rm_plain, Rm_trim, hs, Rm_plus, e1, e2]
    show ((Rm a b f).1 + 0, (Rm a b f).2 + 0) = (0, 0) ↔ _
    rw [Int.add_zero, Int.add_zero]
theorem rest_facts {a b : Int} : ∀ (n : Nat) (f : Poly), f.length ≤ n + 2 → (f = [] ∨ lead f ≠ 0) → (rest n f [b, a, 1]).length ≤ 2 ∧ (rest n f [b, a, 1] = [] ∨ lead (rest n f [b, a, 1]) ≠ 0) ∧ (Rm a b (rest n f [b, a, 1]) = (0, 0) ↔ Rm a b f = (0, 0))
  | 0, f, h, hl => ⟨h, hl, Iff.rfl⟩
  | n + 1, f, h, hl => by
    rw [rest_succ]
    split <;> rename_i c
    · rcases c with c | c
      · exact ⟨by have : f.length < 3 := c; omega, hl, Iff.rfl⟩
      · simp at c
    · have c3 : 3 ≤ f.length := by
        have : ¬ f.length < 3 := fun q => c (.inl q)
        omega
      obtain ⟨s1, s2, s3⟩ := step_len (a := a) (b := b) c3
      obtain ⟨r1, r2, r3⟩ := rest_facts n _ (by omega) s2
      exact ⟨r1, r2, r3.trans s3⟩
theorem divides_iff {a b : Int} {f : Poly} (hl : lead f ≠ 0) : Nf01.divides [b, a, 1] f = true ↔ Rm a b f = (0, 0) := by
  obtain ⟨r1, r2, r3⟩ := rest_facts (a := a) (b := b) f.length f (by omega) (.inr hl)
  unfold Nf01.divides
  rw [List.isEmpty_iff, ← r3]
  constructor
  · intro e; rw [e]; rfl
  · intro e
    match h : rest f.length f [b, a, 1], r1, r2, e with
    | [], _, _, _ => rfl
    | [x], _, r2, e =>
      rcases r2 with q | q
      · simp at q
      · simp [Rm] at e
        exact absurd e q
    | [x, y], _, r2, e =>
      rcases r2 with q | q
      · simp at q
      · simp [Rm] at e
        exact absurd e.2 q
    | x :: y :: z :: t, r1, _, _ => simp at r1
theorem split_iff {c0 c1 c2 c3 : Int} : Split4 c0 c1 c2 c3 ↔ ∃ a b, Rm a b [c0, c1, c2, c3, 1] = (0, 0) := by
  constructor
  · rintro ⟨a, b, e, d, h1, h2, h3, h4⟩
    refine ⟨a, b, ?_⟩
    simp [Rm]
    constructor
    · subst h1 h2 h3 h4; grind
    · subst h1 h2 h3 h4; grind
  · rintro ⟨a, b, h⟩
    simp [Rm] at h
    refine ⟨a, b, c3 - a, c2 - b - a * (c3 - a), by omega, by omega, ?_, ?_⟩
    · grind
    · grind
end Idl
set_option linter.all false
/-! The specification's test and the program's: both tell whether the polynomial can be parted. -/
namespace Idl
open Nf02 (Vec Field)
theorem mem_divisors {z r : Int} : r ∈ Nf01.divisors z ↔ z ≠ 0 ∧ r ∣ z := by
  unfold Nf01.divisors
  rw [List.mem_flatMap]
  constructor
  · rintro ⟨i, hi, hr⟩
    have hi' := List.mem_range.mp hi
    split at hr <;> rename_i c
    · have d : ((i + 1 : Nat) : Int) ∣ z := Int.ofNat_dvd_left.mpr (Nat.dvd_of_mod_eq_zero c)
      refine ⟨by omega, ?_⟩
      rcases List.mem_cons.mp hr with e | e
      · rw [e]; exact d
      · rw [List.mem_singleton.mp e, Int.zero_sub]; exact Int.neg_dvd.mpr d
    · simp at hr
  · rintro ⟨hz, hr⟩
    have dn : r.natAbs ∣ z.natAbs := Int.natAbs_dvd_natAbs.mpr hr
    have hr0 : r ≠ 0 := fun e => by rw [e] at hr; exact hz (Int.zero_dvd.mp hr)
    have le := Nat.le_of_dvd (by omega) dn
    refine ⟨r.natAbs - 1, List.mem_range.mpr (by omega), ?_⟩
    have e1 : r.natAbs - 1 + 1 = r.natAbs := by omega
    rw [e1, if_pos (Nat.mod_eq_zero_of_dvd dn)]
    have : r = (r.natAbs : Int) ∨ r = 0 - (r.natAbs : Int) := by omega
    rcases this with e | e
    · rw [← e]; simp
    · rw [← e]; simp
/-- a root divides the last coefficient -/
theorem root_dvd {k : Field} (h2 : 2 ≤ k.length) (h4 : k.length ≤ 4) {z : Int} (h : Nf01.value (k ++ [1]) z = 0) : z ∣ k.headD 0 := by
  match k, h2, h4, h with
  | [c0, c1], _, _, h =>
    rw [value2] at h
    exact ⟨-(z + c1), by show c0 = _; grind⟩
  | [c0, c1, c2], _, _, h =>
    rw [value3] at h
    exact ⟨-(z * z + c2 * z + c1), by show c0 = _; grind⟩
  | [c0, c1, c2, c3], _, _, h =>
    rw [value4] at h
    exact ⟨-(z * z * z + c3 * z * z + c2 * z + c1), by show c0 = _; grind⟩
  | _ :: _ :: _ :: _ :: _ :: _, _, h4, _ => simp at h4
theorem zero_root {k : Field} (h2 : 2 ≤ k.length) (h4 : k.length ≤ 4) (h : k.headD 0 = 0) : Nf01.value (k ++ [1]) 0 = 0 := by
  match k, h2, h4, h with
  | [c0, c1], _, _, h =>
    have h' : c0 = 0 := h
    rw [value2, h']; simp
  | [c0, c1, c2], _, _, h =>
    have h' : c0 = 0 := h
    rw [value3, h']; simp
  | [c0, c1, c2, c3], _, _, h =>
    have h' : c0 = 0 := h
    rw [value4, h']; simp
  | _ :: _ :: _ :: _ :: _ :: _, _, h4, _ => simp at h4
/-- of a parting into two of degree 2 the middle coefficient is bounded -/
theorem split_bound {c0 c2 c3 a b e d : Int} {M : Int} (hc : c0 ≠ 0) (m0 : c0.natAbs ≤ M) (m2 : c2.natAbs ≤ M) (m3 : c3.natAbs ≤ M) (h1 : a + e = c3) (h2 : b + d + a * e = c2) (h4 : b * d = c0) : (a.natAbs : Int) ≤ 2 * M + 2 := by
  have hb : b ≠ 0 := fun z => hc (by rw [← h4, z]; simp)
  have hd : d ≠ 0 := fun z => hc (by rw [← h4, z]; simp)
  have bd : (b.natAbs : Int) + d.natAbs ≤ c0.natAbs + 1 := by
    have e : b.natAbs * d.natAbs = c0.natAbs := by rw [← Int.natAbs_mul, h4]
    obtain ⟨x, hx⟩ : ∃ x, b.natAbs = x + 1 := ⟨b.natAbs - 1, by omega⟩
    obtain ⟨y, hy⟩ : ∃ y, d.natAbs = y + 1 := ⟨d.natAbs - 1, by omega⟩
    rw [hx, hy] at e ⊢
    have : (x + 1) * (y + 1) = x * y + x + y + 1 := by grind
    omega
  have ae : (a * e).natAbs ≤ 2 * M + 1 := by omega
  rcases Int.lt_or_le (2 * M + 2) (a.natAbs : Int) with q | q
  · exfalso
    have e1 : M + 2 ≤ (e.natAbs : Int) := by omega
    have e2 : 1 ≤ (e.natAbs : Int) := by omega
    have p : (a.natAbs : Int) * 1 ≤ (a.natAbs : Int) * e.natAbs := Int.mul_le_mul_of_nonneg_left e2 (by omega)
    rw [Int.natAbs_mul] at ae
    have : ((a.natAbs * e.natAbs : Nat) : Int) = (a.natAbs : Int) * e.natAbs := Int.natCast_mul ..
    omega
  · exact q
theorem far4 (c0 c1 c2 c3 : Int) : Re02.far ([c0, c1, c2, c3] ++ [1]) = c0.natAbs + c1.natAbs + c2.natAbs + c3.natAbs + 2 := by
  show 1 + (((((0 + c0.natAbs) + c1.natAbs) + c2.natAbs) + c3.natAbs) + (1 : Int).natAbs) = _
  have : (1 : Int).natAbs = 1 := rfl
  omega
/-- **the specification's test** -/
theorem prime_iff {k : Field} (h2 : 2 ≤ k.length) (h4 : k.length ≤ 4) : Nf01.prime k = true ↔ ¬ Parted k := by
  have e : Nf01.prime k = if k.headD 0 = 0 then false else (Nf01.divisors (k.headD 0)).all (fun r => Nf01.value (k ++ [1]) r != 0) && (k.length != 4 || (Nf01.divisors (k.headD 0)).all fun c =>
      (List.range (4 * Re02.far (k ++ [1]) + 1)).all fun i => !Nf01.divides [c, (i : Int) - 2 * Re02.far (k ++ [1]), 1] (k ++ [1])) := by
    show (if k.length = 1 then true else _) = _
    rw [if_neg (by omega)]
    rfl
  rw [e]
  by_cases c : k.headD 0 = 0
  · rw [if_pos c]
    refine ⟨fun h => by simp at h, fun h => absurd (.inl ⟨0, zero_root h2 h4 c⟩) h⟩
  · rw [if_neg c, Bool.and_eq_true, List.all_eq_true, Bool.or_eq_true]
    constructor
    · rintro ⟨ha, hb⟩ hp
      rcases hp with ⟨z, hz⟩ | ⟨c0, c1, c2, c3, rfl, hs⟩
      · have := ha z (mem_divisors.mpr ⟨c, root_dvd h2 h4 hz⟩)
        rw [hz] at this
        simp at this
      · have c' : c0 ≠ 0 := c
        rcases hb with hb | hb
        · simp at hb
        · obtain ⟨a, b, e, d, s1, s2, s3, s4⟩ := hs
          have bnd := split_bound (M := ((c0.natAbs + c1.natAbs + c2.natAbs + c3.natAbs : Nat) : Int)) c' (by omega) (by omega) (by omega) s1 s2 s4
          rw [far4] at hb
          have hb1 := List.all_eq_true.mp hb b (mem_divisors.mpr ⟨c, ⟨d, by show c0 = b * d; exact s4.symm⟩⟩)
          obtain ⟨i, hi⟩ : ∃ i : Nat, (i : Int) = a + 2 * ((c0.natAbs + c1.natAbs + c2.natAbs + c3.natAbs + 2 : Nat) : Int) := ⟨(a + 2 * ((c0.natAbs + c1.natAbs + c2.natAbs + c3.natAbs + 2 : Nat) : Int)).toNat, by omega⟩
          have hb2 := List.all_eq_true.mp hb1 i (List.mem_range.mpr (by omega))
          have ea : (i : Int) - 2 * ((c0.natAbs + c1.natAbs + c2.natAbs + c3.natAbs + 2 : Nat) : Int) = a := by omega
          rw [ea] at hb2
          have hd : Nf01.divides [b, a, 1] ([c0, c1, c2, c3] ++ [1]) = true := (divides_iff (f := [c0, c1, c2, c3, 1]) (show (1 : Int) ≠ 0 by decide)).mpr (by
            show Rm a b [c0, c1, c2, c3, 1] = (0, 0)
            simp [Rm]
            subst s1 s2 s3 s4
            constructor <;> grind)
          rw [hd] at hb2
          simp at hb2
    · intro hp
      refine ⟨fun r hr => ?_, ?_⟩
      · have : Nf01.value (k ++ [1]) r ≠ 0 := fun z => hp (.inl ⟨r, z⟩)
        simpa using this
      · match k, h2, h4, hp, c with
        | [c0, c1], _, _, _, _ => exact .inl rfl
        | [c0, c1, c2], _, _, _, _ => exact .inl rfl
        | [c0, c1, c2, c3], _, _, hp, c =>
          right
          refine List.all_eq_true.mpr fun b hb => List.all_eq_true.mpr fun i hi => ?_
          have : ¬ Nf01.divides [b, (i : Int) - 2 * Re02.far ([c0, c1, c2, c3] ++ [1]), 1] ([c0, c1, c2, c3] ++ [1]) = true := fun z =>
            hp (.inr ⟨c0, c1, c2, c3, rfl, split_iff.mpr ⟨_, b, (divides_iff (f := [c0, c1, c2, c3, 1]) (show (1 : Int) ≠ 0 by decide)).mp z⟩⟩)
          simpa using this
        | _ :: _ :: _ :: _ :: _ :: _, _, h4, _, _ => simp at h4
/-! ### the program's test -/
def valueAt (k : Field) (x : Int) : Int := k.reverse.foldl (fun v c => v * x + c) 1
theorem valueAt_eq (k : Field) (x : Int) : valueAt k x = Nf01.value (k ++ [1]) x := by
  unfold valueAt Nf01.value
  rw [List.reverse_append]
  show _ = List.foldl (fun v a => v * x + a) (0 * x + 1) k.reverse
  rw [Int.zero_mul, Int.zero_add]
/-- a bound of all: M is one of the sizes, none is greater -/
structure Top (k : Field) (M : Int) : Prop where
  le : ∀ c ∈ k, (c.natAbs : Int) ≤ M
theorem Top.head {k : Field} {M : Int} (h : Top k M) (h2 : 2 ≤ k.length) : ((k.headD 0).natAbs : Int) ≤ M := by
  match k, h2 with
  | c :: _, _ => exact h.le c (by simp)
theorem root_range {k : Field} {M : Int} (h : Top k M) (h2 : 2 ≤ k.length) (h4 : k.length ≤ 4) : (∃ z, Nf01.value (k ++ [1]) z = 0) ↔ ∃ z, -(1 + M) ≤ z ∧ z < 1 + M + 1 ∧ valueAt k z = 0 := by
  have hM := h.head h2
  constructor
  · rintro ⟨z, hz⟩
    by_cases c : k.headD 0 = 0
    · exact ⟨0, by omega, by omega, by rw [valueAt_eq]; exact zero_root h2 h4 c⟩
    · have := Nat.le_of_dvd (by omega) (Int.natAbs_dvd_natAbs.mpr (root_dvd h2 h4 hz))
      exact ⟨z, by omega, by omega, by rw [valueAt_eq]; exact hz⟩
  · rintro ⟨z, _, _, hz⟩
    exact ⟨z, by rw [← valueAt_eq]; exact hz⟩
/-- what the program asks of b and a -/
def Quad (c0 c1 c2 c3 b a : Int) : Prop := b + c0.fdiv b + a * (c3 - a) = c2 ∧ a * c0.fdiv b + b * (c3 - a) = c1
theorem fdiv_of_dvd {c b d : Int} (hb : b ≠ 0) (h : b * d = c) : c.fdiv b = d := by
  rw [← h]; exact Int.mul_fdiv_cancel_left d hb
theorem split_range {c0 c1 c2 c3 M : Int} (h : Top [c0, c1, c2, c3] M) (hc : c0 ≠ 0) : Split4 c0 c1 c2 c3 ↔
    ∃ b, -(c0.natAbs : Int) ≤ b ∧ b < c0.natAbs + 1 ∧ b ≠ 0 ∧ c0.fmod b = 0 ∧ ∃ a, -(2 * (1 + M)) ≤ a ∧ a < 2 * (1 + M) + 1 ∧ Quad c0 c1 c2 c3 b a := by
  have t0 := h.le c0 (by simp)
  have t2 := h.le c2 (by simp)
  have t3 := h.le c3 (by simp)
  constructor
  · rintro ⟨a, b, e, d, s1, s2, s3, s4⟩
    have hb : b ≠ 0 := fun z => hc (by rw [← s4, z]; simp)
    have bl := Nat.le_of_dvd (by omega) (Int.natAbs_dvd_natAbs.mpr (⟨d, s4.symm⟩ : b ∣ c0))
    have al := split_bound hc t0 t2 t3 s1 s2 s4
    have f := fdiv_of_dvd hb s4
    have ee : c3 - a = e := by omega
    refine ⟨b, by omega, by omega, hb, Int.fmod_eq_zero_of_dvd ⟨d, s4.symm⟩, a, by omega, by omega, ?_, ?_⟩
    · rw [f, ee]; exact s2
    · rw [f, ee]; exact s3
  · rintro ⟨b, _, _, hb, hm, a, _, _, q1, q2⟩
    obtain ⟨d, hd⟩ := Int.dvd_of_fmod_eq_zero hm
    have f := fdiv_of_dvd hb hd.symm
    rw [f] at q1 q2
    exact ⟨a, b, c3 - a, d, by omega, q1, q2, hd.symm⟩
end Idl
set_option linter.all false
/-! What the calls make: the specification's rows and the program's are the same. -/
namespace Idl
open Nf02 (Vec Field up)
/-! ### sizes -/
theorem grown_le {b c k m : Nat} (hb : b ≤ c) (hk : k ≤ m) : grown b k ≤ grown c m := by
  rw [grown_eq, grown_eq]
  have : k * (b + 3) ≤ m * (c + 3) := Nat.mul_le_mul hk (by omega)
  omega
theorem capP.mono : ∀ {p p' m m' b b' : Nat}, p' ≤ p → m' ≤ m → b' ≤ b → capP p m b → capP p' m' b'
  | p, 0, _, _, _, _, _, _, hb, h => Nat.le_trans hb h.le
  | 0, p' + 1, _, _, _, _, hp, _, _, _ => by omega
  | p + 1, p' + 1, m, m', b, b', hp, hm, hb, h => ⟨Nat.le_trans hb h.1, capP.mono (by omega) (by omega) (grown_le hb (by omega)) h.2⟩
theorem cap_4_16 : capP 4 16 100 := by
  simp [capP, grown_eq, LIM]
theorem cap_8_8 : capP 8 8 100 := by
  simp [capP, grown_eq, LIM]
theorem capA_100 {n : Nat} (h : n ≤ 4) : capA n 100 := by
  match n, h with
  | 0, _ => trivial
  | 1, _ => simp [capA]
  | 2, _ => simp [capA]
  | 3, _ => simp [capA]
  | 4, _ => simp [capA]
theorem capB_54 {n : Nat} (h2 : 2 ≤ n) (h : n ≤ 4) : capB n (2 * n) 54 := by
  match n, h2, h with
  | 2, _, _ => simp [capB]
  | 3, _, _ => simp [capB]
  | 4, _, _ => simp [capB]
theorem bd_Up {k : Field} {v : Fn} {V : Nat} (hk : ∀ j, (F k j).natAbs ≤ 20) (hv : ∀ j, (v j).natAbs ≤ V) (j : Nat) : (Up k v j).natAbs ≤ 21 * V := by
  unfold Up
  split
  · have a := hv (k.length - 1)
    have b := hk j
    have c : (v (k.length - 1) * F k j).natAbs ≤ V * 20 := by rw [Int.natAbs_mul]; exact Nat.mul_le_mul a b
    split
    · omega
    · have := hv (j - 1)
      omega
  · simp
def geo : Nat → Nat
  | 0 => 0
  | m + 1 => 1 + 21 * geo m
theorem bd_Tm {k : Field} (hk : ∀ j, (F k j).natAbs ≤ 20) {A : Nat} : ∀ (a : Vec) (v : Fn) (V : Nat), (∀ x ∈ a, x.natAbs ≤ A) → (∀ j, (v j).natAbs ≤ V) → ∀ j, (Tm k a v j).natAbs ≤ A * V * geo a.length
  | [], v, V, _, _, j => by show (0 : Int).natAbs ≤ _; simp
  | c :: a, v, V, ha, hv, j => by
    show (c * v j + Tm k a (Up k v) j).natAbs ≤ A * V * (1 + 21 * geo a.length)
    have h1 : (c * v j).natAbs ≤ A * V := by rw [Int.natAbs_mul]; exact Nat.mul_le_mul (ha c (by simp)) (hv j)
    have h2 := bd_Tm hk a (Up k v) (21 * V) (fun x hx => ha x (List.mem_cons_of_mem _ hx)) (bd_Up hk hv) j
    have e : A * (21 * V) * geo a.length = A * V * (21 * geo a.length) := by grind
    rw [Nat.mul_add, Nat.mul_one, ← e]
    omega
theorem geo_le {m : Nat} (h : m ≤ 4) : geo m ≤ 2 ^ 14 := by
  match m, h with
  | 0, _ => decide
  | 1, _ => decide
  | 2, _ => decide
  | 3, _ => decide
  | 4, _ => decide
theorem entry_le {B : Nat} {v : Vec} (h : ∀ j, (F v j).natAbs ≤ B) : ∀ x ∈ v, x.natAbs ≤ B := fun x hx => by
  obtain ⟨i, hi, e⟩ := List.getElem_of_mem hx
  have := h i
  unfold F at this
  rwa [List.getD_eq_getElem?_getD, List.getElem?_eq_getElem hi, Option.getD_some, e] at this
theorem bd_of_entries {B : Nat} {v : Vec} (h : ∀ x ∈ v, x.natAbs ≤ B) (j : Nat) : (F v j).natAbs ≤ B := by
  unfold F
  rw [List.getD_eq_getElem?_getD]
  cases e : v[j]? with
  | none => simp
  | some x => exact h x (List.mem_of_getElem? e)
theorem bd_times {k : Field} (hr : Ring k) {A V : Nat} {a b : Vec} (la : a.length ≤ 4) (hb : b.length = k.length) (ba : ∀ j, (F a j).natAbs ≤ A) (bb : ∀ j, (F b j).natAbs ≤ V) (j : Nat) : (F (Nf02.times k a b) j).natAbs ≤ A * V * 2 ^ 14 := by
  rw [F_times hb hr.pos]
  exact Nat.le_trans (bd_Tm hr.small a (F b) V (entry_le ba) bb j) (Nat.mul_le_mul_left _ (geo_le la))
/-- ten to the 12 -/
def TOPN : Nat := 1000000000000
def Small (a : List Vec) : Prop := Bd TOPN a
theorem Small.pow {a : List Vec} (h : Small a) : Bd (2 ^ 40) a := h.mono (by decide)
/-! ### norms -/
def diagProd (a : List Vec) : Nat → Nat
  | 0 => 1
  | i + 1 => diagProd a i * (R a i i).natAbs
theorem norm_snoc (a : List Vec) (x : Vec) : Nf02.norm (a ++ [x]) = Nf02.norm a * (F x a.length).natAbs := by
  unfold Nf02.norm
  rw [zipIdx_snoc, List.foldl_append]; rfl
theorem diagProd_old {a : List Vec} {x : Vec} : ∀ i, i ≤ a.length → diagProd (a ++ [x]) i = diagProd a i
  | 0, _ => rfl
  | i + 1, h => by
    show diagProd (a ++ [x]) i * _ = diagProd a i * _
    rw [diagProd_old i (by omega), R_old (by omega)]
theorem norm_eq : ∀ (n : Nat) (a : List Vec), a.length = n → Nf02.norm a = diagProd a n
  | 0, a, h => by rw [List.length_eq_zero_iff.mp h]; rfl
  | n + 1, a, h => by
    rcases snoc_of a with e | ⟨b, x, e⟩
    · rw [e] at h; simp at h
    · have hb : b.length = n := by rw [e] at h; simpa using h
      rw [e, norm_snoc, norm_eq n b hb]
      show _ = diagProd (b ++ [x]) n * (R (b ++ [x]) n n).natAbs
      rw [diagProd_old n (by omega), R_new hb.symm, hb]
theorem diagProd_pos {n : Nat} {L : Fn → Prop} {a : List Vec} (h : Tri n L (R a)) : ∀ i, i ≤ n → 0 < diagProd a i
  | 0, _ => Nat.one_pos
  | i + 1, hi => Nat.mul_pos (diagProd_pos h i (by omega)) (by have := h.pos i (by omega); omega)
theorem diag_le {n : Nat} {L : Fn → Prop} {a : List Vec} (h : Tri n L (R a)) {j : Nat} : ∀ i, i ≤ n → j < i → (R a j j).natAbs ≤ diagProd a i
  | 0, _, hj => by omega
  | i + 1, hi, hj => by
    rcases Nat.lt_or_eq_of_le (Nat.le_of_lt_succ hj) with q | q
    · have := diag_le h i (by omega) q
      exact Nat.le_trans this (Nat.le_mul_of_pos_right _ (by have := h.pos i (by omega); omega))
    · rw [q]; exact Nat.le_mul_of_pos_left _ (diagProd_pos h i (by omega))
/-- rows are bounded by their own places -/
theorem hnf_bd {n N B : Nat} {L : Fn → Prop} {a : List Vec} (h : RowsOk n N L a) (hd : ∀ i, i < n → (R a i i).natAbs ≤ B) : Bd B a := fun v hv j => by
  obtain ⟨i, hi, e⟩ := mem_row hv
  rw [← e]
  have hi' : i < n := by rw [h.len] at hi; exact hi
  rcases Nat.lt_trichotomy j i with q | q | q
  · have a := h.hnf.red i hi' j q
    have b := hd j (by omega)
    omega
  · rw [q]; exact hd i hi'
  · rw [h.hnf.upto i hi' j q]; simp
theorem small_of_norm {n N : Nat} {L : Fn → Prop} {a : List Vec} (h : RowsOk n N L a) (hn : Nf02.norm a ≤ TOPN) : Small a :=
  hnf_bd h fun i hi => Nat.le_trans (diag_le h.hnf.toTri n (Nat.le_refl _) hi) (by rw [← norm_eq n a h.len]; exact hn)
theorem diag_sub {n : Nat} {L M : Fn → Prop} {a b : List Vec} (h : Tri n L (R a)) (k : Tri n M (R b)) (hs : ∀ v, L v → M v) {i : Nat} (hi : i < n) : (R b i i).natAbs ≤ (R a i i).natAbs := by
  have d := k.dvd i hi _ (hs _ (h.mem i hi)) (h.upto i hi)
  have p := h.pos i hi
  exact Nat.le_of_dvd (by omega) (Int.natAbs_dvd_natAbs.mpr d)
theorem small_sub {n N N' : Nat} {L M : Fn → Prop} {a b : List Vec} (h : RowsOk n N L a) (k : RowsOk n N' M b) (hs : ∀ v, L v → M v) (ha : Small a) : Small b :=
  hnf_bd k fun i hi => Nat.le_trans (diag_sub h.hnf.toTri k.hnf.toTri hs hi) (by
    have hl : i < a.length := by rw [h.len]; exact hi
    rw [R_at hl]; exact ha _ (List.getElem_mem hl) i)
/-! ### sum, product, made -/
structure GenPre (k : Field) (l : List Vec) : Prop where
  lens : Lens k.length l
  bd : Bd (2 ^ 100) l
  full : Full k.length (SpL l)
  many : l.length ≤ 16
theorem GenPre.gp {k : Field} {l : List Vec} (hr : Ring k) (h : GenPre k l) : GP k.length k.length l :=
  ⟨h.lens, 100, h.bd, capP.mono hr.four h.many (Nat.le_refl _) cap_4_16⟩
theorem gen_spec {k : Field} {l : List Vec} (hr : Ring k) (h : GenPre k l) : RowsOk k.length k.length (SpL l) (Nf02.rows k.length l) := rows_ok h.lens h.bd (capA_100 hr.four) h.full
theorem gen_prog {k : Field} {l : List Vec} (hr : Ring k) (h : GenPre k l) : RowsOk k.length k.length (SpL l) (rowsOf l k.length) := rowsOf_ok (h.gp hr) h.full
theorem gen_eq {k : Field} {l : List Vec} (hr : Ring k) (h : GenPre k l) : rowsOf l k.length = Nf02.rows k.length l := (gen_prog hr h).eq (SpL.lat l) (gen_spec hr h)
theorem gen_ideal {k : Field} {l : List Vec} (hr : Ring k) (h : GenPre k l) (hc : Closed k (SpL l)) : Ideal k (Nf02.rows k.length l) ∧ ∀ v, SpL (Nf02.rows k.length l) v ↔ SpL l v :=
  Ideal.of (SpL.lat l) (fun _ hv => lens_upto h.lens hv) hc (gen_spec hr h)
theorem sum_pre {k : Field} {a b : List Vec} (hr : Ring k) (ha : Ideal k a) (hb : Ideal k b) (sa : Small a) (sb : Small b) : GenPre k (a ++ b) :=
  ⟨lens_append ha.rows.lens hb.rows.lens, (bd_append sa.pow sb.pow).mono (Nat.pow_le_pow_right (by omega) (by omega)), ha.rows.hnf.toTri.full.mono fun _ h => h.left,
    by rw [List.length_append, ha.rows.len, hb.rows.len]; have := hr.four; omega⟩
theorem len_prods (k : Field) (a b : List Vec) : (prods k a b).length = a.length * b.length := by
  unfold prods
  induction a with
  | nil => simp
  | cons x a ih => rw [List.flatMap_cons, List.length_append, List.length_map, ih, List.length_cons, Nat.add_mul]; omega
theorem prod_pre {k : Field} {a b : List Vec} (hr : Ring k) (ha : Ideal k a) (hb : Ideal k b) (sa : Small a) (sb : Small b) : GenPre k (prods k a b) := by
  refine ⟨lens_prods hr.pos hb.rows.lens, fun z hz j => ?_, full_prods hr.pos ha hb, ?_⟩
  · obtain ⟨x, hx, y, hy, rfl⟩ := mem_prods.mp hz
    have := bd_times hr (A := 2 ^ 40) (V := 2 ^ 40) (by rw [ha.rows.lens x hx]; exact hr.four) (hb.rows.lens y hy) (sa.pow x hx) (sb.pow y hy) j
    refine Nat.le_trans this ?_
    rw [← Nat.pow_add, ← Nat.pow_add]
    exact Nat.pow_le_pow_right (by omega) (by omega)
  · rw [len_prods, ha.rows.len, hb.rows.len]
    exact Nat.mul_le_mul hr.four hr.four
theorem bd_it {k : Field} (hr : Ring k) {a : Vec} (ha : a.length = k.length) {V : Nat} (hv : ∀ j, (F a j).natAbs ≤ V) : ∀ i j, (F (it k i a) j).natAbs ≤ 21 ^ i * V
  | 0, j => by show (F a j).natAbs ≤ 21 ^ 0 * V; rw [Nat.pow_zero, Nat.one_mul]; exact hv j
  | i + 1, j => by
    rw [it_succ, F_up (len_it ha hr.pos i) hr.pos]
    have := bd_Up hr.small (bd_it hr ha hv i) j
    rw [Nat.pow_succ]
    have e : 21 ^ i * 21 * V = 21 * (21 ^ i * V) := by grind
    rw [e]; exact this
/-- numbers that an ideal may be made of -/
structure Nums (k : Field) (vs : List Vec) : Prop where
  lens : Lens k.length vs
  bd : Bd 100 vs
  some_ : ∃ v ∈ vs, ∃ j, F v j ≠ 0
  many : vs.length ≤ 3
theorem len_spreads (k : Field) (vs : List Vec) : (vs.flatMap (Nf02.spread k)).length = vs.length * k.length := by
  induction vs with
  | nil => simp
  | cons x a ih => rw [List.flatMap_cons, List.length_append, spread_eq, List.length_map, List.length_range, ih, List.length_cons, Nat.add_mul]; omega
theorem made_pre {k : Field} {vs : List Vec} (hr : Ring k) (h : Nums k vs) : GenPre k (vs.flatMap (Nf02.spread k)) := by
  have hl : Lens k.length (vs.flatMap (Nf02.spread k)) := fun x hx => by
    obtain ⟨a, ha, hx⟩ := List.mem_flatMap.mp hx
    obtain ⟨i, hi, rfl⟩ := mem_spread.mp hx
    exact len_it (h.lens a ha) hr.pos i
  refine ⟨hl, fun x hx j => ?_, hr.full (SpL.lat _) (closed_spread h.lens hr.pos) (fun _ hv => lens_upto hl hv) ?_, ?_⟩
  · obtain ⟨a, ha, hx⟩ := List.mem_flatMap.mp hx
    obtain ⟨i, hi, rfl⟩ := mem_spread.mp hx
    have b := bd_it hr (h.lens a ha) (h.bd a ha) i j
    have h4 := hr.four
    have e : 21 ^ i ≤ 21 ^ 3 := Nat.pow_le_pow_right (by omega) (by omega)
    have c : 21 ^ i * 100 ≤ 21 ^ 3 * 100 := Nat.mul_le_mul_right _ e
    have d : 21 ^ 3 * 100 ≤ 2 ^ 100 := by decide
    omega
  · obtain ⟨v, hv, j, hj⟩ := h.some_
    exact ⟨F v, SpL.mem (List.mem_flatMap.mpr ⟨v, hv, mem_spread.mpr ⟨0, hr.pos, rfl⟩⟩), j, hj⟩
  · rw [len_spreads]
    have a := h.many
    have b := hr.four
    have : vs.length * k.length ≤ 3 * 4 := Nat.mul_le_mul a b
    omega
/-! ### what is in common, one by another -/
structure MapPre (n : Nat) (g : Vec → Vec) (f : Fn → Fn) (src t : List Vec) : Prop where
  maps : Maps n g f src t
  many : src.length = n
  full : Full n (SpL src)
  rows : RowsOk n n (SpL t) t
  bd : Bd (2 ^ 100) (mappedL n g src t)
def mapped (n : Nat) (g : Vec → Vec) (src t : List Vec) : List Vec := halves n (rowsOf (mappedL n g src t) (2 * n))
theorem mapped_ok {n : Nat} {g : Vec → Vec} {f : Fn → Fn} {src t : List Vec} (h4 : n ≤ 4) (h : MapPre n g f src t) : RowsOk n n (MapL n f src t) (mapped n g src t) :=
  mapped_prog h.maps h.many h.full h.rows h.bd (capP.mono (by omega) (by omega) (Nat.le_refl _) cap_8_8)
theorem Tm_upto (k : Field) : ∀ (a : Vec) (v : Fn), Upto k.length v → Upto k.length (Tm k a v)
  | [], v, _ => fun j _ => rfl
  | c :: a, v, hv => (Upto.lat k.length).add _ _ ((Upto.lat k.length).smul c _ hv) (Tm_upto k a _ (Up_upto k v))
theorem maps_id {n : Nat} {a b : List Vec} (la : Lens n a) (lb : Lens n b) : Maps n (fun s => s) (fun v => v) a b := ⟨Lin.id, fun _ h => h, la, lb, la, fun _ _ _ => rfl⟩
theorem maps_times {k : Field} (h0 : 0 < k.length) {y : Vec} (ly : y.length = k.length) {a b : List Vec} (la : Lens k.length a) (lb : Lens k.length b) : Maps k.length (fun s => Nf02.times k s y) (Tm k y) a b :=
  ⟨Lin.tm k y, fun v hv => Tm_upto k y v hv, la, lb, fun s _ => len_times ly h0 s, fun s hs j => by rw [times_comm (la s hs) ly h0, F_times (la s hs) h0]⟩
theorem common_pre {k : Field} {a b : List Vec} (ha : Ideal k a) (hb : Ideal k b) (sa : Small a) (sb : Small b) : MapPre k.length (fun s => s) (fun v => v) a b :=
  ⟨maps_id ha.rows.lens hb.rows.lens, ha.rows.len, ha.rows.hnf.toTri.full, hb.rows, (bd_mapped (maps_id ha.rows.lens hb.rows.lens) sa.pow sa.pow sb.pow).mono (Nat.pow_le_pow_right (by omega) (by omega))⟩
theorem diag_small {n N : Nat} {L : Fn → Prop} {a : List Vec} (h : RowsOk n N L a) (sa : Small a) {i : Nat} (hi : i < n) : (R a i i).natAbs ≤ 2 ^ 40 := by
  have hl : i < a.length := by rw [h.len]; exact hi
  rw [R_at hl]; exact sa.pow _ (List.getElem_mem hl) i
theorem common_rows {n : Nat} {L M : Fn → Prop} {a b : List Vec} (h2 : 2 ≤ n) (h4 : n ≤ 4) (ha : RowsOk n n L a) (hb : RowsOk n n (SpL b) b) (fa : Full n (SpL a)) (sa : Small a) (sb : Small b) :
    RowsOk n n (MapL n (fun v => v) a b) (Nf02.firsts n (mappedL n (fun s => s) a b)) :=
  mapped_spec (b := 54) (maps_id ha.lens hb.lens) ha.len fa hb (fun i hi => diag_small hb sb hi)
    ((bd_mapped (maps_id ha.lens hb.lens) sa.pow sa.pow sb.pow).mono (Nat.pow_le_pow_right (by omega) (by omega))) (capB_54 h2 h4)
theorem common_spec_eq (k : Field) (a b : List Vec) : Nf02.common k a b = Nf02.firsts k.length (mappedL k.length (fun s => s) a b) := rfl
theorem common_eq {k : Field} {a b : List Vec} (hr : Ring k) (ha : Ideal k a) (hb : Ideal k b) (sa : Small a) (sb : Small b) :
    mapped k.length (fun s => s) a b = Nf02.common k a b ∧ Ideal k (Nf02.common k a b) := by
  have h1 := mapped_ok hr.four (common_pre ha hb sa sb)
  have h2 := common_rows (L := SpL a) (M := SpL b) hr.two hr.four ha.rows hb.rows ha.rows.hnf.toTri.full sa sb
  have hl : Lat (MapL k.length (fun v => v) a b) := MapL.lat Lin.id
  refine ⟨h1.eq hl h2, (Ideal.of hl (fun v hv => hv.1) (fun v hv => ⟨Up_upto k v, ha.closed v hv.2.1, hb.closed v hv.2.2⟩) h2).1⟩
/-- those that all of some take into a -/
def ByL (k : Field) (a ys : List Vec) : Fn → Prop := fun v => Upto k.length v ∧ ∀ y ∈ ys, SpL a (Tm k y v)
theorem ByL.lat (k : Field) (a ys : List Vec) : Lat (ByL k a ys) :=
  ⟨⟨fun _ _ => rfl, fun y _ => (tm_lat (SpL.lat a) y).zero⟩, fun u v hu hv => ⟨(Upto.lat _).add _ _ hu.1 hv.1, fun y hy => (tm_lat (SpL.lat a) y).add _ _ (hu.2 y hy) (hv.2 y hy)⟩,
    fun c u hu => ⟨(Upto.lat _).smul c _ hu.1, fun y hy => (tm_lat (SpL.lat a) y).smul c _ (hu.2 y hy)⟩⟩
theorem ByL.sup {k : Field} {a ys : List Vec} (ha : Ideal k a) {v : Fn} (hv : SpL a v) : ByL k a ys v := ⟨ha.upto hv, fun y _ => ha.closed.tm (SpL.lat a) y hv⟩
theorem ByL.closed {k : Field} {a ys : List Vec} (ha : Ideal k a) : Closed k (ByL k a ys) := fun v hv => ⟨Up_upto k v, fun y hy => Lat.cg (ha.closed _ (hv.2 y hy)) fun j => Tm_Up k y v j⟩
theorem F_unit (n i j : Nat) (hi : i < n) : F (Nf02.unit n i) j = E i j := by
  unfold Nf02.unit F E
  rw [List.getD_eq_getElem?_getD, List.getElem?_map]
  by_cases c : j < n
  · rw [List.getElem?_range c]; rfl
  · rw [List.getElem?_eq_none (by simp; omega), if_neg (by omega)]; rfl
theorem R_all {k : Field} {i : Nat} (hi : i < k.length) : R (Nf02.all k) i = F (Nf02.unit k.length i) := by
  unfold R Nf02.all
  rw [List.getD_eq_getElem?_getD, List.getElem?_map]
  have : i < Nf01.Field.n k := hi
  rw [List.getElem?_range this]; rfl
theorem all_rows (k : Field) : RowsOk k.length k.length (Upto k.length) (Nf02.all k) := by
  have e : ∀ i, i < k.length → ∀ j, R (Nf02.all k) i j = E i j := fun i hi j => by rw [R_all hi, F_unit _ _ _ hi]
  refine ⟨by simp [Nf02.all, Nf01.Field.n], fun x hx => ?_, ⟨⟨fun i hi j hj => ?_, fun i hi => ?_, fun i hi j hj => ?_, fun i hi v _ _ => ?_⟩, fun i hi j hj => ?_⟩⟩
  · obtain ⟨i, hi, rfl⟩ := List.mem_map.mp hx
    simp [Nf02.unit, Nf01.Field.n]
  · rw [e i hi]; unfold E; rw [if_neg (by omega)]
  · rw [e i hi]; unfold E; rw [if_pos rfl]; decide
  · rw [e i hi]; unfold E; rw [if_neg (by omega)]
  · rw [e i hi]; unfold E; rw [if_pos rfl]; exact Int.one_dvd _
  · rw [e i hi, e j (by omega)]; unfold E; rw [if_neg (by omega), if_pos rfl]; decide
theorem all_small (k : Field) : Small (Nf02.all k) := hnf_bd (all_rows k) fun i hi => by
  rw [R_all hi, F_unit _ _ _ hi]; unfold E; rw [if_pos rfl]; decide
structure ByInv (k : Field) (a ys : List Vec) (c : List Vec) : Prop where
  rows : RowsOk k.length k.length (ByL k a ys) c
  small : Small c
theorem ByInv.start {k : Field} {a : List Vec} : ByInv k a [] (Nf02.all k) := ⟨(all_rows k).congr fun v => ⟨fun h => ⟨h, fun y hy => by simp at hy⟩, fun h => h.1⟩, all_small k⟩
theorem ByInv.span {k : Field} {a ys c : List Vec} (h : ByInv k a ys c) (v : Fn) : ByL k a ys v ↔ SpL c v := h.rows.span (ByL.lat k a ys) (fun _ hv => hv.1) v
theorem ByInv.pre {k : Field} {a ys c : List Vec} {y : Vec} (hr : Ring k) (ha : Ideal k a) (sa : Small a) (h : ByInv k a ys c) (ly : y.length = k.length) (sy : ∀ j, (F y j).natAbs ≤ TOPN) :
    MapPre k.length (fun s => Nf02.times k s y) (Tm k y) c a := by
  have hm := maps_times hr.pos ly h.rows.lens ha.rows.lens
  have s40 : ∀ j, (F y j).natAbs ≤ 2 ^ 40 := fun j => Nat.le_trans (sy j) (by decide)
  refine ⟨hm, h.rows.len, h.rows.hnf.toTri.full.mono fun v hv => (h.span v).mp hv, ha.rows, bd_mapped hm (h.small.pow.mono (Nat.pow_le_pow_right (by omega) (by omega))) (fun s hs j => ?_) (sa.pow.mono (Nat.pow_le_pow_right (by omega) (by omega)))⟩
  have := bd_times hr (A := 2 ^ 40) (V := 2 ^ 40) (by rw [h.rows.lens s hs]; exact hr.four) ly (h.small.pow s hs) s40 j
  refine Nat.le_trans this ?_
  rw [← Nat.pow_add, ← Nat.pow_add]
  exact Nat.pow_le_pow_right (by omega) (by omega)
theorem ByL.more {k : Field} {a ys c : List Vec} {y : Vec} (h : ByInv k a ys c) (v : Fn) : (Upto k.length v ∧ SpL c v ∧ SpL a (Tm k y v)) ↔ ByL k a (ys ++ [y]) v := by
  rw [← h.span v]
  constructor
  · rintro ⟨_, ⟨hu, hb⟩, hy⟩
    refine ⟨hu, fun z hz => ?_⟩
    rcases List.mem_append.mp hz with q | q
    · exact hb z q
    · rw [List.mem_singleton.mp q]; exact hy
  · rintro ⟨hu, hb⟩
    exact ⟨hu, ⟨hu, fun z hz => hb z (List.mem_append.mpr (.inl hz))⟩, hb y (by simp)⟩
/-- the program's turn -/
theorem ByInv.prog {k : Field} {a ys c : List Vec} {y : Vec} (hr : Ring k) (ha : Ideal k a) (sa : Small a) (h : ByInv k a ys c) (ly : y.length = k.length) (sy : ∀ j, (F y j).natAbs ≤ TOPN) :
    ByInv k a (ys ++ [y]) (mapped k.length (fun s => Nf02.times k s y) c a) := by
  have r := (mapped_ok hr.four (h.pre hr ha sa ly sy)).congr (ByL.more h)
  exact ⟨r, small_sub ha.rows r (fun v hv => ByL.sup ha hv) sa⟩
theorem before_eq (k : Field) (a : List Vec) (y : Vec) : Nf02.before k a y = Nf02.firsts k.length (mappedL k.length (fun s => Nf02.times k s y) (Nf02.all k) a) := by
  unfold Nf02.before mappedL Nf02.all
  rw [List.map_map]
  rfl
/-- the specification's turn -/
theorem ByInv.spec {k : Field} {a ys c : List Vec} {y : Vec} (hr : Ring k) (ha : Ideal k a) (sa : Small a) (h : ByInv k a ys c) (ly : y.length = k.length) (sy : ∀ j, (F y j).natAbs ≤ TOPN) :
    ByInv k a (ys ++ [y]) (Nf02.common k c (Nf02.before k a y)) := by
  have s40 : ∀ j, (F y j).natAbs ≤ 2 ^ 40 := fun j => Nat.le_trans (sy j) (by decide)
  have hall := all_rows k
  have uall : ∀ v, Upto k.length v ↔ SpL (Nf02.all k) v := hall.span (Upto.lat _) fun _ hv => hv
  have hm := maps_times hr.pos ly hall.lens ha.rows.lens
  have bE : ∀ s ∈ Nf02.all k, ∀ j, (F s j).natAbs ≤ 1 := fun s hs j => by
    obtain ⟨i, hi, rfl⟩ := List.mem_map.mp hs
    have e : F (Nf02.unit (Nf01.Field.n k) i) j = E i j := F_unit _ _ _ (List.mem_range.mp hi)
    rw [e]
    unfold E
    split <;> decide
  have hb : RowsOk k.length k.length (MapL k.length (Tm k y) (Nf02.all k) a) (Nf02.before k a y) := by
    rw [before_eq]
    refine mapped_spec (b := 54) hm hall.len (hall.hnf.toTri.full.mono fun v hv => (uall v).mp hv) ha.rows (fun i hi => diag_small ha.rows sa hi) (bd_mapped hm (fun s hs j => Nat.le_trans (bE s hs j) (by decide)) (fun s hs j => ?_) (sa.pow.mono (Nat.pow_le_pow_right (by omega) (by omega)))) (capB_54 hr.two hr.four)
    have := bd_times hr (A := 1) (V := 2 ^ 40) (by rw [hall.lens s hs]; exact hr.four) ly (bE s hs) s40 j
    refine Nat.le_trans this ?_
    rw [Nat.one_mul, ← Nat.pow_add]
    exact Nat.pow_le_pow_right (by omega) (by omega)
  have lB : Lat (MapL k.length (Tm k y) (Nf02.all k) a) := MapL.lat (Lin.tm k y)
  have sB := hb.span lB fun v hv => hv.1
  have hB : RowsOk k.length k.length (SpL (Nf02.before k a y)) (Nf02.before k a y) := hb.congr sB
  have smB : Small (Nf02.before k a y) := small_sub ha.rows hb (fun v hv => ⟨ha.upto hv, (uall v).mp (ha.upto hv), ha.closed.tm (SpL.lat a) y hv⟩) sa
  have r := common_rows (L := ByL k a ys) (M := SpL (Nf02.before k a y)) hr.two hr.four h.rows hB (h.rows.hnf.toTri.full.mono fun v hv => (h.span v).mp hv) h.small smB
  have r2 : RowsOk k.length k.length (ByL k a (ys ++ [y])) (Nf02.common k c (Nf02.before k a y)) := by
    rw [common_spec_eq]
    refine r.congr fun v => Iff.trans ⟨fun q => ⟨q.1, q.2.1, ((sB v).mpr q.2.2).2.2⟩, fun q => ⟨q.1, q.2.1, (sB v).mp ⟨q.1, (uall v).mp q.1, q.2.2⟩⟩⟩ (ByL.more h v)
  exact ⟨r2, small_sub ha.rows r2 (fun v hv => ByL.sup ha hv) sa⟩
def byP (k : Field) (a : List Vec) (ys : List Vec) : List Vec := ys.foldl (fun c y => mapped k.length (fun s => Nf02.times k s y) c a) (Nf02.all k)
theorem by_fold {k : Field} {a : List Vec} (hr : Ring k) (ha : Ideal k a) (sa : Small a) : ∀ (bs ys c d : List Vec), Lens k.length bs → Small bs → ByInv k a ys c → ByInv k a ys d →
    ByInv k a (ys ++ bs) (bs.foldl (fun c y => mapped k.length (fun s => Nf02.times k s y) c a) c) ∧ ByInv k a (ys ++ bs) (bs.foldl (fun c y => Nf02.common k c (Nf02.before k a y)) d)
  | [], ys, c, d, _, _, h1, h2 => by rw [List.append_nil]; exact ⟨h1, h2⟩
  | y :: bs, ys, c, d, hl, hs, h1, h2 => by
    have ly := hl y (by simp)
    have sy := hs y (by simp)
    have := by_fold hr ha sa bs (ys ++ [y]) _ _ (fun z hz => hl z (List.mem_cons_of_mem _ hz)) (fun z hz => hs z (List.mem_cons_of_mem _ hz)) (h1.prog hr ha sa ly sy) (h2.spec hr ha sa ly sy)
    rw [List.append_assoc] at this
    exact this
theorem by_prefix {k : Field} {a bs : List Vec} (hr : Ring k) (ha : Ideal k a) (sa : Small a) (hl : Lens k.length bs) (hs : Small bs) : ByInv k a bs (byP k a bs) :=
  (by_fold hr ha sa bs [] _ _ hl hs ByInv.start ByInv.start).1
theorem by_eq {k : Field} {a b : List Vec} (hr : Ring k) (ha : Ideal k a) (sa : Small a) (hl : Lens k.length b) (hs : Small b) : byP k a b = Nf02.by_ k a b ∧ Ideal k (Nf02.by_ k a b) := by
  obtain ⟨h1, h2⟩ := by_fold hr ha sa b [] _ _ hl hs ByInv.start ByInv.start
  refine ⟨h1.rows.eq (ByL.lat _ _ _) h2.rows, (Ideal.of (ByL.lat k a b) (fun v hv => hv.1) (ByL.closed ha) h2.rows).1⟩
end Idl
set_option linter.all false
/-! What the program's rows_of goes through, place by place. -/
namespace Idl
open Nf02 (Vec Field up lower)
/-- all that holds of the vectors that are left, p places to go -/
structure Left (N p : Nat) (l : List Vec) : Prop where
  gp : GP N p l
  upto : ∀ x ∈ l, Upto p (F x)
  full : Full p (SpL l)
theorem Left.some_ {N p : Nat} {l : List Vec} (h : Left N (p + 1) l) : ∃ x ∈ l, F x p ≠ 0 := by
  obtain ⟨v0, hv0, n0, _⟩ := h.full p (Nat.lt_succ_self p)
  exact SpL.some_ne hv0 n0
theorem Left.down {N p : Nat} {l : List Vec} (h : Left N (p + 1) l) : Left N p (rowOthers p l).2 ∧ (rowOthers p l).1.length = N := by
  obtain ⟨B, ok, hB, g'⟩ := h.gp.next h.some_
  have upl : ∀ v, SpL l v → Upto (p + 1) v := fun v hv => SpL.upto h.upto hv
  refine ⟨⟨g', fun x hx j hj => ?_, fun j hj => ?_⟩, ok.lens _ (by simp)⟩
  · rcases Nat.lt_or_eq_of_le hj with q | q
    · exact upl _ (ok.outRest (SpL.mem hx)) j q
    · rw [← q]; exact ok.zero x hx
  · obtain ⟨v, a, b, c⟩ := h.full j (by omega)
    exact ⟨v, ok.inRest a (c p (by omega)), b, c⟩
theorem Left.ne {N p : Nat} {l : List Vec} (h : Left N (p + 1) l) : l ≠ [] := fun e => by
  obtain ⟨x, hx, _⟩ := h.some_
  rw [e] at hx; simp at hx
theorem Left.room {N p : Nat} {l : List Vec} (h : Left N (p + 1) l) : ∃ b, Bd (2 ^ b) l ∧ grown b (l.length - 1) ≤ LIM := by
  obtain ⟨b, hb, c1, c2⟩ := h.gp.cap
  exact ⟨b, hb, c2.le⟩
theorem Left.start {n : Nat} {l : List Vec} (g : GP n n l) (hf : Full n (SpL l)) : Left n n l := ⟨g, fun x hx j hj => F_out (by rw [g.lens x hx]; exact hj), hf⟩
theorem Left.len {N p : Nat} {l : List Vec} (h : Left N (p + 1) l) : (rowOthers p l).2.length + 1 = l.length := by
  obtain ⟨b, hb, c1, c2⟩ := h.gp.cap
  exact (rowOthers_ok h.gp.lens hb h.some_).2
theorem R_take {a : List Vec} {k i : Nat} (h : i < k) : R (a.take k) i = R a i := by
  unfold R
  rw [List.getD_eq_getElem?_getD, List.getD_eq_getElem?_getD, List.getElem?_take_of_lt h]
theorem StepsOk.pre {n N k : Nat} {L : Fn → Prop} {rs : List Vec} (h : StepsOk n N L rs) (hk : k ≤ n) : StepsOk k N L (rs.take k) :=
  ⟨by rw [List.length_take, h.len]; omega, fun x hx => h.lens x (List.mem_of_mem_take hx), ⟨fun i hi => by rw [R_take hi]; exact h.tri.upto i (by omega), fun i hi => by rw [R_take hi]; exact h.tri.pos i (by omega),
    fun i hi => by rw [R_take hi]; exact h.tri.mem i (by omega), fun i hi => by rw [R_take hi]; exact h.tri.dvd i (by omega)⟩⟩
/-- the rows that are made so far -/
structure Sofar (n k : Nat) (rs : List Vec) : Prop where
  len : (lower (rs.take k)).length = k
  lens : Lens n (lower (rs.take k))
  upto : ∀ i, i < k → Upto (i + 1) (R (lower (rs.take k)) i)
  pos : ∀ i, i < k → 0 < R (lower (rs.take k)) i i
  bd : Bd (2 ^ LIM) (lower (rs.take k))
theorem sofar {n k : Nat} {L : Fn → Prop} {rs : List Vec} (hL : Lat L) (h : StepsOk n n L rs) (hb : Bd (2 ^ LIM) rs) (hk : k ≤ n) : Sofar n k rs := by
  have p := h.pre hk
  have r := lower_ok hL k _ hk p
  refine ⟨r.len, r.lens, r.hnf.upto, r.hnf.pos, hnf_bd r fun i hi => ?_⟩
  rw [r.hnf.toTri.diag p.tri hi, R_take hi]
  have hl : i < rs.length := by rw [h.len]; omega
  rw [R_at hl]
  exact hb _ (List.getElem_mem hl) i
theorem lower_take {rs : List Vec} {k : Nat} {v : Vec} (h : rs[k]? = some v) : lower (rs.take (k + 1)) = lower (rs.take k) ++ [Nf02.rest (lower (rs.take k)) v] := by
  rw [take_one_more h, lower_snoc]
/-! ### lessened -/
theorem rest_take {rs : List Vec} {x v : Vec} {j : Nat} (h : rs[j]? = some x) : Nf02.rest (rs.take (j + 1)) v = Nf02.rest (rs.take j) (Nf02.plus v (Nf02.scale (0 - v.getD j 0 / x.getD j 1) x)) := by
  have hj : j < rs.length := (List.getElem?_eq_some_iff.mp h).1
  have e : (rs.take j).length = j := by rw [List.length_take]; omega
  rw [take_one_more h, rest_snoc, e]
theorem less_eq {x v : Vec} {j : Nat} (hl : v.length = x.length) (hj : j < x.length) (hp : 0 < F x j) : minusT v ((F v j).fdiv (F x j)) x = Nf02.plus v (Nf02.scale (0 - v.getD j 0 / x.getD j 1) x) := by
  rw [minusT_eq hl, getD_one hj, Int.fdiv_eq_ediv_of_nonneg _ (by omega)]
  rfl
theorem less_bd {x v : Vec} {q : Int} {a : Nat} (hl : v.length = x.length) (hv : ∀ j, (F v j).natAbs ≤ 2 ^ a) (hq : q.natAbs ≤ 2 ^ a) (hx : ∀ j, (F x j).natAbs ≤ 2 ^ LIM) (j : Nat) : (F (minusT v q x) j).natAbs ≤ 2 ^ (a + LIM + 1) := by
  rw [F_minusT q hl]
  have t := tri_abs (F v j) q (F x j)
  have m : q.natAbs * (F x j).natAbs ≤ 2 ^ a * 2 ^ LIM := Nat.mul_le_mul hq (hx j)
  have o : 2 ^ a * 1 ≤ 2 ^ a * 2 ^ LIM := Nat.mul_le_mul_left _ Nat.one_le_two_pow
  have e : 2 ^ (a + LIM + 1) = 2 ^ a * 2 ^ LIM + 2 ^ a * 2 ^ LIM := by rw [Nat.pow_succ, Nat.pow_add]; omega
  have := hv j
  rw [e]
  omega
end Idl
/-! Numbers in an ideal, classes, prime ideals. -/
set_option linter.all false
namespace Idl
open Nf02 (Vec Field)
/-! ### a number is in an ideal -/
theorem all_zero {w : Vec} : (w.all fun z => z == 0) = true ↔ ∀ j, F w j = 0 := by
  rw [List.all_eq_true]
  constructor
  · intro h j
    rcases Nat.lt_or_ge j w.length with q | q
    · have := h w[j] (List.getElem_mem q)
      have e : w[j] = 0 := by simpa using this
      simp [F, List.getD_eq_getElem?_getD, List.getElem?_eq_getElem q, e]
    · exact F_out q
  · intro h x hx
    obtain ⟨j, hj, e⟩ := List.getElem_of_mem hx
    have := h j
    simp [F, List.getD_eq_getElem?_getD, List.getElem?_eq_getElem hj, e] at this
    simp [this]
theorem has_eq {a : List Vec} {v : Vec} : Nf02.has a v = true ↔ ∀ j, F (Nf02.rest a v) j = 0 := all_zero
theorem RowsOk.rest {n : Nat} {L : Fn → Prop} {a : List Vec} (h : RowsOk n n L a) {v : Vec} (hv : v.length = n) : RestOk n n a v (Nf02.rest a v) := rest_ok n a v h.len (Nat.le_refl _) h.lens h.hnf.upto h.hnf.pos hv
theorem Ideal.has_iff {k : Field} {a : List Vec} (h : Ideal k a) {v : Vec} (hv : v.length = k.length) : Nf02.has a v = true ↔ SpL a (F v) := by
  have ro := h.rows.rest hv
  rw [has_eq]
  constructor
  · intro z
    exact Lat.cg ro.diff fun j => by rw [z j]; omega
  · intro m
    have mw : SpL a (F (Nf02.rest a v)) := Lat.cg ((SpL.lat a).sub m ro.diff) fun j => by omega
    refine h.rows.hnf.toTri.small (Nat.le_refl _) mw (h.upto mw) fun j hj => ?_
    have := ro.low j hj
    have := h.rows.hnf.pos j hj
    omega
/-! ### all numbers below limits -/
def below (l : List Nat) : List Vec := l.foldr (fun m r => (List.range m).flatMap fun (i : Nat) => r.map fun v => (i : Int) :: v) [[]]
theorem below_cons (m : Nat) (l : List Nat) : below (m :: l) = (List.range m).flatMap fun (i : Nat) => (below l).map fun v => (i : Int) :: v := rfl
theorem mem_below : ∀ {l : List Nat} {v : Vec}, v ∈ below l ↔ v.length = l.length ∧ ∀ i, i < l.length → 0 ≤ F v i ∧ F v i < ((l.getD i 0 : Nat) : Int)
  | [], v => by
    show v ∈ [[]] ↔ _
    rw [List.mem_singleton]
    constructor
    · rintro rfl
      exact ⟨rfl, fun i hi => by simp at hi⟩
    · intro h
      exact List.length_eq_zero_iff.mp h.1
  | m :: l, v => by
    rw [below_cons, List.mem_flatMap]
    constructor
    · rintro ⟨i, hi, hv⟩
      obtain ⟨u, hu, rfl⟩ := List.mem_map.mp hv
      obtain ⟨a, b⟩ := mem_below.mp hu
      refine ⟨by simp [a], fun j hj => ?_⟩
      cases j with
      | zero =>
        rw [F_zero]
        have := List.mem_range.mp hi
        show 0 ≤ (i : Int) ∧ (i : Int) < (m : Int)
        omega
      | succ j =>
        rw [F_succ]
        exact b j (by simpa using hj)
    · rintro ⟨a, b⟩
      cases v with
      | nil => simp at a
      | cons z v =>
        have h0 := b 0 (by simp)
        rw [F_zero] at h0
        have h1 : z < (m : Int) := h0.2
        refine ⟨z.toNat, List.mem_range.mpr (by omega), List.mem_map.mpr ⟨v, mem_below.mpr ⟨by simpa using a, fun j hj => ?_⟩, by rw [Int.toNat_of_nonneg h0.1]⟩⟩
        have := b (j + 1) (by simpa using hj)
        rwa [F_succ] at this
theorem len_below : ∀ l : List Nat, (below l).length = l.foldr (· * ·) 1
  | [] => rfl
  | m :: l => by
    rw [below_cons, List.length_flatMap]
    have : ∀ r : List Nat, (r.map fun (i : Nat) => ((below l).map fun v => (i : Int) :: v).length).sum = r.length * (below l).length := fun r => by
      induction r with
      | nil => simp
      | cons x r ih => rw [List.map_cons, List.sum_cons, ih, List.length_map, List.length_cons]; grind
    rw [this, List.length_range, len_below l]
    rfl
theorem nodup_below : ∀ l : List Nat, (below l).Nodup
  | [] => by show [[]].Nodup; simp
  | m :: l => by
    rw [below_cons]
    unfold List.Nodup
    rw [List.pairwise_flatMap]
    refine ⟨fun i _ => ?_, ?_⟩
    · rw [List.pairwise_map]
      exact (nodup_below l).imp fun h e => h (List.cons.inj e).2
    · refine List.Pairwise.imp (R := (· ≠ ·)) (fun {i j} h x hx y hy e => ?_) List.nodup_range
      obtain ⟨u, _, rfl⟩ := List.mem_map.mp hx
      obtain ⟨w, _, rfl⟩ := List.mem_map.mp hy
      have := (List.cons.inj e).1
      omega
theorem below_head : ∀ {l : List Nat}, (∀ d ∈ l, 0 < d) → ∃ t, below l = List.replicate l.length 0 :: t
  | [], _ => ⟨[], rfl⟩
  | m :: l, h => by
    obtain ⟨t, ht⟩ := below_head (l := l) fun d hd => h d (List.mem_cons_of_mem _ hd)
    have hm := h m (List.mem_cons_self ..)
    obtain ⟨m, rfl⟩ : ∃ q, m = q + 1 := ⟨m - 1, by omega⟩
    rw [below_cons, List.range_succ_eq_map, List.flatMap_cons, ht]
    exact ⟨_, rfl⟩
theorem flatMap_cg {α β : Type} {f g : α → List β} : ∀ {l : List α}, (∀ x ∈ l, f x = g x) → l.flatMap f = l.flatMap g
  | [], _ => rfl
  | x :: l, h => by
    rw [List.flatMap_cons, List.flatMap_cons, h x (List.mem_cons_self ..), flatMap_cg fun y hy => h y (List.mem_cons_of_mem _ hy)]
/-- .. as the program makes them -/
def belowP (l : List Nat) : List Vec := l.foldl (fun ns m => ns.flatMap fun v => (List.range m).map fun (i : Nat) => v ++ [(i : Int)]) [[]]
theorem belowP_from : ∀ (l : List Nat) (ns : List Vec), l.foldl (fun ns m => ns.flatMap fun v => (List.range m).map fun (i : Nat) => v ++ [(i : Int)]) ns = ns.flatMap fun v => (below l).map fun w => v ++ w
  | [], ns => by
    show ns = ns.flatMap fun v => [v ++ []]
    simp
  | m :: l, ns => by
    rw [List.foldl_cons, belowP_from l, List.flatMap_assoc]
    refine flatMap_cg fun v _ => ?_
    rw [below_cons, List.map_flatMap, List.flatMap_map]
    refine flatMap_cg fun i _ => ?_
    rw [List.map_map]
    refine List.map_congr_left fun w _ => ?_
    simp
theorem belowP_eq (l : List Nat) : belowP l = below l := by
  unfold belowP
  rw [belowP_from]
  simp
/-! ### classes -/
def owns (a : List Vec) : List Nat := a.zipIdx.map fun x => (x.1.getD x.2 0).toNat
theorem classes_eq (a : List Vec) : Nf02.classes a = below (owns a) := rfl
theorem len_owns (a : List Vec) : (owns a).length = a.length := by simp [owns]
theorem owns_get {a : List Vec} {i : Nat} (h : i < a.length) : (owns a).getD i 0 = (R a i i).toNat := by
  unfold owns
  rw [List.getD_eq_getElem?_getD, List.getElem?_map, List.getElem?_eq_getElem (by simpa using h)]
  simp [R_at h, F]
theorem Ideal.mem_class {k : Field} {a : List Vec} (h : Ideal k a) {v : Vec} : v ∈ below (owns a) ↔ v.length = k.length ∧ ∀ i, i < k.length → 0 ≤ F v i ∧ F v i < R a i i := by
  rw [mem_below, len_owns, h.rows.len]
  refine and_congr_right fun _ => forall_congr' fun i => forall_congr' fun hi => ?_
  rw [owns_get (by rw [h.rows.len]; exact hi)]
  have := h.rows.hnf.pos i hi
  rw [Int.toNat_of_nonneg (by omega)]
theorem Ideal.owns_pos {k : Field} {a : List Vec} (h : Ideal k a) : ∀ d ∈ owns a, 0 < d := fun d hd => by
  obtain ⟨i, hi, e⟩ := List.getElem_of_mem hd
  rw [len_owns] at hi
  have := owns_get hi
  rw [List.getD_eq_getElem?_getD, List.getElem?_eq_getElem (by rw [len_owns]; exact hi)] at this
  have e2 : (owns a)[i] = (R a i i).toNat := this
  have := h.rows.hnf.pos i (by rw [← h.rows.len]; exact hi)
  omega
theorem Ideal.rest_class {k : Field} {a : List Vec} (h : Ideal k a) {v : Vec} (hv : v.length = k.length) : Nf02.rest a v ∈ below (owns a) := by
  have ro := h.rows.rest hv
  exact h.mem_class.mpr ⟨ro.len, ro.low⟩
theorem Ideal.class_eq {k : Field} {a : List Vec} (h : Ideal k a) {u v : Vec} (hu : u ∈ below (owns a)) (hv : v ∈ below (owns a)) (hd : SpL a (fun j => F u j - F v j)) : u = v := by
  obtain ⟨a1, a2⟩ := h.mem_class.mp hu
  obtain ⟨b1, b2⟩ := h.mem_class.mp hv
  refine F_ext (by rw [a1, b1]) fun i _ => ?_
  have := h.rows.hnf.toTri.small (Nat.le_refl _) hd (h.upto hd) (fun j hj => by
    have := a2 j hj
    have := b2 j hj
    omega) i
  omega
theorem owns_prod {n : Nat} : ∀ {a : List Vec}, (∀ i, i < a.length → 0 < R a i i) → (owns a).foldr (· * ·) 1 = diagProd a a.length := fun {a} => by
  have mul : ∀ (l : List Nat) (c : Nat), l.foldr (· * ·) c = l.foldr (· * ·) 1 * c := fun l => by
    induction l with
    | nil => intro c; simp
    | cons x l ih => intro c; rw [List.foldr_cons, ih c, List.foldr_cons]; grind
  have key : ∀ (m : Nat) (a : List Vec), a.length = m → (∀ i, i < a.length → 0 < R a i i) → (owns a).foldr (· * ·) 1 = diagProd a a.length := fun m => by
    induction m with
    | zero => intro a ha _; rw [List.length_eq_zero_iff.mp ha]; rfl
    | succ m ih =>
      intro a ha hp
      rcases snoc_of a with e | ⟨b, x, rfl⟩
      · rw [e] at ha; simp at ha
      have hb : b.length = m := by simpa using ha
      have hpb : ∀ i, i < b.length → 0 < R b i i := fun i hi => by
        have := hp i (by simp; omega)
        rwa [R_old hi] at this
      have ho : owns (b ++ [x]) = owns b ++ [(F x b.length).toNat] := by
        unfold owns
        rw [zipIdx_snoc, List.map_append]
        rfl
      rw [ho, List.foldr_append, mul, ih b hb hpb]
      have hx := hp b.length (by simp)
      rw [R_new rfl] at hx
      have e1 : (b ++ [x]).length = b.length + 1 := by simp
      rw [e1]
      show _ = diagProd (b ++ [x]) b.length * (R (b ++ [x]) b.length b.length).natAbs
      rw [diagProd_old _ (Nat.le_refl _), R_new rfl]
      show _ * ((F x b.length).toNat * 1) = _
      rw [Nat.mul_one]
      congr 1
      omega
  exact key _ a rfl
theorem Ideal.many_classes {k : Field} {a : List Vec} (h : Ideal k a) : (below (owns a)).length = Nf02.norm a := by
  rw [len_below, owns_prod (n := 0) (fun i hi => h.rows.hnf.pos i (by rw [← h.rows.len]; exact hi)), norm_eq _ a rfl]
/-! ### a map of a finite set -/
theorem sub_len {α : Type} [DecidableEq α] : ∀ (l m : List α), l.Nodup → (∀ x ∈ l, x ∈ m) → l.length ≤ m.length
  | [], _, _, _ => Nat.zero_le _
  | x :: l, m, hn, hs => by
    have hn' := List.nodup_cons.mp hn
    have hx := hs x (List.mem_cons_self ..)
    have ih := sub_len l (m.erase x) hn'.2 fun y hy => (List.mem_erase_of_ne (fun e : y = x => hn'.1 (by rw [← e]; exact hy))).mpr (hs y (List.mem_cons_of_mem _ hy))
    rw [List.length_erase_of_mem hx] at ih
    have : 0 < m.length := List.length_pos_of_mem hx
    simp only [List.length_cons]
    omega
theorem onto {α : Type} [DecidableEq α] {l : List α} (hn : l.Nodup) (f : α → α) (hf : ∀ x ∈ l, f x ∈ l) (hi : ∀ x ∈ l, ∀ y ∈ l, f x = f y → x = y) {y : α} (hy : y ∈ l) : ∃ x ∈ l, f x = y := by
  refine Classical.byContradiction fun no => ?_
  have nm : (l.map f).Nodup := by
    unfold List.Nodup
    rw [List.pairwise_map]
    have := hn
    refine List.Pairwise.imp_of_mem (fun {a b} ha hb h e => h (hi a ha b hb e)) this
  have := sub_len (l.map f) (l.erase y) nm fun z hz => by
    obtain ⟨x, hx, rfl⟩ := List.mem_map.mp hz
    exact (List.mem_erase_of_ne (fun e => no ⟨x, hx, e⟩)).mpr (hf x hx)
  rw [List.length_map, List.length_erase_of_mem hy] at this
  have := List.length_pos_of_mem hy
  omega
/-! ### prime ideals -/
/-- the ideal of a and x -/
def withX (k : Field) (a : List Vec) (x : Vec) : List Vec := Nf02.rows k.length (a ++ Nf02.spread k x)
theorem it_bd {k : Field} (hr : Ring k) {x : Vec} (lx : x.length = k.length) {B : Nat} (hx : ∀ j, (F x j).natAbs ≤ B) (h : B ≤ 2 ^ 60) {i : Nat} (hi : i < k.length) (j : Nat) : (F (it k i x) j).natAbs ≤ 2 ^ 100 := by
  have h1 := bd_it hr lx hx i j
  have h2 : 21 ^ i ≤ 21 ^ 4 := Nat.pow_le_pow_right (by omega) (by have := hr.four; omega)
  have h3 := Nat.mul_le_mul h2 h
  exact Nat.le_trans h1 (Nat.le_trans h3 (by decide))
theorem with_pre {k : Field} {a : List Vec} {x : Vec} (hr : Ring k) (ha : Ideal k a) (sa : Small a) (lx : x.length = k.length) (hx : ∀ j, (F x j).natAbs ≤ 2 ^ 60) : GenPre k (a ++ Nf02.spread k x) where
  lens := lens_append ha.rows.lens fun z hz => by
    obtain ⟨i, hi, rfl⟩ := mem_spread.mp hz
    exact len_it lx hr.pos i
  bd := bd_append (sa.mono (by decide)) fun z hz => by
    obtain ⟨i, hi, rfl⟩ := mem_spread.mp hz
    exact it_bd hr lx hx (Nat.le_refl _) hi
  full := ha.rows.hnf.toTri.full.mono fun v hv => hv.left
  many := by
    have := hr.four
    rw [List.length_append, ha.rows.len, spread_eq]
    simp
    omega
theorem with_ideal {k : Field} {a : List Vec} {x : Vec} (hr : Ring k) (ha : Ideal k a) (sa : Small a) (lx : x.length = k.length) (hx : ∀ j, (F x j).natAbs ≤ 2 ^ 60) : Ideal k (withX k a x) ∧ ∀ v, SpL (withX k a x) v ↔ SpL (a ++ Nf02.spread k x) v := by
  refine gen_ideal hr (with_pre hr ha sa lx hx) (closed_append ha.closed ?_)
  have := closed_spread (vs := [x]) (fun z hz => by rw [List.mem_singleton.mp hz]; exact lx) hr.pos
  simpa using this
theorem with_small {k : Field} {a : List Vec} {x : Vec} (hr : Ring k) (ha : Ideal k a) (sa : Small a) (lx : x.length = k.length) (hx : ∀ j, (F x j).natAbs ≤ 2 ^ 60) : Small (withX k a x) := by
  have w := with_ideal hr ha sa lx hx
  exact small_sub ha.rows w.1.rows (fun v hv => (w.2 v).mpr hv.left) sa
theorem prod_one {l : List Nat} : l.foldr (· * ·) 1 = 1 ↔ ∀ d ∈ l, d = 1 := by
  induction l with
  | nil => simp
  | cons x l ih =>
    rw [List.foldr_cons]
    constructor
    · intro h d hd
      rcases List.mem_cons.mp hd with e | e
      · rw [e]; exact Nat.eq_one_of_mul_eq_one_right h
      · exact ih.mp (Nat.eq_one_of_mul_eq_one_left h) d e
    · intro h
      rw [h x (List.mem_cons_self ..), ih.mpr fun d hd => h d (List.mem_cons_of_mem _ hd)]
theorem Ideal.norm_one {k : Field} {a : List Vec} (hr : Ring k) (h : Ideal k a) : Nf02.norm a = 1 ↔ SpL a (E 0) := by
  rw [← h.many_classes, len_below, prod_one]
  constructor
  · intro q
    have h0 := hr.pos
    have e : (R a 0 0).toNat = 1 := by
      rw [← owns_get (by rw [h.rows.len]; exact h0)]
      have hl : 0 < (owns a).length := by rw [len_owns, h.rows.len]; exact h0
      rw [List.getD_eq_getElem?_getD, List.getElem?_eq_getElem hl]
      exact q _ (List.getElem_mem hl)
    refine Lat.cg (h.rows.hnf.mem 0 h0) fun j => ?_
    unfold E
    split
    · rename_i z
      rw [z]; omega
    · exact h.rows.hnf.upto 0 h0 j (by omega)
  · intro m d hd
    obtain ⟨i, hi, e⟩ := List.getElem_of_mem hd
    rw [len_owns] at hi
    have g := owns_get hi
    rw [List.getD_eq_getElem?_getD, List.getElem?_eq_getElem (by rw [len_owns]; exact hi)] at g
    have e2 : d = (R a i i).toNat := by rw [← e]; exact g
    have hik : i < k.length := by rw [← h.rows.len]; exact hi
    have mi : SpL a (E i) := Lat.cg (h.closed.upN i m) fun j => UpN_E i hik j
    have dv := h.rows.hnf.dvd i hik (E i) mi fun j hj => by unfold E; rw [if_neg (by omega)]
    have e1 : E i i = 1 := by unfold E; rw [if_pos rfl]
    rw [e1] at dv
    have := h.rows.hnf.pos i hik
    have := Int.le_of_dvd (by omega) dv
    omega
/-- whether it's prime, as the program looks -/
def primeP (k : Field) (a : List Vec) : Bool := ((below (owns a)).drop 1).all (fun x => decide (Nf02.norm (withX k a x) = 1)) && decide (0 < ((below (owns a)).drop 1).length)
theorem class_bd {k : Field} {a : List Vec} (ha : Ideal k a) (sa : Small a) {x : Vec} (hx : x ∈ below (owns a)) (j : Nat) : (F x j).natAbs ≤ 2 ^ 60 := by
  obtain ⟨lx, b⟩ := ha.mem_class.mp hx
  rcases Nat.lt_or_ge j k.length with q | q
  · have := b j q
    have s := diag_small ha.rows sa q
    have : (2 : Nat) ^ 40 ≤ 2 ^ 60 := by decide
    omega
  · rw [F_out (by omega)]; exact Nat.zero_le _
theorem mem_drop_head {l : List Vec} {z : Vec} {t : List Vec} (h : l = z :: t) (hn : l.Nodup) {x : Vec} : x ∈ l.drop 1 ↔ x ∈ l ∧ x ≠ z := by
  rw [h] at hn ⊢
  have := (List.nodup_cons.mp hn).1
  show x ∈ t ↔ _
  constructor
  · intro hx
    exact ⟨List.mem_cons_of_mem _ hx, fun e => this (e ▸ hx)⟩
  · rintro ⟨hx, ne⟩
    rcases List.mem_cons.mp hx with e | e
    · exact absurd e ne
    · exact e
theorem Ideal.outside {k : Field} {a : List Vec} (h : Ideal k a) {x : Vec} : x ∈ (below (owns a)).drop 1 ↔ x ∈ below (owns a) ∧ ¬ SpL a (F x) := by
  obtain ⟨t, ht⟩ := below_head h.owns_pos
  rw [mem_drop_head ht (nodup_below _)]
  refine and_congr_right fun hx => not_congr ?_
  rw [len_owns, h.rows.len]
  constructor
  · rintro rfl
    exact Lat.cg (SpL.lat a).zero fun j => by rw [F_zeros]
  · intro m
    have hz : List.replicate k.length (0 : Int) ∈ below (owns a) := by
      have := List.mem_cons_self (a := List.replicate (owns a).length (0 : Int)) (l := t)
      rw [← ht, len_owns, h.rows.len] at this
      exact this
    exact h.class_eq hx hz (Lat.cg m fun j => by rw [F_zeros]; omega)
theorem prime_eq {k : Field} {a : List Vec} (hr : Ring k) (ha : Ideal k a) (sa : Small a) : Nf02.prime k a = primeP k a := by
  have h0 := hr.pos
  have mc := ha.many_classes
  have lp : decide (0 < ((below (owns a)).drop 1).length) = (Nf02.norm a != 1) := by
    rw [List.length_drop, mc]
    have : 0 < Nf02.norm a := by rw [norm_eq _ a ha.rows.len]; exact diagProd_pos ha.rows.hnf.toTri _ (Nat.le_refl _)
    rw [Bool.eq_iff_iff]
    simp
    omega
  have mf : ∀ x : Vec, x ∈ (Nf02.classes a).filter (fun v => !Nf02.has a v) ↔ x ∈ (below (owns a)).drop 1 := fun x => by
    rw [ha.outside, List.mem_filter, classes_eq]
    refine and_congr_right fun hx => ?_
    have := ha.has_iff (ha.mem_class.mp hx).1
    rw [← this]
    simp
  unfold Nf02.prime primeP
  rw [lp, Bool.and_comm]
  congr 1
  rw [Bool.eq_iff_iff, List.all_eq_true, List.all_eq_true]
  constructor
  · intro P x hx
    have hxo := ha.outside.mp hx
    obtain ⟨lx, bx⟩ := ha.mem_class.mp hxo.1
    have P' : ∀ y, y ∈ below (owns a) → ¬ SpL a (F y) → ¬ SpL a (F (Nf02.times k x y)) := fun y hy ny => by
      have := P x ((mf x).mpr hx)
      rw [List.all_eq_true] at this
      have := this y ((mf y).mpr (ha.outside.mpr ⟨hy, ny⟩))
      have ly := (ha.mem_class.mp hy).1
      rw [← ha.has_iff (len_times ly h0 x)]
      simpa using this
    have l1 : (Nf02.unit k.length 0).length = k.length := by simp [Nf02.unit]
    obtain ⟨y, hy, ey⟩ := onto (nodup_below (owns a)) (fun y => Nf02.rest a (Nf02.times k x y)) (fun y hy => ha.rest_class (len_times (ha.mem_class.mp hy).1 h0 x)) (fun y hy z hz e => by
      have ly := (ha.mem_class.mp hy).1
      have lz := (ha.mem_class.mp hz).1
      have r1 := (ha.rows.rest (len_times ly h0 x)).diff
      have r2 := (ha.rows.rest (len_times lz h0 x)).diff
      have e' : Nf02.rest a (Nf02.times k x y) = Nf02.rest a (Nf02.times k x z) := e
      rw [e'] at r1
      have d : SpL a (fun j => F (Nf02.times k x y) j - F (Nf02.times k x z) j) := Lat.cg ((SpL.lat a).sub r1 r2) fun j => by omega
      have lw : (minusT y 1 z).length = k.length := by rw [len_minusT (by rw [ly, lz]), ly]
      have fw : ∀ j, F (minusT y 1 z) j = F y j - F z j := fun j => by rw [F_minusT _ (by rw [ly, lz])]; omega
      have rw_ := (ha.rows.rest lw).diff
      have cw := ha.rest_class lw
      have lc := (ha.mem_class.mp cw).1
      have m1 : SpL a (F (Nf02.rest a (minusT y 1 z))) := Classical.byContradiction fun no => P' _ cw no <| by
        have s1 : SpL a (Tm k x (fun j => F (minusT y 1 z) j - F (Nf02.rest a (minusT y 1 z)) j)) := ha.closed.tm (SpL.lat a) x rw_
        have s2 : SpL a (Tm k x (F (minusT y 1 z))) := Lat.cg d fun j => by
          rw [F_times ly h0, F_times lz h0, Tm_cg x (v := fun i => F y i + (-1) * F z i) (u := F (minusT y 1 z)) (fun i => by rw [fw]; omega), Tm_add, Tm_smul]
          omega
        refine Lat.cg ((SpL.lat a).sub s2 s1) fun j => ?_
        rw [F_times lc h0, Tm_cg x (u := fun i => F (minusT y 1 z) i - F (Nf02.rest a (minusT y 1 z)) i) (v := fun i => F (minusT y 1 z) i + (-1) * F (Nf02.rest a (minusT y 1 z)) i) (fun i => by omega), Tm_add, Tm_smul]
        omega
      refine ha.class_eq hy hz (Lat.cg ((SpL.lat a).add _ _ rw_ m1) fun j => ?_)
      rw [fw]; omega) (ha.rest_class l1)
    have ly := (ha.mem_class.mp hy).1
    have hb := class_bd ha sa hxo.1
    have W := with_ideal hr ha sa lx hb
    rw [decide_eq_true_eq, Ideal.norm_one hr W.1, W.2]
    have r1 := (ha.rows.rest (len_times ly h0 x)).diff
    have r2 := (ha.rows.rest l1).diff
    have ey' : Nf02.rest a (Nf02.times k x y) = Nf02.rest a (Nf02.unit k.length 0) := ey
    rw [ey'] at r1
    have d : SpL a (fun j => F (Nf02.times k x y) j - F (Nf02.unit k.length 0) j) := Lat.cg ((SpL.lat a).sub r1 r2) fun j => by omega
    have p : SpL (Nf02.spread k x) (F (Nf02.times k x y)) := by
      rw [times_comm lx ly h0]
      refine Lat.cg (tm_spread (L := SpL (Nf02.spread k x)) (SpL.lat _) y (F x) fun i hi => ?_) fun j => (F_times lx h0 y j).symm
      exact Lat.cg (SpL.mem (mem_spread.mpr ⟨i, by omega, rfl⟩)) fun j => F_it lx h0 i j
    refine Lat.cg ((SpL.lat _).sub (SpL.right p) (SpL.left d)) fun j => ?_
    rw [F_unit _ _ _ h0]; omega
  · intro P x hx
    have hx' := (mf x).mp hx
    have hxo := ha.outside.mp hx'
    obtain ⟨lx, bx⟩ := ha.mem_class.mp hxo.1
    rw [List.all_eq_true]
    intro y hy
    have hyo := ha.outside.mp ((mf y).mp hy)
    have ly := (ha.mem_class.mp hyo.1).1
    have hb := class_bd ha sa hxo.1
    have W := with_ideal hr ha sa lx hb
    have n1 := P x hx'
    rw [decide_eq_true_eq, Ideal.norm_one hr W.1, W.2] at n1
    have key : Nf02.has a (Nf02.times k x y) = true → False := fun m => by
      rw [ha.has_iff (len_times ly h0 x)] at m
      refine hyo.2 ?_
      have m' : SpL a (Tm k y (F x)) := by
        rw [times_comm lx ly h0] at m
        exact Lat.cg m fun j => F_times lx h0 y j
      have all : SpL a (Tm k y (E 0)) := SpL.le (tm_lat (SpL.lat a) y) (fun z hz => by
        rcases List.mem_append.mp hz with q | q
        · exact ha.closed.tm (SpL.lat a) y (SpL.mem q)
        · obtain ⟨i, hi, rfl⟩ := mem_spread.mp q
          have key : ∀ i, SpL a (Tm k y (UpN k i (F x))) := fun i => by
            have c := ha.closed.upN i m'
            have cm : ∀ (i : Nat) (v : Fn) (j : Nat), UpN k i (Tm k y v) j = Tm k y (UpN k i v) j := fun i => by
              induction i with
              | zero => intro v j; rfl
              | succ i ih =>
                intro v j
                rw [UpN_succ, UpN_succ, ← ih]
                have : Up k (Tm k y v) = Tm k y (Up k v) := funext (Tm_Up k y v)
                rw [this]
            exact Lat.cg c fun j => cm i (F x) j
          exact Lat.cg (key i) fun j => Tm_cg y (fun q => (F_it lx h0 i q).symm) j) n1
      exact Lat.cg all fun j => Tm_one (by omega) j
    cases e : Nf02.has a (Nf02.times k x y) with
    | true => exact (key e).elim
    | false => rfl
end Idl
/-! All ideals of a norm. -/
set_option linter.all false
namespace Idl
open Nf02 (Vec Field)
/-! ### own numbers -/
/-- own numbers, as the program looks for them -/
def ownsOf : Nat → Nat → Nat → List (List Nat)
  | 0, m, _ => if m = 1 then [[]] else []
  | n + 1, m, g => (List.range m).flatMap fun i => if m % (i + 1) = 0 ∧ g % (i + 1) = 0 then (ownsOf n (m / (i + 1)) (i + 1)).map fun l => (i + 1) :: l else []
def chain : Nat → List Nat → Bool
  | _, [] => true
  | g, d :: l => g % d == 0 && chain d l
theorem ownsOf_eq : ∀ n m g, ownsOf n m g = (Nf02.shapes n m).filter (chain g)
  | 0, m, g => by
    show (if m = 1 then [[]] else []) = List.filter (chain g) (if m = 1 then [[]] else [])
    split
    · rfl
    · rfl
  | n + 1, m, g => by
    show _ = List.filter (chain g) ((List.range m).flatMap fun i => if m % (i + 1) = 0 then (Nf02.shapes n (m / (i + 1))).map fun l => (i + 1) :: l else [])
    rw [List.filter_flatMap]
    refine flatMap_cg fun i _ => ?_
    by_cases h : m % (i + 1) = 0
    · rw [if_pos h, List.filter_map]
      by_cases h2 : g % (i + 1) = 0
      · rw [if_pos ⟨h, h2⟩, ownsOf_eq]
        congr 1
        refine List.filter_congr fun l _ => ?_
        show chain (i + 1) l = (g % (i + 1) == 0 && chain (i + 1) l)
        rw [h2]; rfl
      · rw [if_neg (fun q => h2 q.2)]
        have : List.filter (chain g ∘ fun l => (i + 1) :: l) (Nf02.shapes n (m / (i + 1))) = [] := by
          rw [List.filter_eq_nil_iff]
          intro l _
          show ¬ (g % (i + 1) == 0 && chain (i + 1) l) = true
          simp [h2]
        rw [this]; rfl
    · rw [if_neg h, if_neg (fun q => h q.1)]; rfl
structure Own (n m : Nat) (l : List Nat) : Prop where
  len : l.length = n
  pos : ∀ d ∈ l, 0 < d
  prod : l.foldr (· * ·) 1 = m
theorem shapes_own : ∀ {n m : Nat} {l : List Nat}, l ∈ Nf02.shapes n m → Own n m l
  | 0, m, l, h => by
    have h' : l ∈ (if m = 1 then [[]] else ([] : List (List Nat))) := h
    split at h'
    · rename_i e
      rw [List.mem_singleton.mp h', e]
      exact ⟨rfl, fun d hd => by simp at hd, rfl⟩
    · simp at h'
  | n + 1, m, l, h => by
    have h' : l ∈ (List.range m).flatMap fun i => if m % (i + 1) = 0 then (Nf02.shapes n (m / (i + 1))).map fun l => (i + 1) :: l else [] := h
    obtain ⟨i, hi, hl⟩ := List.mem_flatMap.mp h'
    split at hl
    · rename_i e
      obtain ⟨l', hl', rfl⟩ := List.mem_map.mp hl
      have o := shapes_own hl'
      refine ⟨by simp [o.len], fun d hd => ?_, ?_⟩
      · rcases List.mem_cons.mp hd with q | q
        · omega
        · exact o.pos d q
      · rw [List.foldr_cons, o.prod]
        exact Nat.mul_div_cancel' (Nat.dvd_of_mod_eq_zero e)
    · simp at hl
/-! ### rows with own numbers -/
def rowOf (n p d : Nat) (v : Vec) : Vec := v ++ (d : Int) :: List.replicate (n - 1 - p) 0
def choices (n : Nat) (ahead : List Nat) (d : Nat) : List Vec := (below ahead).map (rowOf n ahead.length d)
theorem fill_cons (n : Nat) (ahead : List Nat) (d : Nat) (l : List Nat) : Nf02.fill n ahead (d :: l) = (below ahead).flatMap fun v => (Nf02.fill n (ahead ++ [d]) l).map fun r => rowOf n ahead.length d v :: r := rfl
structure IsRow (n p d : Nat) (r : Vec) : Prop where
  len : r.length = n
  own : F r p = d
  upto : Upto (p + 1) (F r)
theorem row_is {n : Nat} {ahead : List Nat} {d : Nat} {v : Vec} (hp : ahead.length < n) (hv : v ∈ below ahead) : IsRow n ahead.length d (rowOf n ahead.length d v) := by
  have lv := (mem_below.mp hv).1
  have fv : ∀ j, F (rowOf n ahead.length d v) j = if j < ahead.length then F v j else F ((d : Int) :: List.replicate (n - 1 - ahead.length) 0) (j - ahead.length) := fun j => F_cat lv j
  refine ⟨by simp [rowOf, lv]; omega, ?_, fun j hj => ?_⟩
  · rw [fv, if_neg (by omega), Nat.sub_self]; rfl
  · rw [fv, if_neg (by omega)]
    obtain ⟨q, hq⟩ : ∃ q, j - ahead.length = q + 1 := ⟨j - ahead.length - 1, by omega⟩
    rw [hq, F_succ, F_zeros]
/-- rows as far as these own numbers go -/
structure Shape (n : Nat) (own : List Nat) (rs : List Vec) : Prop where
  len : rs.length = own.length
  row : ∀ i, i < own.length → IsRow n i (own.getD i 0) (rs.getD i [])
theorem getD_mem {rs : List Vec} {x : Vec} (h : x ∈ rs) : ∃ i, i < rs.length ∧ rs.getD i [] = x := by
  obtain ⟨i, hi, e⟩ := List.getElem_of_mem h
  exact ⟨i, hi, by rw [List.getD_eq_getElem?_getD, List.getElem?_eq_getElem hi]; exact e⟩
theorem mem_getD {rs : List Vec} {i : Nat} (h : i < rs.length) : rs.getD i [] ∈ rs := by
  rw [List.getD_eq_getElem?_getD, List.getElem?_eq_getElem h]
  exact List.getElem_mem h
theorem Shape.lens {n : Nat} {own : List Nat} {rs : List Vec} (h : Shape n own rs) : Lens n rs := fun x hx => by
  obtain ⟨i, hi, rfl⟩ := getD_mem hx
  exact (h.row i (by rw [← h.len]; exact hi)).len
theorem getD_old {α : Type} {a b : List α} {i : Nat} {z : α} (h : i < a.length) : (a ++ b).getD i z = a.getD i z := by
  rw [List.getD_eq_getElem?_getD, List.getD_eq_getElem?_getD, List.getElem?_append_left h]
theorem getD_new {α : Type} {a b : List α} {x z : α} {i : Nat} (h : i = a.length) : (a ++ x :: b).getD i z = x := by
  rw [List.getD_eq_getElem?_getD, h, List.getElem?_append_right (Nat.le_refl _)]
  simp
theorem Shape.snoc {n : Nat} {own : List Nat} {rs : List Vec} (h : Shape n own rs) {d : Nat} {r : Vec} (hr : IsRow n own.length d r) : Shape n (own ++ [d]) (rs ++ [r]) := by
  refine ⟨by simp [h.len], fun i hi => ?_⟩
  rw [List.length_append] at hi
  rcases Nat.lt_or_eq_of_le (Nat.le_of_lt_succ hi) with q | q
  · rw [getD_old q, getD_old (by rw [h.len]; exact q)]
    exact h.row i q
  · have q' : i = own.length := q
    rw [getD_new q', getD_new (by rw [h.len]; exact q'), q']
    exact hr
theorem Shape.cons {n : Nat} {own l : List Nat} {rs r : List Vec} {d : Nat} {x : Vec} (h : Shape n ((own ++ [d]) ++ l) ((rs ++ [x]) ++ r)) : Shape n (own ++ d :: l) (rs ++ x :: r) := by
  rwa [List.append_assoc, List.append_assoc] at h
/-- what is filled in has the shape -/
theorem fill_shape {n : Nat} : ∀ {l ahead : List Nat} {rs r : List Vec}, ahead.length + l.length = n → Shape n ahead rs → r ∈ Nf02.fill n ahead l → Shape n (ahead ++ l) (rs ++ r)
  | [], ahead, rs, r, hn, hs, hr => by
    have : r = [] := List.mem_singleton.mp hr
    rw [this, List.append_nil, List.append_nil]; exact hs
  | d :: l, ahead, rs, r, hn, hs, hr => by
    rw [fill_cons] at hr
    obtain ⟨v, hv, hr⟩ := List.mem_flatMap.mp hr
    obtain ⟨q, hq, rfl⟩ := List.mem_map.mp hr
    simp only [List.length_cons] at hn
    exact (fill_shape (by simp; omega) (hs.snoc (row_is (d := d) (by omega) hv)) hq).cons
/-! ### what is taken away -/
theorem plus_zero {v x : Vec} (h : v.length = x.length) : Nf02.plus v (Nf02.scale 0 x) = v := by
  have hl : v.length = (Nf02.scale 0 x).length := by rw [len_scale, h]
  refine F_ext (len_plus hl) fun i _ => ?_
  rw [F_plus hl, F_scale]; omega
theorem rest_front {n : Nat} {a : List Vec} {v : Vec} (hv : v.length = n) (hu : Upto a.length (F v)) : ∀ (m : Nat) (b : List Vec), b.length = m → Lens n (a ++ b) → Nf02.rest (a ++ b) v = Nf02.rest a v
  | 0, b, hb, _ => by rw [List.length_eq_zero_iff.mp hb, List.append_nil]
  | m + 1, b, hb, hl => by
    rcases snoc_of b with e | ⟨c, x, rfl⟩
    · rw [e] at hb; simp at hb
    have lx : x.length = n := hl x (by simp)
    rw [← List.append_assoc, rest_snoc]
    have z : v.getD (a ++ c).length 0 = 0 := hu _ (by simp)
    rw [z, show (0 : Int) - 0 / x.getD (a ++ c).length 1 = 0 by simp, plus_zero (by rw [hv, lx])]
    exact rest_front hv hu m c (by simpa using hb) fun y hy => hl y (by
      rcases List.mem_append.mp hy with q | q
      · exact List.mem_append.mpr (.inl q)
      · exact List.mem_append.mpr (.inr (List.mem_append.mpr (.inl q))))
theorem has_front {n : Nat} {a b : List Vec} {v : Vec} (hv : v.length = n) (hu : Upto a.length (F v)) (hl : Lens n (a ++ b)) : Nf02.has (a ++ b) v = Nf02.has a v := by
  unfold Nf02.has
  rw [rest_front hv hu _ b rfl hl]
/-- t times a row has nothing behind the next place -/
theorem up_row {k : Field} {p d : Nat} {r : Vec} (h : IsRow k.length p d r) (hp : p + 1 < k.length) : (Nf02.up k r).length = k.length ∧ Upto (p + 2) (F (Nf02.up k r)) ∧ F (Nf02.up k r) (p + 1) = d := by
  have h0 : 0 < k.length := by omega
  have last : F r (k.length - 1) = 0 := h.upto _ (by omega)
  refine ⟨len_up h.len h0, fun j hj => ?_, ?_⟩
  · rw [F_up h.len h0]
    unfold Up
    rw [last]
    split
    · rw [if_neg (by omega), h.upto (j - 1) (by omega)]; simp
    · rfl
  · rw [F_up h.len h0]
    unfold Up
    rw [last, if_pos hp, if_neg (by omega), Nat.add_sub_cancel, h.own]; simp
/-- closed under t, as the specification looks -/
def turned (k : Field) (a : List Vec) : Bool := a.all fun r => Nf02.has a (Nf02.up k r)
def fits (k : Field) (rs : List Vec) (row : Vec) : Bool := rs.isEmpty || Nf02.has (rs ++ [row]) (Nf02.up k (rs.getLastD []))
def whole (k : Field) (rs : List Vec) : Bool := Nf02.has rs (Nf02.up k (rs.getLastD []))
def goes (k : Field) : List Nat → List Nat → List Vec → List (List Vec)
  | _, [], rs => if whole k rs = true then [rs] else []
  | ahead, d :: l, rs => (choices k.length ahead d).flatMap fun row => if fits k rs row = true then goes k (ahead ++ [d]) l (rs ++ [row]) else []
theorem last_getD {rs : List Vec} (h : 0 < rs.length) : rs.getLastD [] = rs.getD (rs.length - 1) [] := by
  rw [List.getLastD_eq_getLast?, List.getLast?_eq_getElem?, List.getD_eq_getElem?_getD]
theorem goes_eq {k : Field} (h0 : 0 < k.length) : ∀ (l ahead : List Nat) (rs : List Vec), ahead.length + l.length = k.length → Shape k.length ahead rs → (∀ i, i + 1 < rs.length → Nf02.has rs (Nf02.up k (rs.getD i [])) = true) →
    goes k ahead l rs = ((Nf02.fill k.length ahead l).filter fun r => turned k (rs ++ r)).map fun r => rs ++ r
  | [], ahead, rs, hn, hs, soft => by
    have hl : rs.length = k.length := by rw [hs.len]; simpa using hn
    have e : turned k rs = whole k rs := by
      rw [Bool.eq_iff_iff]
      unfold turned
      rw [List.all_eq_true]
      constructor
      · intro h
        have := h (rs.getLastD []) (by rw [last_getD (by omega)]; exact mem_getD (by omega))
        exact this
      · intro h x hx
        obtain ⟨i, hi, rfl⟩ := getD_mem hx
        rcases Nat.lt_or_ge (i + 1) rs.length with q | q
        · exact soft i q
        · have : rs.getD i [] = rs.getLastD [] := by rw [last_getD (by omega)]; congr 1; omega
          rw [this]; exact h
    show (if whole k rs = true then [rs] else []) = List.map (fun r => rs ++ r) (List.filter (fun r => turned k (rs ++ r)) [[]])
    rw [← e]
    cases q : turned k rs <;> simp [q]
  | d :: l, ahead, rs, hn, hs, soft => by
    simp only [List.length_cons] at hn
    rw [fill_cons, List.filter_flatMap, List.map_flatMap]
    show (choices k.length ahead d).flatMap _ = _
    unfold choices
    rw [List.flatMap_map]
    refine flatMap_cg fun v hv => ?_
    have ir := row_is (n := k.length) (d := d) (show ahead.length < k.length by omega) hv
    have hs' := hs.snoc ir
    rw [List.filter_map, List.map_map]
    by_cases hf : fits k rs (rowOf k.length ahead.length d v) = true
    · rw [if_pos hf, goes_eq h0 l (ahead ++ [d]) _ (by simp; omega) hs' fun i hi => ?_]
      · have e1 : ∀ r : List Vec, rs ++ [rowOf k.length ahead.length d v] ++ r = rs ++ rowOf k.length ahead.length d v :: r := fun r => by simp
        have e2 : ((fun r => turned k (rs ++ r)) ∘ fun r => rowOf k.length ahead.length d v :: r) = fun r => turned k (rs ++ [rowOf k.length ahead.length d v] ++ r) := funext fun r => by
          show turned k (rs ++ rowOf k.length ahead.length d v :: r) = _
          rw [e1]
        rw [e2]
        refine List.map_congr_left fun r _ => ?_
        exact e1 r
      · rw [List.length_append, List.length_singleton] at hi
        have hir : i < rs.length := by omega
        have hi2 : i < ahead.length := by rw [← hs.len]; exact hir
        rw [getD_old hir]
        rcases Nat.lt_or_ge (i + 1) rs.length with q | q
        · have u := up_row (hs.row i hi2) (by have := hs.len; omega)
          rw [has_front u.1 (u.2.1.mono (by omega)) hs'.lens]
          exact soft i q
        · unfold fits at hf
          have ne : rs.isEmpty = false := by cases rs with
            | nil => simp at hir
            | cons => rfl
          rw [ne, Bool.false_or, last_getD (by omega)] at hf
          have : rs.length - 1 = i := by omega
          rwa [this] at hf
    · rw [if_neg hf]
      have : List.filter ((fun r => turned k (rs ++ r)) ∘ fun r => rowOf k.length ahead.length d v :: r) (Nf02.fill k.length (ahead ++ [d]) l) = [] := by
        rw [List.filter_eq_nil_iff]
        intro r hr ht
        apply hf
        unfold fits
        cases rs with
        | nil => rfl
        | cons y rs =>
          show Nf02.has _ _ = true
          have ht' : turned k ((y :: rs) ++ rowOf k.length ahead.length d v :: r) = true := ht
          unfold turned at ht'
          rw [List.all_eq_true] at ht'
          have hlast := last_getD (rs := y :: rs) (by simp)
          have hlt : (y :: rs).length - 1 < ahead.length := by have := hs.len; simp at this ⊢; omega
          have u := up_row (hs.row _ hlt) (by omega)
          rw [← hlast] at u
          have hm : (y :: rs).getLastD [] ∈ (y :: rs) ++ rowOf k.length ahead.length d v :: r := List.mem_append.mpr (.inl (by rw [hlast]; exact mem_getD (by simp)))
          have h1 := ht' _ hm
          have sh := fill_shape (by simp; omega) hs' hr
          rw [← has_front (b := r) u.1 (u.2.1.mono (by simp)) sh.lens]
          have e1 : y :: rs ++ [rowOf k.length ahead.length d v] ++ r = (y :: rs) ++ rowOf k.length ahead.length d v :: r := by simp
          rw [e1]; exact h1
      rw [this]; rfl
/-! ### own numbers divide those ahead -/
theorem turned_div {k : Field} {own : List Nat} {a : List Vec} (hn : own.length = k.length) (hp : ∀ d ∈ own, 0 < d) (hs : Shape k.length own a) (ht : turned k a = true) {i : Nat} (hi : i + 1 < k.length) : own.getD (i + 1) 0 ∣ own.getD i 0 := by
  have la : a.length = k.length := by rw [hs.len, hn]
  unfold turned at ht
  rw [List.all_eq_true] at ht
  have h1 := ht _ (mem_getD (rs := a) (i := i) (by omega))
  have u := up_row (hs.row i (by omega)) hi
  have pos : ∀ j, j < own.length → 0 < own.getD j 0 := fun j hj => by
    rw [List.getD_eq_getElem?_getD, List.getElem?_eq_getElem hj]
    exact hp _ (List.getElem_mem hj)
  have rowI := hs.row (i + 1) (by omega)
  have e : a = a.take (i + 2) ++ a.drop (i + 2) := (List.take_append_drop _ _).symm
  have lt : (a.take (i + 2)).length = i + 2 := by rw [List.length_take]; omega
  have h2 : Nf02.has (a.take (i + 2) ++ a.drop (i + 2)) (Nf02.up k (a.getD i [])) = true := by rw [← e]; exact h1
  rw [has_front u.1 (by rw [lt]; exact u.2.1) (by rw [← e]; exact hs.lens)] at h2
  have ro := rest_ok (i + 2) (a.take (i + 2)) (Nf02.up k (a.getD i [])) lt (by omega) (fun x hx => hs.lens x (List.mem_of_mem_take hx)) (fun j hj => by
    rw [R_take hj]; exact (hs.row j (by omega)).upto) (fun j hj => by
    rw [R_take hj]
    have := (hs.row j (by omega)).own
    have := pos j (by omega)
    show 0 < F (a.getD j []) j
    omega) u.1
  have z := has_eq.mp h2
  -- the row at i + 1 alone has something there
  have key : ∃ c : Int, F (Nf02.up k (a.getD i [])) (i + 1) = c * (own.getD (i + 1) 0 : Nat) := by
    have L : Lat (fun v : Fn => ∃ c : Int, v (i + 1) = c * (own.getD (i + 1) 0 : Nat)) := ⟨⟨0, by simp⟩, fun u v ⟨c, hc⟩ ⟨d, hd⟩ => ⟨c + d, by show u (i + 1) + v (i + 1) = _; rw [hc, hd, Int.add_mul]⟩, fun c u ⟨d, hd⟩ => ⟨c * d, by show c * u (i + 1) = _; rw [hd, Int.mul_assoc]⟩⟩
    have := SpL.le L (fun x hx => by
      obtain ⟨j, hj, rfl⟩ := getD_mem hx
      rw [lt] at hj
      have ej : (a.take (i + 2)).getD j [] = a.getD j [] := by
        rw [List.getD_eq_getElem?_getD, List.getD_eq_getElem?_getD, List.getElem?_take_of_lt hj]
      rw [ej]
      rcases Nat.lt_or_eq_of_le (Nat.le_of_lt_succ hj) with q | q
      · exact ⟨0, by rw [(hs.row j (by omega)).upto (i + 1) (by omega)]; simp⟩
      · exact ⟨1, by rw [q, rowI.own]; simp⟩) ro.diff
    obtain ⟨c, hc⟩ := this
    exact ⟨c, by rw [← hc, z (i + 1)]; omega⟩
  rw [u.2.2] at key
  obtain ⟨c, hc⟩ := key
  exact Int.natCast_dvd_natCast.mp ⟨c, by rw [hc, Int.mul_comm]⟩
theorem chain_of : ∀ {l : List Nat} {g : Nat}, (∀ d, l.head? = some d → d ∣ g) → (∀ i, i + 1 < l.length → l.getD (i + 1) 0 ∣ l.getD i 0) → chain g l = true
  | [], _, _, _ => rfl
  | d :: l, g, hg, h => by
    show (g % d == 0 && chain d l) = true
    rw [Bool.and_eq_true]
    refine ⟨by rw [Nat.mod_eq_zero_of_dvd (hg d rfl)]; rfl, chain_of (fun e he => ?_) fun i hi => ?_⟩
    · cases l with
      | nil => simp at he
      | cons x l =>
        have := h 0 (by simp)
        have ex : x = e := Option.some.inj he
        rw [← ex]; exact this
    · exact h (i + 1) (by simpa using hi)
/-! ### as the program grows them -/
def grow (k : Field) (own : List Nat) : Nat → List (List Vec)
  | 0 => [[]]
  | p + 1 => (grow k own p).flatMap fun rs => ((choices k.length (own.take p) (own.getD p 0)).filter (fits k rs)).map fun row => rs ++ [row]
def withOwn (k : Field) (own : List Nat) : List (List Vec) := (grow k own own.length).filter (whole k)
theorem flatMap_filter_map {α β γ : Type} {p : α → Bool} {f : α → β} {g : β → List γ} : ∀ l : List α, ((l.filter p).map f).flatMap g = l.flatMap fun x => if p x = true then g (f x) else []
  | [] => rfl
  | x :: l => by
    rw [List.flatMap_cons, ← flatMap_filter_map l, List.filter_cons]
    split
    · rw [List.map_cons, List.flatMap_cons]
    · rfl
theorem grow_goes (k : Field) (own : List Nat) : ∀ p, p ≤ own.length → (grow k own p).flatMap (goes k (own.take p) (own.drop p)) = goes k [] own []
  | 0, _ => by simp [grow]
  | p + 1, hp => by
    rw [← grow_goes k own p (by omega)]
    show ((grow k own p).flatMap _).flatMap _ = _
    rw [List.flatMap_assoc]
    refine flatMap_cg fun rs _ => ?_
    rw [flatMap_filter_map]
    have e : own.drop p = own.getD p 0 :: own.drop (p + 1) := by
      rw [List.drop_eq_getElem_cons (by omega), List.getD_eq_getElem?_getD, List.getElem?_eq_getElem (by omega)]; rfl
    rw [e]
    show _ = (choices k.length (own.take p) (own.getD p 0)).flatMap fun row => if fits k rs row = true then goes k (own.take p ++ [own.getD p 0]) (own.drop (p + 1)) (rs ++ [row]) else []
    have e2 : own.take (p + 1) = own.take p ++ [own.getD p 0] := by
      rw [List.take_add_one, List.getElem?_eq_getElem (by omega), List.getD_eq_getElem?_getD, List.getElem?_eq_getElem (by omega)]; rfl
    rw [e2]
theorem withOwn_goes (k : Field) (own : List Nat) : withOwn k own = goes k [] own [] := by
  rw [← grow_goes k own own.length (Nat.le_refl _)]
  unfold withOwn
  have : own.drop own.length = [] := by simp
  rw [this, ← List.flatMap_singleton' (List.filter (whole k) (grow k own own.length))]
  have : ∀ l : List (List Vec), (l.filter (whole k)).flatMap (fun x => [x]) = l.flatMap (goes k (own.take own.length) []) := fun l => by
    have := flatMap_filter_map (p := whole k) (f := fun x => x) (g := fun x => [x]) l
    rw [List.map_id'] at this
    exact this
  exact this _
theorem withOwn_eq {k : Field} {own : List Nat} (h0 : 0 < k.length) (hn : own.length = k.length) : withOwn k own = (Nf02.fill k.length [] own).filter (turned k) := by
  rw [withOwn_goes, goes_eq h0 own [] [] (by simpa using hn) ⟨rfl, fun i hi => by simp at hi⟩ fun i hi => by simp at hi]
  simp
/-- all ideals of a norm, as the program makes them -/
def ofNormP (k : Field) (m : Nat) : List (List Vec) := (ownsOf k.length m m).flatMap (withOwn k)
theorem flatMap_where {α β : Type} {p : α → Bool} {f : α → List β} : ∀ {l : List α}, (∀ x ∈ l, p x = false → f x = []) → l.flatMap f = (l.filter p).flatMap f
  | [], _ => rfl
  | x :: l, h => by
    rw [List.flatMap_cons, flatMap_where fun y hy => h y (List.mem_cons_of_mem _ hy), List.filter_cons]
    cases e : p x with
    | true => rw [if_pos rfl, List.flatMap_cons]
    | false => rw [if_neg (by simp), h x (List.mem_cons_self ..) e]; rfl
theorem ofNorm_eq {k : Field} (h0 : 0 < k.length) (m : Nat) : Nf02.ofNorm k m = ofNormP k m := by
  show ((Nf02.shapes k.length m).flatMap (Nf02.fill k.length [])).filter (turned k) = _
  unfold ofNormP
  rw [ownsOf_eq, List.filter_flatMap, flatMap_where (p := chain m)]
  · refine flatMap_cg fun own ho => ?_
    have o := shapes_own (List.mem_filter.mp ho).1
    rw [withOwn_eq h0 o.len]
  · intro own ho hc
    have o := shapes_own ho
    rw [List.filter_eq_nil_iff]
    intro a ha ht
    have sh := fill_shape (rs := []) (by simp [o.len]) (⟨rfl, fun i hi => by simp at hi⟩) ha
    have : chain m own = true := chain_of (fun d hd => by
      cases hown : own with
      | nil => rw [hown] at hd; simp at hd
      | cons x l =>
        rw [hown] at hd
        have ex : x = d := Option.some.inj hd
        have := o.prod
        rw [hown, List.foldr_cons] at this
        rw [← ex, ← this]
        exact Nat.dvd_mul_right _ _) fun i hi => turned_div o.len o.pos sh ht (by rw [← o.len]; exact hi)
    rw [this] at hc
    cases hc
/-! ### how many -/
theorem few_owns : ∀ m, m < 31 → ∀ g, g < 31 → ∀ n, n < 5 → (ownsOf n m g).length ≤ 20 := by decide +kernel
theorem prod_take : ∀ (l : List Nat) (p : Nat), (∀ d ∈ l, 0 < d) → (l.take p).foldr (· * ·) 1 ≤ l.foldr (· * ·) 1
  | [], p, _ => by simp
  | x :: l, 0, h => by
    have ih := prod_take l 0 fun d hd => h d (List.mem_cons_of_mem _ hd)
    have := h x (List.mem_cons_self ..)
    show 1 ≤ x * _
    have := Nat.mul_le_mul this ih
    simpa using this
  | x :: l, p + 1, h => by
    show x * _ ≤ x * _
    exact Nat.mul_le_mul_left _ (prod_take l p fun d hd => h d (List.mem_cons_of_mem _ hd))
theorem len_choices {n m : Nat} {own : List Nat} (o : Own n m own) (p : Nat) : (choices n (own.take p) (own.getD p 0)).length ≤ m := by
  unfold choices
  rw [List.length_map, len_below, ← o.prod]
  exact prod_take own p o.pos
theorem len_flatMap_le {α β : Type} {f : α → List β} {c : Nat} : ∀ {l : List α}, (∀ x ∈ l, (f x).length ≤ c) → (l.flatMap f).length ≤ l.length * c
  | [], _ => by simp
  | x :: l, h => by
    rw [List.flatMap_cons, List.length_append, List.length_cons, Nat.add_mul, Nat.one_mul]
    have := len_flatMap_le (f := f) (c := c) (l := l) fun y hy => h y (List.mem_cons_of_mem _ hy)
    have := h x (List.mem_cons_self ..)
    omega
theorem grow_len {k : Field} {m : Nat} {own : List Nat} (o : Own k.length m own) : ∀ p, (grow k own (p + 1)).length ≤ m ^ p
  | 0 => by
    show (([[]] : List (List Vec)).flatMap fun rs => ((choices k.length (own.take 0) (own.getD 0 0)).filter (fits k rs)).map fun row => rs ++ [row]).length ≤ 1
    rw [List.flatMap_cons, List.flatMap_nil, List.append_nil, List.length_map]
    refine Nat.le_trans (List.length_filter_le _ _) ?_
    unfold choices
    rw [List.length_map, len_below]
    simp
  | p + 1 => by
    show ((grow k own (p + 1)).flatMap _).length ≤ _
    refine Nat.le_trans (len_flatMap_le (c := m) fun rs _ => ?_) ?_
    · rw [List.length_map]
      exact Nat.le_trans (List.length_filter_le _ _) (len_choices o _)
    · rw [Nat.pow_succ]
      exact Nat.mul_le_mul_right _ (grow_len o p)
end Idl
/-! made of 0; what a call's numbers are. -/
set_option linter.all false
namespace Idl
open Nf02 (Vec Field)
theorem euclid_zero {i : Nat} {l : List Vec} (h : ∀ x ∈ l, F x i = 0) : ∀ f, Nf02.euclid i f l = (none, l)
  | 0 => rfl
  | f + 1 => by
    have e1 : l.filter (fun r => r.getD i 0 != 0) = [] := by
      rw [List.filter_eq_nil_iff]
      intro x hx
      have := h x hx
      unfold F at this
      rw [this]; simp
    have e2 : l.filter (fun r => r.getD i 0 == 0) = l := by
      rw [List.filter_eq_self]
      intro x hx
      have := h x hx
      unfold F at this
      rw [this]; rfl
    unfold Nf02.euclid
    simp only [e1, e2]
theorem steps_zero {l : List Vec} (h : ∀ x ∈ l, ∀ j, F x j = 0) : ∀ i, Nf02.steps i l = []
  | 0 => rfl
  | i + 1 => by
    rw [Nf02.steps, euclid_zero (fun x hx => h x hx i)]
    exact steps_zero h i
theorem it_zero {k : Field} {v : Vec} (hv : v.length = k.length) (h0 : 0 < k.length) (hz : ∀ j, F v j = 0) : ∀ i j, F (it k i v) j = 0
  | 0, j => hz j
  | i + 1, j => by
    rw [it_succ, F_up (len_it hv h0 i) h0, show F (it k i v) = fun _ => 0 from funext (it_zero hv h0 hz i)]
    exact Up_zero k j
theorem make_zero {k : Field} {v : Vec} (hv : v.length = k.length) (h0 : 0 < k.length) (hz : ∀ j, F v j = 0) : Nf02.make k [v] = [] := by
  show Nf02.lower (Nf02.steps _ ([v].flatMap (Nf02.spread k))) = []
  rw [steps_zero]
  · rfl
  · intro x hx j
    rw [List.flatMap_cons, List.flatMap_nil, List.append_nil] at hx
    obtain ⟨i, hi, rfl⟩ := mem_spread.mp hx
    exact it_zero hv h0 hz i j
theorem any_nz {v : Vec} : (v.any (· != 0)) = true ↔ ∃ j, F v j ≠ 0 := by
  rw [List.any_eq_true]
  constructor
  · rintro ⟨x, hx, e⟩
    obtain ⟨j, hj, rfl⟩ := List.getElem_of_mem hx
    refine ⟨j, ?_⟩
    unfold F
    rw [List.getD_eq_getElem?_getD, List.getElem?_eq_getElem hj]
    simpa using e
  · rintro ⟨j, hj⟩
    rcases Nat.lt_or_ge j v.length with q | q
    · refine ⟨v[j], List.getElem_mem q, ?_⟩
      unfold F at hj
      rw [List.getD_eq_getElem?_getD, List.getElem?_eq_getElem q] at hj
      simpa using hj
    · exact absurd (F_out q) hj
theorem made_flag {k : Field} {v : Vec} {a : List Vec} (hv : v.length = k.length) (h0 : 0 < k.length) (ha : a.length = k.length) (hz : v.any (· != 0) = false) : (Nf02.make k [v] == a) = false := by
  have z : ∀ j, F v j = 0 := fun j => Classical.byContradiction fun n => by
    have := any_nz.mpr ⟨j, n⟩
    rw [hz] at this; cases this
  rw [make_zero hv h0 z]
  cases a with
  | nil => simp at ha; omega
  | cons x a => rfl
/-! ### what a call's numbers are -/
theorem vecs_none {n : Nat} {l : List Int} (h : l = [] ∨ l.length % n ≠ 0 ∨ 3 * n < l.length ∨ l.any (fun z => decide (Nf02.TOP < z.natAbs)) = true) : Nf02.vecs n l = none := if_pos h
theorem vecs_some {n : Nat} {l : List Int} (h : ¬ (l = [] ∨ l.length % n ≠ 0 ∨ 3 * n < l.length ∨ l.any (fun z => decide (Nf02.TOP < z.natAbs)) = true)) : Nf02.vecs n l = some ((List.range (l.length / n)).map fun i => (l.drop (i * n)).take n) := if_neg h
/-- all are at most g in size -/
def within (l : List Int) (g : Nat) : Bool := l.all fun z => decide (z.natAbs ≤ g)
theorem within_any (l : List Int) (g : Nat) : (l.any fun z => decide (g < z.natAbs)) = !within l g := by
  unfold within
  induction l with
  | nil => rfl
  | cons x l ih =>
    rw [List.any_cons, List.all_cons, ih]
    by_cases h : x.natAbs ≤ g
    · rw [decide_eq_true h, decide_eq_false (by omega)]; rfl
    · rw [decide_eq_false h, decide_eq_true (by omega)]; rfl
theorem vecs_one {n : Nat} (h0 : 0 < n) {l : List Int} (hl : l.length = n) (hw : within l 100 = true) : Nf02.vecs n l = some [l] := by
  rw [vecs_some, hl, Nat.div_self h0]
  · simp [← hl]
  · rintro (h | h | h | h)
    · rw [h] at hl; simp at hl; omega
    · rw [hl] at h; simp at h
    · omega
    · rw [show Nf02.TOP = 100 from rfl, within_any, hw] at h; cases h
theorem vecs_other {n : Nat} (h0 : 0 < n) {l : List Int} (h : ¬ (l.length = n ∧ within l 100 = true)) (v : Vec) : Nf02.vecs n l ≠ some [v] := fun e => by
  apply h
  by_cases c : l = [] ∨ l.length % n ≠ 0 ∨ 3 * n < l.length ∨ l.any (fun z => decide (Nf02.TOP < z.natAbs)) = true
  · rw [vecs_none c] at e; cases e
  · rw [vecs_some c] at e
    have e2 := congrArg List.length (Option.some.inj e)
    rw [List.length_map, List.length_range] at e2
    have e3 : l.length / n = 1 := e2
    have m : l.length % n = 0 := Classical.byContradiction fun q => c (.inr (.inl q))
    have dm := Nat.div_add_mod l.length n
    rw [e3, m] at dm
    refine ⟨by omega, ?_⟩
    cases q : within l 100 with
    | true => rfl
    | false => exact absurd (.inr (.inr (.inr (by rw [show Nf02.TOP = 100 from rfl, within_any, q]; rfl)))) c
/-- one to three numbers of n places each -/
theorem vecs_nums {n : Nat} (h0 : 0 < n) (l : List Int) : Nf02.vecs n l = if (l.length = n ∨ l.length = 2 * n ∨ l.length = 3 * n) ∧ within l 100 = true then some ((List.range (l.length / n)).map fun i => (l.drop (i * n)).take n) else none := by
  split
  · rename_i h
    refine vecs_some ?_
    rintro (c | c | c | c)
    · rw [c] at h
      have := h.1
      simp at this; omega
    · apply c
      rcases h.1 with q | q | q <;> rw [q] <;> simp
    · rcases h.1 with q | q | q <;> omega
    · rw [show Nf02.TOP = 100 from rfl, within_any, h.2] at c; cases c
  · rename_i h
    refine vecs_none (Classical.byContradiction fun c => h ?_)
    have m : l.length % n = 0 := Classical.byContradiction fun q => c (.inr (.inl q))
    have ne : l.length ≠ 0 := fun q => c (.inl (List.length_eq_zero_iff.mp q))
    have le : ¬ 3 * n < l.length := fun q => c (.inr (.inr (.inl q)))
    have dm := Nat.div_add_mod l.length n
    rw [m, Nat.add_zero] at dm
    refine ⟨?_, ?_⟩
    · rw [← dm] at ne le ⊢
      have : l.length / n < 4 := Nat.lt_of_not_le fun q => le (by
        have := Nat.mul_le_mul_left n q
        rw [Nat.mul_comm n 4] at this
        omega)
      generalize l.length / n = z at *
      have : z = 0 ∨ z = 1 ∨ z = 2 ∨ z = 3 := by omega
      rcases this with q | q | q | q
      · rw [q] at ne; simp at ne
      · rw [q]; left; simp
      · rw [q]; right; left; exact Nat.mul_comm _ _
      · rw [q]; right; right; exact Nat.mul_comm _ _
    · cases q : within l 100 with
      | true => rfl
      | false => exact absurd (.inr (.inr (.inr (by rw [show Nf02.TOP = 100 from rfl, within_any, q]; rfl)))) c
theorem within_bd {l : List Int} {g : Nat} (h : within l g = true) : ∀ x ∈ l, x.natAbs ≤ g := fun x hx => by
  unfold within at h
  rw [List.all_eq_true] at h
  simpa using h x hx
end Idl
/-! How large all that all of a norm goes through is. -/
set_option linter.all false
namespace Idl
open Nf02 (Vec Field)
theorem Own.le {n m : Nat} {l : List Nat} (o : Own n m l) : ∀ d ∈ l, d ≤ m := fun d hd => by
  have key : ∀ (l : List Nat), (∀ d ∈ l, 0 < d) → ∀ d ∈ l, d ≤ l.foldr (· * ·) 1 := fun l => by
    induction l with
    | nil => intro _ d hd; simp at hd
    | cons x l ih =>
      intro hp d hd
      rw [List.foldr_cons]
      have hx := hp x (List.mem_cons_self ..)
      have hl := prod_take l 0 fun d hd => hp d (List.mem_cons_of_mem _ hd)
      have hl1 : 1 ≤ l.foldr (· * ·) 1 := by simpa using hl
      rcases List.mem_cons.mp hd with e | e
      · rw [e]
        have := Nat.mul_le_mul_left x hl1
        omega
      · have := ih (fun d hd => hp d (List.mem_cons_of_mem _ hd)) d e
        have := Nat.mul_le_mul_right (l.foldr (· * ·) 1) hx
        omega
  rw [← o.prod]
  exact key l o.pos d hd
theorem Own.get {n m : Nat} {l : List Nat} (o : Own n m l) {i : Nat} (h : i < n) : 0 < l.getD i 0 ∧ l.getD i 0 ≤ m := by
  have hl : i < l.length := by rw [o.len]; exact h
  have e : l.getD i 0 = l[i] := by rw [List.getD_eq_getElem?_getD, List.getElem?_eq_getElem hl]; rfl
  rw [e]
  exact ⟨o.pos _ (List.getElem_mem hl), o.le _ (List.getElem_mem hl)⟩
/-- a row of the choices -/
theorem choice_is {n m : Nat} {own : List Nat} (o : Own n m own) {p : Nat} (hp : p < n) {r : Vec} (hr : r ∈ choices n (own.take p) (own.getD p 0)) : IsRow n p (own.getD p 0) r ∧ ∀ j, (F r j).natAbs ≤ m := by
  unfold choices at hr
  obtain ⟨v, hv, rfl⟩ := List.mem_map.mp hr
  have lt : (own.take p).length = p := by rw [List.length_take, o.len]; omega
  have ir := row_is (n := n) (ahead := own.take p) (d := own.getD p 0) (by omega) hv
  rw [lt] at ir
  rw [lt]
  refine ⟨ir, fun j => ?_⟩
  rcases Nat.lt_or_ge p j with q | q
  · rw [ir.upto j (by omega)]; exact Nat.zero_le _
  · rcases Nat.lt_or_eq_of_le q with q | q
    · obtain ⟨lv, b⟩ := mem_below.mp hv
      have fv : F (rowOf n p (own.getD p 0) v) j = F v j := by
        have := F_cat (n := p) (y := ((own.getD p 0 : Nat) : Int) :: List.replicate (n - 1 - p) 0) (by rw [lv, lt]) j
        rw [if_pos q] at this
        exact this
      have bj := b j (by omega)
      have e : (own.take p).getD j 0 = own.getD j 0 := by
        rw [List.getD_eq_getElem?_getD, List.getD_eq_getElem?_getD, List.getElem?_take_of_lt q]
      rw [e] at bj
      have := (o.get (i := j) (by omega)).2
      rw [fv]; omega
    · rw [q, ir.own]
      have := (o.get hp).2
      omega
theorem len_choice {n m : Nat} {own : List Nat} (o : Own n m own) {p : Nat} (hp : p < n) {r : Vec} (hr : r ∈ choices n (own.take p) (own.getD p 0)) : r.length = n := (choice_is o hp hr).1.len
structure Part (k : Field) (m : Nat) (own : List Nat) (p : Nat) (rs : List Vec) : Prop where
  shape : Shape k.length (own.take p) rs
  bd : Bd m rs
theorem Part.len {k : Field} {m p : Nat} {own : List Nat} {rs : List Vec} (o : Own k.length m own) (hp : p ≤ k.length) (h : Part k m own p rs) : rs.length = p := by
  rw [h.shape.len, List.length_take, o.len]; omega
theorem grow_part {k : Field} {m : Nat} {own : List Nat} (o : Own k.length m own) : ∀ p, p ≤ k.length → ∀ rs ∈ grow k own p, Part k m own p rs
  | 0, _, rs, hr => by
    have e : rs = [] := List.mem_singleton.mp hr
    rw [e]
    exact ⟨⟨by simp, fun i hi => by simp at hi⟩, fun v hv => by simp at hv⟩
  | p + 1, hp, rs, hr => by
    obtain ⟨qs, hq, hr⟩ := List.mem_flatMap.mp hr
    obtain ⟨row, hrow, rfl⟩ := List.mem_map.mp hr
    have ih := grow_part o p (by omega) qs hq
    have c := choice_is o (by omega) (List.mem_filter.mp hrow).1
    have e2 : own.take (p + 1) = own.take p ++ [own.getD p 0] := by
      have hl : p < own.length := by rw [o.len]; omega
      rw [List.take_add_one, List.getElem?_eq_getElem hl, List.getD_eq_getElem?_getD, List.getElem?_eq_getElem hl]; rfl
    have lt : (own.take p).length = p := by rw [List.length_take, o.len]; omega
    refine ⟨?_, fun v hv => ?_⟩
    · rw [e2]
      exact ih.shape.snoc (by rw [lt]; exact c.1)
    · rcases List.mem_append.mp hv with q | q
      · exact ih.bd v q
      · rw [List.mem_singleton.mp q]; exact c.2
/-- the rows so far, and one more: numbers may be taken away by them -/
theorem Part.more {k : Field} {m p : Nat} {own : List Nat} {rs : List Vec} {r : Vec} (o : Own k.length m own) (hp : p < k.length) (h : Part k m own p rs) (hr : IsRow k.length p (own.getD p 0) r) (hb : ∀ j, (F r j).natAbs ≤ m) : Part k m own (p + 1) (rs ++ [r]) := by
  have hl : p < own.length := by rw [o.len]; omega
  have e2 : own.take (p + 1) = own.take p ++ [own.getD p 0] := by
    rw [List.take_add_one, List.getElem?_eq_getElem hl, List.getD_eq_getElem?_getD, List.getElem?_eq_getElem hl]; rfl
  have lt : (own.take p).length = p := by rw [List.length_take, o.len]; omega
  refine ⟨?_, fun v hv => ?_⟩
  · rw [e2]
    exact h.shape.snoc (by rw [lt]; exact hr)
  · rcases List.mem_append.mp hv with q | q
    · exact h.bd v q
    · rw [List.mem_singleton.mp q]; exact hb
theorem Part.pos {k : Field} {m p : Nat} {own : List Nat} {rs : List Vec} (o : Own k.length m own) (hp : p ≤ k.length) (h : Part k m own p rs) : ∀ i, i < rs.length → 0 < R rs i i := fun i hi => by
  have lp := h.len o hp
  have hl : i < (own.take p).length := by rw [← h.shape.len]; exact hi
  have r := h.shape.row i hl
  show 0 < F (rs.getD i []) i
  rw [r.own]
  have e : (own.take p).getD i 0 = own.getD i 0 := by
    rw [List.getD_eq_getElem?_getD, List.getD_eq_getElem?_getD, List.getElem?_take_of_lt (by omega)]
  rw [e]
  have := (o.get (i := i) (by omega)).1
  omega
/-! ### how many -/
theorem pow_le30 {m p : Nat} (hm : m ≤ 30) (hp : p ≤ 3) : m ^ p ≤ 27000 :=
  Nat.le_trans (Nat.pow_le_pow_left hm p) (Nat.le_trans (Nat.pow_le_pow_right (by decide) hp) (by decide))
theorem grow_many {k : Field} {m : Nat} {own : List Nat} (o : Own k.length m own) (hm : m ≤ 30) (h4 : k.length ≤ 4) : ∀ p, p ≤ k.length → (grow k own p).length ≤ 27000
  | 0, _ => by show 1 ≤ 27000; decide
  | p + 1, hp => Nat.le_trans (grow_len o p) (pow_le30 hm (by omega))
theorem withOwn_many {k : Field} {m : Nat} {own : List Nat} (o : Own k.length m own) (hm : m ≤ 30) (h4 : k.length ≤ 4) : (withOwn k own).length ≤ 27000 := by
  unfold withOwn
  refine Nat.le_trans (List.length_filter_le _ _) ?_
  rw [o.len]
  exact grow_many o hm h4 _ (Nat.le_refl _)
theorem owns_are {n m : Nat} {own : List Nat} (h : own ∈ ownsOf n m m) : Own n m own := by
  rw [ownsOf_eq] at h
  exact shapes_own (List.mem_filter.mp h).1
theorem ofNormP_many {k : Field} {m : Nat} (hm : m ≤ 30) (h4 : k.length ≤ 4) : (ofNormP k m).length ≤ 540000 := by
  unfold ofNormP
  refine Nat.le_trans (len_flatMap_le (c := 27000) fun own ho => withOwn_many (owns_are ho) hm h4) ?_
  have := few_owns m (by omega) m (by omega) k.length (by omega)
  omega
theorem ofNormP_part {k : Field} {m : Nat} {rs : List Vec} (h : rs ∈ ofNormP k m) : rs.length = k.length ∧ Lens k.length rs := by
  unfold ofNormP at h
  obtain ⟨own, ho, hr⟩ := List.mem_flatMap.mp h
  have o := owns_are ho
  unfold withOwn at hr
  have := (List.mem_filter.mp hr).1
  rw [o.len] at this
  have g := grow_part o k.length (Nat.le_refl _) rs this
  exact ⟨g.len o (Nat.le_refl _), g.shape.lens⟩
theorem len_flatten_le {c : Nat} : ∀ {l : List Vec}, (∀ x ∈ l, x.length ≤ c) → l.flatten.length ≤ l.length * c
  | [], _ => by simp
  | x :: l, h => by
    rw [List.flatten_cons, List.length_append, List.length_cons, Nat.add_mul, Nat.one_mul]
    have := len_flatten_le (c := c) (l := l) fun y hy => h y (List.mem_cons_of_mem _ hy)
    have := h x (List.mem_cons_self ..)
    omega
theorem flat_rows {k : Field} {rs : List Vec} (h4 : k.length ≤ 4) (h : rs.length = k.length ∧ Lens k.length rs) : rs.flatten.length ≤ 16 := by
  have := len_flatten_le (c := 4) (l := rs) fun x hx => by rw [h.2 x hx]; exact h4
  have : rs.length * 4 ≤ 4 * 4 := Nat.mul_le_mul_right _ (by rw [h.1]; exact h4)
  omega
end Idl
/-! What the makers make is an ideal whose rows aren't too large to be looked at. -/
set_option linter.all false
namespace Idl
open Nf02 (Vec Field)
theorem rowsOf_bd {n : Nat} {l : List Vec} (g : GP n n l) (hf : Full n (SpL l)) : Bd (2 ^ LIM) (rowsOf l n) := by
  have hu : ∀ x ∈ l, Upto n (F x) := fun x hx j hj => F_out (by rw [g.lens x hx]; exact hj)
  have st := rsteps_ok n l g hu hf
  have s := sofar (SpL.lat l) st (rsteps_bd n l g hu hf) (Nat.le_refl n)
  have e : (rsteps n l).take n = rsteps n l := List.take_of_length_le (by rw [st.len]; exact Nat.le_refl _)
  have b := s.bd
  rw [e] at b
  exact b
theorem gen_bd {k : Field} {l : List Vec} (hr : Ring k) (h : GenPre k l) : Bd (2 ^ LIM) (Nf02.rows k.length l) := by
  rw [← gen_eq hr h]
  exact rowsOf_bd (h.gp hr) h.full
structure MakeOk (m : Field → List Vec → List Vec → List Vec) : Prop where
  ideal : ∀ k a b, Ring k → Ideal k a → Ideal k b → Small a → Small b → Ideal k (m k a b)
  bd : ∀ k a b, Ring k → Ideal k a → Ideal k b → Small a → Small b → Bd (2 ^ LIM) (m k a b)
theorem add_ok : MakeOk Nf02.add :=
  ⟨fun k a b hr ha hb sa sb => (gen_ideal hr (sum_pre hr ha hb sa sb) (closed_append ha.closed hb.closed)).1, fun k a b hr ha hb sa sb => gen_bd hr (sum_pre hr ha hb sa sb)⟩
theorem mul_ok : MakeOk Nf02.mul :=
  ⟨fun k a b hr ha hb sa sb => (gen_ideal hr (prod_pre hr ha hb sa sb) (closed_prods hr.pos hb.rows.lens hb.closed)).1, fun k a b hr ha hb sa sb => gen_bd hr (prod_pre hr ha hb sa sb)⟩
theorem half_bd {n : Nat} {B : Nat} {rs : List Vec} (h : Bd B rs) : Bd B (halves n rs) := fun v hv j => by
  unfold halves at hv
  obtain ⟨r, hr, rfl⟩ := List.mem_map.mp hv
  have hm := List.mem_of_mem_take hr
  rcases Nat.lt_or_ge j n with q | q
  · have : F (r.take n) j = F r j := by
      unfold F
      rw [List.getD_eq_getElem?_getD, List.getD_eq_getElem?_getD, List.getElem?_take_of_lt q]
    rw [this]
    exact h r hm j
  · rw [F_out (by rw [List.length_take]; omega)]
    exact Nat.zero_le _
theorem mapped_bd {n : Nat} {g : Vec → Vec} {f : Fn → Fn} {src t : List Vec} (h4 : n ≤ 4) (h : MapPre n g f src t) : Bd (2 ^ LIM) (mapped n g src t) := by
  unfold mapped
  refine half_bd (rowsOf_bd ⟨lens_mapped h.maps, 100, h.bd, ?_⟩ (full_mapped h.maps h.full h.rows))
  rw [many_mapped h.many h.rows.len]
  exact capP.mono (by omega) (by omega) (Nat.le_refl _) cap_8_8
theorem common_ok : MakeOk Nf02.common :=
  ⟨fun k a b hr ha hb sa sb => (common_eq hr ha hb sa sb).2, fun k a b hr ha hb sa sb => by
    rw [← (common_eq hr ha hb sa sb).1]
    exact mapped_bd hr.four (common_pre ha hb sa sb)⟩
theorem by_ok : MakeOk Nf02.by_ :=
  ⟨fun k a b hr ha hb sa sb => (by_eq hr ha sa hb.rows.lens sb).2, fun k a b hr ha hb sa sb => by
    rw [← (by_eq hr ha sa hb.rows.lens sb).1]
    exact (by_prefix hr ha sa hb.rows.lens sb).small.mono (Nat.le_trans (show TOPN ≤ 2 ^ 100 by decide) (Nat.pow_le_pow_right (by decide) (by unfold LIM; decide)))⟩
theorem make_ok {k : Field} {vs : List Vec} (hr : Ring k) (h : Nums k vs) : Ideal k (Nf02.make k vs) ∧ Bd (2 ^ LIM) (Nf02.make k vs) :=
  ⟨(gen_ideal hr (made_pre hr h) (closed_spread h.lens hr.pos)).1, gen_bd hr (made_pre hr h)⟩
theorem first_ring : Ring [1, 0] := ⟨by decide, by decide, fun j => match j with | 0 => by decide | 1 => by decide | j + 2 => by show (0 : Int).natAbs ≤ 20; decide, (prime_iff (by decide) (by decide)).mp (by decide +kernel)⟩
theorem ring_of {k : Field} (h2 : 2 ≤ k.length) (h4 : k.length ≤ 4) (hs : ∀ x ∈ k, x.natAbs ≤ 20) (hp : Nf01.prime k = true) : Ring k := ⟨h2, h4, bd_of_entries hs, (prime_iff h2 h4).mp hp⟩
end Idl
/-! A list cut into numbers. -/
set_option linter.all false
namespace Idl
open Nf02 (Vec Field)
def chunks (n q : Nat) (l : List Int) : List Vec := (List.range q).map fun i => (l.drop (i * n)).take n
theorem chunks_get {n q i : Nat} {l : List Int} (h : i < q) : (chunks n q l)[i]? = some ((l.drop (i * n)).take n) := by
  unfold chunks
  rw [List.getElem?_map, List.getElem?_range h]; rfl
theorem len_chunks (n q : Nat) (l : List Int) : (chunks n q l).length = q := by simp [chunks]
theorem chunks_flat (n : Nat) (l : List Int) : ∀ q, (chunks n q l).flatten = l.take (q * n)
  | 0 => by simp [chunks]
  | q + 1 => by
    have e : chunks n (q + 1) l = chunks n q l ++ [(l.drop (q * n)).take n] := by
      unfold chunks
      rw [List.range_succ, List.map_append]; rfl
    rw [e, List.flatten_append, chunks_flat n l q, Nat.add_mul, Nat.one_mul, List.take_add]
    simp
theorem chunks_lens {n q : Nat} {l : List Int} (h : l.length = q * n) : Lens n (chunks n q l) := fun v hv => by
  unfold chunks at hv
  obtain ⟨i, hi, rfl⟩ := List.mem_map.mp hv
  have hi' := List.mem_range.mp hi
  have : (i + 1) * n ≤ q * n := Nat.mul_le_mul_right n hi'
  rw [Nat.add_mul, Nat.one_mul] at this
  rw [List.length_take, List.length_drop]
  omega
theorem chunks_zero {n q : Nat} {l : List Int} (h : l.length = q * n) : ((chunks n q l).all fun v => v.all fun z => z == 0) = !(l.any (· != 0)) := by
  have e := chunks_flat n l q
  rw [← h, List.take_length] at e
  have : (chunks n q l).flatten.all (fun z => z == 0) = (chunks n q l).all fun v => v.all fun z => z == 0 := List.all_flatten
  rw [← this, e, Bool.eq_iff_iff]
  simp
theorem chunks_nums {k : Field} {q : Nat} {l : List Int} (h : l.length = q * k.length) (hq : q ≤ 3) (hw : within l 100 = true) (hz : l.any (· != 0) = true) : Nums k (chunks k.length q l) := by
  have e := chunks_flat k.length l q
  rw [← h, List.take_length] at e
  refine ⟨chunks_lens h, fun v hv => bd_of_entries fun x hx => within_bd hw x ?_, ?_, by rw [len_chunks]; exact hq⟩
  · rw [← e]
    exact List.mem_flatten.mpr ⟨v, hv, hx⟩
  · have := chunks_zero h
    rw [hz] at this
    have h2 : ¬ ∀ v ∈ chunks k.length q l, (v.all fun z => z == 0) = true := fun a => by
      have h3 := List.all_eq_true.mpr a
      rw [h3] at this
      cases this
    refine Classical.byContradiction fun no => h2 fun v hv => all_zero.mpr fun j => Classical.byContradiction fun n => no ⟨v, hv, j, n⟩
end Idl
/-! The flat list: what a call's numbers are, and where the next one begins. -/
set_option linter.all false
namespace Idl
open Nf02Neutral (callOf callIn)
/-- a call's numbers, as the specification's machine takes them -/
def word (c : List (List Int)) : List Int := (PyNf02.whole c).headD []
def stp (s : Nf02.State) (c : List (List Int)) : Nf02.State × List Int := Nf02Neutral.step s (c.headD [])
/-- calls that are still to come -/
structure Rest (ns : List Int) (pos : Nat) (raw : List (List (List Int))) : Prop where
  calls : ∃ f, PyFlat.calls PyNf02.shape f (ns.drop pos) = some raw
  good : ∀ c ∈ raw, (callOf (word c)).isSome = true
theorem Rest.nil {ns : List Int} {pos : Nat} {raw : List (List (List Int))} (h : Rest ns pos raw) (e : ns.length ≤ pos) : raw = [] := by
  obtain ⟨f, h⟩ := h.calls
  rw [List.drop_eq_nil_of_le e] at h
  cases f <;> exact (Option.some.inj h).symm
/-- one call and those behind it -/
theorem Rest.cons {ns : List Int} {pos : Nat} {raw : List (List (List Int))} {p : Int} {r : List Int} (h : Rest ns pos raw) (e : ns.drop pos = p :: r) :
    ∃ c t cs f, raw = c :: cs ∧ PyFlat.call PyNf02.shape (p :: r) = some (c, t) ∧ PyFlat.calls PyNf02.shape f t = some cs ∧ (callOf (word c)).isSome = true ∧ ∀ c ∈ cs, (callOf (word c)).isSome = true := by
  obtain ⟨f, hf⟩ := h.calls
  rw [e] at hf
  cases f with
  | zero => cases hf
  | succ f =>
    have hf' : (match PyFlat.call PyNf02.shape (p :: r) with | none => none | some (c, t) => match PyFlat.calls PyNf02.shape f t with | none => none | some cs => some (c :: cs)) = some raw := hf
    cases hc : PyFlat.call PyNf02.shape (p :: r) with
    | none => rw [hc] at hf'; cases hf'
    | some ct =>
      obtain ⟨c, t⟩ := ct
      rw [hc] at hf'
      cases hs : PyFlat.calls PyNf02.shape f t with
      | none => simp only [hs] at hf'; cases hf'
      | some cs =>
        simp only [hs] at hf'
        have er := Option.some.inj hf'
        refine ⟨c, t, cs, f, er.symm, rfl, hs, h.good c (by rw [← er]; exact List.mem_cons_self ..), fun d hd => h.good d (by rw [← er]; exact List.mem_cons_of_mem _ hd)⟩
/-! ### a call by its shape -/
theorem call_0 {p : Int} {r t : List Int} {c : List (List Int)} (hs : PyNf02.shape p = some (0, 0)) (h : PyFlat.call PyNf02.shape (p :: r) = some (c, t)) : c = [[p]] ∧ t = r := by
  unfold PyFlat.call at h
  simp only [hs] at h
  rw [if_neg (by omega)] at h
  simp only [PyFlat.rows, List.drop_zero, List.take_zero] at h
  have := Option.some.inj h
  exact ⟨(Prod.mk.inj this).1.symm, (Prod.mk.inj this).2.symm⟩
theorem call_1 {p : Int} {r t : List Int} {c : List (List Int)} (hs : PyNf02.shape p = some (1, 0)) (h : PyFlat.call PyNf02.shape (p :: r) = some (c, t)) : ∃ i, r = i :: t ∧ c = [[p, i]] := by
  unfold PyFlat.call at h
  simp only [hs] at h
  split at h
  · cases h
  · cases r with
    | nil => rename_i q; simp at q
    | cons i r =>
      simp only [PyFlat.rows, List.drop_succ_cons, List.drop_zero, List.take_succ_cons, List.take_zero] at h
      have := Option.some.inj h
      refine ⟨i, ?_, (Prod.mk.inj this).1.symm⟩
      rw [(Prod.mk.inj this).2]
theorem call_2 {p : Int} {r t : List Int} {c : List (List Int)} (hs : PyNf02.shape p = some (2, 0)) (h : PyFlat.call PyNf02.shape (p :: r) = some (c, t)) : ∃ i j, r = i :: j :: t ∧ c = [[p, i, j]] := by
  unfold PyFlat.call at h
  simp only [hs] at h
  split at h
  · cases h
  · match r with
    | [] => rename_i q; simp at q
    | [_] => rename_i q; simp at q
    | i :: j :: r =>
      simp only [PyFlat.rows, List.drop_succ_cons, List.drop_zero, List.take_succ_cons, List.take_zero] at h
      have := Option.some.inj h
      refine ⟨i, j, ?_, (Prod.mk.inj this).1.symm⟩
      rw [(Prod.mk.inj this).2]
theorem row_some {r x t : List Int} (h : PyFlat.row r = some (x, t)) : ∃ (m : Nat) (q : List Int), r = (m : Int) :: q ∧ m ≤ q.length ∧ x = q.take m ∧ t = q.drop m := by
  cases r with
  | nil => cases h
  | cons n q =>
    have h' : (if 0 ≤ n ∧ n.toNat ≤ q.length then some (q.take n.toNat, q.drop n.toNat) else none) = some (x, t) := h
    split at h'
    · rename_i c
      have := Option.some.inj h'
      exact ⟨n.toNat, q, by rw [Int.toNat_of_nonneg c.1], c.2, (Prod.mk.inj this).1.symm, (Prod.mk.inj this).2.symm⟩
    · cases h'
theorem rows_one {r t : List Int} {xs : List (List Int)} (h : PyFlat.rows 1 r = some (xs, t)) : ∃ x, PyFlat.row r = some (x, t) ∧ xs = [x] := by
  unfold PyFlat.rows at h
  cases hr : PyFlat.row r with
  | none => rw [hr] at h; cases h
  | some xt =>
    obtain ⟨x, s⟩ := xt
    rw [hr] at h
    simp only [PyFlat.rows] at h
    have := Option.some.inj h
    refine ⟨x, ?_, (Prod.mk.inj this).1.symm⟩
    rw [(Prod.mk.inj this).2]
theorem call_l {p : Int} {r t : List Int} {c : List (List Int)} (hs : PyNf02.shape p = some (0, 1)) (h : PyFlat.call PyNf02.shape (p :: r) = some (c, t)) : ∃ (m : Nat) (q : List Int), r = (m : Int) :: q ∧ m ≤ q.length ∧ c = [[p], q.take m] ∧ t = q.drop m := by
  unfold PyFlat.call at h
  simp only [hs] at h
  rw [if_neg (by omega)] at h
  simp only [List.drop_zero, List.take_zero] at h
  cases hr : PyFlat.rows 1 r with
  | none => rw [hr] at h; cases h
  | some xt =>
    obtain ⟨xs, s⟩ := xt
    rw [hr] at h
    have := Option.some.inj h
    obtain ⟨x, h1, h2⟩ := rows_one hr
    obtain ⟨m, q, e1, e2, e3, e4⟩ := row_some h1
    refine ⟨m, q, e1, e2, ?_, ?_⟩
    · rw [← (Prod.mk.inj this).1, h2, e3]
    · rw [← (Prod.mk.inj this).2, e4]
theorem call_nl {p : Int} {r t : List Int} {c : List (List Int)} (hs : PyNf02.shape p = some (1, 1)) (h : PyFlat.call PyNf02.shape (p :: r) = some (c, t)) : ∃ (i : Int) (m : Nat) (q : List Int), r = i :: (m : Int) :: q ∧ m ≤ q.length ∧ c = [[p, i], q.take m] ∧ t = q.drop m := by
  unfold PyFlat.call at h
  simp only [hs] at h
  split at h
  · cases h
  · cases r with
    | nil => rename_i q; simp at q
    | cons i r =>
      simp only [List.drop_succ_cons, List.drop_zero, List.take_succ_cons, List.take_zero] at h
      cases hr : PyFlat.rows 1 r with
      | none => rw [hr] at h; cases h
      | some xt =>
        obtain ⟨xs, s⟩ := xt
        rw [hr] at h
        have := Option.some.inj h
        obtain ⟨x, h1, h2⟩ := rows_one hr
        obtain ⟨m, q, e1, e2, e3, e4⟩ := row_some h1
        refine ⟨i, m, q, by rw [e1], e2, ?_, ?_⟩
        · rw [← (Prod.mk.inj this).1, h2, e3]
        · rw [← (Prod.mk.inj this).2, e4]
/-! ### a call by its numbers -/
theorem callOf_in {l : List Int} (h : (callOf l).isSome = true) : callOf l = callIn l := by
  unfold callOf at h ⊢
  split
  · rename_i c
    rw [if_pos c] at h
    cases h
  · rfl
theorem co_one {p i : Int} {mk : Nat → Nf02.Call} (e : callIn [p, i] = (Nf02Neutral.one [i]).map mk) (h : (callOf [p, i]).isSome = true) : ∃ n : Nat, i = n ∧ callOf [p, i] = some (mk n) := by
  have q := callOf_in h
  rw [q, e] at h ⊢
  unfold Nf02Neutral.one at h ⊢
  by_cases c : 0 ≤ i
  · exact ⟨i.toNat, by rw [Int.toNat_of_nonneg c], by simp [c]⟩
  · simp [c] at h
theorem co_two {p i j : Int} {mk : Nat → Nat → Nf02.Call} (e : callIn [p, i, j] = (Nf02Neutral.two [i, j]).map fun x => mk x.1 x.2) (h : (callOf [p, i, j]).isSome = true) : ∃ n m : Nat, i = n ∧ j = m ∧ callOf [p, i, j] = some (mk n m) := by
  have q := callOf_in h
  rw [q, e] at h ⊢
  unfold Nf02Neutral.two at h ⊢
  by_cases c : 0 ≤ i ∧ 0 ≤ j
  · exact ⟨i.toNat, j.toNat, by rw [Int.toNat_of_nonneg c.1], by rw [Int.toNat_of_nonneg c.2], by simp [c]⟩
  · simp [c] at h
theorem co_list {p : Int} {l : List Int} {b : Nat} {mk : List Int → Nf02.Call} (e : callIn (p :: l) = if l.length ≤ b then some (mk l) else none) (h : (callOf (p :: l)).isSome = true) : l.length ≤ b ∧ callOf (p :: l) = some (mk l) := by
  have q := callOf_in h
  rw [q, e] at h ⊢
  by_cases c : l.length ≤ b
  · exact ⟨c, if_pos c⟩
  · rw [if_neg c] at h; cases h
theorem co_nl {p i : Int} {l : List Int} {mk : Nat → List Int → Nf02.Call} (e : callIn (p :: i :: l) = (Nf02Neutral.with_ (i :: l)).map fun x => mk x.1 x.2) (h : (callOf (p :: i :: l)).isSome = true) : l.length ≤ 6 ∧ ∃ n : Nat, i = n ∧ callOf (p :: i :: l) = some (mk n l) := by
  have q := callOf_in h
  rw [q, e] at h ⊢
  unfold Nf02Neutral.with_ at h ⊢
  by_cases c : 0 ≤ i ∧ l.length ≤ 6
  · exact ⟨c.2, i.toNat, by rw [Int.toNat_of_nonneg c.1], by simp [c]⟩
  · simp [c] at h
theorem co_zero {p : Int} {mk : Nf02.Call} (e : callIn [p] = some mk) (h : (callOf [p]).isSome = true) : callOf [p] = some mk := by
  rw [callOf_in h, e]
/-- there is no other call -/
theorem shape_some {p : Int} {x : Nat × Nat} (h : PyNf02.shape p = some x) : p = 0 ∨ p = 1 ∨ p = 2 ∨ p = 3 ∨ p = 4 ∨ p = 5 ∨ p = 6 ∨ p = 7 ∨ p = 8 ∨ p = 9 ∨ p = 10 ∨ p = 11 ∨ p = 12 ∨ p = 13 := by
  unfold PyNf02.shape at h
  by_cases c0 : p = 0; · omega
  by_cases c1 : p = 1; · omega
  by_cases c2 : p = 2; · omega
  by_cases c3 : p = 3; · omega
  by_cases c4 : p = 4; · omega
  by_cases c5 : p = 5; · omega
  by_cases c6 : p = 6; · omega
  by_cases c7 : p = 7; · omega
  by_cases c8 : p = 8; · omega
  by_cases c9 : p = 9; · omega
  by_cases c10 : p = 10; · omega
  by_cases c11 : p = 11; · omega
  by_cases c12 : p = 12; · omega
  by_cases c13 : p = 13; · omega
  simp [c0, c1, c2, c3, c4, c5, c6, c7, c8, c9, c10, c11, c12, c13] at h
theorem call_shape {p : Int} {r t : List Int} {c : List (List Int)} (h : PyFlat.call PyNf02.shape (p :: r) = some (c, t)) : ∃ x, PyNf02.shape p = some x := by
  unfold PyFlat.call at h
  cases hs : PyNf02.shape p with
  | none => simp only [hs] at h; cases h
  | some x => exact ⟨x, rfl⟩
/-! ### positions -/
theorem drop_cons {ns : List Int} {pos : Nat} {p : Int} {r : List Int} (h : ns.drop pos = p :: r) : ns[pos]? = some p ∧ ns.drop (pos + 1) = r ∧ pos < ns.length := by
  have hl : pos < ns.length := by
    rcases Nat.lt_or_ge pos ns.length with q | q
    · exact q
    · rw [List.drop_eq_nil_of_le q] at h; cases h
  rw [List.drop_eq_getElem_cons hl] at h
  have := List.cons.inj h
  exact ⟨by rw [List.getElem?_eq_getElem hl, this.1], this.2, hl⟩
theorem drop_more {ns q : List Int} {pos m : Nat} (h : ns.drop pos = q) (hm : m ≤ q.length) (hp : pos ≤ ns.length) : pos + m ≤ ns.length ∧ ns.drop (pos + m) = q.drop m := by
  have := congrArg List.length h
  rw [List.length_drop] at this
  refine ⟨by omega, ?_⟩
  rw [← h, List.drop_drop]
/-- what's told from a place on -/
def tells (s : Nf02.State) (raw : List (List (List Int))) : List Int := PyFlat.told (PyFlat.played stp s (raw.map PyNf02.whole))
theorem tells_nil (s : Nf02.State) : tells s [] = [] := rfl
theorem tells_cons {s : Nf02.State} {c : List (List Int)} {cs : List (List (List Int))} {x : Nf02.Call} (h : callOf (word c) = some x) :
    tells s (c :: cs) = ((Nf02Neutral.out (Nf02.step s x).2).length : Int) :: Nf02Neutral.out (Nf02.step s x).2 ++ tells (Nf02.step s x).1 cs := by
  have e : stp s (PyNf02.whole c) = ((Nf02.step s x).1, Nf02Neutral.out (Nf02.step s x).2) := by
    unfold stp Nf02Neutral.step
    have : callOf ((PyNf02.whole c).headD []) = some x := h
    rw [this]
  show PyFlat.told ((stp s (PyNf02.whole c)).2 :: PyFlat.played stp (stp s (PyNf02.whole c)).1 (cs.map PyNf02.whole)) = _
  rw [e]
  unfold PyFlat.told
  rw [List.flatMap_cons]
  rfl
/-- what the document lets be handed in -/
theorem asked_rest {ns : List Int} (h : PyNf02.answers_asked ns = true) : ∃ raw, Rest ns 0 raw ∧ PyNf02.answers ns = tells Nf02.init raw ∧ (PyNf02.answers ns).length ≤ 10000000 := by
  unfold PyNf02.answers_asked at h
  cases hc : PyFlat.calls PyNf02.shape ns.length ns with
  | none => rw [hc] at h; cases h
  | some raw =>
    rw [hc] at h
    simp only [Bool.and_eq_true] at h
    obtain ⟨⟨⟨⟨h1, h2⟩, h3⟩, h4⟩, h5⟩ := h
    refine ⟨raw, ⟨⟨ns.length, by rw [List.drop_zero]; exact hc⟩, fun c hcm => ?_⟩, ?_, of_decide_eq_true h5⟩
    · unfold Nf02Neutral.asked at h4
      rw [Bool.and_eq_true] at h4
      have := List.all_eq_true.mp h4.1 (word c) (by
        rw [List.map_map]
        exact List.mem_map.mpr ⟨c, hcm, rfl⟩)
      exact this
    · unfold PyNf02.answers PyNf02.calls
      rw [hc]
      rfl
end Idl
set_option Elab.async false
set_option linter.all false
set_option maxRecDepth 100000
set_option maxHeartbeats 2000000
/-! The program's defs, one by one: numbers of a ring. -/
namespace Hnd
open PySem PySem.Spec PyProof.Rows L2
open Idl hiding Sp F R E
open Nf02 (Vec)
/-! ### the text -/
def top (i : Nat) : Stmt := PySem.Challenge.pw_idealrows_s01_answers.main.body.getD i (.Pass ⟨0, 0, 0, 0⟩)
abbrev sMinus : Stmt := top 1
abbrev sTimesT : Stmt := top 2
abbrev sShifts : Stmt := top 3
abbrev sTimes : Stmt := top 4
/-! ### heaps -/
theorem same_upd {H : Hp} {p : Addr} {o : HO} (h : H p = none) : Same H (upd H p o) := fun b x e => by
  rw [upd_ne (ne_of_none e h)]
  exact e
/-- a new list grows: what stood ahead of it stands -/
theorem same_grow {H H1 : Hp} {p : Addr} {o : HO} (s : Same H H1) (h : H p = none) : Same H (upd H1 p o) := fun b x e => by
  rw [upd_ne (ne_of_none e h)]
  exact s b x e
/-- a list of whole numbers -/
def IA (H : Hp) (p : Addr) (v : Vec) : Prop := H p = some (.lst (v.map V.int))
theorem IA.same {H H' : Hp} {p : Addr} {v : Vec} (h : IA H p v) (s : Same H H') : IA H' p v := s _ _ h
theorem IA.sq {K : PySem.W.Frag} {H : Hp} {p : Addr} {v : Vec} (h : IA H p v) : SqL K H p (v.map V.int) := SqL.of h
theorem get_ints {v : List Int} {i : Nat} {x : V} (h : (v.map V.int)[i]? = some x) : ∃ z, v[i]? = some z ∧ x = V.int z := by
  rw [List.getElem?_map] at h
  cases e : v[i]? with
  | none => rw [e] at h; cases h
  | some z => rw [e] at h; exact ⟨z, rfl, (Option.some.inj h).symm⟩
theorem ints_get {v : List Int} {i : Nat} {z : Int} (h : v[i]? = some z) : (v.map V.int)[i]? = some (V.int z) := by
  rw [List.getElem?_map, h]; rfl
theorem ints_at {v : List Int} {i : Nat} {z : Int} (h : v[i]? = some z) : atI (v.map V.int) (i : Int) = some (V.int z) := atI_nat (ints_get h)
/-- a list of lists of whole numbers, by the addresses of these -/
structure RA (H : Hp) (p : Addr) (as : List Addr) (vs : List Vec) : Prop where
  at_ : H p = some (.lst (as.map V.ref))
  all : Paired (IA H) as vs
theorem paired_same {H H' : Hp} (s : Same H H') {as : List Addr} {vs : List Vec} (h : Paired (IA H) as vs) : Paired (IA H') as vs := L2.Paired.mapP h fun _ _ z => z.same s
theorem RA.same {H H' : Hp} {p : Addr} {as : List Addr} {vs : List Vec} (h : RA H p as vs) (s : Same H H') : RA H' p as vs := ⟨s _ _ h.at_, paired_same s h.all⟩
theorem RA.sq {K : PySem.W.Frag} {H : Hp} {p : Addr} {as : List Addr} {vs : List Vec} (h : RA H p as vs) : SqL K H p (as.map V.ref) := SqL.of h.at_
/-- each of as' is new or one of as -/
def From (H : Hp) (as as' : List Addr) : Prop := ∀ a ∈ as', H a = none ∨ a ∈ as
theorem From.trans {H H1 : Hp} {as bs cs : List Addr} (s : Same H H1) (h : From H as bs) (k : From H1 bs cs) : From H as cs := fun a ha => by
  rcases k a ha with e | m
  · exact .inl (s.free e)
  · exact h a m
/-- a list of references is no list of numbers -/
theorem ref_ne_int {H : Hp} {p q : Addr} {as : List Addr} {v : Vec} (h : H p = some (.lst (as.map V.ref))) (k : IA H q v) (hv : 0 < v.length) : q ≠ p := ne_of k h fun e => by
  cases v with
  | nil => simp at hv
  | cons x v =>
    cases as with
    | nil => simp at e
    | cons a as =>
      have := (HO.lst.inj e)
      simp at this
/-- the rows stand when the list of their addresses changes -/
theorem paired_upd {H : Hp} {p : Addr} {o : HO} {as bs : List Addr} {vs : List Vec} (h : H p = some (.lst (bs.map V.ref))) (k : Paired (IA H) as vs) (hv : ∀ v ∈ vs, 0 < v.length) : Paired (IA (upd H p o)) as vs := by
  induction k with
  | nil => exact .nil
  | cons g t ih =>
    refine .cons ?_ (ih fun v hv' => hv v (List.mem_cons_of_mem _ hv'))
    have ne := ref_ne_int h g (hv _ (List.mem_cons_self ..))
    unfold IA
    rw [upd_ne ne]
    exact g
theorem paired_at {α β : Type} {G : α → β → Prop} : ∀ {as : List α} {vs : List β} {i : Nat} {v : β}, Paired G as vs → vs[i]? = some v → ∃ a, as[i]? = some a ∧ G a v
  | _, _, i, v, .nil, h => by simp at h
  | _, _, 0, v, .cons g t, h => by
    cases (Option.some.inj h)
    exact ⟨_, rfl, g⟩
  | _, _, i + 1, v, .cons g t, h => paired_at (i := i) t h
theorem paired_at' {α β : Type} {G : α → β → Prop} : ∀ {as : List α} {vs : List β} {i : Nat} {a : α}, Paired G as vs → as[i]? = some a → ∃ v, vs[i]? = some v ∧ G a v
  | _, _, i, v, .nil, h => by simp at h
  | _, _, 0, v, .cons g t, h => by
    cases (Option.some.inj h)
    exact ⟨_, rfl, g⟩
  | _, _, i + 1, v, .cons g t, h => paired_at' (i := i) t h
theorem paired_len {α β : Type} {G : α → β → Prop} {as : List α} {vs : List β} (h : Paired G as vs) : as.length = vs.length := Paired.length h
theorem get_refs {as : List Addr} {i : Nat} {x : V} (h : (as.map V.ref)[i]? = some x) : ∃ a, as[i]? = some a ∧ x = V.ref a := by
  rw [List.getElem?_map] at h
  cases e : as[i]? with
  | none => rw [e] at h; cases h
  | some z => rw [e] at h; exact ⟨z, rfl, (Option.some.inj h).symm⟩
theorem refs_get {as : List Addr} {i : Nat} {a : Addr} (h : as[i]? = some a) : (as.map V.ref)[i]? = some (V.ref a) := by
  rw [List.getElem?_map, h]; rfl
theorem refs_at {as : List Addr} {i : Nat} {a : Addr} (h : as[i]? = some a) : atI (as.map V.ref) (i : Int) = some (V.ref a) := atI_nat (refs_get h)
theorem yes_ {σ : L2.St} {H : Hp} {Q : Bool → Hp → Prop} (h : Q true H) : tYes σ H Q := h
/-- two factors whose product stays within the line -/
abbrev MulOk (i j : Int) : Prop := CMulX i j
/-! ### defs by name -/
structure Df (K : PySem.W.Frag) (mg : Str → Option Value) (x : Str) (st : Stmt) (ps : List Str) : Prop where
  ex : ∃ f fd, Fun K x x st f fd ∧ mg x = some (.ref f) ∧ Binds K fd ps []
structure Ok (P : Program) (w : World) (K : PySem.W.Frag) (mg : Str → Option Value) (base : Heap) (k : Nat) (x : Str) (ps : List Str) (sp : L2.Sp) : Prop where
  ex : ∃ f fd, FnOk P w K mg base CX0 k f fd ps sp ∧ mg x = some (.ref f) ∧ PySem.W.keepIn K (.ref f) = true ∧ Binds K fd ps []
section
variable {P : Program} {w : World} {K : PySem.W.Frag} {mg : Str → Option Value} {base : Heap}
theorem Df.ok {x : Str} {st : Stmt} {ps : List Str} {k : Nat} {sp : L2.Sp} (D : Df K mg x st ps) (h : ∀ f fd, Fun K x x st f fd → FnOk P w K mg base CX0 k f fd ps sp) : Ok P w K mg base k x ps sp := by
  obtain ⟨f, fd, F, g, b⟩ := D.ex
  exact ⟨f, fd, h f fd F, g, F.kp, b⟩
end
theorem pe_f {X : Cx} {k j : Nat} {x : Str} {ps : List Str} {sp : L2.Sp} {p pos : Pos} {e : Expr} {es : List Expr} {t : TA} (c : Ok X.prog X.w X.K X.mg X.base k x ps sp) (hr : Room j X.A) (hk : k ≤ j) (hg : Gl X x) (ha : PA X (e :: es) t)
    (hdb : (x == ("__debug__" : Str)) = false := by decide) (he : starEach (e :: es) X.env = (false, eval e X.env) :: starEach es X.env := by rfl) (hpl : (backTo pos (starEach es X.env)).any (·.1) = false := by rfl) :
    PE X (.Call (.Name x p) (e :: es) [] pos) (tCall sp [] E0 t) := by
  obtain ⟨f, fd, F, hm, kp, b⟩ := c.ex
  exact pe_call F (hr.mono hk) hg hm kp b .nil pass0 ha hdb he hpl
section
variable {P : Program} {w : World} {K : PySem.W.Frag} {mg : Str → Option Value} {base : Heap}
/-! ### minus_times -/
abbrev nMinus : List Str := ["number", "factor", "other", "a", "b"]
abbrev pMinus : List Str := ["number", "factor", "other"]
theorem scMinus : FnScope nMinus pMinus (defScope sMinus) := ⟨rfl, rfl, rfl, by decide +kernel, rfl, by decide +kernel, by decide +kernel⟩
theorem minusT_get {a b : Vec} {f : Int} {i : Nat} {x y : Int} (hx : a[i]? = some x) (hy : b[i]? = some y) : (minusT a f b)[i]? = some (x - f * y) := by
  unfold minusT
  rw [List.getElem?_map, (List.getElem?_zip_eq_some (z := (x, y))).mpr ⟨hx, hy⟩]; rfl
def spMinus : L2.Sp := fun vs H Q _ => ∃ (p q : Addr) (a b : Vec) (f : Int), vs = [.ref p, .int f, .ref q] ∧ IA H p a ∧ IA H q b ∧ a.length = b.length ∧ a.length ≤ 1000 ∧ (∀ x ∈ b, MulOk f x) ∧
  ∀ H' r, Same H H' → H r = none → IA H' r (minusT a f b) → Q (.ref r) H'
theorem ok_minus (D : Df K mg "minus_times" sMinus pMinus) (mz : mg "zip" = none) : Ok P w K mg base 1 "minus_times" pMinus spMinus := D.ok fun f fd F => by
  refine F.ok scMinus (fun vs H Q E h => ?_) (fun cdv A outer s H vs Q E hr h => ?_)
  · obtain ⟨p, q, a, b, f, rfl, _⟩ := h
    rfl
  · obtain ⟨p, q, a, b, f, rfl, ha, hb, hl, h1000, hm, k⟩ := h
    refine ⟨_, pss_one (ps_ret (pe_lc (own := [("a", 3), ("b", 4)]) (g := gTup K 2 (gCons (gName 3) (gCons (gName 4) gNil))) rfl scMinus.nd (pi_zip (by rfl) mz (pa_cons (pv 0) (pa_cons (pv 2) pa_nil)))
      (blkOk_by (N := nMinus) (sc := defScope sMinus) (by decide +kernel))
      (fun _ _ _ _ _ => pg_tup rfl (pgs_cons (pg_name (i := 3) scMinus.nd rfl (.inl rfl)) (pgs_cons (pg_name (i := 4) scMinus.nd rfl (.inl rfl)) pgs_nil)))
      (fun _ _ _ _ _ => pts_nil)
      (fun _ _ _ _ _ => pe_op op_sub (pv 3) (pe_op op_mulX (pv 1) (pv 4))))), ?_⟩
    refine ⟨.ref p, rfl, .ref q, rfl, p, q, _, _, rfl, ha.sq, hb.sq, fun D nD => ?_⟩
    refine lc_it (walk_zip (xs := a.map V.int) (ys := b.map V.int) rfl) (fun i H' => Same H H' ∧ H' D = some (.lst (((minusT a f b).take i).map V.int))) ⟨same_upd nD, upd_same⟩ (fun i H' _ h => ⟨(ha.same h.1).sq, (hb.same h.1).sq⟩) ?_ ?_
    · rintro i v H1 H2 hi ⟨s1, e1⟩ ⟨T, x, y, rfl, nT, rfl, gx, gy⟩
      obtain ⟨xi, hx, rfl⟩ := get_ints gx
      obtain ⟨yi, hy, rfl⟩ := get_ints gy
      have nTD : D ≠ T := ne_of_none e1 nT
      refine ⟨T, [.int xi, .int yi], rfl, .inl (.inl upd_same), rfl, .int xi, [.int yi], rfl, .int yi, [], rfl, rfl, rfl, yes_ (iteT ?_)⟩
      refine ⟨_, rfl, _, rfl, _, rfl, _, _, rfl, rfl, hm yi (List.mem_of_getElem? hy), _, _, rfl, rfl, _, (by rw [upd_ne nTD]; exact e1), ?_, ?_, ?_⟩
      · rw [List.length_map, List.length_take]
        rw [List.length_map, List.length_map] at hi
        exact Nat.lt_of_le_of_lt (Nat.min_le_left _ _) (small1000 (by omega))
      · exact same_grow (s1.trans (same_upd nT)) nD
      · rw [upd_same, take_one_more (minusT_get hx hy), List.map_append]
        rfl
    · rintro H' ⟨s1, e1⟩
      refine k H' D s1 nD ?_
      unfold IA
      rw [e1, List.take_of_length_le]
      rw [len_minusT hl]
      simp
      omega
/-! ### times_t -/
theorem scTimesT : FnScope ["coefficients", "number"] ["coefficients", "number"] (defScope sTimesT) := ⟨rfl, rfl, rfl, by decide +kernel, rfl, by decide +kernel, by decide +kernel⟩
/-- times_t -/
def timesT (k v : Vec) : Vec := minusT (0 :: v.dropLast) (v.getLastD 0) k
theorem timesT_up {k v : Vec} (h : v.length = k.length) (h0 : 0 < k.length) : timesT k v = Nf02.up k v := by
  have hl : (0 :: v.dropLast).length = k.length := by simp; omega
  refine F_ext (by unfold timesT; rw [len_minusT hl, hl, len_up h h0]) fun i _ => ?_
  unfold timesT Nf02.up
  simp only
  rw [F_minusT _ hl, F_plus (by simp; omega), F_map _ (by simp)]
  grind
theorem cut_butlast (xs : List V) : cutV xs none (some (-1)) = xs.dropLast := by
  unfold cutV
  rw [HT.sIx_none, List.drop_zero, List.dropLast_eq_take]
  congr 1
  show (if (-1 : Int) < 0 then (-1 + (xs.length : Int)).toNat else min (-1 : Int).toNat xs.length) - 0 = _
  rw [if_pos (by decide)]
  omega
theorem last_ints {v : List Int} (h : 0 < v.length) : atI (v.map V.int) (-1) = some (.int (v.getLastD 0)) := by
  have hn : v ≠ [] := fun e => by rw [e] at h; simp at h
  have hz : v.map V.int = (v.dropLast.map V.int) ++ [.int (v.getLast hn)] := by
    rw [← List.map_singleton, ← List.map_append, List.dropLast_concat_getLast]
  have e : v.getLastD 0 = v.getLast hn := by rw [List.getLastD_eq_getLast?, List.getLast?_eq_some_getLast hn]; rfl
  rw [e, hz]
  exact atI_last _ _
/-- what all that a ring's numbers meet keeps within the line -/
def MulAll (x : Int) (k : Vec) : Prop := ∀ c ∈ k, MulOk x c
def spTimesT : L2.Sp := fun vs H Q _ => ∃ (p q : Addr) (k v : Vec), vs = [.ref p, .ref q] ∧ IA H p k ∧ IA H q v ∧ v.length = k.length ∧ 0 < k.length ∧ k.length ≤ 1000 ∧ MulAll (v.getLastD 0) k ∧
  ∀ H' r, Same H H' → H r = none → IA H' r (Nf02.up k v) → Q (.ref r) H'
theorem ok_timesT (D : Df K mg "times_t" sTimesT ["coefficients", "number"]) (cM : Ok P w K mg base 1 "minus_times" pMinus spMinus) : Ok P w K mg base 2 "times_t" ["coefficients", "number"] spTimesT := D.ok fun f fd F => by
  refine F.ok scTimesT (fun vs H Q E h => ?_) (fun cdv A outer s H vs Q E hr h => ?_)
  · obtain ⟨p, q, k, v, rfl, _⟩ := h
    rfl
  · obtain ⟨p, q, k, v, rfl, hk, hv, hl, h0, h1000, hm, kk⟩ := h
    refine ⟨_, pss_one (ps_ret (pe_f cM hr (by decide) (by rfl) (pa_cons (pe_op op_cat (pe_lst (pa_cons pe_int pa_nil)) (pe_slice sl_list (pv 1) po_none (po_some (pe_un un_neg pe_int))))
      (pa_cons (pe_ix ix_list (pv 1) (pe_un un_neg pe_int) (fun _ _ => rfl)) (pa_cons (pv 0) pa_nil))))), ?_⟩
    refine ⟨(by show 1 ≤ sizeLine; decide), fun l nl => ?_⟩
    have s1 : Same H (upd H l (.lst [.int 0])) := same_upd nl
    refine ⟨_, rfl, _, rfl, _, rfl, q, _, rfl, (hv.same s1).sq, fun c nc => ?_⟩
    have s2 : Same H (upd (upd H l (.lst [.int 0])) c (.lst (cutV (v.map V.int) none (some (-1))))) := s1.trans (same_upd nc)
    have lc : l ≠ c := ne_of_none upd_same nc
    refine ⟨l, c, [.int 0], v.dropLast.map V.int, rfl, rfl, (by rw [upd_ne lc]; exact upd_same), (by rw [upd_same, cut_butlast, List.map_dropLast]), ?_, fun d nd => ?_⟩
    · rw [List.length_map, List.length_dropLast]
      exact Nat.le_of_lt (small1000 (by show 1 + (v.length - 1) ≤ 1000; omega))
    · have s3 : Same H _ := s2.trans (same_upd (o := .lst ([.int 0] ++ v.dropLast.map V.int)) nd)
      refine ⟨_, rfl, _, rfl, q, _, _, _, rfl, rfl, (hv.same s3).sq, last_ints (by omega), _, rfl, ?_⟩
      refine ⟨d, p, 0 :: v.dropLast, k, v.getLastD 0, rfl, upd_same, hk.same s3, by simp; omega, by simp; omega, hm, fun H' r s4 nr hr' => ?_⟩
      refine kk H' r (s3.trans s4) (s3.free nr) ?_
      rw [← timesT_up hl h0]
      exact hr'
/-! ### shifts_of -/
theorem scShifts : FnScope ["coefficients", "number", "shifts"] ["coefficients", "number"] (defScope sShifts) := ⟨rfl, rfl, rfl, by decide +kernel, rfl, by decide +kernel, by decide +kernel⟩
theorem spread_len (k v : Vec) : (Nf02.spread k v).length = k.length := by rw [spread_eq]; simp
theorem spread_get {k v : Vec} {i : Nat} (h : i < k.length) : (Nf02.spread k v)[i]? = some (it k i v) := by
  rw [spread_eq, List.getElem?_map, List.getElem?_range h]; rfl
def spShifts : L2.Sp := fun vs H Q _ => ∃ (p q : Addr) (k v : Vec), vs = [.ref p, .ref q] ∧ IA H p k ∧ IA H q v ∧ v.length = k.length ∧ 0 < k.length ∧ k.length ≤ 1000 ∧ (∀ i, i < k.length → MulAll ((it k i v).getLastD 0) k) ∧
  ∀ H' r as, Same H H' → H r = none → RA H' r as (Nf02.spread k v) → From H [] as → Q (.ref r) H'
theorem ok_shifts (D : Df K mg "shifts_of" sShifts ["coefficients", "number"]) (cT : Ok P w K mg base 2 "times_t" ["coefficients", "number"] spTimesT) (ml : mg "len" = none) (mli : mg "list" = none) : Ok P w K mg base 3 "shifts_of" ["coefficients", "number"] spShifts := D.ok fun f fd F => by
  refine F.ok scShifts (fun vs H Q E h => ?_) (fun cdv A outer s H vs Q E hr h => ?_)
  · obtain ⟨p, q, k, v, rfl, _⟩ := h
    rfl
  · obtain ⟨p, q, k, v, rfl, hk, hv, hl, h0, h1000, hm, kk⟩ := h
    refine ⟨_, pss_cons (ps_set (i := 2) scShifts.nd rfl (.inl rfl) (pe_lst (pa_cons (pe_callTy call_list_of (by rfl) mli (by decide +kernel) (pa_cons (pv 1) pa_nil)) pa_nil)))
      (pss_cons (ps_while PassesOwn.never (pt_cmpR op_lt (pe_callB call_len_seq (by rfl) ml PySem.boot_len (pa_cons (pv 2) pa_nil)) (pe_callB call_len_seq (by rfl) ml PySem.boot_len (pa_cons (pv 0) pa_nil)) (nomark _))
        (pss_one (ps_expr (pe_bm PySem.F.plainAttrs_list PySem.F.slot_list_append PySem.F.type_list_append mt_append (pv 2) (pa_cons (pe_f cT hr (by decide) (by rfl) (pa_cons (pv 0) (pa_cons (pe_ix ix_list (pv 2) (pe_un un_neg pe_int) (fun _ _ => rfl)) pa_nil))) pa_nil)))))
      (pss_one (ps_ret (pv 2)))), ?_⟩
    refine ⟨_, rfl, q, _, rfl, .inl hv.sq, fun c nc => ?_⟩
    have s1 : Same H (upd H c (.lst (v.map V.int))) := same_upd nc
    refine ⟨(by show 1 ≤ sizeLine; decide), fun l nl => ?_⟩
    have s2 : Same H (upd (upd H c (.lst (v.map V.int))) l (.lst [.ref c])) := s1.trans (same_upd nl)
    have lc : c ≠ l := ne_of_none upd_same nl
    have nH : H l = none := s1.free nl
    refine ⟨fun m σ H3 => ∃ i as, m + i = k.length ∧ 1 ≤ i ∧ σ = [some (.ref p), some (.ref q), some (.ref l)] ∧ Same H H3 ∧ RA H3 l as ((Nf02.spread k v).take i) ∧ From H [] as, ⟨k.length - 1, 1, [c], by omega, Nat.le_refl _, rfl, s2, ⟨upd_same, ?_⟩, fun a ha => ?_⟩, ?_⟩
    · have e : (Nf02.spread k v).take 1 = [v] := by
        rw [show (1 : Nat) = 0 + 1 from rfl, take_one_more (spread_get h0)]; rfl
      rw [e]
      refine .cons ?_ .nil
      unfold IA
      rw [upd_ne lc, upd_same]
    · rw [List.mem_singleton.mp ha]; exact .inl nc
    · rintro m σ H3 ⟨i, as, hmi, hi1, rfl, s3, hR, hF⟩
      have las : as.length = i := by rw [paired_len hR.all, List.length_take, spread_len]; omega
      refine ⟨_, rfl, l, _, rfl, .inl hR.sq, _, rfl, p, _, rfl, .inl (hk.same s3).sq, _, _, rfl, rfl, _, rfl, ?_⟩
      rw [List.length_map, List.length_map, las]
      refine ite2 (fun e => ?_) (fun e => ?_)
      · have hi : i < k.length := Int.ofNat_lt.mp (of_decide_eq_true e)
        obtain ⟨j, rfl⟩ : ∃ j, i = j + 1 := ⟨i - 1, by omega⟩
        have gj : ((Nf02.spread k v).take (j + 1))[j]? = some (it k j v) := by rw [List.getElem?_take_of_lt (by omega), spread_get (by omega)]
        obtain ⟨a, ga, ia⟩ := paired_at hR.all gj
        have la : atI (as.map V.ref) (-1) = some (.ref a) := by
          have e2 : as = as.take j ++ [a] := by
            have := take_one_more ga
            rwa [List.take_of_length_le (by omega)] at this
          rw [e2, List.map_append]
          exact atI_last _ _
        have lit := len_it (k := k) hl h0
        refine ⟨fun σ' H' => ∃ m', m' < m ∧ ∃ i as, m' + i = k.length ∧ 1 ≤ i ∧ σ' = [some (.ref p), some (.ref q), some (.ref l)] ∧ Same H H' ∧ RA H' l as ((Nf02.spread k v).take i) ∧ From H [] as, fun σ' H' h => h, ?_⟩
        refine ⟨_, rfl, .inl ⟨rfl, _, hR.sq⟩, _, rfl, _, rfl, _, rfl, l, _, _, _, rfl, rfl, hR.sq, la, p, a, k, it k j v, rfl, hk.same s3, ia, lit j, h0, h1000, hm j (by omega), fun H4 r s4 nr ir => ?_⟩
        have nrl : l ≠ r := ne_of_none hR.at_ nr
        refine ⟨l, _, _, rfl, rfl, s4 _ _ hR.at_, ?_, ?_⟩
        · rw [List.length_map, las]; exact small1000 (by omega)
        · have tk : (Nf02.spread k v).take (j + 1 + 1) = (Nf02.spread k v).take (j + 1) ++ [it k (j + 1) v] := take_one_more (spread_get hi)
          refine ⟨m - 1, by omega, j + 1 + 1, as ++ [r], by omega, by omega, rfl, same_grow (s3.trans s4) nH, ⟨by rw [upd_same, List.map_append]; rfl, ?_⟩, fun b hb => ?_⟩
          · rw [tk, it_succ]
            refine Paired.snoc (paired_upd (s4 _ _ hR.at_) (paired_same s4 hR.all) fun x hx => ?_) ?_
            · obtain ⟨t, ht, rfl⟩ := mem_spread.mp (List.mem_of_mem_take hx)
              rw [lit t]; exact h0
            · unfold IA
              rw [upd_ne nrl.symm]
              exact ir
          · rcases List.mem_append.mp hb with z | z
            · exact hF b z
            · rw [List.mem_singleton.mp z]; exact .inl (s3.free nr)
      · have hi : i = k.length := by
          have : ¬ i < k.length := fun z => e (decide_eq_true (Int.ofNat_lt.mpr z))
          omega
        refine ⟨_, rfl, kk H3 l as s3 nH ?_ hF⟩
        rwa [List.take_of_length_le (by rw [spread_len]; omega)] at hR
end
end Hnd
set_option Elab.async false
set_option linter.all false
set_option maxRecDepth 100000
set_option maxHeartbeats 2000000
/-! times, cleared_at. -/
namespace Hnd
open PySem PySem.Spec PyProof.Rows L2
open Idl hiding Sp F R E
open Nf02 (Vec)
section
variable {P : Program} {w : World} {K : PySem.W.Frag} {mg : Str → Option Value} {base : Heap}
/-! ### sizes -/
theorem pow_lt {x : Int} {n : Nat} (h : x.natAbs ≤ 2 ^ n) : x.natAbs < 2 ^ (n + 1) := by
  have : 2 ^ n < 2 ^ (n + 1) := Nat.pow_lt_pow_right (by decide) (by omega)
  omega
theorem mul_ok {i j : Int} {a b : Nat} (ha : i.natAbs ≤ 2 ^ a) (hb : j.natAbs ≤ 2 ^ b) (h : a + b ≤ 134217700) : MulOk i j := mulx_ok (pow_lt ha) (pow_lt hb) (by omega)
/-- a ring's coefficients, as small as the document lets them be -/
structure Coef (k : Vec) : Prop where
  pos : 0 < k.length
  four : k.length ≤ 4
  small : ∀ j, (Idl.F k j).natAbs ≤ 20
theorem Coef.of {k : Vec} (h : Ring k) : Coef k := ⟨h.pos, h.four, h.small⟩
theorem Coef.it {k v : Vec} {V : Nat} (h : Coef k) (hv : v.length = k.length) (hb : ∀ j, (Idl.F v j).natAbs ≤ V) : ∀ i j, (Idl.F (it k i v) j).natAbs ≤ 21 ^ i * V
  | 0, j => by rw [Nat.pow_zero, Nat.one_mul]; exact hb j
  | i + 1, j => by
    rw [it_succ, F_up (len_it hv h.pos i) h.pos]
    have := bd_Up h.small (h.it hv hb i) j
    have e : 21 ^ (i + 1) * V = 21 * (21 ^ i * V) := by rw [Nat.pow_succ]; grind
    rw [e]; exact this
theorem Coef.it_big {k v : Vec} (h : Coef k) (hv : v.length = k.length) (hb : ∀ j, (Idl.F v j).natAbs ≤ 2 ^ 100) {i : Nat} (hi : i ≤ 4) (j : Nat) : (Idl.F (Idl.it k i v) j).natAbs ≤ 2 ^ 120 := by
  have a := h.it hv hb i j
  have b : 21 ^ i ≤ 21 ^ 4 := Nat.pow_le_pow_right (by omega) hi
  have c : 21 ^ i * 2 ^ 100 ≤ 21 ^ 4 * 2 ^ 100 := Nat.mul_le_mul_right _ b
  have d : 21 ^ 4 * 2 ^ 100 ≤ 2 ^ 120 := by decide
  omega
theorem coef_mem {k : Vec} (h : Coef k) {c : Int} (hc : c ∈ k) : c.natAbs ≤ 2 ^ 5 := Nat.le_trans (entry_le h.small c hc) (by decide)
theorem Coef.mulAll {k v : Vec} (h : Coef k) (hv : v.length = k.length) (hb : ∀ j, (Idl.F v j).natAbs ≤ 2 ^ 100) {i : Nat} (hi : i < k.length) : MulAll ((Idl.it k i v).getLastD 0) k := fun c hc => by
  rw [getLastD_eq (len_it hv h.pos i) h.pos]
  exact mul_ok (h.it_big hv hb (by have := h.four; omega) _) (coef_mem h hc) (by decide)
theorem small4 {n : Nat} (h : n ≤ 4) : n ≤ 1000 := by omega
/-! ### times -/
abbrev nTimes : List Str := ["coefficients", "one", "other", "total", "place", "shift"]
abbrev pTwo : List Str := ["coefficients", "one", "other"]
theorem scTimes : FnScope nTimes pTwo (defScope sTimes) := ⟨rfl, rfl, rfl, by decide +kernel, rfl, by decide +kernel, by decide +kernel⟩
def tStep (k : Vec) (x : Vec × Vec) (c : Int) : Vec × Vec := (Nf02.plus x.1 (Nf02.scale c x.2), Nf02.up k x.2)
def tot (k a b : Vec) (i : Nat) : Vec × Vec := (a.take i).foldl (tStep k) (List.replicate k.length 0, b)
theorem tot_more {k a b : Vec} {i : Nat} {c : Int} (h : a[i]? = some c) : tot k a b (i + 1) = tStep k (tot k a b i) c := by
  unfold tot
  rw [take_one_more h, List.foldl_append]; rfl
theorem tot_all (k a b : Vec) : (tot k a b a.length).1 = Nf02.times k a b := by
  unfold tot
  rw [List.take_length]; rfl
theorem tot_ok {k a b : Vec} (hb : b.length = k.length) (h0 : 0 < k.length) : ∀ i, i ≤ a.length → (tot k a b i).1.length = k.length ∧ (tot k a b i).2 = Idl.it k i b
  | 0, _ => ⟨by simp [tot], rfl⟩
  | i + 1, h => by
    have ih := tot_ok (a := a) hb h0 i (by omega)
    rw [tot_more (List.getElem?_eq_getElem (show i < a.length by omega))]
    have l2 : (tot k a b i).2.length = k.length := by rw [ih.2]; exact len_it hb h0 i
    refine ⟨?_, ?_⟩
    · show (Nf02.plus _ _).length = _
      rw [len_plus (by rw [len_scale, ih.1, l2]), ih.1]
    · show Nf02.up k _ = _
      rw [ih.2, it_succ]
theorem tot_minus {k a b : Vec} (hb : b.length = k.length) (h0 : 0 < k.length) {i : Nat} {c : Int} (h : a[i]? = some c) : minusT (tot k a b i).1 (-c) (Idl.it k i b) = (tot k a b (i + 1)).1 := by
  have hi : i < a.length := (List.getElem?_eq_some_iff.mp h).1
  have ih := tot_ok (a := a) hb h0 i (by omega)
  rw [tot_more h, minusT_eq (by rw [ih.1, len_it hb h0 i])]
  show _ = Nf02.plus _ _
  rw [ih.2, Int.zero_sub, Int.neg_neg]
def spTimes : L2.Sp := fun vs H Q _ => ∃ (p q r : Addr) (k a b : Vec), vs = [.ref p, .ref q, .ref r] ∧ IA H p k ∧ IA H q a ∧ IA H r b ∧ Coef k ∧ a.length = k.length ∧ b.length = k.length ∧ (∀ j, (Idl.F a j).natAbs ≤ 2 ^ 100) ∧ (∀ j, (Idl.F b j).natAbs ≤ 2 ^ 100) ∧
  ∀ H' t, Same H H' → H t = none → IA H' t (Nf02.times k a b) → Q (.ref t) H'
theorem ok_times (D : Df K mg "times" sTimes pTwo) (cS : Ok P w K mg base 3 "shifts_of" ["coefficients", "number"] spShifts) (cM : Ok P w K mg base 1 "minus_times" pMinus spMinus) (ml : mg "len" = none) (mz : mg "zip" = none) : Ok P w K mg base 4 "times" pTwo spTimes := D.ok fun f fd F => by
  refine F.ok scTimes (fun vs H Q E h => ?_) (fun cdv A outer s H vs Q E hr h => ?_)
  · obtain ⟨p, q, r, k, a, b, rfl, _⟩ := h
    rfl
  · obtain ⟨p, q, r, k, a, b, rfl, hk, ha, hb, hc, la, lb, ba, bb, kk⟩ := h
    refine ⟨_, pss_cons (ps_set (i := 3) scTimes.nd rfl (.inl rfl) (pe_op op_rep (pe_lst (pa_cons pe_int pa_nil)) (pe_callB call_len_seq (by rfl) ml PySem.boot_len (pa_cons (pv 0) pa_nil))))
      (pss_cons (ps_for PassesOwn.never rfl (pi_zip (by rfl) mz (pa_cons (pv 1) (pa_cons (pe_f cS hr (by decide) (by rfl) (pa_cons (pv 0) (pa_cons (pv 2) pa_nil))) pa_nil)))
          (pg_tup rfl (pgs_cons (pg_name (i := 4) scTimes.nd rfl (.inl rfl)) (pgs_cons (pg_name (i := 5) scTimes.nd rfl (.inl rfl)) pgs_nil)))
        (pss_one (ps_set (i := 3) scTimes.nd rfl (.inl rfl) (pe_f cM hr (by decide) (by rfl) (pa_cons (pv 3) (pa_cons (pe_un un_neg (pv 4)) (pa_cons (pv 5) pa_nil)))))))
      (pss_one (ps_ret (pv 3)))), ?_⟩
    have h4 := hc.four
    refine ⟨(by show 1 ≤ sizeLine; decide), fun l nl => ?_⟩
    have s1 : Same H (upd H l (.lst [.int 0])) := same_upd nl
    refine ⟨_, rfl, p, _, rfl, .inl (hk.same s1).sq, l, _, [.int 0], rfl, rfl, upd_same, ?_, ?_, ?_, fun t nt => ?_⟩
    · omega
    · rw [List.length_map]; omega
    · rw [List.length_map, Int.toNat_natCast]
      show 1 * k.length ≤ sizeLine
      rw [Nat.one_mul]
      exact Nat.le_of_lt (small1000 (by omega))
    · rw [List.length_map, Int.toNat_natCast]
      have s2 : Same H (upd (upd H l (.lst [.int 0])) t (.lst (List.replicate k.length [V.int 0]).flatten)) := s1.trans (same_upd nt)
      have e0 : (List.replicate k.length [V.int 0]).flatten = (tot k a b 0).1.map V.int := by
        unfold tot
        simp
      rw [e0] at s2 ⊢
      refine ⟨_, rfl, _, rfl, _, rfl, p, r, k, b, rfl, hk.same s2, hb.same s2, lb, hc.pos, small4 h4, fun i hi => hc.mulAll lb bb hi, fun H3 u as s3 nu hR hF => ?_⟩
      refine ⟨q, u, _, _, rfl, ((ha.same s2).same s3).sq, hR.sq, ?_⟩
      refine for_it (walk_zip (xs := a.map V.int) (ys := as.map V.ref) rfl) (fun i σ H' => ∃ y z x, σ = [some (.ref p), some (.ref q), some (.ref r), some (.ref x), y, z] ∧ Same H3 H' ∧ IA H' x (tot k a b i).1 ∧ H x = none)
        ⟨none, none, t, rfl, Same.refl _, s3 _ _ upd_same, s1.free nt⟩ (fun i σ H' _ h => ?_) ?_ ?_
      · obtain ⟨_, _, _, _, s4, _⟩ := h
        exact ⟨(((ha.same s2).same s3).same s4).sq, (hR.same s4).sq⟩
      · rintro i x0 σ H1 H2 hi ⟨y, z, x, rfl, s4, ix, nx⟩ ⟨T, x1, x2, rfl, nT, rfl, gx, gy⟩
        obtain ⟨c, hc1, rfl⟩ := get_ints gx
        obtain ⟨b1, hb1, rfl⟩ := get_refs gy
        obtain ⟨v, gv, iv⟩ := paired_at' hR.all hb1
        have hi' : i < k.length := by
          have := (List.getElem?_eq_some_iff.mp hc1).1
          omega
        rw [spread_get hi'] at gv
        cases (Option.some.inj gv)
        refine ⟨T, [.int c, .ref b1], rfl, .inl (.inl upd_same), rfl, .int c, [.ref b1], rfl, .ref b1, [], rfl, rfl, ?_⟩
        have s5 : Same H1 (upd H1 T (.tup [.int c, .ref b1])) := same_upd nT
        have tl := tot_ok (a := a) lb hc.pos i (by omega)
        refine ⟨_, rfl, _, rfl, _, rfl, _, rfl, x, b1, (tot k a b i).1, Idl.it k i b, -c, rfl, ix.same s5, (iv.same s4).same s5, by rw [tl.1, len_it lb hc.pos i], by rw [tl.1]; exact small4 h4, fun z hz => ?_, fun H5 r5 s6 nr5 ir5 => ?_⟩
        · refine mul_ok (a := 100) (b := 120) ?_ ?_ (by decide)
          · rw [Int.natAbs_neg]
            have := ba i
            unfold Idl.F at this
            rwa [List.getD_eq_getElem?_getD, hc1, Option.getD_some] at this
          · exact entry_le (fun j => hc.it_big lb bb (by omega) j) z hz
        · rw [tot_minus lb hc.pos hc1] at ir5
          exact ⟨_, _, r5, rfl, (s4.trans s5).trans s6, ir5, (((s2.trans s3).trans s4).trans s5).free nr5⟩
      · rintro σ H' ⟨y, z, x, rfl, s4, ix, nx⟩
        refine ⟨_, rfl, ?_⟩
        have e : min (a.map V.int).length (as.map V.ref).length = a.length := by
          rw [List.length_map, List.length_map, paired_len hR.all, spread_len]; omega
        rw [e, tot_all] at ix
        exact kk H' x ((s2.trans s3).trans s4) nx ix
end
end Hnd
set_option Elab.async false
set_option linter.all false
set_option maxRecDepth 100000
set_option maxHeartbeats 2000000
/-! cleared_at: a division of numbers of any size. -/
namespace Hnd
open PySem PySem.Spec PyProof.Rows L2
open Idl hiding Sp F R E
open Nf02 (Vec)
abbrev sCleared : Stmt := top 6
/-- floor division of numbers of any size, where a division by _pylong has its room -/
theorem op_fdivP {X : Cx} (hN : X.base.NoSeer) (ht : X.prog.given.tree = none) (hs : X.stack = X.env :: X.outer) (hg : X.env.scope.isGenerator = false) (hc : X.env.scope.isCoroutine = false) (hd : X.A.depth + 100 < recursionLimit) :
    OpR X (binaryOp .FloorDiv) (rI (fun _ j => j ≠ 0) fun i j => .int (i.fdiv j)) := by
  intro pins s σ H x y v u Q I rx ry h
  obtain ⟨i, j, rfl, rfl, hj, q⟩ := h
  obtain ⟨t, rfl⟩ := rx
  obtain ⟨t', rfl⟩ := ry
  exact floordiv_int hj ⟨.int (i.fdiv j), H, I.tok _, ⟨_, rfl⟩, q⟩
    (.inr (PySem.PylongRoom.of I.nolimit hd (PySem.SeerAt.of (hN.keeps I.bk) ht (I.ok.frames.trans (congrArg some hs)) hg hc I.ok.blt I.ok.glob)))
theorem deep {A : Around} {k : Nat} (hr : Room k A) (hk : 32 ≤ k) : A.depth + 100 < recursionLimit := by
  have := hr.dp
  omega
theorem fdiv_le {a b : Int} (h : b ≠ 0) : (a.fdiv b).natAbs ≤ a.natAbs := by
  have e := fmod_lt (a := a) h
  have k : (a.fdiv b * b).natAbs < a.natAbs + b.natAbs := by omega
  rw [Int.natAbs_mul] at k
  refine Nat.le_of_lt_succ (Nat.lt_of_mul_lt_mul_right (a := b.natAbs) (Nat.lt_of_lt_of_le k ?_))
  have : 1 ≤ b.natAbs := by omega
  have m : a.natAbs * 1 ≤ a.natAbs * b.natAbs := Nat.mul_le_mul_left _ this
  rw [Nat.succ_mul]
  omega
section
variable {P : Program} {w : World} {K : PySem.W.Frag} {mg : Str → Option Value} {base : Heap}
theorem F_get {v : Vec} {i : Nat} (h : i < v.length) : v[i]? = some (Idl.F v i) := by
  rw [List.getElem?_eq_getElem h]
  unfold Idl.F
  rw [List.getD_eq_getElem?_getD, List.getElem?_eq_getElem h]; rfl
theorem IA.item {H : Hp} {p : Addr} {v : Vec} {i : Nat} (h : i < v.length) : atI (v.map V.int) (i : Int) = some (.int (Idl.F v i)) := ints_at (F_get h)
/-- how large rows may be -/
def WIDE : Nat := 60000000
abbrev nCleared : List Str := ["one", "other", "place", "upper", "lower", "rest"]
abbrev pCleared : List Str := ["one", "other", "place"]
theorem scCleared : FnScope nCleared pCleared (defScope sCleared) := ⟨rfl, rfl, rfl, by decide +kernel, rfl, by decide +kernel, by decide +kernel⟩
def spCleared : L2.Sp := fun vs H Q _ => ∃ (p q : Addr) (a b : Vec) (i n d x : Nat), vs = [.ref p, .ref q, .int (i : Int)] ∧ IA H p a ∧ IA H q b ∧ a.length = n ∧ b.length = n ∧ i < n ∧ n ≤ 1000 ∧
  (Idl.F a i).natAbs ≤ 2 ^ d ∧ (Idl.F b i).natAbs ≤ 2 ^ d ∧ (∀ j, (Idl.F a j).natAbs ≤ 2 ^ x) ∧ (∀ j, (Idl.F b j).natAbs ≤ 2 ^ x) ∧ x + d + 3 ≤ WIDE ∧
  ∀ H' r u l, Same H H' → H r = none → H' r = some (.lst [.ref u, .ref l]) → IA H' u (cleared i a b).1 → IA H' l (cleared i a b).2 → From H [p, q] [u, l] → Q (.ref r) H'
theorem ok_cleared (D : Df K mg "cleared_at" sCleared pCleared) (cM : Ok P w K mg base 1 "minus_times" pMinus spMinus) (hN : base.NoSeer) (hT : P.given.tree = none) : Ok P w K mg base 40 "cleared_at" pCleared spCleared := D.ok fun f fd F => by
  refine F.ok scCleared (fun vs H Q E h => ?_) (fun cdv A outer s H vs Q E hr h => ?_)
  · obtain ⟨p, q, a, b, i, n, d, x, rfl, _⟩ := h
    rfl
  · obtain ⟨p, q, a, b, i, n, d, x, rfl, ha, hb, la, lb, hi, h1000, da, db, xa, xb, hw, kk⟩ := h
    refine ⟨_, pss_cons (ps_set (i := 3) scCleared.nd rfl (.inl rfl) (pv 0))
      (pss_cons (ps_set (i := 4) scCleared.nd rfl (.inl rfl) (pv 1))
      (pss_cons (ps_while PassesOwn.never (pt_cmpR op_ne (pe_ix ix_list (pv 4) (pv 2) (fun _ _ => rfl)) pe_int (nomark _))
        (pss_cons (ps_set (i := 5) scCleared.nd rfl (.inl rfl) (pe_f cM hr (by decide) (by rfl) (pa_cons (pv 3) (pa_cons (pe_op (op_fdivP hN hT rfl rfl rfl (deep hr (by decide))) (pe_ix ix_list (pv 3) (pv 2) (fun _ _ => rfl)) (pe_ix ix_list (pv 4) (pv 2) (fun _ _ => rfl))) (pa_cons (pv 4) pa_nil)))))
        (pss_cons (ps_set (i := 3) scCleared.nd rfl (.inl rfl) (pv 4))
        (pss_one (ps_set (i := 4) scCleared.nd rfl (.inl rfl) (pv 5))))))
      (pss_one (ps_ret (pe_lst (pa_cons (pv 3) (pa_cons (pv 4) pa_nil))))))), ?_⟩
    refine ⟨_, rfl, _, rfl, ?_⟩
    have grow : 4 * 2 ^ d * 2 ^ x + 2 ^ x ≤ 2 ^ (x + d + 3) := grow_pow d x
    refine ⟨fun m σ H3 => ∃ (pu pl : Addr) (u l : Vec) (y : Option V), m = (Idl.F l i).natAbs ∧ σ = [some (.ref p), some (.ref q), some (.int (i : Int)), some (.ref pu), some (.ref pl), y] ∧ Same H H3 ∧ IA H3 pu u ∧ IA H3 pl l ∧ CInv i n (2 ^ d) (2 ^ x) a b u l ∧ From H [p, q] [pu, pl],
      ⟨_, p, q, a, b, none, rfl, rfl, Same.refl _, ha, hb, CInv.start la lb da db xa xb, fun z hz => .inr hz⟩, ?_⟩
    rintro m σ H3 ⟨pu, pl, u, l, y, rfl, rfl, s3, iu, il, inv, fr⟩
    have hil : i < l.length := by rw [inv.ll]; exact hi
    have hiu : i < u.length := by rw [inv.lu]; exact hi
    refine ⟨_, rfl, _, rfl, pl, _, _, _, rfl, rfl, il.sq, IA.item (H := H3) (p := pl) hil, rfl, _, rfl, ?_⟩
    by_cases z : Idl.F l i = 0
    · have e : (decide (V.int (Idl.F l i) = V.int 0)) = true := decide_eq_true (by rw [z])
      rw [e]
      refine iteF ?_
      refine ⟨_, rfl, _, rfl, (by show 2 ≤ sizeLine; decide), fun t nt => ?_⟩
      have c := inv.same
      rw [cleared_done z] at c
      have s4 := same_upd (o := .lst [.ref pu, .ref pl]) nt
      refine kk _ t pu pl (s3.trans s4) (s3.free nt) upd_same ?_ ?_ fr
      · rw [← c]; exact iu.same s4
      · rw [← c]; exact il.same s4
    · have e : (decide (V.int (Idl.F l i) = V.int 0)) = false := decide_eq_false (fun q => z (V.int.inj q))
      rw [e]
      refine iteT ?_
      have st := inv.step xa xb z
      refine ⟨fun σ' H' => ∃ m', m' < (Idl.F l i).natAbs ∧ ∃ (pu pl : Addr) (u l : Vec) (y : Option V), m' = (Idl.F l i).natAbs ∧ σ' = [some (.ref p), some (.ref q), some (.int (i : Int)), some (.ref pu), some (.ref pl), y] ∧ Same H H' ∧ IA H' pu u ∧ IA H' pl l ∧ CInv i n (2 ^ d) (2 ^ x) a b u l ∧ From H [p, q] [pu, pl], fun σ' H' h => h, ?_⟩
      refine ⟨_, rfl, _, rfl, _, rfl, pu, _, _, _, rfl, rfl, iu.sq, IA.item (H := H3) (p := pu) hiu, _, rfl, _, rfl, pl, _, _, _, rfl, rfl, il.sq, IA.item (H := H3) (p := pl) hil, _, _, rfl, rfl, z, _, rfl, ?_⟩
      refine ⟨pu, pl, u, l, _, rfl, iu, il, by rw [inv.lu, inv.ll], by rw [inv.lu]; exact h1000, fun c hc => ?_, fun H4 r s4 nr ir => ?_⟩
      · refine mul_ok (a := d) (b := x + d + 3) (Nat.le_trans (fdiv_le z) inv.du) ?_ (by unfold WIDE at hw; omega)
        exact Nat.le_trans (entry_le inv.bl c hc) grow
      · refine ⟨_, rfl, _, rfl, ?_⟩
        refine ⟨_, ?_, pl, r, l, _, _, rfl, rfl, s3.trans s4, il.same s4, ir, st, fun b hb => ?_⟩
        · rw [F_minusT _ (by rw [inv.lu, inv.ll])]
          exact fmod_lt z
        · rcases List.mem_cons.mp hb with e | e
          · rw [e]; exact fr pl (by simp)
          · rw [List.mem_singleton.mp e]; exact .inl (s3.free nr)
end
end Hnd
set_option Elab.async false
set_option linter.all false
set_option maxRecDepth 100000
set_option maxHeartbeats 2000000
/-! row_and_others. -/
namespace Hnd
open PySem PySem.Spec PyProof.Rows L2
open Idl hiding Sp F R E
open Nf02 (Vec)
abbrev sRowOthers : Stmt := top 7
section
variable {P : Program} {w : World} {K : PySem.W.Frag} {mg : Str → Option Value} {base : Heap}
theorem cut_one (xs : List V) : cutV xs (some 1) none = xs.drop 1 := by
  unfold cutV
  rw [show HT.sIx xs.length 0 (some 1) = min 1 xs.length from HT.sIx_nat xs.length 0 1, HT.sIx_none]
  cases xs with
  | nil => rfl
  | cons x r =>
    rw [show min 1 (x :: r).length = 1 by rw [List.length_cons]; omega]
    show List.take ((x :: r).length - 1) r = r
    rw [List.length_cons, Nat.add_sub_cancel]
    exact List.take_length
/-- one stands when a list of references is changed -/
theorem IA.upd {H : Hp} {p q : Addr} {o : HO} {bs : List Addr} {v : Vec} (h : H p = some (.lst (bs.map V.ref))) (k : IA H q v) (hv : 0 < v.length) : IA (upd H p o) q v := by
  unfold IA
  rw [upd_ne (ref_ne_int h k hv)]
  exact k
abbrev nRowOthers : List Str := ["vectors", "place", "row", "others", "vector", "pair", "number"]
abbrev pRowOthers : List Str := ["vectors", "place"]
theorem scRowOthers : FnScope nRowOthers pRowOthers (defScope sRowOthers) := ⟨rfl, rfl, rfl, by decide +kernel, rfl, by decide +kernel, by decide +kernel⟩
def spRowOthers : L2.Sp := fun vs H Q _ => ∃ (p : Addr) (as : List Addr) (rs : List Vec) (i n b : Nat), vs = [.ref p, .int (i : Int)] ∧ RA H p as rs ∧ Lens n rs ∧ i < n ∧ n ≤ 1000 ∧ rs ≠ [] ∧ rs.length ≤ 1000 ∧ Bd (2 ^ b) rs ∧ grown b (rs.length - 1) ≤ LIM ∧
  ∀ H' r bs, Same H H' → H r = none → RA H' r bs ((rowOthers i rs).1 :: (rowOthers i rs).2) → From H as bs → Q (.ref r) H'
theorem ok_rowOthers (D : Df K mg "row_and_others" sRowOthers pRowOthers) (cC : Ok P w K mg base 40 "cleared_at" pCleared spCleared) : Ok P w K mg base 41 "row_and_others" pRowOthers spRowOthers := D.ok fun f fd F => by
  refine F.ok scRowOthers (fun vs H Q E h => ?_) (fun cdv A outer s H vs Q E hr h => ?_)
  · obtain ⟨p, as, rs, i, n, b, rfl, _⟩ := h
    rfl
  · obtain ⟨p, as, rs, i, n, b, rfl, hR, hl, hi, h1000, hne, hmany, hb, hg, kk⟩ := h
    refine ⟨_, pss_cons (ps_set (i := 2) scRowOthers.nd rfl (.inl rfl) (pe_ix ix_list (pv 0) pe_int (fun _ _ => rfl)))
      (pss_cons (ps_set (i := 3) scRowOthers.nd rfl (.inl rfl) (pe_lst pa_nil))
      (pss_cons (ps_for PassesOwn.never rfl (pi_list (pe_slice sl_list (pv 0) (po_some pe_int) po_none)) (pg_name (i := 4) scRowOthers.nd rfl (.inl rfl))
        (pss_cons (ps_set (i := 5) scRowOthers.nd rfl (.inl rfl) (pe_f cC hr (by decide) (by rfl) (pa_cons (pv 2) (pa_cons (pv 4) (pa_cons (pv 1) pa_nil)))))
        (pss_cons (ps_set (i := 2) scRowOthers.nd rfl (.inl rfl) (pe_ix ix_list (pv 5) pe_int (fun _ _ => rfl)))
        (pss_one (ps_expr (pe_bm PySem.F.plainAttrs_list PySem.F.slot_list_append PySem.F.type_list_append mt_append (pv 3) (pa_cons (pe_ix ix_list (pv 5) pe_int (fun _ _ => rfl)) pa_nil)))))))
      (pss_cons (ps_if (pt_cmpR op_lt (pe_ix ix_list (pv 2) (pv 1) (fun _ _ => rfl)) pe_int (nomark _))
        (pss_one (ps_setLc (i := 2) (own := [("number", 6)]) (g := gName 6) (tt := tYes) rfl scRowOthers.nd rfl rfl (sw_true rfl rfl rfl (by decide +kernel)) (pi_list (pv 2)) (blkOk_by (N := nRowOthers) (sc := defScope sRowOthers) (by decide +kernel))
          (fun _ _ _ _ _ => pg_name (i := 6) scRowOthers.nd rfl (.inl rfl)) (fun _ _ _ _ _ => pts_nil) (fun _ _ _ _ _ => pe_un un_neg (pv 6)))) pss_nil)
      (pss_one (ps_ret (pe_op op_cat (pe_lst (pa_cons (pv 2) pa_nil)) (pv 3))))))), ?_⟩
    obtain ⟨r0, rest0, rfl⟩ : ∃ r0 rest0, rs = r0 :: rest0 := by
      cases rs with
      | nil => exact absurd rfl hne
      | cons x y => exact ⟨x, y, rfl⟩
    obtain ⟨hat, hall⟩ := hR
    cases hall with
    | @cons a0 _ as0 _ i0 hall0 =>
    have lens0 : as0.length = rest0.length := paired_len hall0
    refine ⟨_, rfl, p, _, 0, .ref a0, rfl, rfl, SqL.of hat, atI_nat (j := 0) rfl, ?_⟩
    refine ⟨Nat.zero_le _, fun o no => ?_⟩
    have s1 : Same H (upd H o (.lst [])) := same_upd no
    refine ⟨_, rfl, 1, rfl, p, _, rfl, SqL.of (s1 _ _ hat), fun c nc => ?_⟩
    have s2 := s1.trans (same_upd (o := .lst (cutV ((a0 :: as0).map V.ref) (some 1) none)) nc)
    have oc : o ≠ c := ne_of_none upd_same nc
    have ecut : cutV ((a0 :: as0).map V.ref) (some 1) none = as0.map V.ref := by rw [cut_one]; rfl
    rw [ecut] at s2 ⊢
    have n0 : 0 < n := by omega
    have pos : ∀ v : Vec, v.length = n → 0 < v.length := fun v e => by omega
    refine ⟨c, rfl, ⟨_, SqL.of upd_same⟩, for_list (K := K) (a := c) (xs := as0.map V.ref) (fun k σ H' => ∃ (pr : Addr) (os : List Addr) (y z : Option V), σ = [some (.ref p), some (.int (i : Int)), some (.ref pr), some (.ref o), y, z, none] ∧ Same H H' ∧ H' c = some (.lst (as0.map V.ref)) ∧
        RA H' o os (rowFold i r0 (rest0.take k)).2 ∧ IA H' pr (rowFold i r0 (rest0.take k)).1 ∧ From H (a0 :: as0) (pr :: os)) ?_ ?_ ?_ ?_⟩
    · refine ⟨a0, [], none, none, rfl, s2, upd_same, ⟨?_, .nil⟩, i0.same s2, fun x hx => .inr ?_⟩
      · rw [upd_ne oc]; exact upd_same
      · rw [List.mem_singleton.mp hx]; exact List.mem_cons_self ..
    · rintro k σ H' _ ⟨_, _, _, _, _, _, hc, _⟩
      exact SqL.of hc
    · rintro k x σ H1 hx ⟨pr, os, y, z, rfl, s3, hc, hR3, ir, fr⟩
      obtain ⟨av, hav, rfl⟩ := get_refs hx
      obtain ⟨v, hv, iv⟩ := paired_at' hall0 hav
      have kl : k < rest0.length := (List.getElem?_eq_some_iff.mp hv).1
      have inv := rowFold_inv (p := i) hl hb k (by omega)
      have cok := inv.ok hl hb (show (r0 :: rest0)[k + 1]? = some v from hv)
      have mono : grown b k ≤ grown b ((r0 :: rest0).length - 1) := grown_mono b (by show k ≤ rest0.length + 1 - 1; omega)
      have bl : b ≤ grown b k := by rw [grown_eq]; omega
      have mv : v ∈ r0 :: rest0 := List.mem_cons_of_mem _ (List.mem_of_getElem? hv)
      refine ⟨_, rfl, _, rfl, _, rfl, pr, av, (rowFold i r0 (rest0.take k)).1, v, i, n, b, grown b k, rfl, ir, (iv.same s3), inv.lr, hl v mv, hi, h1000, inv.d, hb v mv i, inv.br, fun j => Nat.le_trans (hb v mv j) (Nat.pow_le_pow_right (by omega) bl), ?_, fun H4 r4 u l s4 nr e4 iu il fr4 => ?_⟩
      · unfold LIM at hg
        unfold WIDE
        omega
      · have or : o ≠ r4 := ne_of_none hR3.at_ nr
        refine ⟨_, rfl, r4, _, 0, .ref u, rfl, rfl, SqL.of e4, atI_nat (j := 0) rfl, ?_⟩
        refine ⟨_, rfl, .inl ⟨rfl, _, SqL.of (s4 _ _ hR3.at_)⟩, _, rfl, r4, _, 1, .ref l, rfl, rfl, SqL.of e4, atI_nat (j := 1) rfl, o, _, _, rfl, rfl, s4 _ _ hR3.at_, ?_, ?_⟩
        · rw [List.length_map, paired_len hR3.all, inv.many]
          refine small1000 ?_
          have : (r0 :: rest0).length ≤ 1000 := hmany
          rw [List.length_cons] at this
          omega
        · rw [rowFold_take hv]
          refine ⟨u, os ++ [l], some (.ref av), some (.ref r4), rfl, same_grow (s3.trans s4) no, ?_, ⟨?_, ?_⟩, ?_, ?_⟩
          · rw [upd_ne oc.symm]
            exact s4 _ _ hc
          · rw [upd_same, List.map_append]; rfl
          · refine Paired.snoc (paired_upd (s4 _ _ hR3.at_) (paired_same s4 hR3.all) fun x hx => pos x (inv.lo x hx)) (il.upd (s4 _ _ hR3.at_) (pos _ cok.ll))
          · exact iu.upd (s4 _ _ hR3.at_) (pos _ cok.lu)
          · have two : ∀ z, z ∈ [u, l] → H z = none ∨ z ∈ a0 :: as0 := fun z hz => by
              rcases fr4 z hz with e | m
              · exact .inl (s3.free e)
              · rcases List.mem_cons.mp m with e | e
                · rw [e]; exact fr pr (List.mem_cons_self ..)
                · rw [List.mem_singleton.mp e]; exact .inr (List.mem_cons_of_mem _ (List.mem_of_getElem? hav))
            intro z hz
            rcases List.mem_cons.mp hz with e | e
            · rw [e]; exact two u (by simp)
            · rcases List.mem_append.mp e with e | e
              · exact fr z (List.mem_cons_of_mem _ e)
              · rw [List.mem_singleton.mp e]; exact two l (by simp)
    · rintro σ H1 ⟨pr, os, y, z, rfl, s3, hc, hR3, ir, fr⟩
      have ek : (as0.map V.ref).length = rest0.length := by rw [List.length_map, lens0]
      rw [ek, List.take_length] at hR3 ir
      have inv := rowFold_inv (p := i) hl hb rest0.length (Nat.le_refl _)
      rw [List.take_length] at inv
      have hil : i < (rowFold i r0 rest0).1.length := by rw [inv.lr]; exact hi
      -- what follows the if
      have fin : ∀ (H2 : Hp) (pr2 : Addr) (w2 : Vec) (y z : Option V), Same H1 H2 → IA H2 pr2 w2 → w2 = (rowOthers i (r0 :: rest0)).1 → (H pr2 = none ∨ pr2 ∈ a0 :: as0) →
          (tRet (tOp rCat (tLst (tCons (tVar 2) tNil)) (tVar 3))) { nx := fun _ H' => Q .non H', rt := Q } [some (.ref p), some (.int (i : Int)), some (.ref pr2), some (.ref o), y, z, none] H2 := fun H2 pr2 w2 y z s4 iw ew fw => by
        refine ⟨_, rfl, (by show 1 ≤ sizeLine; decide), fun t nt => ?_⟩
        have s5 := same_upd (o := .lst [.ref pr2]) nt
        have ho := (hR3.same s4).same s5
        refine ⟨_, rfl, t, o, [.ref pr2], os.map V.ref, rfl, rfl, upd_same, ho.at_, ?_, fun u nu => ?_⟩
        · rw [List.length_map, paired_len hR3.all, inv.many]
          refine Nat.le_of_lt (small1000 ?_)
          have : (r0 :: rest0).length ≤ 1000 := hmany
          rw [List.length_cons] at this
          show 1 + rest0.length ≤ 1000
          omega
        · have s6 := same_upd (o := .lst ([V.ref pr2] ++ os.map V.ref)) nu
          refine kk _ u (pr2 :: os) (((s3.trans s4).trans s5).trans s6) (((s3.trans s4).trans s5).free nu) ⟨upd_same, .cons ?_ (ho.same s6).all⟩ fun x hx => ?_
          · rw [← ew]; exact (iw.same s5).same s6
          · rcases List.mem_cons.mp hx with e | e
            · rw [e]; exact fw
            · exact fr x (List.mem_cons_of_mem _ e)
      refine ⟨_, rfl, _, rfl, pr, _, _, _, rfl, rfl, ir.sq, IA.item (H := H1) (p := pr) hil, _, _, rfl, rfl, _, rfl, ?_⟩
      refine ite2 (fun e => ?_) (fun e => ?_)
      · have neg : Idl.F (rowFold i r0 rest0).1 i < 0 := of_decide_eq_true e
        refine ⟨_, rfl, pr, rfl, ⟨_, ir.sq⟩, fun D nD => ?_⟩
        refine lc_list (K := K) (a := pr) (xs := (rowFold i r0 rest0).1.map V.int) (fun k H' => Same H1 H' ∧ H' D = some (.lst (((negV (rowFold i r0 rest0).1).take k).map V.int))) ⟨same_upd nD, upd_same⟩ (fun k H' _ h => (ir.same h.1).sq) ?_ ?_
        · rintro k x H2 hx ⟨s4, e4⟩
          obtain ⟨xi, hxi, rfl⟩ := get_ints hx
          refine ⟨rfl, yes_ (iteT ?_)⟩
          have gk : (negV (rowFold i r0 rest0).1)[k]? = some (-xi) := by unfold negV; rw [List.getElem?_map, hxi]; rfl
          refine ⟨_, rfl, _, rfl, _, e4, ?_, same_grow s4 nD, ?_⟩
          · rw [List.length_map, List.length_take, len_negV, inv.lr]
            exact Nat.lt_of_le_of_lt (Nat.min_le_right _ _) (small1000 h1000)
          · rw [upd_same, take_one_more gk, List.map_append]; rfl
        · rintro H2 ⟨s4, e4⟩
          refine fin H2 D (negV (rowFold i r0 rest0).1) _ _ s4 ?_ ?_ (.inl (s3.free nD))
          · unfold IA
            rw [e4, List.length_map, List.take_of_length_le (by rw [len_negV]; exact Nat.le_refl _)]
          · show _ = if Idl.F (rowFold i r0 rest0).1 i < 0 then _ else _
            rw [if_pos neg]
            rfl
      · have neg : ¬ Idl.F (rowFold i r0 rest0).1 i < 0 := fun q => e (decide_eq_true q)
        refine fin H1 pr _ _ _ (Same.refl _) ir ?_ (fr pr (List.mem_cons_self ..))
        show _ = if Idl.F (rowFold i r0 rest0).1 i < 0 then _ else _
        rw [if_neg neg]
        rfl
end
end Hnd
set_option Elab.async false
set_option linter.all false
set_option maxRecDepth 100000
set_option maxHeartbeats 2000000
/-! lessened, rows_of. -/
namespace Hnd
open PySem PySem.Spec PyProof.Rows L2
open Idl hiding Sp F R E
open Nf02 (Vec)
abbrev sLessened : Stmt := top 8
abbrev sRowsOf : Stmt := top 12
section
variable {P : Program} {w : World} {K : PySem.W.Frag} {mg : Str → Option Value} {base : Heap}
theorem rows_at {as : List Addr} {rs : List Vec} {H : Hp} {i : Nat} (h : Paired (IA H) as rs) (hi : i < rs.length) : ∃ a, as[i]? = some a ∧ IA H a rs[i] := by
  obtain ⟨a, ha, ia⟩ := paired_at h (List.getElem?_eq_getElem hi)
  exact ⟨a, ha, ia⟩
/-! ### lessened -/
abbrev nLessened : List Str := ["row", "place", "rows", "j"]
abbrev pLessened : List Str := ["row", "place", "rows"]
theorem scLessened : FnScope nLessened pLessened (defScope sLessened) := ⟨rfl, rfl, rfl, by decide +kernel, rfl, by decide +kernel, by decide +kernel⟩
def spLessened : L2.Sp := fun vs H Q _ => ∃ (q r : Addr) (as : List Addr) (rs : List Vec) (v : Vec) (n m : Nat), vs = [.ref q, .int (m : Int), .ref r] ∧ IA H q v ∧ RA H r as rs ∧ rs.length = m ∧ Lens n rs ∧ v.length = n ∧ m ≤ n ∧ n ≤ 8 ∧
  (∀ i, i < m → 0 < Idl.R rs i i) ∧ (∀ j, (Idl.F v j).natAbs ≤ 2 ^ LIM) ∧ Bd (2 ^ LIM) rs ∧
  ∀ H' t, Same H H' → IA H' t (Nf02.rest rs v) → (H t = none ∨ t = q) → Q (.ref t) H'
theorem ok_lessened (D : Df K mg "lessened" sLessened pLessened) (cM : Ok P w K mg base 1 "minus_times" pMinus spMinus) (mr : mg "range" = none) (hN : base.NoSeer) (hT : P.given.tree = none) : Ok P w K mg base 40 "lessened" pLessened spLessened := D.ok fun f fd F => by
  refine F.ok scLessened (fun vs H Q E h => ?_) (fun cdv A outer s H vs Q E hr h => ?_)
  · obtain ⟨q, r, as, rs, v, n, m, rfl, _⟩ := h
    rfl
  · obtain ⟨q, r, as, rs, v, n, m, rfl, hv, hR, hm, hl, lv, hmn, hn, hp, bv, hb, kk⟩ := h
    refine ⟨_, pss_cons (ps_for PassesOwn.never rfl (pi_range3 rfl mr (pa_cons (pe_op op_sub (pv 1) pe_int) (pa_cons (pe_un un_neg pe_int) (pa_cons (pe_un un_neg pe_int) pa_nil)))) (pg_name (i := 3) scLessened.nd rfl (.inl rfl))
        (pss_one (ps_set (i := 0) scLessened.nd rfl (.inl rfl) (pe_f cM hr (by decide) (by rfl) (pa_cons (pv 0) (pa_cons (pe_op (op_fdivP hN hT rfl rfl rfl (deep hr (by decide))) (pe_ix ix_list (pv 0) (pv 3) (fun _ _ => rfl)) (pe_ix ix_list (pe_ix ix_list (pv 2) (pv 3) (fun _ _ => rfl)) (pv 3) (fun _ _ => rfl)))
          (pa_cons (pe_ix ix_list (pv 2) (pv 3) (fun _ _ => rfl)) pa_nil)))))))
      (pss_one (ps_ret (pv 0))), ?_⟩
    have rg : RgC ((m : Int) - 1) (-1) (-1) m := by
      have := RgC.neg (i := (m : Int) - 1) (j := -1) (by omega) (by omega) (by omega) (by omega)
      have e : ((m : Int) - 1 - -1).toNat = m := by omega
      rwa [e] at this
    refine ⟨_, rfl, _, _, rfl, rfl, _, rfl, _, rfl, _, _, _, m, rfl, rg, ?_⟩
    refine for_rangeC (lo := (m : Int) - 1) (c := -1) (n := m) (fun k σ H' => ∃ (t : Addr) (u : Vec) (y : Option V), σ = [some (.ref t), some (.int (m : Int)), some (.ref r), y] ∧ Same H H' ∧ IA H' t u ∧ u.length = n ∧ Nf02.rest (rs.take (m - k)) u = Nf02.rest rs v ∧ (∀ j, (Idl.F u j).natAbs ≤ 2 ^ (LIM + k * (LIM + 1))) ∧ (H t = none ∨ t = q))
      ⟨q, v, none, rfl, Same.refl _, hv, lv, by rw [Nat.sub_zero, ← hm, List.take_length], by rw [Nat.zero_mul, Nat.add_zero]; exact bv, .inr rfl⟩ ?_ ?_
    · rintro k σ H1 hk ⟨t, u, y, rfl, s1, iu, lu, er, bu, fr⟩
      obtain ⟨j, hj⟩ : ∃ j, m - k = j + 1 := ⟨m - k - 1, by omega⟩
      have ej : (m : Int) - 1 + (k : Nat) * -1 = (j : Int) := by omega
      rw [ej]
      have hjr : j < rs.length := by omega
      obtain ⟨a, ga, ia⟩ := rows_at hR.all hjr
      have lx : rs[j].length = n := hl _ (List.getElem_mem hjr)
      have px : 0 < Idl.F rs[j] j := by
        have := hp j (by omega)
        rwa [R_at hjr] at this
      have iu1 : IA H1 t u := iu
      have sqr : SqL K H1 r (as.map V.ref) := (hR.same s1).sq
      have sqa : SqL K H1 a (rs[j].map V.int) := (ia.same s1).sq
      refine ⟨_, rfl, _, rfl, _, rfl, t, _, _, _, rfl, rfl, iu.sq, IA.item (H := H1) (p := t) (by omega), _, rfl, _, rfl, r, _, _, _, rfl, rfl, sqr, refs_at ga, _, rfl, a, _, _, _, rfl, rfl, sqa, IA.item (H := H1) (p := a) (by omega), _, _, rfl, rfl, by omega, _, rfl, _, rfl, r, _, _, _, rfl, rfl, sqr, refs_at ga, ?_⟩
      have ne : Idl.F rs[j] j ≠ 0 := by omega
      have qb : ((Idl.F u j).fdiv (Idl.F rs[j] j)).natAbs ≤ 2 ^ (LIM + k * (LIM + 1)) := Nat.le_trans (fdiv_le ne) (bu j)
      have bx := hb _ (List.getElem_mem hjr)
      have k8 : k * (LIM + 1) ≤ 8 * (LIM + 1) := Nat.mul_le_mul_right _ (by omega)
      refine ⟨t, a, u, rs[j], _, rfl, iu, ia.same s1, by rw [lu, lx], by omega, fun c hc => ?_, fun H2 t2 s2 nt2 it2 => ?_⟩
      · refine mul_ok qb (entry_le bx c hc) ?_
        unfold LIM at k8 ⊢
        omega
      · refine ⟨t2, _, _, rfl, s1.trans s2, it2, by rw [len_minusT (by rw [lu, lx]), lu], ?_, ?_, .inl (s1.free nt2)⟩
        · have e2 : m - (k + 1) = j := by omega
          rw [e2, less_eq (by rw [lu, lx]) (by omega) px, ← rest_take (List.getElem?_eq_getElem hjr), ← hj, er]
        · intro i
          have := less_bd (by rw [lu, lx]) bu qb bx i
          have e3 : LIM + (k + 1) * (LIM + 1) = LIM + k * (LIM + 1) + LIM + 1 := by rw [Nat.add_mul, Nat.one_mul]; omega
          rw [e3]; exact this
    · rintro σ H1 ⟨t, u, y, rfl, s1, iu, lu, er, bu, fr⟩
      rw [Nat.sub_self] at er
      have e0 : u = Nf02.rest rs v := er
      refine ⟨_, rfl, kk H1 t s1 ?_ fr⟩
      rw [← e0]; exact iu
/-! ### rows_of -/
abbrev nRowsOf : List Str := ["vectors", "width", "steps", "others", "place", "found", "rows", "step"]
abbrev pRowsOf : List Str := ["vectors", "width"]
theorem scRowsOf : FnScope nRowsOf pRowsOf (defScope sRowsOf) := ⟨rfl, rfl, rfl, by decide +kernel, rfl, by decide +kernel, by decide +kernel⟩
def spRowsOf : L2.Sp := fun vs H Q _ => ∃ (p : Addr) (as : List Addr) (l : List Vec) (n : Nat), vs = [.ref p, .int (n : Int)] ∧ RA H p as l ∧ Left n n l ∧ l.length ≤ 1000 ∧ 0 < n ∧ n ≤ 8 ∧
  ∀ H' r bs, Same H H' → H r = none → RA H' r bs (rowsOf l n) → From H as bs → Q (.ref r) H'
theorem ok_rowsOf (D : Df K mg "rows_of" sRowsOf pRowsOf) (cR : Ok P w K mg base 41 "row_and_others" pRowOthers spRowOthers) (cL : Ok P w K mg base 40 "lessened" pLessened spLessened) (mr : mg "range" = none) (mv : mg "reversed" = none) (ml : mg "len" = none) : Ok P w K mg base 42 "rows_of" pRowsOf spRowsOf := D.ok fun f fd F => by
  refine F.ok scRowsOf (fun vs H Q E h => ?_) (fun cdv A outer s H vs Q E hr h => ?_)
  · obtain ⟨p, as, l, n, rfl, _⟩ := h
    rfl
  · obtain ⟨p, as, l, n, rfl, hR, hL, hmany, h0, h8, kk⟩ := h
    refine ⟨_, pss_cons (ps_set (i := 2) scRowsOf.nd rfl (.inl rfl) (pe_lst pa_nil))
      (pss_cons (ps_set (i := 3) scRowsOf.nd rfl (.inl rfl) (pv 0))
      (pss_cons (ps_for PassesOwn.never rfl (pi_range3 rfl mr (pa_cons (pe_op op_sub (pv 1) pe_int) (pa_cons (pe_un un_neg pe_int) (pa_cons (pe_un un_neg pe_int) pa_nil)))) (pg_name (i := 4) scRowsOf.nd rfl (.inl rfl))
        (pss_cons (ps_set (i := 5) scRowsOf.nd rfl (.inl rfl) (pe_f cR hr (by decide) (by rfl) (pa_cons (pv 3) (pa_cons (pv 4) pa_nil))))
        (pss_cons (ps_expr (pe_bm PySem.F.plainAttrs_list PySem.F.slot_list_append PySem.F.type_list_append mt_append (pv 2) (pa_cons (pe_ix ix_list (pv 5) pe_int (fun _ _ => rfl)) pa_nil)))
        (pss_one (ps_set (i := 3) scRowsOf.nd rfl (.inl rfl) (pe_slice sl_list (pv 5) (po_some pe_int) po_none))))))
      (pss_cons (ps_set (i := 6) scRowsOf.nd rfl (.inl rfl) (pe_lst pa_nil))
      (pss_cons (ps_for PassesOwn.never rfl (pi_reversed (by rfl) mv (pa_cons (pv 2) pa_nil)) (pg_name (i := 7) scRowsOf.nd rfl (.inl rfl))
        (pss_one (ps_expr (pe_bm PySem.F.plainAttrs_list PySem.F.slot_list_append PySem.F.type_list_append mt_append (pv 6) (pa_cons (pe_f cL hr (by decide) (by rfl) (pa_cons (pv 7) (pa_cons (pe_callB call_len_seq (by rfl) ml PySem.boot_len (pa_cons (pv 6) pa_nil)) (pa_cons (pv 6) pa_nil)))) pa_nil)))))
      (pss_one (ps_ret (pv 6))))))), ?_⟩
    have rg : RgC ((n : Int) - 1) (-1) (-1) n := by
      have := RgC.neg (i := (n : Int) - 1) (j := -1) (by omega) (by omega) (by omega) (by omega)
      have e : ((n : Int) - 1 - -1).toNat = n := by omega
      rwa [e] at this
    have st := rsteps_ok n l hL.gp hL.upto hL.full
    have stb := rsteps_bd n l hL.gp hL.upto hL.full
    have pos : ∀ v : Vec, v.length = n → 0 < v.length := fun v e => by omega
    refine ⟨Nat.zero_le _, fun o no => ?_⟩
    have s1 : Same H (upd H o (.lst [])) := same_upd no
    have po : p ≠ o := ne_of_none hR.at_ no
    refine ⟨_, rfl, _, rfl, _, _, rfl, rfl, _, rfl, _, rfl, _, _, _, n, rfl, rg, ?_⟩
    refine for_rangeC (lo := (n : Int) - 1) (c := -1) (n := n) (fun k σ H' => ∃ (q : Addr) (bs ss : List Addr) (lo sv : List Vec) (y z : Option V), σ = [some (.ref p), some (.int (n : Int)), some (.ref o), some (.ref q), y, z, none, none] ∧ Same H H' ∧ q ≠ o ∧ RA H' q bs lo ∧ H' o = some (.lst (ss.map V.ref)) ∧ Paired (IA H') ss sv ∧
        Lens n sv ∧ sv.length = k ∧ Left n (n - k) lo ∧ lo.length ≤ 1000 ∧ rsteps n l = rsteps (n - k) lo ++ sv.reverse ∧ From H as bs ∧ From H as ss) ?_ ?_ ?_
    · exact ⟨p, as, [], l, [], none, none, rfl, s1, po, hR.same s1, upd_same, .nil, fun x hx => by simp at hx, rfl, hL, hmany, by rw [Nat.sub_zero, List.reverse_nil, List.append_nil], fun a ha => .inr ha, fun a ha => by simp at ha⟩
    · rintro k σ H1 hk ⟨q, bs, ss, lo, sv, y, z, rfl, s2, qo, hq, ho, hs, lsv, nsv, left, many, er, fb, fs⟩
      obtain ⟨j, hj⟩ : ∃ j, n - k = j + 1 := ⟨n - k - 1, by omega⟩
      have ej : (n : Int) - 1 + (k : Nat) * -1 = (j : Int) := by omega
      rw [ej]
      rw [hj] at left er
      obtain ⟨b, hb, hg⟩ := left.room
      obtain ⟨down, lenr⟩ := left.down
      have dl := left.len
      refine ⟨_, rfl, _, rfl, q, bs, lo, j, n, b, rfl, hq, left.gp.lens, by omega, by omega, left.ne, many, hb, hg, fun H2 t ts s3 nt ht ft => ?_⟩
      obtain ⟨htat, htall⟩ := ht
      cases htall with
      | @cons u _ us _ iu hus =>
      have ot : o ≠ t := ne_of_none ho nt
      refine ⟨_, rfl, .inl ⟨rfl, _, SqL.of (s3 _ _ ho)⟩, _, rfl, t, _, 0, .ref u, rfl, rfl, SqL.of htat, atI_nat (j := 0) rfl, o, _, _, rfl, rfl, s3 _ _ ho, ?_, ?_⟩
      · rw [List.length_map, paired_len hs, nsv]; exact small1000 (by omega)
      · have tt : (upd H2 o (.lst (ss.map V.ref ++ [.ref u]))) t = some (.lst ((u :: us).map V.ref)) := by rw [upd_ne ot.symm]; exact htat
        refine ⟨_, rfl, 1, rfl, t, _, rfl, SqL.of tt, fun c nc => ?_⟩
        have e1 : cutV ((u :: us).map V.ref) (some 1) none = us.map V.ref := by rw [cut_one]; rfl
        rw [e1]
        have sc := same_upd (o := .lst (us.map V.ref)) nc
        have oc : o ≠ c := fun e => by rw [← e, upd_same] at nc; cases nc
        have lus : Lens n (rowOthers j lo).2 := down.gp.lens
        have s4 : Same H (upd H2 o (.lst (ss.map V.ref ++ [.ref u]))) := same_grow (s2.trans s3) no
        refine ⟨c, us, ss ++ [u], (rowOthers j lo).2, sv ++ [(rowOthers j lo).1], _, _, rfl, s4.trans sc, oc.symm, ⟨upd_same, paired_same sc (paired_upd (s3 _ _ ho) hus fun x hx => pos x (lus x hx))⟩, ?_, ?_, ?_, by rw [List.length_append, nsv]; rfl, ?_, by omega, ?_, ?_, ?_⟩
        · rw [upd_ne oc, upd_same, List.map_append]; rfl
        · refine paired_same sc (Paired.snoc (paired_upd (s3 _ _ ho) (paired_same s3 hs) fun x hx => pos x (lsv x hx)) (iu.upd (s3 _ _ ho) (pos _ lenr)))
        · intro x hx
          rcases List.mem_append.mp hx with e | e
          · exact lsv x e
          · rw [List.mem_singleton.mp e]; exact lenr
        · have e2 : n - (k + 1) = j := by omega
          rw [e2]; exact down
        · have e2 : n - (k + 1) = j := by omega
          rw [e2, er, List.reverse_append]
          show rsteps j _ ++ [_] ++ _ = rsteps j _ ++ ([_] ++ _)
          rw [List.append_assoc]
        · intro a ha
          rcases ft a (List.mem_cons_of_mem _ ha) with e | m
          · exact .inl (s2.free e)
          · exact fb a m
        · intro a ha
          rcases List.mem_append.mp ha with e | e
          · exact fs a e
          · rw [List.mem_singleton.mp e]
            rcases ft u (List.mem_cons_self ..) with e | m
            · exact .inl (s2.free e)
            · exact fb u m
    · rintro σ H1 ⟨q, bs, ss, lo, sv, y, z, rfl, s2, qo, hq, ho, hs, lsv, nsv, left, many, er, fb, fs⟩
      rw [Nat.sub_self] at er
      have er2 : rsteps n l = sv.reverse := er
      have lss : ss.length = n := by rw [paired_len hs, nsv]
      refine ⟨Nat.zero_le _, fun d nd => ?_⟩
      have s3 := same_upd (o := .lst []) nd
      have dn : H d = none := s2.free nd
      have od : o ≠ d := ne_of_none ho nd
      refine ⟨_, rfl, o, _, rfl, SqL.of (s3 _ _ ho), ?_⟩
      refine for_it (walk_rev (xs := ss.map V.ref)) (fun k σ H' => ∃ (ds : List Addr) (x : Option V), σ = [some (.ref p), some (.int (n : Int)), some (.ref o), some (.ref q), y, z, some (.ref d), x] ∧ Same H1 H' ∧ RA H' d ds (Nf02.lower ((rsteps n l).take k)) ∧ From H as ds) ?_ ?_ ?_ ?_
      · exact ⟨[], none, rfl, s3, ⟨upd_same, .nil⟩, fun a ha => by simp at ha⟩
      · rintro k σ H' _ ⟨_, _, _, s4, _⟩
        exact SqL.of (s4 _ _ ho)
      · rintro k x σ H2 H2' hk ⟨ds, x0, rfl, s4, hd, fd⟩ ⟨rfl, hx⟩
        rw [List.length_map, lss] at hk hx
        obtain ⟨a, ha, rfl⟩ := get_refs hx
        obtain ⟨v, hv, iv⟩ := paired_at' hs ha
        have gv : (rsteps n l)[k]? = some v := by
          rw [er2, List.getElem?_reverse (by rw [nsv]; exact hk), nsv]; exact hv
        have sf := sofar (SpL.lat l) st stb (k := k) (by omega)
        have lv : v.length = n := st.lens v (List.mem_of_getElem? gv)
        have hlen : ((ds.map V.ref).length : Int) = ((Nf02.lower ((rsteps n l).take k)).length : Int) := by rw [List.length_map, paired_len hd.all]
        refine ⟨_, rfl, .inl ⟨rfl, _, hd.sq⟩, _, rfl, _, rfl, d, _, rfl, .inl hd.sq, _, rfl, ?_⟩
        rw [hlen]
        refine ⟨a, d, ds, Nf02.lower ((rsteps n l).take k), v, n, (Nf02.lower ((rsteps n l).take k)).length, rfl, iv.same s4, hd, rfl, sf.lens, lv, by rw [sf.len]; omega, h8, by rw [sf.len]; exact sf.pos, stb v (List.mem_of_getElem? gv), sf.bd, fun H3 t s5 it ft => ?_⟩
        refine ⟨d, _, _, rfl, rfl, s5 _ _ hd.at_, ?_, ?_⟩
        · rw [List.length_map, paired_len hd.all, sf.len]; exact small1000 (by omega)
        · have lr : (Nf02.rest (Nf02.lower ((rsteps n l).take k)) v).length = n := (rest_ok k _ v sf.len (by omega) sf.lens sf.upto sf.pos lv).len
          refine ⟨ds ++ [t], _, rfl, same_grow (s4.trans s5) nd, ⟨by rw [upd_same, List.map_append]; rfl, ?_⟩, fun b hb => ?_⟩
          · rw [lower_take gv]
            exact Paired.snoc (paired_upd (s5 _ _ hd.at_) (paired_same s5 hd.all) fun x hx => pos x (sf.lens x hx)) (it.upd (s5 _ _ hd.at_) (pos _ lr))
          · rcases List.mem_append.mp hb with e | e
            · exact fd b e
            · rw [List.mem_singleton.mp e]
              rcases ft with e | e
              · exact .inl ((s2.trans s4).free e)
              · rw [e]; exact fs a (List.mem_of_getElem? ha)
      · rintro σ H2 ⟨ds, x, rfl, s4, hd, fd⟩
        refine ⟨_, rfl, kk H2 d ds (s2.trans s4) dn ?_ fd⟩
        rw [List.length_map, lss, List.take_of_length_le (by rw [st.len]; exact Nat.le_refl _)] at hd
        exact hd
end
end Hnd
set_option Elab.async false
set_option linter.all false
set_option maxRecDepth 100000
set_option maxHeartbeats 2000000
/-! rows_mapped_into, norm_of. -/
namespace Hnd
open PySem PySem.Spec PyProof.Rows L2
open Idl hiding Sp F R E
open Nf02 (Vec)
abbrev sMapped : Stmt := top 13
abbrev sNorm : Stmt := top 15
/-- a slice within a comprehension -/
theorem sl_list_of {X : Cx} {K : PySem.W.Frag} (h : X.K = K) : SlR X (rSlL K) := by
  subst h
  exact sl_list
theorem ix_list_of {X : Cx} {K : PySem.W.Frag} (h : X.K = K) : IxR X (rIxL K) := by
  subst h
  exact ix_list
section
variable {P : Program} {w : World} {K : PySem.W.Frag} {mg : Str → Option Value} {base : Heap}
theorem cut_to (xs : List V) (n : Nat) : cutV xs none (some (n : Int)) = xs.take n := by
  unfold cutV
  rw [show HT.sIx xs.length xs.length (some (n : Int)) = min n xs.length from HT.sIx_nat _ _ _, HT.sIx_none, List.drop_zero, Nat.sub_zero]
  by_cases h : n ≤ xs.length
  · rw [Nat.min_eq_left h]
  · rw [Nat.min_eq_right (by omega), List.take_length, List.take_of_length_le (by omega)]
theorem paired_take {α β : Type} {G : α → β → Prop} : ∀ {as : List α} {vs : List β} (n : Nat), Paired G as vs → Paired G (as.take n) (vs.take n)
  | _, _, 0, _ => by simp; exact .nil
  | _, _, n + 1, .nil => by simp; exact .nil
  | _, _, n + 1, .cons g t => .cons g (paired_take n t)
theorem paired_app {α β : Type} {G : α → β → Prop} : ∀ {as bs : List α} {vs us : List β}, Paired G as vs → Paired G bs us → Paired G (as ++ bs) (vs ++ us)
  | _, _, _, _, .nil, h => h
  | _, _, _, _, .cons g t, h => .cons g (paired_app t h)
theorem From.of_none {H : Hp} {as bs : List Addr} (h : From H [] bs) : From H as bs := fun a ha => by
  rcases h a ha with e | m
  · exact .inl e
  · simp at m
/-! ### rows_mapped_into -/
abbrev nMapped : List Str := ["sources", "images", "target", "width", "vectors", "source", "image", "row"]
abbrev pMapped : List Str := ["sources", "images", "target"]
theorem scMapped : FnScope nMapped pMapped (defScope sMapped) := ⟨rfl, rfl, rfl, by decide +kernel, rfl, by decide +kernel, by decide +kernel⟩
theorem left_of_pre {n : Nat} {g : Vec → Vec} {f : Fn → Fn} {src t : List Vec} (h4 : n ≤ 4) (h : MapPre n g f src t) : Left (2 * n) (2 * n) (mappedL n g src t) :=
  Left.start ⟨lens_mapped h.maps, 100, h.bd, by rw [many_mapped h.many h.rows.len]; exact capP.mono (by omega) (by omega) (Nat.le_refl _) cap_8_8⟩ (full_mapped h.maps h.full h.rows)
def spMapped : L2.Sp := fun vs H Q _ => ∃ (p q r : Addr) (as bs cs : List Addr) (src t : List Vec) (g : Vec → Vec) (f : Fn → Fn) (n : Nat), vs = [.ref p, .ref q, .ref r] ∧ RA H p as src ∧ RA H q bs (src.map g) ∧ RA H r cs t ∧ MapPre n g f src t ∧ 0 < n ∧ n ≤ 4 ∧
  ∀ H' u ds, Same H H' → H u = none → RA H' u ds (mapped n g src t) → From H [] ds → Q (.ref u) H'
theorem ok_mapped (D : Df K mg "rows_mapped_into" sMapped pMapped) (cR : Ok P w K mg base 42 "rows_of" pRowsOf spRowsOf) (ml : mg "len" = none) (mz : mg "zip" = none) : Ok P w K mg base 43 "rows_mapped_into" pMapped spMapped := D.ok fun f fd F => by
  refine F.ok scMapped (fun vs H Q E h => ?_) (fun cdv A outer s H vs Q E hr h => ?_)
  · obtain ⟨p, q, r, as, bs, cs, src, t, g, f, n, rfl, _⟩ := h
    rfl
  · obtain ⟨p, q, r, as, bs, cs, src, t, g, f, n, rfl, hp, hq, hrr, pre, h0, h4, kk⟩ := h
    refine ⟨_, pss_cons (ps_set (i := 3) scMapped.nd rfl (.inr rfl) (pe_callB call_len_seq (by rfl) ml PySem.boot_len (pa_cons (pv 0) pa_nil)))
      (pss_cons (ps_setLc (i := 4) (own := [("source", 5), ("image", 6)]) (g := gTup K 2 (gCons (gName 5) (gCons (gName 6) gNil))) (tt := tYes) rfl scMapped.nd rfl rfl (sw_true rfl rfl rfl (by decide +kernel))
          (pi_zip (by rfl) mz (pa_cons (pv 0) (pa_cons (pv 1) pa_nil))) (blkOk_by (N := nMapped) (sc := defScope sMapped) (by decide +kernel))
          (fun _ _ _ _ _ => pg_tup rfl (pgs_cons (pg_name (i := 5) scMapped.nd rfl (.inl rfl)) (pgs_cons (pg_name (i := 6) scMapped.nd rfl (.inl rfl)) pgs_nil)))
          (fun _ _ _ _ _ => pts_nil) (fun _ _ _ _ _ => pe_op op_cat (pv 5) (pv 6)))
      (pss_cons (ps_expr (pe_bm PySem.F.plainAttrs_list PySem.F.slot_list_extend PySem.F.type_list_extend mt_extend (pv 4) (pa_cons
          (pe_lc (own := [("row", 7)]) (g := gName 7) (tt := tYes) rfl scMapped.nd (pi_list (pv 2)) (blkOk_by (N := nMapped) (sc := defScope sMapped) (by decide +kernel))
            (fun _ _ _ _ _ => pg_name (i := 7) scMapped.nd rfl (.inl rfl)) (fun _ _ _ _ _ => pts_nil)
            (fun _ _ _ _ _ => pe_op op_cat (pe_op op_rep (pe_lst (pa_cons pe_int pa_nil)) (pv 3)) (pv 7))) pa_nil)))
      (pss_one (ps_ret (pe_lc (own := [("row", 7)]) (g := gName 7) (tt := tYes) rfl scMapped.nd
          (pi_list (pe_slice sl_list (pe_f cR hr (by decide) (by rfl) (pa_cons (pv 4) (pa_cons (pe_op op_mul pe_int (pv 3)) pa_nil))) po_none (po_some (pv 3))))
          (blkOk_by (N := nMapped) (sc := defScope sMapped) (by decide +kernel))
          (fun _ _ _ _ _ => pg_name (i := 7) scMapped.nd rfl (.inl rfl)) (fun _ _ _ _ _ => pts_nil)
          (fun _ _ _ _ _ => pe_slice (sl_list_of (K := K) rfl) (pv 7) po_none (po_some (pv 3)))))))), ?_⟩
    have ls : src.length = n := pre.many
    have lt : t.length = n := pre.rows.len
    have las : as.length = n := by rw [paired_len hp.all, ls]
    have lcs : cs.length = n := by rw [paired_len hrr.all, lt]
    refine ⟨_, rfl, p, _, rfl, .inl hp.sq, ?_⟩
    rw [List.length_map, las]
    -- vectors = [source + image ..]
    have elen : ∀ x : Vec, x.length = n → (x.map V.int).length = n := fun x e => by rw [List.length_map, e]
    refine ⟨_, rfl, _, rfl, p, q, _, _, rfl, hp.sq, hq.sq, fun D nD => ?_⟩
    refine lc_it (walk_zip (xs := as.map V.ref) (ys := bs.map V.ref) rfl) (fun i H' => ∃ xs : List Addr, Same H H' ∧ RA H' D xs ((src.map fun s => s ++ g s).take i) ∧ From H [] xs) ⟨[], same_upd nD, ⟨upd_same, .nil⟩, fun a ha => by simp at ha⟩
      (fun i H' _ ⟨_, s1, _⟩ => ⟨(hp.same s1).sq, (hq.same s1).sq⟩) ?_ ?_
    · rintro i v H1 H2 hi ⟨xs, s1, hD, hf⟩ ⟨T, x, y, rfl, nT, rfl, gx, gy⟩
      obtain ⟨a, ga, rfl⟩ := get_refs gx
      obtain ⟨b, gb, rfl⟩ := get_refs gy
      obtain ⟨sv, gs, is⟩ := paired_at' hp.all ga
      obtain ⟨iv, gi, ii⟩ := paired_at' hq.all gb
      have ei : iv = g sv := by
        rw [List.getElem?_map, gs] at gi
        exact (Option.some.inj gi).symm
      subst ei
      have ms : sv ∈ src := List.mem_of_getElem? gs
      have il : i < n := by
        have := (List.getElem?_eq_some_iff.mp gs).1
        omega
      have l1 : sv.length = n := pre.maps.ls sv ms
      have l2 : (g sv).length = n := pre.maps.lg sv ms
      have sT := same_upd (o := .tup [.ref a, .ref b]) nT
      refine ⟨T, [.ref a, .ref b], rfl, .inl (.inl upd_same), rfl, .ref a, [.ref b], rfl, .ref b, [], rfl, rfl, rfl, yes_ (iteT ?_)⟩
      refine ⟨_, rfl, _, rfl, a, b, sv.map V.int, (g sv).map V.int, rfl, rfl, (is.same s1).same sT, (ii.same s1).same sT, ?_, fun c nc => ?_⟩
      · rw [elen _ l1, elen _ l2]
        exact Nat.le_of_lt (small1000 (by omega))
      · have sc := same_upd (o := .lst (sv.map V.int ++ (g sv).map V.int)) nc
        have hD2 := (hD.same sT).same sc
        have Dc : c ≠ D := fun e => by
          have := sT _ _ hD.at_
          rw [← e, nc] at this; cases this
        have gk : (src.map fun s => s ++ g s)[i]? = some (sv ++ g sv) := by rw [List.getElem?_map, gs]; rfl
        refine ⟨_, hD2.at_, ?_, xs ++ [c], same_grow ((s1.trans sT).trans sc) nD, ⟨by rw [upd_same, List.map_append]; rfl, ?_⟩, fun z hz => ?_⟩
        · rw [List.length_map, paired_len hD.all, List.length_take]
          exact Nat.lt_of_le_of_lt (Nat.min_le_left _ _) (small1000 (by omega))
        · rw [take_one_more gk]
          refine Paired.snoc (paired_upd hD2.at_ hD2.all fun x hx => ?_) ?_
          · obtain ⟨y, hy, rfl⟩ := List.mem_map.mp (List.mem_of_mem_take hx)
            rw [List.length_append, pre.maps.ls y hy]; omega
          · unfold IA
            rw [upd_ne Dc, upd_same, List.map_append]
        · rcases List.mem_append.mp hz with e | e
          · exact hf z e
          · rw [List.mem_singleton.mp e]; exact .inl ((s1.trans sT).free nc)
    · rintro H1 ⟨xs, s1, hD, hf⟩
      have emin : min (as.map V.ref).length (bs.map V.ref).length = n := by
        rw [List.length_map, List.length_map, las, paired_len hq.all, List.length_map, ls]; omega
      rw [emin, List.take_of_length_le (by rw [List.length_map, ls]; exact Nat.le_refl _)] at hD
      -- vectors.extend([[0] * width + row ..])
      refine ⟨_, rfl, .inl ⟨rfl, _, hD.sq⟩, _, rfl, r, rfl, ⟨_, (hrr.same s1).sq⟩, fun D2 nD2 => ?_⟩
      have DD : D ≠ D2 := ne_of_none hD.at_ nD2
      refine lc_list (K := K) (a := r) (xs := cs.map V.ref) (fun i H' => ∃ ys : List Addr, Same H1 H' ∧ RA H' D2 ys ((t.map fun y => List.replicate n 0 ++ y).take i) ∧ From H1 [] ys) ⟨[], same_upd nD2, ⟨upd_same, .nil⟩, fun a ha => by simp at ha⟩
        (fun i H' _ ⟨_, s2, _⟩ => ((hrr.same s1).same s2).sq) ?_ ?_
      · rintro i x H2 hx ⟨ys, s2, hD2, hf2⟩
        obtain ⟨a, ga, rfl⟩ := get_refs hx
        obtain ⟨tv, gt, it⟩ := paired_at' hrr.all ga
        have mt : tv ∈ t := List.mem_of_getElem? gt
        have il : i < n := by
          have := (List.getElem?_eq_some_iff.mp gt).1
          omega
        have l1 : tv.length = n := pre.maps.lt tv mt
        refine ⟨rfl, yes_ (iteT ?_)⟩
        refine ⟨(by show 1 ≤ sizeLine; decide), fun c1 nc1 => ?_⟩
        have sc1 := same_upd (o := .lst [.int 0]) nc1
        refine ⟨_, rfl, c1, (n : Int), [.int 0], rfl, rfl, upd_same, by omega, by omega, ?_, fun c2 nc2 => ?_⟩
        · rw [Int.toNat_natCast]
          show 1 * n ≤ sizeLine
          rw [Nat.one_mul]
          exact Nat.le_of_lt (small1000 (by omega))
        · rw [Int.toNat_natCast]
          have e0 : (List.replicate n [V.int 0]).flatten = (List.replicate n (0 : Int)).map V.int := by simp
          rw [e0]
          have sc2 := same_upd (o := .lst ((List.replicate n (0 : Int)).map V.int)) nc2
          refine ⟨_, rfl, c2, a, (List.replicate n (0 : Int)).map V.int, tv.map V.int, rfl, rfl, upd_same, (((it.same s1).same s2).same sc1).same sc2, ?_, fun c3 nc3 => ?_⟩
          · rw [elen _ l1, List.length_map, List.length_replicate]
            exact Nat.le_of_lt (small1000 (by omega))
          · have sc3 := same_upd (o := .lst ((List.replicate n (0 : Int)).map V.int ++ tv.map V.int)) nc3
            have hD3 := ((hD2.same sc1).same sc2).same sc3
            have s12 := sc1.trans sc2
            have Dc : c3 ≠ D2 := fun e => by
              have := s12 _ _ hD2.at_
              rw [← e, nc3] at this; cases this
            have gk : (t.map fun y => List.replicate n 0 ++ y)[i]? = some (List.replicate n 0 ++ tv) := by rw [List.getElem?_map, gt]; rfl
            refine ⟨_, hD3.at_, ?_, ys ++ [c3], same_grow ((s2.trans s12).trans sc3) nD2, ⟨by rw [upd_same, List.map_append]; rfl, ?_⟩, fun z hz => ?_⟩
            · rw [List.length_map, paired_len hD2.all, List.length_take]
              exact Nat.lt_of_le_of_lt (Nat.min_le_left _ _) (small1000 (by omega))
            · rw [take_one_more gk]
              refine Paired.snoc (paired_upd hD3.at_ hD3.all fun x hx => ?_) ?_
              · obtain ⟨y, hy, rfl⟩ := List.mem_map.mp (List.mem_of_mem_take hx)
                rw [List.length_append, pre.maps.lt y hy]; omega
              · unfold IA
                rw [upd_ne Dc, upd_same, List.map_append]
            · rcases List.mem_append.mp hz with e | e
              · exact hf2 z e
              · rw [List.mem_singleton.mp e]; exact .inl ((s2.trans s12).free nc3)
      · rintro H2 ⟨ys, s2, hD2, hf2⟩
        rw [List.length_map, lcs, List.take_of_length_le (by rw [List.length_map, lt]; exact Nat.le_refl _)] at hD2
        have hDa := s2 _ _ hD.at_
        refine ⟨D, D2, xs.map V.ref, ys.map V.ref, rfl, rfl, hDa, hD2.at_, ?_, ?_⟩
        · rw [List.length_map, List.length_map, paired_len hD.all, paired_len hD2.all, List.length_map, List.length_map, ls, lt]
          exact Nat.le_of_lt (small1000 (by omega))
        · -- the rows
          have pos1 : ∀ x ∈ (src.map fun s => s ++ g s), 0 < x.length := fun x hx => by
            obtain ⟨y, hy, rfl⟩ := List.mem_map.mp hx
            rw [List.length_append, pre.maps.ls y hy]; omega
          have pos2 : ∀ x ∈ (t.map fun y => List.replicate n 0 ++ y), 0 < x.length := fun x hx => by
            obtain ⟨y, hy, rfl⟩ := List.mem_map.mp hx
            rw [List.length_append, pre.maps.lt y hy]; omega
          have hV : RA (upd H2 D (.lst (xs.map V.ref ++ ys.map V.ref))) D (xs ++ ys) (mappedL n g src t) :=
            ⟨by rw [upd_same, List.map_append], paired_app (paired_upd hDa (paired_same s2 hD.all) pos1) (paired_upd hDa hD2.all pos2)⟩
          have sH : Same H (upd H2 D (.lst (xs.map V.ref ++ ys.map V.ref))) := same_grow (s1.trans s2) nD
          have fr : From H [] (xs ++ ys) := fun z hz => by
            rcases List.mem_append.mp hz with e | e
            · exact hf z e
            · exact .inl (by
                rcases hf2 z e with q | q
                · exact s1.free q
                · simp at q)
          refine ⟨_, rfl, _, rfl, 2, (n : Int), rfl, rfl, .inl ⟨by omega, by omega⟩, D, xs ++ ys, mappedL n g src t, 2 * n, ?_, hV, left_of_pre h4 pre, ?_, by omega, by omega, fun H3 u ds s3 nu hu fu => ?_⟩
          · show [V.ref D, V.int (2 * (n : Int))] = [V.ref D, V.int ((2 * n : Nat) : Int)]
            rw [Int.natCast_mul]; rfl
          · rw [many_mapped ls lt]; omega
          · have rows := rowsOf_ok (left_of_pre h4 pre).gp (left_of_pre h4 pre).full
            refine ⟨_, rfl, (n : Int), rfl, u, _, rfl, hu.sq, fun c nc => ?_⟩
            rw [cut_to, ← List.map_take]
            have sc := same_upd (o := .lst ((ds.take n).map V.ref)) nc
            have lds : (ds.take n).length = n := by rw [List.length_take, paired_len hu.all, rows.len]; omega
            refine ⟨c, rfl, ⟨_, SqL.of upd_same⟩, fun D3 nD3 => ?_⟩
            have hu2 := paired_take n (hu.same sc).all
            refine lc_list (K := K) (a := c) (xs := (ds.take n).map V.ref) (fun i H' => ∃ zs : List Addr, Same (upd H3 c (.lst ((ds.take n).map V.ref))) H' ∧ RA H' D3 zs ((mapped n g src t).take i) ∧ From (upd H3 c (.lst ((ds.take n).map V.ref))) [] zs) ⟨[], same_upd nD3, ⟨upd_same, .nil⟩, fun a ha => by simp at ha⟩
              (fun i H' _ ⟨_, s4, _⟩ => SqL.of (s4 _ _ upd_same)) ?_ ?_
            · rintro i x H4 hx ⟨zs, s4, hD4, hf4⟩
              obtain ⟨a, ga, rfl⟩ := get_refs hx
              obtain ⟨rv, gr, ir⟩ := paired_at' hu2 ga
              have il : i < n := by
                have := (List.getElem?_eq_some_iff.mp ga).1
                omega
              have mr : rv ∈ rowsOf (mappedL n g src t) (2 * n) := List.mem_of_mem_take (List.mem_of_getElem? gr)
              have lr : rv.length = 2 * n := rows.lens rv mr
              have gk : (mapped n g src t)[i]? = some (rv.take n) := by
                show (halves n _)[i]? = _
                unfold halves
                rw [List.getElem?_map, gr]; rfl
              refine ⟨rfl, yes_ (iteT ?_)⟩
              refine ⟨_, rfl, _, rfl, (n : Int), rfl, a, _, rfl, (ir.same s4).sq, fun c3 nc3 => ?_⟩
              rw [cut_to, ← List.map_take]
              have sc3 := same_upd (o := .lst ((rv.take n).map V.int)) nc3
              have hD5 := hD4.same sc3
              have Dc : c3 ≠ D3 := fun e => by rw [← e] at hD4; rw [hD4.at_] at nc3; cases nc3
              refine ⟨_, hD5.at_, ?_, zs ++ [c3], same_grow (s4.trans sc3) nD3, ⟨by rw [upd_same, List.map_append]; rfl, ?_⟩, fun z hz => ?_⟩
              · rw [List.length_map, paired_len hD4.all, List.length_take]
                exact Nat.lt_of_le_of_lt (Nat.min_le_left _ _) (small1000 (by omega))
              · rw [take_one_more gk]
                refine Paired.snoc (paired_upd hD5.at_ hD5.all fun x hx => ?_) ?_
                · have mx : x ∈ halves n (rowsOf (mappedL n g src t) (2 * n)) := List.mem_of_mem_take hx
                  have := (halves_ok rows).lens x mx
                  omega
                · unfold IA
                  rw [upd_ne Dc, upd_same]
              · rcases List.mem_append.mp hz with e | e
                · exact hf4 z e
                · rw [List.mem_singleton.mp e]; exact .inl (s4.free nc3)
            · rintro H4 ⟨zs, s4, hD4, hf4⟩
              have lm : (mapped n g src t).length = n := (halves_ok rows).len
              rw [List.length_map, lds, List.take_of_length_le (by omega)] at hD4
              have sF := (sH.trans s3).trans sc
              refine kk H4 D3 zs (sF.trans s4) (sF.free nD3) hD4 fun z hz => ?_
              rcases hf4 z hz with e | e
              · exact .inl (sF.free e)
              · simp at e
end
end Hnd
set_option Elab.async false
set_option linter.all false
set_option maxRecDepth 100000
set_option maxHeartbeats 2000000
/-! norm_of, and what the calls make. -/
namespace Hnd
open PySem PySem.Spec PyProof.Rows L2
open Idl hiding Sp F R E
open Nf02 (Vec)
abbrev sMade : Stmt := top 16
abbrev sSum : Stmt := top 17
abbrev sProduct : Stmt := top 18
abbrev sCommon : Stmt := top 19
abbrev sBy : Stmt := top 20
section
variable {P : Program} {w : World} {K : PySem.W.Frag} {mg : Str → Option Value} {base : Heap}
/-! ### own_numbers -/
def diag (a : List Vec) : Vec := a.zipIdx.map fun x => Idl.F x.1 x.2
theorem diag_get {a : List Vec} {i : Nat} {v : Vec} (h : a[i]? = some v) : (diag a)[i]? = some (Idl.F v i) := by
  unfold diag
  rw [List.getElem?_map, List.getElem?_zipIdx, h]
  simp
theorem len_diag (a : List Vec) : (diag a).length = a.length := by simp [diag]
theorem diag_at {a : List Vec} {i : Nat} (h : i < a.length) : (diag a)[i]? = some (Idl.R a i i) := by
  rw [diag_get (List.getElem?_eq_getElem h), R_at h]
abbrev sOwns : Stmt := top 10
abbrev nOwns : List Str := ["rows", "place", "row"]
theorem scOwns : FnScope nOwns ["rows"] (defScope sOwns) := ⟨rfl, rfl, rfl, by decide +kernel, rfl, by decide +kernel, by decide +kernel⟩
def spOwns : L2.Sp := fun vs H Q _ => ∃ (p : Addr) (as : List Addr) (a : List Vec) (n : Nat), vs = [.ref p] ∧ RA H p as a ∧ a.length ≤ n ∧ Lens n a ∧ n ≤ 1000 ∧
  ∀ H' r, Same H H' → H r = none → IA H' r (diag a) → Q (.ref r) H'
theorem ok_owns (D : Df K mg "own_numbers" sOwns ["rows"]) (me : mg "enumerate" = none) : Ok P w K mg base 1 "own_numbers" ["rows"] spOwns := D.ok fun f fd F => by
  refine F.ok scOwns (fun vs H Q E h => ?_) (fun cdv A outer s H vs Q E hr h => ?_)
  · obtain ⟨p, as, a, n, rfl, _⟩ := h
    rfl
  · obtain ⟨p, as, a, n, rfl, hR, ln, hl, h1000, kk⟩ := h
    refine ⟨_, pss_one (ps_ret (pe_lc (own := [("place", 1), ("row", 2)]) (g := gTup K 2 (gCons (gName 1) (gCons (gName 2) gNil))) (tt := tYes) rfl scOwns.nd (pi_enum (by rfl) me (pa_cons (pv 0) pa_nil))
      (blkOk_by (N := nOwns) (sc := defScope sOwns) (by decide +kernel))
      (fun _ _ _ _ _ => pg_tup rfl (pgs_cons (pg_name (i := 1) scOwns.nd rfl (.inl rfl)) (pgs_cons (pg_name (i := 2) scOwns.nd rfl (.inl rfl)) pgs_nil)))
      (fun _ _ _ _ _ => pts_nil)
      (fun _ _ _ _ _ => pe_ix (ix_list_of (K := K) rfl) (pv 2) (pv 1) (fun _ _ => rfl)))), ?_⟩
    have las : as.length = a.length := paired_len hR.all
    refine ⟨_, rfl, p, _, rfl, hR.sq, fun D nD => ?_⟩
    refine lc_it (walk_enum (xs := as.map V.ref)) (fun i H' => Same H H' ∧ H' D = some (.lst (((diag a).take i).map V.int))) ⟨same_upd nD, upd_same⟩ (fun i H' _ h => (hR.same h.1).sq) ?_ ?_
    · rintro i v H1 H2 hi ⟨s1, e1⟩ ⟨T, x1, x2, rfl, nT, rfl, gx, gy⟩
      cases (Option.some.inj gx)
      obtain ⟨b, gb, rfl⟩ := get_refs gy
      obtain ⟨v, gv, iv⟩ := paired_at' hR.all gb
      have il : i < a.length := (List.getElem?_eq_some_iff.mp gv).1
      have lv : v.length = n := hl v (List.mem_of_getElem? gv)
      have nTD : D ≠ T := ne_of_none e1 nT
      have sT := same_upd (o := .tup [.int (i : Nat), .ref b]) nT
      refine ⟨T, [.int (i : Nat), .ref b], rfl, .inl (.inl upd_same), rfl, .int (i : Nat), [.ref b], rfl, .ref b, [], rfl, rfl, rfl, yes_ (iteT ?_)⟩
      refine ⟨_, rfl, _, rfl, b, _, _, _, rfl, rfl, ((iv.same s1).same sT).sq, IA.item (H := H1) (p := b) (by omega), _, (by rw [upd_ne nTD]; exact e1), ?_, ?_, ?_⟩
      · rw [List.length_map, List.length_take]
        exact Nat.lt_of_le_of_lt (Nat.min_le_left _ _) (small1000 (by omega))
      · exact same_grow (s1.trans sT) nD
      · rw [upd_same, take_one_more (diag_get gv), List.map_append]
        rfl
    · rintro H' ⟨s1, e1⟩
      refine kk H' D s1 nD ?_
      unfold IA
      rw [e1, List.length_map, las, ← len_diag a, List.take_length]
/-! ### norm_of -/
theorem scNorm : FnScope ["rows", "norm", "own"] ["rows"] (defScope sNorm) := ⟨rfl, rfl, rfl, by decide +kernel, rfl, by decide +kernel, by decide +kernel⟩
def spNorm : L2.Sp := fun vs H Q _ => ∃ (p : Addr) (as : List Addr) (a : List Vec) (n : Nat), vs = [.ref p] ∧ RA H p as a ∧ a.length = n ∧ Lens n a ∧ n ≤ 4 ∧ (∀ i, i < n → 0 < Idl.R a i i ∧ (Idl.R a i i).natAbs ≤ 2 ^ LIM) ∧
  ∀ H', Same H H' → Q (.int (Nf02.norm a : Nat)) H'
theorem diagProd_bd {a : List Vec} {n : Nat} (h : ∀ i, i < n → (Idl.R a i i).natAbs ≤ 2 ^ LIM) : ∀ i, i ≤ n → diagProd a i ≤ 2 ^ (i * LIM)
  | 0, _ => by rw [Nat.zero_mul]; exact Nat.le_refl _
  | i + 1, hi => by
    have := Nat.mul_le_mul (diagProd_bd h i (by omega)) (h i (by omega))
    rw [Nat.add_mul, Nat.one_mul, Nat.pow_add]
    exact this
theorem ok_norm (D : Df K mg "norm_of" sNorm ["rows"]) (cO : Ok P w K mg base 1 "own_numbers" ["rows"] spOwns) : Ok P w K mg base 2 "norm_of" ["rows"] spNorm := D.ok fun f fd F => by
  refine F.ok scNorm (fun vs H Q E h => ?_) (fun cdv A outer s H vs Q E hr h => ?_)
  · obtain ⟨p, as, a, n, rfl, _⟩ := h
    rfl
  · obtain ⟨p, as, a, n, rfl, hR, ln, hl, h4, hd, kk⟩ := h
    refine ⟨_, pss_cons (ps_set (i := 1) scNorm.nd rfl (.inl rfl) pe_int)
      (pss_cons (ps_for PassesOwn.never rfl (pi_list (pe_f cO hr (by decide) (by rfl) (pa_cons (pv 0) pa_nil))) (pg_name (i := 2) scNorm.nd rfl (.inl rfl))
        (pss_one (ps_set (i := 1) scNorm.nd rfl (.inl rfl) (pe_op op_mulX (pv 1) (pv 2)))))
      (pss_one (ps_ret (pv 1)))), ?_⟩
    refine ⟨_, rfl, p, as, a, n, rfl, hR, by omega, hl, by omega, fun H1 r s1 nr ir => ?_⟩
    refine ⟨r, rfl, ⟨_, ir.sq⟩, for_list (K := K) (a := r) (xs := (diag a).map V.int) (fun i σ H' => ∃ z, σ = [some (.ref p), some (.int (diagProd a i : Nat)), z] ∧ H' = H1) ⟨none, rfl, rfl⟩ (fun i σ H' _ ⟨_, _, e⟩ => by rw [e]; exact ir.sq) ?_ ?_⟩
    · rintro i x σ H2 hx ⟨z, rfl, rfl⟩
      obtain ⟨xi, hxi, rfl⟩ := get_ints hx
      have il : i < n := by
        have := (List.getElem?_eq_some_iff.mp hxi).1
        rw [len_diag] at this
        omega
      rw [diag_at (by omega)] at hxi
      cases (Option.some.inj hxi)
      obtain ⟨d1, d2⟩ := hd i il
      refine ⟨_, rfl, _, rfl, _, _, rfl, rfl, ?_, some (.int (Idl.R a i i)), ?_, rfl⟩
      · refine mul_ok (a := i * LIM) (b := LIM) ?_ d2 ?_
        · rw [Int.natAbs_natCast]; exact diagProd_bd (fun i hi => (hd i hi).2) i (by omega)
        · have : (i + 1) * LIM ≤ 5 * LIM := Nat.mul_le_mul_right _ (by clear d2 hd; omega)
          rw [Nat.add_mul, Nat.one_mul] at this
          exact Nat.le_trans this (by decide)
      · have e : (diagProd a i : Int) * Idl.R a i i = (diagProd a (i + 1) : Nat) := by
          show _ = ((diagProd a i * (Idl.R a i i).natAbs : Nat) : Int)
          rw [Int.natCast_mul]
          have : ((Idl.R a i i).natAbs : Int) = Idl.R a i i := by omega
          rw [this]
        rw [← e]
        rfl
    · rintro σ H2 ⟨z, rfl, rfl⟩
      rw [List.length_map, len_diag, ln]
      refine ⟨_, rfl, ?_⟩
      have := kk H2 s1
      rwa [norm_eq n a ln] at this
/-! ### rows_of of what a ring's numbers make -/
theorem left_of_gen {k : Vec} {l : List Vec} (hr : Ring k) (h : GenPre k l) : Left k.length k.length l := Left.start (h.gp hr) h.full
/-! ### sum_of -/
theorem scSum : FnScope pTwo pTwo (defScope sSum) := ⟨rfl, rfl, rfl, by decide +kernel, rfl, by decide +kernel, by decide +kernel⟩
/-- two ideals that are kept, handed to what makes a third one -/
structure Two (H : Hp) (p q r : Addr) (as bs : List Addr) (k : Vec) (a b : List Vec) : Prop where
  ik : IA H p k
  ra : RA H q as a
  rb : RA H r bs b
  ring : Ring k
  ia : Ideal k a
  ib : Ideal k b
  sa : Small a
  sb : Small b
/-- what the four makers promise: the rows m, each new or one of theirs -/
def spMake (m : Vec → List Vec → List Vec → List Vec) : L2.Sp := fun vs H Q _ => ∃ (p q r : Addr) (as bs : List Addr) (k : Vec) (a b : List Vec), vs = [.ref p, .ref q, .ref r] ∧ Two H p q r as bs k a b ∧
  ∀ H' u ds, Same H H' → H u = none → RA H' u ds (m k a b) → From H (as ++ bs) ds → Q (.ref u) H'
theorem Ring.le8 {k : Vec} (h : Ring k) : k.length ≤ 8 := by have := h.four; omega
/-- sum_of of rows of any kind that make enough -/
def spSumG : L2.Sp := fun vs H Q _ => ∃ (p q r : Addr) (as bs : List Addr) (k : Vec) (a b : List Vec), vs = [.ref p, .ref q, .ref r] ∧ IA H p k ∧ RA H q as a ∧ RA H r bs b ∧ Ring k ∧ GenPre k (a ++ b) ∧
  ∀ H' u ds, Same H H' → H u = none → RA H' u ds (Nf02.rows k.length (a ++ b)) → From H (as ++ bs) ds → Q (.ref u) H'
theorem ok_sumG (D : Df K mg "sum_of" sSum pTwo) (cR : Ok P w K mg base 42 "rows_of" pRowsOf spRowsOf) (ml : mg "len" = none) : Ok P w K mg base 44 "sum_of" pTwo spSumG := D.ok fun f fd F => by
  refine F.ok scSum (fun vs H Q E h => ?_) (fun cdv A outer s H vs Q E hr h => ?_)
  · obtain ⟨p, q, r, as, bs, k, a, b, rfl, _⟩ := h
    rfl
  · obtain ⟨p, q, r, as, bs, k, a, b, rfl, ik, ra, rb, ring, pre, kk⟩ := h
    refine ⟨_, pss_one (ps_ret (pe_f cR hr (by decide) (by rfl) (pa_cons (pe_op op_cat (pv 1) (pv 2)) (pa_cons (pe_callB call_len_seq (by rfl) ml PySem.boot_len (pa_cons (pv 0) pa_nil)) pa_nil)))), ?_⟩
    have la : as.length = a.length := paired_len ra.all
    have lb : bs.length = b.length := paired_len rb.all
    have many := pre.many
    rw [List.length_append] at many
    refine ⟨_, rfl, _, rfl, q, r, _, _, rfl, rfl, ra.at_, rb.at_, ?_, fun c nc => ?_⟩
    · rw [List.length_map, List.length_map]
      exact Nat.le_of_lt (small1000 (by omega))
    · have sc := same_upd (o := .lst (as.map V.ref ++ bs.map V.ref)) nc
      refine ⟨_, rfl, p, _, rfl, .inl (ik.same sc).sq, c, as ++ bs, a ++ b, k.length, ?_, ⟨by rw [upd_same, List.map_append], paired_app (paired_same sc ra.all) (paired_same sc rb.all)⟩, left_of_gen ring pre, by have := pre.many; omega, ring.pos, Ring.le8 ring, fun H1 u ds s1 nu hu fu => ?_⟩
      · rw [List.length_map]; rfl
      · rw [gen_eq ring pre] at hu
        exact kk H1 u ds (sc.trans s1) (sc.free nu) hu fun z hz => by
          rcases fu z hz with e | m
          · exact .inl (sc.free e)
          · exact .inr m
theorem Ok.imp {k : Nat} {x : Str} {ps : List Str} {sp sp' : L2.Sp} (c : Ok P w K mg base k x ps sp) (h : ∀ vs H Q E, sp' vs H Q E → sp vs H Q E) : Ok P w K mg base k x ps sp' := by
  obtain ⟨f, fd, F, a, b, d⟩ := c.ex
  exact ⟨f, fd, F.imp h, a, b, d⟩
theorem ok_sum (c : Ok P w K mg base 44 "sum_of" pTwo spSumG) : Ok P w K mg base 44 "sum_of" pTwo (spMake Nf02.add) := c.imp fun vs H Q E h => by
  obtain ⟨p, q, r, as, bs, k, a, b, rfl, T, kk⟩ := h
  exact ⟨p, q, r, as, bs, k, a, b, rfl, T.ik, T.ra, T.rb, T.ring, sum_pre T.ring T.ia T.ib T.sa T.sb, kk⟩
/-! ### product -/
abbrev nProduct : List Str := ["coefficients", "one", "other", "vectors", "row", "factor"]
theorem scProduct : FnScope nProduct pTwo (defScope sProduct) := ⟨rfl, rfl, rfl, by decide +kernel, rfl, by decide +kernel, by decide +kernel⟩
theorem bd100 {a : List Vec} (h : Small a) {x : Vec} (hx : x ∈ a) (j : Nat) : (Idl.F x j).natAbs ≤ 2 ^ 100 := Nat.le_trans (h x hx j) (by decide)
theorem ok_product (D : Df K mg "product" sProduct pTwo) (cT : Ok P w K mg base 4 "times" pTwo spTimes) (cR : Ok P w K mg base 42 "rows_of" pRowsOf spRowsOf) (ml : mg "len" = none) : Ok P w K mg base 44 "product" pTwo (spMake Nf02.mul) := D.ok fun f fd F => by
  refine F.ok scProduct (fun vs H Q E h => ?_) (fun cdv A outer s H vs Q E hr h => ?_)
  · obtain ⟨p, q, r, as, bs, k, a, b, rfl, _⟩ := h
    rfl
  · obtain ⟨p, q, r, as, bs, k, a, b, rfl, T, kk⟩ := h
    refine ⟨_, pss_cons (ps_set (i := 3) scProduct.nd rfl (.inl rfl) (pe_lst pa_nil))
      (pss_cons (ps_for PassesOwn.never rfl (pi_list (pv 1)) (pg_name (i := 4) scProduct.nd rfl (.inr rfl))
        (pss_one (ps_expr (pe_bm PySem.F.plainAttrs_list PySem.F.slot_list_extend PySem.F.type_list_extend mt_extend (pv 3) (pa_cons
          (pe_lc (own := [("factor", 5)]) (g := gName 5) (tt := tYes) rfl scProduct.nd (pi_list (pv 2)) (blkOk_by (N := nProduct) (sc := defScope sProduct) (by decide +kernel))
            (fun _ _ _ _ _ => pg_name (i := 5) scProduct.nd rfl (.inl rfl)) (fun _ _ _ _ _ => pts_nil)
            (fun _ _ _ _ _ => pe_f cT hr (by decide) (by rfl) (pa_cons (pv 0) (pa_cons (pv 4) (pa_cons (pv 5) pa_nil))))) pa_nil)))))
      (pss_one (ps_ret (pe_f cR hr (by decide) (by rfl) (pa_cons (pv 3) (pa_cons (pe_callB call_len_seq (by rfl) ml PySem.boot_len (pa_cons (pv 0) pa_nil)) pa_nil)))))), ?_⟩
    have pre := prod_pre T.ring T.ia T.ib T.sa T.sb
    have la : as.length = k.length := by rw [paired_len T.ra.all, T.ia.rows.len]
    have lb : bs.length = k.length := by rw [paired_len T.rb.all, T.ib.rows.len]
    have h4 := T.ring.four
    have h0 := T.ring.pos
    have lenp : ∀ x : Vec, x ∈ b → ∀ y : Vec, (Nf02.times k y x).length = k.length := fun x hx y => len_times (T.ib.rows.lens x hx) h0 y
    refine ⟨Nat.zero_le _, fun o no => ?_⟩
    have s0 : Same H (upd H o (.lst [])) := same_upd no
    refine ⟨_, rfl, q, rfl, ⟨_, (T.ra.same s0).sq⟩, for_list (K := K) (a := q) (xs := as.map V.ref) (fun i σ H' => ∃ (ds : List Addr) (y : Option V), σ = [some (.ref p), some (.ref q), some (.ref r), some (.ref o), y, none] ∧ Same H H' ∧ RA H' o ds (prods k (a.take i) b) ∧ From H [] ds) ?_ ?_ ?_ ?_⟩
    · exact ⟨[], none, rfl, s0, ⟨upd_same, .nil⟩, fun z hz => by simp at hz⟩
    · rintro i σ H' _ ⟨_, _, _, s1, _⟩
      exact (T.ra.same s1).sq
    · rintro i x σ H1 hx ⟨ds, y, rfl, s1, hd, fd⟩
      obtain ⟨ra, ga, rfl⟩ := get_refs hx
      obtain ⟨rv, gr, ir⟩ := paired_at' T.ra.all ga
      have mr : rv ∈ a := List.mem_of_getElem? gr
      have il : i < k.length := by
        have := (List.getElem?_eq_some_iff.mp ga).1
        omega
      have dslen : ds.length = i * k.length := by
        rw [paired_len hd.all, len_prods, List.length_take, T.ia.rows.len, T.ib.rows.len, Nat.min_eq_left (by omega)]
      have posd : ∀ v ∈ prods k (a.take i) b, 0 < v.length := fun v hv => by
        obtain ⟨x, hx, y, hy, rfl⟩ := mem_prods.mp hv
        rw [lenp y hy x]; exact h0
      refine ⟨_, rfl, .inl ⟨rfl, _, hd.sq⟩, _, rfl, r, rfl, ⟨_, (T.rb.same s1).sq⟩, fun D nD => ?_⟩
      refine lc_list (K := K) (a := r) (xs := bs.map V.ref) (fun j H' => ∃ es : List Addr, Same H1 H' ∧ RA H' D es ((b.map fun y => Nf02.times k rv y).take j) ∧ From H1 [] es) ⟨[], same_upd nD, ⟨upd_same, .nil⟩, fun z hz => by simp at hz⟩
        (fun j H' _ ⟨_, s2, _⟩ => ((T.rb.same s1).same s2).sq) ?_ ?_
      · rintro j x H2 hx2 ⟨es, s2, he, fe⟩
        obtain ⟨fa, gf, rfl⟩ := get_refs hx2
        obtain ⟨fv, gfv, ifv⟩ := paired_at' T.rb.all gf
        have mf : fv ∈ b := List.mem_of_getElem? gfv
        have s12 := s1.trans s2
        refine ⟨rfl, yes_ (iteT ?_)⟩
        refine ⟨_, rfl, _, rfl, _, rfl, p, ra, fa, k, rv, fv, rfl, T.ik.same s12, ir.same s12, ifv.same s12, Coef.of T.ring, T.ia.rows.lens rv mr, T.ib.rows.lens fv mf, bd100 T.sa mr, bd100 T.sb mf, fun H3 t s3 nt it => ?_⟩
        have gk : (b.map fun y => Nf02.times k rv y)[j]? = some (Nf02.times k rv fv) := by rw [List.getElem?_map, gfv]; rfl
        have Dt : t ≠ D := fun e => by rw [e, he.at_] at nt; cases nt
        have he3 := he.same s3
        refine ⟨_, he3.at_, ?_, es ++ [t], same_grow (s2.trans s3) nD, ⟨by rw [upd_same, List.map_append]; rfl, ?_⟩, fun z hz => ?_⟩
        · have jl := (List.getElem?_eq_some_iff.mp gf).1
          rw [List.length_map, paired_len he.all, List.length_take]
          exact Nat.lt_of_le_of_lt (Nat.min_le_left _ _) (small1000 (by omega))
        · rw [take_one_more gk]
          refine Paired.snoc (paired_upd he3.at_ he3.all fun x hx => ?_) (it.upd he3.at_ (by rw [lenp fv mf rv]; exact h0))
          obtain ⟨y, hy, rfl⟩ := List.mem_map.mp (List.mem_of_mem_take hx)
          rw [lenp y hy rv]; exact h0
        · rcases List.mem_append.mp hz with e | e
          · exact fe z e
          · rw [List.mem_singleton.mp e]; exact .inl (s2.free nt)
      · rintro H2 ⟨es, s2, he, fe⟩
        rw [List.length_map, lb, List.take_of_length_le (by rw [List.length_map, T.ib.rows.len]; exact Nat.le_refl _)] at he
        have hd2 := hd.same s2
        have eslen : es.length = k.length := by rw [paired_len he.all, List.length_map, T.ib.rows.len]
        refine ⟨o, D, _, _, rfl, rfl, hd2.at_, he.at_, ?_, ?_⟩
        · rw [List.length_map, List.length_map, dslen, eslen]
          have : i * k.length ≤ 4 * 4 := Nat.mul_le_mul (by omega) h4
          exact Nat.le_of_lt (small1000 (by omega))
        · have e2 : prods k (a.take (i + 1)) b = prods k (a.take i) b ++ b.map fun y => Nf02.times k rv y := by
            rw [take_one_more gr]
            unfold prods
            rw [List.flatMap_append]
            simp
          refine ⟨ds ++ es, _, rfl, same_grow (s1.trans s2) no, ⟨by rw [upd_same, List.map_append], ?_⟩, fun z hz => ?_⟩
          · rw [e2]
            refine paired_app (paired_upd hd2.at_ hd2.all posd) (paired_upd hd2.at_ he.all fun x hx => ?_)
            obtain ⟨y, hy, rfl⟩ := List.mem_map.mp hx
            rw [lenp y hy rv]; exact h0
          · rcases List.mem_append.mp hz with e | e
            · exact fd z e
            · rcases fe z e with q | q
              · exact .inl (s1.free q)
              · simp at q
    · rintro σ H1 ⟨ds, y, rfl, s1, hd, fd⟩
      rw [List.length_map, la, List.take_of_length_le (by rw [T.ia.rows.len]; exact Nat.le_refl _)] at hd
      refine ⟨_, rfl, _, rfl, p, _, rfl, .inl (T.ik.same s1).sq, o, ds, prods k a b, k.length, ?_, hd, left_of_gen T.ring pre, by have := pre.many; omega, h0, Ring.le8 T.ring, fun H2 u es s2 nu hu fu => ?_⟩
      · rw [List.length_map]; rfl
      · rw [gen_eq T.ring pre] at hu
        exact kk H2 u es (s1.trans s2) (s1.free nu) hu fun z hz => by
          rcases fu z hz with e | m
          · exact .inl (s1.free e)
          · rcases fd z m with q | q
            · exact .inl q
            · simp at q
end
end Hnd
set_option Elab.async false
set_option linter.all false
set_option maxRecDepth 100000
set_option maxHeartbeats 2000000
/-! ideal_made_of, common, by. -/
namespace Hnd
open PySem PySem.Spec PyProof.Rows L2
open Idl hiding Sp F R E
open Nf02 (Vec)
section
variable {P : Program} {w : World} {K : PySem.W.Frag} {mg : Str → Option Value} {base : Heap}
/-! ### ideal_made_of -/
abbrev pMade : List Str := ["coefficients", "numbers"]
theorem scMade : FnScope ["coefficients", "numbers", "vectors", "number"] pMade (defScope sMade) := ⟨rfl, rfl, rfl, by decide +kernel, rfl, by decide +kernel, by decide +kernel⟩
def spMade : L2.Sp := fun vs H Q _ => ∃ (p q : Addr) (as : List Addr) (k : Vec) (ns : List Vec), vs = [.ref p, .ref q] ∧ IA H p k ∧ RA H q as ns ∧ Ring k ∧ Nums k ns ∧
  ∀ H' u ds, Same H H' → H u = none → RA H' u ds (Nf02.make k ns) → From H [] ds → Q (.ref u) H'
theorem flat_take {k : Vec} {ns : List Vec} {i : Nat} {v : Vec} (h : ns[i]? = some v) : (ns.take (i + 1)).flatMap (Nf02.spread k) = (ns.take i).flatMap (Nf02.spread k) ++ Nf02.spread k v := by
  rw [take_one_more h, List.flatMap_append]
  simp
theorem ok_made (D : Df K mg "ideal_made_of" sMade pMade) (cS : Ok P w K mg base 3 "shifts_of" ["coefficients", "number"] spShifts) (cR : Ok P w K mg base 42 "rows_of" pRowsOf spRowsOf) (ml : mg "len" = none) : Ok P w K mg base 43 "ideal_made_of" pMade spMade := D.ok fun f fd F => by
  refine F.ok scMade (fun vs H Q E h => ?_) (fun cdv A outer s H vs Q E hr h => ?_)
  · obtain ⟨p, q, as, k, ns, rfl, _⟩ := h
    rfl
  · obtain ⟨p, q, as, k, ns, rfl, ik, hq, hring, hn, kk⟩ := h
    refine ⟨_, pss_cons (ps_set (i := 2) scMade.nd rfl (.inl rfl) (pe_lst pa_nil))
      (pss_cons (ps_for PassesOwn.never rfl (pi_list (pv 1)) (pg_name (i := 3) scMade.nd rfl (.inl rfl))
        (pss_one (ps_expr (pe_bm PySem.F.plainAttrs_list PySem.F.slot_list_extend PySem.F.type_list_extend mt_extend (pv 2) (pa_cons (pe_f cS hr (by decide) (by rfl) (pa_cons (pv 0) (pa_cons (pv 3) pa_nil))) pa_nil)))))
      (pss_one (ps_ret (pe_f cR hr (by decide) (by rfl) (pa_cons (pv 2) (pa_cons (pe_callB call_len_seq (by rfl) ml PySem.boot_len (pa_cons (pv 0) pa_nil)) pa_nil)))))), ?_⟩
    have pre := made_pre hring hn
    have h4 := hring.four
    have h0 := hring.pos
    have lns : as.length = ns.length := paired_len hq.all
    have n3 := hn.many
    have hc := Coef.of hring
    refine ⟨Nat.zero_le _, fun o no => ?_⟩
    have s0 : Same H (upd H o (.lst [])) := same_upd no
    refine ⟨_, rfl, q, rfl, ⟨_, (hq.same s0).sq⟩, for_list (K := K) (a := q) (xs := as.map V.ref) (fun i σ H' => ∃ (ds : List Addr) (y : Option V), σ = [some (.ref p), some (.ref q), some (.ref o), y] ∧ Same H H' ∧ RA H' o ds ((ns.take i).flatMap (Nf02.spread k)) ∧ From H [] ds) ?_ ?_ ?_ ?_⟩
    · exact ⟨[], none, rfl, s0, ⟨upd_same, .nil⟩, fun z hz => by simp at hz⟩
    · rintro i σ H' _ ⟨_, _, _, s1, _⟩
      exact (hq.same s1).sq
    · rintro i x σ H1 hx ⟨ds, y, rfl, s1, hd, fd⟩
      obtain ⟨na, gn, rfl⟩ := get_refs hx
      obtain ⟨v, gv, iv⟩ := paired_at' hq.all gn
      have mv : v ∈ ns := List.mem_of_getElem? gv
      have lv := hn.lens v mv
      have bv : ∀ j, (Idl.F v j).natAbs ≤ 2 ^ 100 := fun j => Nat.le_trans (hn.bd v mv j) (by decide)
      have il : i < ns.length := (List.getElem?_eq_some_iff.mp gv).1
      have posd : ∀ vs : List Vec, (∀ x ∈ vs, x.length = k.length) → ∀ x ∈ vs.flatMap (Nf02.spread k), 0 < x.length := fun vs hvs x hx => by
        obtain ⟨y, hy, hx⟩ := List.mem_flatMap.mp hx
        obtain ⟨t, ht, rfl⟩ := mem_spread.mp hx
        rw [len_it (hvs y hy) h0 t]; exact h0
      refine ⟨_, rfl, .inl ⟨rfl, _, hd.sq⟩, _, rfl, _, rfl, p, na, k, v, rfl, ik.same s1, iv.same s1, lv, h0, small4 h4, fun j hj => hc.mulAll lv bv hj, fun H2 t es s2 nt ht ft => ?_⟩
      have hd2 := hd.same s2
      refine ⟨o, t, _, _, rfl, rfl, hd2.at_, ht.at_, ?_, ?_⟩
      · rw [List.length_map, List.length_map, paired_len hd.all, paired_len ht.all, len_spreads, spread_len, List.length_take, Nat.min_eq_left (by omega)]
        have : i * k.length ≤ 3 * 4 := Nat.mul_le_mul (by omega) h4
        exact Nat.le_of_lt (small1000 (by omega))
      · refine ⟨ds ++ es, _, rfl, same_grow (s1.trans s2) no, ⟨by rw [upd_same, List.map_append], ?_⟩, fun z hz => ?_⟩
        · rw [flat_take gv]
          refine paired_app (paired_upd hd2.at_ hd2.all (posd _ fun x hx => hn.lens x (List.mem_of_mem_take hx))) (paired_upd hd2.at_ ht.all fun x hx => ?_)
          obtain ⟨t, ht, rfl⟩ := mem_spread.mp hx
          rw [len_it lv h0 t]; exact h0
        · rcases List.mem_append.mp hz with e | e
          · exact fd z e
          · rcases ft z e with q | q
            · exact .inl (s1.free q)
            · simp at q
    · rintro σ H1 ⟨ds, y, rfl, s1, hd, fd⟩
      rw [List.length_map, lns, List.take_length] at hd
      refine ⟨_, rfl, _, rfl, p, _, rfl, .inl (ik.same s1).sq, o, ds, ns.flatMap (Nf02.spread k), k.length, ?_, hd, left_of_gen hring pre, by have := pre.many; omega, h0, Ring.le8 hring, fun H2 u es s2 nu hu fu => ?_⟩
      · rw [List.length_map]; rfl
      · rw [gen_eq hring pre] at hu
        exact kk H2 u es (s1.trans s2) (s1.free nu) hu fun z hz => by
          rcases fu z hz with e | m
          · exact .inl (s1.free e)
          · rcases fd z m with q | q
            · exact .inl q
            · simp at q
/-! ### common -/
theorem scCommon : FnScope pTwo pTwo (defScope sCommon) := ⟨rfl, rfl, rfl, by decide +kernel, rfl, by decide +kernel, by decide +kernel⟩
theorem ok_common (D : Df K mg "common" sCommon pTwo) (cM : Ok P w K mg base 43 "rows_mapped_into" pMapped spMapped) : Ok P w K mg base 44 "common" pTwo (spMake Nf02.common) := D.ok fun f fd F => by
  refine F.ok scCommon (fun vs H Q E h => ?_) (fun cdv A outer s H vs Q E hr h => ?_)
  · obtain ⟨p, q, r, as, bs, k, a, b, rfl, _⟩ := h
    rfl
  · obtain ⟨p, q, r, as, bs, k, a, b, rfl, T, kk⟩ := h
    refine ⟨_, pss_one (ps_ret (pe_f cM hr (by decide) (by rfl) (pa_cons (pv 1) (pa_cons (pv 1) (pa_cons (pv 2) pa_nil))))), ?_⟩
    refine ⟨_, rfl, _, rfl, _, rfl, q, q, r, as, as, bs, a, b, fun s => s, fun v => v, k.length, rfl, T.ra, by rw [List.map_id']; exact T.ra, T.rb, common_pre T.ia T.ib T.sa T.sb, T.ring.pos, T.ring.four, fun H1 u ds s1 nu hu fu => ?_⟩
    rw [(common_eq T.ring T.ia T.ib T.sa T.sb).1] at hu
    exact kk H1 u ds s1 nu hu fu.of_none
/-! ### by -/
abbrev nBy : List Str := ["coefficients", "one", "other", "rows", "factor", "images", "row"]
theorem scBy : FnScope nBy pTwo (defScope sBy) := ⟨rfl, rfl, rfl, by decide +kernel, rfl, by decide +kernel, by decide +kernel⟩
theorem F_unit0 (n : Nat) (j : Nat) : Idl.F (1 :: List.replicate (n - 1) (0 : Int)) j = Idl.E 0 j := by
  unfold Idl.E
  cases j with
  | zero => rfl
  | succ j => rw [F_succ, F_zeros, if_neg (by omega)]
theorem spread_unit {k : Vec} (h0 : 0 < k.length) : Nf02.spread k (1 :: List.replicate (k.length - 1) 0) = Nf02.all k := by
  have l1 : (1 :: List.replicate (k.length - 1) (0 : Int)).length = k.length := by simp; omega
  rw [spread_eq]
  refine List.map_congr_left fun i hi => ?_
  have hi' : i < k.length := List.mem_range.mp hi
  refine F_ext ?_ fun j _ => ?_
  · rw [len_it l1 h0 i]; simp [Nf02.unit, Nf01.Field.n]
  · rw [F_it l1 h0, show Idl.F (1 :: List.replicate (k.length - 1) (0 : Int)) = Idl.E 0 from funext (F_unit0 _), UpN_E i hi']
    exact (F_unit _ _ _ hi').symm
theorem byP_more {k : Vec} {a bs : List Vec} {i : Nat} {y : Vec} (h : bs[i]? = some y) : byP k a (bs.take (i + 1)) = mapped k.length (fun s => Nf02.times k s y) (byP k a (bs.take i)) a := by
  unfold byP
  rw [take_one_more h, List.foldl_append]; rfl
theorem ok_by (D : Df K mg "by" sBy pTwo) (cS : Ok P w K mg base 3 "shifts_of" ["coefficients", "number"] spShifts) (cT : Ok P w K mg base 4 "times" pTwo spTimes) (cM : Ok P w K mg base 43 "rows_mapped_into" pMapped spMapped) (ml : mg "len" = none) : Ok P w K mg base 44 "by" pTwo (spMake Nf02.by_) := D.ok fun f fd F => by
  refine F.ok scBy (fun vs H Q E h => ?_) (fun cdv A outer s H vs Q E hr h => ?_)
  · obtain ⟨p, q, r, as, bs, k, a, b, rfl, _⟩ := h
    rfl
  · obtain ⟨p, q, r, as, bs, k, a, b, rfl, T, kk⟩ := h
    refine ⟨_, pss_cons (ps_set (i := 3) scBy.nd rfl (.inl rfl) (pe_f cS hr (by decide) (by rfl) (pa_cons (pv 0) (pa_cons (pe_op op_cat (pe_lst (pa_cons pe_int pa_nil)) (pe_op op_rep (pe_lst (pa_cons pe_int pa_nil)) (pe_op op_sub (pe_callB call_len_seq (by rfl) ml PySem.boot_len (pa_cons (pv 0) pa_nil)) pe_int))) pa_nil))))
      (pss_cons (ps_for PassesOwn.never rfl (pi_list (pv 2)) (pg_name (i := 4) scBy.nd rfl (.inr rfl))
        (pss_cons (ps_setLc (i := 5) (own := [("row", 6)]) (g := gName 6) (tt := tYes) rfl scBy.nd rfl rfl (sw_true rfl rfl rfl (by decide +kernel)) (pi_list (pv 3)) (blkOk_by (N := nBy) (sc := defScope sBy) (by decide +kernel))
            (fun _ _ _ _ _ => pg_name (i := 6) scBy.nd rfl (.inl rfl)) (fun _ _ _ _ _ => pts_nil)
            (fun _ _ _ _ _ => pe_f cT hr (by decide) (by rfl) (pa_cons (pv 0) (pa_cons (pv 6) (pa_cons (pv 4) pa_nil)))))
        (pss_one (ps_set (i := 3) scBy.nd rfl (.inl rfl) (pe_f cM hr (by decide) (by rfl) (pa_cons (pv 3) (pa_cons (pv 5) (pa_cons (pv 1) pa_nil))))))))
      (pss_one (ps_ret (pv 3)))), ?_⟩
    have h4 := T.ring.four
    have h0 := T.ring.pos
    have hc := Coef.of T.ring
    have lb : bs.length = k.length := by rw [paired_len T.rb.all, T.ib.rows.len]
    have l1 : (1 :: List.replicate (k.length - 1) (0 : Int)).length = k.length := by simp; omega
    have b1 : ∀ j, (Idl.F (1 :: List.replicate (k.length - 1) (0 : Int)) j).natAbs ≤ 2 ^ 100 := fun j => by
      rw [F_unit0]; unfold Idl.E; split <;> decide
    refine ⟨_, rfl, (by show 1 ≤ sizeLine; decide), fun c1 n1 => ?_⟩
    have s1 := same_upd (o := .lst [.int 1]) n1
    refine ⟨(by show 1 ≤ sizeLine; decide), fun c2 n2 => ?_⟩
    have s2 := same_upd (o := .lst [.int 0]) n2
    have s12 := s1.trans s2
    refine ⟨_, rfl, p, _, rfl, .inl (T.ik.same s12).sq, _, _, rfl, rfl, ?_⟩
    have ek : (((k.map V.int).length : Int) - 1) = ((k.length - 1 : Nat) : Int) := by rw [List.length_map]; omega
    refine ⟨c2, ((k.length - 1 : Nat) : Int), [.int 0], rfl, congrArg V.int ek, upd_same, by omega, by omega, ?_, fun c3 n3 => ?_⟩
    · rw [Int.toNat_natCast]
      show 1 * (k.length - 1) ≤ sizeLine
      rw [Nat.one_mul]
      exact Nat.le_of_lt (small1000 (by omega))
    · rw [Int.toNat_natCast]
      have e0 : (List.replicate (k.length - 1) [V.int 0]).flatten = (List.replicate (k.length - 1) (0 : Int)).map V.int := by simp
      rw [e0]
      have s3 := same_upd (o := .lst ((List.replicate (k.length - 1) (0 : Int)).map V.int)) n3
      have s123 := s12.trans s3
      refine ⟨c1, c3, [.int 1], (List.replicate (k.length - 1) (0 : Int)).map V.int, rfl, rfl, s3 _ _ (s2 _ _ upd_same), upd_same, ?_, fun c4 n4 => ?_⟩
      · rw [List.length_map, List.length_replicate]
        exact Nat.le_of_lt (small1000 (by show 1 + _ ≤ 1000; omega))
      · have s4 := same_upd (o := .lst ([V.int 1] ++ (List.replicate (k.length - 1) (0 : Int)).map V.int)) n4
        have sA := s123.trans s4
        refine ⟨p, c4, k, 1 :: List.replicate (k.length - 1) 0, rfl, T.ik.same sA, upd_same, l1, h0, small4 h4, fun i hi => hc.mulAll l1 b1 hi, fun H5 u us s5 nu hu fu => ?_⟩
        rw [spread_unit h0] at hu
        have sB := sA.trans s5
        refine ⟨_, rfl, r, rfl, ⟨_, (T.rb.same sB).sq⟩, for_list (K := K) (a := r) (xs := bs.map V.ref) (fun i σ H' => ∃ (rw_ : Addr) (ds : List Addr) (y z : Option V), σ = [some (.ref p), some (.ref q), some (.ref r), some (.ref rw_), y, z, none] ∧ Same H H' ∧ H rw_ = none ∧ RA H' rw_ ds (byP k a (b.take i)) ∧ From H [] ds) ?_ ?_ ?_ ?_⟩
        · exact ⟨u, us, none, none, rfl, sB, sA.free nu, hu, fun z hz => by
            rcases fu z hz with e | e
            · exact .inl (sA.free e)
            · simp at e⟩
        · rintro i σ H' _ ⟨_, _, _, _, _, s6, _⟩
          exact (T.rb.same s6).sq
        · rintro i x σ H6 hx ⟨rw_, ds, y, z, rfl, s6, nr, hd, fd⟩
          obtain ⟨fa, gf, rfl⟩ := get_refs hx
          obtain ⟨fv, gfv, ifv⟩ := paired_at' T.rb.all gf
          have mf : fv ∈ b := List.mem_of_getElem? gfv
          have il : i < b.length := (List.getElem?_eq_some_iff.mp gfv).1
          have lf := T.ib.rows.lens fv mf
          have inv := by_prefix (bs := b.take i) T.ring T.ia T.sa (fun x hx => T.ib.rows.lens x (List.mem_of_mem_take hx)) (fun x hx => T.sb x (List.mem_of_mem_take hx))
          have ldd : (byP k a (b.take i)).length = k.length := inv.rows.len
          have dsl : ds.length = k.length := by rw [paired_len hd.all, ldd]
          refine ⟨_, rfl, rw_, rfl, ⟨_, hd.sq⟩, fun D nD => ?_⟩
          refine lc_list (K := K) (a := rw_) (xs := ds.map V.ref) (fun j H' => ∃ es : List Addr, Same H6 H' ∧ RA H' D es (((byP k a (b.take i)).map fun s => Nf02.times k s fv).take j) ∧ From H6 [] es) ⟨[], same_upd nD, ⟨upd_same, .nil⟩, fun z hz => by simp at hz⟩
            (fun j H' _ ⟨_, s7, _⟩ => (hd.same s7).sq) ?_ ?_
          · rintro j x H7 hx2 ⟨es, s7, he, fe⟩
            obtain ⟨ra, ga, rfl⟩ := get_refs hx2
            obtain ⟨rv, gr, ir⟩ := paired_at' hd.all ga
            have mr : rv ∈ byP k a (b.take i) := List.mem_of_getElem? gr
            have s67 := s6.trans s7
            refine ⟨rfl, yes_ (iteT ?_)⟩
            refine ⟨_, rfl, _, rfl, _, rfl, p, ra, fa, k, rv, fv, rfl, T.ik.same s67, ir.same s7, ifv.same s67, hc, inv.rows.lens rv mr, lf, bd100 inv.small mr, bd100 T.sb mf, fun H8 t s8 nt it => ?_⟩
            have gk : ((byP k a (b.take i)).map fun s => Nf02.times k s fv)[j]? = some (Nf02.times k rv fv) := by rw [List.getElem?_map, gr]; rfl
            have Dt : t ≠ D := fun e => by rw [e, he.at_] at nt; cases nt
            have he3 := he.same s8
            refine ⟨_, he3.at_, ?_, es ++ [t], same_grow (s7.trans s8) nD, ⟨by rw [upd_same, List.map_append]; rfl, ?_⟩, fun z hz => ?_⟩
            · have jl := (List.getElem?_eq_some_iff.mp ga).1
              rw [List.length_map, paired_len he.all, List.length_take]
              exact Nat.lt_of_le_of_lt (Nat.min_le_left _ _) (small1000 (by omega))
            · rw [take_one_more gk]
              refine Paired.snoc (paired_upd he3.at_ he3.all fun x hx => ?_) (it.upd he3.at_ (by rw [len_times lf h0]; exact h0))
              obtain ⟨y, hy, rfl⟩ := List.mem_map.mp (List.mem_of_mem_take hx)
              rw [len_times lf h0]; exact h0
            · rcases List.mem_append.mp hz with e | e
              · exact fe z e
              · rw [List.mem_singleton.mp e]; exact .inl (s7.free nt)
          · rintro H7 ⟨es, s7, he, fe⟩
            rw [List.length_map, dsl, List.take_of_length_le (by rw [List.length_map, ldd]; exact Nat.le_refl _)] at he
            have s67 := s6.trans s7
            refine ⟨_, rfl, _, rfl, _, rfl, rw_, D, q, ds, es, as, byP k a (b.take i), a, fun s => Nf02.times k s fv, Tm k fv, k.length, rfl, hd.same s7, he, T.ra.same s67, inv.pre T.ring T.ia T.sa lf (T.sb fv mf), h0, h4, fun H8 t ts s8 nt ht ft => ?_⟩
            refine ⟨t, ts, some (.ref fa), some (.ref D), rfl, s67.trans s8, s67.free nt, ?_, fun z hz => ?_⟩
            · rw [byP_more gfv]; exact ht
            · rcases ft z hz with e | e
              · exact .inl (s67.free e)
              · simp at e
        · rintro σ H6 ⟨rw_, ds, y, z, rfl, s6, nr, hd, fd⟩
          rw [List.length_map, lb, List.take_of_length_le (by rw [T.ib.rows.len]; exact Nat.le_refl _), (by_eq T.ring T.ia T.sa T.ib.rows.lens T.sb).1] at hd
          exact ⟨_, rfl, kk H6 rw_ ds s6 nr hd fd.of_none⟩
end
end Hnd
set_option Elab.async false
set_option linter.all false
set_option maxRecDepth 100000
set_option maxHeartbeats 2000000
/-! The row's end, with one fact more of the heap that the call meets: no _pylong stands among the modules. -/
namespace Hnd
open PySem PySem.Spec PyProof.Rows L2
open PySem.W (WData Codec OpenSpec)
section
variable {P : Program} {w : World} {K : PySem.W.Frag}
/-- what is tracked of the arguments are lists and tuples -/
theorem arg_kind {h : Heap} {A : List Addr} (ar : ∀ a ∈ A, ArgOb h A a) {b : Addr} {u : HO} (q : argH K h A b = some u) :
    ∃ (o : Obj) (vs : List Value), h.get? b = some o ∧ o.data = .seq vs.toArray ∧ (o.cls = .type "list" ∨ o.cls = .type "tuple") := by
  obtain ⟨_, vs, _, _, h3⟩ := argH_is ar q
  rcases h3 with z | z
  · exact ⟨_, vs, z.1, rfl, .inl rfl⟩
  · exact ⟨_, vs, z.1, rfl, .inr rfl⟩
theorem ns_hid {h : Heap} {H : Hp} {b : Addr} {m : Str → Option Value} (nd : ∀ b o es ep, h.get? b = some o → o.data = .dict es ep → H b = none) (x : h.Ns b m) : (hidT h H).Ns b m := by
  obtain ⟨o, es, ep, e, d, r⟩ := x
  exact ⟨o, es, ep, hidT_get e (nd b o es ep e d), d, r⟩
theorem seer_hid {h : Heap} {H : Hp} (nd : ∀ b o es ep, h.get? b = some o → o.data = .dict es ep → H b = none) (nm : ∀ b o, h.get? b = some o → o.cls = .type "module" → H b = none) (x : h.NoSeer) : (hidT h H).NoSeer := by
  obtain ⟨⟨m1, a1, a2⟩, ⟨m2, b1, b2⟩, ⟨m3, c1, c2⟩, ⟨m4, bm, ob, d1, d2, d3, d4, d5⟩⟩ := x
  exact ⟨⟨m1, ns_hid nd a1, a2⟩, ⟨m2, ns_hid nd b1, b2⟩, ⟨m3, ns_hid nd c1, c2⟩, ⟨m4, bm, ob, ns_hid nd d1, d2, hidT_get d3 (nm _ _ d3 d4), d4, d5⟩⟩
/-- the def is called from without -/
theorem call_seer {mg mb : Str → Option Value} {k : Nat} {fa : Addr} {fd : FuncData} {ps : List Str} {sp : L2.Sp} {st : Shared} {us : List Value} {ds : List WData} {R : PySem.W.WRecords} {cl : Str → Option Addr} {due : WData}
    (hK : K.In st.heap) (hG : st.heap.Ns mainGlobals mg) (hB : st.heap.Ns builtinsNs mb) (hBb : ∀ x : Str, x ≠ "__name__" → mb x = bootBuiltins x) (hLim : st.heap.NoLimit) (hSeer : st.heap.NoSeer) (hGens : st.gens = #[])
    (hWell : PySem.W.WellAll w.params st.heap us ds) (hPl : plWs ds = true) (hWt : ∀ d ∈ ds, d.weight ≤ 1048576) (hRoom : Room k callerA)
    (hF : ∀ g : Heap, K.In g → g.Ns mainGlobals mg → g.NoSeer → FnOk P w K mg g CX0 k fa fd ps sp) (hBind : ∀ (s : Shared) (vs : List Value), vs.length = ps.length → BindsTo s fd ⟨vs, []⟩ (ps.zip vs)) (hLen : ds.length = ps.length)
    (hSp : ∀ (H : Hp) (xs : List V), OnlyF H → DwAll K H xs ds → sp xs H (fun v H' => Dw K H' v due) fun _ _ _ => False) :
    codeAny (model P w) callerA (.call (.ref fa) ⟨us, []⟩) (fun r z => ∃ u as, r = .ok (.ret u) ∧ PySem.W.ReadsW R cl z.heap u due as ∧ OldK st.heap z.heap ∧ z.os = st.os ∧ AllBare z.gens) st := by
  obtain ⟨A, hu, ar⟩ := area_all ds us hWell hPl hWt
  have only := argH_only (K := K) ar
  have hok := argH_ok (P := P) (w := w) (K := K) ar
  have hS := dw_all hK ar ds us hWell hPl hu
  have kind := fun (b : Addr) (u : HO) (q : argH K st.heap A b = some u) => arg_kind ar q
  have notK : ∀ b u, argH K st.heap A b = some u → K.lookup b = none := fun b u q => (argH_is ar q).1
  generalize argH K st.heap A = H at only hok hS kind notK
  have nd : ∀ b o es ep, st.heap.get? b = some o → o.data = .dict es ep → H b = none := fun b o es ep e d => by
    cases q : H b with
    | none => rfl
    | some u =>
      obtain ⟨o', vs, e', d', _⟩ := kind b u q
      rw [e] at e'
      cases e'
      rw [d] at d'
      cases d'
  have nm : ∀ b o, st.heap.get? b = some o → o.cls = .type "module" → H b = none := fun b o e c => by
    cases q : H b with
    | none => rfl
    | some u =>
      obtain ⟨o', vs, e', _, c'⟩ := kind b u q
      rw [e] at e'
      cases e'
      rw [c] at c'
      rcases c' with z | z <;> exact absurd (Value.type.inj z) (by decide)
  have inK : K.In (hidT st.heap H) := fun b o e => hidT_get (hK b o e) (by
    cases q : H b with
    | none => rfl
    | some u =>
      rw [notK b u q] at e
      cases e)
  have lim : (hidT st.heap H).NoLimit := by
    obtain ⟨mc, x1, x2⟩ := hLim
    exact ⟨mc, ns_hid nd x1, x2⟩
  have hM : Mod K mg (hidT st.heap H) := ⟨inK, ns_hid nd hG, ⟨mb, ns_hid nd hB, hBb⟩, lim⟩
  have noMem : ∀ b : Addr, b ∈ ([] : List Addr) → False := fun b hb => by simp at hb
  have e0 : Env0 P w K mg (hidT st.heap H) callerA [] st H := ⟨rfl, hM, fun b o e => of_hidT e, Nat.le_of_eq (hidT_size _ _), trivial, fun b hb => (noMem b hb).elim, hok, .of_eq hGens⟩
  have lens : us.length = ps.length := (wellAll_len hWell).trans hLen
  have run := (hF _ inK (ns_hid nd hG) (seer_hid nd nm hSeer)).run callerA [] st H ⟨us, []⟩ us (us.map toV) _ _ hRoom e0 (hBind st us lens) (vals_toV hu) (hSp H _ only hS)
  refine codeAny_mono run fun r z x => ?_
  match r, x with
  | .error e, x => exact False.elim x
  | .ok .next, x => exact False.elim x
  | .ok .brk, x => exact False.elim x
  | .ok .cont, x => exact False.elim x
  | .ok (.ret u), x =>
    obtain ⟨v, H', os, bare, un, hok', rel, q⟩ := x
    have stay : ∀ b o, st.heap.get? b = some o → z.heap.get? b = some o := fun b o e => by
      rcases only b with n | ⟨ob, u2, n⟩
      · exact un.keep b o e n (fun m => noMem b m) (by simp)
      · have here := (hok b _ n).1
        have there := (hok' b _ (un.frzs b ob _ n)).1
        rw [e] at here
        cases here
        exact there
    obtain ⟨as, rd⟩ := Dw.reads (R := R) (cl := cl) hok' (fun b o e => stay b o (hK b o e)) due v u q rel
    exact ⟨u, as, rfl, rd, OldK.of_keep stay, os, bare⟩
end
/-- the walk of the row's def from its promise -/
theorem walk_seer {r : OpenSpec} {k : Nat} {q : Program} {loose : List Str} {XP : (Str → Option Value) → Heap → Prop} {YP : World → Heap → Prop} {d : DefRec} {K : Params → PySem.W.Frag} {ps : List Str} {sp : PySem.W.Frag → L2.Sp}
    (well : r.wellSaid = true) (imp : importsNone q = true) (len : r.args.length = ps.length) (room : Room k callerA) (inK : ∀ (w : World) (h : Heap), YP w h → (K w.params).In h)
    (F : ∀ (w : World) (mg : Str → Option Value) (fa : Addr) (h : Heap), YP w h → (K w.params).In h → h.Ns mainGlobals mg → mg d.name = some (.ref fa) →
      ∃ fd : FuncData, (∀ (s : Shared) (us : List Value), us.length = ps.length → BindsTo s fd ⟨us, []⟩ (ps.zip us)) ∧
        ∀ g : Heap, (K w.params).In g → g.Ns mainGlobals mg → g.NoSeer → FnOk r.prog w (K w.params) mg g CX0 k fa fd ps (sp (K w.params)))
    (S : ∀ (K : PySem.W.Frag) (H : Hp) (xs : List V) (a : Codec.denoteAll r.args), OnlyF H → Codec.withinAll r.args a = true → Codec.app r.args r.asked a = true → DwAll K H xs (Codec.encAll r.args a) →
      sp K xs H (fun v H' => Dw K H' v (r.ret.enc (Codec.app r.args r.f a))) fun _ _ _ => False) :
    PySem.W.WalkOS q loose XP YP r d [] (fun f vs => PySem.call f vs) := by
  intro w s0 s1 mg mb G Y fa o pm cd doc dV kV ho hd hcd hD hmg hg args vals as pre lay rd wl lo
  obtain ⟨a, e1, asked⟩ := PySem.W.os_pre_some pre
  obtain ⟨e3, inside⟩ := Codec.encAll_of_decAll r.args args a e1
  subst e3
  have X := inK w _ Y
  have T := G.T
  obtain ⟨fd, bind, fn⟩ := F w mg fa _ Y X T.g hmg
  have call := call_seer (R := []) (cl := classAt s0.heap) (due := r.ret.enc (Codec.app r.args r.f a)) X T.g T.b T.builtins T.nolimit (T.seer imp) hg wl (pl_encAll _ _) (layable_weight lay) room fn bind ((encAll_len _ _).trans len)
    (fun H xs o1 o2 => S (K w.params) H xs a o1 inside asked o2)
  refine PySem.W.enter_call (codeAny_mono call fun res z x => ?_)
  obtain ⟨u, as', rfl, x1, x2, x3, x4⟩ := x
  exact ⟨.inl ⟨u, _, as', rfl, fun _ => rfl, x1, (OpenSpec.post_iff well inside _ _).mpr rfl, fun n => (Bool.false_ne_true n).elim⟩, x2, x3, x4⟩
end Hnd
set_option Elab.async false
set_option linter.all false
set_option maxRecDepth 100000
set_option maxHeartbeats 2000000
/-! Polynomials. -/
namespace Hnd
open PySem PySem.Spec PyProof.Rows L2
open Idl hiding Sp F R E Top
open Nf02 (Vec)
abbrev sValue : Stmt := top 47
abbrev sBound : Stmt := top 48
abbrev sRoot : Stmt := top 49
abbrev sQuads : Stmt := top 50
abbrev sParted : Stmt := top 51
section
variable {P : Program} {w : World} {K : PySem.W.Frag} {mg : Str → Option Value} {base : Heap}
/-! ### value_at -/
abbrev pValue : List Str := ["coefficients", "x"]
theorem scValue : FnScope ["coefficients", "x", "value", "coefficient"] pValue (defScope sValue) := ⟨rfl, rfl, rfl, by decide +kernel, rfl, by decide +kernel, by decide +kernel⟩
def spValue : L2.Sp := fun vs H Q _ => ∃ (p : Addr) (k : Vec) (x : Int), vs = [.ref p, .int x] ∧ IA H p k ∧ x.natAbs ≤ 1000 ∧ ∀ H', Same H H' → Q (.int (valueAt k x)) H'
theorem ok_value (D : Df K mg "value_at" sValue pValue) (mv : mg "reversed" = none) : Ok P w K mg base 1 "value_at" pValue spValue := D.ok fun f fd F => by
  refine F.ok scValue (fun vs H Q E h => ?_) (fun cdv A outer s H vs Q E hr h => ?_)
  · obtain ⟨p, k, x, rfl, _⟩ := h
    rfl
  · obtain ⟨p, k, x, rfl, ik, hx, kk⟩ := h
    refine ⟨_, pss_cons (ps_set (i := 2) scValue.nd rfl (.inl rfl) pe_int)
      (pss_cons (ps_for PassesOwn.never rfl (pi_reversed (by rfl) mv (pa_cons (pv 0) pa_nil)) (pg_name (i := 3) scValue.nd rfl (.inl rfl))
        (pss_one (ps_set (i := 2) scValue.nd rfl (.inl rfl) (pe_op op_add (pe_op op_mul (pv 2) (pv 1)) (pv 3)))))
      (pss_one (ps_ret (pv 2)))), ?_⟩
    refine ⟨_, rfl, p, _, rfl, ik.sq, ?_⟩
    refine for_it (walk_rev (xs := k.map V.int)) (fun i σ H' => ∃ y, σ = [some (.ref p), some (.int x), some (.int ((k.reverse.take i).foldl (fun v c => v * x + c) 1)), y] ∧ Same H H') ⟨none, rfl, Same.refl _⟩ (fun i σ H' _ ⟨_, _, s1⟩ => (ik.same s1).sq) ?_ ?_
    · rintro i z σ H1 H2 hi ⟨y, rfl, s1⟩ ⟨rfl, hz⟩
      obtain ⟨c, hc, rfl⟩ := get_ints hz
      rw [List.length_map] at hi hc
      have gc : k.reverse[i]? = some c := by rw [List.getElem?_reverse hi]; exact hc
      refine ⟨_, rfl, _, rfl, _, _, rfl, rfl, .inr ⟨by omega, by omega⟩, _, rfl, _, _, rfl, rfl, some (.int c), ?_, s1⟩
      rw [take_one_more gc, List.foldl_append]
      rfl
    · rintro σ H1 ⟨y, rfl, s1⟩
      rw [List.length_map, show k.reverse.take k.length = k.reverse from List.take_of_length_le (by rw [List.length_reverse]; exact Nat.le_refl _)]
      exact ⟨_, rfl, kk H1 s1⟩
/-! ### root_bound -/
theorem scBound : FnScope ["coefficients", "coefficient"] ["coefficients"] (defScope sBound) := ⟨rfl, rfl, rfl, by decide +kernel, rfl, by decide +kernel, by decide +kernel⟩
def spBound : L2.Sp := fun vs H Q _ => ∃ (p : Addr) (k : Vec), vs = [.ref p] ∧ IA H p k ∧ 0 < k.length ∧ k.length ≤ 1000 ∧ ∀ H' M, Same H H' → Idl.Top k M → (∃ c ∈ k, M = (c.natAbs : Int)) → Q (.int (1 + M)) H'
theorem ok_bound (D : Df K mg "root_bound" sBound ["coefficients"]) (mm : mg "max" = none) (ma : mg "abs" = none) : Ok P w K mg base 1 "root_bound" ["coefficients"] spBound := D.ok fun f fd F => by
  refine F.ok scBound (fun vs H Q E h => ?_) (fun cdv A outer s H vs Q E hr h => ?_)
  · obtain ⟨p, k, rfl, _⟩ := h
    rfl
  · obtain ⟨p, k, rfl, ik, h0, h1000, kk⟩ := h
    refine ⟨_, pss_one (ps_ret (pe_op op_add pe_int (pe_callB (cr_max rfl) (by rfl) mm (by decide +kernel) (pa_cons
      (pe_lc (own := [("coefficient", 1)]) (g := gName 1) (tt := tYes) rfl scBound.nd (pi_list (pv 0)) (blkOk_by (N := ["coefficients", "coefficient"]) (sc := defScope sBound) (by decide +kernel))
        (fun _ _ _ _ _ => pg_name (i := 1) scBound.nd rfl (.inl rfl)) (fun _ _ _ _ _ => pts_nil)
        (fun _ _ _ _ _ => pe_callB call_abs (by rfl) ma (by decide +kernel) (pa_cons (pv 1) pa_nil))) pa_nil)))), ?_⟩
    refine ⟨_, rfl, p, rfl, ⟨_, ik.sq⟩, fun D nD => ?_⟩
    refine lc_list (K := K) (a := p) (xs := k.map V.int) (fun i H' => Same H H' ∧ H' D = some (.lst (((k.map fun c => (c.natAbs : Int)).take i).map V.int))) ⟨same_upd nD, upd_same⟩ (fun i H' _ h => (ik.same h.1).sq) ?_ ?_
    · rintro i x H1 hx ⟨s1, e1⟩
      obtain ⟨c, hc, rfl⟩ := get_ints hx
      have gk : (k.map fun c => (c.natAbs : Int))[i]? = some (c.natAbs : Int) := by rw [List.getElem?_map, hc]; rfl
      refine ⟨rfl, yes_ (iteT ?_)⟩
      refine ⟨_, rfl, c, rfl, _, e1, ?_, same_grow s1 nD, ?_⟩
      · rw [List.length_map, List.length_take, List.length_map]
        exact Nat.lt_of_le_of_lt (Nat.min_le_right _ _) (small1000 h1000)
      · have ea : (if c < 0 then -c else c) = (c.natAbs : Int) := by split <;> omega
        rw [upd_same, take_one_more gk, List.map_append, ea]; rfl
    · rintro H1 ⟨s1, e1⟩
      rw [List.length_map, List.take_of_length_le (by rw [List.length_map]; exact Nat.le_refl _)] at e1
      refine ⟨D, _, rfl, SqL.of e1, by rw [List.length_map]; exact h0, fun m hm hle => ⟨_, _, rfl, rfl, ?_⟩⟩
      obtain ⟨c, hc, em⟩ := List.mem_map.mp hm
      exact kk H1 m s1 ⟨fun c hc => hle _ (List.mem_map.mpr ⟨c, hc, rfl⟩)⟩ ⟨c, hc, em.symm⟩
/-! ### has_whole_root -/
theorem scRoot : FnScope ["coefficients", "bound", "x"] ["coefficients"] (defScope sRoot) := ⟨rfl, rfl, rfl, by decide +kernel, rfl, by decide +kernel, by decide +kernel⟩
/-- coefficients that a ring may be told by -/
structure Told (k : Vec) : Prop where
  two : 2 ≤ k.length
  four : k.length ≤ 4
  small : ∀ c ∈ k, c.natAbs ≤ 20
def spRoot : L2.Sp := fun vs H Q _ => ∃ (p : Addr) (k : Vec), vs = [.ref p] ∧ IA H p k ∧ Told k ∧ ∀ H' b, Same H H' → (b = true ↔ ∃ z, Nf01.value (k ++ [1]) z = 0) → Q (.bl b) H'
theorem top_le {k : Vec} {M : Int} (t : Told k) (h : ∃ c ∈ k, M = (c.natAbs : Int)) : 0 ≤ M ∧ M ≤ 20 := by
  obtain ⟨c, hc, rfl⟩ := h
  have := t.small c hc
  omega
theorem ok_root (D : Df K mg "has_whole_root" sRoot ["coefficients"]) (cV : Ok P w K mg base 1 "value_at" pValue spValue) (cB : Ok P w K mg base 1 "root_bound" ["coefficients"] spBound) (mr : mg "range" = none) : Ok P w K mg base 2 "has_whole_root" ["coefficients"] spRoot := D.ok fun f fd F => by
  refine F.ok scRoot (fun vs H Q E h => ?_) (fun cdv A outer s H vs Q E hr h => ?_)
  · obtain ⟨p, k, rfl, _⟩ := h
    rfl
  · obtain ⟨p, k, rfl, ik, t, kk⟩ := h
    refine ⟨_, pss_cons (ps_set (i := 1) scRoot.nd rfl (.inl rfl) (pe_f cB hr (by decide) (by rfl) (pa_cons (pv 0) pa_nil)))
      (pss_cons (ps_for PassesOwn.never rfl (pi_range2 rfl mr (pa_cons (pe_un un_neg (pv 1)) (pa_cons (pe_op op_add (pv 1) pe_int) pa_nil))) (pg_name (i := 2) scRoot.nd rfl (.inl rfl))
        (pss_one (ps_if (pt_cmpR op_eq (pe_f cV hr (by decide) (by rfl) (pa_cons (pv 0) (pa_cons (pv 2) pa_nil))) pe_int (nomark _)) (pss_one (ps_ret pe_bl)) pss_nil)))
      (pss_one (ps_ret pe_bl))), ?_⟩
    refine ⟨_, rfl, p, k, rfl, ik, by have := t.two; omega, by have := t.four; omega, fun H1 M s1 tM hM => ?_⟩
    obtain ⟨m0, m20⟩ := top_le t hM
    have rr := root_range tM t.two t.four
    refine ⟨_, rfl, _, rfl, _, rfl, _, _, rfl, rfl, _, _, rfl, ⟨by omega, by omega, by omega, by omega⟩, ?_⟩
    have en : ((1 + M + 1) - -(1 + M)).toNat = (2 * M + 3).toNat := by congr 1; omega
    refine for_range (lo := -(1 + M)) (n := ((1 + M + 1) - -(1 + M)).toNat) (fun i σ H' => ∃ y, σ = [some (.ref p), some (.int (1 + M)), y] ∧ Same H H' ∧ ∀ z, -(1 + M) ≤ z → z < -(1 + M) + i → valueAt k z ≠ 0) ⟨none, rfl, s1, fun z a b => by omega⟩ ?_ ?_
    · rintro i σ H2 hi ⟨y, rfl, s2, no⟩
      rw [en] at hi
      refine ⟨_, rfl, _, rfl, p, k, _, rfl, ik.same s2, by omega, fun H3 s3 => ⟨rfl, _, rfl, ite2 (fun e => ?_) (fun e => ?_)⟩⟩
      · have v0 : valueAt k (-(1 + M) + i) = 0 := V.int.inj (of_decide_eq_true e)
        exact kk H3 true (s2.trans s3) ⟨fun _ => rr.mpr ⟨_, by omega, by omega, v0⟩, fun _ => rfl⟩
      · have v0 : valueAt k (-(1 + M) + i) ≠ 0 := fun q => e (decide_eq_true (congrArg V.int q))
        refine ⟨_, rfl, s2.trans s3, fun z a b => ?_⟩
        by_cases c : z = -(1 + M) + i
        · rw [c]; exact v0
        · exact no z a (by omega)
    · rintro σ H2 ⟨y, rfl, s2, no⟩
      rw [en] at no
      refine kk H2 false s2 ⟨fun q => (Bool.false_ne_true q).elim, fun q => ?_⟩
      obtain ⟨z, a, b, c⟩ := rr.mp q
      exact absurd c (no z a (by omega))
/-! ### parts_into_quadratics -/
abbrev nQuads : List Str := ["coefficients", "last", "widest", "b", "d", "a", "e"]
theorem scQuads : FnScope nQuads ["coefficients"] (defScope sQuads) := ⟨rfl, rfl, rfl, by decide +kernel, rfl, by decide +kernel, by decide +kernel⟩
def spQuads : L2.Sp := fun vs H Q _ => ∃ (p : Addr) (c0 c1 c2 c3 : Int), vs = [.ref p] ∧ IA H p [c0, c1, c2, c3] ∧ Told [c0, c1, c2, c3] ∧ c0 ≠ 0 ∧ ∀ H' b, Same H H' → (b = true ↔ Split4 c0 c1 c2 c3) → Q (.bl b) H'
theorem ok_quads (D : Df K mg "parts_into_quadratics" sQuads ["coefficients"]) (cB : Ok P w K mg base 1 "root_bound" ["coefficients"] spBound) (mr : mg "range" = none) (ma : mg "abs" = none) : Ok P w K mg base 2 "parts_into_quadratics" ["coefficients"] spQuads := D.ok fun f fd F => by
  refine F.ok scQuads (fun vs H Q E h => ?_) (fun cdv A outer s H vs Q E hr h => ?_)
  · obtain ⟨p, c0, c1, c2, c3, rfl, _⟩ := h
    rfl
  · obtain ⟨p, c0, c1, c2, c3, rfl, ik, t, hc, kk⟩ := h
    refine ⟨_, pss_cons (ps_set (i := 1) scQuads.nd rfl (.inl rfl) (pe_callB call_abs (by rfl) ma (by decide +kernel) (pa_cons (pe_ix ix_list (pv 0) pe_int (fun _ _ => rfl)) pa_nil)))
      (pss_cons (ps_set (i := 2) scQuads.nd rfl (.inl rfl) (pe_op op_mul pe_int (pe_f cB hr (by decide) (by rfl) (pa_cons (pv 0) pa_nil))))
      (pss_cons (ps_for PassesOwn.never rfl (pi_range2 rfl mr (pa_cons (pe_un un_neg (pv 1)) (pa_cons (pe_op op_add (pv 1) pe_int) pa_nil))) (pg_name (i := 3) scQuads.nd rfl (.inl rfl))
        (pss_one (ps_if (pw_and (pt_cmpR op_ne (pv 3) pe_int (nomark _)) (pw_and1 (pt_cmpR op_eq (pe_op op_modN (pe_ix ix_list (pv 0) pe_int (fun _ _ => rfl)) (pv 3)) pe_int (nomark _)))).pt
          (pss_cons (ps_set (i := 4) scQuads.nd rfl (.inl rfl) (pe_op op_fdivN (pe_ix ix_list (pv 0) pe_int (fun _ _ => rfl)) (pv 3)))
          (pss_one (ps_for PassesOwn.never rfl (pi_range2 rfl mr (pa_cons (pe_un un_neg (pv 2)) (pa_cons (pe_op op_add (pv 2) pe_int) pa_nil))) (pg_name (i := 5) scQuads.nd rfl (.inl rfl))
            (pss_cons (ps_set (i := 6) scQuads.nd rfl (.inl rfl) (pe_op op_sub (pe_ix ix_list (pv 0) pe_int (fun _ _ => rfl)) (pv 5)))
            (pss_one (ps_if (pw_and (pt_cmpR op_eq (pe_op op_add (pe_op op_add (pv 3) (pv 4)) (pe_op op_mul (pv 5) (pv 6))) (pe_ix ix_list (pv 0) pe_int (fun _ _ => rfl)) (nomark _))
                (pw_and1 (pt_cmpR op_eq (pe_op op_add (pe_op op_mul (pv 5) (pv 4)) (pe_op op_mul (pv 3) (pv 6))) (pe_ix ix_list (pv 0) pe_int (fun _ _ => rfl)) (nomark _)))).pt
              (pss_one (ps_ret pe_bl)) pss_nil)))))) pss_nil)))
      (pss_one (ps_ret pe_bl)))), ?_⟩
    have s20 : ∀ c ∈ [c0, c1, c2, c3], c.natAbs ≤ 20 := t.small
    have c020 := s20 c0 (by simp)
    have g0 : ∀ H' : Hp, atI ([c0, c1, c2, c3].map V.int) 0 = some (.int c0) := fun _ => atI_nat (j := 0) rfl
    have g1 : atI ([c0, c1, c2, c3].map V.int) 1 = some (.int c1) := atI_nat (j := 1) rfl
    have g2 : atI ([c0, c1, c2, c3].map V.int) 2 = some (.int c2) := atI_nat (j := 2) rfl
    have g3 : atI ([c0, c1, c2, c3].map V.int) 3 = some (.int c3) := atI_nat (j := 3) rfl
    refine ⟨_, rfl, p, _, 0, .int c0, rfl, rfl, ik.sq, g0 H, c0, rfl, ?_⟩
    have ea : (if c0 < 0 then -c0 else c0) = (c0.natAbs : Int) := by split <;> omega
    rw [ea]
    refine ⟨_, rfl, p, _, rfl, ik, (by show 0 < 4; decide), (by show 4 ≤ 1000; decide), fun H1 M s1 tM hM => ?_⟩
    obtain ⟨m0, m20⟩ := top_le t hM
    have sr := split_range tM hc
    refine ⟨_, _, rfl, rfl, .inl ⟨by decide, by decide⟩, ?_⟩
    refine ⟨_, rfl, _, rfl, _, rfl, _, _, rfl, rfl, _, _, rfl, ⟨by omega, by omega, by omega, by omega⟩, ?_⟩
    obtain ⟨L, hL⟩ : ∃ L : Int, L = (c0.natAbs : Int) := ⟨_, rfl⟩
    rw [← hL]
    have hL20 : 0 ≤ L ∧ L ≤ 20 := by omega
    have en : ((L + 1) - -L).toNat = (2 * L + 1).toNat := by congr 1; omega
    -- no b behind us parts it
    refine for_range (lo := -L) (n := ((L + 1) - -L).toNat) (fun i σ H' => ∃ y z u v, σ = [some (.ref p), some (.int L), some (.int (2 * (1 + M))), y, z, u, v] ∧ Same H H' ∧
        ∀ b, -L ≤ b → b < -L + i → b ≠ 0 → c0.fmod b = 0 → ∀ a, -(2 * (1 + M)) ≤ a → a < 2 * (1 + M) + 1 → ¬ Quad c0 c1 c2 c3 b a) ⟨none, none, none, none, rfl, s1, fun b a1 a2 => by omega⟩ ?_ ?_
    · rintro i σ H2 hi ⟨y, z, u, v, rfl, s2, no⟩
      rw [en] at hi
      obtain ⟨b, hb⟩ : ∃ b, b = -L + (i : Int) := ⟨_, rfl⟩
      rw [← hb]
      have next : (¬ (b ≠ 0 ∧ c0.fmod b = 0) ∨ ∀ a, -(2 * (1 + M)) ≤ a → a < 2 * (1 + M) + 1 → ¬ Quad c0 c1 c2 c3 b a) → ∀ b', -L ≤ b' → b' < -L + ((i + 1 : Nat) : Int) → b' ≠ 0 → c0.fmod b' = 0 → ∀ a, -(2 * (1 + M)) ≤ a → a < 2 * (1 + M) + 1 → ¬ Quad c0 c1 c2 c3 b' a := fun h b' l1 l2 l3 l4 => by
        by_cases c : b' = b
        · rcases h with q | q
          · exact absurd ⟨by rw [← c]; exact l3, by rw [← c]; exact l4⟩ q
          · rw [c]; exact q
        · exact no b' l1 (by omega) l3 l4
      have sq2 := (ik.same s2).sq (K := K)
      refine ⟨_, rfl, rfl, _, rfl, ?_⟩
      by_cases b0 : b = 0
      · have e : (decide (V.int b = V.int 0)) = true := decide_eq_true (by rw [b0])
        rw [e]
        refine iteF ?_
        refine iteF ?_
        exact ⟨_, _, _, _, rfl, s2, next (.inl fun q => q.1 b0)⟩
      · have e : (decide (V.int b = V.int 0)) = false := decide_eq_false (fun q => b0 (V.int.inj q))
        rw [e]
        refine iteT ?_
        refine ⟨_, rfl, p, _, 0, .int c0, rfl, rfl, sq2, g0 H, _, rfl, _, _, rfl, rfl, b0, rfl, _, rfl, ite2 (fun e2 => ?_) (fun e2 => ?_)⟩
        · have md : c0.fmod b = 0 := V.int.inj (of_decide_eq_true e2)
          refine ⟨_, rfl, p, _, 0, .int c0, rfl, rfl, sq2, g0 H, _, rfl, _, _, rfl, rfl, ⟨b0, by omega⟩, ?_⟩
          have dl : (c0.fdiv b).natAbs ≤ 20 := Nat.le_trans (fdiv_le b0) c020
          refine ⟨_, rfl, _, rfl, _, rfl, _, _, rfl, rfl, _, _, rfl, ⟨by omega, by omega, by omega, by omega⟩, ?_⟩
          have en2 : ((2 * (1 + M) + 1) - -(2 * (1 + M))).toNat = (4 * M + 5).toNat := by congr 1; omega
          refine for_range (lo := -(2 * (1 + M))) (n := ((2 * (1 + M) + 1) - -(2 * (1 + M))).toNat) (fun j σ H' => ∃ u v, σ = [some (.ref p), some (.int L), some (.int (2 * (1 + M))), some (.int b), some (.int (c0.fdiv b)), u, v] ∧ Same H H' ∧
              ∀ a, -(2 * (1 + M)) ≤ a → a < -(2 * (1 + M)) + j → ¬ Quad c0 c1 c2 c3 b a) ⟨_, _, rfl, s2, fun a a1 a2 => by omega⟩ ?_ ?_
          · rintro j σ H3 hj ⟨u, v, rfl, s3, noa⟩
            rw [en2] at hj
            obtain ⟨a, ha⟩ : ∃ a, a = -(2 * (1 + M)) + (j : Int) := ⟨_, rfl⟩
            rw [← ha]
            have sq3 := (ik.same s3).sq (K := K)
            have nexta : ¬ Quad c0 c1 c2 c3 b a → ∀ a', -(2 * (1 + M)) ≤ a' → a' < -(2 * (1 + M)) + ((j + 1 : Nat) : Int) → ¬ Quad c0 c1 c2 c3 b a' := fun h a' l1 l2 => by
              by_cases c : a' = a
              · rw [c]; exact h
              · exact noa a' l1 (by omega)
            refine ⟨_, rfl, p, _, 3, .int c3, rfl, rfl, sq3, g3, _, rfl, _, _, rfl, rfl, ?_⟩
            refine ⟨_, rfl, _, rfl, _, _, rfl, rfl, _, rfl, _, rfl, _, _, rfl, rfl, .inl ⟨by omega, by omega⟩, _, _, rfl, rfl, _, rfl, p, _, 2, .int c2, rfl, rfl, sq3, g2, rfl, _, rfl, ?_⟩
            by_cases q1 : b + c0.fdiv b + a * (c3 - a) = c2
            · have e3 : (decide (V.int (b + c0.fdiv b + a * (c3 - a)) = V.int c2)) = true := decide_eq_true (by rw [q1])
              rw [e3]
              refine iteT ?_
              refine ⟨_, rfl, _, rfl, _, _, rfl, rfl, .inl ⟨by omega, by omega⟩, _, rfl, _, rfl, _, _, rfl, rfl, .inl ⟨by omega, by omega⟩, _, _, rfl, rfl, _, rfl, p, _, 1, .int c1, rfl, rfl, sq3, g1, rfl, _, rfl, ite2 (fun e4 => ?_) (fun e4 => ?_)⟩
              · have q2 : a * c0.fdiv b + b * (c3 - a) = c1 := V.int.inj (of_decide_eq_true e4)
                refine kk H3 true s3 ⟨fun _ => sr.mpr ⟨b, by omega, by omega, b0, md, a, by omega, by omega, ?_, ?_⟩, fun _ => rfl⟩
                · exact q1
                · exact q2
              · have q2 : ¬ a * c0.fdiv b + b * (c3 - a) = c1 := fun z => e4 (decide_eq_true (congrArg V.int z))
                exact ⟨_, _, rfl, s3, nexta fun q => q2 q.2⟩
            · have e3 : (decide (V.int (b + c0.fdiv b + a * (c3 - a)) = V.int c2)) = false := decide_eq_false (fun q => q1 (V.int.inj q))
              rw [e3]
              refine iteF ?_
              refine iteF ?_
              exact ⟨_, _, rfl, s3, nexta fun q => q1 q.1⟩
          · rintro σ H3 ⟨u, v, rfl, s3, noa⟩
            rw [en2] at noa
            exact ⟨_, _, _, _, rfl, s3, next (.inr fun a a1 a2 => noa a a1 (by omega))⟩
        · have md : ¬ c0.fmod b = 0 := fun q => e2 (decide_eq_true (congrArg V.int q))
          exact ⟨_, _, _, _, rfl, s2, next (.inl fun q => md q.2)⟩
    · rintro σ H2 ⟨y, z, u, v, rfl, s2, no⟩
      rw [en] at no
      refine kk H2 false s2 ⟨fun q => (Bool.false_ne_true q).elim, fun q => ?_⟩
      obtain ⟨b, b1, b2, b3, b4, a, a1, a2, hq⟩ := sr.mp q
      exact absurd hq (no b (by omega) (by omega) b3 b4 a a1 a2)
end
end Hnd
set_option Elab.async false
set_option linter.all false
set_option maxRecDepth 100000
set_option maxHeartbeats 2000000
/-! can_be_parted; any of whole numbers; a call of what an expression tells. -/
namespace Hnd
open PySem PySem.Spec PyProof.Rows L2
open Idl hiding Sp F R E Top
open Nf02 (Vec)
section
variable {P : Program} {w : World} {K : PySem.W.Frag} {mg : Str → Option Value} {base : Heap}
theorem scParted : FnScope ["coefficients"] ["coefficients"] (defScope sParted) := ⟨rfl, rfl, rfl, by decide +kernel, rfl, by decide +kernel, by decide +kernel⟩
def spParted : L2.Sp := fun vs H Q _ => ∃ (p : Addr) (k : Vec), vs = [.ref p] ∧ IA H p k ∧ Told k ∧ ∀ H', Same H H' → Q (.bl (!Nf01.prime k)) H'
theorem ok_parted (D : Df K mg "can_be_parted" sParted ["coefficients"]) (cR : Ok P w K mg base 2 "has_whole_root" ["coefficients"] spRoot) (cQ : Ok P w K mg base 2 "parts_into_quadratics" ["coefficients"] spQuads) (ml : mg "len" = none) : Ok P w K mg base 3 "can_be_parted" ["coefficients"] spParted := D.ok fun f fd F => by
  refine F.ok scParted (fun vs H Q E h => ?_) (fun cdv A outer s H vs Q E hr h => ?_)
  · obtain ⟨p, k, rfl, _⟩ := h
    rfl
  · obtain ⟨p, k, rfl, ik, t, kk⟩ := h
    refine ⟨_, pss_cons (ps_if (pt_val (pe_f cR hr (by decide) (by rfl) (pa_cons (pv 0) pa_nil))) (pss_one (ps_ret pe_bl)) pss_nil)
      (pss_one (ps_ret (pe_and (pe_cmpR op_eq (pe_callB call_len_seq (by rfl) ml PySem.boot_len (pa_cons (pv 0) pa_nil)) pe_int (nomark _)) (pe_one (pe_f cQ hr (by decide) (by rfl) (pa_cons (pv 0) pa_nil)))))), ?_⟩
    have pi := prime_iff t.two t.four
    have fin : ∀ b : Bool, (b = true ↔ Parted k) → b = !Nf01.prime k := fun b hb => by
      cases e : Nf01.prime k with
      | true =>
        cases b with
        | false => rfl
        | true => exact absurd (hb.mp rfl) (pi.mp e)
      | false =>
        cases b with
        | true => rfl
        | false =>
          have : ¬ Parted k := fun q => Bool.false_ne_true (hb.mpr q)
          rw [pi.mpr this] at e
          cases e
    refine ⟨_, rfl, p, k, rfl, ik, t, fun H1 b1 s1 h1 => ⟨b1, rfl, ?_⟩⟩
    cases b1 with
    | true =>
      refine iteT ?_
      have := fin true ⟨fun _ => .inl (h1.mp rfl), fun _ => rfl⟩
      show Q (.bl true) H1
      rw [this]
      exact kk H1 s1
    | false =>
      refine iteF ?_
      have noroot : ¬ ∃ z, Nf01.value (k ++ [1]) z = 0 := fun q => Bool.false_ne_true (h1.mpr q)
      refine ⟨_, rfl, p, _, rfl, .inl (ik.same s1).sq, rfl, _, rfl, ?_⟩
      rw [List.length_map]
      refine ite2 (fun e => ?_) (fun e => ?_)
      · have l4 : k.length = 4 := by
          have := V.int.inj (of_decide_eq_true e)
          omega
        match k, l4, ik, t, noroot, kk, fin with
        | [c0, c1, c2, c3], _, ik, t, noroot, kk, fin =>
          have c00 : c0 ≠ 0 := fun z => noroot ⟨0, zero_root t.two t.four z⟩
          refine ⟨_, rfl, p, c0, c1, c2, c3, rfl, ik.same s1, t, c00, fun H2 b2 s2 h2 => ?_⟩
          have := fin b2 ⟨fun q => .inr ⟨c0, c1, c2, c3, rfl, h2.mp q⟩, fun q => by
            rcases q with q | ⟨d0, d1, d2, d3, ed, q⟩
            · exact absurd q noroot
            · injection ed with e0 ed
              injection ed with e1 ed
              injection ed with e2 ed
              injection ed with e3 ed
              subst e0 e1 e2 e3
              exact h2.mpr q⟩
          rw [this]
          exact kk H2 (s1.trans s2)
      · have l4 : ¬ k.length = 4 := fun q => e (decide_eq_true (by rw [q]; rfl))
        have := fin false ⟨fun q => (Bool.false_ne_true q).elim, fun q => by
          rcases q with q | ⟨d0, d1, d2, d3, ed, q⟩
          · exact absurd q noroot
          · exact absurd (by rw [ed]; rfl) l4⟩
        show Q (.bl _) H1
        rw [this]
        exact kk H1 s1
end
/-! ### any of a list of whole numbers -/
theorem truth_ints {prog : Program} {w : World} {A : Around} {ns : List Int} {its : List Value} (hv : ∀ (i : Nat) (v : Value), its[i]? = some v → ∃ z t, ns[i]? = some z ∧ v = .int z t) :
    TruthOf prog w A (fun i v => its.toArray[i]? = some v) (fun i => ns.getD i 0 != 0) := fun i v s Q E h q => by
  have h' : its[i]? = some v := by simpa using h
  obtain ⟨z, t, hz, rfl⟩ := hv i v h'
  have e : ns.getD i 0 = z := by rw [List.getD_eq_getElem?_getD, hz]; rfl
  have q' : Q (ns.getD i 0 != 0) s := q
  rw [e] at q'
  exact PyProof.Rows.truthy_int q'
theorem any_ints : ∀ ns : List Int, (List.range ns.length).any (fun i => ns.getD i 0 != 0) = ns.any (· != 0)
  | [] => rfl
  | z :: ns => by
    rw [List.length_cons, List.range_succ_eq_map, List.any_cons, List.any_map, List.any_cons, ← any_ints ns]
    rfl
def rAnyI (K : PySem.W.Frag) : List V → Hp → VK → Prop := fun vs H Q => ∃ (a : Addr) (ns : List Int), vs = [V.ref a] ∧ SqL K H a (ns.map V.int) ∧ Q (.bl (ns.any (· != 0))) H
theorem cr_anyI {X : Cx} (hc : X.calm = true) : CallR X (.builtin "any") (rAnyI X.K) := by
  intro pins s σ H vs us Q I r h
  obtain ⟨a, ns, rfl, hs, q⟩ := h
  obtain ⟨its, rv, hl, _⟩ := I.list hs
  rw [Vals.ref1 r]
  have items : ∀ (i : Nat) (v : Value), its[i]? = some v → ∃ z t, ns[i]? = some z ∧ v = .int z t := fun i v hv => by
    have hlen := rv.length
    rw [List.length_map] at hlen
    have il : i < ns.length := by
      have := (List.getElem?_eq_some_iff.mp hv).1
      omega
    have gz : ns[i]? = some ns[i] := List.getElem?_eq_getElem il
    obtain ⟨u, hu, ru⟩ := Vals.get rv (ints_get gz)
    rw [hv] at hu
    cases hu
    obtain ⟨t, rfl⟩ := ru
    exact ⟨_, t, gz, rfl⟩
  have lens : its.length = ns.length := by have := rv.length; rw [List.length_map] at this; omega
  refine call_any_walk (iter_any hl.isList fun s2 e2 st hne => ?_)
  subst e2
  refine ⟨_, _, _, _, _, _, _, rfl, Walks.list (A := X.A.in1) (I.ok.hd hc) _ a hne its.toArray, st, truth_ints items, fun h' tk hk => ?_⟩
  refine ⟨.bl _, H, I.kept fun b o eo => hk b o (fun hm => ?_) (Heap.get?_push_of_some _ eo), ?_, q⟩
  · rcases List.mem_cons.mp hm with e1 | hm
    · rw [e1] at eo
      exact absurd (Heap.lt_size eo) (Nat.lt_irrefl _)
    · cases hm
  · show Value.bool _ = Value.bool _
    rw [List.size_toArray, lens, any_ints]
/-! ### a call of what an expression tells -/
def tCallE (S : Addr → Option L2.Sp) (tf : TE) (t : TA) : TE := fun σ H Q => tf σ H fun y H1 => ∃ f sp, y = V.ref f ∧ S f = some sp ∧ t σ H1 fun vs H2 => sp vs H2 Q (fun _ _ _ => False)
theorem pe_callE {X : Cx} {k : Nat} {fe e : Expr} {es : List Expr} {pos : Pos} {tf : TE} {t : TA} {S : Addr → Option L2.Sp} (hf : PE X fe tf) (A : ∀ f sp, S f = some sp → Held X.prog X.w X.K X.mg X.base k f sp) (hr : Room k X.A) (ha : PA X (e :: es) t)
    (ht : eval (.Call fe (e :: es) [] pos) X.env = (do callWith pos (← eval fe X.env) [] (backTo pos (starEach (e :: es) X.env)) (backToKw pos (keywordEach [] X.env))) := by rfl)
    (he : starEach (e :: es) X.env = (false, eval e X.env) :: starEach es X.env := by rfl) (hpl : (backTo pos (starEach es X.env)).any (·.1) = false := by rfl) : PE X (.Call fe (e :: es) [] pos) (tCallE S tf t) := by
  refine ⟨fun pins s σ H Q I h => ?_⟩
  refine Call_ (thn (hf.run pins s σ H _ I h) fun u s1 ⟨y, H1, I1, ry, f, sp, ey, hS, q⟩ => ?_) ht
  subst ey
  obtain rfl : u = Value.ref f := ry
  obtain ⟨fd, ps, F, kp, b⟩ := (A f sp hS).ex
  refine PySem.W.callWith_K (h₀ := X.base) I.ok.mod.kin kp (thn (ha.run pos pins s1 σ H1 _ I1 q) fun us s2 ⟨vs, H2, I2, r, q2⟩ => ⟨I2.kIn, ?_⟩) he hpl
  exact run_fn F hr b .nil (fun _ _ _ _ _ _ _ z => z.elim) I2 r (by rw [List.append_nil]; exact q2)
end Hnd
set_option Elab.async false
set_option linter.all false
set_option maxRecDepth 100000
set_option maxHeartbeats 2000000
/-! The reader. -/
namespace Hnd
open PySem PySem.Spec PyProof.Rows L2
open Idl hiding Sp F R E Top
open Nf02 (Vec)
abbrev sRdInit : Stmt := inClass (top 53) 0
abbrev sRdEnd : Stmt := inClass (top 53) 1
abbrev sRdNum : Stmt := inClass (top 53) 2
abbrev sRdList : Stmt := inClass (top 53) 3
theorem lk_here {k : Str} {v : V} {r : List (Str × V)} : List.lookup k ((k, v) :: r) = some v := by
  have e : (k == k) = true := beq_self_eq_true k
  simp only [List.lookup, e]
theorem lk_past {k g : Str} {v : V} {r : List (Str × V)} (h : (k == g) = false) : List.lookup k ((g, v) :: r) = List.lookup k r := by
  simp only [List.lookup, h]
theorem put_here {f : Str} {v x : V} {r : List (Str × V)} : putF f v ((f, x) :: r) = (f, v) :: r := if_pos rfl
theorem put_past {f g : Str} {v x : V} {r : List (Str × V)} (h : ¬ g = f) : putF f v ((g, x) :: r) = (g, x) :: putF f v r := if_neg h
/-- the reader's attributes -/
def rdF (a : Addr) (pos : Nat) : List (Str × V) := [("numbers", .ref a), ("position", .int (pos : Int))]
def RdAt (C : Addr) (H : Hp) (r a : Addr) (pos : Nat) : Prop := ∃ dx, H r = some (.ins C dx (rdF a pos))
theorem rd_numbers (a : Addr) (pos : Nat) : (rdF a pos).lookup ("numbers" : Str) = some (.ref a) := lk_here
theorem rd_position (a : Addr) (pos : Nat) : (rdF a pos).lookup ("position" : Str) = some (.int (pos : Int)) := (lk_past (by decide +kernel)).trans lk_here
theorem rd_put (a : Addr) (pos q : Nat) : putF "position" (.int (q : Int)) (rdF a pos) = rdF a q := (put_past (by decide +kernel)).trans (congrArg _ put_here)
theorem rd_new (a : Addr) : putF "position" (.int 0) (putF "numbers" (.ref a) []) = rdF a 0 := (put_past (by decide +kernel)).trans rfl
/-- all but the object at r stands -/
def But (r : Addr) (H H' : Hp) : Prop := ∀ b o, H b = some o → b ≠ r → H' b = some o
theorem But.trans {r : Addr} {H H1 H2 : Hp} (h : But r H H1) (k : But r H1 H2) : But r H H2 := fun b o e n => k b o (h b o e n) n
theorem Same.but {r : Addr} {H H1 : Hp} (h : Same H H1) : But r H H1 := fun b o e _ => h b o e
theorem But.upd {r : Addr} {H H1 : Hp} {o : HO} (h : But r H H1) : But r H (upd H1 r o) := fun b x e n => by
  rw [upd_ne n]
  exact h b x e n
theorem But.sq {K : PySem.W.Frag} {r : Addr} {H H1 : Hp} {a : Addr} {xs : List V} (h : But r H H1) (q : SqL K H a xs) (n : a ≠ r) : SqL K H1 a xs := by
  rcases q with (q | ⟨o, q⟩) | q
  · exact .inl (.inl (h _ _ q n))
  · exact .inl (.inr ⟨o, h _ _ q n⟩)
  · exact .inr q
/-- what the top has written of the class -/
structure TxtR (K : PySem.W.Frag) (mg : Str → Option Value) (C : Addr) : Prop where
  cl : Cls K C
  nN : NoAttr K C "numbers"
  nP : NoAttr K C "position"
section
variable {P : Program} {w : World} {K : PySem.W.Frag} {mg : Str → Option Value} {base : Heap} {C : Addr}
theorem scRdInit : FnScope ["self", "numbers"] ["self", "numbers"] (defScope sRdInit) := ⟨rfl, rfl, rfl, by decide +kernel, rfl, by decide +kernel, by decide +kernel⟩
def spRdInit (C : Addr) : L2.Sp := fun vs H Q _ => ∃ (p dx a : Addr), vs = [.ref p, .ref a] ∧ H p = some (.ins C dx []) ∧ ∀ H', RdAt C H' p a 0 → But p H H' → Q .non H'
theorem ok_rdInit {f : Addr} {fd : FuncData} (F : Fun K "__init__" "Reader.__init__" sRdInit f fd) (T : TxtR K mg C) : FnOk P w K mg base CX0 1 f fd ["self", "numbers"] (spRdInit C) := by
  refine F.ok scRdInit (fun vs H Q E h => ?_) (fun cdv A outer s H vs Q E hr h => ?_)
  · obtain ⟨p, dx, a, rfl, _⟩ := h
    rfl
  · obtain ⟨p, dx, a, rfl, hp, kk⟩ := h
    refine ⟨_, pss_cons (ps_fld (pv 0) (pv 1) rfl) (pss_one (ps_fld (pv 0) pe_int rfl)), ?_⟩
    refine ⟨_, rfl, _, rfl, p, C, dx, [], rfl, hp, T.cl, T.nN, (by show 0 < 1000; decide), ?_⟩
    refine ⟨_, rfl, p, C, dx, _, rfl, upd_same, T.cl, T.nP, (by show 1 < 1000; decide), ?_⟩
    exact kk _ ⟨dx, Eq.trans upd_same (congrArg (fun q => some (HO.ins C dx q)) (rd_new a))⟩ (But.upd (But.upd fun b o e _ => e))
/-- a list that the top has written -/
def KL (K : PySem.W.Frag) (a : Addr) (xs : List V) : Prop := ∃ (o : Obj) (its : Array Value) (n : Nat), K.lookup a = some o ∧ o.cls = .type "list" ∧ o.dict = none ∧ o.data = .seq its n ∧ its.size ≤ sizeLine ∧ Vals xs its.toList
/-- what is handed in -/
def Req (K : PySem.W.Frag) (H : Hp) (a : Addr) (xs : List V) : Prop := (∃ o, H a = some (.frz o (.lst xs))) ∨ KL K a xs
theorem Req.sq {K : PySem.W.Frag} {H : Hp} {a : Addr} {xs : List V} (q : Req K H a xs) : SqL K H a xs := by
  rcases q with q | q
  · exact .inl (.inr q)
  · exact .inr q
theorem Req.keep {K : PySem.W.Frag} {H H1 : Hp} {a : Addr} {xs : List V} (q : Req K H a xs) (h : ∀ o u, H a = some (.frz o u) → H1 a = some (.frz o u)) : Req K H1 a xs := by
  rcases q with ⟨o, q⟩ | q
  · exact .inl ⟨o, h _ _ q⟩
  · exact .inr q
theorem Req.but {K : PySem.W.Frag} {r : Addr} {H H1 : Hp} {a : Addr} {xs : List V} {x : HO} (h : But r H H1) (q : Req K H a xs) (e : H r = some x) (hx : ∀ o u, x ≠ .frz o u) : Req K H1 a xs := q.keep fun o u z => h _ _ z fun g => by
  rw [g, e] at z
  exact hx o u (Option.some.inj z)
/-- the reader over the numbers ns -/
structure Rdr (K : PySem.W.Frag) (C : Addr) (H : Hp) (r a : Addr) (ns : List Int) (pos : Nat) : Prop where
  at_ : RdAt C H r a pos
  sq : Req K H a (ns.map V.int)
  le : pos ≤ ns.length
theorem scRdEnd : FnScope ["self"] ["self"] (defScope sRdEnd) := ⟨rfl, rfl, rfl, by decide +kernel, rfl, by decide +kernel, by decide +kernel⟩
def spRdEnd (K : PySem.W.Frag) (C : Addr) : L2.Sp := fun vs H Q _ => ∃ (r a : Addr) (ns : List Int) (pos : Nat), vs = [.ref r] ∧ Rdr K C H r a ns pos ∧ Q (.bl (decide (pos = ns.length))) H
theorem ok_rdEnd {f : Addr} {fd : FuncData} (F : Fun K "is_at_end" "Reader.is_at_end" sRdEnd f fd) (T : TxtR K mg C) (ml : mg "len" = none) : FnOk P w K mg base CX0 1 f fd ["self"] (spRdEnd K C) := by
  refine F.ok scRdEnd (fun vs H Q E h => ?_) (fun cdv A outer s H vs Q E hr h => ?_)
  · obtain ⟨r, a, ns, pos, rfl, _⟩ := h
    rfl
  · obtain ⟨r, a, ns, pos, rfl, ⟨⟨dx, hr0⟩, hs, hle⟩, kk⟩ := h
    refine ⟨_, pss_one (ps_ret (pe_cmpR op_eq (pe_fld (pv 0) rfl) (pe_callB call_len_seq (by rfl) ml PySem.boot_len (pa_cons (pe_fld (pv 0) rfl) pa_nil)) (nomark _))), ?_⟩
    refine ⟨_, rfl, r, C, dx, _, _, rfl, hr0, T.cl, T.nP, rd_position a pos, _, rfl, r, C, dx, _, _, rfl, hr0, T.cl, T.nN, rd_numbers a pos, a, _, rfl, .inl hs.sq, rfl, ?_⟩
    have e : (decide (V.int (pos : Int) = V.int ((ns.map V.int).length : Int))) = decide (pos = ns.length) := by
      rw [List.length_map]
      by_cases c : pos = ns.length
      · rw [decide_eq_true c, decide_eq_true (by rw [c])]
      · rw [decide_eq_false c, decide_eq_false (fun q => c (by have := V.int.inj q; omega))]
    rw [e]
    exact kk
theorem scRdNum : FnScope ["self", "number"] ["self"] (defScope sRdNum) := ⟨rfl, rfl, rfl, by decide +kernel, rfl, by decide +kernel, by decide +kernel⟩
def spRdNum (K : PySem.W.Frag) (C : Addr) : L2.Sp := fun vs H Q _ => ∃ (r a : Addr) (ns : List Int) (pos : Nat) (z : Int), vs = [.ref r] ∧ Rdr K C H r a ns pos ∧ ns[pos]? = some z ∧ ∀ H', Rdr K C H' r a ns (pos + 1) → But r H H' → Q (.int z) H'
theorem ok_rdNum {f : Addr} {fd : FuncData} (F : Fun K "take_number" "Reader.take_number" sRdNum f fd) (T : TxtR K mg C) : FnOk P w K mg base CX0 1 f fd ["self"] (spRdNum K C) := by
  refine F.ok scRdNum (fun vs H Q E h => ?_) (fun cdv A outer s H vs Q E hr h => ?_)
  · obtain ⟨r, a, ns, pos, z, rfl, _⟩ := h
    rfl
  · obtain ⟨r, a, ns, pos, z, rfl, ⟨⟨dx, hr0⟩, hs, hle⟩, hz, kk⟩ := h
    refine ⟨_, pss_cons (ps_set (i := 1) scRdNum.nd rfl (.inl rfl) (pe_ix ix_list (pe_fld (pv 0) rfl) (pe_fld (pv 0) rfl) (fun _ _ => rfl)))
      (pss_cons (ps_fld (pv 0) (pe_op op_add (pe_fld (pv 0) rfl) pe_int) rfl)
      (pss_one (ps_ret (pv 1)))), ?_⟩
    have il : pos < ns.length := (List.getElem?_eq_some_iff.mp hz).1
    refine ⟨_, rfl, r, C, dx, _, _, rfl, hr0, T.cl, T.nN, rd_numbers a pos, _, rfl, r, C, dx, _, _, rfl, hr0, T.cl, T.nP, rd_position a pos, a, _, _, _, rfl, rfl, hs.sq, ints_at hz, ?_⟩
    refine ⟨_, rfl, r, C, dx, _, _, rfl, hr0, T.cl, T.nP, rd_position a pos, _, _, rfl, rfl, _, rfl, r, C, dx, _, rfl, hr0, T.cl, T.nP, (by show 2 < 1000; decide), ?_⟩
    have e : putF "position" (V.int ((pos : Int) + 1)) (rdF a pos) = rdF a (pos + 1) := by
      have := rd_put a pos (pos + 1)
      rw [← this]; rfl
    refine ⟨_, rfl, kk _ ⟨⟨dx, Eq.trans upd_same (congrArg (fun q => some (HO.ins C dx q)) e)⟩, ?_, by omega⟩ (But.upd fun b o e _ => e)⟩
    exact Req.but (But.upd fun b o e _ => e) hs hr0 (by intro o u z; cases z)
theorem scRdList : FnScope ["self", "start"] ["self"] (defScope sRdList) := ⟨rfl, rfl, rfl, by decide +kernel, rfl, by decide +kernel, by decide +kernel⟩
theorem cut_mid (xs : List V) (i j : Nat) (hi : i ≤ xs.length) (hj : i + j ≤ xs.length) : cutV xs (some (i : Int)) (some ((i + j : Nat) : Int)) = (xs.drop i).take j := by
  unfold cutV
  rw [show HT.sIx xs.length 0 (some (i : Int)) = min i xs.length from HT.sIx_nat _ _ _, show HT.sIx xs.length xs.length (some ((i + j : Nat) : Int)) = min (i + j) xs.length from HT.sIx_nat _ _ _, Nat.min_eq_left hi, Nat.min_eq_left hj]
  congr 1
  omega
def spRdList (K : PySem.W.Frag) (C : Addr) : L2.Sp := fun vs H Q _ => ∃ (r a : Addr) (ns : List Int) (pos m : Nat), vs = [.ref r] ∧ Rdr K C H r a ns pos ∧ ns[pos]? = some (m : Int) ∧ pos + 1 + m ≤ ns.length ∧
  ∀ H' p, Rdr K C H' r a ns (pos + 1 + m) → But r H H' → H p = none → IA H' p ((ns.drop (pos + 1)).take m) → Q (.ref p) H'
theorem ok_rdList {f : Addr} {fd : FuncData} (F : Fun K "take_list" "Reader.take_list" sRdList f fd) (T : TxtR K mg C) : FnOk P w K mg base CX0 1 f fd ["self"] (spRdList K C) := by
  refine F.ok scRdList (fun vs H Q E h => ?_) (fun cdv A outer s H vs Q E hr h => ?_)
  · obtain ⟨r, a, ns, pos, m, rfl, _⟩ := h
    rfl
  · obtain ⟨r, a, ns, pos, m, rfl, ⟨⟨dx, hr0⟩, hs, hle⟩, hz, hm, kk⟩ := h
    refine ⟨_, pss_cons (ps_set (i := 1) scRdList.nd rfl (.inl rfl) (pe_op op_add (pe_fld (pv 0) rfl) pe_int))
      (pss_cons (ps_fld (pv 0) (pe_op op_add (pv 1) (pe_ix ix_list (pe_fld (pv 0) rfl) (pe_fld (pv 0) rfl) (fun _ _ => rfl))) rfl)
      (pss_one (ps_ret (pe_slice sl_list (pe_fld (pv 0) rfl) (po_some (pv 1)) (po_some (pe_fld (pv 0) rfl)))))), ?_⟩
    refine ⟨_, rfl, r, C, dx, _, _, rfl, hr0, T.cl, T.nP, rd_position a pos, _, _, rfl, rfl, ?_⟩
    refine ⟨_, rfl, _, rfl, r, C, dx, _, _, rfl, hr0, T.cl, T.nN, rd_numbers a pos, _, rfl, r, C, dx, _, _, rfl, hr0, T.cl, T.nP, rd_position a pos, a, _, _, _, rfl, rfl, hs.sq, ints_at hz, _, _, rfl, rfl, _, rfl, r, C, dx, _, rfl, hr0, T.cl, T.nP, (by show 2 < 1000; decide), ?_⟩
    have e : putF "position" (V.int ((pos : Int) + 1 + (m : Int))) (rdF a pos) = rdF a (pos + 1 + m) := by
      have := rd_put a pos (pos + 1 + m)
      rw [← this]; rfl
    have at1 : upd H r (.ins C dx (putF "position" (V.int ((pos : Int) + 1 + (m : Int))) (rdF a pos))) r = some (.ins C dx (rdF a (pos + 1 + m))) := Eq.trans upd_same (congrArg (fun q => some (HO.ins C dx q)) e)
    have b1 : But r H (upd H r (.ins C dx (putF "position" (V.int ((pos : Int) + 1 + (m : Int))) (rdF a pos)))) := But.upd fun b o e _ => e
    have sq1 := Req.but b1 hs hr0 (by intro o u z; cases z)
    refine ⟨_, rfl, r, C, dx, _, _, rfl, at1, T.cl, T.nN, rd_numbers a _, _, rfl, _, rfl, _, rfl, r, C, dx, _, _, rfl, at1, T.cl, T.nP, rd_position a _, _, rfl, a, _, rfl, sq1.sq, fun p np => ?_⟩
    have cu : cutV (ns.map V.int) (some ((pos : Int) + 1)) (some ((pos + 1 + m : Nat) : Int)) = ((ns.drop (pos + 1)).take m).map V.int := by
      have := cut_mid (ns.map V.int) (pos + 1) m (by rw [List.length_map]; omega) (by rw [List.length_map]; omega)
      rw [List.map_take, List.map_drop, ← this]; rfl
    rw [cu]
    have s2 := same_upd (o := .lst (((ns.drop (pos + 1)).take m).map V.int)) np
    refine kk _ p ⟨⟨dx, s2 _ _ at1⟩, sq1.keep fun o u z => s2 _ _ z, hm⟩ (b1.trans (Same.but s2)) ?_ upd_same
    have pr : p ≠ r := fun z => by rw [z, upd_same] at np; cases np
    rwa [upd_ne pr] at np
end
end Hnd
set_option Elab.async false
set_option linter.all false
set_option maxRecDepth 100000
set_option maxHeartbeats 2000000
/-! is_sum_of, numbers_below. -/
namespace Hnd
open PySem PySem.Spec PyProof.Rows L2
open Idl hiding Sp F R E Top
open Nf02 (Vec)
abbrev sIsSum : Stmt := top 9
abbrev sBelow : Stmt := top 11
theorem smallM {n : Nat} (h : n ≤ 16000000) : n < sizeLine := Nat.lt_of_le_of_lt h (by decide)
section
variable {P : Program} {w : World} {K : PySem.W.Frag} {mg : Str → Option Value} {base : Heap}
/-! ### is_sum_of -/
theorem scIsSum : FnScope ["rows", "number"] ["rows", "number"] (defScope sIsSum) := ⟨rfl, rfl, rfl, by decide +kernel, rfl, by decide +kernel, by decide +kernel⟩
/-- rows from which numbers may be taken away -/
structure Away (n : Nat) (rs : List Vec) : Prop where
  lens : Lens n rs
  le : rs.length ≤ n
  n8 : n ≤ 8
  pos : ∀ i, i < rs.length → 0 < Idl.R rs i i
  bd : Bd (2 ^ LIM) rs
def spIsSum : L2.Sp := fun vs H Q _ => ∃ (p q : Addr) (as : List Addr) (rs : List Vec) (v : Vec) (n : Nat), vs = [.ref p, .ref q] ∧ RA H p as rs ∧ IA H q v ∧ Away n rs ∧ v.length = n ∧ (∀ j, (Idl.F v j).natAbs ≤ 2 ^ LIM) ∧
  ∀ H', Same H H' → Q (.bl (Nf02.has rs v)) H'
theorem has_any (rs : List Vec) (v : Vec) : (!(Nf02.rest rs v).any (· != 0)) = Nf02.has rs v := by
  unfold Nf02.has
  rw [Bool.eq_iff_iff]
  simp
theorem ok_isSum (D : Df K mg "is_sum_of" sIsSum ["rows", "number"]) (cL : Ok P w K mg base 40 "lessened" pLessened spLessened) (ml : mg "len" = none) (ma : mg "any" = none) : Ok P w K mg base 41 "is_sum_of" ["rows", "number"] spIsSum := D.ok fun f fd F => by
  refine F.ok scIsSum (fun vs H Q E h => ?_) (fun cdv A outer s H vs Q E hr h => ?_)
  · obtain ⟨p, q, as, rs, v, n, rfl, _⟩ := h
    rfl
  · obtain ⟨p, q, as, rs, v, n, rfl, hR, iv, aw, lv, bv, kk⟩ := h
    refine ⟨_, pss_one (ps_ret (pe_not (pe_callB (cr_anyI rfl) (by rfl) ma (by decide +kernel) (pa_cons (pe_f cL hr (by decide) (by rfl) (pa_cons (pv 1) (pa_cons (pe_callB call_len_seq (by rfl) ml PySem.boot_len (pa_cons (pv 0) pa_nil)) (pa_cons (pv 0) pa_nil)))) pa_nil)))), ?_⟩
    refine ⟨_, rfl, _, rfl, p, _, rfl, .inl hR.sq, _, rfl, q, p, as, rs, v, n, rs.length, ?_, iv, hR, rfl, aw.lens, lv, aw.le, aw.n8, aw.pos, bv, aw.bd, fun H1 t s1 it fr => ?_⟩
    · rw [List.length_map, paired_len hR.all]; rfl
    · refine ⟨t, _, rfl, it.sq, _, rfl, ?_⟩
      rw [has_any]
      exact kk H1 s1
/-! ### numbers_below -/
abbrev nBelow : List Str := ["limits", "numbers", "limit", "longer", "number", "place"]
theorem scBelow : FnScope nBelow ["limits"] (defScope sBelow) := ⟨rfl, rfl, rfl, by decide +kernel, rfl, by decide +kernel, by decide +kernel⟩
def oneMore (m : Nat) (v : Vec) : List Vec := (List.range m).map fun (i : Nat) => v ++ [(i : Int)]
def belowTo (l : List Nat) (i : Nat) : List Vec := (l.take i).foldl (fun ns m => ns.flatMap (oneMore m)) [[]]
theorem belowTo_eq (l : List Nat) (i : Nat) : belowTo l i = below (l.take i) := belowP_eq (l.take i)
theorem belowTo_more {l : List Nat} {i m : Nat} (h : l[i]? = some m) : belowTo l (i + 1) = (belowTo l i).flatMap (oneMore m) := by
  unfold belowTo
  rw [take_one_more h, List.foldl_append]; rfl
theorem len_belowTo {l : List Nat} {B : Nat} (hp : ∀ d ∈ l, 0 < d) (hB : l.foldr (· * ·) 1 ≤ B) (i : Nat) : (belowTo l i).length ≤ B := by
  rw [belowTo_eq, len_below]
  exact Nat.le_trans (prod_take l i hp) hB
theorem len_oneMore (m : Nat) (v : Vec) : (oneMore m v).length = m := by simp [oneMore]
theorem oneMore_pos {m : Nat} {v x : Vec} (h : x ∈ oneMore m v) : 0 < x.length := by
  obtain ⟨i, _, rfl⟩ := List.mem_map.mp h
  simp
theorem flat_more {α β : Type} {f : α → List β} {l : List α} {i : Nat} {v : α} (h : l[i]? = some v) : (l.take (i + 1)).flatMap f = (l.take i).flatMap f ++ f v := by
  rw [take_one_more h, List.flatMap_append]
  simp
theorem len_flat_take {α β : Type} (f : α → List β) : ∀ (l : List α) (i : Nat), ((l.take i).flatMap f).length ≤ (l.flatMap f).length
  | [], i => by simp
  | x :: l, 0 => by simp
  | x :: l, i + 1 => by
    rw [List.take_succ_cons, List.flatMap_cons, List.flatMap_cons, List.length_append, List.length_append]
    have := len_flat_take f l i
    omega
def natsI (l : List Nat) : Vec := l.map fun (d : Nat) => (d : Int)
def spBelow : L2.Sp := fun vs H Q _ => ∃ (p : Addr) (l : List Nat), vs = [.ref p] ∧ IA H p (natsI l) ∧ (∀ d ∈ l, 0 < d) ∧ l.length ≤ 100 ∧ l.foldr (· * ·) 1 ≤ 1000 ∧
  ∀ H' r as, Same H H' → H r = none → RA H' r as (below l) → From H [] as → Q (.ref r) H'
theorem ok_below (D : Df K mg "numbers_below" sBelow ["limits"]) (mr : mg "range" = none) : Ok P w K mg base 1 "numbers_below" ["limits"] spBelow := D.ok fun f fd F => by
  refine F.ok scBelow (fun vs H Q E h => ?_) (fun cdv A outer s H vs Q E hr h => ?_)
  · obtain ⟨p, l, rfl, _⟩ := h
    rfl
  · obtain ⟨p, l, rfl, il, hp, l100, hB, kk⟩ := h
    refine ⟨_, pss_cons (ps_set (i := 1) scBelow.nd rfl (.inl rfl) (pe_lst (pa_cons (pe_lst pa_nil) pa_nil)))
      (pss_cons (ps_for PassesOwn.never rfl (pi_list (pv 0)) (pg_name (i := 2) scBelow.nd rfl (.inl rfl))
        (pss_cons (ps_set (i := 3) scBelow.nd rfl (.inl rfl) (pe_lst pa_nil))
        (pss_cons (ps_for PassesOwn.never rfl (pi_list (pv 1)) (pg_name (i := 4) scBelow.nd rfl (.inr rfl))
          (pss_one (ps_expr (pe_bm PySem.F.plainAttrs_list PySem.F.slot_list_extend PySem.F.type_list_extend mt_extend (pv 3) (pa_cons
            (pe_lc (own := [("place", 5)]) (g := gName 5) (tt := tYes) rfl scBelow.nd (pi_range1 (by rfl) mr (pa_cons (pv 2) pa_nil)) (blkOk_by (N := nBelow) (sc := defScope sBelow) (by decide +kernel))
              (fun _ _ _ _ _ => pg_name (i := 5) scBelow.nd rfl (.inl rfl)) (fun _ _ _ _ _ => pts_nil)
              (fun _ _ _ _ _ => pe_op op_cat (pv 4) (pe_lst (pa_cons (pv 5) pa_nil)))) pa_nil)))))
        (pss_one (ps_set (i := 1) scBelow.nd rfl (.inl rfl) (pv 3))))))
      (pss_one (ps_ret (pv 1)))), ?_⟩
    refine ⟨Nat.zero_le _, fun c nc => ?_⟩
    have s1 := same_upd (o := .lst []) nc
    refine ⟨(by show 1 ≤ sizeLine; decide), fun o no => ?_⟩
    have s2 := same_upd (o := .lst [.ref c]) no
    have s12 := s1.trans s2
    have co : c ≠ o := ne_of_none upd_same no
    refine ⟨_, rfl, p, rfl, ⟨_, (il.same s12).sq⟩, for_list (K := K) (a := p) (xs := (natsI l).map V.int) (fun i σ H' => ∃ (q : Addr) (as : List Addr) (x y z : Option V), σ = [some (.ref p), some (.ref q), x, y, z, none] ∧ Same H H' ∧ H q = none ∧ RA H' q as (belowTo l i) ∧ From H [] as) ?_ ?_ ?_ ?_⟩
    · refine ⟨o, [c], none, none, none, rfl, s12, s1.free no, ⟨upd_same, .cons ?_ .nil⟩, fun z hz => .inl ?_⟩
      · unfold IA
        rw [upd_ne co, upd_same]; rfl
      · rw [List.mem_singleton.mp hz]; exact nc
    · rintro i σ H1 _ ⟨_, _, _, _, _, _, s3, _⟩
      exact (il.same s3).sq
    · rintro i x σ H1 hx ⟨q, as, x0, y0, z0, rfl, s3, nq, hq, fq⟩
      obtain ⟨xi, hxi, rfl⟩ := get_ints hx
      obtain ⟨m, gm, rfl⟩ : ∃ m, l[i]? = some m ∧ xi = (m : Int) := by
        unfold natsI at hxi
        rw [List.getElem?_map] at hxi
        cases e : l[i]? with
        | none => rw [e] at hxi; cases hxi
        | some m => rw [e] at hxi; exact ⟨m, rfl, (Option.some.inj hxi).symm⟩
      have mpos := hp m (List.mem_of_getElem? gm)
      have ltot : ((belowTo l i).flatMap (oneMore m)).length ≤ 1000 := by rw [← belowTo_more gm]; exact len_belowTo hp hB _
      have las : as.length = (belowTo l i).length := paired_len hq.all
      refine ⟨Nat.zero_le _, fun g ng => ?_⟩
      have s4 := same_upd (o := .lst []) ng
      have gq : q ≠ g := ne_of_none hq.at_ ng
      have hg : H g = none := s3.free ng
      refine ⟨_, rfl, q, rfl, ⟨_, (hq.same s4).sq⟩, for_list (K := K) (a := q) (xs := as.map V.ref) (fun j σ H' => ∃ (bs : List Addr) (z : Option V), σ = [some (.ref p), some (.ref q), some (.int (m : Int)), some (.ref g), z, none] ∧ Same H1 H' ∧ RA H' g bs (((belowTo l i).take j).flatMap (oneMore m)) ∧ From H1 [] bs) ?_ ?_ ?_ ?_⟩
      · exact ⟨[], z0, rfl, s4, ⟨upd_same, .nil⟩, fun z hz => by simp at hz⟩
      · rintro j σ H2 _ ⟨_, _, _, s5, _⟩
        exact (hq.same s5).sq
      · rintro j x σ H2 hx2 ⟨bs, z, rfl, s5, hb, fb⟩
        obtain ⟨na, gn, rfl⟩ := get_refs hx2
        obtain ⟨v, gv, iv⟩ := paired_at' hq.all gn
        have m1000 : m ≤ 1000 := by
          have h1 : (oneMore m v).length ≤ ((belowTo l i).flatMap (oneMore m)).length := by
            have := len_flat_take (oneMore m) (belowTo l i) (j + 1)
            rw [flat_more gv, List.length_append] at this
            omega
          rw [len_oneMore] at h1
          omega
        have lb : bs.length + m ≤ 1000 := by
          have := len_flat_take (oneMore m) (belowTo l i) (j + 1)
          rw [flat_more gv, List.length_append, len_oneMore, ← paired_len hb.all] at this
          omega
        have lv : v.length ≤ 100 := by
          have : v ∈ belowTo l i := List.mem_of_getElem? gv
          rw [belowTo_eq] at this
          have := (mem_below.mp this).1
          rw [List.length_take] at this
          omega
        refine ⟨_, rfl, .inl ⟨rfl, _, hb.sq⟩, _, rfl, (m : Int), rfl, by omega, by omega, fun D nD => ?_⟩
        rw [Int.toNat_natCast]
        refine lc_range (lo := 0) (n := m) (fun t H' => ∃ es : List Addr, Same H2 H' ∧ RA H' D es ((oneMore m v).take t) ∧ From H2 [] es) ⟨[], same_upd nD, ⟨upd_same, .nil⟩, fun z hz => by simp at hz⟩ ?_ ?_
        · rintro t H3 ht ⟨es, s6, he, fe⟩
          have gk : (oneMore m v)[t]? = some (v ++ [(t : Int)]) := by
            unfold oneMore
            rw [List.getElem?_map, List.getElem?_range ht]; rfl
          refine ⟨rfl, yes_ (iteT ?_)⟩
          rw [Int.zero_add]
          refine ⟨_, rfl, _, rfl, (by show 1 ≤ sizeLine; decide), fun e ne => ?_⟩
          have s7 := same_upd (o := .lst [.int (t : Int)]) ne
          refine ⟨na, e, v.map V.int, [.int (t : Int)], rfl, rfl, ((iv.same s5).same s6).same s7, upd_same, ?_, fun c2 nc2 => ?_⟩
          · rw [List.length_map]
            exact Nat.le_of_lt (small1000 (by show v.length + 1 ≤ 1000; omega))
          · have s8 := same_upd (o := .lst (v.map V.int ++ [V.int (t : Int)])) nc2
            have he8 := (he.same s7).same s8
            have Dc : c2 ≠ D := fun q => by
              have := (he.same s7).at_
              rw [← q, nc2] at this; cases this
            refine ⟨_, he8.at_, ?_, es ++ [c2], same_grow ((s6.trans s7).trans s8) nD, ⟨by rw [upd_same, List.map_append]; rfl, ?_⟩, fun z hz => ?_⟩
            · rw [List.length_map, paired_len he.all, List.length_take]
              exact Nat.lt_of_le_of_lt (Nat.min_le_left _ _) (small1000 (by omega))
            · rw [take_one_more gk]
              refine Paired.snoc (paired_upd he8.at_ he8.all fun x hx => oneMore_pos (List.mem_of_mem_take hx)) ?_
              unfold IA
              rw [upd_ne Dc, upd_same, List.map_append]; rfl
            · rcases List.mem_append.mp hz with q | q
              · exact fe z q
              · rw [List.mem_singleton.mp q]; exact .inl ((s6.trans s7).free nc2)
        · rintro H3 ⟨es, s6, he, fe⟩
          rw [List.take_of_length_le (by rw [len_oneMore]; exact Nat.le_refl _)] at he
          have hb3 := hb.same s6
          refine ⟨g, D, _, _, rfl, rfl, hb3.at_, he.at_, ?_, ?_⟩
          · rw [List.length_map, List.length_map, paired_len he.all, len_oneMore]
            exact Nat.le_of_lt (small1000 lb)
          · refine ⟨bs ++ es, _, rfl, same_grow (s5.trans s6) ng, ⟨by rw [upd_same, List.map_append], ?_⟩, fun z hz => ?_⟩
            · rw [flat_more gv]
              refine paired_app (paired_upd hb3.at_ hb3.all fun x hx => ?_) (paired_upd hb3.at_ he.all fun x hx => oneMore_pos hx)
              obtain ⟨y, _, hx⟩ := List.mem_flatMap.mp hx
              exact oneMore_pos hx
            · rcases List.mem_append.mp hz with q | q
              · exact fb z q
              · rcases fe z q with r | r
                · exact .inl (s5.free r)
                · simp at r
      · rintro σ H2 ⟨bs, z, rfl, s5, hb, fb⟩
        rw [List.length_map, las, List.take_length] at hb
        refine ⟨_, rfl, g, bs, _, _, _, rfl, s3.trans s5, hg, ?_, fun z hz => ?_⟩
        · rw [belowTo_more gm]; exact hb
        · rcases fb z hz with r | r
          · exact .inl (s3.free r)
          · simp at r
    · rintro σ H1 ⟨q, as, x0, y0, z0, rfl, s3, nq, hq, fq⟩
      have e : belowTo l ((natsI l).map V.int).length = below l := by
        rw [belowTo_eq]
        congr 1
        rw [List.length_map]
        unfold natsI
        rw [List.length_map, List.take_length]
      rw [e] at hq
      exact ⟨_, rfl, kk H1 q as s3 nq hq fq⟩
end
end Hnd
set_option Elab.async false
set_option linter.all false
set_option maxRecDepth 100000
set_option maxHeartbeats 2000000
/-! has, is_made_of, holds, is_prime. -/
namespace Hnd
open PySem PySem.Spec PyProof.Rows L2
open Idl hiding Sp F R E Top
open Nf02 (Vec)
abbrev sHas : Stmt := top 21
abbrev sIsMade : Stmt := top 22
abbrev sHolds : Stmt := top 23
abbrev sPrime : Stmt := top 24
/-! ### lists of lists as data -/
def dV (v : Vec) : PyData := .list (v.map PyData.int)
def dR (a : List Vec) : PyData := .list (a.map dV)
theorem dpV {K : PySem.W.Frag} {H : Hp} : ∀ v : Vec, DpAll K H (v.map V.int) (v.map PyData.int)
  | [] => .nil
  | x :: v => .cons (.int x) (dpV v)
theorem dpRs {K : PySem.W.Frag} {H : Hp} : ∀ {as : List Addr} {a : List Vec}, Paired (IA H) as a → DpAll K H (as.map V.ref) (a.map dV)
  | _, _, .nil => .nil
  | _, _, .cons g t => .cons (.lst (SqL.of g) (dpV _)) (dpRs t)
theorem RA.dp {K : PySem.W.Frag} {H : Hp} {p : Addr} {as : List Addr} {a : List Vec} (h : RA H p as a) : Dp K H (.ref p) (dR a) := .lst h.sq (dpRs h.all)
theorem lay_ints : ∀ v : Vec, PyData.canLayAll0 (v.map PyData.int) = true
  | [] => rfl
  | x :: v => by
    show (PyData.canLay0 (.int x) && PyData.canLayAll0 (v.map PyData.int)) = true
    rw [lay_ints v]; rfl
theorem lay_rows : ∀ a : List Vec, PyData.canLayAll0 (a.map dV) = true
  | [] => rfl
  | x :: a => by
    show (PyData.canLayAll0 (x.map PyData.int) && PyData.canLayAll0 (a.map dV)) = true
    rw [lay_rows a, lay_ints]; rfl
theorem depth_ints : ∀ v : Vec, PyData.depthAll (v.map PyData.int) = 0
  | [] => rfl
  | x :: v => by
    show max 0 (PyData.depthAll (v.map PyData.int)) = 0
    rw [depth_ints v]; rfl
theorem depth_rows : ∀ a : List Vec, PyData.depthAll (a.map dV) ≤ 1
  | [] => Nat.zero_le _
  | x :: a => by
    show max (PyData.depthAll (x.map PyData.int) + 1) (PyData.depthAll (a.map dV)) ≤ 1
    rw [depth_ints]
    have := depth_rows a
    omega
theorem shaped_rows (a : List Vec) : SeqAt.shaped (dR a) = true := by
  show (PyData.canLayAll0 (a.map dV) && decide (PyData.depthAll (a.map dV) + 1 ≤ 64)) = true
  rw [lay_rows]
  have := depth_rows a
  rw [Bool.true_and]
  exact decide_eq_true (by omega)
theorem eqv_ints : ∀ v w : Vec, PyData.eqvAll (v.map PyData.int) (w.map PyData.int) = decide (v = w)
  | [], [] => rfl
  | [], _ :: _ => rfl
  | _ :: _, [] => rfl
  | x :: v, y :: w => by
    show ((x == y) && PyData.eqvAll (v.map PyData.int) (w.map PyData.int)) = _
    rw [eqv_ints v w, Bool.eq_iff_iff]
    simp
theorem eqv_rows : ∀ a b : List Vec, PyData.eqvAll (a.map dV) (b.map dV) = decide (a = b)
  | [], [] => rfl
  | [], _ :: _ => rfl
  | _ :: _, [] => rfl
  | x :: a, y :: b => by
    show (PyData.eqvAll (x.map PyData.int) (y.map PyData.int) && PyData.eqvAll (a.map dV) (b.map dV)) = _
    rw [eqv_rows a b, eqv_ints, Bool.eq_iff_iff]
    simp
section
variable {P : Program} {w : World} {K : PySem.W.Frag} {mg : Str → Option Value} {base : Heap}
/-- a ring, an ideal of it, a number's places -/
structure Num (H : Hp) (p q r : Addr) (as : List Addr) (k : Vec) (a : List Vec) (v : Vec) : Prop where
  ik : IA H p k
  ra : RA H q as a
  iv : IA H r v
  ring : Ring k
  ia : Ideal k a
  sa : Small a
  lv : v.length = k.length
  bv : ∀ x ∈ v, x.natAbs ≤ 100
theorem small_lim {a : List Vec} (h : Small a) : Bd (2 ^ LIM) a := h.mono (Nat.le_trans (show TOPN ≤ 2 ^ 100 by decide) (Nat.pow_le_pow_right (by decide) (by unfold LIM; decide)))
theorem away {k : Vec} {a : List Vec} (hr : Ring k) (ia : Ideal k a) (sa : Small a) : Away k.length a :=
  ⟨ia.rows.lens, by rw [ia.rows.len]; exact Nat.le_refl _, Ring.le8 hr, fun i hi => ia.rows.hnf.pos i (by rw [← ia.rows.len]; exact hi), small_lim sa⟩
theorem le_lim {x b : Nat} (h : x ≤ 2 ^ b) (hb : b ≤ 100) : x ≤ 2 ^ LIM := Nat.le_trans h (Nat.pow_le_pow_right (by decide) (Nat.le_trans hb (by unfold LIM; decide)))
def spIsSo (m : Vec → List Vec → Vec → Bool) : L2.Sp := fun vs H Q _ => ∃ (p q r : Addr) (as : List Addr) (k : Vec) (a : List Vec) (v : Vec), vs = [.ref p, .ref q, .ref r] ∧ Num H p q r as k a v ∧ ∀ H', Same H H' → Q (.bl (m k a v)) H'
abbrev pIsSo : List Str := ["coefficients", "rows", "number"]
/-! ### has -/
theorem scHas : FnScope pIsSo pIsSo (defScope sHas) := ⟨rfl, rfl, rfl, by decide +kernel, rfl, by decide +kernel, by decide +kernel⟩
theorem ok_has (D : Df K mg "has" sHas pIsSo) (cI : Ok P w K mg base 41 "is_sum_of" ["rows", "number"] spIsSum) : Ok P w K mg base 45 "has" pIsSo (spIsSo fun _ a v => Nf02.has a v) := D.ok fun f fd F => by
  refine F.ok scHas (fun vs H Q E h => ?_) (fun cdv A outer s H vs Q E hr h => ?_)
  · obtain ⟨p, q, r, as, k, a, v, rfl, _⟩ := h
    rfl
  · obtain ⟨p, q, r, as, k, a, v, rfl, N, kk⟩ := h
    refine ⟨_, pss_one (ps_ret (pe_f cI hr (by decide) (by rfl) (pa_cons (pv 1) (pa_cons (pv 2) pa_nil)))), ?_⟩
    exact ⟨_, rfl, _, rfl, q, r, as, a, v, k.length, rfl, N.ra, N.iv, away N.ring N.ia N.sa, N.lv, fun j => le_lim (Nat.le_trans (bd_of_entries N.bv j) (show 100 ≤ 2 ^ 7 by decide)) (by decide), kk⟩
/-! ### is_made_of -/
theorem scIsMade : FnScope pIsSo pIsSo (defScope sIsMade) := ⟨rfl, rfl, rfl, by decide +kernel, rfl, by decide +kernel, by decide +kernel⟩
theorem ok_isMade (D : Df K mg "is_made_of" sIsMade pIsSo) (cM : Ok P w K mg base 43 "ideal_made_of" pMade spMade) (ma : mg "any" = none) : Ok P w K mg base 45 "is_made_of" pIsSo (spIsSo fun k a v => Nf02.make k [v] == a) := D.ok fun f fd F => by
  refine F.ok scIsMade (fun vs H Q E h => ?_) (fun cdv A outer s H vs Q E hr h => ?_)
  · obtain ⟨p, q, r, as, k, a, v, rfl, _⟩ := h
    rfl
  · obtain ⟨p, q, r, as, k, a, v, rfl, N, kk⟩ := h
    refine ⟨_, pss_one (ps_ret (pe_and (pe_callB (cr_anyI rfl) (by rfl) ma (by decide +kernel) (pa_cons (pv 2) pa_nil))
      (pe_one (pe_cmpR (op_eqD hr.units) (pe_f cM hr (by decide) (by rfl) (pa_cons (pv 0) (pa_cons (pe_lst (pa_cons (pv 2) pa_nil)) pa_nil))) (pv 1) (nomark _))))), ?_⟩
    refine ⟨_, rfl, r, v, rfl, N.iv.sq, _, rfl, ?_⟩
    cases hz : v.any (· != 0) with
    | false =>
      refine iteF ?_
      have := (show Q (.bl (Nf02.make k [v] == a)) H from kk H (Same.refl _))
      rwa [made_flag N.lv N.ring.pos N.ia.rows.len hz] at this
    | true =>
      refine iteT ?_
      refine ⟨_, rfl, _, rfl, (by show 1 ≤ sizeLine; decide), fun l nl => ?_⟩
      have s1 := same_upd (o := .lst [.ref r]) nl
      refine ⟨p, l, [r], k, [v], rfl, N.ik.same s1, ⟨upd_same, .cons (N.iv.same s1) .nil⟩, N.ring, ⟨fun x hx => by rw [List.mem_singleton.mp hx]; exact N.lv, fun x hx => by rw [List.mem_singleton.mp hx]; exact bd_of_entries N.bv, ⟨v, List.mem_singleton.mpr rfl, any_nz.mp hz⟩, by simp⟩, fun H1 u ds s2 nu hu fu => ?_⟩
      refine ⟨_, rfl, dR (Nf02.make k [v]), dR a, hu.dp, ((N.ra.same s1).same s2).dp, shaped_rows _, shaped_rows _, ?_⟩
      have e : PyData.eqv (dR (Nf02.make k [v])) (dR a) = (Nf02.make k [v] == a) := by
        show PyData.eqvAll _ _ = _
        rw [eqv_rows, Bool.eq_iff_iff]
        simp
      rw [e]
      exact kk H1 (s1.trans s2)
/-! ### holds -/
theorem scHolds : FnScope ["one", "other", "row"] ["one", "other"] (defScope sHolds) := ⟨rfl, rfl, rfl, by decide +kernel, rfl, by decide +kernel, by decide +kernel⟩
def spHolds : L2.Sp := fun vs H Q _ => ∃ (p q : Addr) (as bs : List Addr) (k : Vec) (a b : List Vec), vs = [.ref p, .ref q] ∧ RA H p as a ∧ RA H q bs b ∧ Ring k ∧ Ideal k a ∧ Ideal k b ∧ Small a ∧ Small b ∧ ∀ H', Same H H' → Q (.bl (Nf02.holds a b)) H'
theorem bools_get {v : List Bool} {i : Nat} {z : Bool} (h : v[i]? = some z) : (v.map V.bl)[i]? = some (V.bl z) := by
  rw [List.getElem?_map, h]; rfl
theorem ok_holds (D : Df K mg "holds" sHolds ["one", "other"]) (cI : Ok P w K mg base 41 "is_sum_of" ["rows", "number"] spIsSum) (ma : mg "all" = none) : Ok P w K mg base 42 "holds" ["one", "other"] spHolds := D.ok fun f fd F => by
  refine F.ok scHolds (fun vs H Q E h => ?_) (fun cdv A outer s H vs Q E hr h => ?_)
  · obtain ⟨p, q, as, bs, k, a, b, rfl, _⟩ := h
    rfl
  · obtain ⟨p, q, as, bs, k, a, b, rfl, ra, rb, ring, ia, ib, sa, sb, kk⟩ := h
    refine ⟨_, pss_one (ps_ret (pe_callB (cr_all rfl) (by rfl) ma (by decide +kernel) (pa_cons
      (pe_lc (own := [("row", 2)]) (g := gName 2) (tt := tYes) rfl scHolds.nd (pi_list (pv 1)) (blkOk_by (N := ["one", "other", "row"]) (sc := defScope sHolds) (by decide +kernel))
        (fun _ _ _ _ _ => pg_name (i := 2) scHolds.nd rfl (.inl rfl)) (fun _ _ _ _ _ => pts_nil)
        (fun _ _ _ _ _ => pe_f cI hr (by decide) (by rfl) (pa_cons (pv 0) (pa_cons (pv 2) pa_nil)))) pa_nil))), ?_⟩
    have h4 := ring.four
    refine ⟨_, rfl, q, rfl, ⟨_, rb.sq⟩, fun D nD => ?_⟩
    refine lc_list (K := K) (a := q) (xs := bs.map V.ref) (fun i H' => Same H H' ∧ H' D = some (.lst (((b.map (Nf02.has a)).take i).map V.bl))) ⟨same_upd nD, upd_same⟩ (fun i H' _ h => (rb.same h.1).sq) ?_ ?_
    · rintro i x H1 hx ⟨s1, e1⟩
      obtain ⟨ad, ga, rfl⟩ := get_refs hx
      obtain ⟨v, gv, iv⟩ := paired_at' rb.all ga
      have mv : v ∈ b := List.mem_of_getElem? gv
      refine ⟨rfl, yes_ (iteT ?_)⟩
      refine ⟨_, rfl, _, rfl, p, ad, as, a, v, k.length, rfl, ra.same s1, iv.same s1, away ring ia sa, ib.rows.lens v mv, fun j => small_lim sb v mv j, fun H2 s2 => ?_⟩
      have gk : (b.map (Nf02.has a))[i]? = some (Nf02.has a v) := by rw [List.getElem?_map, gv]; rfl
      refine ⟨_, s2 _ _ e1, ?_, same_grow (s1.trans s2) nD, ?_⟩
      · rw [List.length_map, List.length_take, List.length_map]
        refine Nat.lt_of_le_of_lt (Nat.min_le_right _ _) (small1000 ?_)
        rw [ib.rows.len]; omega
      · rw [upd_same, take_one_more gk, List.map_append]; rfl
    · rintro H1 ⟨s1, e1⟩
      rw [List.length_map, paired_len rb.all, List.take_of_length_le (by rw [List.length_map]; exact Nat.le_refl _)] at e1
      refine ⟨D, _, rfl, SqL.of e1, ?_⟩
      have e : (b.map (Nf02.has a)).all id = Nf02.holds a b := by
        unfold Nf02.holds
        rw [List.all_map]; rfl
      rw [e]
      exact kk H1 s1
theorem paired_drop1 {α β : Type} {G : α → β → Prop} : ∀ {as : List α} {vs : List β}, Paired G as vs → Paired G (as.drop 1) (vs.drop 1)
  | _, _, .nil => .nil
  | _, _, .cons g t => t
/-! ### is_prime -/
abbrev nPrime : List Str := ["coefficients", "rows", "outside", "number"]
theorem scPrime : FnScope nPrime ["coefficients", "rows"] (defScope sPrime) := ⟨rfl, rfl, rfl, by decide +kernel, rfl, by decide +kernel, by decide +kernel⟩
def spPrime : L2.Sp := fun vs H Q _ => ∃ (p q : Addr) (as : List Addr) (k : Vec) (a : List Vec), vs = [.ref p, .ref q] ∧ IA H p k ∧ RA H q as a ∧ Ring k ∧ Ideal k a ∧ Small a ∧ Nf02.norm a ≤ 200 ∧ ∀ H', Same H H' → Q (.bl (Nf02.prime k a)) H'
theorem diag_owns {k : Vec} {a : List Vec} (ia : Ideal k a) : diag a = natsI (owns a) := by
  refine List.ext_getElem? fun i => ?_
  unfold natsI
  rw [List.getElem?_map]
  rcases Nat.lt_or_ge i a.length with h | h
  · rw [diag_at h, List.getElem?_eq_getElem (by rw [len_owns]; exact h)]
    have e := owns_get h
    rw [List.getD_eq_getElem?_getD, List.getElem?_eq_getElem (by rw [len_owns]; exact h)] at e
    have e2 : (owns a)[i]'(by rw [len_owns]; exact h) = (Idl.R a i i).toNat := e
    have := ia.rows.hnf.pos i (by rw [← ia.rows.len]; exact h)
    show _ = some (((owns a)[i]'(by rw [len_owns]; exact h) : Nat) : Int)
    rw [e2, Int.toNat_of_nonneg (by omega)]
  · rw [List.getElem?_eq_none (by rw [len_diag]; exact h), List.getElem?_eq_none (by rw [len_owns]; exact h)]; rfl
theorem ok_prime (D : Df K mg "is_prime" sPrime ["coefficients", "rows"]) (cO : Ok P w K mg base 1 "own_numbers" ["rows"] spOwns) (cB : Ok P w K mg base 1 "numbers_below" ["limits"] spBelow) (cN : Ok P w K mg base 2 "norm_of" ["rows"] spNorm) (cS : Ok P w K mg base 44 "sum_of" pTwo spSumG) (cT : Ok P w K mg base 3 "shifts_of" ["coefficients", "number"] spShifts) (ml : mg "len" = none) :
    Ok P w K mg base 45 "is_prime" ["coefficients", "rows"] spPrime := D.ok fun f fd F => by
  refine F.ok scPrime (fun vs H Q E h => ?_) (fun cdv A outer s H vs Q E hr h => ?_)
  · obtain ⟨p, q, as, k, a, rfl, _⟩ := h
    rfl
  · obtain ⟨p, q, as, k, a, rfl, ik, ra, ring, ia, sa, hn, kk⟩ := h
    refine ⟨_, pss_cons (ps_set (i := 2) scPrime.nd rfl (.inl rfl) (pe_slice sl_list (pe_f cB hr (by decide) (by rfl) (pa_cons (pe_f cO hr (by decide) (by rfl) (pa_cons (pv 1) pa_nil)) pa_nil)) (po_some pe_int) po_none))
      (pss_cons (ps_for PassesOwn.never rfl (pi_list (pv 2)) (pg_name (i := 3) scPrime.nd rfl (.inl rfl))
        (pss_one (ps_if (pt_cmpR op_ne (pe_f cN hr (by decide) (by rfl) (pa_cons (pe_f cS hr (by decide) (by rfl) (pa_cons (pv 0) (pa_cons (pv 1) (pa_cons (pe_f cT hr (by decide) (by rfl) (pa_cons (pv 0) (pa_cons (pv 3) pa_nil))) pa_nil)))) pa_nil)) pe_int (nomark _)) (pss_one (ps_ret pe_bl)) pss_nil)))
      (pss_one (ps_ret (pe_cmpR op_gt (pe_callB call_len_seq (by rfl) ml PySem.boot_len (pa_cons (pv 2) pa_nil)) pe_int (nomark _))))), ?_⟩
    have h4 := ring.four
    have la : a.length = k.length := ia.rows.len
    refine ⟨_, rfl, q, as, a, k.length, rfl, ra, by omega, ia.rows.lens, by omega, fun H1 r s1 nr ir => ?_⟩
    rw [diag_owns ia] at ir
    refine ⟨r, owns a, rfl, ir, ia.owns_pos, by rw [len_owns]; omega, ?_, fun H2 u bs s2 nu hu fu => ?_⟩
    · rw [← len_below, ia.many_classes]; omega
    · have lenb : (below (owns a)).length = Nf02.norm a := ia.many_classes
      have lbs : bs.length = Nf02.norm a := by rw [paired_len hu.all, lenb]
      refine ⟨1, rfl, u, _, rfl, hu.sq, fun o no => ?_⟩
      have e1 : cutV (bs.map V.ref) (some 1) none = (bs.drop 1).map V.ref := by rw [cut_one, List.map_drop]
      rw [e1]
      have s3 := same_upd (o := .lst ((bs.drop 1).map V.ref)) no
      have s123 := (s1.trans s2).trans s3
      have ho : RA (upd H2 o (.lst ((bs.drop 1).map V.ref))) o (bs.drop 1) ((below (owns a)).drop 1) := ⟨upd_same, paired_same s3 (paired_drop1 hu.all)⟩
      have pe := prime_eq ring ia sa
      refine ⟨_, rfl, o, rfl, ⟨_, ho.sq⟩, for_list (K := K) (a := o) (xs := (bs.drop 1).map V.ref) (fun i σ H' => ∃ z, σ = [some (.ref p), some (.ref q), some (.ref o), z] ∧ Same (upd H2 o (.lst ((bs.drop 1).map V.ref))) H' ∧ ∀ x ∈ ((below (owns a)).drop 1).take i, Nf02.norm (withX k a x) = 1) ?_ ?_ ?_ ?_⟩
      · exact ⟨none, rfl, Same.refl _, fun x hx => by simp at hx⟩
      · rintro i σ H' _ ⟨_, _, s4, _⟩
        exact (ho.same s4).sq
      · rintro i x σ H3 hx ⟨z, rfl, s4, al⟩
        obtain ⟨na, gn, rfl⟩ := get_refs hx
        obtain ⟨v, gv, iv⟩ := paired_at' ho.all gn
        have mv : v ∈ (below (owns a)).drop 1 := List.mem_of_getElem? gv
        have mo := (ia.outside.mp mv).1
        obtain ⟨lv, bv⟩ := ia.mem_class.mp mo
        have b60 := class_bd ia sa mo
        have sA := s123.trans s4
        have b100 : ∀ j, (Idl.F v j).natAbs ≤ 2 ^ 100 := fun j => Nat.le_trans (b60 j) (by decide)
        refine ⟨_, rfl, _, rfl, _, rfl, _, rfl, p, na, k, v, rfl, ik.same sA, iv.same s4, lv, ring.pos, small4 h4, fun j hj => (Coef.of ring).mulAll lv b100 hj, fun H4 t ts s5 nt ht ft => ?_⟩
        have sB := sA.trans s5
        refine ⟨p, q, t, as, ts, k, a, Nf02.spread k v, rfl, ik.same sB, ra.same sB, ht, ring, with_pre ring ia sa lv b60, fun H5 x xs s6 nx hx fx => ?_⟩
        have W := with_ideal ring ia sa lv b60
        have WS := with_small ring ia sa lv b60
        refine ⟨x, xs, withX k a v, k.length, rfl, hx, W.1.rows.len, W.1.rows.lens, h4, fun i hi => ⟨W.1.rows.hnf.pos i hi, le_lim (diag_small W.1.rows WS hi) (by decide)⟩, fun H6 s7 => ?_⟩
        refine ⟨rfl, _, rfl, ?_⟩
        by_cases c : Nf02.norm (withX k a v) = 1
        · have e : (decide (V.int (Nf02.norm (withX k a v) : Nat) = V.int 1)) = true := decide_eq_true (by rw [c]; rfl)
          rw [e]
          refine iteF ?_
          refine ⟨_, rfl, ((s4.trans s5).trans s6).trans s7, fun y hy => ?_⟩
          rw [take_one_more gv] at hy
          rcases List.mem_append.mp hy with g | g
          · exact al y g
          · rw [List.mem_singleton.mp g]; exact c
        · have e : (decide (V.int (Nf02.norm (withX k a v) : Nat) = V.int 1)) = false := decide_eq_false (fun g => c (by have := V.int.inj g; omega))
          rw [e]
          refine iteT ?_
          have e2 : Nf02.prime k a = false := by
            rw [pe]
            unfold primeP
            rw [show ((below (owns a)).drop 1).all (fun x => decide (Nf02.norm (withX k a x) = 1)) = false from by
              rw [List.all_eq_false]
              exact ⟨v, mv, by simp [c]⟩]
            rfl
          have := kk H6 (((sB.trans s6).trans s7))
          rwa [e2] at this
      · rintro σ H3 ⟨z, rfl, s4, al⟩
        have lbd : (bs.drop 1).length = ((below (owns a)).drop 1).length := paired_len ho.all
        rw [List.length_map, lbd, List.take_length] at al
        refine ⟨_, rfl, o, _, rfl, .inl (ho.same s4).sq, _, _, rfl, rfl, ?_⟩
        have e2 : Nf02.prime k a = decide (0 < ((below (owns a)).drop 1).length) := by
          rw [pe]
          unfold primeP
          rw [show ((below (owns a)).drop 1).all (fun x => decide (Nf02.norm (withX k a x) = 1)) = true from by
            rw [List.all_eq_true]
            exact fun x hx => decide_eq_true (al x hx)]
          rfl
        have := kk H3 (s123.trans s4)
        rw [e2, ← lbd] at this
        have e3 : (decide ((((bs.drop 1).map V.ref).length : Int) > 0)) = decide (0 < (bs.drop 1).length) := by
          rw [List.length_map, Bool.eq_iff_iff, decide_eq_true_eq, decide_eq_true_eq]
          omega
        show Q (.bl (decide ((((bs.drop 1).map V.ref).length : Int) > 0))) H3
        rw [e3]
        exact this
end
end Hnd
set_option Elab.async false
set_option linter.all false
set_option maxRecDepth 100000
set_option maxHeartbeats 2000000
/-! own_numbers_of_norm, rows_for_place. -/
namespace Hnd
open PySem PySem.Spec PyProof.Rows L2
open Idl hiding Sp F R E Top
open Nf02 (Vec)
abbrev sOwnsOf : Stmt := top 40
abbrev sForPlace : Stmt := top 41
theorem fmod_nat (m g : Nat) : (m : Int).fmod (g : Int) = ((m % g : Nat) : Int) := by
  rw [Int.fmod_eq_emod_of_nonneg _ (by omega)]; rfl
theorem fdiv_nat (m g : Nat) : (m : Int).fdiv (g : Int) = ((m / g : Nat) : Int) := by
  rw [Int.fdiv_eq_ediv_of_nonneg _ (by omega)]; rfl
section
variable {P : Program} {w : World} {K : PySem.W.Frag} {mg : Str → Option Value} {base : Heap}
/-! ### own_numbers_of_norm -/
abbrev nOwnsOf : List Str := ["norm", "greatest", "width", "found", "own", "behind"]
abbrev pOwnsOf : List Str := ["norm", "greatest", "width"]
theorem scOwnsOf : FnScope nOwnsOf pOwnsOf (defScope sOwnsOf) := ⟨rfl, rfl, rfl, by decide +kernel, rfl, by decide +kernel, by decide +kernel⟩
def natsL (ls : List (List Nat)) : List Vec := ls.map natsI
def ownsOne (n m g i : Nat) : List (List Nat) := if m % (i + 1) = 0 ∧ g % (i + 1) = 0 then (ownsOf n (m / (i + 1)) (i + 1)).map fun l => (i + 1) :: l else []
def ownsTo (n m g i : Nat) : List (List Nat) := (List.range i).flatMap (ownsOne n m g)
theorem ownsTo_all (n m g : Nat) : ownsTo n m g m = ownsOf (n + 1) m g := rfl
theorem ownsTo_more (n m g i : Nat) : ownsTo n m g (i + 1) = ownsTo n m g i ++ ownsOne n m g i := by
  unfold ownsTo
  rw [List.range_succ, List.flatMap_append]
  simp
theorem ownsTo_len {n m g : Nat} (hm : m ≤ 30) (hg : g ≤ 30) (hn : n + 1 ≤ 4) {i : Nat} (hi : i ≤ m) : (ownsTo n m g i).length ≤ 20 := by
  have h := few_owns m (by omega) g (by omega) (n + 1) (by omega)
  rw [← ownsTo_all] at h
  have e : List.range i = (List.range m).take i := by
    rw [List.take_range, Nat.min_eq_left hi]
  unfold ownsTo at h ⊢
  rw [e]
  have := len_flat_take (ownsOne n m g) (List.range m) i
  omega
theorem natsL_app (a b : List (List Nat)) : natsL (a ++ b) = natsL a ++ natsL b := by unfold natsL; rw [List.map_append]
theorem len_natsL (a : List (List Nat)) : (natsL a).length = a.length := by simp [natsL]
def spOwnsOf (b : Nat) : L2.Sp := fun vs H Q _ => ∃ (m g n : Nat), vs = [.int (m : Int), .int (g : Int), .int (n : Int)] ∧ m ≤ 30 ∧ g ≤ 30 ∧ n ≤ 4 ∧ n < b ∧
  ∀ H' r as, Same H H' → H r = none → RA H' r as (natsL (ownsOf n m g)) → From H [] as → Q (.ref r) H'
theorem ok_none (D : Df K mg "own_numbers_of_norm" sOwnsOf pOwnsOf) : Ok P w K mg base 0 "own_numbers_of_norm" pOwnsOf (spOwnsOf 0) := D.ok fun f fd F =>
  ⟨fun vs H Q E h => by obtain ⟨m, g, n, rfl, _⟩ := h; rfl, fun A outer s H args us vs Q E hr e0 hb hv h => by
    obtain ⟨m, g, n, _, _, _, _, z, _⟩ := h
    exact absurd z (Nat.not_lt_zero _)⟩
theorem ok_ownsNext {b : Nat} (D : Df K mg "own_numbers_of_norm" sOwnsOf pOwnsOf) (c : Ok P w K mg base b "own_numbers_of_norm" pOwnsOf (spOwnsOf b)) (mr : mg "range" = none) : Ok P w K mg base (b + 1) "own_numbers_of_norm" pOwnsOf (spOwnsOf (b + 1)) := D.ok fun f fd F => by
  refine F.ok scOwnsOf (fun vs H Q E h => ?_) (fun cdv A outer s H vs Q E hr h => ?_)
  · obtain ⟨m, g, n, rfl, _⟩ := h
    rfl
  · obtain ⟨m, g, n, rfl, hm, hg, hn, hb, kk⟩ := h
    refine ⟨_, pss_cons (ps_if (pt_cmpR op_eq (pv 2) pe_int (nomark _)) (pss_one (ps_ret (pe_ifExp (pt_cmpR op_eq (pv 0) pe_int (nomark _)) (pe_lst (pa_cons (pe_lst pa_nil) pa_nil)) (pe_lst pa_nil)))) pss_nil)
      (pss_cons (ps_set (i := 3) scOwnsOf.nd rfl (.inl rfl) (pe_lst pa_nil))
      (pss_cons (ps_for PassesOwn.never rfl (pi_range2 rfl mr (pa_cons pe_int (pa_cons (pe_op op_add (pv 0) pe_int) pa_nil))) (pg_name (i := 4) scOwnsOf.nd rfl (.inr rfl))
        (pss_one (ps_if (pw_and (pt_cmpR op_eq (pe_op op_modN (pv 0) (pv 4)) pe_int (nomark _)) (pw_and1 (pt_cmpR op_eq (pe_op op_modN (pv 1) (pv 4)) pe_int (nomark _)))).pt
          (pss_one (ps_expr (pe_bm PySem.F.plainAttrs_list PySem.F.slot_list_extend PySem.F.type_list_extend mt_extend (pv 3) (pa_cons
            (pe_lc (own := [("behind", 5)]) (g := gName 5) (tt := tYes) rfl scOwnsOf.nd
              (pi_list (pe_f c hr (Nat.le_refl _) (by rfl) (pa_cons (pe_op op_fdivN (pv 0) (pv 4)) (pa_cons (pv 4) (pa_cons (pe_op op_sub (pv 2) pe_int) pa_nil)))))
              (blkOk_by (N := nOwnsOf) (sc := defScope sOwnsOf) (by decide +kernel))
              (fun _ _ _ _ _ => pg_name (i := 5) scOwnsOf.nd rfl (.inl rfl)) (fun _ _ _ _ _ => pts_nil)
              (fun _ _ _ _ _ => pe_op op_cat (pe_lst (pa_cons (pv 4) pa_nil)) (pv 5))) pa_nil))))
          pss_nil)))
      (pss_one (ps_ret (pv 3))))), ?_⟩
    refine ⟨_, rfl, rfl, _, rfl, ite2 (fun e => ?_) (fun e => ?_)⟩
    · have n0 : n = 0 := by have := V.int.inj (of_decide_eq_true e); omega
      subst n0
      refine ⟨_, rfl, rfl, _, rfl, ite2 (fun e2 => ?_) (fun e2 => ?_)⟩
      · have m1 : m = 1 := by have := V.int.inj (of_decide_eq_true e2); omega
        subst m1
        refine ⟨Nat.zero_le _, fun o no => ⟨(by show 1 ≤ sizeLine; decide), fun r nr => ?_⟩⟩
        have s1 := same_upd (o := .lst []) no
        have s2 := same_upd (o := .lst [.ref o]) nr
        refine kk _ r [o] (s1.trans s2) (s1.free nr) ⟨upd_same, .cons ?_ .nil⟩ fun z hz => .inl (by rw [List.mem_singleton.mp hz]; exact no)
        exact s2 _ _ upd_same
      · have m1 : m ≠ 1 := fun q => e2 (decide_eq_true (by rw [q]; rfl))
        refine ⟨Nat.zero_le _, fun r nr => ?_⟩
        have e3 : ownsOf 0 m g = [] := if_neg m1
        refine kk _ r [] (same_upd nr) nr ⟨upd_same, ?_⟩ fun z hz => by simp at hz
        rw [e3]; exact .nil
    · obtain ⟨n, rfl⟩ : ∃ q, n = q + 1 := by
        cases n with
        | zero => exact absurd (decide_eq_true rfl) e
        | succ q => exact ⟨q, rfl⟩
      refine ⟨Nat.zero_le _, fun o no => ?_⟩
      have s1 := same_upd (o := .lst []) no
      refine ⟨_, rfl, _, _, rfl, rfl, _, _, rfl, ⟨by omega, by omega, by omega, by omega⟩, ?_⟩
      have en : (((m : Int) + 1) - 1).toNat = m := by omega
      rw [en]
      refine for_range (lo := 1) (n := m) (fun i σ H' => ∃ (as : List Addr) (y : Option V), σ = [some (.int (m : Int)), some (.int (g : Int)), some (.int ((n + 1 : Nat) : Int)), some (.ref o), y, none] ∧ Same H H' ∧ RA H' o as (natsL (ownsTo n m g i)) ∧ From H [] as) ?_ ?_ ?_
      · exact ⟨[], none, rfl, s1, ⟨upd_same, .nil⟩, fun z hz => by simp at hz⟩
      · rintro i σ H1 hi ⟨as, y, rfl, s2, ho, fo⟩
        have eo : (1 : Int) + (i : Int) = ((i + 1 : Nat) : Int) := by omega
        rw [eo]
        have o0 : ((i + 1 : Nat) : Int) ≠ 0 := by omega
        have stay : ownsOne n m g i = [] → ∃ (as : List Addr) (y : Option V), [some (V.int (m : Int)), some (.int (g : Int)), some (.int ((n + 1 : Nat) : Int)), some (.ref o), some (.int ((i + 1 : Nat) : Int)), none] = [some (.int (m : Int)), some (.int (g : Int)), some (.int ((n + 1 : Nat) : Int)), some (.ref o), y, none] ∧ Same H H1 ∧ RA H1 o as (natsL (ownsTo n m g (i + 1))) ∧ From H [] as := fun q => by
          refine ⟨as, _, rfl, s2, ?_, fo⟩
          rw [ownsTo_more, q, List.append_nil]; exact ho
        refine ⟨_, rfl, _, rfl, _, _, rfl, rfl, o0, rfl, _, rfl, ite2 (fun e1 => ?_) (fun e1 => ?_)⟩
        · have d1 : m % (i + 1) = 0 := by
            have := V.int.inj (of_decide_eq_true e1)
            rw [fmod_nat] at this; omega
          refine ⟨_, rfl, _, rfl, _, _, rfl, rfl, o0, rfl, _, rfl, ite2 (fun e2 => ?_) (fun e2 => ?_)⟩
          · have d2 : g % (i + 1) = 0 := by
              have := V.int.inj (of_decide_eq_true e2)
              rw [fmod_nat] at this; omega
            have hone : ownsOne n m g i = (ownsOf n (m / (i + 1)) (i + 1)).map fun l => (i + 1) :: l := if_pos ⟨d1, d2⟩
            refine ⟨_, rfl, .inl ⟨rfl, _, ho.sq⟩, ?_⟩
            refine ⟨_, rfl, _, rfl, _, _, rfl, rfl, ⟨o0, by omega⟩, _, rfl, _, rfl, _, _, rfl, rfl, m / (i + 1), i + 1, n, ?_, ?_, by omega, by omega, by omega, fun H2 r bs s3 nr hr2 fr => ?_⟩
            · show [V.int ((m : Int).fdiv ((i + 1 : Nat) : Int)), V.int ((i + 1 : Nat) : Int), V.int (((n + 1 : Nat) : Int) - 1)] = _
              rw [fdiv_nat]
              have : (((n + 1 : Nat) : Int) - 1) = (n : Int) := by omega
              rw [this]
            · exact Nat.le_trans (Nat.div_le_self _ _) hm
            · refine ⟨r, rfl, ⟨_, hr2.sq⟩, fun D nD => ?_⟩
              have blen : (ownsOf n (m / (i + 1)) (i + 1)).length ≤ 20 := few_owns _ (by have := Nat.div_le_self m (i + 1); omega) _ (by omega) _ (by omega)
              have lbs : bs.length = (ownsOf n (m / (i + 1)) (i + 1)).length := by rw [paired_len hr2.all, len_natsL]
              refine lc_list (K := K) (a := r) (xs := bs.map V.ref) (fun j H' => ∃ es : List Addr, Same H2 H' ∧ RA H' D es ((natsL (ownsOne n m g i)).take j) ∧ From H2 [] es) ⟨[], same_upd nD, ⟨upd_same, .nil⟩, fun z hz => by simp at hz⟩
                (fun j H' _ ⟨_, s4, _⟩ => (hr2.same s4).sq) ?_ ?_
              · rintro j x H3 hx ⟨es, s4, he, fe⟩
                obtain ⟨ba, gb, rfl⟩ := get_refs hx
                obtain ⟨bv, gv, ib⟩ := paired_at' hr2.all gb
                unfold natsL at gv
                rw [List.getElem?_map] at gv
                obtain ⟨l, gl, rfl⟩ : ∃ l, (ownsOf n (m / (i + 1)) (i + 1))[j]? = some l ∧ bv = natsI l := by
                  cases q : (ownsOf n (m / (i + 1)) (i + 1))[j]? with
                  | none => rw [q] at gv; cases gv
                  | some l => rw [q] at gv; exact ⟨l, rfl, (Option.some.inj gv).symm⟩
                have jl : j < bs.length := (List.getElem?_eq_some_iff.mp gb).1
                have ll : l.length ≤ 4 := by
                  have h1 := List.mem_of_getElem? gl
                  rw [ownsOf_eq] at h1
                  have := (shapes_own (List.mem_filter.mp h1).1).len
                  omega
                have gk : (natsL (ownsOne n m g i))[j]? = some (((i + 1 : Nat) : Int) :: natsI l) := by
                  unfold natsL
                  rw [hone, List.getElem?_map, List.getElem?_map, gl]; rfl
                refine ⟨rfl, yes_ (iteT ?_)⟩
                refine ⟨_, rfl, (by show 1 ≤ sizeLine; decide), fun e ne => ?_⟩
                have s5 := same_upd (o := .lst [.int ((i + 1 : Nat) : Int)]) ne
                refine ⟨_, rfl, e, ba, [.int ((i + 1 : Nat) : Int)], (natsI l).map V.int, rfl, rfl, upd_same, (ib.same s4).same s5, ?_, fun c2 nc2 => ?_⟩
                · rw [List.length_map]
                  unfold natsI
                  rw [List.length_map]
                  exact Nat.le_of_lt (small1000 (by show 1 + l.length ≤ 1000; omega))
                · have s6 := same_upd (o := .lst ([V.int ((i + 1 : Nat) : Int)] ++ (natsI l).map V.int)) nc2
                  have he6 := (he.same s5).same s6
                  have Dc : c2 ≠ D := fun q => by
                    have := (he.same s5).at_
                    rw [← q, nc2] at this; cases this
                  refine ⟨_, he6.at_, ?_, es ++ [c2], same_grow ((s4.trans s5).trans s6) nD, ⟨by rw [upd_same, List.map_append]; rfl, ?_⟩, fun z hz => ?_⟩
                  · rw [List.length_map, paired_len he.all, List.length_take]
                    exact Nat.lt_of_le_of_lt (Nat.min_le_left _ _) (small1000 (by omega))
                  · rw [take_one_more gk]
                    refine Paired.snoc (paired_upd he6.at_ he6.all fun x hx => ?_) ?_
                    · have := List.mem_of_mem_take hx
                      unfold natsL at this
                      rw [hone] at this
                      obtain ⟨u, hu, rfl⟩ := List.mem_map.mp this
                      obtain ⟨t, ht, rfl⟩ := List.mem_map.mp hu
                      show 0 < (natsI t).length + 1
                      omega
                    · unfold IA
                      rw [upd_ne Dc, upd_same]; rfl
                  · rcases List.mem_append.mp hz with q | q
                    · exact fe z q
                    · rw [List.mem_singleton.mp q]; exact .inl ((s4.trans s5).free nc2)
              · rintro H3 ⟨es, s4, he, fe⟩
                have lone : (natsL (ownsOne n m g i)).length = bs.length := by rw [len_natsL, hone, List.length_map, lbs]
                rw [List.length_map, ← lone, List.take_length] at he
                have ho3 := (ho.same s3).same s4
                have pos : ∀ q, ∀ x ∈ natsL (ownsOne n m g q), 0 < x.length := fun q x hx => by
                  unfold natsL ownsOne at hx
                  obtain ⟨u, hu, rfl⟩ := List.mem_map.mp hx
                  split at hu
                  · obtain ⟨t, ht, rfl⟩ := List.mem_map.mp hu
                    show 0 < (natsI t).length + 1
                    omega
                  · simp at hu
                refine ⟨o, D, _, _, rfl, rfl, ho3.at_, he.at_, ?_, ?_⟩
                · rw [List.length_map, List.length_map, paired_len ho.all, paired_len he.all, lone, len_natsL]
                  have := ownsTo_len hm hg (by omega) (n := n) (i := i) (by omega)
                  exact Nat.le_of_lt (small1000 (by omega))
                · refine ⟨as ++ es, _, rfl, same_grow ((s2.trans s3).trans s4) no, ⟨by rw [upd_same, List.map_append], ?_⟩, fun z hz => ?_⟩
                  · rw [ownsTo_more, natsL_app]
                    refine paired_app (paired_upd ho3.at_ ho3.all fun x hx => ?_) (paired_upd ho3.at_ he.all (pos i))
                    unfold natsL ownsTo at hx
                    obtain ⟨u, hu, rfl⟩ := List.mem_map.mp hx
                    obtain ⟨q, _, hu⟩ := List.mem_flatMap.mp hu
                    exact pos q _ (List.mem_map_of_mem hu)
                  · rcases List.mem_append.mp hz with q | q
                    · exact fo z q
                    · rcases fe z q with t | t
                      · exact .inl ((s2.trans s3).free t)
                      · simp at t
          · have d2 : ¬ g % (i + 1) = 0 := fun q => e2 (decide_eq_true (congrArg V.int ((fmod_nat _ _).trans (congrArg Nat.cast q))))
            exact stay (if_neg fun q => d2 q.2)
        · have d1 : ¬ m % (i + 1) = 0 := fun q => e1 (decide_eq_true (congrArg V.int ((fmod_nat _ _).trans (congrArg Nat.cast q))))
          exact stay (if_neg fun q => d1 q.1)
      · rintro σ H1 ⟨as, y, rfl, s2, ho, fo⟩
        exact ⟨_, rfl, kk H1 o as s2 no ho fo⟩
theorem ok_ownsOf (D : Df K mg "own_numbers_of_norm" sOwnsOf pOwnsOf) (mr : mg "range" = none) : ∀ b, Ok P w K mg base b "own_numbers_of_norm" pOwnsOf (spOwnsOf b)
  | 0 => ok_none D
  | b + 1 => ok_ownsNext D (ok_ownsOf D mr b) mr
/-! ### rows_for_place -/
abbrev nForPlace : List Str := ["own", "place", "behind", "ahead"]
theorem scForPlace : FnScope nForPlace ["own", "place"] (defScope sForPlace) := ⟨rfl, rfl, rfl, by decide +kernel, rfl, by decide +kernel, by decide +kernel⟩
def spForPlace : L2.Sp := fun vs H Q _ => ∃ (p : Addr) (own : List Nat) (m n i : Nat), vs = [.ref p, .int (i : Int)] ∧ IA H p (natsI own) ∧ Own n m own ∧ m ≤ 30 ∧ n ≤ 4 ∧ i < n ∧
  ∀ H' r as, Same H H' → H r = none → RA H' r as (choices n (own.take i) (own.getD i 0)) → From H [] as → Q (.ref r) H'
theorem natsI_take (l : List Nat) (i : Nat) : natsI (l.take i) = (natsI l).take i := by unfold natsI; rw [List.map_take]
theorem len_natsI (l : List Nat) : (natsI l).length = l.length := by simp [natsI]
theorem natsI_item {l : List Nat} {i : Nat} (h : i < l.length) : (natsI l)[i]? = some ((l.getD i 0 : Nat) : Int) := by
  unfold natsI
  rw [List.getElem?_map, List.getElem?_eq_getElem h, List.getD_eq_getElem?_getD, List.getElem?_eq_getElem h]; rfl
theorem ok_forPlace (D : Df K mg "rows_for_place" sForPlace ["own", "place"]) (cB : Ok P w K mg base 1 "numbers_below" ["limits"] spBelow) (ml : mg "len" = none) : Ok P w K mg base 2 "rows_for_place" ["own", "place"] spForPlace := D.ok fun f fd F => by
  refine F.ok scForPlace (fun vs H Q E h => ?_) (fun cdv A outer s H vs Q E hr h => ?_)
  · obtain ⟨p, own, m, n, i, rfl, _⟩ := h
    rfl
  · obtain ⟨p, own, m, n, i, rfl, ip, ow, hm, h4, hi, kk⟩ := h
    refine ⟨_, pss_cons (ps_set (i := 2) scForPlace.nd rfl (.inr rfl) (pe_op op_rep (pe_lst (pa_cons pe_int pa_nil)) (pe_op op_sub (pe_op op_sub (pe_callB call_len_seq (by rfl) ml PySem.boot_len (pa_cons (pv 0) pa_nil)) pe_int) (pv 1))))
      (pss_one (ps_ret (pe_lc (own := [("ahead", 3)]) (g := gName 3) (tt := tYes) rfl scForPlace.nd
        (pi_list (pe_f cB hr (by decide) (by rfl) (pa_cons (pe_slice sl_list (pv 0) po_none (po_some (pv 1))) pa_nil)))
        (blkOk_by (N := nForPlace) (sc := defScope sForPlace) (by decide +kernel))
        (fun _ _ _ _ _ => pg_name (i := 3) scForPlace.nd rfl (.inl rfl)) (fun _ _ _ _ _ => pts_nil)
        (fun _ _ _ _ _ => pe_op op_cat (pe_op op_cat (pv 3) (pe_lst (pa_cons (pe_ix (ix_list_of (K := K) rfl) (pv 0) (pv 1) (fun _ _ => rfl)) pa_nil))) (pv 2))))), ?_⟩
    have lo := ow.len
    refine ⟨(by show 1 ≤ sizeLine; decide), fun c1 n1 => ?_⟩
    have s1 := same_upd (o := .lst [.int 0]) n1
    refine ⟨_, rfl, p, _, rfl, .inl (ip.same s1).sq, _, _, rfl, rfl, _, rfl, _, _, rfl, rfl, ?_⟩
    have ek : ((((natsI own).map V.int).length : Int) - 1 - (i : Int)) = ((n - 1 - i : Nat) : Int) := by rw [List.length_map, len_natsI, lo]; omega
    refine ⟨c1, ((n - 1 - i : Nat) : Int), [.int 0], rfl, congrArg V.int ek, upd_same, by omega, by omega, ?_, fun c2 n2 => ?_⟩
    · rw [Int.toNat_natCast]
      show 1 * (n - 1 - i) ≤ sizeLine
      rw [Nat.one_mul]
      exact Nat.le_of_lt (small1000 (by omega))
    · rw [Int.toNat_natCast]
      have e0 : (List.replicate (n - 1 - i) [V.int 0]).flatten = (List.replicate (n - 1 - i) (0 : Int)).map V.int := by simp
      rw [e0]
      have s2 := same_upd (o := .lst ((List.replicate (n - 1 - i) (0 : Int)).map V.int)) n2
      have s12 := s1.trans s2
      refine ⟨_, rfl, _, rfl, (i : Int), rfl, p, _, rfl, (ip.same s12).sq, fun c3 n3 => ?_⟩
      rw [cut_to, ← List.map_take, ← natsI_take]
      have s3 := same_upd (o := .lst ((natsI (own.take i)).map V.int)) n3
      have s123 := s12.trans s3
      have it2 : IA (upd (upd (upd H c1 (.lst [.int 0])) c2 (.lst ((List.replicate (n - 1 - i) (0 : Int)).map V.int))) c3 (.lst ((natsI (own.take i)).map V.int))) c2 (List.replicate (n - 1 - i) 0) := s3 _ _ upd_same
      have ptk := prod_take own i ow.pos
      rw [ow.prod] at ptk
      have posk : ∀ d ∈ own.take i, 0 < d := fun d hd => ow.pos d (List.mem_of_mem_take hd)
      refine ⟨c3, own.take i, rfl, upd_same, posk, by rw [List.length_take]; omega, by omega, fun H4 r as s4 nr hr4 fr => ?_⟩
      have sA := s123.trans s4
      have lbel : (below (own.take i)).length ≤ 30 := by rw [len_below]; omega
      have ltk : (own.take i).length = i := by rw [List.length_take, lo]; omega
      have las : as.length = (below (own.take i)).length := paired_len hr4.all
      refine ⟨r, rfl, ⟨_, hr4.sq⟩, fun D nD => ?_⟩
      refine lc_list (K := K) (a := r) (xs := as.map V.ref) (fun j H' => ∃ es : List Addr, Same H4 H' ∧ RA H' D es ((choices n (own.take i) (own.getD i 0)).take j) ∧ From H4 [] es) ⟨[], same_upd nD, ⟨upd_same, .nil⟩, fun z hz => by simp at hz⟩
        (fun j H' _ ⟨_, s5, _⟩ => (hr4.same s5).sq) ?_ ?_
      · rintro j x H5 hx ⟨es, s5, he, fe⟩
        obtain ⟨va, ga, rfl⟩ := get_refs hx
        obtain ⟨v, gv, iv⟩ := paired_at' hr4.all ga
        have jl : j < as.length := (List.getElem?_eq_some_iff.mp ga).1
        have lv : v.length = i := by
          have := (mem_below.mp (List.mem_of_getElem? gv)).1
          rw [this, ltk]
        have gk : (choices n (own.take i) (own.getD i 0))[j]? = some (rowOf n i (own.getD i 0) v) := by
          unfold choices
          rw [List.getElem?_map, gv, ltk]; rfl
        have sB := sA.trans s5
        refine ⟨rfl, yes_ (iteT ?_)⟩
        refine ⟨_, rfl, _, rfl, _, rfl, p, _, _, _, rfl, rfl, (ip.same sB).sq, ints_at (natsI_item (by rw [lo]; exact hi)), (by show 1 ≤ sizeLine; decide), fun e ne => ?_⟩
        have s6 := same_upd (o := .lst [.int ((own.getD i 0 : Nat) : Int)]) ne
        refine ⟨va, e, v.map V.int, [.int ((own.getD i 0 : Nat) : Int)], rfl, rfl, (iv.same s5).same s6, upd_same, ?_, fun c4 n4 => ?_⟩
        · rw [List.length_map, lv]
          exact Nat.le_of_lt (small1000 (by show i + 1 ≤ 1000; omega))
        · have s7 := same_upd (o := .lst (v.map V.int ++ [V.int ((own.getD i 0 : Nat) : Int)])) n4
          have s67 := s6.trans s7
          refine ⟨_, rfl, c4, c2, v.map V.int ++ [V.int ((own.getD i 0 : Nat) : Int)], (List.replicate (n - 1 - i) (0 : Int)).map V.int, rfl, rfl, upd_same, ((it2.same s4).same s5).same s67, ?_, fun c5 n5 => ?_⟩
          · rw [List.length_append, List.length_map, List.length_map, lv, List.length_replicate]
            exact Nat.le_of_lt (small1000 (by show i + 1 + (n - 1 - i) ≤ 1000; omega))
          · have s8 := same_upd (o := .lst (v.map V.int ++ [V.int ((own.getD i 0 : Nat) : Int)] ++ (List.replicate (n - 1 - i) (0 : Int)).map V.int)) n5
            have he8 := (he.same s67).same s8
            have Dc : c5 ≠ D := fun q => by
              have := (he.same s67).at_
              rw [← q, n5] at this; cases this
            refine ⟨_, he8.at_, ?_, es ++ [c5], same_grow ((s5.trans s67).trans s8) nD, ⟨by rw [upd_same, List.map_append]; rfl, ?_⟩, fun z hz => ?_⟩
            · rw [List.length_map, paired_len he.all, List.length_take]
              exact Nat.lt_of_le_of_lt (Nat.min_le_left _ _) (small1000 (by omega))
            · rw [take_one_more gk]
              refine Paired.snoc (paired_upd he8.at_ he8.all fun x hx => ?_) ?_
              · rw [len_choice ow hi (List.mem_of_mem_take hx)]; omega
              · unfold IA
                rw [upd_ne Dc, upd_same]
                unfold rowOf
                rw [List.map_append, List.map_cons, List.append_assoc]; rfl
            · rcases List.mem_append.mp hz with q | q
              · exact fe z q
              · rw [List.mem_singleton.mp q]; exact .inl ((s5.trans s67).free n5)
      · rintro H5 ⟨es, s5, he, fe⟩
        have lch : (choices n (own.take i) (own.getD i 0)).length = as.length := by unfold choices; rw [List.length_map, las]
        rw [List.length_map, ← lch, List.take_length] at he
        refine kk H5 D es (sA.trans s5) (sA.free nD) he fun z hz => ?_
        rcases fe z hz with q | q
        · exact .inl (sA.free q)
        · simp at q
end
end Hnd
set_option Elab.async false
set_option linter.all false
set_option maxRecDepth 100000
set_option maxHeartbeats 2000000
/-! fits_behind, continued, ideals_with_own, ideals_of_norm. -/
namespace Hnd
open PySem PySem.Spec PyProof.Rows L2
open Idl hiding Sp F R E Top
open Nf02 (Vec)
abbrev sFits : Stmt := top 42
abbrev sContinued : Stmt := top 43
abbrev sWithOwn : Stmt := top 44
abbrev sOfNorm : Stmt := top 45
/-! ### lists of lists of rows -/
def GA (H : Hp) (a : Addr) (rs : List Vec) : Prop := ∃ ads, RA H a ads rs
theorem GA.same {H H' : Hp} {a : Addr} {rs : List Vec} (h : GA H a rs) (s : Same H H') : GA H' a rs := by
  obtain ⟨ads, h⟩ := h
  exact ⟨ads, h.same s⟩
structure TA (H : Hp) (p : Addr) (as : List Addr) (rss : List (List Vec)) : Prop where
  at_ : H p = some (.lst (as.map V.ref))
  all : Paired (GA H) as rss
theorem pairedG_same {H H' : Hp} (s : Same H H') {as : List Addr} {rss : List (List Vec)} (h : Paired (GA H) as rss) : Paired (GA H') as rss := L2.Paired.mapP h fun _ _ z => z.same s
theorem TA.same {H H' : Hp} {p : Addr} {as : List Addr} {rss : List (List Vec)} (h : TA H p as rss) (s : Same H H') : TA H' p as rss := ⟨s _ _ h.at_, pairedG_same s h.all⟩
theorem TA.sq {K : PySem.W.Frag} {H : Hp} {p : Addr} {as : List Addr} {rss : List (List Vec)} (h : TA H p as rss) : SqL K H p (as.map V.ref) := SqL.of h.at_
/-- no row is empty -/
def Solid (rss : List (List Vec)) : Prop := ∀ rs ∈ rss, ∀ v ∈ rs, 0 < v.length
theorem GA.upd {H : Hp} {p : Addr} {o : HO} {bs : List Addr} {a : Addr} {rs : List Vec} (h : H p = some (.lst (bs.map V.ref))) (ne : a ≠ p) (g : GA H a rs) (hv : ∀ v ∈ rs, 0 < v.length) : GA (upd H p o) a rs := by
  obtain ⟨ads, g⟩ := g
  exact ⟨ads, by rw [upd_ne ne]; exact g.at_, paired_upd h g.all hv⟩
theorem pairedG_upd {H : Hp} {p : Addr} {o : HO} {bs : List Addr} (h : H p = some (.lst (bs.map V.ref))) : ∀ {as : List Addr} {rss : List (List Vec)}, (∀ a ∈ as, a ≠ p) → Paired (GA H) as rss → Solid rss → Paired (GA (upd H p o)) as rss
  | _, _, _, .nil, _ => .nil
  | _, _, ne, .cons g t, hs => .cons (g.upd h (ne _ (List.mem_cons_self ..)) (hs _ (List.mem_cons_self ..))) (pairedG_upd h (fun a ha => ne a (List.mem_cons_of_mem _ ha)) t fun rs hr => hs rs (List.mem_cons_of_mem _ hr))
section
variable {P : Program} {w : World} {K : PySem.W.Frag} {mg : Str → Option Value} {base : Heap}
theorem part_away {k : Vec} {m p : Nat} {own : List Nat} {rs : List Vec} (o : Own k.length m own) (hm : m ≤ 30) (h4 : k.length ≤ 4) (hp : p ≤ k.length) (h : Part k m own p rs) : Away k.length rs :=
  ⟨h.shape.lens, by rw [h.len o hp]; exact hp, by omega, h.pos o hp, h.bd.mono (Nat.le_trans hm (le_lim (b := 5) (by decide) (by decide)))⟩
theorem up_lim {k v : Vec} (c : Coef k) (lv : v.length = k.length) {m : Nat} (hm : m ≤ 30) (hb : ∀ j, (Idl.F v j).natAbs ≤ m) (j : Nat) : (Idl.F (Nf02.up k v) j).natAbs ≤ 2 ^ LIM := by
  rw [F_up lv c.pos]
  have := bd_Up c.small hb j
  exact le_lim (b := 10) (Nat.le_trans this (Nat.le_trans (Nat.mul_le_mul_left 21 hm) (by decide))) (by decide)
theorem mul_row {k v : Vec} (c : Coef k) {m : Nat} (hm : m ≤ 30) (lv : v.length = k.length) (hb : ∀ j, (Idl.F v j).natAbs ≤ m) : MulAll (v.getLastD 0) k := fun x hx => by
  rw [getLastD_eq lv c.pos]
  exact mul_ok (a := 5) (Nat.le_trans (hb _) (Nat.le_trans hm (by decide))) (coef_mem c hx) (by decide)
theorem last_refs {as : List Addr} {a : Addr} {i : Nat} (h : as[i]? = some a) (hl : as.length = i + 1) : atI (as.map V.ref) (-1) = some (.ref a) := by
  have e2 : as = as.take i ++ [a] := by
    have := take_one_more h
    rwa [List.take_of_length_le (by omega)] at this
  rw [e2, List.map_append]
  exact atI_last _ _
/-- the last of the rows so far -/
theorem last_row {H : Hp} {p : Addr} {as : List Addr} {rs : List Vec} (h : RA H p as rs) (hl : 0 < rs.length) : ∃ a, atI (as.map V.ref) (-1) = some (.ref a) ∧ IA H a (rs.getLastD []) := by
  obtain ⟨i, hi⟩ : ∃ i, rs.length = i + 1 := ⟨rs.length - 1, by omega⟩
  have g : rs[i]? = some (rs.getLastD []) := by
    rw [last_getD hl, hi, Nat.add_sub_cancel, List.getD_eq_getElem?_getD, List.getElem?_eq_getElem (by omega)]; rfl
  obtain ⟨a, ga, ia⟩ := paired_at h.all g
  exact ⟨a, last_refs ga (by rw [paired_len h.all]; exact hi), ia⟩
/-! ### fits_behind -/
abbrev pFits : List Str := ["coefficients", "rows", "row"]
theorem scFits : FnScope pFits pFits (defScope sFits) := ⟨rfl, rfl, rfl, by decide +kernel, rfl, by decide +kernel, by decide +kernel⟩
def spFits : L2.Sp := fun vs H Q _ => ∃ (p q r : Addr) (as : List Addr) (k : Vec) (rs : List Vec) (row : Vec) (m i : Nat) (own : List Nat), vs = [.ref p, .ref q, .ref r] ∧ IA H p k ∧ RA H q as rs ∧ IA H r row ∧ Coef k ∧ Own k.length m own ∧ m ≤ 30 ∧ i < k.length ∧ Part k m own i rs ∧
  row ∈ choices k.length (own.take i) (own.getD i 0) ∧ ∀ H', Same H H' → Q (.bl (fits k rs row)) H'
theorem ok_fits (D : Df K mg "fits_behind" sFits pFits) (cI : Ok P w K mg base 41 "is_sum_of" ["rows", "number"] spIsSum) (cT : Ok P w K mg base 2 "times_t" ["coefficients", "number"] spTimesT) : Ok P w K mg base 42 "fits_behind" pFits spFits := D.ok fun f fd F => by
  refine F.ok scFits (fun vs H Q E h => ?_) (fun cdv A outer s H vs Q E hr h => ?_)
  · obtain ⟨p, q, r, as, k, rs, row, m, i, own, rfl, _⟩ := h
    rfl
  · obtain ⟨p, q, r, as, k, rs, row, m, i, own, rfl, ik, hq, ir, co, ow, hm, hi, pt, hrow, kk⟩ := h
    refine ⟨_, pss_one (ps_ret (pe_or (pe_notT (pv 1)) (pe_one (pe_f cI hr (by decide) (by rfl) (pa_cons (pe_op op_cat (pv 1) (pe_lst (pa_cons (pv 2) pa_nil)))
      (pa_cons (pe_f cT hr (by decide) (by rfl) (pa_cons (pv 0) (pa_cons (pe_ix ix_list (pv 1) (pe_un un_neg pe_int) (fun _ _ => rfl)) pa_nil))) pa_nil)))))), ?_⟩
    have h4 := co.four
    have ch := choice_is ow hi hrow
    have lrs := pt.len ow (by omega)
    refine ⟨_, rfl, !(as.map V.ref).isEmpty, .inl ⟨_, hq.sq, rfl⟩, _, rfl, ?_⟩
    cases hrs : rs with
    | nil =>
      have e : as = [] := by
        have := paired_len hq.all
        rw [hrs] at this
        exact List.length_eq_zero_iff.mp this
      rw [e]
      refine iteT ?_
      have := kk H (Same.refl _)
      rw [hrs] at this
      exact this
    | cons y ys =>
      have e : (as.map V.ref).isEmpty = false := by
        have := paired_len hq.all
        rw [hrs] at this
        cases as with
        | nil => simp at this
        | cons => rfl
      rw [e]
      refine iteF ?_
      refine ⟨_, rfl, _, rfl, (by show 1 ≤ sizeLine; decide), fun l nl => ?_⟩
      have s1 := same_upd (o := .lst [.ref r]) nl
      refine ⟨q, l, as.map V.ref, [.ref r], rfl, rfl, s1 _ _ hq.at_, upd_same, ?_, fun c nc => ?_⟩
      · rw [List.length_map, paired_len hq.all, lrs]
        exact Nat.le_of_lt (small1000 (by show i + 1 ≤ 1000; omega))
      · have s2 := same_upd (o := .lst (as.map V.ref ++ [V.ref r])) nc
        have s12 := s1.trans s2
        have hc : RA (upd (upd H l (.lst [.ref r])) c (.lst (as.map V.ref ++ [V.ref r]))) c (as ++ [r]) (rs ++ [row]) := ⟨by rw [upd_same, List.map_append]; rfl, Paired.snoc (paired_same s12 hq.all) (ir.same s12)⟩
        obtain ⟨a, la, ia⟩ := last_row hq (by rw [hrs]; simp)
        have ll : (rs.getLastD []).length = k.length := pt.shape.lens _ (by rw [last_getD (by rw [hrs]; simp)]; exact mem_getD (by rw [hrs]; simp))
        have lb : ∀ j, (Idl.F (rs.getLastD []) j).natAbs ≤ m := pt.bd _ (by rw [last_getD (by rw [hrs]; simp)]; exact mem_getD (by rw [hrs]; simp))
        refine ⟨_, rfl, _, rfl, _, rfl, q, _, _, _, rfl, rfl, (hq.same s12).sq, la, p, a, k, rs.getLastD [], rfl, ik.same s12, ia.same s12, ll, co.pos, small4 h4, mul_row co hm ll lb, fun H3 t s3 nt it => ?_⟩
        have e2 : fits k rs row = Nf02.has (rs ++ [row]) (Nf02.up k (rs.getLastD [])) := by rw [hrs]; rfl
        refine ⟨c, t, as ++ [r], rs ++ [row], Nf02.up k (rs.getLastD []), k.length, rfl, hc.same s3, it, part_away ow hm h4 (by omega) (pt.more ow hi ch.1 ch.2), len_up ll co.pos, up_lim co ll hm lb, fun H4 s4 => ?_⟩
        rw [← e2]
        exact kk H4 ((s12.trans s3).trans s4)
/-! ### continued -/
abbrev nContinued : List Str := ["coefficients", "rows", "choices", "row"]
abbrev pContinued : List Str := ["coefficients", "rows", "choices"]
theorem scContinued : FnScope nContinued pContinued (defScope sContinued) := ⟨rfl, rfl, rfl, by decide +kernel, rfl, by decide +kernel, by decide +kernel⟩
def contd (k : Vec) (rs ch : List Vec) : List (List Vec) := (ch.filter (fits k rs)).map fun row => rs ++ [row]
def spContinued : L2.Sp := fun vs H Q _ => ∃ (p q r : Addr) (as bs : List Addr) (k : Vec) (rs : List Vec) (m i : Nat) (own : List Nat), vs = [.ref p, .ref q, .ref r] ∧ IA H p k ∧ RA H q as rs ∧ RA H r bs (choices k.length (own.take i) (own.getD i 0)) ∧ Coef k ∧ Own k.length m own ∧ m ≤ 30 ∧ i < k.length ∧ Part k m own i rs ∧
  ∀ H' t es, Same H H' → H t = none → TA H' t es (contd k rs (choices k.length (own.take i) (own.getD i 0))) → From H [] es → Q (.ref t) H'
theorem contd_take {k : Vec} {rs ch : List Vec} {j : Nat} {v : Vec} (h : ch[j]? = some v) : contd k rs (ch.take (j + 1)) = contd k rs (ch.take j) ++ if fits k rs v = true then [rs ++ [v]] else [] := by
  unfold contd
  rw [take_one_more h, List.filter_append, List.map_append, List.filter_cons]
  split <;> rfl
theorem contd_len (k : Vec) (rs ch : List Vec) : (contd k rs ch).length ≤ ch.length := by
  unfold contd
  rw [List.length_map]
  exact List.length_filter_le _ _
theorem contd_solid {k : Vec} {rs ch : List Vec} (h1 : ∀ v ∈ rs, 0 < v.length) (h2 : ∀ v ∈ ch, 0 < v.length) : Solid (contd k rs ch) := fun qs hq v hv => by
  unfold contd at hq
  obtain ⟨row, hr, rfl⟩ := List.mem_map.mp hq
  rcases List.mem_append.mp hv with e | e
  · exact h1 v e
  · rw [List.mem_singleton.mp e]; exact h2 _ (List.mem_filter.mp hr).1
theorem ok_continued (D : Df K mg "continued" sContinued pContinued) (cF : Ok P w K mg base 42 "fits_behind" pFits spFits) : Ok P w K mg base 43 "continued" pContinued spContinued := D.ok fun f fd F => by
  refine F.ok scContinued (fun vs H Q E h => ?_) (fun cdv A outer s H vs Q E hr h => ?_)
  · obtain ⟨p, q, r, as, bs, k, rs, m, i, own, rfl, _⟩ := h
    rfl
  · obtain ⟨p, q, r, as, bs, k, rs, m, i, own, rfl, ik, hq, hrr, co, ow, hm, hi, pt, kk⟩ := h
    refine ⟨_, pss_one (ps_ret (pe_lc (own := [("row", 3)]) (g := gName 3) rfl scContinued.nd (pi_list (pv 2)) (blkOk_by (N := nContinued) (sc := defScope sContinued) (by decide +kernel))
      (fun _ _ _ _ _ => pg_name (i := 3) scContinued.nd rfl (.inl rfl))
      (fun _ _ _ _ _ => pts_one (pt_val (pe_f cF hr (by decide) (by rfl) (pa_cons (pv 0) (pa_cons (pv 1) (pa_cons (pv 3) pa_nil))))))
      (fun _ _ _ _ _ => pe_op op_cat (pv 1) (pe_lst (pa_cons (pv 3) pa_nil))))), ?_⟩
    have h4 := co.four
    have h0 := co.pos
    obtain ⟨ch, hch⟩ : ∃ ch, ch = choices k.length (own.take i) (own.getD i 0) := ⟨_, rfl⟩
    rw [← hch] at hrr
    have chlen : ch.length ≤ 30 := by rw [hch]; exact Nat.le_trans (len_choices ow i) hm
    have lrs := pt.len ow (by omega)
    have pos1 : ∀ v ∈ rs, 0 < v.length := fun v hv => by rw [pt.shape.lens v hv]; exact h0
    have pos2 : ∀ v ∈ ch, 0 < v.length := fun v hv => by rw [len_choice ow hi (by rw [← hch]; exact hv)]; exact h0
    refine ⟨_, rfl, r, rfl, ⟨_, hrr.sq⟩, fun D nD => ?_⟩
    refine lc_list (K := K) (a := r) (xs := bs.map V.ref) (fun j H' => ∃ es : List Addr, Same H H' ∧ TA H' D es (contd k rs (ch.take j)) ∧ From H [] es ∧ ∀ a ∈ es, a ≠ D) ⟨[], same_upd nD, ⟨upd_same, .nil⟩, fun z hz => by simp at hz, fun z hz => by simp at hz⟩
      (fun j H' _ ⟨_, s1, _⟩ => (hrr.same s1).sq) ?_ ?_
    · rintro j x H1 hx ⟨es, s1, he, fe, ne⟩
      obtain ⟨ra, ga, rfl⟩ := get_refs hx
      obtain ⟨v, gv, iv⟩ := paired_at' hrr.all ga
      have mv : v ∈ ch := List.mem_of_getElem? gv
      have ct := contd_take (k := k) (rs := rs) gv
      refine ⟨rfl, _, rfl, _, rfl, _, rfl, p, q, ra, as, k, rs, v, m, i, own, rfl, ik.same s1, hq.same s1, iv.same s1, co, ow, hm, hi, pt, by rw [← hch]; exact mv, fun H2 s2 => ⟨_, rfl, ?_⟩⟩
      have s12 := s1.trans s2
      have he2 := he.same s2
      cases hf : fits k rs v with
      | false =>
        rw [hf] at ct
        refine iteF ⟨es, s12, ?_, fe, ne⟩
        rw [ct]
        simpa using he2
      | true =>
        rw [hf] at ct
        refine iteT ?_
        refine ⟨_, rfl, _, rfl, (by show 1 ≤ sizeLine; decide), fun l nl => ?_⟩
        have s3 := same_upd (o := .lst [.ref ra]) nl
        have s123 := s12.trans s3
        refine ⟨q, l, as.map V.ref, [.ref ra], rfl, rfl, s123 _ _ hq.at_, upd_same, ?_, fun c nc => ?_⟩
        · rw [List.length_map, paired_len hq.all, lrs]
          exact Nat.le_of_lt (small1000 (by show i + 1 ≤ 1000; omega))
        · have s4 := same_upd (o := .lst (as.map V.ref ++ [V.ref ra])) nc
          have sA := s123.trans s4
          have he4 := (he2.same s3).same s4
          have Dc : c ≠ D := fun q => by
            have := (he2.same s3).at_
            rw [← q, nc] at this; cases this
          have hc : GA (upd (upd H2 l (.lst [.ref ra])) c (.lst (as.map V.ref ++ [V.ref ra]))) c (rs ++ [v]) := ⟨as ++ [ra], by rw [upd_same, List.map_append]; rfl, Paired.snoc (paired_same sA hq.all) (iv.same sA)⟩
          have sol : Solid (contd k rs (ch.take (j + 1))) := contd_solid pos1 fun v hv => pos2 v (List.mem_of_mem_take hv)
          rw [ct, if_pos rfl] at sol
          refine ⟨_, he4.at_, ?_, es ++ [c], same_grow sA nD, ⟨by rw [upd_same, List.map_append]; rfl, ?_⟩, fun z hz => ?_, fun z hz => ?_⟩
          · rw [List.length_map, paired_len he.all]
            have := contd_len k rs (ch.take j)
            have : (ch.take j).length ≤ ch.length := by rw [List.length_take]; exact Nat.min_le_right _ _
            exact small1000 (by omega)
          · rw [ct, if_pos rfl]
            exact Paired.snoc (pairedG_upd he4.at_ ne he4.all fun qs hqs => sol qs (List.mem_append.mpr (.inl hqs))) (hc.upd he4.at_ Dc (sol _ (List.mem_append.mpr (.inr (List.mem_singleton.mpr rfl)))))
          · rcases List.mem_append.mp hz with q | q
            · exact fe z q
            · rw [List.mem_singleton.mp q]; exact .inl (s123.free nc)
          · rcases List.mem_append.mp hz with q | q
            · exact ne z q
            · rw [List.mem_singleton.mp q]; exact Dc
    · rintro H1 ⟨es, s1, he, fe, ne⟩
      rw [List.length_map, paired_len hrr.all, List.take_length, hch] at he
      exact kk H1 D es s1 nD he fe
/-! ### ideals_with_own -/
abbrev nWithOwn : List Str := ["coefficients", "own", "found", "place", "choices", "longer", "rows"]
theorem scWithOwn : FnScope nWithOwn ["coefficients", "own"] (defScope sWithOwn) := ⟨rfl, rfl, rfl, by decide +kernel, rfl, by decide +kernel, by decide +kernel⟩
def spWithOwn : L2.Sp := fun vs H Q _ => ∃ (p q : Addr) (k : Vec) (m : Nat) (own : List Nat), vs = [.ref p, .ref q] ∧ IA H p k ∧ IA H q (natsI own) ∧ Coef k ∧ Own k.length m own ∧ m ≤ 30 ∧
  ∀ H' t es, Same H H' → H t = none → TA H' t es (withOwn k own) → From H [] es → Q (.ref t) H'
theorem grow_solid {k : Vec} {m : Nat} {own : List Nat} (o : Own k.length m own) (h0 : 0 < k.length) {p : Nat} (hp : p ≤ k.length) : Solid (grow k own p) := fun rs hr v hv => by
  rw [(grow_part o p hp rs hr).shape.lens v hv]; exact h0
theorem grow_more (k : Vec) (own : List Nat) (p : Nat) : grow k own (p + 1) = (grow k own p).flatMap fun rs => contd k rs (choices k.length (own.take p) (own.getD p 0)) := rfl
theorem paired_appG {H : Hp} {as bs : List Addr} {a b : List (List Vec)} (h : Paired (GA H) as a) (k : Paired (GA H) bs b) : Paired (GA H) (as ++ bs) (a ++ b) := paired_app h k
theorem solid_app {a b : List (List Vec)} (h : Solid a) (k : Solid b) : Solid (a ++ b) := fun rs hr => by
  rcases List.mem_append.mp hr with e | e
  · exact h rs e
  · exact k rs e
theorem solid_sub {a b : List (List Vec)} (h : Solid a) (k : ∀ x ∈ b, x ∈ a) : Solid b := fun rs hr => h rs (k rs hr)
end
end Hnd
set_option Elab.async false
set_option linter.all false
set_option maxRecDepth 100000
set_option maxHeartbeats 2000000
/-! ideals_with_own, ideals_of_norm. -/
namespace Hnd
open PySem PySem.Spec PyProof.Rows L2
open Idl hiding Sp F R E Top
open Nf02 (Vec)
section
variable {P : Program} {w : World} {K : PySem.W.Frag} {mg : Str → Option Value} {base : Heap}
theorem ok_withOwn (D : Df K mg "ideals_with_own" sWithOwn ["coefficients", "own"]) (cP : Ok P w K mg base 2 "rows_for_place" ["own", "place"] spForPlace) (cC : Ok P w K mg base 43 "continued" pContinued spContinued) (cI : Ok P w K mg base 41 "is_sum_of" ["rows", "number"] spIsSum) (cT : Ok P w K mg base 2 "times_t" ["coefficients", "number"] spTimesT) (mr : mg "range" = none) (ml : mg "len" = none) :
    Ok P w K mg base 44 "ideals_with_own" ["coefficients", "own"] spWithOwn := D.ok fun f fd F => by
  refine F.ok scWithOwn (fun vs H Q E h => ?_) (fun cdv A outer s H vs Q E hr h => ?_)
  · obtain ⟨p, q, k, m, own, rfl, _⟩ := h
    rfl
  · obtain ⟨p, q, k, m, own, rfl, ik, iq, co, ow, hm, kk⟩ := h
    refine ⟨_, pss_cons (ps_set (i := 2) scWithOwn.nd rfl (.inl rfl) (pe_lst (pa_cons (pe_lst pa_nil) pa_nil)))
      (pss_cons (ps_for PassesOwn.never rfl (pi_range1 rfl mr (pa_cons (pe_callB call_len_seq (by rfl) ml PySem.boot_len (pa_cons (pv 1) pa_nil)) pa_nil)) (pg_name (i := 3) scWithOwn.nd rfl (.inl rfl))
        (pss_cons (ps_set (i := 4) scWithOwn.nd rfl (.inl rfl) (pe_f cP hr (by decide) (by rfl) (pa_cons (pv 1) (pa_cons (pv 3) pa_nil))))
        (pss_cons (ps_set (i := 5) scWithOwn.nd rfl (.inl rfl) (pe_lst pa_nil))
        (pss_cons (ps_for PassesOwn.never rfl (pi_list (pv 2)) (pg_name (i := 6) scWithOwn.nd rfl (.inl rfl))
          (pss_one (ps_expr (pe_bm PySem.F.plainAttrs_list PySem.F.slot_list_extend PySem.F.type_list_extend mt_extend (pv 5) (pa_cons (pe_f cC hr (by decide) (by rfl) (pa_cons (pv 0) (pa_cons (pv 6) (pa_cons (pv 4) pa_nil)))) pa_nil)))))
        (pss_one (ps_set (i := 2) scWithOwn.nd rfl (.inl rfl) (pv 5)))))))
      (pss_one (ps_ret (pe_lc (own := [("rows", 6)]) (g := gName 6) rfl scWithOwn.nd (pi_list (pv 2)) (blkOk_by (N := nWithOwn) (sc := defScope sWithOwn) (by decide +kernel))
        (fun _ _ _ _ _ => pg_name (i := 6) scWithOwn.nd rfl (.inl rfl))
        (fun _ _ _ _ _ => pts_one (pt_val (pe_f cI hr (by decide) (by rfl) (pa_cons (pv 6) (pa_cons (pe_f cT hr (by decide) (by rfl) (pa_cons (pv 0) (pa_cons (pe_ix (ix_list_of (K := K) rfl) (pv 6) (pe_un un_neg pe_int) (fun _ _ => rfl)) pa_nil))) pa_nil)))))
        (fun _ _ _ _ _ => pv 6))))), ?_⟩
    have h4 := co.four
    have h0 := co.pos
    have lo := ow.len
    refine ⟨Nat.zero_le _, fun c nc => ?_⟩
    have s1 := same_upd (o := .lst []) nc
    refine ⟨(by show 1 ≤ sizeLine; decide), fun o no => ?_⟩
    have s2 := same_upd (o := .lst [.ref c]) no
    have s12 := s1.trans s2
    have co_ : c ≠ o := ne_of_none upd_same no
    have elen : (((natsI own).map V.int).length : Int) = (k.length : Int) := by rw [List.length_map, len_natsI, lo]
    refine ⟨_, rfl, q, _, rfl, .inl (iq.same s12).sq, (k.length : Int), congrArg (fun z => [V.int z]) elen, by omega, by omega, ?_⟩
    rw [Int.toNat_natCast]
    refine for_range (lo := 0) (n := k.length) (fun i σ H' => ∃ (u : Addr) (us : List Addr) (x y z v : Option V), σ = [some (.ref p), some (.ref q), some (.ref u), x, y, z, v] ∧ Same H H' ∧ H u = none ∧ TA H' u us (grow k own i) ∧ From H [] us) ?_ ?_ ?_
    · refine ⟨o, [c], none, none, none, none, rfl, s12, s1.free no, ⟨upd_same, .cons ⟨[], ?_, .nil⟩ .nil⟩, fun z hz => .inl (by rw [List.mem_singleton.mp hz]; exact nc)⟩
      rw [upd_ne co_, upd_same]; rfl
    · rintro i σ H1 hi ⟨u, us, x, y, z, v, rfl, s3, nu, hu, fu⟩
      rw [Int.zero_add]
      obtain ⟨ch, hch⟩ : ∃ ch, ch = choices k.length (own.take i) (own.getD i 0) := ⟨_, rfl⟩
      have gm : grow k own (i + 1) = (grow k own i).flatMap fun rs => contd k rs ch := by rw [hch]; exact grow_more k own i
      have many := grow_many ow hm h4 (i + 1) (by omega)
      rw [gm] at many
      refine ⟨_, rfl, _, rfl, q, own, m, k.length, i, rfl, iq.same s3, ow, hm, h4, hi, fun H2 r as s4 nr hr4 fr => ?_⟩
      rw [← hch] at hr4
      refine ⟨Nat.zero_le _, fun g ng => ?_⟩
      have s5 := same_upd (o := .lst []) ng
      have hu2 := hu.same s4
      have s34 := s3.trans s4
      have sol : Solid ((grow k own i).flatMap fun rs => contd k rs ch) := by rw [← gm]; exact grow_solid ow h0 (by omega)
      refine ⟨_, rfl, u, rfl, ⟨_, (hu2.same s5).sq⟩, for_list (K := K) (a := u) (xs := us.map V.ref) (fun j σ H' => ∃ (es : List Addr) (v : Option V), σ = [some (.ref p), some (.ref q), some (.ref u), some (.int (i : Int)), some (.ref r), some (.ref g), v] ∧ Same H2 H' ∧ TA H' g es (((grow k own i).take j).flatMap fun rs => contd k rs ch) ∧ From H2 [] es ∧ ∀ a ∈ es, a ≠ g) ?_ ?_ ?_ ?_⟩
      · exact ⟨[], v, rfl, s5, ⟨upd_same, .nil⟩, fun z hz => by simp at hz, fun z hz => by simp at hz⟩
      · rintro j σ H3 _ ⟨_, _, _, s6, _⟩
        exact (hu2.same s6).sq
      · rintro j x σ H3 hx ⟨es, v, rfl, s6, hg, fe, ne⟩
        obtain ⟨ra, ga, rfl⟩ := get_refs hx
        obtain ⟨rs, gr, ads, hrs⟩ := paired_at' hu2.all ga
        have part := grow_part ow i (by omega) rs (List.mem_of_getElem? gr)
        have s36 := s34.trans s6
        refine ⟨_, rfl, .inl ⟨rfl, _, hg.sq⟩, _, rfl, _, rfl, _, rfl, p, ra, r, ads, as, k, rs, m, i, own, rfl, ik.same s36, hrs.same s6, by rw [← hch]; exact hr4.same s6, co, ow, hm, hi, part, fun H4 t ts s7 nt ht ft => ?_⟩
        rw [← hch] at ht
        have hg4 := hg.same s7
        have ltot := len_flat_take (fun rs => contd k rs ch) (grow k own i) (j + 1)
        rw [flat_more gr, List.length_append, ← paired_len hg.all, ← paired_len ht.all] at ltot
        refine ⟨g, t, _, _, rfl, rfl, hg4.at_, ht.at_, ?_, ?_⟩
        · rw [List.length_map, List.length_map]
          exact Nat.le_of_lt (smallM (by omega))
        · have tne : ∀ a ∈ ts, a ≠ g := fun a ha e => by
            rcases ft a ha with q | q
            · rw [e, hg.at_] at q; cases q
            · simp at q
          have sol1 : Solid (((grow k own i).take (j + 1)).flatMap fun rs => contd k rs ch) := solid_sub sol fun x hx => by
            obtain ⟨y, hy, hx⟩ := List.mem_flatMap.mp hx
            exact List.mem_flatMap.mpr ⟨y, List.mem_of_mem_take hy, hx⟩
          rw [flat_more gr] at sol1
          refine ⟨es ++ ts, _, rfl, same_grow (s6.trans s7) ng, ⟨by rw [upd_same, List.map_append], ?_⟩, fun z hz => ?_, fun z hz => ?_⟩
          · rw [flat_more gr]
            exact paired_appG (pairedG_upd hg4.at_ ne hg4.all fun qs hq => sol1 qs (List.mem_append.mpr (.inl hq))) (pairedG_upd hg4.at_ tne ht.all fun qs hq => sol1 qs (List.mem_append.mpr (.inr hq)))
          · rcases List.mem_append.mp hz with q | q
            · exact fe z q
            · rcases ft z q with w | w
              · exact .inl (s6.free w)
              · simp at w
          · rcases List.mem_append.mp hz with q | q
            · exact ne z q
            · exact tne z q
      · rintro σ H3 ⟨es, v, rfl, s6, hg, fe, ne⟩
        rw [List.length_map, paired_len hu.all, List.take_length, ← gm] at hg
        refine ⟨_, rfl, g, es, _, _, _, _, rfl, s34.trans s6, s34.free ng, hg, fun z hz => ?_⟩
        rcases fe z hz with w | w
        · exact .inl (s34.free w)
        · simp at w
    · rintro σ H1 ⟨u, us, x, y, z, v, rfl, s3, nu, hu, fu⟩
      refine ⟨_, rfl, u, rfl, ⟨_, hu.sq⟩, fun D nD => ?_⟩
      have lus : us.length = (grow k own k.length).length := paired_len hu.all
      have many := grow_many ow hm h4 k.length (Nat.le_refl _)
      have sol := grow_solid ow h0 (Nat.le_refl k.length)
      refine lc_list (K := K) (a := u) (xs := us.map V.ref) (fun j H' => ∃ es : List Addr, Same H1 H' ∧ TA H' D es (((grow k own k.length).take j).filter (whole k)) ∧ From H [] es ∧ ∀ a ∈ es, a ≠ D) ⟨[], same_upd nD, ⟨upd_same, .nil⟩, fun z hz => by simp at hz, fun z hz => by simp at hz⟩
        (fun j H' _ ⟨_, s4, _⟩ => (hu.same s4).sq) ?_ ?_
      · rintro j x H2 hx ⟨es, s4, he, fe, ne⟩
        obtain ⟨ra, ga, rfl⟩ := get_refs hx
        obtain ⟨rs, gr, ads, hrs⟩ := paired_at' hu.all ga
        have part := grow_part ow k.length (Nat.le_refl _) rs (List.mem_of_getElem? gr)
        have lrs := part.len ow (Nat.le_refl _)
        have ct : ((grow k own k.length).take (j + 1)).filter (whole k) = ((grow k own k.length).take j).filter (whole k) ++ if whole k rs = true then [rs] else [] := by
          rw [take_one_more gr, List.filter_append, List.filter_cons]
          split <;> rfl
        have hrs2 := hrs.same s4
        obtain ⟨la, ela, ia⟩ := last_row hrs2 (by omega)
        have ll : (rs.getLastD []).length = k.length := part.shape.lens _ (by rw [last_getD (by omega)]; exact mem_getD (by omega))
        have lb : ∀ j, (Idl.F (rs.getLastD []) j).natAbs ≤ m := part.bd _ (by rw [last_getD (by omega)]; exact mem_getD (by omega))
        have s34 := s3.trans s4
        refine ⟨rfl, _, rfl, _, rfl, _, rfl, _, rfl, ra, _, _, _, rfl, rfl, hrs2.sq, ela, p, la, k, rs.getLastD [], rfl, ik.same s34, ia, ll, h0, small4 h4, mul_row co hm ll lb, fun H3 t s5 nt it => ?_⟩
        refine ⟨ra, t, ads, rs, Nf02.up k (rs.getLastD []), k.length, rfl, hrs2.same s5, it, part_away ow hm h4 (Nat.le_refl _) part, len_up ll h0, up_lim co ll hm lb, fun H4 s6 => ⟨_, rfl, ?_⟩⟩
        have s46 := (s4.trans s5).trans s6
        have he4 := (he.same s5).same s6
        have rne : ra ≠ D := fun e => by
          have := hrs.at_
          rw [e, nD] at this; cases this
        have sol1 : Solid (((grow k own k.length).take j).filter (whole k)) := solid_sub sol fun x hx => List.mem_of_mem_take (List.mem_filter.mp hx).1
        cases hw : whole k rs with
        | false =>
          rw [show Nf02.has rs (Nf02.up k (rs.getLastD [])) = false from hw]
          rw [hw] at ct
          refine iteF ⟨es, s46, ?_, fe, ne⟩
          rw [ct]
          simpa using he4
        | true =>
          rw [show Nf02.has rs (Nf02.up k (rs.getLastD [])) = true from hw]
          rw [hw] at ct
          refine iteT ?_
          refine ⟨_, rfl, _, he4.at_, ?_, es ++ [ra], same_grow s46 nD, ⟨by rw [upd_same, List.map_append]; rfl, ?_⟩, fun z hz => ?_, fun z hz => ?_⟩
          · rw [List.length_map, paired_len he.all]
            have := List.length_filter_le (whole k) ((grow k own k.length).take j)
            have : ((grow k own k.length).take j).length ≤ (grow k own k.length).length := by rw [List.length_take]; exact Nat.min_le_right _ _
            exact smallM (by omega)
          · rw [ct, if_pos rfl]
            exact Paired.snoc (pairedG_upd he4.at_ ne he4.all sol1) (GA.upd he4.at_ rne ⟨ads, (hrs2.same s5).same s6⟩ (sol rs (List.mem_of_getElem? gr)))
          · rcases List.mem_append.mp hz with q | q
            · exact fe z q
            · rw [List.mem_singleton.mp q]; exact fu ra (List.mem_of_getElem? ga)
          · rcases List.mem_append.mp hz with q | q
            · exact ne z q
            · rw [List.mem_singleton.mp q]; exact rne
      · rintro H2 ⟨es, s4, he, fe, ne⟩
        rw [List.length_map, lus, List.take_length] at he
        refine kk H2 D es (s3.trans s4) (s3.free nD) ?_ fe
        unfold withOwn
        rw [lo]
        exact he
/-! ### ideals_of_norm -/
theorem scOfNorm : FnScope ["coefficients", "norm", "ideals", "own"] ["coefficients", "norm"] (defScope sOfNorm) := ⟨rfl, rfl, rfl, by decide +kernel, rfl, by decide +kernel, by decide +kernel⟩
def spOfNorm : L2.Sp := fun vs H Q _ => ∃ (p : Addr) (k : Vec) (m : Nat), vs = [.ref p, .int (m : Int)] ∧ IA H p k ∧ Coef k ∧ m ≤ 30 ∧
  ∀ H' t es, Same H H' → H t = none → TA H' t es (ofNormP k m) → Q (.ref t) H'
theorem ofNormP_solid {k : Vec} {m : Nat} (h0 : 0 < k.length) : Solid (ofNormP k m) := fun rs hr v hv => by
  rw [(ofNormP_part hr).2 v hv]; exact h0
theorem ok_ofNorm (D : Df K mg "ideals_of_norm" sOfNorm ["coefficients", "norm"]) (cO : Ok P w K mg base 5 "own_numbers_of_norm" pOwnsOf (spOwnsOf 5)) (cW : Ok P w K mg base 44 "ideals_with_own" ["coefficients", "own"] spWithOwn) (ml : mg "len" = none) : Ok P w K mg base 45 "ideals_of_norm" ["coefficients", "norm"] spOfNorm := D.ok fun f fd F => by
  refine F.ok scOfNorm (fun vs H Q E h => ?_) (fun cdv A outer s H vs Q E hr h => ?_)
  · obtain ⟨p, k, m, rfl, _⟩ := h
    rfl
  · obtain ⟨p, k, m, rfl, ik, co, hm, kk⟩ := h
    refine ⟨_, pss_cons (ps_set (i := 2) scOfNorm.nd rfl (.inl rfl) (pe_lst pa_nil))
      (pss_cons (ps_for PassesOwn.never rfl (pi_list (pe_f cO hr (by decide) (by rfl) (pa_cons (pv 1) (pa_cons (pv 1) (pa_cons (pe_callB call_len_seq (by rfl) ml PySem.boot_len (pa_cons (pv 0) pa_nil)) pa_nil))))) (pg_name (i := 3) scOfNorm.nd rfl (.inl rfl))
        (pss_one (ps_expr (pe_bm PySem.F.plainAttrs_list PySem.F.slot_list_extend PySem.F.type_list_extend mt_extend (pv 2) (pa_cons (pe_f cW hr (by decide) (by rfl) (pa_cons (pv 0) (pa_cons (pv 3) pa_nil))) pa_nil)))))
      (pss_one (ps_ret (pv 2)))), ?_⟩
    have h4 := co.four
    have h0 := co.pos
    refine ⟨Nat.zero_le _, fun o no => ?_⟩
    have s1 := same_upd (o := .lst []) no
    refine ⟨_, rfl, _, rfl, _, rfl, p, _, rfl, .inl (ik.same s1).sq, m, m, k.length, ?_, hm, hm, h4, by omega, fun H2 r as s2 nr hr2 fr => ?_⟩
    · rw [List.length_map]; rfl
    · have s12 := s1.trans s2
      have las : as.length = (ownsOf k.length m m).length := by rw [paired_len hr2.all, len_natsL]
      have many := ofNormP_many (k := k) hm h4
      have solid := ofNormP_solid (k := k) (m := m) h0
      refine ⟨r, rfl, ⟨_, hr2.sq⟩, for_list (K := K) (a := r) (xs := as.map V.ref) (fun j σ H' => ∃ (es : List Addr) (v : Option V), σ = [some (.ref p), some (.int (m : Int)), some (.ref o), v] ∧ Same H H' ∧ RA H' r as (natsL (ownsOf k.length m m)) ∧ TA H' o es (((ownsOf k.length m m).take j).flatMap (withOwn k)) ∧ ∀ a ∈ es, a ≠ o) ?_ ?_ ?_ ?_⟩
      · exact ⟨[], none, rfl, s12, hr2, ⟨s2 _ _ upd_same, .nil⟩, fun z hz => by simp at hz⟩
      · rintro j σ H3 _ ⟨_, _, _, _, hr3, _⟩
        exact hr3.sq
      · rintro j x σ H3 hx ⟨es, v, rfl, s13, hr3, ho, ne⟩
        obtain ⟨oa, ga, rfl⟩ := get_refs hx
        obtain ⟨ov, gv, iv⟩ := paired_at' hr3.all ga
        unfold natsL at gv
        rw [List.getElem?_map] at gv
        obtain ⟨own, go, rfl⟩ : ∃ own, (ownsOf k.length m m)[j]? = some own ∧ ov = natsI own := by
          cases q : (ownsOf k.length m m)[j]? with
          | none => rw [q] at gv; cases gv
          | some l => rw [q] at gv; exact ⟨l, rfl, (Option.some.inj gv).symm⟩
        have ow := owns_are (List.mem_of_getElem? go)
        refine ⟨_, rfl, .inl ⟨rfl, _, ho.sq⟩, _, rfl, _, rfl, p, oa, k, m, own, rfl, ik.same s13, iv, co, ow, hm, fun H4 t ts s4 nt ht ft => ?_⟩
        have ho4 := ho.same s4
        have ltot := len_flat_take (withOwn k) (ownsOf k.length m m) (j + 1)
        rw [flat_more go, List.length_append, ← paired_len ho.all, ← paired_len ht.all] at ltot
        have : ((ownsOf k.length m m).flatMap (withOwn k)).length ≤ 540000 := many
        refine ⟨o, t, _, _, rfl, rfl, ho4.at_, ht.at_, ?_, ?_⟩
        · rw [List.length_map, List.length_map]
          exact Nat.le_of_lt (smallM (by omega))
        · have tne : ∀ a ∈ ts, a ≠ o := fun a ha e => by
            rcases ft a ha with q | q
            · rw [e, ho.at_] at q; cases q
            · simp at q
          have sol1 : Solid (((ownsOf k.length m m).take (j + 1)).flatMap (withOwn k)) := solid_sub solid fun x hx => by
            obtain ⟨y, hy, hx⟩ := List.mem_flatMap.mp hx
            exact List.mem_flatMap.mpr ⟨y, List.mem_of_mem_take hy, hx⟩
          rw [flat_more go] at sol1
          have hr4 := hr3.same s4
          have ro : r ≠ o := fun e => by
            rw [e] at nr
            rw [upd_same] at nr; cases nr
          refine ⟨es ++ ts, _, rfl, same_grow (s13.trans s4) no, ⟨by rw [upd_ne ro]; exact hr4.at_, paired_upd ho4.at_ hr4.all fun x hx => ?_⟩, ⟨by rw [upd_same, List.map_append], ?_⟩, fun z hz => ?_⟩
          · unfold natsL at hx
            obtain ⟨l, hl, rfl⟩ := List.mem_map.mp hx
            rw [len_natsI, (owns_are hl).len]; exact h0
          · rw [flat_more go]
            exact paired_appG (pairedG_upd ho4.at_ ne ho4.all fun qs hq => sol1 qs (List.mem_append.mpr (.inl hq))) (pairedG_upd ho4.at_ tne ht.all fun qs hq => sol1 qs (List.mem_append.mpr (.inr hq)))
          · rcases List.mem_append.mp hz with q | q
            · exact ne z q
            · exact tne z q
      · rintro σ H3 ⟨es, v, rfl, s3, _, ho, ne⟩
        rw [List.length_map, las, List.take_length] at ho
        exact ⟨_, rfl, kk H3 o es s3 no ho⟩
end
end Hnd
set_option Elab.async false
set_option linter.all false
set_option maxRecDepth 100000
set_option maxHeartbeats 2000000
/-! refusal; Holding. -/
namespace Hnd
open PySem PySem.Spec PyProof.Rows L2
open Idl hiding Sp F R E Top mul_ok
open Nf02 (Vec)
abbrev sRefusal : Stmt := top 34
abbrev sHoInit : Stmt := inClass (top 38) 0
abbrev sHoRing : Stmt := inClass (top 38) 1
abbrev sHoHas : Stmt := inClass (top 38) 2
abbrev sHoKeep : Stmt := inClass (top 38) 3
abbrev sHoDrop : Stmt := inClass (top 38) 4
/-! ### what stays -/
def Stay (bs : List Addr) (H H' : Hp) : Prop := ∀ b o, H b = some o → b ∉ bs → H' b = some o
theorem Stay.trans {bs : List Addr} {H H1 H2 : Hp} (h : Stay bs H H1) (k : Stay bs H1 H2) : Stay bs H H2 := fun b o e n => k b o (h b o e n) n
theorem Same.stay {bs : List Addr} {H H1 : Hp} (h : Same H H1) : Stay bs H H1 := fun b o e _ => h b o e
theorem But.stay {r : Addr} {bs : List Addr} {H H1 : Hp} (h : But r H H1) (m : r ∈ bs) : Stay bs H H1 := fun b o e n => h b o e fun q => n (q ▸ m)
theorem Stay.mono {bs cs : List Addr} {H H1 : Hp} (h : Stay bs H H1) (m : ∀ b ∈ bs, b ∈ cs) : Stay cs H H1 := fun b o e n => h b o e fun q => n (m b q)
theorem Stay.upd {bs : List Addr} {r : Addr} {H H1 : Hp} {o : HO} (h : Stay bs H H1) (m : r ∈ bs) : Stay bs H (upd H1 r o) := fun b x e n => by
  have : b ≠ r := fun q => n (q ▸ m)
  rw [upd_ne this]
  exact h b x e n
/-! ### a list of one number -/
theorem one_int {H : Hp} {p : Addr} {z : Int} : IA (upd H p (.lst [.int z])) p [z] := upd_same
/-! ### methods by name -/
structure MOk (P : Program) (w : World) (K : PySem.W.Frag) (mg : Str → Option Value) (base : Heap) (k : Nat) (C : Addr) (m : Str) (ps : List Str) (sp : L2.Sp) : Prop where
  ex : ∃ f fd, FnOk P w K mg base CX0 k f fd ps sp ∧ Meth K C m f ∧ Binds K fd ps []
section
variable {X : Cx} {k j : Nat} {C : Addr} {m : Str} {ps : List Str} {sp : L2.Sp} {pos apos : Pos} {e o : Expr} {es : List Expr} {ta : TE} {t : L2.TA} {pl : Sem Bool}
theorem pe_m (c : MOk X.prog X.w X.K X.mg X.base k C m ps sp) (cl : Cls X.K C) (hr : Room j X.A) (hk : k ≤ j) (he : PE X o ta) (ha : PA X (e :: es) t)
    (hst : starEach (e :: es) X.env = (false, eval e X.env) :: starEach es X.env := by rfl) (hpl : (backTo pos (starEach es X.env)).any (·.1) = false := by rfl)
    (ht : eval (.Call (.Attribute o m apos) (e :: es) [] pos) X.env = (do
      let ov ← eval o X.env
      standAt apos.atName
      let (f, first) ← holding [ov] (getMethod ov m pl)
      callWith pos f first (backTo pos (starEach (e :: es) X.env)) (backToKw pos (keywordEach [] X.env))) := by rfl) :
    PE X (.Call (.Attribute o m apos) (e :: es) [] pos) (tMeth C m sp [] E0 ta t) := by
  obtain ⟨f, fd, F, hm, b⟩ := c.ex
  exact pe_meth he cl hm F (hr.mono hk) b .nil pass0 ha hst hpl ht
theorem pe_m0 (c : MOk X.prog X.w X.K X.mg X.base k C m ps sp) (cl : Cls X.K C) (hr : Room j X.A) (hk : k ≤ j) (he : PE X o ta)
    (ht : eval (.Call (.Attribute o m apos) [] [] pos) X.env = (do
      let ov ← eval o X.env
      standAt apos.atName
      let (f, first) ← holding [ov] (getMethod ov m pl)
      callWith pos f first (backTo pos (starEach [] X.env)) (backToKw pos (keywordEach [] X.env))) := by rfl) :
    PE X (.Call (.Attribute o m apos) [] [] pos) (tMeth C m sp [] E0 ta tNil) := by
  obtain ⟨f, fd, F, hm, b⟩ := c.ex
  exact pe_meth0 he cl hm F (hr.mono hk) b .nil pass0 ht
end
/-- a whole number of a module -/
def GI (mg : Str → Option Value) (x : Str) (n : Int) : Prop := ∃ t, mg x = some (.int n t)
theorem pe_num {X : Cx} {x : Str} {n : Int} {pos : Pos} (h : GI X.mg x n) (hg : Gl X x) (hd : (x == ("__debug__" : Str)) = false := by decide) : PE X (.Name x pos) (tC (.int n)) := by
  obtain ⟨t, h⟩ := h
  exact pe_glob hg h ⟨t, rfl⟩ hd
section
variable {P : Program} {w : World} {K : PySem.W.Frag} {mg : Str → Option Value} {base : Heap} {C : Addr}
/-! ### refusal -/
theorem scRefusal : FnScope ["reason"] ["reason"] (defScope sRefusal) := ⟨rfl, rfl, rfl, by decide +kernel, rfl, by decide +kernel, by decide +kernel⟩
def spRefusal : L2.Sp := fun vs H Q _ => ∃ z : Int, vs = [.int z] ∧ ∀ H' v, Same H H' → H v = none → IA H' v [-z] → Q (.ref v) H'
theorem ok_refusal (D : Df K mg "refusal" sRefusal ["reason"]) : Ok P w K mg base 1 "refusal" ["reason"] spRefusal := D.ok fun f fd F => by
  refine F.ok scRefusal (fun vs H Q E h => ?_) (fun cdv A outer s H vs Q E hr h => ?_)
  · obtain ⟨z, rfl, _⟩ := h
    rfl
  · obtain ⟨z, rfl, kk⟩ := h
    refine ⟨_, pss_one (ps_ret (pe_lst (pa_cons (pe_un un_neg (pv 0)) pa_nil))), ?_⟩
    exact ⟨_, rfl, _, rfl, (by show 1 ≤ sizeLine; decide), fun v nv => kk _ v (same_upd nv) nv one_int⟩
/-! ### the holding -/
def hoF (ka la : Addr) : List (Str × V) := [("coefficients", .ref ka), ("ideals", .ref la)]
def HoAt (C : Addr) (H : Hp) (h ka la : Addr) : Prop := ∃ dx, H h = some (.ins C dx (hoF ka la))
theorem ho_k (ka la : Addr) : (hoF ka la).lookup ("coefficients" : Str) = some (.ref ka) := lk_here
theorem ho_l (ka la : Addr) : (hoF ka la).lookup ("ideals" : Str) = some (.ref la) := (lk_past (by decide +kernel)).trans lk_here
theorem ho_putK (ka la p : Addr) : putF "coefficients" (.ref p) (hoF ka la) = hoF p la := put_here
theorem ho_putL (ka la p : Addr) : putF "ideals" (.ref p) (hoF ka la) = hoF ka p := (put_past (by decide +kernel)).trans (congrArg _ put_here)
theorem ho_new (ka la : Addr) : putF "ideals" (.ref la) (putF "coefficients" (.ref ka) []) = hoF ka la := (put_past (by decide +kernel)).trans rfl
structure TxtH (K : PySem.W.Frag) (mg : Str → Option Value) (C : Addr) : Prop where
  cl : Cls K C
  nK : NoAttr K C "coefficients"
  nL : NoAttr K C "ideals"
abbrev Ad := List (Addr × List Addr)
def heads (xs : Ad) : List Addr := xs.map (·.1)
/-- all the addresses that a state hangs on -/
def foot (h ka la : Addr) (xs : Ad) : List Addr := h :: ka :: la :: xs.flatMap fun x => x.1 :: x.2
def RX (H : Hp) (x : Addr × List Addr) (a : List Vec) : Prop := RA H x.1 x.2 a
structure Hold (C : Addr) (H : Hp) (h ka la : Addr) (xs : Ad) (k : Vec) (l : List (List Vec)) : Prop where
  at_ : HoAt C H h ka la
  ik : IA H ka k
  il : H la = some (.lst ((heads xs).map V.ref))
  rows : Paired (RX H) xs l
  ring : Ring k
  each : ∀ a ∈ l, Ideal k a ∧ Small a
  many : l.length ≤ 8
  apart : ∀ x ∈ xs, x.1 ≠ la
theorem mem_foot {h ka la b : Addr} {xs : Ad} : b ∈ foot h ka la xs ↔ b = h ∨ b = ka ∨ b = la ∨ ∃ x ∈ xs, b = x.1 ∨ b ∈ x.2 := by
  unfold foot
  rw [List.mem_cons, List.mem_cons, List.mem_cons, List.mem_flatMap]
  simp only [List.mem_cons]
theorem Paired.mem {α β : Type} {G : α → β → Prop} : ∀ {as : List α} {vs : List β} {a : α}, Paired G as vs → a ∈ as → ∃ v ∈ vs, G a v
  | _, _, a, .nil, h => by simp at h
  | _, _, a, .cons g t, h => by
    rcases List.mem_cons.mp h with e | e
    · rw [e]; exact ⟨_, List.mem_cons_self .., g⟩
    · obtain ⟨v, hv, q⟩ := Paired.mem t e
      exact ⟨v, List.mem_cons_of_mem _ hv, q⟩
theorem Paired.memG {α β : Type} {G G' : α → β → Prop} : ∀ {as : List α} {vs : List β}, Paired G as vs → (∀ a ∈ as, ∀ v ∈ vs, G a v → G' a v) → Paired G' as vs
  | _, _, .nil, _ => .nil
  | _, _, .cons g t, h => .cons (h _ (List.mem_cons_self ..) _ (List.mem_cons_self ..) g) (Paired.memG t fun a ha v hv => h a (List.mem_cons_of_mem _ ha) v (List.mem_cons_of_mem _ hv))
theorem Hold.stay {H H' : Hp} {h ka la : Addr} {xs : Ad} {k : Vec} {l : List (List Vec)} {bs : List Addr} (S : Hold C H h ka la xs k l) (st : Stay bs H H') (no : ∀ b ∈ foot h ka la xs, b ∉ bs) : Hold C H' h ka la xs k l := by
  have n1 := no h (mem_foot.mpr (.inl rfl))
  have n2 := no ka (mem_foot.mpr (.inr (.inl rfl)))
  have n3 := no la (mem_foot.mpr (.inr (.inr (.inl rfl))))
  obtain ⟨dx, hat⟩ := S.at_
  refine ⟨⟨dx, st _ _ hat n1⟩, st _ _ S.ik n2, st _ _ S.il n3, Paired.memG S.rows fun x hx a _ g => ⟨st _ _ g.at_ (no _ (mem_foot.mpr (.inr (.inr (.inr ⟨x, hx, .inl rfl⟩))))), Paired.memG g.all fun b hb v _ q => st _ _ q (no _ (mem_foot.mpr (.inr (.inr (.inr ⟨x, hx, .inr hb⟩)))))⟩, S.ring, S.each, S.many, S.apart⟩
theorem Hold.same {H H' : Hp} {h ka la : Addr} {xs : Ad} {k : Vec} {l : List (List Vec)} (S : Hold C H h ka la xs k l) (s : Same H H') : Hold C H' h ka la xs k l := S.stay (bs := []) (Same.stay s) fun _ _ q => by simp at q
/-- all of the foot is there -/
theorem Hold.there {H : Hp} {h ka la : Addr} {xs : Ad} {k : Vec} {l : List (List Vec)} (S : Hold C H h ka la xs k l) {b : Addr} (hb : b ∈ foot h ka la xs) : H b ≠ none := fun e => by
  rcases mem_foot.mp hb with q | q | q | ⟨x, hx, q⟩
  · obtain ⟨dx, hat⟩ := S.at_
    rw [← q, e] at hat; cases hat
  · have := S.ik
    unfold IA at this
    rw [← q, e] at this; cases this
  · have := S.il
    rw [← q, e] at this; cases this
  · obtain ⟨a, _, g⟩ := Paired.mem S.rows hx
    rcases q with q | q
    · have := g.at_
      rw [← q, e] at this; cases this
    · obtain ⟨v, _, i⟩ := Paired.mem g.all q
      unfold IA at i
      rw [e] at i; cases i
theorem Hold.lenk {H : Hp} {h ka la : Addr} {xs : Ad} {k : Vec} {l : List (List Vec)} (S : Hold C H h ka la xs k l) : xs.length = l.length := paired_len S.rows
/-- a change of the list of the ideals touches nothing else -/
theorem Hold.updL {H : Hp} {h ka la : Addr} {xs ys : Ad} {k : Vec} {l m : List (List Vec)} (S : Hold C H h ka la xs k l) (hy : ∀ y ∈ ys, y ∈ xs) (hm : ∀ a ∈ m, a ∈ l) (r : Paired (RX H) ys m) (hl : m.length ≤ 8) :
    Hold C (upd H la (.lst ((heads ys).map V.ref))) h ka la ys k m := by
  obtain ⟨dx, hat⟩ := S.at_
  have n1 : h ≠ la := ne_of hat S.il (by intro z; cases z)
  have n2 : ka ≠ la := ref_ne_int S.il S.ik S.ring.pos
  refine ⟨⟨dx, by rw [upd_ne n1]; exact hat⟩, by unfold IA; rw [upd_ne n2]; exact S.ik, upd_same, Paired.memG r fun x hx a ha g => ?_, S.ring, fun a ha => S.each a (hm a ha), hl, fun x hx => S.apart x (hy x hx)⟩
  have nx := S.apart x (hy x hx)
  refine ⟨by rw [upd_ne nx]; exact g.at_, paired_upd S.il g.all fun v hv => ?_⟩
  rw [(S.each a (hm a ha)).1.rows.lens v hv]; exact S.ring.pos
end
end Hnd
set_option Elab.async false
set_option linter.all false
set_option maxRecDepth 100000
set_option maxHeartbeats 2000000
/-! Holding's methods. -/
namespace Hnd
open PySem PySem.Spec PyProof.Rows L2
open Idl hiding Sp F R E Top mul_ok
open Nf02 (Vec)
section
variable {P : Program} {w : World} {K : PySem.W.Frag} {mg : Str → Option Value} {base : Heap} {C : Addr}
/-! ### __init__ -/
theorem scHoInit : FnScope ["self"] ["self"] (defScope sHoInit) := ⟨rfl, rfl, rfl, by decide +kernel, rfl, by decide +kernel, by decide +kernel⟩
def spHoInit (C : Addr) : L2.Sp := fun vs H Q _ => ∃ (p dx : Addr), vs = [.ref p] ∧ H p = some (.ins C dx []) ∧
  ∀ H' ka la, Hold C H' p ka la [] [1, 0] [] → (∀ b ∈ foot p ka la [], b = p ∨ H b = none) → But p H H' → Q .non H'
theorem ok_hoInit {f : Addr} {fd : FuncData} (F : Fun K "__init__" "Holding.__init__" sHoInit f fd) (T : TxtH K mg C) : FnOk P w K mg base CX0 1 f fd ["self"] (spHoInit C) := by
  refine F.ok scHoInit (fun vs H Q E h => ?_) (fun cdv A outer s H vs Q E hr h => ?_)
  · obtain ⟨p, dx, rfl, _⟩ := h
    rfl
  · obtain ⟨p, dx, rfl, hp, kk⟩ := h
    refine ⟨_, pss_cons (ps_fld (pv 0) (pe_lst (pa_cons pe_int (pa_cons pe_int pa_nil))) rfl) (pss_one (ps_fld (pv 0) (pe_lst pa_nil) rfl)), ?_⟩
    refine ⟨(by show 2 ≤ sizeLine; decide), fun ka nk => ?_⟩
    have s1 := same_upd (o := .lst [.int 1, .int 0]) nk
    have kp : ka ≠ p := fun e => by rw [e, hp] at nk; cases nk
    refine ⟨_, rfl, p, C, dx, [], rfl, s1 _ _ hp, T.cl, T.nK, (by show 0 < 1000; decide), ?_⟩
    refine ⟨Nat.zero_le _, fun la nl => ?_⟩
    have lp : la ≠ p := fun e => by rw [e, upd_same] at nl; cases nl
    have lk : la ≠ ka := fun e => by rw [e, upd_ne kp, upd_same] at nl; cases nl
    have nlH : H la = none := by
      rw [upd_ne lp, upd_ne lk] at nl; exact nl
    refine ⟨_, rfl, p, C, dx, _, rfl, (by rw [upd_ne lp.symm]; exact upd_same), T.cl, T.nL, (by show 1 < 1000; decide), ?_⟩
    refine kk _ ka la ⟨⟨dx, Eq.trans upd_same (congrArg (fun q => some (HO.ins C dx q)) (ho_new ka la))⟩, ?_, ?_, .nil, first_ring, fun a ha => by simp at ha, by decide, fun x hx => by simp at hx⟩ (fun b hb => ?_) ?_
    · unfold IA
      rw [upd_ne kp, upd_ne lk.symm, upd_ne kp, upd_same]; rfl
    · rw [upd_ne lp, upd_same]; rfl
    · rcases mem_foot.mp hb with q | q | q | ⟨x, hx, _⟩
      · exact .inl q
      · exact .inr (q ▸ nk)
      · exact .inr (q ▸ nlH)
      · simp at hx
    · intro b o e n
      have b1 : b ≠ la := fun q => by rw [q, nlH] at e; cases e
      have b2 : b ≠ ka := fun q => by rw [q, nk] at e; cases e
      rw [upd_ne n, upd_ne b1, upd_ne n, upd_ne b2]; exact e
/-! ### change_ring -/
theorem scHoRing : FnScope ["self", "coefficients"] ["self", "coefficients"] (defScope sHoRing) := ⟨rfl, rfl, rfl, by decide +kernel, rfl, by decide +kernel, by decide +kernel⟩
def spHoRing (C : Addr) : L2.Sp := fun vs H Q _ => ∃ (h p ka la : Addr) (k : Vec), vs = [.ref h, .ref p] ∧ HoAt C H h ka la ∧ IA H p k ∧ Ring k ∧ p ≠ h ∧
  ∀ H' la', Hold C H' h p la' [] k [] → H la' = none → Stay [h] H H' → Q .non H'
theorem ok_hoRing {f : Addr} {fd : FuncData} (F : Fun K "change_ring" "Holding.change_ring" sHoRing f fd) (T : TxtH K mg C) : FnOk P w K mg base CX0 1 f fd ["self", "coefficients"] (spHoRing C) := by
  refine F.ok scHoRing (fun vs H Q E h => ?_) (fun cdv A outer s H vs Q E hr h => ?_)
  · obtain ⟨h, p, ka, la, k, rfl, _⟩ := h
    rfl
  · obtain ⟨h, p, ka, la, k, rfl, ⟨dx, hat⟩, ip, ring, ph, kk⟩ := h
    refine ⟨_, pss_cons (ps_fld (pv 0) (pv 1) rfl) (pss_one (ps_fld (pv 0) (pe_lst pa_nil) rfl)), ?_⟩
    refine ⟨_, rfl, _, rfl, h, C, dx, _, rfl, hat, T.cl, T.nK, (by show 2 < 1000; decide), ?_⟩
    refine ⟨Nat.zero_le _, fun la' nl => ?_⟩
    have lh : la' ≠ h := fun e => by rw [e, upd_same] at nl; cases nl
    have nlH : H la' = none := by rw [upd_ne lh] at nl; exact nl
    have lp : la' ≠ p := fun e => by
      unfold IA at ip
      rw [← e, nlH] at ip; cases ip
    refine ⟨_, rfl, h, C, dx, hoF p la, rfl, ?_, T.cl, T.nL, (by show 2 < 1000; decide), ?_⟩
    · rw [upd_ne lh.symm]
      exact Eq.trans upd_same (congrArg (fun q => some (HO.ins C dx q)) (ho_putK ka la p))
    · refine kk _ la' ⟨⟨dx, Eq.trans upd_same (congrArg (fun q => some (HO.ins C dx q)) (ho_putL p la la'))⟩, ?_, ?_, .nil, ring, fun a ha => by simp at ha, Nat.zero_le _, fun x hx => by simp at hx⟩ nlH ?_
      · unfold IA
        rw [upd_ne ph, upd_ne lp.symm, upd_ne ph]; exact ip
      · rw [upd_ne lh, upd_same]; rfl
      · intro b o e n
        have n1 : b ≠ h := fun q => n (List.mem_singleton.mpr q)
        have n2 : b ≠ la' := fun q => by rw [q, nlH] at e; cases e
        rw [upd_ne n1, upd_ne n2, upd_ne n1]; exact e
/-! ### has_ideal -/
theorem scHoHas : FnScope ["self", "i"] ["self", "i"] (defScope sHoHas) := ⟨rfl, rfl, rfl, by decide +kernel, rfl, by decide +kernel, by decide +kernel⟩
def spHoHas (C : Addr) : L2.Sp := fun vs H Q _ => ∃ (h ka la : Addr) (xs : Ad) (k : Vec) (l : List (List Vec)) (i : Nat), vs = [.ref h, .int (i : Int)] ∧ Hold C H h ka la xs k l ∧ Q (.bl (decide (i < l.length))) H
theorem Hold.llen {H : Hp} {h ka la : Addr} {xs : Ad} {k : Vec} {l : List (List Vec)} (S : Hold C H h ka la xs k l) : ((heads xs).map V.ref).length = l.length := by
  unfold heads
  rw [List.length_map, List.length_map, S.lenk]
theorem ok_hoHas {f : Addr} {fd : FuncData} (F : Fun K "has_ideal" "Holding.has_ideal" sHoHas f fd) (T : TxtH K mg C) (ml : mg "len" = none) : FnOk P w K mg base CX0 1 f fd ["self", "i"] (spHoHas C) := by
  refine F.ok scHoHas (fun vs H Q E h => ?_) (fun cdv A outer s H vs Q E hr h => ?_)
  · obtain ⟨h, ka, la, xs, k, l, i, rfl, _⟩ := h
    rfl
  · obtain ⟨h, ka, la, xs, k, l, i, rfl, S, q⟩ := h
    obtain ⟨dx, hat⟩ := S.at_
    refine ⟨_, pss_one (ps_ret (pe_cmpR op_lt (pv 1) (pe_callB call_len_seq (by rfl) ml PySem.boot_len (pa_cons (pe_fld (pv 0) rfl) pa_nil)) (nomark _))), ?_⟩
    refine ⟨_, rfl, _, rfl, h, C, dx, _, _, rfl, hat, T.cl, T.nL, ho_l ka la, la, _, rfl, .inl (SqL.of S.il), _, _, rfl, rfl, ?_⟩
    have e : (decide ((i : Int) < (((heads xs).map V.ref).length : Int))) = decide (i < l.length) := by
      rw [S.llen, Bool.eq_iff_iff, decide_eq_true_eq, decide_eq_true_eq]; omega
    show Q (.bl (decide ((i : Int) < (((heads xs).map V.ref).length : Int)))) H
    rw [e]
    exact q
/-! ### keep -/
theorem scHoKeep : FnScope ["self", "rows"] ["self", "rows"] (defScope sHoKeep) := ⟨rfl, rfl, rfl, by decide +kernel, rfl, by decide +kernel, by decide +kernel⟩
def putA (k : Vec) (l : List (List Vec)) (rows : List Vec) : Nf02.State × Nf02.Ans := Nf02.State.put ⟨k, l⟩ rows
def spHoKeep (C : Addr) : L2.Sp := fun vs H Q _ => ∃ (h u ka la : Addr) (xs : Ad) (ds : List Addr) (k : Vec) (l : List (List Vec)) (rows : List Vec), vs = [.ref h, .ref u] ∧ Hold C H h ka la xs k l ∧ RA H u ds rows ∧ Ideal k rows ∧ Bd (2 ^ LIM) rows ∧ u ≠ la ∧
  ∀ H' v xs', Hold C H' h ka la xs' k (putA k l rows).1.l → IA H' v (Nf02Neutral.out (putA k l rows).2) → H v = none → Stay [la] H H' → (∀ b ∈ foot h ka la xs', b ∈ foot h ka la xs ∨ b = u ∨ b ∈ ds) → Q (.ref v) H'
theorem Ideal.diagB {k : Vec} {rows : List Vec} (h : Ideal k rows) (hb : Bd (2 ^ LIM) rows) : ∀ i, i < k.length → 0 < Idl.R rows i i ∧ (Idl.R rows i i).natAbs ≤ 2 ^ LIM := fun i hi => by
  refine ⟨h.rows.hnf.pos i hi, ?_⟩
  have hl : i < rows.length := by rw [h.rows.len]; exact hi
  rw [R_at hl]
  exact hb _ (List.getElem_mem hl) i
structure Consts (mg : Str → Option Value) : Prop where
  wrong : GI mg "WRONG_NUMBERS" 1
  noSuch : GI mg "NO_SUCH_IDEAL" 2
  canPart : GI mg "CAN_BE_PARTED" 3
  allZero : GI mg "ALL_ZERO" 3
  noneLeft : GI mg "NONE_LEFT" 4
  noRoom : GI mg "NO_ROOM" 5
  tooGreat : GI mg "NORM_TOO_GREAT" 8
  tooMany : GI mg "TOO_MANY_CLASSES" 9
  most : GI mg "MOST_IDEALS" 8
  greatest : GI mg "GREATEST_NORM" 1000000000000
  coef : GI mg "GREATEST_COEFFICIENT" 20
  place : GI mg "GREATEST_PLACE" 100
  classes : GI mg "MOST_CLASSES" 200
  listed : GI mg "GREATEST_NORM_LISTED" 30
theorem ok_hoKeep {f : Addr} {fd : FuncData} (F : Fun K "keep" "Holding.keep" sHoKeep f fd) (T : TxtH K mg C) (G : Consts mg) (ml : mg "len" = none) (cR : Ok P w K mg base 1 "refusal" ["reason"] spRefusal) (cN : Ok P w K mg base 2 "norm_of" ["rows"] spNorm) : FnOk P w K mg base CX0 3 f fd ["self", "rows"] (spHoKeep C) := by
  refine F.ok scHoKeep (fun vs H Q E h => ?_) (fun cdv A outer s H vs Q E hr h => ?_)
  · obtain ⟨h, u, ka, la, xs, ds, k, l, rows, rfl, _⟩ := h
    rfl
  · obtain ⟨h, u, ka, la, xs, ds, k, l, rows, rfl, S, hu, id, hb, ul, kk⟩ := h
    obtain ⟨dx, hat⟩ := S.at_
    refine ⟨_, pss_cons (ps_if (pt_cmpR op_eq (pe_callB call_len_seq (by rfl) ml PySem.boot_len (pa_cons (pe_fld (pv 0) rfl) pa_nil)) (pe_num G.most (by rfl)) (nomark _)) (pss_one (ps_ret (pe_f cR hr (by decide) (by rfl) (pa_cons (pe_num G.noRoom (by rfl)) pa_nil)))) pss_nil)
      (pss_cons (ps_if (pt_cmpR op_gt (pe_f cN hr (by decide) (by rfl) (pa_cons (pv 1) pa_nil)) (pe_num G.greatest (by rfl)) (nomark _)) (pss_one (ps_ret (pe_f cR hr (by decide) (by rfl) (pa_cons (pe_num G.tooGreat (by rfl)) pa_nil)))) pss_nil)
      (pss_cons (ps_expr (pe_bm PySem.F.plainAttrs_list PySem.F.slot_list_append PySem.F.type_list_append mt_append (pe_fld (pv 0) rfl) (pa_cons (pv 1) pa_nil)))
      (pss_one (ps_ret (pe_lst (pa_cons (pe_op op_sub (pe_callB call_len_seq (by rfl) ml PySem.boot_len (pa_cons (pe_fld (pv 0) rfl) pa_nil)) pe_int) pa_nil)))))), ?_⟩
    have same : ∀ x ∈ foot h ka la xs, x ∈ foot h ka la xs ∨ x = u ∨ x ∈ ds := fun x hx => .inl hx
    refine ⟨_, rfl, h, C, dx, _, _, rfl, hat, T.cl, T.nL, ho_l ka la, la, _, rfl, .inl (SqL.of S.il), rfl, _, rfl, ?_⟩
    rw [S.llen]
    refine ite2 (fun e => ?_) (fun e => ?_)
    · have l8 : l.length = 8 := by have := V.int.inj (of_decide_eq_true e); omega
      have ep : putA k l rows = (⟨k, l⟩, Nf02.ok (-5)) := if_pos (by show 8 ≤ l.length; omega)
      refine ⟨_, rfl, fun H' v s1 nv iv => kk H' v xs ?_ ?_ nv (Same.stay s1) same⟩
      · rw [ep]; exact S.same s1
      · rw [ep]; exact iv
    · have l8 : l.length ≠ 8 := fun q => e (decide_eq_true (by rw [q]; rfl))
      have lm := S.many
      have nm : ¬ Nf02.MOST ≤ l.length := by show ¬ 8 ≤ l.length; omega
      refine ⟨_, rfl, u, ds, rows, k.length, rfl, hu, id.rows.len, id.rows.lens, S.ring.four, Ideal.diagB id hb, fun H1 s1 => ⟨_, _, rfl, rfl, _, rfl, ite2 (fun e2 => ?_) (fun e2 => ?_)⟩⟩
      · have big : Nf02.BIG < Nf02.norm rows := by
          have := of_decide_eq_true e2
          rw [show Nf02.BIG = 1000000000000 from rfl]
          omega
        have ep : putA k l rows = (⟨k, l⟩, Nf02.ok (-8)) := (if_neg nm).trans (if_pos big)
        refine ⟨_, rfl, fun H' v s2 nv iv => kk H' v xs ?_ ?_ (s1.free nv) (Same.stay (s1.trans s2)) same⟩
        · rw [ep]; exact S.same (s1.trans s2)
        · rw [ep]; exact iv
      · have big : ¬ Nf02.BIG < Nf02.norm rows := by
          have : ¬ ((Nf02.norm rows : Nat) : Int) > 1000000000000 := fun q => e2 (decide_eq_true q)
          rw [show Nf02.BIG = 1000000000000 from rfl]
          omega
        have ep : putA k l rows = (⟨k, l ++ [rows]⟩, Nf02.ok (l.length : Nat)) := (if_neg nm).trans (if_neg big)
        have S1 := S.same s1
        have hat1 := s1 _ _ hat
        have sm : Small rows := small_of_norm id.rows (by
          rw [show Nf02.BIG = 1000000000000 from rfl] at big
          unfold TOPN
          omega)
        refine ⟨_, rfl, h, C, dx, _, _, rfl, hat1, T.cl, T.nL, ho_l ka la, .inl ⟨rfl, _, SqL.of S1.il⟩, _, rfl, la, _, _, rfl, rfl, S1.il, ?_, ?_⟩
        · rw [S.llen]; exact small1000 (by omega)
        · have hy : ∀ x ∈ xs ++ [(u, ds)], x ∈ xs ∨ x = (u, ds) := fun x hx => by
            rcases List.mem_append.mp hx with q | q
            · exact .inl q
            · exact .inr (List.mem_singleton.mp q)
          have hu1 := hu.same s1
          have n1 : h ≠ la := ne_of hat1 S1.il (by intro z; cases z)
          have n2 : ka ≠ la := ref_ne_int S1.il S1.ik S.ring.pos
          have S2 : Hold C (upd H1 la (.lst ((heads xs).map V.ref ++ [V.ref u]))) h ka la (xs ++ [(u, ds)]) k (l ++ [rows]) := by
            refine ⟨⟨dx, by rw [upd_ne n1]; exact hat1⟩, by unfold IA; rw [upd_ne n2]; exact S1.ik, ?_, ?_, S.ring, fun a ha => ?_, ?_, fun x hx => ?_⟩
            · rw [upd_same]
              unfold heads
              rw [List.map_append, List.map_append]; rfl
            · have up : ∀ x ∈ xs ++ [(u, ds)], ∀ a, (Ideal k a) → RX H1 x a → x.1 ≠ la → RX (upd H1 la (.lst ((heads xs).map V.ref ++ [V.ref u]))) x a := fun x _ a ia g nx =>
                ⟨by rw [upd_ne nx]; exact g.at_, paired_upd S1.il g.all fun v hv => by rw [ia.rows.lens v hv]; exact S.ring.pos⟩
              refine Paired.snoc (Paired.memG S1.rows fun x hx a ha g => up x (List.mem_append.mpr (.inl hx)) a (S.each a ha).1 g (S.apart x hx)) (up (u, ds) (List.mem_append.mpr (.inr (List.mem_singleton.mpr rfl))) rows id hu1 ul)
            · rcases List.mem_append.mp ha with q | q
              · exact S.each a q
              · rw [List.mem_singleton.mp q]; exact ⟨id, sm⟩
            · rw [List.length_append]; show l.length + 1 ≤ 8; omega
            · rcases hy x hx with q | q
              · exact S.apart x q
              · rw [q]; exact ul
          refine ⟨_, rfl, h, C, dx, _, _, rfl, (by rw [upd_ne n1]; exact hat1), T.cl, T.nL, ho_l ka la, la, _, rfl, .inl (SqL.of upd_same), _, _, rfl, rfl, (by show 1 ≤ sizeLine; decide), fun v nv => ?_⟩
          have vl : v ≠ la := fun q => by rw [q, upd_same] at nv; cases nv
          have nv1 : H1 v = none := by rw [upd_ne vl] at nv; exact nv
          have s3 := same_upd (o := .lst [V.int ((((heads xs).map V.ref ++ [V.ref u]).length : Int) - 1)]) nv
          refine kk _ v (xs ++ [(u, ds)]) ?_ ?_ (s1.free nv1) ?_ fun b hb => ?_
          · rw [ep]; exact S2.same s3
          · rw [ep]
            have e4 : ((((heads xs).map V.ref ++ [V.ref u]).length : Int) - 1) = (l.length : Nat) := by
              rw [List.length_append, S.llen]; show ((l.length + 1 : Nat) : Int) - 1 = _; omega
            rw [← e4]
            exact one_int
          · exact (((Same.stay s1).upd (List.mem_singleton.mpr rfl)).trans (Same.stay s3))
          · rcases mem_foot.mp hb with q | q | q | ⟨x, hx, q⟩
            · exact .inl (mem_foot.mpr (.inl q))
            · exact .inl (mem_foot.mpr (.inr (.inl q)))
            · exact .inl (mem_foot.mpr (.inr (.inr (.inl q))))
            · rcases hy x hx with m | m
              · exact .inl (mem_foot.mpr (.inr (.inr (.inr ⟨x, m, q⟩))))
              · rw [m] at q; exact .inr q
/-! ### drop_last -/
theorem scHoDrop : FnScope ["self"] ["self"] (defScope sHoDrop) := ⟨rfl, rfl, rfl, by decide +kernel, rfl, by decide +kernel, by decide +kernel⟩
def spHoDrop (C : Addr) : L2.Sp := fun vs H Q _ => ∃ (h ka la : Addr) (xs : Ad) (k : Vec) (l : List (List Vec)), vs = [.ref h] ∧ Hold C H h ka la xs k l ∧
  ∀ H' v xs', Hold C H' h ka la xs' k l.dropLast → IA H' v (if l = [] then [-4] else [((l.length - 1 : Nat) : Int)]) → H v = none → Stay [la] H H' → (∀ b ∈ foot h ka la xs', b ∈ foot h ka la xs) → Q (.ref v) H'
theorem mem_dropLast {α : Type} {l : List α} {x : α} (h : x ∈ l.dropLast) : x ∈ l := by
  rw [List.dropLast_eq_take] at h
  exact List.mem_of_mem_take h
theorem paired_dropLast {α β : Type} {G : α → β → Prop} {as : List α} {vs : List β} (h : Paired G as vs) : Paired G as.dropLast vs.dropLast := by
  rw [List.dropLast_eq_take, List.dropLast_eq_take, paired_len h]
  exact paired_take _ h
theorem ok_hoDrop {f : Addr} {fd : FuncData} (F : Fun K "drop_last" "Holding.drop_last" sHoDrop f fd) (T : TxtH K mg C) (G : Consts mg) (ml : mg "len" = none) (cR : Ok P w K mg base 1 "refusal" ["reason"] spRefusal) : FnOk P w K mg base CX0 2 f fd ["self"] (spHoDrop C) := by
  refine F.ok scHoDrop (fun vs H Q E h => ?_) (fun cdv A outer s H vs Q E hr h => ?_)
  · obtain ⟨h, ka, la, xs, k, l, rfl, _⟩ := h
    rfl
  · obtain ⟨h, ka, la, xs, k, l, rfl, S, kk⟩ := h
    obtain ⟨dx, hat⟩ := S.at_
    refine ⟨_, pss_cons (ps_if (pt_not (pt_truth (pe_fld (pv 0) rfl) (by intro _; rfl))) (pss_one (ps_ret (pe_f cR hr (by decide) (by rfl) (pa_cons (pe_num G.noneLeft (by rfl)) pa_nil)))) pss_nil)
      (pss_cons (ps_expr (pe_bm0 PySem.F.plainAttrs_list PySem.F.slot_list_pop PySem.F.type_list_pop mt_pop (pe_fld (pv 0) rfl)))
      (pss_one (ps_ret (pe_lst (pa_cons (pe_callB call_len_seq (by rfl) ml PySem.boot_len (pa_cons (pe_fld (pv 0) rfl) pa_nil)) pa_nil))))), ?_⟩
    refine ⟨_, rfl, h, C, dx, _, _, rfl, hat, T.cl, T.nL, ho_l ka la, !((heads xs).map V.ref).isEmpty, .inl ⟨_, SqL.of S.il, rfl⟩, ?_⟩
    have ll := S.llen
    cases hl : l with
    | nil =>
      have e : ((heads xs).map V.ref).isEmpty = true := by
        rw [hl] at ll
        cases q : (heads xs).map V.ref with
        | nil => rfl
        | cons a b => rw [q] at ll; simp at ll
      rw [e]
      refine iteT ?_
      refine ⟨_, rfl, fun H' v s1 nv iv => kk H' v xs ?_ ?_ nv (Same.stay s1) fun b hb => hb⟩
      · rw [hl]; have := S.same s1; rw [hl] at this; exact this
      · rw [if_pos hl]; exact iv
    | cons y ys =>
      have nl : l ≠ [] := by rw [hl]; simp
      have e : ((heads xs).map V.ref).isEmpty = false := by
        rw [hl] at ll
        cases q : (heads xs).map V.ref with
        | nil => rw [q] at ll; simp at ll
        | cons a b => rfl
      rw [e]
      refine iteF ?_
      have pos : 0 < ((heads xs).map V.ref).length := by rw [ll, hl]; simp
      have ey : ((heads xs).map V.ref)[((heads xs).map V.ref).length - 1]? = some (((heads xs).map V.ref)[((heads xs).map V.ref).length - 1]'(by omega)) := List.getElem?_eq_getElem (by omega)
      refine ⟨_, rfl, h, C, dx, _, _, rfl, hat, T.cl, T.nL, ho_l ka la, .inl ⟨rfl, _, SqL.of S.il⟩, la, _, _, rfl, rfl, S.il, ey, ?_⟩
      have ed : ((heads xs).map V.ref).dropLast = (heads xs.dropLast).map V.ref := by
        unfold heads
        rw [List.map_dropLast, List.map_dropLast]
      rw [ed]
      have S1 : Hold C (upd H la (.lst ((heads xs.dropLast).map V.ref))) h ka la xs.dropLast k l.dropLast :=
        S.updL (fun y hy => mem_dropLast hy) (fun a ha => mem_dropLast ha) (paired_dropLast S.rows) (by rw [List.length_dropLast]; have := S.many; omega)
      obtain ⟨dx1, hat1⟩ := S1.at_
      refine ⟨_, rfl, h, C, dx1, _, _, rfl, hat1, T.cl, T.nL, ho_l ka la, la, _, rfl, .inl (SqL.of S1.il), (by show 1 ≤ sizeLine; decide), fun v nv => ?_⟩
      have vl : v ≠ la := fun q => by rw [q, upd_same] at nv; cases nv
      have nv1 : H v = none := by rw [upd_ne vl] at nv; exact nv
      have s3 := same_upd (o := .lst [V.int (((heads xs.dropLast).map V.ref).length : Int)]) nv
      refine kk _ v xs.dropLast (S1.same s3) ?_ nv1 ?_ fun b hb => ?_
      · rw [if_neg nl]
        have e4 : (((heads xs.dropLast).map V.ref).length : Int) = ((l.length - 1 : Nat) : Int) := by rw [S1.llen, List.length_dropLast]
        rw [← e4]
        exact one_int
      · exact ((Stay.upd (fun b o q _ => q) (List.mem_singleton.mpr rfl)).trans (Same.stay s3))
      · rcases mem_foot.mp hb with q | q | q | ⟨x, hx, q⟩
        · exact mem_foot.mpr (.inl q)
        · exact mem_foot.mpr (.inr (.inl q))
        · exact mem_foot.mpr (.inr (.inr (.inl q)))
        · exact mem_foot.mpr (.inr (.inr (.inr ⟨x, mem_dropLast hx, q⟩)))
end
end Hnd
set_option Elab.async false
set_option linter.all false
set_option maxRecDepth 100000
set_option maxHeartbeats 2000000
/-! all_within, in_one_list, yes_or_no; where a call stands. -/
namespace Hnd
open PySem PySem.Spec PyProof.Rows L2
open Idl hiding Sp F R E Top mul_ok
open Nf02 (Vec)
abbrev sWithin : Stmt := top 59
abbrev sInOne : Stmt := top 60
abbrev sYesNo : Stmt := top 61
section
variable {P : Program} {w : World} {K : PySem.W.Frag} {mg : Str → Option Value} {base : Heap}
/-! ### all_within -/
theorem scWithin : FnScope ["numbers", "greatest", "number"] ["numbers", "greatest"] (defScope sWithin) := ⟨rfl, rfl, rfl, by decide +kernel, rfl, by decide +kernel, by decide +kernel⟩
def spWithin : L2.Sp := fun vs H Q _ => ∃ (p : Addr) (v : Vec) (g : Nat), vs = [.ref p, .int (g : Int)] ∧ IA H p v ∧ v.length ≤ 1000 ∧ ∀ H', Same H H' → Q (.bl (within v g)) H'
theorem ok_within (D : Df K mg "all_within" sWithin ["numbers", "greatest"]) (mall : mg "all" = none) (mabs : mg "abs" = none) : Ok P w K mg base 1 "all_within" ["numbers", "greatest"] spWithin := D.ok fun f fd F => by
  refine F.ok scWithin (fun vs H Q E h => ?_) (fun cdv A outer s H vs Q E hr h => ?_)
  · obtain ⟨p, v, g, rfl, _⟩ := h
    rfl
  · obtain ⟨p, v, g, rfl, ip, l1000, kk⟩ := h
    refine ⟨_, pss_one (ps_ret (pe_callB (cr_all rfl) (by rfl) mall (by decide +kernel) (pa_cons
      (pe_lc (own := [("number", 2)]) (g := gName 2) (tt := tYes) rfl scWithin.nd (pi_list (pv 0)) (blkOk_by (N := ["numbers", "greatest", "number"]) (sc := defScope sWithin) (by decide +kernel))
        (fun _ _ _ _ _ => pg_name (i := 2) scWithin.nd rfl (.inl rfl)) (fun _ _ _ _ _ => pts_nil)
        (fun _ _ _ _ _ => pe_cmpR op_le (pe_callB call_abs (by rfl) mabs (by decide +kernel) (pa_cons (pv 2) pa_nil)) (pv 1) (nomark _))) pa_nil))), ?_⟩
    refine ⟨_, rfl, p, rfl, ⟨_, ip.sq⟩, fun D nD => ?_⟩
    refine lc_list (K := K) (a := p) (xs := v.map V.int) (fun i H' => Same H H' ∧ H' D = some (.lst (((v.map fun z => decide (z.natAbs ≤ g)).take i).map V.bl))) ⟨same_upd nD, upd_same⟩ (fun i H' _ h => (ip.same h.1).sq) ?_ ?_
    · rintro i x H1 hx ⟨s1, e1⟩
      obtain ⟨z, hz, rfl⟩ := get_ints hx
      refine ⟨rfl, yes_ (iteT ?_)⟩
      have gk : (v.map fun z => decide (z.natAbs ≤ g))[i]? = some (decide (z.natAbs ≤ g)) := by rw [List.getElem?_map, hz]; rfl
      refine ⟨_, rfl, z, rfl, _, rfl, _, _, rfl, rfl, _, e1, ?_, same_grow s1 nD, ?_⟩
      · rw [List.length_map, List.length_take, List.length_map]
        exact Nat.lt_of_le_of_lt (Nat.min_le_right _ _) (small1000 l1000)
      · have e : decide ((if z < 0 then -z else z) ≤ (g : Int)) = decide (z.natAbs ≤ g) := by
          rw [Bool.eq_iff_iff, decide_eq_true_eq, decide_eq_true_eq]
          split <;> omega
        rw [upd_same, take_one_more gk, List.map_append, ← e]; rfl
    · rintro H1 ⟨s1, e1⟩
      rw [List.length_map, List.take_of_length_le (by rw [List.length_map]; exact Nat.le_refl _)] at e1
      refine ⟨D, _, rfl, SqL.of e1, ?_⟩
      have e : (v.map fun z => decide (z.natAbs ≤ g)).all id = within v g := by
        unfold within
        rw [List.all_map]; rfl
      rw [e]
      exact kk H1 s1
/-! ### in_one_list -/
theorem scInOne : FnScope ["rows", "numbers", "row"] ["rows"] (defScope sInOne) := ⟨rfl, rfl, rfl, by decide +kernel, rfl, by decide +kernel, by decide +kernel⟩
def spInOne : L2.Sp := fun vs H Q _ => ∃ (p : Addr) (as : List Addr) (rs : List Vec), vs = [.ref p] ∧ RA H p as rs ∧ rs.flatten.length ≤ 16000000 ∧ ∀ H' r, Same H H' → H r = none → IA H' r rs.flatten → Q (.ref r) H'
theorem flatten_more {rs : List Vec} {i : Nat} {v : Vec} (h : rs[i]? = some v) : (rs.take (i + 1)).flatten = (rs.take i).flatten ++ v := by
  rw [take_one_more h, List.flatten_append]
  simp
theorem flatten_take_le (rs : List Vec) (i : Nat) : (rs.take i).flatten.length ≤ rs.flatten.length := by
  have e := List.take_append_drop i rs
  have := congrArg (fun z => (List.flatten z).length) e
  simp only [List.flatten_append, List.length_append] at this
  omega
theorem ok_inOne (D : Df K mg "in_one_list" sInOne ["rows"]) : Ok P w K mg base 1 "in_one_list" ["rows"] spInOne := D.ok fun f fd F => by
  refine F.ok scInOne (fun vs H Q E h => ?_) (fun cdv A outer s H vs Q E hr h => ?_)
  · obtain ⟨p, as, rs, rfl, _⟩ := h
    rfl
  · obtain ⟨p, as, rs, rfl, hp, many, kk⟩ := h
    refine ⟨_, pss_cons (ps_set (i := 1) scInOne.nd rfl (.inl rfl) (pe_lst pa_nil))
      (pss_cons (ps_for PassesOwn.never rfl (pi_list (pv 0)) (pg_name (i := 2) scInOne.nd rfl (.inl rfl))
        (pss_one (ps_expr (pe_bm PySem.F.plainAttrs_list PySem.F.slot_list_extend PySem.F.type_list_extend mt_extend (pv 1) (pa_cons (pv 2) pa_nil)))))
      (pss_one (ps_ret (pv 1)))), ?_⟩
    refine ⟨Nat.zero_le _, fun o no => ?_⟩
    have s1 := same_upd (o := .lst []) no
    refine ⟨_, rfl, p, rfl, ⟨_, (hp.same s1).sq⟩, for_list (K := K) (a := p) (xs := as.map V.ref) (fun i σ H' => ∃ z, σ = [some (.ref p), some (.ref o), z] ∧ Same H H' ∧ IA H' o (rs.take i).flatten) ⟨none, rfl, s1, upd_same⟩ ?_ ?_ ?_⟩
    · rintro i σ H' _ ⟨_, _, s2, _⟩
      exact (hp.same s2).sq
    · rintro i x σ H1 hx ⟨z, rfl, s2, io⟩
      obtain ⟨a, ga, rfl⟩ := get_refs hx
      obtain ⟨v, gv, iv⟩ := paired_at' hp.all ga
      have iv1 := iv.same s2
      have le := flatten_take_le rs (i + 1)
      rw [flatten_more gv, List.length_append] at le
      refine ⟨_, rfl, .inl ⟨rfl, _, io.sq⟩, _, rfl, o, a, _, _, rfl, rfl, io, iv1, ?_, ?_⟩
      · rw [List.length_map, List.length_map]
        exact Nat.le_of_lt (smallM (by omega))
      · refine ⟨_, rfl, same_grow s2 no, ?_⟩
        unfold IA
        rw [upd_same, flatten_more gv, List.map_append]
    · rintro σ H1 ⟨z, rfl, s2, io⟩
      rw [List.length_map, paired_len hp.all, List.take_length] at io
      exact ⟨_, rfl, kk H1 o s2 no io⟩
/-! ### yes_or_no -/
theorem scYesNo : FnScope ["is_so"] ["is_so"] (defScope sYesNo) := ⟨rfl, rfl, rfl, by decide +kernel, rfl, by decide +kernel, by decide +kernel⟩
def spYesNo : L2.Sp := fun vs H Q _ => ∃ b : Bool, vs = [.bl b] ∧ ∀ H' v, Same H H' → H v = none → IA H' v [Nf02.flag b] → Q (.ref v) H'
theorem ok_yesNo (D : Df K mg "yes_or_no" sYesNo ["is_so"]) : Ok P w K mg base 1 "yes_or_no" ["is_so"] spYesNo := D.ok fun f fd F => by
  refine F.ok scYesNo (fun vs H Q E h => ?_) (fun cdv A outer s H vs Q E hr h => ?_)
  · obtain ⟨b, rfl, _⟩ := h
    rfl
  · obtain ⟨b, rfl, kk⟩ := h
    refine ⟨_, pss_one (ps_ret (pe_ifExp (pt_val (pv 0)) (pe_lst (pa_cons pe_int pa_nil)) (pe_lst (pa_cons pe_int pa_nil)))), ?_⟩
    refine ⟨_, rfl, b, rfl, ?_⟩
    cases b with
    | true => exact iteT (show _ ∧ _ from ⟨(by show 1 ≤ sizeLine; decide), fun v nv => kk _ v (same_upd nv) nv one_int⟩)
    | false => exact iteF (show _ ∧ _ from ⟨(by show 1 ≤ sizeLine; decide), fun v nv => kk _ v (same_upd nv) nv one_int⟩)
end
/-! ### where a call stands -/
/-- the reader over the request -/
structure Rd (K : PySem.W.Frag) (CR : Addr) (H : Hp) (r a : Addr) (ns : List Int) (pos : Nat) : Prop where
  at_ : RdAt CR H r a pos
  fz : Req K H a (ns.map V.int)
  le : pos ≤ ns.length
theorem Rd.rdr {K : PySem.W.Frag} {CR : Addr} {H : Hp} {r a : Addr} {ns : List Int} {pos : Nat} (h : Rd K CR H r a ns pos) : Rdr K CR H r a ns pos := ⟨h.at_, h.fz, h.le⟩
theorem Rd.of {K : PySem.W.Frag} {CR : Addr} {H' : Hp} {r a : Addr} {ns : List Int} {q : Nat} (k : Rdr K CR H' r a ns q) : Rd K CR H' r a ns q := ⟨k.at_, k.sq, k.le⟩
/-- none of these is locked -/
def NoFrz (H : Hp) (bs : List Addr) : Prop := ∀ b ∈ bs, ∀ o u, H b ≠ some (.frz o u)
theorem noFrz_nil {H : Hp} : NoFrz H [] := fun b hb => by simp at hb
theorem noFrz_one {H : Hp} {b : Addr} {x : HO} (e : H b = some x) (hx : ∀ o u, x ≠ .frz o u) : NoFrz H [b] := fun c hc o u z => by
  rw [List.mem_singleton.mp hc, e] at z
  exact hx o u (Option.some.inj z)
/-- the state and the reader, within a call that began over H0 -/
structure At (K : PySem.W.Frag) (CH CR : Addr) (H0 H : Hp) (h ka la : Addr) (xs : Ad) (k : Vec) (l : List (List Vec)) (r a : Addr) (ns : List Int) (pos : Nat) : Prop where
  hold : Hold CH H h ka la xs k l
  rd : Rd K CR H r a ns pos
  st : Stay [h, r, la] H0 H
section
variable {K : PySem.W.Frag} {CH CR : Addr} {H0 H H' : Hp} {h ka la : Addr} {xs : Ad} {k : Vec} {l : List (List Vec)} {r a : Addr} {ns : List Int} {pos : Nat}
theorem Rd.stay {bs : List Addr} (R : Rd K CR H r a ns pos) (st : Stay bs H H') (n1 : r ∉ bs) (n2 : NoFrz H bs) : Rd K CR H' r a ns pos := by
  obtain ⟨dx, e⟩ := R.at_
  exact ⟨⟨dx, st _ _ e n1⟩, R.fz.keep fun o u z => st _ _ z fun m => n2 _ m o u z, R.le⟩
theorem At.same (A : At K CH CR H0 H h ka la xs k l r a ns pos) (s : Same H H') : At K CH CR H0 H' h ka la xs k l r a ns pos :=
  ⟨A.hold.same s, A.rd.stay (bs := []) (Same.stay s) (by simp) noFrz_nil, A.st.trans (Same.stay s)⟩
theorem names_ne {dx dy : Addr} {ka la a : Addr} {pos : Nat} : HO.ins CH dx (hoF ka la) ≠ .ins CR dy (rdF a pos) := fun e => by
  have e3 : (hoF ka la).map (·.1) = (rdF a pos).map (·.1) := congrArg (List.map (·.1)) (HO.ins.inj e).2.2
  have e4 : (("coefficients" : Str) == ("numbers" : Str)) = true := by
    have := (List.cons.inj e3).1
    exact beq_iff_eq.mpr this
  exact absurd e4 (by decide +kernel)
theorem At.foot_r (A : At K CH CR H0 H h ka la xs k l r a ns pos) : r ∉ foot h ka la xs := fun m => by
  obtain ⟨dy, e⟩ := A.rd.at_
  obtain ⟨dx, e1⟩ := A.hold.at_
  rcases mem_foot.mp m with q | q | q | ⟨x, hx, q⟩
  · rw [q, e1] at e
    exact names_ne (Option.some.inj e)
  · have := A.hold.ik
    unfold IA at this
    rw [← q, e] at this; cases this
  · have := A.hold.il
    rw [← q, e] at this; cases this
  · obtain ⟨v, _, g⟩ := Paired.mem A.hold.rows hx
    rcases q with q | q
    · have := g.at_
      rw [← q, e] at this; cases this
    · obtain ⟨u, _, i⟩ := Paired.mem g.all q
      unfold IA at i
      rw [e] at i; cases i
/-- reading on -/
theorem At.read {q : Nat} (A : At K CH CR H0 H h ka la xs k l r a ns pos) (R : Rdr K CR H' r a ns q) (b : But r H H') : At K CH CR H0 H' h ka la xs k l r a ns q :=
  ⟨A.hold.stay (bs := [r]) (But.stay b (List.mem_singleton.mpr rfl)) (fun z hz m => A.foot_r (List.mem_singleton.mp m ▸ hz)), Rd.of R, A.st.trans (But.stay b (by simp))⟩
theorem At.free (A : At K CH CR H0 H h ka la xs k l r a ns pos) {v : Addr} (n : H v = none) : H0 v = none := by
  cases e : H0 v with
  | none => rfl
  | some o =>
    by_cases m : v ∈ [h, r, la]
    · simp only [List.mem_cons, List.not_mem_nil, or_false] at m
      obtain ⟨dx, e1⟩ := A.hold.at_
      obtain ⟨dy, e2⟩ := A.rd.at_
      have e3 := A.hold.il
      rcases m with q | q | q
      · rw [q, e1] at n; cases n
      · rw [q, e2] at n; cases n
      · rw [q, e3] at n; cases n
    · rw [A.st _ _ e m] at n; cases n
/-- what a call leaves -/
def Done (K : PySem.W.Frag) (CH CR : Addr) (H0 : Hp) (h ka la : Addr) (xs : Ad) (r a : Addr) (ns : List Int) (pos : Nat) (x : Nf02.State × Nf02.Ans) (Q : VK) : Prop :=
  ∀ H' v ka' la' xs', Hold CH H' h ka' la' xs' x.1.k x.1.l → Rd K CR H' r a ns pos → IA H' v (Nf02Neutral.out x.2) → H0 v = none → Stay [h, r, la] H0 H' → (∀ b ∈ foot h ka' la' xs', b ∈ foot h ka la xs ∨ H0 b = none) → Q (.ref v) H'
/-- an answer that leaves the state as it is -/
theorem At.fin {Q : VK} {x : Nf02.State × Nf02.Ans} (A : At K CH CR H0 H h ka la xs k l r a ns pos) (D : Done K CH CR H0 h ka la xs r a ns pos x Q) (ex : x.1 = ⟨k, l⟩) {v : Addr} (s : Same H H') (nv : H v = none) (iv : IA H' v (Nf02Neutral.out x.2)) : Q (.ref v) H' := by
  have B := A.same s
  exact D H' v ka la xs (by rw [ex]; exact B.hold) B.rd iv (A.free nv) B.st fun b hb => .inl hb
theorem rd_lk {m : Str} (h1 : (m == ("numbers" : Str)) = false) (h2 : (m == ("position" : Str)) = false) (a : Addr) (pos : Nat) : (rdF a pos).lookup m = none := (lk_past h1).trans ((lk_past h2).trans rfl)
theorem ho_lk {m : Str} (h1 : (m == ("coefficients" : Str)) = false) (h2 : (m == ("ideals" : Str)) = false) (ka la : Addr) : (hoF ka la).lookup m = none := (lk_past h1).trans ((lk_past h2).trans rfl)
end
/-! ### a call of what a name holds -/
def tCallH (P : Program) (w : World) (K : PySem.W.Frag) (mg : Str → Option Value) (base : Heap) (k i : Nat) (t : L2.TA) : TE := fun σ H Q => ∃ f sp, σ[i]? = some (some (.ref f)) ∧ Held P w K mg base k f sp ∧ t σ H fun vs H1 => sp vs H1 Q (fun _ _ _ => False)
theorem pe_callLH {X : Cx} {k i : Nat} {x : Str} {p pos : Pos} {e : Expr} {es : List Expr} {t : L2.TA} (hr : Room k X.A) (hN : X.N[i]? = some x) (hv : Vis X.env.scope x) (ha : PA X (e :: es) t)
    (hdb : (x == ("__debug__" : Str)) = false := by decide) (hcd : (x == ("__classdict__" : Str)) = false := by decide)
    (he : starEach (e :: es) X.env = (false, eval e X.env) :: starEach es X.env := by rfl) (hpl : (backTo pos (starEach es X.env)).any (·.1) = false := by rfl) : PE X (.Call (.Name x p) (e :: es) [] pos) (tCallH X.prog X.w X.K X.mg X.base k i t) := by
  refine ⟨fun pins s σ H Q I h => ?_⟩
  obtain ⟨f, sp, hs, hS, ht⟩ := h
  obtain ⟨fd, ps, F, hk, hb⟩ := hS.ex
  refine (pe_callL (i := i) (f := f) (sp := sp) (dvs := []) (E := fun _ _ _ => False) F hr hN hv hk hb .nil (fun _ _ _ _ _ _ _ z => z.elim) ha hdb hcd he hpl).run pins s σ H Q I ⟨hs, ?_⟩
  have e0 : (fun (vs : List V) (H1 : Hp) => sp (vs ++ []) H1 Q (fun _ _ _ => False)) = fun vs H1 => sp vs H1 Q (fun _ _ _ => False) := by
    funext vs H1
    rw [List.append_nil]
  show t σ H (fun vs H1 => sp (vs ++ []) H1 Q (fun _ _ _ => False))
  rw [e0]
  exact ht
def tCallEH (P : Program) (w : World) (K : PySem.W.Frag) (mg : Str → Option Value) (base : Heap) (k : Nat) (tf : TE) (t : L2.TA) : TE := fun σ H Q => tf σ H fun y H1 => ∃ f sp, y = V.ref f ∧ Held P w K mg base k f sp ∧ t σ H1 fun vs H2 => sp vs H2 Q (fun _ _ _ => False)
theorem pe_callEH {X : Cx} {k : Nat} {fe e : Expr} {es : List Expr} {pos : Pos} {tf : TE} {t : L2.TA} (hf : PE X fe tf) (hr : Room k X.A) (ha : PA X (e :: es) t)
    (ht : eval (.Call fe (e :: es) [] pos) X.env = (do callWith pos (← eval fe X.env) [] (backTo pos (starEach (e :: es) X.env)) (backToKw pos (keywordEach [] X.env))) := by rfl)
    (he : starEach (e :: es) X.env = (false, eval e X.env) :: starEach es X.env := by rfl) (hpl : (backTo pos (starEach es X.env)).any (·.1) = false := by rfl) : PE X (.Call fe (e :: es) [] pos) (tCallEH X.prog X.w X.K X.mg X.base k tf t) := by
  refine ⟨fun pins s σ H Q I h => ?_⟩
  refine Call_ (thn (hf.run pins s σ H _ I h) fun u s1 ⟨y, H1, I1, ry, f, sp, ey, hS, q⟩ => ?_) ht
  subst ey
  obtain rfl : u = Value.ref f := ry
  obtain ⟨fd, ps, F, kp, b⟩ := hS.ex
  refine PySem.W.callWith_K (h₀ := X.base) I.ok.mod.kin kp (thn (ha.run pos pins s1 σ H1 _ I1 q) fun us s2 ⟨vs, H2, I2, r, q2⟩ => ⟨I2.kIn, ?_⟩) he hpl
  exact run_fn F hr b .nil (fun _ _ _ _ _ _ _ z => z.elim) I2 r (by rw [List.append_nil]; exact q2)
end Hnd
set_option Elab.async false
set_option linter.all false
set_option maxRecDepth 100000
set_option maxHeartbeats 2000000
/-! answer_told, answer_norm, answer_holds, answer_prime. -/
namespace Hnd
open PySem PySem.Spec PyProof.Rows L2
open Idl hiding Sp F R E Top mul_ok
open Nf02 (Vec)
abbrev sTold : Stmt := top 69
abbrev sNormA : Stmt := top 70
abbrev sHoldsA : Stmt := top 74
abbrev sPrimeA : Stmt := top 75
abbrev sDropA : Stmt := top 77
/-- what the answers call -/
structure Base (P : Program) (w : World) (K : PySem.W.Frag) (mg : Str → Option Value) (base : Heap) (CH CR : Addr) : Prop where
  TH : TxtH K mg CH
  TR : TxtR K mg CR
  G : Consts mg
  mNum : MOk P w K mg base 1 CR "take_number" ["self"] (spRdNum K CR)
  mList : MOk P w K mg base 1 CR "take_list" ["self"] (spRdList K CR)
  hRing : MOk P w K mg base 1 CH "change_ring" ["self", "coefficients"] (spHoRing CH)
  hHas : MOk P w K mg base 1 CH "has_ideal" ["self", "i"] (spHoHas CH)
  hKeep : MOk P w K mg base 3 CH "keep" ["self", "rows"] (spHoKeep CH)
  hDrop : MOk P w K mg base 2 CH "drop_last" ["self"] (spHoDrop CH)
  cRef : Ok P w K mg base 1 "refusal" ["reason"] spRefusal
  cWithin : Ok P w K mg base 1 "all_within" ["numbers", "greatest"] spWithin
  cInOne : Ok P w K mg base 1 "in_one_list" ["rows"] spInOne
  cYes : Ok P w K mg base 1 "yes_or_no" ["is_so"] spYesNo
  cNorm : Ok P w K mg base 2 "norm_of" ["rows"] spNorm
  cPart : Ok P w K mg base 3 "can_be_parted" ["coefficients"] spParted
  cMade : Ok P w K mg base 43 "ideal_made_of" pMade spMade
  cHolds : Ok P w K mg base 42 "holds" ["one", "other"] spHolds
  cPrime : Ok P w K mg base 45 "is_prime" ["coefficients", "rows"] spPrime
  cOfNorm : Ok P w K mg base 45 "ideals_of_norm" ["coefficients", "norm"] spOfNorm
  len : mg "len" = none
  any : mg "any" = none
  range : mg "range" = none
section
variable {P : Program} {w : World} {K : PySem.W.Frag} {mg : Str → Option Value} {base : Heap} {CH CR : Addr}
abbrev pAns : List Str := ["holding", "reader"]
/-- calls with one number -/
def spOne (K : PySem.W.Frag) (CH CR : Addr) (f : Nf02.State → Nat → Nf02.State × Nf02.Ans) : L2.Sp := fun vs H Q _ => ∃ (h ka la : Addr) (xs : Ad) (k : Vec) (l : List (List Vec)) (r a : Addr) (ns : List Int) (pos i : Nat), vs = [.ref h, .ref r] ∧ At K CH CR H H h ka la xs k l r a ns pos ∧
  ns[pos]? = some (i : Int) ∧ Done K CH CR H h ka la xs r a ns (pos + 1) (f ⟨k, l⟩ i) Q
/-- calls with two numbers -/
def spTwo (K : PySem.W.Frag) (CH CR : Addr) (f : Nf02.State → Nat → Nat → Nf02.State × Nf02.Ans) : L2.Sp := fun vs H Q _ => ∃ (h ka la : Addr) (xs : Ad) (k : Vec) (l : List (List Vec)) (r a : Addr) (ns : List Int) (pos i j : Nat), vs = [.ref h, .ref r] ∧ At K CH CR H H h ka la xs k l r a ns pos ∧
  ns[pos]? = some (i : Int) ∧ ns[pos + 1]? = some (j : Int) ∧ Done K CH CR H h ka la xs r a ns (pos + 2) (f ⟨k, l⟩ i j) Q
/-- an ideal by its number -/
theorem ideal_at {H : Hp} {h ka la : Addr} {xs : Ad} {k : Vec} {l : List (List Vec)} (S : Hold CH H h ka la xs k l) {i : Nat} (hi : i < l.length) :
    ∃ x a, l[i]? = some a ∧ xs[i]? = some x ∧ RA H x.1 x.2 a ∧ Ideal k a ∧ Small a ∧ atI ((heads xs).map V.ref) (i : Int) = some (.ref x.1) := by
  obtain ⟨x, gx, rx⟩ := paired_at S.rows (List.getElem?_eq_getElem hi)
  obtain ⟨e1, e2⟩ := S.each _ (List.getElem_mem hi)
  refine ⟨x, l[i], List.getElem?_eq_getElem hi, gx, rx, e1, e2, refs_at ?_⟩
  unfold heads
  rw [List.getElem?_map, gx]; rfl
theorem at_none {s : Nf02.State} {i : Nat} {g : Nf02.Ideal → Nf02.State × Nf02.Ans} (h : ¬ i < s.l.length) : s.at_ i g = (s, Nf02.ok (-2)) := by
  unfold Nf02.State.at_
  rw [List.getElem?_eq_none (by omega)]
theorem at_some {s : Nf02.State} {i : Nat} {g : Nf02.Ideal → Nf02.State × Nf02.Ans} {a : Nf02.Ideal} (h : s.l[i]? = some a) : s.at_ i g = g a := by
  unfold Nf02.State.at_
  rw [h]
theorem small16 {n : Nat} (h : n ≤ 16) : n ≤ 16000000 := by omega
theorem Ideal.flat {k : Vec} {a : List Vec} (hr : Ring k) (ia : Ideal k a) : a.flatten.length ≤ 16 := flat_rows hr.four ⟨ia.rows.len, ia.rows.lens⟩
/-! ### told -/
abbrev nOneA : List Str := ["holding", "reader", "i"]
theorem scTold : FnScope nOneA pAns (defScope sTold) := ⟨rfl, rfl, rfl, by decide +kernel, rfl, by decide +kernel, by decide +kernel⟩
theorem ok_told (D : Df K mg "answer_told" sTold pAns) (B : Base P w K mg base CH CR) : Ok P w K mg base 2 "answer_told" pAns (spOne K CH CR fun s i => Nf02.step s (.told i)) := D.ok fun f fd F => by
  refine F.ok scTold (fun vs H Q E h => ?_) (fun cdv A outer s H vs Q E hr h => ?_)
  · obtain ⟨h, ka, la, xs, k, l, r, a, ns, pos, i, rfl, _⟩ := h
    rfl
  · obtain ⟨h, ka, la, xs, k, l, r, a, ns, pos, i, rfl, A0, hi, D⟩ := h
    refine ⟨_, pss_cons (ps_set (i := 2) scTold.nd rfl (.inl rfl) (pe_m0 B.mNum B.TR.cl hr (by decide) (pv 1)))
      (pss_cons (ps_if (pt_not (pt_val (pe_m B.hHas B.TH.cl hr (by decide) (pv 0) (pa_cons (pv 2) pa_nil)))) (pss_one (ps_ret (pe_f B.cRef hr (by decide) (by rfl) (pa_cons (pe_num B.G.noSuch (by rfl)) pa_nil)))) pss_nil)
      (pss_one (ps_ret (pe_op op_cat (pe_lst (pa_cons pe_int pa_nil)) (pe_f B.cInOne hr (by decide) (by rfl) (pa_cons (pe_ix ix_list (pe_fld (pv 0) rfl) (pv 2) (fun _ _ => rfl)) pa_nil)))))), ?_⟩
    obtain ⟨dr, er⟩ := A0.rd.at_
    refine ⟨_, rfl, r, dr, _, rfl, er, rd_lk (by decide +kernel) (by decide +kernel) a pos, r, a, ns, pos, (i : Int), rfl, A0.rd.rdr, hi, fun H1 R1 b1 => ?_⟩
    have A1 := A0.read R1 b1
    obtain ⟨dh, eh⟩ := A1.hold.at_
    refine ⟨_, rfl, h, dh, _, rfl, eh, ho_lk (by decide +kernel) (by decide +kernel) ka la, _, rfl, h, ka, la, xs, k, l, i, rfl, A1.hold, _, rfl, ?_⟩
    by_cases c : i < l.length
    · obtain ⟨x, v, gl, gx, rx, iv, sv, ax⟩ := ideal_at A1.hold c
      rw [decide_eq_true c]
      refine iteF ?_
      refine ⟨(by show 1 ≤ sizeLine; decide), fun o no => ?_⟩
      have s2 := same_upd (o := .lst [.int 0]) no
      refine ⟨_, rfl, h, CH, dh, _, _, rfl, s2 _ _ eh, B.TH.cl, B.TH.nL, ho_l ka la, _, rfl, la, _, _, _, rfl, rfl, SqL.of (s2 _ _ A1.hold.il), ax, x.1, x.2, v, rfl, rx.same s2, small16 (Ideal.flat A1.hold.ring iv), fun H3 t s3 nt it => ?_⟩
      refine ⟨o, t, [.int 0], v.flatten.map V.int, rfl, rfl, s3 _ _ upd_same, it, ?_, fun u nu => ?_⟩
      · rw [List.length_map]
        have := Ideal.flat A1.hold.ring iv
        exact Nat.le_of_lt (small1000 (by show 1 + v.flatten.length ≤ 1000; omega))
      · have s23 := s2.trans s3
        have e : Nf02.step ⟨k, l⟩ (.told i) = (⟨k, l⟩, ⟨0, v.flatten⟩) := at_some gl
        refine A1.fin D (by show (Nf02.step ⟨k, l⟩ (.told i)).1 = _; rw [e]) (s23.trans (same_upd nu)) (s23.free nu) ?_
        show IA _ u (Nf02Neutral.out (Nf02.step ⟨k, l⟩ (.told i)).2)
        rw [e]
        exact upd_same
    · rw [decide_eq_false c]
      refine iteT ?_
      have e : Nf02.step ⟨k, l⟩ (.told i) = (⟨k, l⟩, Nf02.ok (-2)) := at_none c
      refine ⟨_, rfl, fun H' v s1 nv iv => A1.fin D (by show (Nf02.step ⟨k, l⟩ (.told i)).1 = _; rw [e]) s1 nv ?_⟩
      show IA _ v (Nf02Neutral.out (Nf02.step ⟨k, l⟩ (.told i)).2)
      rw [e]
      exact iv
end
end Hnd
set_option Elab.async false
set_option linter.all false
set_option maxRecDepth 100000
set_option maxHeartbeats 2000000
/-! answer_norm, answer_holds, answer_prime, answer_drop, answer_of_two. -/
namespace Hnd
open PySem PySem.Spec PyProof.Rows L2
open Idl hiding Sp F R E Top mul_ok
open Nf02 (Vec)
abbrev sOfTwo : Stmt := top 64
abbrev sSumA : Stmt := top 65
abbrev sProductA : Stmt := top 66
abbrev sCommonA : Stmt := top 67
abbrev sByA : Stmt := top 68
section
variable {P : Program} {w : World} {K : PySem.W.Frag} {mg : Str → Option Value} {base : Heap} {CH CR : Addr}
/-! ### norm -/
theorem scNormA : FnScope nOneA pAns (defScope sNormA) := ⟨rfl, rfl, rfl, by decide +kernel, rfl, by decide +kernel, by decide +kernel⟩
theorem ok_normA (D : Df K mg "answer_norm" sNormA pAns) (B : Base P w K mg base CH CR) : Ok P w K mg base 3 "answer_norm" pAns (spOne K CH CR fun s i => Nf02.step s (.norm i)) := D.ok fun f fd F => by
  refine F.ok scNormA (fun vs H Q E h => ?_) (fun cdv A outer s H vs Q E hr h => ?_)
  · obtain ⟨h, ka, la, xs, k, l, r, a, ns, pos, i, rfl, _⟩ := h
    rfl
  · obtain ⟨h, ka, la, xs, k, l, r, a, ns, pos, i, rfl, A0, hi, D⟩ := h
    refine ⟨_, pss_cons (ps_set (i := 2) scNormA.nd rfl (.inl rfl) (pe_m0 B.mNum B.TR.cl hr (by decide) (pv 1)))
      (pss_cons (ps_if (pt_not (pt_val (pe_m B.hHas B.TH.cl hr (by decide) (pv 0) (pa_cons (pv 2) pa_nil)))) (pss_one (ps_ret (pe_f B.cRef hr (by decide) (by rfl) (pa_cons (pe_num B.G.noSuch (by rfl)) pa_nil)))) pss_nil)
      (pss_one (ps_ret (pe_lst (pa_cons pe_int (pa_cons (pe_f B.cNorm hr (by decide) (by rfl) (pa_cons (pe_ix ix_list (pe_fld (pv 0) rfl) (pv 2) (fun _ _ => rfl)) pa_nil)) pa_nil)))))), ?_⟩
    obtain ⟨dr, er⟩ := A0.rd.at_
    refine ⟨_, rfl, r, dr, _, rfl, er, rd_lk (by decide +kernel) (by decide +kernel) a pos, r, a, ns, pos, (i : Int), rfl, A0.rd.rdr, hi, fun H1 R1 b1 => ?_⟩
    have A1 := A0.read R1 b1
    obtain ⟨dh, eh⟩ := A1.hold.at_
    refine ⟨_, rfl, h, dh, _, rfl, eh, ho_lk (by decide +kernel) (by decide +kernel) ka la, _, rfl, h, ka, la, xs, k, l, i, rfl, A1.hold, _, rfl, ?_⟩
    by_cases c : i < l.length
    · obtain ⟨x, v, gl, gx, rx, iv, sv, ax⟩ := ideal_at A1.hold c
      rw [decide_eq_true c]
      refine iteF ?_
      have ring := A1.hold.ring
      refine ⟨_, rfl, h, CH, dh, _, _, rfl, eh, B.TH.cl, B.TH.nL, ho_l ka la, _, rfl, la, _, _, _, rfl, rfl, SqL.of A1.hold.il, ax, x.1, x.2, v, k.length, rfl, rx, iv.rows.len, iv.rows.lens, ring.four, Ideal.diagB iv (small_lim sv), fun H2 s2 => ⟨(by show 2 ≤ sizeLine; decide), fun u nu => ?_⟩⟩
      have e : Nf02.step ⟨k, l⟩ (.norm i) = (⟨k, l⟩, ⟨0, [(Nf02.norm v : Nat)]⟩) := at_some gl
      refine A1.fin D (by show (Nf02.step ⟨k, l⟩ (.norm i)).1 = _; rw [e]) (s2.trans (same_upd nu)) (s2.free nu) ?_
      show IA _ u (Nf02Neutral.out (Nf02.step ⟨k, l⟩ (.norm i)).2)
      rw [e]
      exact upd_same
    · rw [decide_eq_false c]
      refine iteT ?_
      have e : Nf02.step ⟨k, l⟩ (.norm i) = (⟨k, l⟩, Nf02.ok (-2)) := at_none c
      refine ⟨_, rfl, fun H' v s1 nv iv => A1.fin D (by show (Nf02.step ⟨k, l⟩ (.norm i)).1 = _; rw [e]) s1 nv ?_⟩
      show IA _ v (Nf02Neutral.out (Nf02.step ⟨k, l⟩ (.norm i)).2)
      rw [e]
      exact iv
/-! ### holds -/
abbrev nTwoA : List Str := ["holding", "reader", "i", "j"]
theorem scHoldsA : FnScope nTwoA pAns (defScope sHoldsA) := ⟨rfl, rfl, rfl, by decide +kernel, rfl, by decide +kernel, by decide +kernel⟩
theorem at2_none {s : Nf02.State} {i j : Nat} {g : Nf02.Ideal → Nf02.Ideal → Nf02.State × Nf02.Ans} (h : ¬ (i < s.l.length ∧ j < s.l.length)) : (s.at_ i fun a => s.at_ j fun b => g a b) = (s, Nf02.ok (-2)) := by
  by_cases c : i < s.l.length
  · rw [at_some (List.getElem?_eq_getElem c)]
    exact at_none fun q => h ⟨c, q⟩
  · exact at_none c
theorem ok_holdsA (D : Df K mg "answer_holds" sHoldsA pAns) (B : Base P w K mg base CH CR) : Ok P w K mg base 43 "answer_holds" pAns (spTwo K CH CR fun s i j => Nf02.step s (.holds i j)) := D.ok fun f fd F => by
  refine F.ok scHoldsA (fun vs H Q E h => ?_) (fun cdv A outer s H vs Q E hr h => ?_)
  · obtain ⟨h, ka, la, xs, k, l, r, a, ns, pos, i, j, rfl, _⟩ := h
    rfl
  · obtain ⟨h, ka, la, xs, k, l, r, a, ns, pos, i, j, rfl, A0, hi, hj, D⟩ := h
    refine ⟨_, pss_cons (ps_set (i := 2) scHoldsA.nd rfl (.inl rfl) (pe_m0 B.mNum B.TR.cl hr (by decide) (pv 1)))
      (pss_cons (ps_set (i := 3) scHoldsA.nd rfl (.inl rfl) (pe_m0 B.mNum B.TR.cl hr (by decide) (pv 1)))
      (pss_cons (ps_if (pw_or (pt_not (pt_val (pe_m B.hHas B.TH.cl hr (by decide) (pv 0) (pa_cons (pv 2) pa_nil)))) (pw_or1 (pt_not (pt_val (pe_m B.hHas B.TH.cl hr (by decide) (pv 0) (pa_cons (pv 3) pa_nil)))))).pt (pss_one (ps_ret (pe_f B.cRef hr (by decide) (by rfl) (pa_cons (pe_num B.G.noSuch (by rfl)) pa_nil)))) pss_nil)
      (pss_one (ps_ret (pe_f B.cYes hr (by decide) (by rfl) (pa_cons (pe_f B.cHolds hr (by decide) (by rfl) (pa_cons (pe_ix ix_list (pe_fld (pv 0) rfl) (pv 2) (fun _ _ => rfl)) (pa_cons (pe_ix ix_list (pe_fld (pv 0) rfl) (pv 3) (fun _ _ => rfl)) pa_nil))) pa_nil)))))), ?_⟩
    obtain ⟨dr, er⟩ := A0.rd.at_
    refine ⟨_, rfl, r, dr, _, rfl, er, rd_lk (by decide +kernel) (by decide +kernel) a pos, r, a, ns, pos, (i : Int), rfl, A0.rd.rdr, hi, fun H1 R1 b1 => ?_⟩
    have A1 := A0.read R1 b1
    obtain ⟨dr1, er1⟩ := A1.rd.at_
    refine ⟨_, rfl, r, dr1, _, rfl, er1, rd_lk (by decide +kernel) (by decide +kernel) a (pos + 1), r, a, ns, pos + 1, (j : Int), rfl, A1.rd.rdr, hj, fun H2 R2 b2 => ?_⟩
    have A2 := A1.read R2 b2
    obtain ⟨dh, eh⟩ := A2.hold.at_
    have none_ : ¬ (i < l.length ∧ j < l.length) → ∃ z : Int, [V.int 2] = [V.int z] ∧ ∀ H' v, Same H2 H' → H2 v = none → IA H' v [-z] → Q (.ref v) H' := fun c => by
      have e : Nf02.step ⟨k, l⟩ (.holds i j) = (⟨k, l⟩, Nf02.ok (-2)) := at2_none c
      refine ⟨_, rfl, fun H' v s1 nv iv => A2.fin D (by show (Nf02.step ⟨k, l⟩ (.holds i j)).1 = _; rw [e]) s1 nv ?_⟩
      show IA _ v (Nf02Neutral.out (Nf02.step ⟨k, l⟩ (.holds i j)).2)
      rw [e]
      exact iv
    refine ⟨_, rfl, h, dh, _, rfl, eh, ho_lk (by decide +kernel) (by decide +kernel) ka la, _, rfl, h, ka, la, xs, k, l, i, rfl, A2.hold, _, rfl, ?_⟩
    by_cases ci : i < l.length
    · rw [decide_eq_true ci]
      refine iteF ?_
      refine ⟨_, rfl, h, dh, _, rfl, eh, ho_lk (by decide +kernel) (by decide +kernel) ka la, _, rfl, h, ka, la, xs, k, l, j, rfl, A2.hold, _, rfl, ?_⟩
      by_cases cj : j < l.length
      · rw [decide_eq_true cj]
        refine iteF ?_
        obtain ⟨x, v, gl, gx, rx, iv, sv, ax⟩ := ideal_at A2.hold ci
        obtain ⟨y, u, gl2, gy, ry, iu, su, ay⟩ := ideal_at A2.hold cj
        refine ⟨_, rfl, h, CH, dh, _, _, rfl, eh, B.TH.cl, B.TH.nL, ho_l ka la, _, rfl, la, _, _, _, rfl, rfl, SqL.of A2.hold.il, ax, _, rfl, h, CH, dh, _, _, rfl, eh, B.TH.cl, B.TH.nL, ho_l ka la, _, rfl, la, _, _, _, rfl, rfl, SqL.of A2.hold.il, ay, ?_⟩
        refine ⟨x.1, y.1, x.2, y.2, k, v, u, rfl, rx, ry, A2.hold.ring, iv, iu, sv, su, fun H3 s3 => ⟨_, rfl, fun H4 t s4 nt it => ?_⟩⟩
        have e : Nf02.step ⟨k, l⟩ (.holds i j) = (⟨k, l⟩, Nf02.ok (Nf02.flag (Nf02.holds v u))) := (at_some gl).trans (at_some gl2)
        refine A2.fin D (by show (Nf02.step ⟨k, l⟩ (.holds i j)).1 = _; rw [e]) (s3.trans s4) (s3.free nt) ?_
        show IA _ t (Nf02Neutral.out (Nf02.step ⟨k, l⟩ (.holds i j)).2)
        rw [e]
        exact it
      · rw [decide_eq_false cj]
        refine iteT ?_
        exact none_ fun q => cj q.2
    · rw [decide_eq_false ci]
      refine iteT ?_
      refine iteT ?_
      exact none_ fun q => ci q.1
/-! ### prime -/
theorem scPrimeA : FnScope nOneA pAns (defScope sPrimeA) := ⟨rfl, rfl, rfl, by decide +kernel, rfl, by decide +kernel, by decide +kernel⟩
theorem ok_primeA (D : Df K mg "answer_prime" sPrimeA pAns) (B : Base P w K mg base CH CR) : Ok P w K mg base 46 "answer_prime" pAns (spOne K CH CR fun s i => Nf02.step s (.prime i)) := D.ok fun f fd F => by
  refine F.ok scPrimeA (fun vs H Q E h => ?_) (fun cdv A outer s H vs Q E hr h => ?_)
  · obtain ⟨h, ka, la, xs, k, l, r, a, ns, pos, i, rfl, _⟩ := h
    rfl
  · obtain ⟨h, ka, la, xs, k, l, r, a, ns, pos, i, rfl, A0, hi, D⟩ := h
    refine ⟨_, pss_cons (ps_set (i := 2) scPrimeA.nd rfl (.inl rfl) (pe_m0 B.mNum B.TR.cl hr (by decide) (pv 1)))
      (pss_cons (ps_if (pt_not (pt_val (pe_m B.hHas B.TH.cl hr (by decide) (pv 0) (pa_cons (pv 2) pa_nil)))) (pss_one (ps_ret (pe_f B.cRef hr (by decide) (by rfl) (pa_cons (pe_num B.G.noSuch (by rfl)) pa_nil)))) pss_nil)
      (pss_cons (ps_if (pt_cmpR op_gt (pe_f B.cNorm hr (by decide) (by rfl) (pa_cons (pe_ix ix_list (pe_fld (pv 0) rfl) (pv 2) (fun _ _ => rfl)) pa_nil)) (pe_num B.G.classes (by rfl)) (nomark _)) (pss_one (ps_ret (pe_f B.cRef hr (by decide) (by rfl) (pa_cons (pe_num B.G.tooMany (by rfl)) pa_nil)))) pss_nil)
      (pss_one (ps_ret (pe_f B.cYes hr (by decide) (by rfl) (pa_cons (pe_f B.cPrime hr (by decide) (by rfl) (pa_cons (pe_fld (pv 0) rfl) (pa_cons (pe_ix ix_list (pe_fld (pv 0) rfl) (pv 2) (fun _ _ => rfl)) pa_nil))) pa_nil)))))), ?_⟩
    obtain ⟨dr, er⟩ := A0.rd.at_
    refine ⟨_, rfl, r, dr, _, rfl, er, rd_lk (by decide +kernel) (by decide +kernel) a pos, r, a, ns, pos, (i : Int), rfl, A0.rd.rdr, hi, fun H1 R1 b1 => ?_⟩
    have A1 := A0.read R1 b1
    obtain ⟨dh, eh⟩ := A1.hold.at_
    refine ⟨_, rfl, h, dh, _, rfl, eh, ho_lk (by decide +kernel) (by decide +kernel) ka la, _, rfl, h, ka, la, xs, k, l, i, rfl, A1.hold, _, rfl, ?_⟩
    by_cases c : i < l.length
    · obtain ⟨x, v, gl, gx, rx, iv, sv, ax⟩ := ideal_at A1.hold c
      rw [decide_eq_true c]
      refine iteF ?_
      have ring := A1.hold.ring
      refine ⟨_, rfl, h, CH, dh, _, _, rfl, eh, B.TH.cl, B.TH.nL, ho_l ka la, _, rfl, la, _, _, _, rfl, rfl, SqL.of A1.hold.il, ax, x.1, x.2, v, k.length, rfl, rx, iv.rows.len, iv.rows.lens, ring.four, Ideal.diagB iv (small_lim sv), fun H2 s2 => ⟨_, _, rfl, rfl, _, rfl, ite2 (fun e2 => ?_) (fun e2 => ?_)⟩⟩
      · have big : Nf02.SMALL < Nf02.norm v := by
          have := of_decide_eq_true e2
          rw [show Nf02.SMALL = 200 from rfl]
          omega
        have e : Nf02.step ⟨k, l⟩ (.prime i) = (⟨k, l⟩, Nf02.ok (-9)) := (at_some gl).trans (by rw [if_pos big])
        refine ⟨_, rfl, fun H' u s3 nu iu => A1.fin D (by show (Nf02.step ⟨k, l⟩ (.prime i)).1 = _; rw [e]) (s2.trans s3) (s2.free nu) ?_⟩
        show IA _ u (Nf02Neutral.out (Nf02.step ⟨k, l⟩ (.prime i)).2)
        rw [e]
        exact iu
      · have hn : ¬ ((Nf02.norm v : Nat) : Int) > 200 := fun q => e2 (decide_eq_true q)
        have big : ¬ Nf02.SMALL < Nf02.norm v := by
          rw [show Nf02.SMALL = 200 from rfl]
          omega
        have eh2 := s2 _ _ eh
        refine ⟨_, rfl, h, CH, dh, _, _, rfl, eh2, B.TH.cl, B.TH.nK, ho_k ka la, _, rfl, h, CH, dh, _, _, rfl, eh2, B.TH.cl, B.TH.nL, ho_l ka la, _, rfl, la, _, _, _, rfl, rfl, SqL.of (s2 _ _ A1.hold.il), ax, ?_⟩
        refine ⟨ka, x.1, x.2, k, v, rfl, A1.hold.ik.same s2, rx.same s2, ring, iv, sv, by omega, fun H3 s3 => ⟨_, rfl, fun H4 t s4 nt it => ?_⟩⟩
        have e : Nf02.step ⟨k, l⟩ (.prime i) = (⟨k, l⟩, Nf02.ok (Nf02.flag (Nf02.prime k v))) := (at_some gl).trans (by rw [if_neg big])
        refine A1.fin D (by show (Nf02.step ⟨k, l⟩ (.prime i)).1 = _; rw [e]) ((s2.trans s3).trans s4) (s2.free (s3.free nt)) ?_
        show IA _ t (Nf02Neutral.out (Nf02.step ⟨k, l⟩ (.prime i)).2)
        rw [e]
        exact it
    · rw [decide_eq_false c]
      refine iteT ?_
      have e : Nf02.step ⟨k, l⟩ (.prime i) = (⟨k, l⟩, Nf02.ok (-2)) := at_none c
      refine ⟨_, rfl, fun H' v s1 nv iv => A1.fin D (by show (Nf02.step ⟨k, l⟩ (.prime i)).1 = _; rw [e]) s1 nv ?_⟩
      show IA _ v (Nf02Neutral.out (Nf02.step ⟨k, l⟩ (.prime i)).2)
      rw [e]
      exact iv
/-! ### what changes the ideals -/
theorem At.put {H0 H H' : Hp} {h ka la : Addr} {xs xs' : Ad} {k : Vec} {l : List (List Vec)} {r a : Addr} {ns : List Int} {pos : Nat} {Q : VK} {x : Nf02.State × Nf02.Ans} {v : Addr} (A : At K CH CR H0 H h ka la xs k l r a ns pos) (D : Done K CH CR H0 h ka la xs r a ns pos x Q)
    (S : Hold CH H' h ka la xs' x.1.k x.1.l) (st : Stay [la] H H') (nv : H v = none) (iv : IA H' v (Nf02Neutral.out x.2)) (ft : ∀ b ∈ foot h ka la xs', b ∈ foot h ka la xs ∨ H0 b = none) : Q (.ref v) H' := by
  obtain ⟨dr, er⟩ := A.rd.at_
  have n1 : r ≠ la := ne_of er A.hold.il (by intro z; cases z)
  exact D H' v ka la xs' S (A.rd.stay st (by simpa using n1) (noFrz_one A.hold.il (by intro o u z; cases z))) iv (A.free nv) (A.st.trans (st.mono fun b hb => by rw [List.mem_singleton.mp hb]; simp)) ft
/-! ### drop -/
def spZero (K : PySem.W.Frag) (CH CR : Addr) (f : Nf02.State → Nf02.State × Nf02.Ans) : L2.Sp := fun vs H Q _ => ∃ (h ka la : Addr) (xs : Ad) (k : Vec) (l : List (List Vec)) (r a : Addr) (ns : List Int) (pos : Nat), vs = [.ref h, .ref r] ∧ At K CH CR H H h ka la xs k l r a ns pos ∧
  Done K CH CR H h ka la xs r a ns pos (f ⟨k, l⟩) Q
theorem scDropA : FnScope pAns pAns (defScope sDropA) := ⟨rfl, rfl, rfl, by decide +kernel, rfl, by decide +kernel, by decide +kernel⟩
theorem ok_dropA (D : Df K mg "answer_drop" sDropA pAns) (B : Base P w K mg base CH CR) : Ok P w K mg base 3 "answer_drop" pAns (spZero K CH CR fun s => Nf02.step s .drop) := D.ok fun f fd F => by
  refine F.ok scDropA (fun vs H Q E h => ?_) (fun cdv A outer s H vs Q E hr h => ?_)
  · obtain ⟨h, ka, la, xs, k, l, r, a, ns, pos, rfl, _⟩ := h
    rfl
  · obtain ⟨h, ka, la, xs, k, l, r, a, ns, pos, rfl, A0, D⟩ := h
    refine ⟨_, pss_one (ps_ret (pe_m0 B.hDrop B.TH.cl hr (by decide) (pv 0))), ?_⟩
    obtain ⟨dh, eh⟩ := A0.hold.at_
    refine ⟨_, rfl, h, dh, _, rfl, eh, ho_lk (by decide +kernel) (by decide +kernel) ka la, h, ka, la, xs, k, l, rfl, A0.hold, fun H' v xs' S iv nv st ft => ?_⟩
    have e : Nf02.step ⟨k, l⟩ .drop = (⟨k, l.dropLast⟩, if l = [] then Nf02.ok (-4) else Nf02.ok (l.length - 1 : Nat)) := by
      show (if l = [] then _ else _) = _
      by_cases c : l = []
      · rw [if_pos c, if_pos c, c]; rfl
      · rw [if_neg c, if_neg c]
    refine A0.put D ?_ st nv ?_ fun b hb => .inl (ft b hb)
    · show Hold CH H' h ka la xs' (Nf02.step ⟨k, l⟩ .drop).1.k (Nf02.step ⟨k, l⟩ .drop).1.l
      rw [e]; exact S
    · show IA H' v (Nf02Neutral.out (Nf02.step ⟨k, l⟩ .drop).2)
      rw [e]
      show IA H' v (Nf02Neutral.out (if l = [] then Nf02.ok (-4) else Nf02.ok ((l.length - 1 : Nat) : Int)))
      by_cases c : l = []
      · rw [if_pos c] at iv ⊢
        exact iv
      · rw [if_neg c] at iv ⊢
        exact iv
/-! ### answer_of_two -/
abbrev nOfTwo : List Str := ["holding", "reader", "make", "i", "j"]
abbrev pOfTwo : List Str := ["holding", "reader", "make"]
theorem scOfTwo : FnScope nOfTwo pOfTwo (defScope sOfTwo) := ⟨rfl, rfl, rfl, by decide +kernel, rfl, by decide +kernel, by decide +kernel⟩
def two (m : Vec → List Vec → List Vec → List Vec) (s : Nf02.State) (i j : Nat) : Nf02.State × Nf02.Ans := s.at_ i fun a => s.at_ j fun b => s.put (m s.k a b)
def spOfTwo (P : Program) (w : World) (K : PySem.W.Frag) (mg : Str → Option Value) (base : Heap) (CH CR : Addr) : L2.Sp := fun vs H Q _ => ∃ (h ka la : Addr) (xs : Ad) (k : Vec) (l : List (List Vec)) (r a : Addr) (ns : List Int) (pos i j : Nat) (f : Addr) (m : Vec → List Vec → List Vec → List Vec), vs = [.ref h, .ref r, .ref f] ∧ At K CH CR H H h ka la xs k l r a ns pos ∧
  ns[pos]? = some (i : Int) ∧ ns[pos + 1]? = some (j : Int) ∧ Held P w K mg base 44 f (spMake m) ∧ MakeOk m ∧ Done K CH CR H h ka la xs r a ns (pos + 2) (two m ⟨k, l⟩ i j) Q
theorem ok_ofTwo (D : Df K mg "answer_of_two" sOfTwo pOfTwo) (B : Base P w K mg base CH CR) : Ok P w K mg base 45 "answer_of_two" pOfTwo (spOfTwo P w K mg base CH CR) := D.ok fun f fd F => by
  refine F.ok scOfTwo (fun vs H Q E h => ?_) (fun cdv A outer s H vs Q E hr h => ?_)
  · obtain ⟨h, ka, la, xs, k, l, r, a, ns, pos, i, j, f, m, rfl, _⟩ := h
    rfl
  · obtain ⟨h, ka, la, xs, k, l, r, a, ns, pos, i, j, f, m, rfl, A0, hi, hj, held, mok, D⟩ := h
    refine ⟨_, pss_cons (ps_set (i := 3) scOfTwo.nd rfl (.inl rfl) (pe_m0 B.mNum B.TR.cl hr (by decide) (pv 1)))
      (pss_cons (ps_set (i := 4) scOfTwo.nd rfl (.inl rfl) (pe_m0 B.mNum B.TR.cl hr (by decide) (pv 1)))
      (pss_cons (ps_if (pw_or (pt_not (pt_val (pe_m B.hHas B.TH.cl hr (by decide) (pv 0) (pa_cons (pv 3) pa_nil)))) (pw_or1 (pt_not (pt_val (pe_m B.hHas B.TH.cl hr (by decide) (pv 0) (pa_cons (pv 4) pa_nil)))))).pt (pss_one (ps_ret (pe_f B.cRef hr (by decide) (by rfl) (pa_cons (pe_num B.G.noSuch (by rfl)) pa_nil)))) pss_nil)
      (pss_one (ps_ret (pe_m B.hKeep B.TH.cl hr (by decide) (pv 0) (pa_cons (pe_callLH (i := 2) (k := 44) hr rfl (.inl rfl) (pa_cons (pe_fld (pv 0) rfl) (pa_cons (pe_ix ix_list (pe_fld (pv 0) rfl) (pv 3) (fun _ _ => rfl)) (pa_cons (pe_ix ix_list (pe_fld (pv 0) rfl) (pv 4) (fun _ _ => rfl)) pa_nil)))) pa_nil)))))), ?_⟩
    obtain ⟨dr, er⟩ := A0.rd.at_
    refine ⟨_, rfl, r, dr, _, rfl, er, rd_lk (by decide +kernel) (by decide +kernel) a pos, r, a, ns, pos, (i : Int), rfl, A0.rd.rdr, hi, fun H1 R1 b1 => ?_⟩
    have A1 := A0.read R1 b1
    obtain ⟨dr1, er1⟩ := A1.rd.at_
    refine ⟨_, rfl, r, dr1, _, rfl, er1, rd_lk (by decide +kernel) (by decide +kernel) a (pos + 1), r, a, ns, pos + 1, (j : Int), rfl, A1.rd.rdr, hj, fun H2 R2 b2 => ?_⟩
    have A2 := A1.read R2 b2
    obtain ⟨dh, eh⟩ := A2.hold.at_
    have none_ : ¬ (i < l.length ∧ j < l.length) → ∃ z : Int, [V.int 2] = [V.int z] ∧ ∀ H' v, Same H2 H' → H2 v = none → IA H' v [-z] → Q (.ref v) H' := fun c => by
      have e : two m ⟨k, l⟩ i j = (⟨k, l⟩, Nf02.ok (-2)) := at2_none (s := ⟨k, l⟩) (g := fun a b => Nf02.State.put ⟨k, l⟩ (m k a b)) c
      refine ⟨_, rfl, fun H' v s1 nv iv => A2.fin D (by rw [e]) s1 nv ?_⟩
      rw [e]
      exact iv
    refine ⟨_, rfl, h, dh, _, rfl, eh, ho_lk (by decide +kernel) (by decide +kernel) ka la, _, rfl, h, ka, la, xs, k, l, i, rfl, A2.hold, _, rfl, ?_⟩
    by_cases ci : i < l.length
    · rw [decide_eq_true ci]
      refine iteF ?_
      refine ⟨_, rfl, h, dh, _, rfl, eh, ho_lk (by decide +kernel) (by decide +kernel) ka la, _, rfl, h, ka, la, xs, k, l, j, rfl, A2.hold, _, rfl, ?_⟩
      by_cases cj : j < l.length
      · rw [decide_eq_true cj]
        refine iteF ?_
        obtain ⟨x, v, gl, gx, rx, iv, sv, ax⟩ := ideal_at A2.hold ci
        obtain ⟨y, u, gl2, gy, ry, iu, su, ay⟩ := ideal_at A2.hold cj
        have e : two m ⟨k, l⟩ i j = putA k l (m k v u) := (at_some gl).trans (at_some gl2)
        rw [e] at D
        have ring := A2.hold.ring
        refine ⟨_, rfl, h, dh, _, rfl, eh, ho_lk (by decide +kernel) (by decide +kernel) ka la, f, _, rfl, held, ?_⟩
        refine ⟨_, rfl, h, CH, dh, _, _, rfl, eh, B.TH.cl, B.TH.nK, ho_k ka la, _, rfl, h, CH, dh, _, _, rfl, eh, B.TH.cl, B.TH.nL, ho_l ka la, _, rfl, la, _, _, _, rfl, rfl, SqL.of A2.hold.il, ax, _, rfl, h, CH, dh, _, _, rfl, eh, B.TH.cl, B.TH.nL, ho_l ka la, _, rfl, la, _, _, _, rfl, rfl, SqL.of A2.hold.il, ay, ?_⟩
        refine ⟨ka, x.1, y.1, x.2, y.2, k, v, u, rfl, ⟨A2.hold.ik, rx, ry, ring, iv, iu, sv, su⟩, fun H3 t ts s3 nt ht ft => ?_⟩
        have A3 := A2.same s3
        have tl : t ≠ la := fun q => by rw [q, A2.hold.il] at nt; cases nt
        refine ⟨h, t, ka, la, xs, ts, k, l, m k v u, rfl, A3.hold, ht, mok.ideal k v u ring iv iu sv su, mok.bd k v u ring iv iu sv su, tl, fun H4 z xs' S iz nz st fz => ?_⟩
        refine A3.put (xs' := xs') D ?_ st nz iz fun (b : Addr) hb => ?_
        · have ek : (putA k l (m k v u)).1.k = k := by
            unfold putA Nf02.State.put
            split
            · rfl
            · split <;> rfl
          rw [ek]; exact S
        · rcases fz b hb with q | q | q
          · exact .inl q
          · rw [q]; exact .inr (A2.free nt)
          · rcases ft b q with g | g
            · exact .inr (A2.free g)
            · left
              rcases List.mem_append.mp g with g | g
              · exact mem_foot.mpr (.inr (.inr (.inr ⟨x, List.mem_of_getElem? gx, .inr g⟩)))
              · exact mem_foot.mpr (.inr (.inr (.inr ⟨y, List.mem_of_getElem? gy, .inr g⟩)))
      · rw [decide_eq_false cj]
        refine iteT ?_
        exact none_ fun q => cj q.2
    · rw [decide_eq_false ci]
      refine iteT ?_
      refine iteT ?_
      exact none_ fun q => ci q.1
theorem Ok.held {k : Nat} {x : Str} {ps : List Str} {sp : L2.Sp} (c : Ok P w K mg base k x ps sp) {j : Nat} (h : k ≤ j) : ∃ f, mg x = some (.ref f) ∧ Held P w K mg base j f sp := by
  obtain ⟨f, fd, F, hm, kp, b⟩ := c.ex
  exact ⟨f, hm, ⟨fd, ps, F.mono h, kp, b⟩⟩
theorem Ok.mono {j k : Nat} {x : Str} {ps : List Str} {sp : L2.Sp} (c : Ok P w K mg base j x ps sp) (h : j ≤ k) : Ok P w K mg base k x ps sp := by
  obtain ⟨f, fd, F, a, b, d⟩ := c.ex
  exact ⟨f, fd, F.mono h, a, b, d⟩
theorem sc_sumA : FnScope pAns pAns (defScope sSumA) := ⟨rfl, rfl, rfl, by decide +kernel, rfl, by decide +kernel, by decide +kernel⟩
theorem ok_sumA (D : Df K mg "answer_sum_of" sSumA pAns) (c2 : Ok P w K mg base 45 "answer_of_two" pOfTwo (spOfTwo P w K mg base CH CR)) (cm : Ok P w K mg base 44 "sum_of" pTwo (spMake Nf02.add)) : Ok P w K mg base 46 "answer_sum_of" pAns (spTwo K CH CR fun s i j => Nf02.step s (.add i j)) := D.ok fun f fd F => by
  refine F.ok sc_sumA (fun vs H Q E h => ?_) (fun cdv A outer s H vs Q E hr h => ?_)
  · obtain ⟨h, ka, la, xs, k, l, r, a, ns, pos, i, j, rfl, _⟩ := h
    rfl
  · obtain ⟨h, ka, la, xs, k, l, r, a, ns, pos, i, j, rfl, A0, hi, hj, D⟩ := h
    obtain ⟨g, hm, held⟩ := cm.held (Nat.le_refl 44)
    refine ⟨_, pss_one (ps_ret (pe_f c2 hr (by decide) (by rfl) (pa_cons (pv 0) (pa_cons (pv 1) (pa_cons (pe_glob (v := .ref g) (by rfl) hm rfl) pa_nil))))), ?_⟩
    exact ⟨_, rfl, _, rfl, h, ka, la, xs, k, l, r, a, ns, pos, i, j, g, Nf02.add, rfl, A0, hi, hj, held, add_ok, D⟩
theorem sc_productA : FnScope pAns pAns (defScope sProductA) := ⟨rfl, rfl, rfl, by decide +kernel, rfl, by decide +kernel, by decide +kernel⟩
theorem ok_productA (D : Df K mg "answer_product" sProductA pAns) (c2 : Ok P w K mg base 45 "answer_of_two" pOfTwo (spOfTwo P w K mg base CH CR)) (cm : Ok P w K mg base 44 "product" pTwo (spMake Nf02.mul)) : Ok P w K mg base 46 "answer_product" pAns (spTwo K CH CR fun s i j => Nf02.step s (.mul i j)) := D.ok fun f fd F => by
  refine F.ok sc_productA (fun vs H Q E h => ?_) (fun cdv A outer s H vs Q E hr h => ?_)
  · obtain ⟨h, ka, la, xs, k, l, r, a, ns, pos, i, j, rfl, _⟩ := h
    rfl
  · obtain ⟨h, ka, la, xs, k, l, r, a, ns, pos, i, j, rfl, A0, hi, hj, D⟩ := h
    obtain ⟨g, hm, held⟩ := cm.held (Nat.le_refl 44)
    refine ⟨_, pss_one (ps_ret (pe_f c2 hr (by decide) (by rfl) (pa_cons (pv 0) (pa_cons (pv 1) (pa_cons (pe_glob (v := .ref g) (by rfl) hm rfl) pa_nil))))), ?_⟩
    exact ⟨_, rfl, _, rfl, h, ka, la, xs, k, l, r, a, ns, pos, i, j, g, Nf02.mul, rfl, A0, hi, hj, held, Idl.mul_ok, D⟩
theorem sc_commonA : FnScope pAns pAns (defScope sCommonA) := ⟨rfl, rfl, rfl, by decide +kernel, rfl, by decide +kernel, by decide +kernel⟩
theorem ok_commonA (D : Df K mg "answer_common" sCommonA pAns) (c2 : Ok P w K mg base 45 "answer_of_two" pOfTwo (spOfTwo P w K mg base CH CR)) (cm : Ok P w K mg base 44 "common" pTwo (spMake Nf02.common)) : Ok P w K mg base 46 "answer_common" pAns (spTwo K CH CR fun s i j => Nf02.step s (.common i j)) := D.ok fun f fd F => by
  refine F.ok sc_commonA (fun vs H Q E h => ?_) (fun cdv A outer s H vs Q E hr h => ?_)
  · obtain ⟨h, ka, la, xs, k, l, r, a, ns, pos, i, j, rfl, _⟩ := h
    rfl
  · obtain ⟨h, ka, la, xs, k, l, r, a, ns, pos, i, j, rfl, A0, hi, hj, D⟩ := h
    obtain ⟨g, hm, held⟩ := cm.held (Nat.le_refl 44)
    refine ⟨_, pss_one (ps_ret (pe_f c2 hr (by decide) (by rfl) (pa_cons (pv 0) (pa_cons (pv 1) (pa_cons (pe_glob (v := .ref g) (by rfl) hm rfl) pa_nil))))), ?_⟩
    exact ⟨_, rfl, _, rfl, h, ka, la, xs, k, l, r, a, ns, pos, i, j, g, Nf02.common, rfl, A0, hi, hj, held, common_ok, D⟩
theorem sc_byA : FnScope pAns pAns (defScope sByA) := ⟨rfl, rfl, rfl, by decide +kernel, rfl, by decide +kernel, by decide +kernel⟩
theorem ok_byA (D : Df K mg "answer_by" sByA pAns) (c2 : Ok P w K mg base 45 "answer_of_two" pOfTwo (spOfTwo P w K mg base CH CR)) (cm : Ok P w K mg base 44 "by" pTwo (spMake Nf02.by_)) : Ok P w K mg base 46 "answer_by" pAns (spTwo K CH CR fun s i j => Nf02.step s (.by_ i j)) := D.ok fun f fd F => by
  refine F.ok sc_byA (fun vs H Q E h => ?_) (fun cdv A outer s H vs Q E hr h => ?_)
  · obtain ⟨h, ka, la, xs, k, l, r, a, ns, pos, i, j, rfl, _⟩ := h
    rfl
  · obtain ⟨h, ka, la, xs, k, l, r, a, ns, pos, i, j, rfl, A0, hi, hj, D⟩ := h
    obtain ⟨g, hm, held⟩ := cm.held (Nat.le_refl 44)
    refine ⟨_, pss_one (ps_ret (pe_f c2 hr (by decide) (by rfl) (pa_cons (pv 0) (pa_cons (pv 1) (pa_cons (pe_glob (v := .ref g) (by rfl) hm rfl) pa_nil))))), ?_⟩
    exact ⟨_, rfl, _, rfl, h, ka, la, xs, k, l, r, a, ns, pos, i, j, g, Nf02.by_, rfl, A0, hi, hj, held, by_ok, D⟩
end
end Hnd
set_option Elab.async false
set_option linter.all false
set_option maxRecDepth 100000
set_option maxHeartbeats 2000000
/-! answer_of_number, answer_ring, answer_ideal. -/
namespace Hnd
open PySem PySem.Spec PyProof.Rows L2
open Idl hiding Sp F R E Top mul_ok
open Nf02 (Vec)
abbrev sRingA : Stmt := top 62
abbrev sIdealA : Stmt := top 63
abbrev sOfNumber : Stmt := top 71
abbrev sHasA : Stmt := top 72
abbrev sMadeA : Stmt := top 73
section
variable {P : Program} {w : World} {K : PySem.W.Frag} {mg : Str → Option Value} {base : Heap} {CH CR : Addr}
/-- calls with one list -/
def spList (K : PySem.W.Frag) (CH CR : Addr) (f : Nf02.State → List Int → Nf02.State × Nf02.Ans) : L2.Sp := fun vs H Q _ => ∃ (h ka la : Addr) (xs : Ad) (k : Vec) (l : List (List Vec)) (r a : Addr) (ns : List Int) (pos m : Nat), vs = [.ref h, .ref r] ∧ At K CH CR H H h ka la xs k l r a ns pos ∧
  ns[pos]? = some (m : Int) ∧ pos + 1 + m ≤ ns.length ∧ m ≤ 100 ∧ Done K CH CR H h ka la xs r a ns (pos + 1 + m) (f ⟨k, l⟩ ((ns.drop (pos + 1)).take m)) Q
/-- calls with a number and a list -/
def spNumList (K : PySem.W.Frag) (CH CR : Addr) (f : Nf02.State → Nat → List Int → Nf02.State × Nf02.Ans) : L2.Sp := fun vs H Q _ => ∃ (h ka la : Addr) (xs : Ad) (k : Vec) (l : List (List Vec)) (r a : Addr) (ns : List Int) (pos i m : Nat), vs = [.ref h, .ref r] ∧ At K CH CR H H h ka la xs k l r a ns pos ∧
  ns[pos]? = some (i : Int) ∧ ns[pos + 1]? = some (m : Int) ∧ pos + 2 + m ≤ ns.length ∧ m ≤ 100 ∧ Done K CH CR H h ka la xs r a ns (pos + 2 + m) (f ⟨k, l⟩ i ((ns.drop (pos + 2)).take m)) Q
/-! ### answer_of_number -/
abbrev nOfNumber : List Str := ["holding", "reader", "is_so", "i", "places"]
abbrev pOfNumber : List Str := ["holding", "reader", "is_so"]
theorem scOfNumber : FnScope nOfNumber pOfNumber (defScope sOfNumber) := ⟨rfl, rfl, rfl, by decide +kernel, rfl, by decide +kernel, by decide +kernel⟩
def numb (q : Vec → List Vec → Vec → Bool) (s : Nf02.State) (i : Nat) (w : List Int) : Nf02.State × Nf02.Ans := s.at_ i fun a => (s, match Nf02.vecs s.k.n w with
    | some [v] => Nf02.ok (Nf02.flag (q s.k a v))
    | _ => Nf02.ok (-1))
theorem numb_no {q : Vec → List Vec → Vec → Bool} {s : Nf02.State} {i : Nat} {w : List Int} {a : List Vec} (h : s.l[i]? = some a) (h0 : 0 < s.k.length) (c : ¬ (w.length = s.k.length ∧ within w 100 = true)) : numb q s i w = (s, Nf02.ok (-1)) := by
  refine (at_some h).trans ?_
  have := vecs_other h0 c
  show (s, match Nf02.vecs s.k.length w with | some [v] => _ | _ => _) = _
  split
  · rename_i v e
    exact absurd e (this v)
  · rfl
theorem numb_yes {q : Vec → List Vec → Vec → Bool} {s : Nf02.State} {i : Nat} {w : List Int} {a : List Vec} (h : s.l[i]? = some a) (h0 : 0 < s.k.length) (c1 : w.length = s.k.length) (c2 : within w 100 = true) : numb q s i w = (s, Nf02.ok (Nf02.flag (q s.k a w))) := by
  refine (at_some h).trans ?_
  show (s, match Nf02.vecs s.k.length w with | some [v] => _ | _ => _) = _
  rw [vecs_one h0 c1 c2]
def spOfNumber (P : Program) (w : World) (K : PySem.W.Frag) (mg : Str → Option Value) (base : Heap) (CH CR : Addr) : L2.Sp := fun vs H Q _ => ∃ (h ka la : Addr) (xs : Ad) (k : Vec) (l : List (List Vec)) (r a : Addr) (ns : List Int) (pos i m : Nat) (f : Addr) (q : Vec → List Vec → Vec → Bool), vs = [.ref h, .ref r, .ref f] ∧ At K CH CR H H h ka la xs k l r a ns pos ∧
  ns[pos]? = some (i : Int) ∧ ns[pos + 1]? = some (m : Int) ∧ pos + 2 + m ≤ ns.length ∧ m ≤ 100 ∧ Held P w K mg base 45 f (spIsSo q) ∧ Done K CH CR H h ka la xs r a ns (pos + 2 + m) (numb q ⟨k, l⟩ i ((ns.drop (pos + 2)).take m)) Q
theorem ok_ofNumber (D : Df K mg "answer_of_number" sOfNumber pOfNumber) (B : Base P w K mg base CH CR) : Ok P w K mg base 46 "answer_of_number" pOfNumber (spOfNumber P w K mg base CH CR) := D.ok fun f fd F => by
  refine F.ok scOfNumber (fun vs H Q E h => ?_) (fun cdv A outer s H vs Q E hr h => ?_)
  · obtain ⟨h, ka, la, xs, k, l, r, a, ns, pos, i, m, f, q, rfl, _⟩ := h
    rfl
  · obtain ⟨h, ka, la, xs, k, l, r, a, ns, pos, i, m, f, q, rfl, A0, hi, hm, hle, h100, held, D⟩ := h
    refine ⟨_, pss_cons (ps_set (i := 3) scOfNumber.nd rfl (.inl rfl) (pe_m0 B.mNum B.TR.cl hr (by decide) (pv 1)))
      (pss_cons (ps_set (i := 4) scOfNumber.nd rfl (.inl rfl) (pe_m0 B.mList B.TR.cl hr (by decide) (pv 1)))
      (pss_cons (ps_if (pt_not (pt_val (pe_m B.hHas B.TH.cl hr (by decide) (pv 0) (pa_cons (pv 3) pa_nil)))) (pss_one (ps_ret (pe_f B.cRef hr (by decide) (by rfl) (pa_cons (pe_num B.G.noSuch (by rfl)) pa_nil)))) pss_nil)
      (pss_cons (ps_if (pw_or (pt_cmpR op_ne (pe_callB call_len_seq (by rfl) B.len PySem.boot_len (pa_cons (pv 4) pa_nil)) (pe_callB call_len_seq (by rfl) B.len PySem.boot_len (pa_cons (pe_fld (pv 0) rfl) pa_nil)) (nomark _))
          (pw_or1 (pt_not (pt_val (pe_f B.cWithin hr (by decide) (by rfl) (pa_cons (pv 4) (pa_cons (pe_num B.G.place (by rfl)) pa_nil))))))).pt (pss_one (ps_ret (pe_f B.cRef hr (by decide) (by rfl) (pa_cons (pe_num B.G.wrong (by rfl)) pa_nil)))) pss_nil)
      (pss_one (ps_ret (pe_f B.cYes hr (by decide) (by rfl) (pa_cons (pe_callLH (i := 2) (k := 45) hr rfl (.inl rfl) (pa_cons (pe_fld (pv 0) rfl) (pa_cons (pe_ix ix_list (pe_fld (pv 0) rfl) (pv 3) (fun _ _ => rfl)) (pa_cons (pv 4) pa_nil)))) pa_nil))))))), ?_⟩
    obtain ⟨dr, er⟩ := A0.rd.at_
    refine ⟨_, rfl, r, dr, _, rfl, er, rd_lk (by decide +kernel) (by decide +kernel) a pos, r, a, ns, pos, (i : Int), rfl, A0.rd.rdr, hi, fun H1 R1 b1 => ?_⟩
    have A1 := A0.read R1 b1
    obtain ⟨dr1, er1⟩ := A1.rd.at_
    refine ⟨_, rfl, r, dr1, _, rfl, er1, rd_lk (by decide +kernel) (by decide +kernel) a (pos + 1), r, a, ns, pos + 1, m, rfl, A1.rd.rdr, hm, by omega, fun H2 pl R2 b2 npl ipl => ?_⟩
    have A2 := A1.read R2 b2
    have e0 : pos + 1 + 1 + m = pos + 2 + m := by omega
    rw [e0] at A2
    obtain ⟨u, hu⟩ : ∃ u, u = (ns.drop (pos + 2)).take m := ⟨_, rfl⟩
    have eu : (ns.drop (pos + 1 + 1)).take m = u := hu.symm
    rw [eu] at ipl
    rw [← hu] at D
    have lu : u.length ≤ 100 := by rw [hu, List.length_take]; omega
    obtain ⟨dh, eh⟩ := A2.hold.at_
    have h0 := A2.hold.ring.pos
    refine ⟨_, rfl, h, dh, _, rfl, eh, ho_lk (by decide +kernel) (by decide +kernel) ka la, _, rfl, h, ka, la, xs, k, l, i, rfl, A2.hold, _, rfl, ?_⟩
    by_cases c : i < l.length
    · obtain ⟨x, v, gl, gx, rx, iv, sv, ax⟩ := ideal_at A2.hold c
      rw [decide_eq_true c]
      refine iteF ?_
      have wrong : ∀ H3, Same H2 H3 → ¬ (u.length = k.length ∧ within u 100 = true) → ∃ z : Int, [V.int 1] = [V.int z] ∧ ∀ H' v, Same H3 H' → H3 v = none → IA H' v [-z] → Q (.ref v) H' := fun H3 s3 cc => by
        have e : numb q ⟨k, l⟩ i u = (⟨k, l⟩, Nf02.ok (-1)) := numb_no (s := ⟨k, l⟩) gl h0 cc
        refine ⟨_, rfl, fun H' v s1 nv iv => A2.fin D (by rw [e]) (s3.trans s1) (s3.free nv) ?_⟩
        rw [e]
        exact iv
      refine ⟨_, rfl, pl, _, rfl, .inl ipl.sq, _, rfl, h, CH, dh, _, _, rfl, eh, B.TH.cl, B.TH.nK, ho_k ka la, ka, _, rfl, .inl A2.hold.ik.sq, rfl, _, rfl, ?_⟩
      rw [List.length_map, List.length_map]
      by_cases c1 : u.length = k.length
      · rw [show (decide (V.int (u.length : Int) = V.int (k.length : Int))) = true from decide_eq_true (by rw [c1])]
        refine iteF ?_
        refine ⟨_, rfl, pl, u, 100, rfl, ipl, by omega, fun H3 s3 => ⟨_, rfl, ?_⟩⟩
        cases c2 : within u 100 with
        | false =>
          refine iteT ?_
          exact wrong H3 s3 fun z => by rw [c2] at z; cases z.2
        | true =>
          refine iteF ?_
          have A3 := A2.same s3
          have eh3 := s3 _ _ eh
          refine ⟨f, _, rfl, held, _, rfl, h, CH, dh, _, _, rfl, eh3, B.TH.cl, B.TH.nK, ho_k ka la, _, rfl, h, CH, dh, _, _, rfl, eh3, B.TH.cl, B.TH.nL, ho_l ka la, _, rfl, la, _, _, _, rfl, rfl, SqL.of A3.hold.il, ax, _, rfl, ?_⟩
          refine ⟨ka, x.1, pl, x.2, k, v, u, rfl, ⟨A3.hold.ik, rx.same s3, ipl.same s3, A3.hold.ring, iv, sv, c1, within_bd c2⟩, fun H4 s4 => ⟨_, rfl, fun H5 t s5 nt it => ?_⟩⟩
          have e : numb q ⟨k, l⟩ i u = (⟨k, l⟩, Nf02.ok (Nf02.flag (q k v u))) := numb_yes (s := ⟨k, l⟩) gl h0 c1 c2
          refine A2.fin D (by rw [e]) ((s3.trans s4).trans s5) (s3.free (s4.free nt)) ?_
          rw [e]
          exact it
      · rw [show (decide (V.int (u.length : Int) = V.int (k.length : Int))) = false from decide_eq_false (fun z => c1 (by have := V.int.inj z; omega))]
        refine iteT ?_
        refine iteT ?_
        exact wrong H2 (Same.refl _) fun z => c1 z.1
    · rw [decide_eq_false c]
      refine iteT ?_
      have e : numb q ⟨k, l⟩ i u = (⟨k, l⟩, Nf02.ok (-2)) := at_none c
      refine ⟨_, rfl, fun H' v s1 nv iv => A2.fin D (by rw [e]) s1 nv ?_⟩
      rw [e]
      exact iv
theorem scHasA : FnScope pAns pAns (defScope sHasA) := ⟨rfl, rfl, rfl, by decide +kernel, rfl, by decide +kernel, by decide +kernel⟩
theorem ok_hasA (D : Df K mg "answer_has" sHasA pAns) (c2 : Ok P w K mg base 46 "answer_of_number" pOfNumber (spOfNumber P w K mg base CH CR)) (cm : Ok P w K mg base 45 "has" pIsSo (spIsSo fun _ a v => Nf02.has a v)) : Ok P w K mg base 47 "answer_has" pAns (spNumList K CH CR fun s i l => Nf02.step s (.has i l)) := D.ok fun f fd F => by
  refine F.ok scHasA (fun vs H Q E h => ?_) (fun cdv A outer s H vs Q E hr h => ?_)
  · obtain ⟨h, ka, la, xs, k, l, r, a, ns, pos, i, m, rfl, _⟩ := h
    rfl
  · obtain ⟨h, ka, la, xs, k, l, r, a, ns, pos, i, m, rfl, A0, hi, hj, hle, h100, D⟩ := h
    obtain ⟨g, hm, held⟩ := cm.held (Nat.le_refl 45)
    refine ⟨_, pss_one (ps_ret (pe_f c2 hr (by decide) (by rfl) (pa_cons (pv 0) (pa_cons (pv 1) (pa_cons (pe_glob (v := .ref g) (by rfl) hm rfl) pa_nil))))), ?_⟩
    exact ⟨_, rfl, _, rfl, h, ka, la, xs, k, l, r, a, ns, pos, i, m, g, _, rfl, A0, hi, hj, hle, h100, held, D⟩
theorem scMadeA : FnScope pAns pAns (defScope sMadeA) := ⟨rfl, rfl, rfl, by decide +kernel, rfl, by decide +kernel, by decide +kernel⟩
theorem ok_madeA (D : Df K mg "answer_made" sMadeA pAns) (c2 : Ok P w K mg base 46 "answer_of_number" pOfNumber (spOfNumber P w K mg base CH CR)) (cm : Ok P w K mg base 45 "is_made_of" pIsSo (spIsSo fun k a v => Nf02.make k [v] == a)) : Ok P w K mg base 47 "answer_made" pAns (spNumList K CH CR fun s i l => Nf02.step s (.made i l)) := D.ok fun f fd F => by
  refine F.ok scMadeA (fun vs H Q E h => ?_) (fun cdv A outer s H vs Q E hr h => ?_)
  · obtain ⟨h, ka, la, xs, k, l, r, a, ns, pos, i, m, rfl, _⟩ := h
    rfl
  · obtain ⟨h, ka, la, xs, k, l, r, a, ns, pos, i, m, rfl, A0, hi, hj, hle, h100, D⟩ := h
    obtain ⟨g, hm, held⟩ := cm.held (Nat.le_refl 45)
    refine ⟨_, pss_one (ps_ret (pe_f c2 hr (by decide) (by rfl) (pa_cons (pv 0) (pa_cons (pv 1) (pa_cons (pe_glob (v := .ref g) (by rfl) hm rfl) pa_nil))))), ?_⟩
    exact ⟨_, rfl, _, rfl, h, ka, la, xs, k, l, r, a, ns, pos, i, m, g, _, rfl, A0, hi, hj, hle, h100, held, D⟩
/-! ### answer_ring -/
theorem inV_three (n : Nat) : inV (.int (n : Int)) [.int 2, .int 3, .int 4] = decide (n = 2 ∨ n = 3 ∨ n = 4) := by
  show (decide ((2 : Int) = (n : Int)) || (decide ((3 : Int) = (n : Int)) || (decide ((4 : Int) = (n : Int)) || false))) = _
  rw [Bool.eq_iff_iff]
  simp
  omega
end
end Hnd
set_option Elab.async false
set_option linter.all false
set_option maxRecDepth 100000
set_option maxHeartbeats 2000000
/-! answer_ring, answer_ideal. -/
namespace Hnd
open PySem PySem.Spec PyProof.Rows L2
open Idl hiding Sp F R E Top mul_ok
open Nf02 (Vec)
section
variable {P : Program} {w : World} {K : PySem.W.Frag} {mg : Str → Option Value} {base : Heap} {CH CR : Addr}
abbrev nRingA : List Str := ["holding", "reader", "coefficients"]
theorem scRingA : FnScope nRingA pAns (defScope sRingA) := ⟨rfl, rfl, rfl, by decide +kernel, rfl, by decide +kernel, by decide +kernel⟩
theorem field_wrong {s : Nf02.State} {u : List Int} (c : ¬ ((u.length = 2 ∨ u.length = 3 ∨ u.length = 4) ∧ within u 20 = true)) : Nf02.step s (.field u) = (s, Nf02.ok (-1)) := by
  refine if_pos ?_
  by_cases c1 : u.length < 2
  · exact .inl c1
  · by_cases c2 : 4 < u.length
    · exact .inr (.inl c2)
    · refine .inr (.inr ?_)
      rw [show Nf01.TOP = 20 from rfl, within_any]
      cases q : within u 20 with
      | true => exact absurd ⟨by omega, q⟩ c
      | false => rfl
theorem field_right {s : Nf02.State} {u : List Int} (c1 : u.length = 2 ∨ u.length = 3 ∨ u.length = 4) (c2 : within u 20 = true) : Nf02.step s (.field u) = if Nf01.prime u = false then (s, Nf02.ok (-3)) else (⟨u, []⟩, Nf02.ok 0) := by
  refine if_neg ?_
  rintro (h | h | h)
  · omega
  · omega
  · rw [show Nf01.TOP = 20 from rfl, within_any, c2] at h
    cases h
theorem ok_ringA (D : Df K mg "answer_ring" sRingA pAns) (B : Base P w K mg base CH CR) : Ok P w K mg base 4 "answer_ring" pAns (spList K CH CR fun s l => Nf02.step s (.field l)) := D.ok fun f fd F => by
  refine F.ok scRingA (fun vs H Q E h => ?_) (fun cdv A outer s H vs Q E hr h => ?_)
  · obtain ⟨h, ka, la, xs, k, l, r, a, ns, pos, m, rfl, _⟩ := h
    rfl
  · obtain ⟨h, ka, la, xs, k, l, r, a, ns, pos, m, rfl, A0, hm, hle, h100, D⟩ := h
    refine ⟨_, pss_cons (ps_set (i := 2) scRingA.nd rfl (.inl rfl) (pe_m0 B.mList B.TR.cl hr (by decide) (pv 1)))
      (pss_cons (ps_if (pw_or (pt_cmpR op_notIn_seq (pe_callB call_len_seq (by rfl) B.len PySem.boot_len (pa_cons (pv 2) pa_nil)) (pe_tup (pa_cons pe_int (pa_cons pe_int (pa_cons pe_int pa_nil)))) (by rfl))
          (pw_or1 (pt_not (pt_val (pe_f B.cWithin hr (by decide) (by rfl) (pa_cons (pv 2) (pa_cons (pe_num B.G.coef (by rfl)) pa_nil))))))).pt (pss_one (ps_ret (pe_f B.cRef hr (by decide) (by rfl) (pa_cons (pe_num B.G.wrong (by rfl)) pa_nil)))) pss_nil)
      (pss_cons (ps_if (pt_val (pe_f B.cPart hr (by decide) (by rfl) (pa_cons (pv 2) pa_nil))) (pss_one (ps_ret (pe_f B.cRef hr (by decide) (by rfl) (pa_cons (pe_num B.G.canPart (by rfl)) pa_nil)))) pss_nil)
      (pss_cons (ps_expr (pe_m B.hRing B.TH.cl hr (by decide) (pv 0) (pa_cons (pv 2) pa_nil)))
      (pss_one (ps_ret (pe_lst (pa_cons pe_int pa_nil))))))), ?_⟩
    obtain ⟨dr, er⟩ := A0.rd.at_
    refine ⟨_, rfl, r, dr, _, rfl, er, rd_lk (by decide +kernel) (by decide +kernel) a pos, r, a, ns, pos, m, rfl, A0.rd.rdr, hm, hle, fun H1 pl R1 b1 npl ipl => ?_⟩
    have A1 := A0.read R1 b1
    obtain ⟨u, hu⟩ : ∃ u, u = (ns.drop (pos + 1)).take m := ⟨_, rfl⟩
    rw [← hu] at D ipl
    have lu : u.length ≤ 100 := by rw [hu, List.length_take]; omega
    have wrong : ∀ H3, Same H1 H3 → ¬ ((u.length = 2 ∨ u.length = 3 ∨ u.length = 4) ∧ within u 20 = true) → ∃ z : Int, [V.int 1] = [V.int z] ∧ ∀ H' v, Same H3 H' → H3 v = none → IA H' v [-z] → Q (.ref v) H' := fun H3 s3 cc => by
      have e := field_wrong (s := ⟨k, l⟩) cc
      refine ⟨_, rfl, fun H' v s1 nv iv => A1.fin D (by show (Nf02.step ⟨k, l⟩ (.field u)).1 = _; rw [e]) (s3.trans s1) (s3.free nv) ?_⟩
      show IA _ v (Nf02Neutral.out (Nf02.step ⟨k, l⟩ (.field u)).2)
      rw [e]
      exact iv
    refine ⟨_, rfl, pl, _, rfl, .inl ipl.sq, (by show 3 ≤ sizeLine; decide), fun t nt => ?_⟩
    have s2 := same_upd (o := .tup [.int 2, .int 3, .int 4]) nt
    refine ⟨t, _, rfl, .inr (SqT.of upd_same), rfl, rfl, _, rfl, ?_⟩
    rw [List.length_map, inV_three]
    by_cases c1 : u.length = 2 ∨ u.length = 3 ∨ u.length = 4
    · rw [decide_eq_true c1]
      refine iteF ?_
      refine ⟨_, rfl, pl, u, 20, rfl, ipl.same s2, by omega, fun H3 s3 => ⟨_, rfl, ?_⟩⟩
      have s23 := s2.trans s3
      cases c2 : within u 20 with
      | false =>
        refine iteT ?_
        exact wrong H3 s23 fun z => by rw [c2] at z; cases z.2
      | true =>
        refine iteF ?_
        have e := field_right (s := ⟨k, l⟩) c1 c2
        refine ⟨_, rfl, pl, u, rfl, ipl.same s23, ⟨by omega, by omega, within_bd c2⟩, fun H4 s4 => ⟨_, rfl, ?_⟩⟩
        have s24 := s23.trans s4
        cases c3 : Nf01.prime u with
        | false =>
          refine iteT ?_
          rw [if_pos c3] at e
          refine ⟨_, rfl, fun H' v s1 nv iv => A1.fin D (by show (Nf02.step ⟨k, l⟩ (.field u)).1 = _; rw [e]) (s24.trans s1) (s24.free nv) ?_⟩
          show IA _ v (Nf02Neutral.out (Nf02.step ⟨k, l⟩ (.field u)).2)
          rw [e]
          exact iv
        | true =>
          refine iteF ?_
          rw [if_neg (by rw [c3]; simp)] at e
          have A4 := A1.same s24
          obtain ⟨dh, eh⟩ := A4.hold.at_
          have ip4 := ipl.same s24
          have ph : pl ≠ h := ne_of ip4 eh (by intro z; cases z)
          refine ⟨_, rfl, h, dh, _, rfl, eh, ho_lk (by decide +kernel) (by decide +kernel) ka la, _, rfl, h, pl, ka, la, u, rfl, ⟨dh, eh⟩, ip4, ring_of (by omega) (by omega) (within_bd c2) c3, ph, fun H5 la' S5 nl st => ?_⟩
          refine ⟨(by show 1 ≤ sizeLine; decide), fun v nv => ?_⟩
          have s6 := same_upd (o := .lst [.int 0]) nv
          obtain ⟨dr4, er4⟩ := A4.rd.at_
          have n1 : r ≠ h := fun q => by
            rw [q, eh] at er4
            exact names_ne (Option.some.inj er4)
          have nv4 : H4 v = none := by
            cases q : H4 v with
            | none => rfl
            | some o =>
              by_cases g : v = h
              · obtain ⟨d5, e5⟩ := S5.at_
                rw [g, e5] at nv; cases nv
              · rw [st _ _ q (by simpa using g)] at nv; cases nv
          refine D _ v pl la' [] ?_ ((A4.rd.stay st (by simpa using n1) (noFrz_one eh (by intro o u z; cases z))).stay (bs := []) (Same.stay s6) (by simp) noFrz_nil) ?_ (A4.free nv4) ((A4.st.trans (st.mono fun b hb => by rw [List.mem_singleton.mp hb]; simp)).trans (Same.stay s6)) fun b hb => ?_
          · show Hold CH _ h pl la' [] (Nf02.step ⟨k, l⟩ (.field u)).1.k (Nf02.step ⟨k, l⟩ (.field u)).1.l
            rw [e]
            exact S5.same s6
          · show IA _ v (Nf02Neutral.out (Nf02.step ⟨k, l⟩ (.field u)).2)
            rw [e]
            exact upd_same
          · rcases mem_foot.mp hb with q | q | q | ⟨x, hx, _⟩
            · exact .inl (mem_foot.mpr (.inl q))
            · rw [q]; exact .inr npl
            · rw [q]; exact .inr (A4.free nl)
            · simp at hx
    · rw [decide_eq_false c1]
      refine iteT ?_
      refine iteT ?_
      exact wrong _ s2 fun z => c1 z.1
end
end Hnd
set_option Elab.async false
set_option linter.all false
set_option maxRecDepth 100000
set_option maxHeartbeats 2000000
/-! answer_ideal, answer_all_of_norm. -/
namespace Hnd
open PySem PySem.Spec PyProof.Rows L2
open Idl hiding Sp F R E Top mul_ok
open Nf02 (Vec)
abbrev sAllA : Stmt := top 76
section
variable {P : Program} {w : World} {K : PySem.W.Frag} {mg : Str → Option Value} {base : Heap} {CH CR : Addr}
/-! ### ideal -/
abbrev nIdealA : List Str := ["holding", "reader", "places", "width", "numbers", "start"]
theorem scIdealA : FnScope nIdealA pAns (defScope sIdealA) := ⟨rfl, rfl, rfl, by decide +kernel, rfl, by decide +kernel, by decide +kernel⟩
theorem inV_wide (n m : Nat) : inV (.int (n : Int)) [.int (m : Int), .int (2 * (m : Int)), .int (3 * (m : Int))] = decide (n = m ∨ n = 2 * m ∨ n = 3 * m) := by
  show (decide ((m : Int) = (n : Int)) || (decide ((2 * (m : Int) : Int) = (n : Int)) || (decide ((3 * (m : Int) : Int) = (n : Int)) || false))) = _
  rw [Bool.eq_iff_iff]
  simp
  omega
theorem rg_step {n q : Nat} (h2 : 2 ≤ n) (h4 : n ≤ 4) (hq1 : 1 ≤ q) (hq3 : q ≤ 3) : RgC 0 ((q * n : Nat) : Int) (n : Int) q := by
  have hn : n = 2 ∨ n = 3 ∨ n = 4 := by omega
  have hq : q = 1 ∨ q = 2 ∨ q = 3 := by omega
  rcases hn with rfl | rfl | rfl <;> rcases hq with rfl | rfl | rfl <;> exact ⟨by decide, by decide, by decide +kernel, by decide +kernel⟩
theorem putA_k (k : Vec) (l : List (List Vec)) (rows : List Vec) : (putA k l rows).1.k = k := by
  unfold putA Nf02.State.put
  split
  · rfl
  · split <;> rfl
theorem ok_idealA (D : Df K mg "answer_ideal" sIdealA pAns) (B : Base P w K mg base CH CR) : Ok P w K mg base 44 "answer_ideal" pAns (spList K CH CR fun s l => Nf02.step s (.ideal l)) := D.ok fun f fd F => by
  refine F.ok scIdealA (fun vs H Q E h => ?_) (fun cdv A outer s H vs Q E hr h => ?_)
  · obtain ⟨h, ka, la, xs, k, l, r, a, ns, pos, m, rfl, _⟩ := h
    rfl
  · obtain ⟨h, ka, la, xs, k, l, r, a, ns, pos, m, rfl, A0, hm, hle, h100, D⟩ := h
    refine ⟨_, pss_cons (ps_set (i := 2) scIdealA.nd rfl (.inr rfl) (pe_m0 B.mList B.TR.cl hr (by decide) (pv 1)))
      (pss_cons (ps_set (i := 3) scIdealA.nd rfl (.inr rfl) (pe_callB call_len_seq (by rfl) B.len PySem.boot_len (pa_cons (pe_fld (pv 0) rfl) pa_nil)))
      (pss_cons (ps_if (pw_or (pt_cmpR op_notIn_seq (pe_callB call_len_seq (by rfl) B.len PySem.boot_len (pa_cons (pv 2) pa_nil)) (pe_tup (pa_cons (pv 3) (pa_cons (pe_op op_mul pe_int (pv 3)) (pa_cons (pe_op op_mul pe_int (pv 3)) pa_nil)))) (by rfl))
          (pw_or1 (pt_not (pt_val (pe_f B.cWithin hr (by decide) (by rfl) (pa_cons (pv 2) (pa_cons (pe_num B.G.place (by rfl)) pa_nil))))))).pt (pss_one (ps_ret (pe_f B.cRef hr (by decide) (by rfl) (pa_cons (pe_num B.G.wrong (by rfl)) pa_nil)))) pss_nil)
      (pss_cons (ps_if (pt_not (pt_val (pe_callB (cr_anyI rfl) (by rfl) B.any (by decide +kernel) (pa_cons (pv 2) pa_nil)))) (pss_one (ps_ret (pe_f B.cRef hr (by decide) (by rfl) (pa_cons (pe_num B.G.allZero (by rfl)) pa_nil)))) pss_nil)
      (pss_cons (ps_setLc (i := 4) (own := [("start", 5)]) (g := gName 5) (tt := tYes) rfl scIdealA.nd rfl rfl (sw_true rfl rfl rfl (by decide +kernel))
          (pi_range3 (by rfl) B.range (pa_cons pe_int (pa_cons (pe_callB call_len_seq (by rfl) B.len PySem.boot_len (pa_cons (pv 2) pa_nil)) (pa_cons (pv 3) pa_nil)))) (blkOk_by (N := nIdealA) (sc := defScope sIdealA) (by decide +kernel))
          (fun _ _ _ _ _ => pg_name (i := 5) scIdealA.nd rfl (.inl rfl)) (fun _ _ _ _ _ => pts_nil)
          (fun _ _ _ _ _ => pe_slice (sl_list_of (K := K) rfl) (pv 2) (po_some (pv 5)) (po_some (pe_op op_add (pv 5) (pv 3)))))
      (pss_one (ps_ret (pe_m B.hKeep B.TH.cl hr (by decide) (pv 0) (pa_cons (pe_f B.cMade hr (by decide) (by rfl) (pa_cons (pe_fld (pv 0) rfl) (pa_cons (pv 4) pa_nil))) pa_nil)))))))), ?_⟩
    obtain ⟨dr, er⟩ := A0.rd.at_
    refine ⟨_, rfl, r, dr, _, rfl, er, rd_lk (by decide +kernel) (by decide +kernel) a pos, r, a, ns, pos, m, rfl, A0.rd.rdr, hm, hle, fun H1 pl R1 b1 npl ipl => ?_⟩
    have A1 := A0.read R1 b1
    obtain ⟨u, hu⟩ : ∃ u, u = (ns.drop (pos + 1)).take m := ⟨_, rfl⟩
    rw [← hu] at D ipl
    have lu : u.length ≤ 100 := by rw [hu, List.length_take]; omega
    obtain ⟨dh, eh⟩ := A1.hold.at_
    have ring := A1.hold.ring
    have h4 := ring.four
    have h2 := ring.two
    have vn := vecs_nums ring.pos u
    refine ⟨_, rfl, h, CH, dh, _, _, rfl, eh, B.TH.cl, B.TH.nK, ho_k ka la, ka, _, rfl, .inl A1.hold.ik.sq, ?_⟩
    rw [List.length_map]
    have wrong : ∀ H3, Same H1 H3 → ¬ ((u.length = k.length ∨ u.length = 2 * k.length ∨ u.length = 3 * k.length) ∧ within u 100 = true) → ∃ z : Int, [V.int 1] = [V.int z] ∧ ∀ H' v, Same H3 H' → H3 v = none → IA H' v [-z] → Q (.ref v) H' := fun H3 s3 cc => by
      rw [if_neg cc] at vn
      have e : Nf02.step ⟨k, l⟩ (.ideal u) = (⟨k, l⟩, Nf02.ok (-1)) := by
        show (match Nf02.vecs k.length u with | none => _ | some vs => _) = _
        rw [vn]
      refine ⟨_, rfl, fun H' v s1 nv iv => A1.fin D (by show (Nf02.step ⟨k, l⟩ (.ideal u)).1 = _; rw [e]) (s3.trans s1) (s3.free nv) ?_⟩
      show IA _ v (Nf02Neutral.out (Nf02.step ⟨k, l⟩ (.ideal u)).2)
      rw [e]
      exact iv
    refine ⟨_, rfl, pl, _, rfl, .inl ipl.sq, _, rfl, _, rfl, _, _, rfl, rfl, .inl ⟨by decide, by decide⟩, _, rfl, _, _, rfl, rfl, .inl ⟨by decide, by decide⟩, (by show 3 ≤ sizeLine; decide), fun t nt => ?_⟩
    have s2 := same_upd (o := .tup [.int (k.length : Int), .int (2 * (k.length : Int)), .int (3 * (k.length : Int))]) nt
    refine ⟨t, _, rfl, .inr (SqT.of upd_same), rfl, rfl, _, rfl, ?_⟩
    rw [List.length_map]
    show if (!inV (.int (u.length : Int)) [.int (k.length : Int), .int (2 * (k.length : Int)), .int (3 * (k.length : Int))]) = true then _ else _
    rw [inV_wide]
    by_cases c1 : u.length = k.length ∨ u.length = 2 * k.length ∨ u.length = 3 * k.length
    · rw [decide_eq_true c1]
      refine iteF ?_
      refine ⟨_, rfl, pl, u, 100, rfl, ipl.same s2, by omega, fun H3 s3 => ⟨_, rfl, ?_⟩⟩
      have s23 := s2.trans s3
      cases c2 : within u 100 with
      | false =>
        refine iteT ?_
        exact wrong H3 s23 fun z => by rw [c2] at z; cases z.2
      | true =>
        refine iteF ?_
        rw [if_pos ⟨c1, c2⟩] at vn
        obtain ⟨q, hq, hq1, hq3⟩ : ∃ q, u.length = q * k.length ∧ 1 ≤ q ∧ q ≤ 3 := by
          rcases c1 with c | c | c
          · exact ⟨1, by omega, by omega, by omega⟩
          · exact ⟨2, c, by omega, by omega⟩
          · exact ⟨3, c, by omega, by omega⟩
        have ed : u.length / k.length = q := by rw [hq]; exact Nat.mul_div_cancel _ ring.pos
        rw [ed] at vn
        have vn' : Nf02.vecs k.length u = some (chunks k.length q u) := vn
        have cz := chunks_zero hq
        have eS : Nf02.step ⟨k, l⟩ (.ideal u) = if (!(u.any (· != 0))) = true then (⟨k, l⟩, Nf02.ok (-3)) else putA k l (Nf02.make k (chunks k.length q u)) := by
          show (match Nf02.vecs k.length u with | none => _ | some vs => _) = _
          rw [vn', ← cz]
          rfl
        refine ⟨_, rfl, pl, u, rfl, (ipl.same s23).sq, _, rfl, ?_⟩
        cases c3 : u.any (· != 0) with
        | false =>
          refine iteT ?_
          rw [c3] at eS
          have e : Nf02.step ⟨k, l⟩ (.ideal u) = (⟨k, l⟩, Nf02.ok (-3)) := eS
          refine ⟨_, rfl, fun H' v s1 nv iv => A1.fin D (by show (Nf02.step ⟨k, l⟩ (.ideal u)).1 = _; rw [e]) (s23.trans s1) (s23.free nv) ?_⟩
          show IA _ v (Nf02Neutral.out (Nf02.step ⟨k, l⟩ (.ideal u)).2)
          rw [e]
          exact iv
        | true =>
          refine iteF ?_
          rw [c3] at eS
          have e : Nf02.step ⟨k, l⟩ (.ideal u) = putA k l (Nf02.make k (chunks k.length q u)) := eS
          have D' : Done K CH CR H h ka la xs r a ns (pos + 1 + m) (putA k l (Nf02.make k (chunks k.length q u))) Q := by rw [← e]; exact D
          have nums := chunks_nums (k := k) hq hq3 c2 c3
          have ip3 := ipl.same s23
          refine ⟨_, rfl, pl, _, rfl, .inl ip3.sq, _, rfl, 0, ((q * k.length : Nat) : Int), (k.length : Int), q, ?_, rg_step h2 h4 hq1 hq3, fun Dd nD => ?_⟩
          · rw [List.length_map, hq]
            try rfl
          · refine lc_it (walk_rangeC (lo := 0) (c := (k.length : Int)) (n := q)) (fun i H' => ∃ es : List Addr, Same H3 H' ∧ RA H' Dd es ((chunks k.length q u).take i) ∧ From H3 [] es) ⟨[], same_upd nD, ⟨upd_same, .nil⟩, fun z hz => by simp at hz⟩ (fun _ _ _ _ => trivial) ?_ ?_
            · rintro i v H4 H5 hi ⟨es, s4, he, fe⟩ ⟨rfl, rfl⟩
              have gk := chunks_get (n := k.length) (l := u) hi
              have li : (i + 1) * k.length ≤ q * k.length := Nat.mul_le_mul_right _ hi
              rw [Nat.add_mul, Nat.one_mul] at li
              have e1 : (0 : Int) + (i : Nat) * (k.length : Int) = ((i * k.length : Nat) : Int) := by rw [Int.zero_add, Int.natCast_mul]
              show gName 5 (V.int ((0 : Int) + (i : Nat) * (k.length : Int))) _ _ _
              rw [e1]
              refine ⟨rfl, yes_ (iteT ?_)⟩
              refine ⟨_, rfl, _, rfl, ((i * k.length : Nat) : Int), rfl, _, rfl, _, rfl, _, _, rfl, rfl, _, rfl, pl, _, rfl, (ip3.same s4).sq, fun c nc => ?_⟩
              have cu : cutV (u.map V.int) (some ((i * k.length : Nat) : Int)) (some (((i * k.length : Nat) : Int) + (k.length : Int))) = ((u.drop (i * k.length)).take k.length).map V.int := by
                have := cut_mid (u.map V.int) (i * k.length) k.length (by rw [List.length_map]; omega) (by rw [List.length_map]; omega)
                rw [List.map_take, List.map_drop, ← this, Int.natCast_add]
              rw [cu]
              have s5 := same_upd (o := .lst (((u.drop (i * k.length)).take k.length).map V.int)) nc
              have he5 := he.same s5
              have Dc : c ≠ Dd := fun q => by
                have := he.at_
                rw [← q, nc] at this; cases this
              have lens := chunks_lens hq
              refine ⟨_, he5.at_, ?_, es ++ [c], same_grow (s4.trans s5) nD, ⟨by rw [upd_same, List.map_append]; rfl, ?_⟩, fun z hz => ?_⟩
              · rw [List.length_map, paired_len he.all, List.length_take]
                exact Nat.lt_of_le_of_lt (Nat.min_le_left _ _) (small1000 (by omega))
              · rw [take_one_more gk]
                refine Paired.snoc (paired_upd he5.at_ he5.all fun x hx => ?_) ?_
                · rw [lens x (List.mem_of_mem_take hx)]; omega
                · unfold IA
                  rw [upd_ne Dc, upd_same]
              · rcases List.mem_append.mp hz with g | g
                · exact fe z g
                · rw [List.mem_singleton.mp g]; exact .inl (s4.free nc)
            · rintro H4 ⟨es, s4, he, fe⟩
              rw [List.take_of_length_le (by rw [len_chunks]; exact Nat.le_refl _)] at he
              have s24 := s23.trans s4
              have A4 := A1.same s24
              obtain ⟨dh4, eh4⟩ := A4.hold.at_
              refine ⟨_, rfl, h, dh4, _, rfl, eh4, ho_lk (by decide +kernel) (by decide +kernel) ka la, _, rfl, h, CH, dh4, _, _, rfl, eh4, B.TH.cl, B.TH.nK, ho_k ka la, _, rfl, ka, Dd, es, k, chunks k.length q u, rfl, A4.hold.ik, he, ring, nums, fun H5 z zs s5 nz hz fz => ?_⟩
              have A5 := A4.same s5
              have mo := make_ok ring nums
              have zl : z ≠ la := fun q => by rw [q, A4.hold.il] at nz; cases nz
              refine ⟨h, z, ka, la, xs, zs, k, l, _, rfl, A5.hold, hz, mo.1, mo.2, zl, fun H6 v xs' S iv nv st fv => ?_⟩
              refine A5.put (xs' := xs') D' ?_ st nv iv fun (b : Addr) hb => ?_
              · rw [putA_k]; exact S
              · rcases fv b hb with g | g | g
                · exact .inl g
                · rw [g]; exact .inr (A4.free nz)
                · rcases fz b g with y | y
                  · exact .inr (A4.free y)
                  · simp at y
    · rw [decide_eq_false c1]
      refine iteT ?_
      refine iteT ?_
      exact wrong _ s2 fun z => c1 z.1
/-! ### all_of_norm -/
abbrev nAllA : List Str := ["holding", "reader", "norm", "ideals", "answer", "rows"]
theorem scAllA : FnScope nAllA pAns (defScope sAllA) := ⟨rfl, rfl, rfl, by decide +kernel, rfl, by decide +kernel, by decide +kernel⟩
theorem flat2_take {rss : List (List Vec)} {i : Nat} {rs : List Vec} (h : rss[i]? = some rs) : (rss.take (i + 1)).flatten.flatten = (rss.take i).flatten.flatten ++ rs.flatten := by
  rw [take_one_more h, List.flatten_append, List.flatten_append]
  simp
theorem flat2_le {c : Nat} : ∀ {rss : List (List Vec)}, (∀ rs ∈ rss, rs.flatten.length ≤ c) → rss.flatten.flatten.length ≤ rss.length * c
  | [], _ => by simp
  | rs :: rss, h => by
    rw [List.flatten_cons, List.flatten_append, List.length_append, List.length_cons, Nat.add_mul, Nat.one_mul]
    have := flat2_le (c := c) (rss := rss) fun y hy => h y (List.mem_cons_of_mem _ hy)
    have := h rs (List.mem_cons_self ..)
    omega
theorem ok_allA (D : Df K mg "answer_all_of_norm" sAllA pAns) (B : Base P w K mg base CH CR) : Ok P w K mg base 46 "answer_all_of_norm" pAns (spOne K CH CR fun s i => Nf02.step s (.ofNorm i)) := D.ok fun f fd F => by
  refine F.ok scAllA (fun vs H Q E h => ?_) (fun cdv A outer s H vs Q E hr h => ?_)
  · obtain ⟨h, ka, la, xs, k, l, r, a, ns, pos, i, rfl, _⟩ := h
    rfl
  · obtain ⟨h, ka, la, xs, k, l, r, a, ns, pos, m, rfl, A0, hi, D⟩ := h
    refine ⟨_, pss_cons (ps_set (i := 2) scAllA.nd rfl (.inl rfl) (pe_m0 B.mNum B.TR.cl hr (by decide) (pv 1)))
      (pss_cons (ps_if (pt_not (pt_chain op_le op_le pe_int (pv 2) (pe_num B.G.listed (by rfl)))) (pss_one (ps_ret (pe_f B.cRef hr (by decide) (by rfl) (pa_cons (pe_num B.G.wrong (by rfl)) pa_nil)))) pss_nil)
      (pss_cons (ps_set (i := 3) scAllA.nd rfl (.inl rfl) (pe_f B.cOfNorm hr (by decide) (by rfl) (pa_cons (pe_fld (pv 0) rfl) (pa_cons (pv 2) pa_nil))))
      (pss_cons (ps_set (i := 4) scAllA.nd rfl (.inl rfl) (pe_lst (pa_cons (pe_callB call_len_seq (by rfl) B.len PySem.boot_len (pa_cons (pv 3) pa_nil)) pa_nil)))
      (pss_cons (ps_for PassesOwn.never rfl (pi_list (pv 3)) (pg_name (i := 5) scAllA.nd rfl (.inl rfl))
        (pss_one (ps_expr (pe_bm PySem.F.plainAttrs_list PySem.F.slot_list_extend PySem.F.type_list_extend mt_extend (pv 4) (pa_cons (pe_f B.cInOne hr (by decide) (by rfl) (pa_cons (pv 5) pa_nil)) pa_nil)))))
      (pss_one (ps_ret (pv 4))))))), ?_⟩
    obtain ⟨dr, er⟩ := A0.rd.at_
    refine ⟨_, rfl, r, dr, _, rfl, er, rd_lk (by decide +kernel) (by decide +kernel) a pos, r, a, ns, pos, (m : Int), rfl, A0.rd.rdr, hi, fun H1 R1 b1 => ?_⟩
    have A1 := A0.read R1 b1
    obtain ⟨dh, eh⟩ := A1.hold.at_
    have ring := A1.hold.ring
    have h4 := ring.four
    have no_ : (m = 0 ∨ 30 < m) → ∃ z : Int, [V.int 1] = [V.int z] ∧ ∀ H' v, Same H1 H' → H1 v = none → IA H' v [-z] → Q (.ref v) H' := fun c => by
      have e : Nf02.step ⟨k, l⟩ (.ofNorm m) = (⟨k, l⟩, Nf02.ok (-1)) := by
        show (_, if m = 0 ∨ 30 < m then _ else _) = _
        rw [if_pos c]
      refine ⟨_, rfl, fun H' v s1 nv iv => A1.fin D (by show (Nf02.step ⟨k, l⟩ (.ofNorm m)).1 = _; rw [e]) s1 nv ?_⟩
      show IA _ v (Nf02Neutral.out (Nf02.step ⟨k, l⟩ (.ofNorm m)).2)
      rw [e]
      exact iv
    refine ⟨_, rfl, _, _, rfl, rfl, _, rfl, ite2 (fun c1 => ?_) (fun c1 => ?_)⟩
    · have m1 : (1 : Int) ≤ (m : Int) := of_decide_eq_true c1
      refine ⟨_, _, rfl, rfl, _, rfl, ?_⟩
      by_cases c2 : m ≤ 30
      · rw [show (decide ((m : Int) ≤ 30)) = true from decide_eq_true (by omega)]
        refine iteF ?_
        have e : Nf02.step ⟨k, l⟩ (.ofNorm m) = (⟨k, l⟩, ⟨((ofNormP k m).length : Nat), (ofNormP k m).flatten.flatten⟩) := by
          show (_, if m = 0 ∨ 30 < m then _ else _) = _
          rw [if_neg (by omega), show Nf02.ofNorm k m = ofNormP k m from ofNorm_eq ring.pos m]
        have many := ofNormP_many (k := k) c2 h4
        have parts : ∀ rs ∈ ofNormP k m, rs.flatten.length ≤ 16 := fun rs hr => flat_rows h4 (ofNormP_part hr)
        have ftot := flat2_le parts
        refine ⟨_, rfl, h, CH, dh, _, _, rfl, eh, B.TH.cl, B.TH.nK, ho_k ka la, _, rfl, ka, k, m, rfl, A1.hold.ik, Coef.of ring, c2, fun H2 t es s2 nt ht => ?_⟩
        refine ⟨_, rfl, t, _, rfl, .inl ht.sq, (by show 1 ≤ sizeLine; decide), fun o no => ?_⟩
        rw [List.length_map, paired_len ht.all]
        have s3 := same_upd (o := .lst [.int ((ofNormP k m).length : Int)]) no
        refine ⟨_, rfl, t, rfl, ⟨_, (ht.same s3).sq⟩, for_list (K := K) (a := t) (xs := es.map V.ref) (fun j σ H' => ∃ z, σ = [some (.ref h), some (.ref r), some (.int (m : Int)), some (.ref t), some (.ref o), z] ∧ Same H2 H' ∧ IA H' o (((ofNormP k m).length : Int) :: ((ofNormP k m).take j).flatten.flatten)) ?_ ?_ ?_ ?_⟩
        · exact ⟨none, rfl, s3, upd_same⟩
        · rintro j σ H' _ ⟨_, _, s4, _⟩
          exact (ht.same s4).sq
        · rintro j x σ H3 hx ⟨z, rfl, s4, io⟩
          obtain ⟨ra, ga, rfl⟩ := get_refs hx
          obtain ⟨rs, gr, ads, hrs⟩ := paired_at' ht.all ga
          have mr : rs ∈ ofNormP k m := List.mem_of_getElem? gr
          have le : ((ofNormP k m).take (j + 1)).flatten.flatten.length ≤ (ofNormP k m).flatten.flatten.length := by
            have e := List.take_append_drop (j + 1) (ofNormP k m)
            have := congrArg (fun z => (List.flatten (List.flatten z)).length) e
            simp only [List.flatten_append, List.length_append] at this
            omega
          rw [flat2_take gr, List.length_append] at le
          have := parts rs mr
          refine ⟨_, rfl, .inl ⟨rfl, _, io.sq⟩, _, rfl, ra, ads, rs, rfl, hrs.same s4, by omega, fun H4 q s5 nq iq => ?_⟩
          have io4 := io.same s5
          refine ⟨o, q, _, _, rfl, rfl, io4, iq, ?_, ?_⟩
          · rw [List.length_map, List.length_map, List.length_cons]
            exact Nat.le_of_lt (smallM (by omega))
          · refine ⟨_, rfl, same_grow (s4.trans s5) no, ?_⟩
            unfold IA
            rw [upd_same, flat2_take gr, ← List.map_append]; rfl
        · rintro σ H3 ⟨z, rfl, s4, io⟩
          rw [List.length_map, paired_len ht.all, List.take_length] at io
          refine ⟨_, rfl, A1.fin D (by show (Nf02.step ⟨k, l⟩ (.ofNorm m)).1 = _; rw [e]) (s2.trans s4) (s2.free no) ?_⟩
          show IA _ o (Nf02Neutral.out (Nf02.step ⟨k, l⟩ (.ofNorm m)).2)
          rw [e]
          exact io
      · rw [show (decide ((m : Int) ≤ 30)) = false from decide_eq_false (by omega)]
        refine iteT ?_
        exact no_ (by omega)
    · have m1 : ¬ (1 : Int) ≤ (m : Int) := fun q => c1 (decide_eq_true q)
      refine ⟨_, rfl, ?_⟩
      refine iteT ?_
      exact no_ (by omega)
end
end Hnd
set_option Elab.async false
set_option linter.all false
set_option maxRecDepth 100000
set_option maxHeartbeats 2000000
/-! answers. -/
namespace Hnd
open PySem PySem.Spec PyProof.Rows L2
open Idl hiding Sp F R E Top mul_ok
open Nf02 (Vec)
open Nf02Neutral (callOf callIn)
abbrev sAnswers : Stmt := top 79
section
variable {P : Program} {w : World} {K : PySem.W.Frag} {mg : Str → Option Value} {base : Heap} {CH CR : Addr}
/-- what a turn wants of what follows it -/
def Next (K : PySem.W.Frag) (CH CR : Addr) (H1 : Hp) (h ka la : Addr) (xs : Ad) (k : Vec) (l : List (List Vec)) (r a : Addr) (ns : List Int) (pos : Nat) (c : List (List Int)) (t : List Int) (Q : VK) : Prop :=
  ∀ (pos' : Nat) (x : Nf02.Call), callOf (word c) = some x → pos < pos' → pos' ≤ ns.length → ns.drop pos' = t → Done K CH CR H1 h ka la xs r a ns pos' (Nf02.step ⟨k, l⟩ x) Q
section
variable {H1 : Hp} {h ka la r a : Addr} {xs : Ad} {k : Vec} {l : List (List Vec)} {ns t rr : List Int} {pos : Nat} {p : Int} {c : List (List Int)} {Q : VK} {E : XK}
theorem turn_zero {mk : Nf02.Call} (A : At K CH CR H1 H1 h ka la xs k l r a ns (pos + 1)) (hd : ns.drop pos = p :: rr) (hc : PyFlat.call PyNf02.shape (p :: rr) = some (c, t)) (good : (callOf (word c)).isSome = true) (N : Next K CH CR H1 h ka la xs k l r a ns pos c t Q)
    (hs : PyNf02.shape p = some (0, 0)) (hw : word [[p]] = [p]) (hi : callIn [p] = some mk) : spZero K CH CR (fun s => Nf02.step s mk) [.ref h, .ref r] H1 Q E := by
  obtain ⟨e1, e2⟩ := call_0 hs hc
  obtain ⟨d1, d2, d3⟩ := drop_cons hd
  rw [e1, hw] at good
  refine ⟨h, ka, la, xs, k, l, r, a, ns, pos + 1, rfl, A, N (pos + 1) mk (by rw [e1, hw]; exact co_zero hi good) (by omega) (by omega) (by rw [e2]; exact d2)⟩
theorem turn_one {mk : Nat → Nf02.Call} (A : At K CH CR H1 H1 h ka la xs k l r a ns (pos + 1)) (hd : ns.drop pos = p :: rr) (hc : PyFlat.call PyNf02.shape (p :: rr) = some (c, t)) (good : (callOf (word c)).isSome = true) (N : Next K CH CR H1 h ka la xs k l r a ns pos c t Q)
    (hs : PyNf02.shape p = some (1, 0)) (hw : ∀ i, word [[p, i]] = [p, i]) (hi : ∀ i, callIn [p, i] = (Nf02Neutral.one [i]).map mk) : spOne K CH CR (fun s i => Nf02.step s (mk i)) [.ref h, .ref r] H1 Q E := by
  obtain ⟨i, e1, e2⟩ := call_1 hs hc
  obtain ⟨d1, d2, d3⟩ := drop_cons hd
  obtain ⟨d4, d5, d6⟩ := drop_cons (d2.trans e1)
  rw [e2, hw] at good
  obtain ⟨n, rfl, hx⟩ := co_one (hi i) good
  exact ⟨h, ka, la, xs, k, l, r, a, ns, pos + 1, n, rfl, A, d4, N (pos + 1 + 1) (mk n) (by rw [e2, hw]; exact hx) (by omega) (by omega) d5⟩
theorem turn_two {mk : Nat → Nat → Nf02.Call} (A : At K CH CR H1 H1 h ka la xs k l r a ns (pos + 1)) (hd : ns.drop pos = p :: rr) (hc : PyFlat.call PyNf02.shape (p :: rr) = some (c, t)) (good : (callOf (word c)).isSome = true) (N : Next K CH CR H1 h ka la xs k l r a ns pos c t Q)
    (hs : PyNf02.shape p = some (2, 0)) (hw : ∀ i j, word [[p, i, j]] = [p, i, j]) (hi : ∀ i j, callIn [p, i, j] = (Nf02Neutral.two [i, j]).map fun x => mk x.1 x.2) : spTwo K CH CR (fun s i j => Nf02.step s (mk i j)) [.ref h, .ref r] H1 Q E := by
  obtain ⟨i, j, e1, e2⟩ := call_2 hs hc
  obtain ⟨d1, d2, d3⟩ := drop_cons hd
  obtain ⟨d4, d5, d6⟩ := drop_cons (d2.trans e1)
  obtain ⟨d7, d8, d9⟩ := drop_cons d5
  rw [e2, hw] at good
  obtain ⟨n, m, rfl, rfl, hx⟩ := co_two (hi i j) good
  exact ⟨h, ka, la, xs, k, l, r, a, ns, pos + 1, n, m, rfl, A, d4, d7, N (pos + 1 + 2) (mk n m) (by rw [e2, hw]; exact hx) (by omega) (by omega) d8⟩
theorem turn_list {mk : List Int → Nf02.Call} {b : Nat} (A : At K CH CR H1 H1 h ka la xs k l r a ns (pos + 1)) (hd : ns.drop pos = p :: rr) (hc : PyFlat.call PyNf02.shape (p :: rr) = some (c, t)) (good : (callOf (word c)).isSome = true) (N : Next K CH CR H1 h ka la xs k l r a ns pos c t Q)
    (hs : PyNf02.shape p = some (0, 1)) (hw : ∀ u, word [[p], u] = p :: u) (hi : ∀ u, callIn (p :: u) = if u.length ≤ b then some (mk u) else none) (hb : b ≤ 100) : spList K CH CR (fun s u => Nf02.step s (mk u)) [.ref h, .ref r] H1 Q E := by
  obtain ⟨m, q, e1, e2, e3, e4⟩ := call_l hs hc
  obtain ⟨d1, d2, d3⟩ := drop_cons hd
  obtain ⟨d4, d5, d6⟩ := drop_cons (d2.trans e1)
  obtain ⟨d7, d8⟩ := drop_more d5 e2 (by omega)
  rw [e3, hw] at good
  obtain ⟨c1, hx⟩ := co_list (hi _) good
  have lt : (q.take m).length = m := by rw [List.length_take]; omega
  refine ⟨h, ka, la, xs, k, l, r, a, ns, pos + 1, m, rfl, A, d4, by omega, by omega, ?_⟩
  have e5 : (ns.drop (pos + 1 + 1)).take m = q.take m := by rw [d5]
  rw [e5]
  exact N (pos + 1 + 1 + m) _ (by rw [e3, hw]; exact hx) (by omega) (by omega) (by rw [d8, e4])
theorem turn_nl {mk : Nat → List Int → Nf02.Call} (A : At K CH CR H1 H1 h ka la xs k l r a ns (pos + 1)) (hd : ns.drop pos = p :: rr) (hc : PyFlat.call PyNf02.shape (p :: rr) = some (c, t)) (good : (callOf (word c)).isSome = true) (N : Next K CH CR H1 h ka la xs k l r a ns pos c t Q)
    (hs : PyNf02.shape p = some (1, 1)) (hw : ∀ i u, word [[p, i], u] = p :: i :: u) (hi : ∀ i u, callIn (p :: i :: u) = (Nf02Neutral.with_ (i :: u)).map fun x => mk x.1 x.2) : spNumList K CH CR (fun s i u => Nf02.step s (mk i u)) [.ref h, .ref r] H1 Q E := by
  obtain ⟨i, m, q, e1, e2, e3, e4⟩ := call_nl hs hc
  obtain ⟨d1, d2, d3⟩ := drop_cons hd
  obtain ⟨d4, d5, d6⟩ := drop_cons (d2.trans e1)
  obtain ⟨d7, d8, d9⟩ := drop_cons d5
  obtain ⟨d10, d11⟩ := drop_more d8 e2 (by omega)
  rw [e3, hw] at good
  obtain ⟨c1, n, rfl, hx⟩ := co_nl (hi _ _) good
  have lt : (q.take m).length = m := by rw [List.length_take]; omega
  refine ⟨h, ka, la, xs, k, l, r, a, ns, pos + 1, n, m, rfl, A, d4, d7, by omega, by omega, ?_⟩
  have e5 : (ns.drop (pos + 1 + 2)).take m = q.take m := by
    have : pos + 1 + 2 = pos + 1 + 1 + 1 := by omega
    rw [this, d8]
  rw [e5]
  exact N (pos + 1 + 2 + m) _ (by rw [e3, hw]; exact hx) (by omega) (by omega) (by rw [e4, ← d11])
end
/-- the answerers, in their order -/
structure Answ (P : Program) (w : World) (K : PySem.W.Frag) (mg : Str → Option Value) (base : Heap) (CH CR : Addr) (tA : Addr) (fs : List Addr) : Prop where
  at_ : mg "ANSWERERS" = some (.ref tA)
  tup : ∀ H, SqT K H tA (fs.map V.ref)
  h0 : ∃ f, fs[0]? = some f ∧ Held P w K mg base 50 f (spList K CH CR fun s u => Nf02.step s (.field u))
  h1 : ∃ f, fs[1]? = some f ∧ Held P w K mg base 50 f (spList K CH CR fun s u => Nf02.step s (.ideal u))
  h2 : ∃ f, fs[2]? = some f ∧ Held P w K mg base 50 f (spTwo K CH CR fun s i j => Nf02.step s (.add i j))
  h3 : ∃ f, fs[3]? = some f ∧ Held P w K mg base 50 f (spTwo K CH CR fun s i j => Nf02.step s (.mul i j))
  h4 : ∃ f, fs[4]? = some f ∧ Held P w K mg base 50 f (spTwo K CH CR fun s i j => Nf02.step s (.common i j))
  h5 : ∃ f, fs[5]? = some f ∧ Held P w K mg base 50 f (spTwo K CH CR fun s i j => Nf02.step s (.by_ i j))
  h6 : ∃ f, fs[6]? = some f ∧ Held P w K mg base 50 f (spOne K CH CR fun s i => Nf02.step s (.told i))
  h7 : ∃ f, fs[7]? = some f ∧ Held P w K mg base 50 f (spOne K CH CR fun s i => Nf02.step s (.norm i))
  h8 : ∃ f, fs[8]? = some f ∧ Held P w K mg base 50 f (spNumList K CH CR fun s i u => Nf02.step s (.has i u))
  h9 : ∃ f, fs[9]? = some f ∧ Held P w K mg base 50 f (spNumList K CH CR fun s i u => Nf02.step s (.made i u))
  h10 : ∃ f, fs[10]? = some f ∧ Held P w K mg base 50 f (spTwo K CH CR fun s i j => Nf02.step s (.holds i j))
  h11 : ∃ f, fs[11]? = some f ∧ Held P w K mg base 50 f (spOne K CH CR fun s i => Nf02.step s (.prime i))
  h12 : ∃ f, fs[12]? = some f ∧ Held P w K mg base 50 f (spOne K CH CR fun s i => Nf02.step s (.ofNorm i))
  h13 : ∃ f, fs[13]? = some f ∧ Held P w K mg base 50 f (spZero K CH CR fun s => Nf02.step s .drop)
theorem turn {tA : Addr} {fs : List Addr} (W : Answ P w K mg base CH CR tA fs) {H1 : Hp} {h ka la r a : Addr} {xs : Ad} {k : Vec} {l : List (List Vec)} {ns t rr : List Int} {pos : Nat} {p : Int} {c : List (List Int)}
    (A : At K CH CR H1 H1 h ka la xs k l r a ns (pos + 1)) (hd : ns.drop pos = p :: rr) (hc : PyFlat.call PyNf02.shape (p :: rr) = some (c, t)) (good : (callOf (word c)).isSome = true) :
    ∃ (i : Nat) (f : Addr) (sp : L2.Sp), p = (i : Int) ∧ fs[i]? = some f ∧ Held P w K mg base 50 f sp ∧ ∀ Q, Next K CH CR H1 h ka la xs k l r a ns pos c t Q → sp [.ref h, .ref r] H1 Q (fun _ _ _ => False) := by
  obtain ⟨x, hx⟩ := call_shape hc
  rcases shape_some hx with rfl | rfl | rfl | rfl | rfl | rfl | rfl | rfl | rfl | rfl | rfl | rfl | rfl | rfl
  · obtain ⟨f, hf, hh⟩ := W.h0
    exact ⟨0, f, _, rfl, hf, hh, fun Q N => turn_list (b := 6) A hd hc good N rfl (fun u => rfl) (fun u => rfl) (by decide)⟩
  · obtain ⟨f, hf, hh⟩ := W.h1
    exact ⟨1, f, _, rfl, hf, hh, fun Q N => turn_list (b := 14) A hd hc good N rfl (fun u => rfl) (fun u => rfl) (by decide)⟩
  · obtain ⟨f, hf, hh⟩ := W.h2
    exact ⟨2, f, _, rfl, hf, hh, fun Q N => turn_two A hd hc good N rfl (fun _ _ => rfl) (fun _ _ => rfl)⟩
  · obtain ⟨f, hf, hh⟩ := W.h3
    exact ⟨3, f, _, rfl, hf, hh, fun Q N => turn_two A hd hc good N rfl (fun _ _ => rfl) (fun _ _ => rfl)⟩
  · obtain ⟨f, hf, hh⟩ := W.h4
    exact ⟨4, f, _, rfl, hf, hh, fun Q N => turn_two A hd hc good N rfl (fun _ _ => rfl) (fun _ _ => rfl)⟩
  · obtain ⟨f, hf, hh⟩ := W.h5
    exact ⟨5, f, _, rfl, hf, hh, fun Q N => turn_two A hd hc good N rfl (fun _ _ => rfl) (fun _ _ => rfl)⟩
  · obtain ⟨f, hf, hh⟩ := W.h6
    exact ⟨6, f, _, rfl, hf, hh, fun Q N => turn_one A hd hc good N rfl (fun _ => rfl) (fun _ => rfl)⟩
  · obtain ⟨f, hf, hh⟩ := W.h7
    exact ⟨7, f, _, rfl, hf, hh, fun Q N => turn_one A hd hc good N rfl (fun _ => rfl) (fun _ => rfl)⟩
  · obtain ⟨f, hf, hh⟩ := W.h8
    exact ⟨8, f, _, rfl, hf, hh, fun Q N => turn_nl A hd hc good N rfl (fun _ _ => rfl) (fun _ _ => rfl)⟩
  · obtain ⟨f, hf, hh⟩ := W.h9
    exact ⟨9, f, _, rfl, hf, hh, fun Q N => turn_nl A hd hc good N rfl (fun _ _ => rfl) (fun _ _ => rfl)⟩
  · obtain ⟨f, hf, hh⟩ := W.h10
    exact ⟨10, f, _, rfl, hf, hh, fun Q N => turn_two A hd hc good N rfl (fun _ _ => rfl) (fun _ _ => rfl)⟩
  · obtain ⟨f, hf, hh⟩ := W.h11
    exact ⟨11, f, _, rfl, hf, hh, fun Q N => turn_one A hd hc good N rfl (fun _ => rfl) (fun _ => rfl)⟩
  · obtain ⟨f, hf, hh⟩ := W.h12
    exact ⟨12, f, _, rfl, hf, hh, fun Q N => turn_one A hd hc good N rfl (fun _ => rfl) (fun _ => rfl)⟩
  · obtain ⟨f, hf, hh⟩ := W.h13
    exact ⟨13, f, _, rfl, hf, hh, fun Q N => turn_zero A hd hc good N rfl rfl rfl⟩
end
end Hnd
set_option Elab.async false
set_option linter.all false
set_option maxRecDepth 100000
set_option maxHeartbeats 2000000
/-! answers. -/
namespace Hnd
open PySem PySem.Spec PyProof.Rows L2
open Idl hiding Sp F R E Top mul_ok
open Nf02 (Vec)
open Nf02Neutral (callOf callIn)
section
variable {P : Program} {w : World} {K : PySem.W.Frag} {mg : Str → Option Value} {base : Heap} {CH CR : Addr}
abbrev nAnswers : List Str := ["calls", "reader", "holding", "told", "answer"]
theorem scAnswers : FnScope nAnswers ["calls"] (defScope sAnswers) := ⟨rfl, rfl, rfl, by decide +kernel, rfl, by decide +kernel, by decide +kernel⟩
def spAnswers (K : PySem.W.Frag) : L2.Sp := fun vs H Q _ => ∃ (a : Addr) (ns : List Int), vs = [.ref a] ∧ Req K H a (ns.map V.int) ∧ PyNf02.answers_asked ns = true ∧
  ∀ (H' : Hp) (p : Addr), H' p = some (.lst ((PyNf02.answers ns).map V.int)) → Q (.ref p) H'
/-- how a new instance is made -/
structure Maker (P : Program) (w : World) (K : PySem.W.Frag) (mg : Str → Option Value) (base : Heap) (C : Addr) (x : Str) (ps : List Str) (sp : L2.Sp) : Prop where
  ex : ∃ f fd, Mk K C f ∧ FnOk P w K mg base CX0 1 f fd ps sp ∧ mg x = some (.ref C) ∧ Binds K fd ps []
theorem pe_mk {X : Cx} {j : Nat} {C : Addr} {x : Str} {ps : List Str} {sp : L2.Sp} {p pos : Pos} {e : Expr} {es : List Expr} {t : L2.TA} (c : Maker X.prog X.w X.K X.mg X.base C x ps sp) (hr : Room j X.A) (hj : 2 ≤ j) (hg : Gl X x) (ha : PA X (e :: es) t)
    (hdb : (x == ("__debug__" : Str)) = false := by decide) (he : starEach (e :: es) X.env = (false, eval e X.env) :: starEach es X.env := by rfl) (hpl : (backTo pos (starEach es X.env)).any (·.1) = false := by rfl) :
    PE X (.Call (.Name x p) (e :: es) [] pos) (tMake C sp [] E0 t) := by
  obtain ⟨f, fd, M, F, hm, b⟩ := c.ex
  exact pe_make M F (hr.mono hj) hg hm b .nil pass0 ha hdb he hpl
theorem pe_mk0 {X : Cx} {j : Nat} {C : Addr} {x : Str} {ps : List Str} {sp : L2.Sp} {p pos : Pos} (c : Maker X.prog X.w X.K X.mg X.base C x ps sp) (hr : Room j X.A) (hj : 2 ≤ j) (hg : Gl X x)
    (hdb : (x == ("__debug__" : Str)) = false := by decide) : PE X (.Call (.Name x p) [] [] pos) (tMake C sp [] E0 tNil) := by
  obtain ⟨f, fd, M, F, hm, b⟩ := c.ex
  exact pe_make0 M F (hr.mono hj) hg hm b .nil pass0 hdb
theorem ok_answers {f : Addr} {fd : FuncData} {tA : Addr} {fs : List Addr} (F : Fun K "answers" "answers" sAnswers f fd) (W : Answ P w K mg base CH CR tA fs) (TR : TxtR K mg CR) (TH : TxtH K mg CH)
    (mR : Maker P w K mg base CR "Reader" ["self", "numbers"] (spRdInit CR)) (mH : Maker P w K mg base CH "Holding" ["self"] (spHoInit CH)) (mEnd : MOk P w K mg base 1 CR "is_at_end" ["self"] (spRdEnd K CR)) (mNum : MOk P w K mg base 1 CR "take_number" ["self"] (spRdNum K CR)) (ml : mg "len" = none) :
    FnOk P w K mg base CX0 51 f fd ["calls"] (spAnswers K) := by
  refine F.ok scAnswers (fun vs H Q E h => ?_) (fun cdv A outer s H vs Q E hr h => ?_)
  · obtain ⟨a, ns, rfl, _⟩ := h
    rfl
  · obtain ⟨a, ns, rfl, fz, asked, kk⟩ := h
    refine ⟨_, pss_cons (ps_set (i := 1) scAnswers.nd rfl (.inl rfl) (pe_mk mR hr (by decide) (by rfl) (pa_cons (pv 0) pa_nil)))
      (pss_cons (ps_set (i := 2) scAnswers.nd rfl (.inl rfl) (pe_mk0 mH hr (by decide) (by rfl)))
      (pss_cons (ps_set (i := 3) scAnswers.nd rfl (.inl rfl) (pe_lst pa_nil))
      (pss_cons (ps_while PassesOwn.never (pt_not (pt_val (pe_m0 mEnd TR.cl hr (by decide) (pv 1))))
        (pss_cons (ps_set (i := 4) scAnswers.nd rfl (.inl rfl) (pe_callEH (k := 50) (pe_ix ix_tup (pe_glob (v := .ref tA) (by rfl) W.at_ rfl) (pe_m0 mNum TR.cl hr (by decide) (pv 1)) (fun _ _ => rfl)) hr (pa_cons (pv 2) (pa_cons (pv 1) pa_nil))))
        (pss_cons (ps_expr (pe_bm PySem.F.plainAttrs_list PySem.F.slot_list_append PySem.F.type_list_append mt_append (pv 3) (pa_cons (pe_callB call_len_seq (by rfl) ml PySem.boot_len (pa_cons (pv 4) pa_nil)) pa_nil)))
        (pss_one (ps_expr (pe_bm PySem.F.plainAttrs_list PySem.F.slot_list_extend PySem.F.type_list_extend mt_extend (pv 3) (pa_cons (pv 4) pa_nil)))))))
      (pss_one (ps_ret (pv 3)))))), ?_⟩
    obtain ⟨raw0, rest0, due, short⟩ := asked_rest asked
    refine ⟨_, rfl, fun r dr nr ndr ner => ⟨r, dr, a, rfl, upd_same, fun H1 at1 b1 => ⟨rfl, ?_⟩⟩⟩
    have fz1 : Req K H1 a (ns.map V.int) := fz.keep fun o u z => by
      have ar : a ≠ r := fun e => by rw [e, nr] at z; cases z
      have adr : a ≠ dr := fun e => by rw [e, ndr] at z; cases z
      exact b1 _ _ (by rw [upd_ne ar, upd_ne adr]; exact z) ar
    refine fun h dh nh ndh neh => ⟨h, dh, rfl, upd_same, fun H2 ka la S0 ft0 b2 => ⟨rfl, ?_⟩⟩
    obtain ⟨dr1, er1⟩ := at1
    have rh : r ≠ h := fun e => by rw [e, nh] at er1; cases er1
    have rdh : r ≠ dh := fun e => by rw [e, ndh] at er1; cases er1
    have fz2 : Req K H2 a (ns.map V.int) := fz1.keep fun o u z => by
      have ah : a ≠ h := fun e => by rw [e, nh] at z; cases z
      have adh : a ≠ dh := fun e => by rw [e, ndh] at z; cases z
      exact b2 _ _ (by rw [upd_ne ah, upd_ne adh]; exact z) ah
    have rd2 : Rd K CR H2 r a ns 0 := ⟨⟨dr1, b2 _ _ (by rw [upd_ne rh, upd_ne rdh]; exact er1) rh⟩, fz2, Nat.zero_le _⟩
    refine ⟨Nat.zero_le _, fun t nt => ?_⟩
    have s3 := same_upd (o := .lst []) nt
    have tf : t ∉ foot h ka la [] := fun m => S0.there m nt
    refine ⟨fun m σ H' => ∃ (pos : Nat) (k : Vec) (l : List (List Vec)) (ka la : Addr) (xs : Ad) (told : List Int) (raw : List (List (List Int))) (y : Option V), m + pos = ns.length ∧ σ = [some (.ref a), some (.ref r), some (.ref h), some (.ref t), y] ∧ Hold CH H' h ka la xs k l ∧ Rd K CR H' r a ns pos ∧ IA H' t told ∧ t ∉ foot h ka la xs ∧ Rest ns pos raw ∧ PyNf02.answers ns = told ++ tells ⟨k, l⟩ raw,
      ⟨ns.length, 0, _, _, ka, la, [], [], raw0, none, rfl, rfl, S0.same s3, rd2.stay (bs := []) (Same.stay s3) (by simp) noFrz_nil, upd_same, tf, rest0, due⟩, ?_⟩
    rintro m σ H4 ⟨pos, k, l, ka, la, xs, told, raw, y, hm, rfl, S, R, it, tf, rest, due⟩
    obtain ⟨dr4, er4⟩ := R.at_
    refine ⟨_, rfl, r, dr4, _, rfl, er4, rd_lk (by decide +kernel) (by decide +kernel) a pos, r, a, ns, pos, rfl, R.rdr, _, rfl, ?_⟩
    by_cases hend : pos = ns.length
    · rw [decide_eq_true hend]
      refine iteF ?_
      have e := rest.nil (by omega)
      rw [e, tells_nil, List.append_nil] at due
      refine ⟨_, rfl, kk H4 t ?_⟩
      rw [due]
      exact it
    · rw [decide_eq_false hend]
      refine iteT ?_
      have hlt : pos < ns.length := by have := R.le; omega
      obtain ⟨p, hp⟩ : ∃ p, p = ns[pos] := ⟨_, rfl⟩
      have hd : ns.drop pos = p :: ns.drop (pos + 1) := by rw [hp]; exact List.drop_eq_getElem_cons hlt
      obtain ⟨c, u, cs, g, eraw, hc, hcs, good, goods⟩ := rest.cons hd
      have hz := (drop_cons hd).1
      refine ⟨fun σ' H' => ∃ m', m' < m ∧ ∃ (pos : Nat) (k : Vec) (l : List (List Vec)) (ka la : Addr) (xs : Ad) (told : List Int) (raw : List (List (List Int))) (y : Option V), m' + pos = ns.length ∧ σ' = [some (.ref a), some (.ref r), some (.ref h), some (.ref t), y] ∧ Hold CH H' h ka la xs k l ∧ Rd K CR H' r a ns pos ∧ IA H' t told ∧ t ∉ foot h ka la xs ∧ Rest ns pos raw ∧ PyNf02.answers ns = told ++ tells ⟨k, l⟩ raw, fun σ' H' h => h, ?_⟩
      refine ⟨_, rfl, r, dr4, _, rfl, er4, rd_lk (by decide +kernel) (by decide +kernel) a pos, r, a, ns, pos, p, rfl, R.rdr, hz, fun H5 R5 b5 => ?_⟩
      have A4 : At K CH CR H4 H4 h ka la xs k l r a ns pos := ⟨S, R, fun b o e _ => e⟩
      have A5' := A4.read R5 b5
      have A5 : At K CH CR H5 H5 h ka la xs k l r a ns (pos + 1) := ⟨A5'.hold, A5'.rd, fun b o e _ => e⟩
      have tr : t ≠ r := ne_of it er4 (by intro z; cases z)
      have it5 : IA H5 t told := b5 _ _ it tr
      obtain ⟨i, fn, sp, ep, hfs, held, T⟩ := turn W A5 hd hc good
      refine ⟨tA, fs.map V.ref, _, _, rfl, rfl, W.tup H5, by rw [ep]; exact refs_at hfs, fn, sp, rfl, held, _, rfl, _, rfl, ?_⟩
      refine T _ ?_
      intro pos' x hx hlt' hle' hdrop H6 v ka' la' xs' S6 R6 iv nv st ft
      have tl : t ∉ [h, r, la] := fun z => by
        simp only [List.mem_cons, List.not_mem_nil, or_false] at z
        rcases z with z | z | z
        · exact tf (mem_foot.mpr (.inl z))
        · exact tr z
        · exact tf (mem_foot.mpr (.inr (.inr (.inl z))))
      have it6 : IA H6 t told := st _ _ it5 tl
      have vt : v ≠ t := fun e => by
        unfold IA at it5
        rw [e, it5] at nv; cases nv
      have tf6 : t ∉ foot h ka' la' xs' := fun z => by
        rcases ft t z with q | q
        · exact tf q
        · unfold IA at it5
          rw [it5] at q; cases q
      have et := tells_cons (s := ⟨k, l⟩) (cs := cs) hx
      rw [← eraw] at et
      have lens := short
      rw [due, et, List.length_append, List.length_append, List.length_cons] at lens
      obtain ⟨ans, hans⟩ : ∃ ans, ans = Nf02Neutral.out (Nf02.step ⟨k, l⟩ x).2 := ⟨_, rfl⟩
      rw [← hans] at lens et iv
      refine ⟨_, rfl, .inl ⟨rfl, _, it6.sq⟩, _, rfl, v, _, rfl, .inl iv.sq, t, _, _, rfl, rfl, it6, ?_, ?_⟩
      · rw [List.length_map]; exact smallM (by omega)
      · refine ⟨_, rfl, .inl ⟨rfl, _, SqL.of upd_same⟩, _, rfl, t, v, _, _, rfl, rfl, upd_same, (by rw [upd_ne vt]; exact iv), ?_, ?_⟩
        · rw [List.length_append, List.length_map, List.length_map]
          exact Nat.le_of_lt (smallM (by show told.length + 1 + ans.length ≤ _; omega))
        · have st7 : Stay [t] H6 (upd (upd H6 t (.lst (told.map V.int ++ [V.int ((ans.map V.int).length : Int)]))) t (.lst (told.map V.int ++ [V.int ((ans.map V.int).length : Int)] ++ ans.map V.int))) :=
            Stay.upd (Stay.upd (fun b o e _ => e) (List.mem_singleton.mpr rfl)) (List.mem_singleton.mpr rfl)
          obtain ⟨dr6, er6⟩ := R6.at_
          have rt : r ≠ t := fun z => tr z.symm
          refine ⟨ns.length - pos', by omega, pos', (Nf02.step ⟨k, l⟩ x).1.k, (Nf02.step ⟨k, l⟩ x).1.l, ka', la', xs', told ++ ((ans.length : Int) :: ans), cs, _, by omega, rfl, S6.stay st7 (fun b hb z => tf6 (List.mem_singleton.mp z ▸ hb)), R6.stay st7 (by simpa using rt) (noFrz_one it6 (by intro o u z; cases z)), ?_, tf6, ⟨⟨g, by rw [hdrop]; exact hcs⟩, goods⟩, ?_⟩
          · unfold IA
            rw [upd_same, List.map_append, List.length_map, List.append_assoc]; rfl
          · rw [due, et, List.append_assoc]
end
end Hnd
set_option Elab.async false
set_option linter.all false
set_option maxRecDepth 100000
set_option maxHeartbeats 4000000
/-! All together. -/
namespace Hnd
open PySem PySem.Spec PyProof.Rows L2
open Idl hiding Sp F R E Top mul_ok
open Nf02 (Vec)
/-- a def that the top has left -/
structure DAt (K : PySem.W.Frag) (x : Str) (st : Stmt) (f : Addr) : Prop where
  n : PySem.W.nsIn K mainGlobals x = some (some (.ref f))
  l : ∃ (oc : Value) (od an : Option Addr) (kV dc pm cd ct : Value) (sl : Array (Option Value)), K.lookup f = some ⟨oc, od, .func (PySem.W.fnOf x x (defArgs st) (defBody st) (defScope st) .none kV dc pm an cd ct), sl⟩ ∧ PySem.W.codeIn K cd x = true
  k : PySem.W.keepIn K (.ref f) = true
theorem dat {K : PySem.W.Frag} {x : Str} {st : Stmt} {f : Addr} {oc : Value} {od an : Option Addr} {kV dc pm cd ct : Value} {sl : Array (Option Value)} (n : PySem.W.nsIn K mainGlobals x = some (some (.ref f)))
    (l : K.lookup f = some ⟨oc, od, .func (PySem.W.fnOf x x (defArgs st) (defBody st) (defScope st) .none kV dc pm an cd ct), sl⟩) (c : PySem.W.codeIn K cd x = true) (k : PySem.W.keepIn K (.ref f) = true) : DAt K x st f := ⟨n, ⟨_, _, _, _, _, _, _, _, _, l, c⟩, k⟩
def DEx (K : PySem.W.Frag) (x : Str) (st : Stmt) : Prop := ∃ f, DAt K x st f
theorem dex {K : PySem.W.Frag} {x : Str} {st : Stmt} {f : Addr} {oc : Value} {od an : Option Addr} {kV dc pm cd ct : Value} {sl : Array (Option Value)} (n : PySem.W.nsIn K mainGlobals x = some (some (.ref f)))
    (l : K.lookup f = some ⟨oc, od, .func (PySem.W.fnOf x x (defArgs st) (defBody st) (defScope st) .none kV dc pm an cd ct), sl⟩) (c : PySem.W.codeIn K cd x = true) (k : PySem.W.keepIn K (.ref f) = true) : DEx K x st := ⟨f, dat n l c k⟩
theorem DAt.fun_ {K : PySem.W.Frag} {x : Str} {st : Stmt} {f : Addr} (D : DAt K x st f) : ∃ fd, Fun K x x st f fd := by
  obtain ⟨oc, od, an, kV, dc, pm, cd, ct, sl, l, c⟩ := D.l
  exact ⟨_, fun_mk l c D.k⟩
/-- how a def's parameters are bound -/
def BindsAs (x qual : Str) (st : Stmt) (ps : List Str) : Prop := ∀ (kV doc pm : Value) (an : Option Addr) (cdv ct : Value) (us : List Value), us.length = ps.length → bindArgs (PySem.W.fnOf x qual (defArgs st) (defBody st) (defScope st) .none kV doc pm an cdv ct) ⟨us, []⟩ = pure (ps.zip us)
theorem DEx.df {K : PySem.W.Frag} {x : Str} {st : Stmt} {ps : List Str} {h : Heap} {mg : Str → Option Value} (D : DEx K x st) (X : K.In h) (G : h.Ns mainGlobals mg) (b : BindsAs x x st ps) : Df K mg x st ps := by
  obtain ⟨f, D⟩ := D
  obtain ⟨fd, F⟩ := D.fun_
  exact ⟨f, fd, F, PySem.W.mg_of X G D.n, F.binds b⟩
theorem DAt.df {K : PySem.W.Frag} {x : Str} {st : Stmt} {f : Addr} {ps : List Str} {h : Heap} {mg : Str → Option Value} (D : DAt K x st f) (X : K.In h) (G : h.Ns mainGlobals mg) (b : BindsAs x x st ps) : Df K mg x st ps := DEx.df ⟨f, D⟩ X G b
/-- a class that the top has left -/
structure CAt (K : PySem.W.Frag) (x : Str) (C : Addr) : Prop where
  n : PySem.W.nsIn K mainGlobals x = some (some (.ref C))
  cl : Cls K C
  mks : PySem.W.makesIn K C = true
  kc : PySem.W.keepIn K (.ref C) = true
theorem cat {K : PySem.W.Frag} {x : Str} {C : Addr} (n : PySem.W.nsIn K mainGlobals x = some (some (.ref C))) (pg : PySem.W.plainGet K C Str.empty = true) (hd : PySem.W.hasDictIn K C = true) (po : PySem.W.plainOver K C = true)
    (sa : PySem.W.findIn K (.ref C) "__setattr__" = some (some (.builtin "object.__setattr__"))) (mk : PySem.W.makesIn K C = true) (kc : PySem.W.keepIn K (.ref C) = true) : CAt K x C := ⟨n, ⟨pg, hd, po, sa⟩, mk, kc⟩
/-- a method -/
structure MAt (K : PySem.W.Frag) (C : Addr) (m qual : Str) (st : Stmt) : Prop where
  ex : ∃ f fd, Fun K m qual st f fd ∧ Meth K C m f
theorem mat {K : PySem.W.Frag} {C : Addr} {m qual : Str} {st : Stmt} {f : Addr} {oc : Value} {od an : Option Addr} {kV dc pm cd ct : Value} {sl : Array (Option Value)} (a : PySem.W.findIn K (.ref C) m = some (some (.ref f))) (i : PySem.W.isFn K (.ref f) = true)
    (l : K.lookup f = some ⟨oc, od, .func (PySem.W.fnOf m qual (defArgs st) (defBody st) (defScope st) .none kV dc pm an cd ct), sl⟩) (c : PySem.W.codeIn K cd qual = true) (k : PySem.W.keepIn K (.ref f) = true) : MAt K C m qual st := ⟨f, _, fun_mk l c k, ⟨a, i, k⟩⟩
theorem MAt.mok {P : Program} {w : World} {K : PySem.W.Frag} {mg : Str → Option Value} {base : Heap} {C : Addr} {m qual : Str} {st : Stmt} {ps : List Str} {k : Nat} {sp : L2.Sp} (M : MAt K C m qual st) (b : BindsAs m qual st ps) (h : ∀ f fd, Fun K m qual st f fd → FnOk P w K mg base CX0 k f fd ps sp) : MOk P w K mg base k C m ps sp := by
  obtain ⟨f, fd, F, hm⟩ := M.ex
  exact ⟨f, fd, h f fd F, hm, F.binds b⟩
theorem MAt.maker {P : Program} {w : World} {K : PySem.W.Frag} {mg : Str → Option Value} {base : Heap} {C : Addr} {x qual : Str} {st : Stmt} {ps : List Str} {sp : L2.Sp} {h : Heap} (M : MAt K C "__init__" qual st) (c : CAt K x C) (X : K.In h) (G : h.Ns mainGlobals mg) (b : BindsAs "__init__" qual st ps)
    (hf : ∀ f fd, Fun K "__init__" qual st f fd → FnOk P w K mg base CX0 1 f fd ps sp) : Maker P w K mg base C x ps sp := by
  obtain ⟨f, fd, F, hm⟩ := M.ex
  exact ⟨f, fd, ⟨c.mks, hm.at_, hm.fn, c.kc⟩, hf f fd F, PySem.W.mg_of X G c.n, F.binds b⟩
theorem noA {K : PySem.W.Frag} {C : Addr} {x : Str} (h : PySem.W.findIn K (.ref C) x = some none) : NoAttr K C x := h
def GAt (K : PySem.W.Frag) (x : Str) (n : Int) : Prop := ∃ t, PySem.W.nsIn K mainGlobals x = some (some (.int n t))
theorem gat {K : PySem.W.Frag} {x : Str} {n : Int} {t : Tok} (h : PySem.W.nsIn K mainGlobals x = some (some (.int n t))) : GAt K x n := ⟨t, h⟩
theorem GAt.gi {K : PySem.W.Frag} {x : Str} {n : Int} {h : Heap} {mg : Str → Option Value} (g : GAt K x n) (X : K.In h) (G : h.Ns mainGlobals mg) : GI mg x n := by
  obtain ⟨t, e⟩ := g
  exact ⟨t, PySem.W.mg_of X G e⟩
/-- the defs -/
structure Defs (K : PySem.W.Frag) : Prop where
  d_minus_times : DEx K "minus_times" sMinus
  d_times_t : DEx K "times_t" sTimesT
  d_shifts_of : DEx K "shifts_of" sShifts
  d_times : DEx K "times" sTimes
  d_cleared_at : DEx K "cleared_at" sCleared
  d_row_and_others : DEx K "row_and_others" sRowOthers
  d_lessened : DEx K "lessened" sLessened
  d_is_sum_of : DEx K "is_sum_of" sIsSum
  d_own_numbers : DEx K "own_numbers" sOwns
  d_numbers_below : DEx K "numbers_below" sBelow
  d_rows_of : DEx K "rows_of" sRowsOf
  d_rows_mapped_into : DEx K "rows_mapped_into" sMapped
  d_norm_of : DEx K "norm_of" sNorm
  d_ideal_made_of : DEx K "ideal_made_of" sMade
  d_sum_of : DEx K "sum_of" sSum
  d_product : DEx K "product" sProduct
  d_common : DEx K "common" sCommon
  d_by : DEx K "by" sBy
  d_has : DEx K "has" sHas
  d_is_made_of : DEx K "is_made_of" sIsMade
  d_holds : DEx K "holds" sHolds
  d_is_prime : DEx K "is_prime" sPrime
  d_refusal : DEx K "refusal" sRefusal
  d_own_numbers_of_norm : DEx K "own_numbers_of_norm" sOwnsOf
  d_rows_for_place : DEx K "rows_for_place" sForPlace
  d_fits_behind : DEx K "fits_behind" sFits
  d_continued : DEx K "continued" sContinued
  d_ideals_with_own : DEx K "ideals_with_own" sWithOwn
  d_ideals_of_norm : DEx K "ideals_of_norm" sOfNorm
  d_value_at : DEx K "value_at" sValue
  d_root_bound : DEx K "root_bound" sBound
  d_has_whole_root : DEx K "has_whole_root" sRoot
  d_parts_into_quadratics : DEx K "parts_into_quadratics" sQuads
  d_can_be_parted : DEx K "can_be_parted" sParted
  d_all_within : DEx K "all_within" sWithin
  d_in_one_list : DEx K "in_one_list" sInOne
  d_yes_or_no : DEx K "yes_or_no" sYesNo
  d_answer_of_two : DEx K "answer_of_two" sOfTwo
  d_answer_of_number : DEx K "answer_of_number" sOfNumber
/-- the constants -/
structure Nums14 (K : PySem.W.Frag) : Prop where
  wrong : GAt K "WRONG_NUMBERS" 1
  noSuch : GAt K "NO_SUCH_IDEAL" 2
  canPart : GAt K "CAN_BE_PARTED" 3
  allZero : GAt K "ALL_ZERO" 3
  noneLeft : GAt K "NONE_LEFT" 4
  noRoom : GAt K "NO_ROOM" 5
  tooGreat : GAt K "NORM_TOO_GREAT" 8
  tooMany : GAt K "TOO_MANY_CLASSES" 9
  most : GAt K "MOST_IDEALS" 8
  greatest : GAt K "GREATEST_NORM" 1000000000000
  coef : GAt K "GREATEST_COEFFICIENT" 20
  place : GAt K "GREATEST_PLACE" 100
  classes : GAt K "MOST_CLASSES" 200
  listed : GAt K "GREATEST_NORM_LISTED" 30
/-- what stays a built-in -/
structure Blts (K : PySem.W.Frag) : Prop where
  b_zip : PySem.W.nsIn K mainGlobals "zip" = some none
  b_len : PySem.W.nsIn K mainGlobals "len" = some none
  b_list : PySem.W.nsIn K mainGlobals "list" = some none
  b_range : PySem.W.nsIn K mainGlobals "range" = some none
  b_reversed : PySem.W.nsIn K mainGlobals "reversed" = some none
  b_enumerate : PySem.W.nsIn K mainGlobals "enumerate" = some none
  b_any : PySem.W.nsIn K mainGlobals "any" = some none
  b_all : PySem.W.nsIn K mainGlobals "all" = some none
  b_max : PySem.W.nsIn K mainGlobals "max" = some none
  b_abs : PySem.W.nsIn K mainGlobals "abs" = some none
/-- the classes -/
structure Clss (K : PySem.W.Frag) (CH CR : Addr) : Prop where
  cH : CAt K "Holding" CH
  cR : CAt K "Reader" CR
  nK : NoAttr K CH "coefficients"
  nL : NoAttr K CH "ideals"
  nN : NoAttr K CR "numbers"
  nP : NoAttr K CR "position"
  mR_init : MAt K CR "__init__" "Reader.__init__" sRdInit
  mR_is_at_end : MAt K CR "is_at_end" "Reader.is_at_end" sRdEnd
  mR_take_number : MAt K CR "take_number" "Reader.take_number" sRdNum
  mR_take_list : MAt K CR "take_list" "Reader.take_list" sRdList
  mH_init : MAt K CH "__init__" "Holding.__init__" sHoInit
  mH_change_ring : MAt K CH "change_ring" "Holding.change_ring" sHoRing
  mH_has_ideal : MAt K CH "has_ideal" "Holding.has_ideal" sHoHas
  mH_keep : MAt K CH "keep" "Holding.keep" sHoKeep
  mH_drop_last : MAt K CH "drop_last" "Holding.drop_last" sHoDrop
/-- the answerers and their tuple -/
structure Tup (K : PySem.W.Frag) (tA f0 f1 f2 f3 f4 f5 f6 f7 f8 f9 f10 f11 f12 f13 : Addr) : Prop where
  n : PySem.W.nsIn K mainGlobals "ANSWERERS" = some (some (.ref tA))
  l : ∃ (od : Option Addr) (nn : Nat) (sl : Array (Option Value)), K.lookup tA = some ⟨.type "tuple", od, .seq (List.toArray [.ref f0, .ref f1, .ref f2, .ref f3, .ref f4, .ref f5, .ref f6, .ref f7, .ref f8, .ref f9, .ref f10, .ref f11, .ref f12, .ref f13]) nn, sl⟩
  a0 : DAt K "answer_ring" sRingA f0
  a1 : DAt K "answer_ideal" sIdealA f1
  a2 : DAt K "answer_sum_of" sSumA f2
  a3 : DAt K "answer_product" sProductA f3
  a4 : DAt K "answer_common" sCommonA f4
  a5 : DAt K "answer_by" sByA f5
  a6 : DAt K "answer_told" sTold f6
  a7 : DAt K "answer_norm" sNormA f7
  a8 : DAt K "answer_has" sHasA f8
  a9 : DAt K "answer_made" sMadeA f9
  a10 : DAt K "answer_holds" sHoldsA f10
  a11 : DAt K "answer_prime" sPrimeA f11
  a12 : DAt K "answer_all_of_norm" sAllA f12
  a13 : DAt K "answer_drop" sDropA f13
theorem tl_mk {K : PySem.W.Frag} {tA f0 f1 f2 f3 f4 f5 f6 f7 f8 f9 f10 f11 f12 f13 : Addr} {od : Option Addr} {its : List Value} {nn : Nat} {sl : Array (Option Value)} (l : K.lookup tA = some ⟨.type "tuple", od, .seq its.toArray nn, sl⟩) (h : its = [.ref f0, .ref f1, .ref f2, .ref f3, .ref f4, .ref f5, .ref f6, .ref f7, .ref f8, .ref f9, .ref f10, .ref f11, .ref f12, .ref f13]) :
    ∃ (od : Option Addr) (nn : Nat) (sl : Array (Option Value)), K.lookup tA = some ⟨.type "tuple", od, .seq (List.toArray [.ref f0, .ref f1, .ref f2, .ref f3, .ref f4, .ref f5, .ref f6, .ref f7, .ref f8, .ref f9, .ref f10, .ref f11, .ref f12, .ref f13]) nn, sl⟩ := by
  subst h
  exact ⟨_, _, _, l⟩
section
variable {P : Program} {w : World} {K : PySem.W.Frag} {mg : Str → Option Value} {base h : Heap} {CH CR : Addr}
/-- the defs' promises -/
structure Proms (P : Program) (w : World) (K : PySem.W.Frag) (mg : Str → Option Value) (base : Heap) : Prop where
  cRef : Ok P w K mg base 1 "refusal" ["reason"] spRefusal
  cWithin : Ok P w K mg base 1 "all_within" ["numbers", "greatest"] spWithin
  cInOne : Ok P w K mg base 1 "in_one_list" ["rows"] spInOne
  cYes : Ok P w K mg base 1 "yes_or_no" ["is_so"] spYesNo
  cNorm : Ok P w K mg base 2 "norm_of" ["rows"] spNorm
  cPart : Ok P w K mg base 3 "can_be_parted" ["coefficients"] spParted
  cMade : Ok P w K mg base 43 "ideal_made_of" pMade spMade
  cHolds : Ok P w K mg base 42 "holds" ["one", "other"] spHolds
  cPrime : Ok P w K mg base 45 "is_prime" ["coefficients", "rows"] spPrime
  cOfNorm : Ok P w K mg base 45 "ideals_of_norm" ["coefficients", "norm"] spOfNorm
  cSum : Ok P w K mg base 44 "sum_of" pTwo (spMake Nf02.add)
  cProduct : Ok P w K mg base 44 "product" pTwo (spMake Nf02.mul)
  cCommon : Ok P w K mg base 44 "common" pTwo (spMake Nf02.common)
  cBy : Ok P w K mg base 44 "by" pTwo (spMake Nf02.by_)
  cHas : Ok P w K mg base 45 "has" pIsSo (spIsSo fun _ a v => Nf02.has a v)
  cIsMade : Ok P w K mg base 45 "is_made_of" pIsSo (spIsSo fun k a v => Nf02.make k [v] == a)
theorem proms (X : K.In h) (G : h.Ns mainGlobals mg) (D : Defs K) (B : Blts K) (hN : base.NoSeer) (hT : P.given.tree = none) : Proms P w K mg base := by
  have b_zip := PySem.W.mg_none_of X G B.b_zip
  have b_len := PySem.W.mg_none_of X G B.b_len
  have b_list := PySem.W.mg_none_of X G B.b_list
  have b_range := PySem.W.mg_none_of X G B.b_range
  have b_reversed := PySem.W.mg_none_of X G B.b_reversed
  have b_enumerate := PySem.W.mg_none_of X G B.b_enumerate
  have b_any := PySem.W.mg_none_of X G B.b_any
  have b_all := PySem.W.mg_none_of X G B.b_all
  have b_max := PySem.W.mg_none_of X G B.b_max
  have b_abs := PySem.W.mg_none_of X G B.b_abs
  have d_minus_times := D.d_minus_times.df (ps := pMinus) X G fun _ _ _ _ _ _ us hl => match us, hl with | [_, _, _], _ => rfl
  have d_times_t := D.d_times_t.df (ps := ["coefficients", "number"]) X G fun _ _ _ _ _ _ us hl => match us, hl with | [_, _], _ => rfl
  have d_shifts_of := D.d_shifts_of.df (ps := ["coefficients", "number"]) X G fun _ _ _ _ _ _ us hl => match us, hl with | [_, _], _ => rfl
  have d_times := D.d_times.df (ps := pTwo) X G fun _ _ _ _ _ _ us hl => match us, hl with | [_, _, _], _ => rfl
  have d_cleared_at := D.d_cleared_at.df (ps := pCleared) X G fun _ _ _ _ _ _ us hl => match us, hl with | [_, _, _], _ => rfl
  have d_row_and_others := D.d_row_and_others.df (ps := pRowOthers) X G fun _ _ _ _ _ _ us hl => match us, hl with | [_, _], _ => rfl
  have d_lessened := D.d_lessened.df (ps := pLessened) X G fun _ _ _ _ _ _ us hl => match us, hl with | [_, _, _], _ => rfl
  have d_is_sum_of := D.d_is_sum_of.df (ps := ["rows", "number"]) X G fun _ _ _ _ _ _ us hl => match us, hl with | [_, _], _ => rfl
  have d_own_numbers := D.d_own_numbers.df (ps := ["rows"]) X G fun _ _ _ _ _ _ us hl => match us, hl with | [_], _ => rfl
  have d_numbers_below := D.d_numbers_below.df (ps := ["limits"]) X G fun _ _ _ _ _ _ us hl => match us, hl with | [_], _ => rfl
  have d_rows_of := D.d_rows_of.df (ps := pRowsOf) X G fun _ _ _ _ _ _ us hl => match us, hl with | [_, _], _ => rfl
  have d_rows_mapped_into := D.d_rows_mapped_into.df (ps := pMapped) X G fun _ _ _ _ _ _ us hl => match us, hl with | [_, _, _], _ => rfl
  have d_norm_of := D.d_norm_of.df (ps := ["rows"]) X G fun _ _ _ _ _ _ us hl => match us, hl with | [_], _ => rfl
  have d_ideal_made_of := D.d_ideal_made_of.df (ps := pMade) X G fun _ _ _ _ _ _ us hl => match us, hl with | [_, _], _ => rfl
  have d_sum_of := D.d_sum_of.df (ps := pTwo) X G fun _ _ _ _ _ _ us hl => match us, hl with | [_, _, _], _ => rfl
  have d_product := D.d_product.df (ps := pTwo) X G fun _ _ _ _ _ _ us hl => match us, hl with | [_, _, _], _ => rfl
  have d_common := D.d_common.df (ps := pTwo) X G fun _ _ _ _ _ _ us hl => match us, hl with | [_, _, _], _ => rfl
  have d_by := D.d_by.df (ps := pTwo) X G fun _ _ _ _ _ _ us hl => match us, hl with | [_, _, _], _ => rfl
  have d_has := D.d_has.df (ps := pIsSo) X G fun _ _ _ _ _ _ us hl => match us, hl with | [_, _, _], _ => rfl
  have d_is_made_of := D.d_is_made_of.df (ps := pIsSo) X G fun _ _ _ _ _ _ us hl => match us, hl with | [_, _, _], _ => rfl
  have d_holds := D.d_holds.df (ps := ["one", "other"]) X G fun _ _ _ _ _ _ us hl => match us, hl with | [_, _], _ => rfl
  have d_is_prime := D.d_is_prime.df (ps := ["coefficients", "rows"]) X G fun _ _ _ _ _ _ us hl => match us, hl with | [_, _], _ => rfl
  have d_refusal := D.d_refusal.df (ps := ["reason"]) X G fun _ _ _ _ _ _ us hl => match us, hl with | [_], _ => rfl
  have d_own_numbers_of_norm := D.d_own_numbers_of_norm.df (ps := pOwnsOf) X G fun _ _ _ _ _ _ us hl => match us, hl with | [_, _, _], _ => rfl
  have d_rows_for_place := D.d_rows_for_place.df (ps := ["own", "place"]) X G fun _ _ _ _ _ _ us hl => match us, hl with | [_, _], _ => rfl
  have d_fits_behind := D.d_fits_behind.df (ps := pFits) X G fun _ _ _ _ _ _ us hl => match us, hl with | [_, _, _], _ => rfl
  have d_continued := D.d_continued.df (ps := pContinued) X G fun _ _ _ _ _ _ us hl => match us, hl with | [_, _, _], _ => rfl
  have d_ideals_with_own := D.d_ideals_with_own.df (ps := ["coefficients", "own"]) X G fun _ _ _ _ _ _ us hl => match us, hl with | [_, _], _ => rfl
  have d_ideals_of_norm := D.d_ideals_of_norm.df (ps := ["coefficients", "norm"]) X G fun _ _ _ _ _ _ us hl => match us, hl with | [_, _], _ => rfl
  have d_value_at := D.d_value_at.df (ps := pValue) X G fun _ _ _ _ _ _ us hl => match us, hl with | [_, _], _ => rfl
  have d_root_bound := D.d_root_bound.df (ps := ["coefficients"]) X G fun _ _ _ _ _ _ us hl => match us, hl with | [_], _ => rfl
  have d_has_whole_root := D.d_has_whole_root.df (ps := ["coefficients"]) X G fun _ _ _ _ _ _ us hl => match us, hl with | [_], _ => rfl
  have d_parts_into_quadratics := D.d_parts_into_quadratics.df (ps := ["coefficients"]) X G fun _ _ _ _ _ _ us hl => match us, hl with | [_], _ => rfl
  have d_can_be_parted := D.d_can_be_parted.df (ps := ["coefficients"]) X G fun _ _ _ _ _ _ us hl => match us, hl with | [_], _ => rfl
  have d_all_within := D.d_all_within.df (ps := ["numbers", "greatest"]) X G fun _ _ _ _ _ _ us hl => match us, hl with | [_, _], _ => rfl
  have d_in_one_list := D.d_in_one_list.df (ps := ["rows"]) X G fun _ _ _ _ _ _ us hl => match us, hl with | [_], _ => rfl
  have d_yes_or_no := D.d_yes_or_no.df (ps := ["is_so"]) X G fun _ _ _ _ _ _ us hl => match us, hl with | [_], _ => rfl
  have d_answer_of_two := D.d_answer_of_two.df (ps := pOfTwo) X G fun _ _ _ _ _ _ us hl => match us, hl with | [_, _, _], _ => rfl
  have d_answer_of_number := D.d_answer_of_number.df (ps := pOfNumber) X G fun _ _ _ _ _ _ us hl => match us, hl with | [_, _, _], _ => rfl
  have c1 : Ok P w K mg base 1 "minus_times" pMinus spMinus := ok_minus d_minus_times b_zip
  have c2 : Ok P w K mg base 2 "times_t" ["coefficients", "number"] spTimesT := ok_timesT d_times_t c1
  have c3 : Ok P w K mg base 3 "shifts_of" ["coefficients", "number"] spShifts := ok_shifts d_shifts_of c2 b_len b_list
  have c4 : Ok P w K mg base 4 "times" pTwo spTimes := ok_times d_times c3 c1 b_len b_zip
  have c5 : Ok P w K mg base 40 "cleared_at" pCleared spCleared := ok_cleared d_cleared_at c1 hN hT
  have c6 : Ok P w K mg base 41 "row_and_others" pRowOthers spRowOthers := ok_rowOthers d_row_and_others c5
  have c7 : Ok P w K mg base 40 "lessened" pLessened spLessened := ok_lessened d_lessened c1 b_range hN hT
  have c8 : Ok P w K mg base 41 "is_sum_of" ["rows", "number"] spIsSum := ok_isSum d_is_sum_of c7 b_len b_any
  have c9 : Ok P w K mg base 1 "own_numbers" ["rows"] spOwns := ok_owns d_own_numbers b_enumerate
  have c10 : Ok P w K mg base 1 "numbers_below" ["limits"] spBelow := ok_below d_numbers_below b_range
  have c11 : Ok P w K mg base 42 "rows_of" pRowsOf spRowsOf := ok_rowsOf d_rows_of c6 c7 b_range b_reversed b_len
  have c12 : Ok P w K mg base 43 "rows_mapped_into" pMapped spMapped := ok_mapped d_rows_mapped_into c11 b_len b_zip
  have c13 : Ok P w K mg base 2 "norm_of" ["rows"] spNorm := ok_norm d_norm_of c9
  have c14 : Ok P w K mg base 43 "ideal_made_of" pMade spMade := ok_made d_ideal_made_of c3 c11 b_len
  have c15 : Ok P w K mg base 44 "sum_of" pTwo spSumG := ok_sumG d_sum_of c11 b_len
  have c22 : Ok P w K mg base 45 "is_prime" ["coefficients", "rows"] spPrime := ok_prime d_is_prime c9 c10 c13 c15 c3 b_len
  have c24 : Ok P w K mg base 5 "own_numbers_of_norm" pOwnsOf (spOwnsOf 5) := ok_ownsOf d_own_numbers_of_norm b_range 5
  have c25 : Ok P w K mg base 2 "rows_for_place" ["own", "place"] spForPlace := ok_forPlace d_rows_for_place c10 b_len
  have c26 : Ok P w K mg base 42 "fits_behind" pFits spFits := ok_fits d_fits_behind c8 c2
  have c27 : Ok P w K mg base 43 "continued" pContinued spContinued := ok_continued d_continued c26
  have c28 : Ok P w K mg base 44 "ideals_with_own" ["coefficients", "own"] spWithOwn := ok_withOwn d_ideals_with_own c25 c27 c8 c2 b_range b_len
  have c30 : Ok P w K mg base 1 "value_at" pValue spValue := ok_value d_value_at b_reversed
  have c31 : Ok P w K mg base 1 "root_bound" ["coefficients"] spBound := ok_bound d_root_bound b_max b_abs
  have c32 : Ok P w K mg base 2 "has_whole_root" ["coefficients"] spRoot := ok_root d_has_whole_root c30 c31 b_range
  have c33 : Ok P w K mg base 2 "parts_into_quadratics" ["coefficients"] spQuads := ok_quads d_parts_into_quadratics c31 b_range b_abs
  exact ⟨ok_refusal d_refusal, ok_within d_all_within b_all b_abs, ok_inOne d_in_one_list, ok_yesNo d_yes_or_no, c13, ok_parted d_can_be_parted c32 c33 b_len, c14, ok_holds d_holds c8 b_all, c22, ok_ofNorm d_ideals_of_norm c24 c28 b_len,
    ok_sum c15, ok_product d_product c4 c11 b_len, ok_common d_common c12, ok_by d_by c3 c4 c12 b_len, ok_has d_has c8, ok_isMade d_is_made_of c14 b_any⟩
theorem base_of (X : K.In h) (G : h.Ns mainGlobals mg) (Pm : Proms P w K mg base) (B : Blts K) (N : Nums14 K) (L : Clss K CH CR) : Base P w K mg base CH CR := by
  have b_len := PySem.W.mg_none_of X G B.b_len
  have TH : TxtH K mg CH := ⟨L.cH.cl, L.nK, L.nL⟩
  have TR : TxtR K mg CR := ⟨L.cR.cl, L.nN, L.nP⟩
  have GG : Consts mg := ⟨N.wrong.gi X G, N.noSuch.gi X G, N.canPart.gi X G, N.allZero.gi X G, N.noneLeft.gi X G, N.noRoom.gi X G, N.tooGreat.gi X G, N.tooMany.gi X G, N.most.gi X G, N.greatest.gi X G, N.coef.gi X G, N.place.gi X G, N.classes.gi X G, N.listed.gi X G⟩
  exact ⟨TH, TR, GG, L.mR_take_number.mok (fun _ _ _ _ _ _ us hl => match us, hl with | [_], _ => rfl) fun f fd F => ok_rdNum F TR,
    L.mR_take_list.mok (fun _ _ _ _ _ _ us hl => match us, hl with | [_], _ => rfl) fun f fd F => ok_rdList F TR,
    L.mH_change_ring.mok (fun _ _ _ _ _ _ us hl => match us, hl with | [_, _], _ => rfl) fun f fd F => ok_hoRing F TH,
    L.mH_has_ideal.mok (fun _ _ _ _ _ _ us hl => match us, hl with | [_, _], _ => rfl) fun f fd F => ok_hoHas F TH b_len,
    L.mH_keep.mok (fun _ _ _ _ _ _ us hl => match us, hl with | [_, _], _ => rfl) fun f fd F => ok_hoKeep F TH GG b_len Pm.cRef Pm.cNorm,
    L.mH_drop_last.mok (fun _ _ _ _ _ _ us hl => match us, hl with | [_], _ => rfl) fun f fd F => ok_hoDrop F TH GG b_len Pm.cRef,
    Pm.cRef, Pm.cWithin, Pm.cInOne, Pm.cYes, Pm.cNorm, Pm.cPart, Pm.cMade, Pm.cHolds, Pm.cPrime, Pm.cOfNorm, b_len, PySem.W.mg_none_of X G B.b_any, PySem.W.mg_none_of X G B.b_range⟩
theorem held_of {x : Str} {st : Stmt} {f : Addr} {ps : List Str} {k : Nat} {sp : L2.Sp} (X : K.In h) (G : h.Ns mainGlobals mg) (D : DAt K x st f) (c : Ok P w K mg base k x ps sp) (hk : k ≤ 50) : Held P w K mg base 50 f sp := by
  obtain ⟨g, fd, F, hm, kp, b⟩ := c.ex
  have e := hm.symm.trans (PySem.W.mg_of X G D.n)
  cases e
  exact ⟨fd, ps, F.mono hk, kp, b⟩
theorem answ_of {tA f0 f1 f2 f3 f4 f5 f6 f7 f8 f9 f10 f11 f12 f13 : Addr} (X : K.In h) (G : h.Ns mainGlobals mg) (T : Tup K tA f0 f1 f2 f3 f4 f5 f6 f7 f8 f9 f10 f11 f12 f13) (D : Defs K) (Pm : Proms P w K mg base) (B : Base P w K mg base CH CR) : Answ P w K mg base CH CR tA [f0, f1, f2, f3, f4, f5, f6, f7, f8, f9, f10, f11, f12, f13] := by
  have two : Ok P w K mg base 45 "answer_of_two" pOfTwo (spOfTwo P w K mg base CH CR) := ok_ofTwo (D.d_answer_of_two.df X G fun _ _ _ _ _ _ us hl => match us, hl with | [_, _, _], _ => rfl) B
  have num : Ok P w K mg base 46 "answer_of_number" pOfNumber (spOfNumber P w K mg base CH CR) := ok_ofNumber (D.d_answer_of_number.df X G fun _ _ _ _ _ _ us hl => match us, hl with | [_, _, _], _ => rfl) B
  have e0 := T.a0.df (ps := pAns) X G fun _ _ _ _ _ _ us hl => match us, hl with | [_, _], _ => rfl
  have e1 := T.a1.df (ps := pAns) X G fun _ _ _ _ _ _ us hl => match us, hl with | [_, _], _ => rfl
  have e2 := T.a2.df (ps := pAns) X G fun _ _ _ _ _ _ us hl => match us, hl with | [_, _], _ => rfl
  have e3 := T.a3.df (ps := pAns) X G fun _ _ _ _ _ _ us hl => match us, hl with | [_, _], _ => rfl
  have e4 := T.a4.df (ps := pAns) X G fun _ _ _ _ _ _ us hl => match us, hl with | [_, _], _ => rfl
  have e5 := T.a5.df (ps := pAns) X G fun _ _ _ _ _ _ us hl => match us, hl with | [_, _], _ => rfl
  have e6 := T.a6.df (ps := pAns) X G fun _ _ _ _ _ _ us hl => match us, hl with | [_, _], _ => rfl
  have e7 := T.a7.df (ps := pAns) X G fun _ _ _ _ _ _ us hl => match us, hl with | [_, _], _ => rfl
  have e8 := T.a8.df (ps := pAns) X G fun _ _ _ _ _ _ us hl => match us, hl with | [_, _], _ => rfl
  have e9 := T.a9.df (ps := pAns) X G fun _ _ _ _ _ _ us hl => match us, hl with | [_, _], _ => rfl
  have e10 := T.a10.df (ps := pAns) X G fun _ _ _ _ _ _ us hl => match us, hl with | [_, _], _ => rfl
  have e11 := T.a11.df (ps := pAns) X G fun _ _ _ _ _ _ us hl => match us, hl with | [_, _], _ => rfl
  have e12 := T.a12.df (ps := pAns) X G fun _ _ _ _ _ _ us hl => match us, hl with | [_, _], _ => rfl
  have e13 := T.a13.df (ps := pAns) X G fun _ _ _ _ _ _ us hl => match us, hl with | [_, _], _ => rfl
  refine ⟨PySem.W.mg_of X G T.n, fun H => ?_, ⟨f0, rfl, held_of X G T.a0 (ok_ringA e0 B) (by decide)⟩, ⟨f1, rfl, held_of X G T.a1 (ok_idealA e1 B) (by decide)⟩, ⟨f2, rfl, held_of X G T.a2 (ok_sumA e2 two Pm.cSum) (by decide)⟩, ⟨f3, rfl, held_of X G T.a3 (ok_productA e3 two Pm.cProduct) (by decide)⟩, ⟨f4, rfl, held_of X G T.a4 (ok_commonA e4 two Pm.cCommon) (by decide)⟩, ⟨f5, rfl, held_of X G T.a5 (ok_byA e5 two Pm.cBy) (by decide)⟩, ⟨f6, rfl, held_of X G T.a6 (ok_told e6 B) (by decide)⟩, ⟨f7, rfl, held_of X G T.a7 (ok_normA e7 B) (by decide)⟩, ⟨f8, rfl, held_of X G T.a8 (ok_hasA e8 num Pm.cHas) (by decide)⟩, ⟨f9, rfl, held_of X G T.a9 (ok_madeA e9 num Pm.cIsMade) (by decide)⟩, ⟨f10, rfl, held_of X G T.a10 (ok_holdsA e10 B) (by decide)⟩, ⟨f11, rfl, held_of X G T.a11 (ok_primeA e11 B) (by decide)⟩, ⟨f12, rfl, held_of X G T.a12 (ok_allA e12 B) (by decide)⟩, ⟨f13, rfl, held_of X G T.a13 (ok_dropA e13 B) (by decide)⟩⟩
  obtain ⟨od, nn, sl, l⟩ := T.l
  refine .inr ⟨_, _, _, l, rfl, rfl, by show 14 ≤ sizeLine; decide, ?_⟩
  exact .cons rfl (.cons rfl (.cons rfl (.cons rfl (.cons rfl (.cons rfl (.cons rfl (.cons rfl (.cons rfl (.cons rfl (.cons rfl (.cons rfl (.cons rfl (.cons rfl (.nil))))))))))))))
theorem all_mk {fa tA f0 f1 f2 f3 f4 f5 f6 f7 f8 f9 f10 f11 f12 f13 : Addr} (X : K.In h) (G : h.Ns mainGlobals mg) (hfa : mg "answers" = some (.ref fa)) (hT : P.given.tree = none) (D : Defs K) (An : DEx K "answers" sAnswers) (B : Blts K) (N : Nums14 K) (L : Clss K CH CR) (T : Tup K tA f0 f1 f2 f3 f4 f5 f6 f7 f8 f9 f10 f11 f12 f13) :
    ∃ fd : FuncData, (∀ (s : Shared) (us : List Value), us.length = (["calls"] : List Str).length → BindsTo s fd ⟨us, []⟩ ((["calls"] : List Str).zip us)) ∧ ∀ g : Heap, K.In g → g.Ns mainGlobals mg → g.NoSeer → FnOk P w K mg g CX0 51 fa fd ["calls"] (spAnswers K) := by
  obtain ⟨f, An⟩ := An
  have e := hfa.symm.trans (PySem.W.mg_of X G An.n)
  cases e
  obtain ⟨oc, od, an, kV, dc, pm, cd, ct, sl, l, c⟩ := An.l
  have F := fun_mk l c An.k
  refine ⟨PySem.W.fnOf "answers" "answers" (defArgs sAnswers) (defBody sAnswers) (defScope sAnswers) .none kV dc pm an cd ct, fun s us hu => match us, hu with | [_], _ => .of_eq rfl, fun g X2 G2 hN => ?_⟩
  have Pm : Proms P w K mg g := proms X G D B hN hT
  have Bs : Base P w K mg g CH CR := base_of X G Pm B N L
  have W := answ_of X G T D Pm Bs
  have b_len := PySem.W.mg_none_of X G B.b_len
  exact ok_answers F W Bs.TR Bs.TH (L.mR_init.maker L.cR X G (fun _ _ _ _ _ _ us hl => match us, hl with | [_, _], _ => rfl) fun f fd F => ok_rdInit F Bs.TR) (L.mH_init.maker L.cH X G (fun _ _ _ _ _ _ us hl => match us, hl with | [_], _ => rfl) fun f fd F => ok_hoInit F Bs.TH)
    (L.mR_is_at_end.mok (fun _ _ _ _ _ _ us hl => match us, hl with | [_], _ => rfl) fun f fd F => ok_rdEnd F Bs.TR b_len) Bs.mNum b_len
end
end Hnd
set_option Elab.async false
set_option linter.all false
open PySem PySem.W PyProof.Rows
set_option maxRecDepth 100000 in
set_option maxHeartbeats 8000000 in
theorem PySem.Challenge.cw_idealrows_s01_answers_holds : PySem.Challenge.rw_idealrows_s01_answers.Holds := by
  w_on; k_headS; (case hw => exact ⟨[.list [.int 13]], by decide +kernel, by decide +kernel⟩)
  k_fillS
  refine Hnd.walk_seer (r := PySem.Challenge.rw_idealrows_s01_answers) (k := 51) (ps := ["calls"]) (sp := Hnd.spAnswers) (by decide +kernel) rfl rfl ⟨rfl, by decide, by decide⟩ (fun w h Y => PySem.W.kIn_of Y) ?F ?S
  case F =>
    intro w mg fa h Y KX G hmg
    refine' Hnd.all_mk KX G hmg rfl ?xD ?xA ?xB ?xN ?xL ?xT
    case xD =>
      refine' Hnd.Defs.mk ?d0 ?d1 ?d2 ?d3 ?d4 ?d5 ?d6 ?d7 ?d8 ?d9 ?d10 ?d11 ?d12 ?d13 ?d14 ?d15 ?d16 ?d17 ?d18 ?d19 ?d20 ?d21 ?d22 ?d23 ?d24 ?d25 ?d26 ?d27 ?d28 ?d29 ?d30 ?d31 ?d32 ?d33 ?d34 ?d35 ?d36 ?d37 ?d38
      (case d0 => refine' Hnd.dex ?n ?l ?c ?k; (case n => k_is); (case l => k_is); (case c => k_is); (case k => k_is))
      (case d1 => refine' Hnd.dex ?n ?l ?c ?k; (case n => k_is); (case l => k_is); (case c => k_is); (case k => k_is))
      (case d2 => refine' Hnd.dex ?n ?l ?c ?k; (case n => k_is); (case l => k_is); (case c => k_is); (case k => k_is))
      (case d3 => refine' Hnd.dex ?n ?l ?c ?k; (case n => k_is); (case l => k_is); (case c => k_is); (case k => k_is))
      (case d4 => refine' Hnd.dex ?n ?l ?c ?k; (case n => k_is); (case l => k_is); (case c => k_is); (case k => k_is))
      (case d5 => refine' Hnd.dex ?n ?l ?c ?k; (case n => k_is); (case l => k_is); (case c => k_is); (case k => k_is))
      (case d6 => refine' Hnd.dex ?n ?l ?c ?k; (case n => k_is); (case l => k_is); (case c => k_is); (case k => k_is))
      (case d7 => refine' Hnd.dex ?n ?l ?c ?k; (case n => k_is); (case l => k_is); (case c => k_is); (case k => k_is))
      (case d8 => refine' Hnd.dex ?n ?l ?c ?k; (case n => k_is); (case l => k_is); (case c => k_is); (case k => k_is))
      (case d9 => refine' Hnd.dex ?n ?l ?c ?k; (case n => k_is); (case l => k_is); (case c => k_is); (case k => k_is))
      (case d10 => refine' Hnd.dex ?n ?l ?c ?k; (case n => k_is); (case l => k_is); (case c => k_is); (case k => k_is))
      (case d11 => refine' Hnd.dex ?n ?l ?c ?k; (case n => k_is); (case l => k_is); (case c => k_is); (case k => k_is))
      (case d12 => refine' Hnd.dex ?n ?l ?c ?k; (case n => k_is); (case l => k_is); (case c => k_is); (case k => k_is))
      (case d13 => refine' Hnd.dex ?n ?l ?c ?k; (case n => k_is); (case l => k_is); (case c => k_is); (case k => k_is))
      (case d14 => refine' Hnd.dex ?n ?l ?c ?k; (case n => k_is); (case l => k_is); (case c => k_is); (case k => k_is))
      (case d15 => refine' Hnd.dex ?n ?l ?c ?k; (case n => k_is); (case l => k_is); (case c => k_is); (case k => k_is))
      (case d16 => refine' Hnd.dex ?n ?l ?c ?k; (case n => k_is); (case l => k_is); (case c => k_is); (case k => k_is))
      (case d17 => refine' Hnd.dex ?n ?l ?c ?k; (case n => k_is); (case l => k_is); (case c => k_is); (case k => k_is))
      (case d18 => refine' Hnd.dex ?n ?l ?c ?k; (case n => k_is); (case l => k_is); (case c => k_is); (case k => k_is))
      (case d19 => refine' Hnd.dex ?n ?l ?c ?k; (case n => k_is); (case l => k_is); (case c => k_is); (case k => k_is))
      (case d20 => refine' Hnd.dex ?n ?l ?c ?k; (case n => k_is); (case l => k_is); (case c => k_is); (case k => k_is))
      (case d21 => refine' Hnd.dex ?n ?l ?c ?k; (case n => k_is); (case l => k_is); (case c => k_is); (case k => k_is))
      (case d22 => refine' Hnd.dex ?n ?l ?c ?k; (case n => k_is); (case l => k_is); (case c => k_is); (case k => k_is))
      (case d23 => refine' Hnd.dex ?n ?l ?c ?k; (case n => k_is); (case l => k_is); (case c => k_is); (case k => k_is))
      (case d24 => refine' Hnd.dex ?n ?l ?c ?k; (case n => k_is); (case l => k_is); (case c => k_is); (case k => k_is))
      (case d25 => refine' Hnd.dex ?n ?l ?c ?k; (case n => k_is); (case l => k_is); (case c => k_is); (case k => k_is))
      (case d26 => refine' Hnd.dex ?n ?l ?c ?k; (case n => k_is); (case l => k_is); (case c => k_is); (case k => k_is))
      (case d27 => refine' Hnd.dex ?n ?l ?c ?k; (case n => k_is); (case l => k_is); (case c => k_is); (case k => k_is))
      (case d28 => refine' Hnd.dex ?n ?l ?c ?k; (case n => k_is); (case l => k_is); (case c => k_is); (case k => k_is))
      (case d29 => refine' Hnd.dex ?n ?l ?c ?k; (case n => k_is); (case l => k_is); (case c => k_is); (case k => k_is))
      (case d30 => refine' Hnd.dex ?n ?l ?c ?k; (case n => k_is); (case l => k_is); (case c => k_is); (case k => k_is))
      (case d31 => refine' Hnd.dex ?n ?l ?c ?k; (case n => k_is); (case l => k_is); (case c => k_is); (case k => k_is))
      (case d32 => refine' Hnd.dex ?n ?l ?c ?k; (case n => k_is); (case l => k_is); (case c => k_is); (case k => k_is))
      (case d33 => refine' Hnd.dex ?n ?l ?c ?k; (case n => k_is); (case l => k_is); (case c => k_is); (case k => k_is))
      (case d34 => refine' Hnd.dex ?n ?l ?c ?k; (case n => k_is); (case l => k_is); (case c => k_is); (case k => k_is))
      (case d35 => refine' Hnd.dex ?n ?l ?c ?k; (case n => k_is); (case l => k_is); (case c => k_is); (case k => k_is))
      (case d36 => refine' Hnd.dex ?n ?l ?c ?k; (case n => k_is); (case l => k_is); (case c => k_is); (case k => k_is))
      (case d37 => refine' Hnd.dex ?n ?l ?c ?k; (case n => k_is); (case l => k_is); (case c => k_is); (case k => k_is))
      (case d38 => refine' Hnd.dex ?n ?l ?c ?k; (case n => k_is); (case l => k_is); (case c => k_is); (case k => k_is))
    case xA =>
      refine' Hnd.dex ?n ?l ?c ?k; (case n => k_is); (case l => k_is); (case c => k_is); (case k => k_is)
    case xB =>
      refine' Hnd.Blts.mk ?b0 ?b1 ?b2 ?b3 ?b4 ?b5 ?b6 ?b7 ?b8 ?b9
      (case b0 => k_is)
      (case b1 => k_is)
      (case b2 => k_is)
      (case b3 => k_is)
      (case b4 => k_is)
      (case b5 => k_is)
      (case b6 => k_is)
      (case b7 => k_is)
      (case b8 => k_is)
      (case b9 => k_is)
    case xN =>
      refine' Hnd.Nums14.mk ?cg0 ?cg1 ?cg2 ?cg3 ?cg4 ?cg5 ?cg6 ?cg7 ?cg8 ?cg9 ?cg10 ?cg11 ?cg12 ?cg13
      (case cg0 => refine' Hnd.gat ?n; (case n => k_is))
      (case cg1 => refine' Hnd.gat ?n; (case n => k_is))
      (case cg2 => refine' Hnd.gat ?n; (case n => k_is))
      (case cg3 => refine' Hnd.gat ?n; (case n => k_is))
      (case cg4 => refine' Hnd.gat ?n; (case n => k_is))
      (case cg5 => refine' Hnd.gat ?n; (case n => k_is))
      (case cg6 => refine' Hnd.gat ?n; (case n => k_is))
      (case cg7 => refine' Hnd.gat ?n; (case n => k_is))
      (case cg8 => refine' Hnd.gat ?n; (case n => k_is))
      (case cg9 => refine' Hnd.gat ?n; (case n => k_is))
      (case cg10 => refine' Hnd.gat ?n; (case n => k_is))
      (case cg11 => refine' Hnd.gat ?n; (case n => k_is))
      (case cg12 => refine' Hnd.gat ?n; (case n => k_is))
      (case cg13 => refine' Hnd.gat ?n; (case n => k_is))
    case xL =>
      refine' Hnd.Clss.mk ?cH ?cR ?nK ?nL ?nN ?nP ?m0 ?m1 ?m2 ?m3 ?m4 ?m5 ?m6 ?m7 ?m8
      (case cH => refine' Hnd.cat ?n ?pg ?hd ?po ?sa ?mk ?kc; (case n => k_is); (case pg => k_is); (case hd => k_is); (case po => k_is); (case sa => k_is); (case mk => k_is); (case kc => k_is))
      (case cR => refine' Hnd.cat ?n ?pg ?hd ?po ?sa ?mk ?kc; (case n => k_is); (case pg => k_is); (case hd => k_is); (case po => k_is); (case sa => k_is); (case mk => k_is); (case kc => k_is))
      (case nK => refine' Hnd.noA ?znK; (case znK => k_is))
      (case nL => refine' Hnd.noA ?znL; (case znL => k_is))
      (case nN => refine' Hnd.noA ?znN; (case znN => k_is))
      (case nP => refine' Hnd.noA ?znP; (case znP => k_is))
      (case m0 => refine' Hnd.mat ?a ?i ?l ?c ?k; (case a => k_is); (case i => k_is); (case l => k_is); (case c => k_is); (case k => k_is))
      (case m1 => refine' Hnd.mat ?a ?i ?l ?c ?k; (case a => k_is); (case i => k_is); (case l => k_is); (case c => k_is); (case k => k_is))
      (case m2 => refine' Hnd.mat ?a ?i ?l ?c ?k; (case a => k_is); (case i => k_is); (case l => k_is); (case c => k_is); (case k => k_is))
      (case m3 => refine' Hnd.mat ?a ?i ?l ?c ?k; (case a => k_is); (case i => k_is); (case l => k_is); (case c => k_is); (case k => k_is))
      (case m4 => refine' Hnd.mat ?a ?i ?l ?c ?k; (case a => k_is); (case i => k_is); (case l => k_is); (case c => k_is); (case k => k_is))
      (case m5 => refine' Hnd.mat ?a ?i ?l ?c ?k; (case a => k_is); (case i => k_is); (case l => k_is); (case c => k_is); (case k => k_is))
      (case m6 => refine' Hnd.mat ?a ?i ?l ?c ?k; (case a => k_is); (case i => k_is); (case l => k_is); (case c => k_is); (case k => k_is))
      (case m7 => refine' Hnd.mat ?a ?i ?l ?c ?k; (case a => k_is); (case i => k_is); (case l => k_is); (case c => k_is); (case k => k_is))
      (case m8 => refine' Hnd.mat ?a ?i ?l ?c ?k; (case a => k_is); (case i => k_is); (case l => k_is); (case c => k_is); (case k => k_is))
    case xT =>
      refine' Hnd.Tup.mk ?tn ?tl ?ta0 ?ta1 ?ta2 ?ta3 ?ta4 ?ta5 ?ta6 ?ta7 ?ta8 ?ta9 ?ta10 ?ta11 ?ta12 ?ta13
      (case tn => k_is)
      (case ta0 => refine' Hnd.dat ?n ?l ?c ?k; (case n => k_is); (case l => k_is); (case c => k_is); (case k => k_is))
      (case ta1 => refine' Hnd.dat ?n ?l ?c ?k; (case n => k_is); (case l => k_is); (case c => k_is); (case k => k_is))
      (case ta2 => refine' Hnd.dat ?n ?l ?c ?k; (case n => k_is); (case l => k_is); (case c => k_is); (case k => k_is))
      (case ta3 => refine' Hnd.dat ?n ?l ?c ?k; (case n => k_is); (case l => k_is); (case c => k_is); (case k => k_is))
      (case ta4 => refine' Hnd.dat ?n ?l ?c ?k; (case n => k_is); (case l => k_is); (case c => k_is); (case k => k_is))
      (case ta5 => refine' Hnd.dat ?n ?l ?c ?k; (case n => k_is); (case l => k_is); (case c => k_is); (case k => k_is))
      (case ta6 => refine' Hnd.dat ?n ?l ?c ?k; (case n => k_is); (case l => k_is); (case c => k_is); (case k => k_is))
      (case ta7 => refine' Hnd.dat ?n ?l ?c ?k; (case n => k_is); (case l => k_is); (case c => k_is); (case k => k_is))
      (case ta8 => refine' Hnd.dat ?n ?l ?c ?k; (case n => k_is); (case l => k_is); (case c => k_is); (case k => k_is))
      (case ta9 => refine' Hnd.dat ?n ?l ?c ?k; (case n => k_is); (case l => k_is); (case c => k_is); (case k => k_is))
      (case ta10 => refine' Hnd.dat ?n ?l ?c ?k; (case n => k_is); (case l => k_is); (case c => k_is); (case k => k_is))
      (case ta11 => refine' Hnd.dat ?n ?l ?c ?k; (case n => k_is); (case l => k_is); (case c => k_is); (case k => k_is))
      (case ta12 => refine' Hnd.dat ?n ?l ?c ?k; (case n => k_is); (case l => k_is); (case c => k_is); (case k => k_is))
      (case ta13 => refine' Hnd.dat ?n ?l ?c ?k; (case n => k_is); (case l => k_is); (case c => k_is); (case k => k_is))
      (case tl => refine' Hnd.tl_mk ?tq ?tr; (case tq => k_is); (case tr => rfl))
  case S =>
    intro K H xs a hO hwi hask hx
    cases hx with
    | cons h1 h2 =>
      cases h2
      cases h1 with
      | lst hs ha =>
        have e := L2.ints_dw a.1 _ ha
        subst e
        refine ⟨_, a.1, rfl, ?_, hask, fun H' p hp => .lst (L2.SqL.of hp) (L2.dw_ints _)⟩
        rcases hs with (q | ⟨o, q⟩) | q
        · rcases hO _ with z | ⟨o, u, z⟩
          · rw [q] at z; cases z
          · rw [q] at z; cases z
        · exact .inl ⟨o, q⟩
        · exact .inr q
#print axioms PySem.Challenge.cw_idealrows_s01_answers_holds
